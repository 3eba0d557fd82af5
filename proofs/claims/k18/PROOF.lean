import PyProof.Rows.All
import Wide.All
import OpenK.AllK
import Wide.FinOn
import PyProof.EqAt
import PyProof.EqKinds
import PyProof.TupleCall
import PyProof.DictRoadsH
import PyProof.DictItems
import KE.KIsAll
import KE.KSortKey
import PyProof.EnumFor
import PyProof.EnumMake
import PyProof.EnumStmt
import PyProof.Rows.SeqMore2
import PyProof.Rows.SortPure
import PyProof.Rows.SortRuns
import PyProof.Rows.StrWeight2
import Open.Pieces
import PySem.Challenge.RW_firsthit_k18_whole_free_between
abbrev fu:=@List.getElem?_eq_some_iff
abbrev cQ:=@List.mem_cons_of_mem
abbrev fG:=@List.mem_cons_self
abbrev dM:=@Nat.lt_of_lt_of_le
abbrev dm:=@PySem.Heap.get?_push_of_some
abbrev gA:=@Bool.false_ne_true
abbrev sH:=@Nat.le_of_ble_eq_true
abbrev iy:=@PySem.mem_of_lookup
abbrev dj:=@Bool.and_eq_true
abbrev cg:=@Option.bind_some
abbrev dJ:=@List.length_map
abbrev dU:=@List.size_toArray
abbrev lH:=@List.length_append
abbrev fW:=@List.append_assoc
abbrev jg:=@List.getElem?_map
abbrev uO:=@Int.fmod_nonneg_of_pos
abbrev wY:=@Int.fmod_lt_of_pos
abbrev iw:=@Nat.lt_irrefl
abbrev lZ:=@List.mem_append
abbrev jf:=@List.length_cons
abbrev uN:=@List.map_append
abbrev mZ:=@List.getElem?_append_left
abbrev yS:=@List.getElem?_append_right
abbrev gw:=@PySem.Heap.get?_push_size
abbrev CW:=@Nat.lt_of_le_of_lt
abbrev aO:=@PySem.wpAny_bind
abbrev b7:=@PySem.wpAny_pure
abbrev jO:=@PySem.wpAny_mono
abbrev cG:=@PySem.Heap.lt_size
abbrev bZ:=@Nat.le_refl
abbrev m6:=@List.all_cons
abbrev gG:=@List.getElem?_eq_getElem
abbrev uQ:=@List.length_nil
abbrev wZ:=@List.length_take
abbrev pN:=@Option.map_some
abbrev nZ:=@Bool.or_eq_true
abbrev uE:=@Nat.le_of_lt
abbrev dz:=@Nat.ne_of_lt
abbrev lY:=@List.take_length
abbrev nY:=@List.mem_nil_iff
abbrev lX:=@decide_eq_true_eq
abbrev jF:=@List.lookup_cons
abbrev jq:=@List.map_cons
abbrev uD:=@List.nil_append
abbrev jN:=@List.getElem?_eq_none
def aX{α β:Type _}{f:α→β}{x:Option α}{b:β}:x.map f=some b↔∃a,x=some a∧f a=b:=Option.map_eq_some_iff
def bf{α β:Type _}{f:α→Option β}{x:Option α}{b:β}:x.bind f=some b↔∃a,x=some a∧f a=some b:=Option.bind_eq_some_iff
noncomputable section
noncomputable abbrev FgA:=PySem.W.Frag
set_option Elab.async false
set_option linter.all false
set_option maxRecDepth 100000
set_option maxHeartbeats 0
section
namespace MX
open PySem PySem.Spec PySem.W PyProof.Rows
noncomputable def qI(a:Addr)(o:Obj):Bool:=match o.data with
 |.freed=>false
 |.dict _ _=>true
 |_=>match o.cls with
  |.none=>Nat.beq a 3
  |_=>true
noncomputable def qK:List Obj->Addr->FgA
 |[],_=>[]
 |o::r,a=>bif qI a o then(a,o)::qK r (Nat.succ a) else qK r (Nat.succ a)
noncomputable def gW(h:Heap):FgA:=qK h.objs.toList 0
noncomputable def xM(K:FgA)(x:Str):Option (Arguments×List Stmt×Scope×Bool):=match nsIn K mainGlobals x with
 |some (some (.ref f))=>match K.lookup f with
  |some ⟨_,_,.func ⟨n,q,ps,.stmts b,sc,g,[],.none,_,_,_,_,cd,_,bn⟩,_⟩=>some (ps,b,sc,n==x&&(q==x&&(Nat.beq g mainGlobals&&(Nat.beq bn builtinsNs&&(codeIn K cd x&&keepIn K (.ref f))))))
  |_=>none
 |_=>none
noncomputable def zj(K:FgA)(h:Heap)(x:Str):Option Obj×Bool:=match nsIn K mainGlobals x with
 |some (some (.ref f))=>match K.lookup f with
  |some ⟨_,_,.func F,_⟩=>match F.code with
   |.ref c=>match K.lookup c with
    |some ⟨_,_,.fields vs,_⟩=>match(vs[11]?:Option Value) with
     |some (.ref P)=>(h.get? P,codeHdIn K c P&&(K.lookup P).isNone)
     |_=>(none,false)
    |_=>(none,false)
   |_=>(none,false)
  |_=>(none,false)
 |_=>(none,false)
noncomputable def dA(s:Stmt):Arguments:=match s with
 |.FunctionDef _ a _ _ _ _ _ _ _ _=>a
 |_=>{ posonlyargs:=[],args:=[],vararg:=none,kwonlyargs:=[],kw_defaults:=[],kwarg:=none,defaults:=[] }
noncomputable def dB(s:Stmt):List Stmt:=match s with
 |.FunctionDef _ _ b _ _ _ _ _ _ _=>b
 |_=>[]
noncomputable def dS(s:Stmt):Scope:=match s with
 |.FunctionDef _ _ _ _ _ _ c _ _ _=>c
 |_=>{ kind := .function,names:=[],isGenerator:=false,isCoroutine:=false }
noncomputable def wG(s:Stmt):Pos:=match s with
 |.FunctionDef _ _ _ _ _ _ _ _ _ p=>p
 |_=>⟨0,0,0,0⟩
noncomputable def NT(ds:List (Str×Stmt))(blt:List Str)(s:Shared):List (Option (Arguments×List Stmt×Scope×Bool))×List (Option (Option Value)):=(ds.map λy=>xM (gW s.heap) y.1,blt.map λy=>nsIn (gW s.heap) mainGlobals y)
noncomputable def sO(ds:List (Str×Stmt))(blt:List Str):List (Option (Arguments×List Stmt×Scope×Bool))×List (Option (Option Value)):=(ds.map λy=>some (dA y.2,dB y.2,dS y.2,true),blt.map λ_=>some none)
noncomputable def NQ(ds:List (Str×Stmt))(blt:List Str)(x:Str)(s:Shared):(List (Option (Arguments×List Stmt×Scope×Bool))×List (Option (Option Value)))×Option (Arguments×List Stmt×Scope×Bool)×(Option Obj×Bool):=(NT ds blt s,xM (gW s.heap) x,zj (gW s.heap) s.heap x)
noncomputable def vC(ds:List (Str×Stmt))(blt:List Str)(st:Stmt):(List (Option (Arguments×List Stmt×Scope×Bool))×List (Option (Option Value)))×Option (Arguments×List Stmt×Scope×Bool)×(Option Obj×Bool):=(sO ds blt,some (dA st,dB st,dS st,true),(some (tabObj #[]),true))
noncomputable abbrev tU:List Value:=[.type "ValueError",.type "Exception",.type "BaseException",.type "object"]
noncomputable def wn:Nat->Str
 |0 => "NoRay"
 |1 => "NoShape"
 |2 => "NotClosed"
 |_ => "BadRow"
noncomputable def pH(K:FgA)(D:Addr):Bool :=
 (findIn K (.ref D) "__getattribute__" == some (some (.builtin "BaseException.__getattribute__"))&&(findIn K (.ref D) "__getattr__" == some none&&mroIn K D (.type "BaseException")==some true))&&((clsIn K D).isSome&&(findIn K (.ref D) "__class__" == some (some (.builtin "object.__class__")) &&
  (specialIn K (.builtin "object.__class__") "__get__" == some (some (.builtin "getset_descriptor.__get__"))&&(takesIn K (.builtin "object.__class__")==some true&&mroIn K D (.type "object")==some true))))
noncomputable def cU(K:FgA)(x:Str):Addr:=match nsIn K mainGlobals x with
 |some (some (.ref a))=>a
 |_=>0
noncomputable def lu(K:FgA)(x:Str):Addr:=match nsIn K mainGlobals x with
 |some (some (.ref f))=>match K.lookup f with
  |some ⟨_,_,.func F,_⟩=>match F.code with
   |.ref c=>match K.lookup c with
    |some ⟨_,_,.fields vs,_⟩=>match(vs[11]?:Option Value) with
     |some (.ref P)=>P
     |_=>0
    |_=>0
   |_=>0
  |_=>0
 |_=>0
noncomputable def wF(K:FgA)(i:Nat):Bool:=(pH K (cU K (wn i))&&excIn K (cU K (wn i)) tU "ValueError.__new__")&&(mroIn K (cU K (wn i)) (.ref (cU K "HitError"))==some true &&
 (kitOne K (.ref (cU K (wn i))) (.ref (cU K "HitError"))==some true&&(kitOne K (.ref (cU K (wn i))) (.type "ValueError")==some true &&
  ((List.range 4).all (λj=>kitOne K (.ref (cU K (wn i))) (.ref (cU K (wn j)))==some (decide (i=j)))&&nsIn K mainGlobals (wn i)==some (some (.ref (cU K (wn i))))))))
noncomputable def Ow(K:FgA):Bool:=(List.range 4).all (wF K)&&((nsIn K mainGlobals "HitError" == some (some (.ref (cU K "HitError")))&&excIn K (cU K "HitError") tU "ValueError.__new__")&&(nsIn K mainGlobals "isinstance" == some none&&nsIn K mainGlobals "ValueError" == some none))
noncomputable def oX(K:FgA)(D:Addr):Bool:=findIn K (.ref D) "__str__" == some (some (.builtin "BaseException.__str__"))&&mroIn K D (.type "BaseException")==some true
noncomputable def excB2(K:FgA):Bool:=Ow K&&(List.range 4).all λi=>keepIn K (.ref (cU K (wn i)))&&oX K (cU K (wn i))
noncomputable def obsX(xb:FgA->Bool)(ds:List (Str×Stmt))(blt:List Str)(x:Str)(s:Shared):((List (Option (Arguments×List Stmt×Scope×Bool))×List (Option (Option Value)))×Option (Arguments×List Stmt×Scope×Bool)×(Option Obj×Bool))×Bool:=(NQ ds blt x s,xb (gW s.heap))
noncomputable def valX(ds:List (Str×Stmt))(blt:List Str)(st:Stmt):((List (Option (Arguments×List Stmt×Scope×Bool))×List (Option (Option Value)))×Option (Arguments×List Stmt×Scope×Bool)×(Option Obj×Bool))×Bool:=(vC ds blt st,true)
noncomputable def Dv(K:FgA)(C m:Str):Option (Arguments×List Stmt×Scope×Bool):=match findIn K (.ref (cU K C)) m with
 |some (some (.ref f))=>match K.lookup f with
  |some ⟨_,_,.func ⟨n,q,ps,.stmts b,sc,g,[],.none,_,_,_,_,cd,_,bn⟩,_⟩=>some (ps,b,sc,n==m&&(q==C ++ "." ++ m&&(Nat.beq g mainGlobals&&(Nat.beq bn builtinsNs&&(codeIn K cd (C ++ "." ++ m)&&(keepIn K (.ref f)&&isFn K (.ref f)))))))
  |_=>none
 |_=>none
noncomputable def sE(K:FgA)(C:Str)(fs:List Str):Bool:=(plainGet K (cU K C) Str.empty&&(hasDictIn K (cU K C)&&(plainOver K (cU K C)&&findIn K (.ref (cU K C)) "__setattr__" == some (some (.builtin "object.__setattr__"))))) &&
 ((makesIn K (cU K C)&&(keepIn K (.ref (cU K C))&&nsIn K mainGlobals C==some (some (.ref (cU K C)))))&&fs.all λf=>findIn K (.ref (cU K C)) f==some none)
noncomputable def vI(K:FgA)(x y:Str):Bool:=match nsIn K mainGlobals x with
 |some (some (.str z _))=>z==y
 |_=>false
noncomputable def GK(os:List Obj)(cd:Value)(x:Str):Bool:=match cd with
 |.ref c=>(match os[c]? with
  |some o=>(match o.data with
   |.fields vs=>(match o.cls with
    |.none=>false
    |_=>(match vs.toList with | _ :: .str n _::_=>n==x | _=>false))
   |_=>false)
  |none=>false)
 |_=>false
noncomputable def Hg(K:FgA)(os:List Obj)(x:Str):Option (Arguments×List Stmt×Scope×Bool):=match nsIn K mainGlobals x with
 |some (some (.ref f))=>match os[f]? with
  |some o=>match o.data with
   |.func ⟨n,q,ps,.stmts b,sc,g,[],.none,_,_,_,_,cd,_,bn⟩=>(match o.cls with
    |.none=>none
    |_=>some (ps,b,sc,n==x&&(q==x&&(Nat.beq g mainGlobals&&(Nat.beq bn builtinsNs&&GK os cd x)))))
   |_=>none
  |none=>none
 |_=>none
noncomputable def qF(ds:List (Str×Stmt))(blt:List Str)(s:Shared):List (Option (Arguments×List Stmt×Scope×Bool))×List (Option (Option Value)):=(ds.map λy=>Hg (gW s.heap) s.heap.objs.toList y.1,blt.map λy=>nsIn (gW s.heap) mainGlobals y)
noncomputable def mV(xb:FgA->Bool)(ms:List (Str×Str×Stmt))(ds:List (Str×Stmt))(blt:List Str)(x:Str)(s:Shared):((List (Option (Arguments×List Stmt×Scope×Bool))×List (Option (Option Value)))×Option (Arguments×List Stmt×Scope×Bool)×(Option Obj×Bool))×(List (Option (Arguments×List Stmt×Scope×Bool))×Bool) :=
 ((qF ds blt s,xM (gW s.heap) x,zj (gW s.heap) s.heap x),(ms.map λy=>Dv (gW s.heap) y.1 y.2.1,xb (gW s.heap)))
noncomputable def oR(ms:List (Str×Str×Stmt))(ds:List (Str×Stmt))(blt:List Str)(st:Stmt):((List (Option (Arguments×List Stmt×Scope×Bool))×List (Option (Option Value)))×Option (Arguments×List Stmt×Scope×Bool)×(Option Obj×Bool))×(List (Option (Arguments×List Stmt×Scope×Bool))×Bool) :=
 (vC ds blt st,(ms.map λy=>some (dA y.2.2,dB y.2.2,dS y.2.2,true),true))
noncomputable def vQ(xb:FgA->Bool)(ms:List (Str×Str×Stmt))(x:Str)(s:Shared):(Option (Arguments×List Stmt×Scope×Bool)×(Option Obj×Bool))×(List (Option (Arguments×List Stmt×Scope×Bool))×Bool) :=
 ((xM (gW s.heap) x,zj (gW s.heap) s.heap x),(ms.map λy=>Dv (gW s.heap) y.1 y.2.1,xb (gW s.heap)))
noncomputable def vD(ms:List (Str×Str×Stmt))(st:Stmt):(Option (Arguments×List Stmt×Scope×Bool)×(Option Obj×Bool))×(List (Option (Arguments×List Stmt×Scope×Bool))×Bool) :=
 ((some (dA st,dB st,dS st,true),(some (tabObj #[]),true)),(ms.map λy=>some (dA y.2.2,dB y.2.2,dS y.2.2,true),true))
theorem Bx{p q:Program}{loose:List Str}{xb:FgA->Bool}{ms:List (Str×Str×Stmt)}{ds:List (Str×Stmt)}{blt:List Str}{x:Str}{st:Stmt}{N:Nat}(a:LeftO p q loose (λ_=>true) (λ_=>()) (λ_=>()) N)(b:∀w,(openEnds treeTable p w N).map (qF ds blt)=some (sO ds blt))(c:∀w,(openEnds treeTable p w N).map (vQ xb ms x)=some (vD ms st)):LeftO p q loose (λ_=>true) (mV xb ms ds blt x) (λ_=>oR ms ds blt st) N:=by intro w;obtain⟨s,e,h1⟩:=aX.mp (a w);obtain⟨s2,e2,h2⟩:=aX.mp (b w);obtain⟨s3,e3,h3⟩:=aX.mp (c w);rw[e] at e2 e3;cases e2;cases e3;rw[e];have g1:=(Prod.mk.inj h1).1;have g3:=Prod.mk.inj (Prod.mk.inj h3).1;have g4:=Prod.mk.inj (Prod.mk.inj h3).2;show some (_,mV xb ms ds blt x s)=_;unfold mV oR vC;rw[g1,show qF ds blt s=sO ds blt from h2,g3.1,g3.2,g4.1,g4.2]
theorem Bw{p q:Program}{loose:List Str}{xb:FgA->Bool}{ms:List (Str×Str×Stmt)}{d1 d2:List (Str×Stmt)}{blt:List Str}{x:Str}{st:Stmt}{N:Nat}(a:LeftO p q loose (λ_=>true) (λ_=>()) (λ_=>()) N)(b1:∀w,(openEnds treeTable p w N).map (qF d1 blt)=some (sO d1 blt))(b2:∀w,(openEnds treeTable p w N).map (qF d2 [])=some (sO d2 []))(c:∀w,(openEnds treeTable p w N).map (vQ xb ms x)=some (vD ms st)):LeftO p q loose (λ_=>true) (mV xb ms (d1++d2) blt x) (λ_=>oR ms (d1++d2) blt st) N:=by refine Bx a (λw=>?_) c;obtain⟨s,e,h1⟩:=aX.mp (b1 w);obtain⟨s2,e2,h2⟩:=aX.mp (b2 w);rw[e] at e2;cases e2;rw[e];have g1:=Prod.mk.inj h1;have g2:=Prod.mk.inj h2;show some (qF (d1++d2) blt s)=_;unfold qF sO;rw[uN,uN,g1.1,g2.1,g1.2]
end MX
end
section
namespace MX
open PySem PySem.Spec PySem.W PyProof.Rows
noncomputable def tQ1:List Obj->BT->Nat->Option (BT×Nat)
 |[],T,n=>some (T,n)
 |o::r,T,n=>match((T.ins n o).get n).isSome with
  |true=>tQ1 r (T.ins n o) (n+1)
  |false=>none
theorem tQ2{v:Life}:∀{l:List Obj}{T:BT}{n:Nat}{T':BT}{n':Nat}{a:Array Obj},absHeap T n v=⟨a,v⟩->tQ1 l T n=some (T',n')->absHeap T' n' v=⟨a++l.toArray,v⟩
 |[],T,n,T',n',a,e,h=>by cases h;rw[e];simp
 |o::r,T,n,T',n',a,e,h=>by
  unfold tQ1 at h;split at h
  . rename_i g;have e2:absHeap (T.ins n o) (n+1) v=⟨a.push o,v⟩:=by rw[absHeap_ins g,e];rfl
    rw[tQ2 e2 h];simp
  . cases h
noncomputable def tQ3(p:Program)(w:World)(m:Nat)(z:Option Value):Nat->SharedT->Thread->Option SharedT
 |0,_,_=>none
 |n+1,s,t=>match through t with
  |true=>some s
  |false=>match stepOk m z t with
   |false=>none
   |true=>match stepT (denote treeTable) p w s t with
    |some (s',t')=>tQ3 p w m z n s' t'
    |none=>none
theorem tQ4{p:Program}{w:World}{m:Nat}{z:Option Value}:∀{n:Nat}{s s':SharedT}{t:Thread},tQ3 p w m z n s t=some s'->topRun treeTable p w m z n s.abs t=some s'.abs
 |0,_,_,_,h=>by cases h
 |n+1,s,s',t,h=>by
  unfold tQ3 at h;unfold topRun;cases ht:through t with
  |true=>rw[ht] at h;cases h;rfl
  |false=>
   rw[ht] at h;cases hk:stepOk m z t with
   |false=>rw[hk] at h;cases h
   |true=>
    rw[hk] at h;cases hs:stepT (denote treeTable) p w s t with
    |none=>rw[hs] at h;cases h
    |some r=>obtain⟨s₂,t₂⟩:=r;rw[hs] at h;rw[stepT_spec hs];exact tQ4 h
noncomputable def tQ5(p:Program)(w:World)(N:Nat)(os:OsState):Option SharedT:=let b:=boot_heap w.params;match b.isNs mainGlobals with
 |false=>none
 |true=>(tQ1 b.objs.toList .nil 0).bind λx=>(tQ3 p w b.objs.size (b.nsMap mainGlobals "__annotations__") N ⟨x.1,x.2,b.life,#[],boot_drawn,boot_toks,os⟩ (topStub p)).bind λs=>match staticsOk (importedModules p.main.body) b s.abs.heap&&namesBound p s.abs.heap&&gensDone s.abs&&laidKept b s.abs.heap with
  |true=>some s
  |false=>none
theorem tQ6{p:Program}{w:World}{N:Nat}{α:Type}{look:Shared->α}{a:α}(e:opening p=plainProg p.main.scope.names)(hN:Nat.ble 600 N=true)(f:∀s,fenceModules? p s=some s)(h:∀os,(tQ5 p w N os).map (λs=>look s.abs)=some a):(openEnds treeTable p w N).map look=some a:=by
 obtain⟨⟨hp,gs,d,k,os⟩,e1,e2⟩:=Option.map_eq_some_iff.mp (boot_open e hN f w);obtain⟨rfl,rfl,rfl,rfl⟩:hp=boot_heap w.params∧gs=#[]∧d=boot_drawn∧k=boot_toks:=by simpa using e2
 obtain⟨s,h1,h2⟩:=Option.map_eq_some_iff.mp (h os);unfold tQ5 at h1;dsimp only at h1;split at h1
 . cases h1
 . rename_i hns;obtain⟨⟨T,n⟩,h3,h4⟩:=Option.bind_eq_some_iff.mp h1;obtain⟨s₂,h5,h6⟩:=Option.bind_eq_some_iff.mp h4;split at h6
   . rename_i hst;cases h6;have z:absHeap T n (boot_heap w.params).life=boot_heap w.params:=by have:=tQ2 (v:=(boot_heap w.params).life) (a:=#[]) rfl h3;rw[this];simp
     have r:=tQ4 h5;rw[show SharedT.abs ⟨T,n,(boot_heap w.params).life,#[],boot_drawn,boot_toks,os⟩=⟨boot_heap w.params,#[],boot_drawn,boot_toks,os⟩ by unfold SharedT.abs;dsimp only;rw[z]] at r
     unfold openEnds;rw[e1];show((topFrom treeTable p w N _)).map look=_;unfold topFrom;dsimp only;rw[hns,r];show(match(_:Bool) with|true=>some s.abs|false=>none).map look=_;rw[hst];exact congrArg some h2
   . cases h6
end MX
end
section
namespace MX.K18
open PySem PySem.Spec PySem.W PyProof.Rows MX
noncomputable abbrev PP:Program:=PySem.Challenge.pw_firsthit_k18_whole_free_between
noncomputable abbrev PG:Program:=PySem.Challenge.rw_firsthit_k18_whole_free_between.prog
noncomputable def top(i:Nat):Stmt:=PP.main.body.getD i (.Pass ⟨0,0,0,0⟩)
noncomputable def qm(i j:Nat):Stmt:=match top i with
 |.ClassDef _ _ _ b _ _ _ _ _ _ _=>b.getD j (.Pass ⟨0,0,0,0⟩)
 |_ => .Pass ⟨0,0,0,0⟩
noncomputable def blt:List Str:=["len", "abs", "min", "max", "isinstance", "all", "any", "sum", "sorted", "tuple", "list", "range", "zip", "int", "bool", "str", "enumerate"]
noncomputable def nm(s:Stmt):Str:=match s with
 |.FunctionDef n _ _ _ _ _ _ _ _ _=>n
 |_ => ""
noncomputable def ix1:List Nat:=[45,44,50,46,48,47,49,13,14,36,38,28,29,30,33,51,52,53,54,55,27]
noncomputable def ix2:List Nat:=[15,8,16,6,7,17,11,9,19,10,20,21,22,23,24,25,31,32,56,39,41,57]
noncomputable def GP:List (Str×Stmt):=ix1.map λi=>(nm (top i),top i)
noncomputable def GQ:List (Str×Stmt):=ix2.map λi=>(nm (top i),top i)
noncomputable abbrev defs:List (Str×Stmt):=GP++GQ
noncomputable def ms:List (Str×Str×Stmt):=[("Tree", "__init__",qm 35 0),("Scene", "__init__",qm 42 0),("Scene", "hits",qm 42 6),("Scene", "first",qm 42 7),("Scene", "is_free",qm 42 9)]
noncomputable def xb(K:Frag):Bool:=sE K "Tree" ["box", "number", "halves"]&&sE K "Scene" ["kept", "tree"]
noncomputable def seen:Program:=view PP [57]
noncomputable def loose:List Str:=(["_wall", "HitError", "NoRay", "NoShape", "common_divisor", "lowest_terms", "is_less", "way_between", "dot", "cross", "numbers_at", "box_around", "times_between", "span_in", "meets_box", "edges_of", "meets_along", "meets_segment", "meets_edges", "goes_through", "meets_within_plane", "meets_triangle", "refuse_standing", "are_in_order", "is_shape", "refuse_no_shape", "time_at", "meets", "bounds", "Tree", "widest_place", "tree_over", "tree_about", "numbers_along", "is_sooner", "Scene", "_law_cell", "_law_drawn", "_law_spot", "_law_put", "_law_plain", "_law_shape", "_law_many", "_law_way", "_law_flat", "_law_on", "_law_in_triangle", "_law_holds", "_law_touches"]:List String).map Str.ofString
noncomputable def lawRec:DefRec:=⟨"law",dA (top 57),dB (top 57),dS (top 57),wG (top 57)⟩
theorem tQ7:opening PP=plainProg PP.main.scope.names:=by kernel_rfl
theorem tQ8:∀s,fenceModules? PP s=some s:=by intro s;kernel_rfl
def Bv:LeftO PP seen loose (λ_=>true) (λ_=>()) (λ_=>()) 5568:=λw=>tQ6 tQ7 rfl tQ8 λos=>by kernel_rfl
def vW:∀w,(openEnds treeTable PP w 5568).map (qF GP blt)=some (sO GP blt):=λw=>tQ6 tQ7 rfl tQ8 λos=>by kernel_rfl
def vV:∀w,(openEnds treeTable PP w 5568).map (qF GQ [])=some (sO GQ []):=λw=>tQ6 tQ7 rfl tQ8 λos=>by kernel_rfl
def Bu:∀w,(openEnds treeTable PP w 5568).map (vQ xb ms "tree_over")=some (vD ms (top 37)):=λw=>tQ6 tQ7 rfl tQ8 λos=>by kernel_rfl
abbrev LW:=PySem.Challenge.rw_firsthit_k18_whole_free_between
def p1:LW.wellSaid=true:=by kernel_rfl
def p2:defOf seen LW.name=some (lawRec,[]):=by kernel_rfl
def p3:LW.prog.theDef LW.name=some (lawRec.params,lawRec.body,lawRec.scope):=by kernel_rfl
def p4:kwWritten? lawRec.params.kwonlyargs lawRec.params.kw_defaults=some []:=by kernel_rfl
def p5:(chainsOk seen&&opensWell LW.prog&&(frees LW.row.toRowW&&LW.row.within.isEmpty))=true:=by kernel_rfl
def p6:LW.prog.bare:=⟨rfl,rfl,rfl,rfl,rfl,by decide +kernel⟩
def left:LeftO PP seen loose (λ_=>true) (mV xb ms defs blt "tree_over") (λ_=>oR ms defs blt (top 37)) 5568:=Bw Bv vW vV Bu
end MX.K18
end
section
namespace L2
open PySem PySem.Spec PyProof.Rows
noncomputable abbrev Key:=Sum Int Str
noncomputable def t8:Key->Value->Bool
 |.inl k,v=>Value.isInt k v
 |.inr x,v=>Value.isStrOf x v
noncomputable def N8(w:World):Key->Int
 |.inl k=>hashInt k
 |.inr x=>hashStr w x
theorem qW:∀{k:Key} {v:Value},t8 k v=true->(∃i t,k=Sum.inl i/\v=Value.int i t)\/(∃x t,k=Sum.inr x/\v=Value.str x t)
 |.inl i,v,h=>by obtain⟨t,e⟩:=Value.isInt_shape (k:=i) (v:=v) h;exact .inl ⟨i,t,rfl,e⟩
 |.inr x,v,h=>by obtain⟨t,e⟩:=Value.isStrOf_shape (x:=x) (v:=v) h;exact .inr ⟨x,t,rfl,e⟩
theorem Zu(a b:Int):decide ((Sum.inl a:Key)=Sum.inl b)=(a==b):=by
 by_cases e:a=b
 .subst e;simp
 .have h:¬(Sum.inl a:Key)=Sum.inl b:=λq=>e (Sum.inl.inj q);rw[decide_eq_false h];exact(beq_eq_false_iff_ne.mpr e).symm
theorem YT(a b:Str):decide ((Sum.inr a:Key)=Sum.inr b)=decide (a=b):=by
 by_cases e:a=b
 .subst e;simp
 .have h:¬(Sum.inr a:Key)=Sum.inr b:=λq=>e (Sum.inr.inj q);rw[decide_eq_false h,decide_eq_false e]
def Zv(a:Int)(b:Str):decide ((Sum.inl a:Key)=Sum.inr b)=false:=decide_eq_false (λq=>nomatch q)
def YS(a:Str)(b:Int):decide ((Sum.inr a:Key)=Sum.inl b)=false:=decide_eq_false (λq=>nomatch q)
noncomputable def Hi(prog:Program)(w:World):PySem.KeyKind prog w Key where
 is:=t8
 hash:=N8 w
 inj:=λv a b ha hb=>by
  rcases qW ha with⟨i,t,rfl,rfl⟩|⟨x,t,rfl,rfl⟩
  .rcases qW hb with⟨j,u,rfl,e⟩|⟨y,u,rfl,e⟩
   .injection e with e1 _;rw[e1]
   .exact nomatch e
  .rcases qW hb with⟨j,u,rfl,e⟩|⟨y,u,rfl,e⟩
   .exact nomatch e
   .injection e with e1 _;rw[e1]
 byValue:=λk v h=>by rcases qW h with⟨i,t,rfl,rfl⟩|⟨x,t,rfl,rfl⟩<;>rfl
 pyHash:=λhv h=>by
  rcases qW hv with⟨i,t,rfl,rfl⟩|⟨x,t,rfl,rfl⟩
  .exact wpAny_pyHash_int h
  .exact wpAny_pyHash_str h
 eqBool:=λhu hv h=>by
  rcases qW hu with⟨i,t,rfl,rfl⟩|⟨x,t,rfl,rfl⟩
  .rcases qW hv with⟨j,u,rfl,rfl⟩|⟨y,u,rfl,rfl⟩
   .rw[Zu] at h;exact wpAny_eqBool_int h
   .rw[Zv] at h;exact SeqAt.EqAt.int_str i t y u _ _ _ _ h
  .rcases qW hv with⟨j,u,rfl,rfl⟩|⟨y,u,rfl,rfl⟩
   .rw[YS] at h;exact SeqAt.EqAt.str_int x t j u _ _ _ _ h
   .rw[YT] at h;exact wpAny_eqBool_str h
 «strs»:=λk x t v h=>by
  rcases qW h with⟨i,u,rfl,e⟩|⟨y,u,rfl,e⟩
  .exact nomatch e
  .injection e with e1 _;subst e1;cases v<;>rfl
inductive V where
 |non|bl (b:Bool)|int (i:Int)|str (x:Str)|byt (b:Array UInt8)|flt (b:UInt64)|ref (a:Addr)|ty (n:String)
 deriving DecidableEq
noncomputable def RelV:V->Value->Prop
 |.non,u=>u=Value.none
 |.bl b,u=>u=Value.bool b
 |.int i,u=>∃t,u=Value.int i t
 |.str x,u=>∃t,u=Value.str x t
 |.byt b,u=>∃t,u=Value.bytes b t
 |.flt b,u=>∃t,u=Value.float b t
 |.ref a,u=>u=Value.ref a
 |.ty n,u=>u=Value.type n
noncomputable abbrev Vals:List V->List Value->Prop:=Paired RelV
def Vals.length{xs:List V}{us:List Value}(r:Vals xs us):xs.length=us.length:=Paired.length r
theorem Vals.get:∀{xs:List V} {us:List Value} {i:Nat} {x:V},Vals xs us->xs[i]?=some x->∃u,us[i]?=some u/\RelV x u
 |_,_,_,_,.nil,e=>by simp at e
 |_,_,0,_,.cons r _,e=>by simp at e;subst e;exact⟨_,rfl,r⟩
 |_,_,i+1,x,.cons _ t,e=>by obtain⟨u,h1,h2⟩:=Vals.get (i:=i) (x:=x) t (by simpa using e);exact⟨u,by simpa using h1,h2⟩
def Vals.append:∀{xs ys:List V} {us ws:List Value},Vals xs us->Vals ys ws->Vals (xs++ys) (us++ws)
 |_,_,_,_,.nil,s=>s
 |_,_,_,_,.cons r t,s => .cons r (Vals.append t s)
def Vals.take:∀{xs:List V} {us:List Value} (n:Nat),Vals xs us->Vals (xs.take n) (us.take n)
 |_,_,0,_ => .nil
 |_,_,_+1,.nil => .nil
 |_,_,n+1,.cons r t => .cons r (Vals.take n t)
def Vals.drop:∀{xs:List V} {us:List Value} (n:Nat),Vals xs us->Vals (xs.drop n) (us.drop n)
 |_,_,0,r=>r
 |_,_,_+1,.nil => .nil
 |_,_,n+1,.cons _ t=>Vals.drop n t
theorem Vals.none_of:∀{xs:List V} {us:List Value} {i:Nat},Vals xs us->xs[i]?=none->us[i]?=none:=λ{xs us i} r e=>by have h1:=r.length;have h2:xs.length<=i:=List.getElem?_eq_none_iff.mp e;exact List.getElem?_eq_none_iff.mpr (by omega)
noncomputable def jd:Option V->Option Value->Prop
 |some v,some u=>RelV v u
 |none,none=>True
 |_,_=>False
noncomputable def KV{κ:Type}:List (κ×V)->List (κ×Value)->Prop:=Paired fun(p:κ×V) (q:κ×Value)=>p.1=q.1/\RelV p.2 q.2
noncomputable def kV:Key->V
 |.inl i => .int i
 |.inr x => .str x
inductive HO where
 |lst (xs:List V)
 |tup (xs:List V)
 |dK (kvs:List (Key×V))|dT (kvs:List (List Key×V))
 |set (S:Int->Bool) (n:Nat)
 |ins (C dx:Addr) (fs:List (Str×V))
 |own (x:Addr)
 |xd (fs:List (Str×V))
 |met (f x:Addr)
 |rng (lo hi:Int)
 |frz (o:Obj) (u:HO)
 |tbl (ps:Array Value)
 |ext (φ:Heap->Prop)
noncomputable abbrev Hp:=Addr->Option HO
noncomputable def upd(H:Hp)(a:Addr)(o:HO):Hp:=λb=>if b=a then some o else H b
def fJ{H:Hp}{a:Addr}{o:HO}:upd H a o a=some o:=by unfold upd;rw[if_pos rfl]
def cu{H:Hp}{a b:Addr}{o:HO}(h:b≠a):upd H a o b=H b:=by unfold upd;rw[if_neg h]
def Dz{H:Hp}{a b:Addr}{o u:HO}(h:H a=some o)(h':H b=some u)(d:o≠u):a≠b:=by intro e;subst e;rw[h] at h';exact d (Option.some.inj h')
def gB{H:Hp}{a b:Addr}{o:HO}(h:H a=some o)(h':H b=none):a≠b:=by intro e;subst e;rw[h] at h';cases h'
section
variable (P:Program)(w:World)
noncomputable def bY(H:Hp)(h:Heap)(a:Addr):HO->Prop
 |.lst xs=>xs.length<=sizeLine/\∃(its:List Value) (n:Nat),Vals xs its/\h.get? a=some { cls := .type "list",data := .seq its.toArray n }
 |.tup xs=>xs.length<=sizeLine/\∃its:List Value,Vals xs its/\IsTup h a its.toArray
 |.dK kvs=>kvs.length<=sizeLine/\(a==sysModules)=false/\∃vs,KV kvs vs/\h.DictOf (Hi P w) a vs
 |.dT kvs=>kvs.length<=sizeLine/\(a==sysModules)=false/\∃xs:List (List Key×Addr×Value),
  Paired (fun(p:List Key×V) (q:List Key×Addr×Value)=>p.1=q.1/\H q.2.1=some (.tup (p.1.map kV))/\RelV p.2 q.2.2) kvs xs /\
  ∃o es ep,h.get? a=some o/\o.ExactDict/\o.data = .dict es ep/\es.toList=xs.map (entryOfKey (tupleKind (Hi P w)))/\(xs.map (·.1)).Nodup
 |.set S n=>h.SetOf (intKind P w) a S n
 |.ins C dx fs=>H dx=some (.own a)/\fs.length<=1000/\dx≠a/\h.get? a=some (PySem.W.instObj C dx) /\
  ∃mA,h.Ns1 dx mA/\(∀f,jd (fs.lookup f) (mA f))/\PySem.Within mA (fs.map (·.1))
 |.own _=>∃o,h.get? a=some o
 |.xd fs=>∃mA,h.Ns1 a mA/\∀f,jd (fs.lookup f) (mA f)
 |.rng lo hi=>∃t u v,h.get? a=some { cls := .type "range",data := .fields #[.int lo t,.int hi u,.int 1 v] }
 |.frz o u=>h.get? a=some o/\bY H h a u
 |.tbl ps=>h.get? a=some { cls := .none,data := .fields ps }/\TriplesOk ps.toList/\∀pos cv,codeAmong pos ps.toList=some cv->∃c q oc vs t,cv=Value.ref c/\H c=some (.own a)/\h.get? c=some oc/\oc.data = .fields vs/\vs[1]?=some (.str q t)
 |.met f x=>h.get? a=some (PySem.W.methodObj (.ref f) (.ref x))
 |.ext φ=>φ h/\(∃o,h.get? a=some o)/\∀h1 h2:Heap,φ h1->(∀o,h1.get? a=some o->h2.get? a=some o)->φ h2
def gq(H:Hp)(h:Heap):Prop:=∀a o,H a=some o->bY P w H h a o
end
section
variable {P:Program}{w:World}{H H':Hp}{h h':Heap}{a:Addr}{o:HO}
theorem bY.lt(x:bY P w H h a o):a<h.objs.size:=by
 cases o with
 |lst xs=>obtain⟨_,_,_,_,e⟩:=x;exact cG e
 |tup xs=>obtain⟨_,_,_,p⟩:=x;exact p.lt
 |dK kvs=>obtain⟨_,_,_,_,o,_,_,e,_⟩:=x;exact cG e
 |dT kvs=>obtain⟨_,_,_,_,o,_,_,e,_⟩:=x;exact cG e
 |set S n=>obtain⟨o,_,_,_,e,_⟩:=x;exact cG e
 |ins C dx fs=>obtain⟨_,_,_,e,_⟩:=x;exact cG e
 |own y=>obtain⟨_,e⟩:=x;exact cG e
 |xd fs=>obtain⟨_,⟨_,_,_,e,_⟩,_⟩:=x;exact cG e
 |rng lo hi=>obtain⟨_,_,_,e⟩:=x;exact cG e
 |frz ob u=>obtain⟨e,_⟩:=x;exact cG e
 |tbl ps=>exact cG x.1
 |met f y=>exact cG (show h.get? a=some _ from x)
 |ext φ=>obtain⟨_,⟨_,e⟩,_⟩:=x;exact cG e
def Paired.mapP{α β:Type}{F G:α->β->Prop}:∀{l₁:List α} {l₂:List β},Paired F l₁ l₂->(∀a b,F a b->G a b)->Paired G l₁ l₂
 |_,_,.nil,_ => .nil
 |_,_,.cons r t,f => .cons (f _ _ r) (Paired.mapP t f)
theorem bY.stay(x:bY P w H h a o)(k:∀b u,(b=a\/H b=some (.own a))->h.get? b=some u->h'.get? b=some u)(ho:∀b,H b=some (.own a)->H' b=some (.own a))(ht:∀b xs,H b=some (.tup xs)->H' b=some (.tup xs)):bY P w H' h' a o:=by
 induction o with
 |lst xs=>obtain⟨z,its,n,r,e⟩:=x;exact⟨z,its,n,r,k _ _ (.inl rfl) e⟩
 |tup xs=>obtain⟨z,its,r,ob,e,c⟩:=x;exact⟨z,its,r,ob,k _ _ (.inl rfl) e,c⟩
 |dK kvs=>obtain⟨z,y,vs,r,ob,es,ep,e,c⟩:=x;exact⟨z,y,vs,r,ob,es,ep,k _ _ (.inl rfl) e,c⟩
 |dT kvs =>
  obtain⟨z,y,xs,r,ob,es,ep,e,c⟩:=x;exact⟨z,y,xs,Paired.mapP r λp q z=>⟨z.1,ht _ _ z.2.1,z.2.2⟩,ob,es,ep,k _ _ (.inl rfl) e,c⟩
 |set S n=>obtain⟨ob,es,ep,t,e,c⟩:=x;exact⟨ob,es,ep,t,k _ _ (.inl rfl) e,c⟩
 |ins C dx fs =>
  obtain⟨d,z,ne,e,mA,⟨od,es,ep,e2,c⟩,r⟩:=x;exact⟨ho _ d,z,ne,k _ _ (.inl rfl) e,mA,⟨od,es,ep,k _ _ (.inr d) e2,c⟩,r⟩
 |own y=>obtain⟨ob,e⟩:=x;exact⟨ob,k _ _ (.inl rfl) e⟩
 |xd fs=>obtain⟨mA,⟨od,es,ep,e,c⟩,r⟩:=x;exact⟨mA,⟨od,es,ep,k _ _ (.inl rfl) e,c⟩,r⟩
 |rng lo hi=>obtain⟨t,u,v,e⟩:=x;exact⟨t,u,v,k _ _ (.inl rfl) e⟩
 |frz ob u ih=>obtain⟨e,q⟩:=x;exact⟨k _ _ (.inl rfl) e,ih q⟩
 |tbl ps =>
  obtain⟨e,h1,h2⟩:=x;refine⟨k a _ (.inl rfl) e,h1,λpos cv q=>?_⟩;obtain⟨c,q,oc,vs,t,e1,e2,e3,e4⟩:=h2 pos cv q;exact⟨c,q,oc,vs,t,e1,ho _ e2,k _ _ (.inr e2) e3,e4⟩
 |met f y =>
  have e:h.get? a=some (PySem.W.methodObj (.ref f) (.ref y)):=x;show h'.get? a=some (PySem.W.methodObj (.ref f) (.ref y));exact k a _ (.inl rfl) e
 |ext φ=>obtain⟨p,⟨o,e⟩,st⟩:=x;exact⟨st _ _ p λo q=>k _ _ (.inl rfl) q,⟨o,k _ _ (.inl rfl) e⟩,st⟩
def gq.lt(x:gq P w H h)(e:H a=some o):a<h.objs.size:=(x a o e).lt
def gq.fresh(x:gq P w H h)(e:h.objs.size<=a):H a=none:=by
 cases q:H a with
 |none=>rfl
 |some u=>exact absurd (dM (x.lt q) e) (iw _)
def gq.kept(x:gq P w H h)(k:∀b u,h.get? b=some u->h'.get? b=some u):gq P w H h':=λa o e =>
 (x a o e).stay (λb u _ q=>k b u q) (λ_ q=>q) λ_ _ q=>q
theorem gq.laid(x:gq P w H h)(k:∀b u,h.get? b=some u->h'.get? b=some u)(hp:h.objs.size<=a)(new:bY P w (upd H a o) h' a o):gq P w (upd H a o) h':=λb u e=>by
 have hn:=x.fresh hp;by_cases hb:b=a
 .subst hb;rw[fJ] at e;cases e;exact new
 .rw[cu hb] at e;exact(x b u e).stay (λc v _ q=>k c v q) (λc q=>by rw[cu (gB q hn)];exact q) λc xs q=>by rw[cu (gB q hn)];exact q
end
def Rd(H:Hp)(a:Addr)(u:HO):Prop:=H a=some u\/∃o,H a=some (.frz o u)
theorem Rd.ok{P:Program}{w:World}{H:Hp}{h:Heap}{a:Addr}{u:HO}(r:Rd H a u)(x:gq P w H h):bY P w H h a u:=by
 rcases r with r|⟨o,r⟩
 .exact x a u r
 .obtain⟨_,q⟩:=x a _ r;exact q
noncomputable def Gv:Option HO->Prop
 |some (.lst _)=>True
 |some (.dK _)=>True
 |some (.dT _)=>True
 |some (.set _ _)=>True
 |some (.ins _ _ _)=>True
 |some (.ext _)=>True
 |_=>False
section
variable {P:Program}{w:World}{H:Hp}{h h':Heap}{x e:Addr}{o':HO}
theorem gq.write(ok:gq P w H h)(mu:Gv (H x))(he:e=x\/H e=some (.own x))(k:∀b u,b≠e->h.get? b=some u->h'.get? b=some u)(heo:∃u,h'.get? e=some u)(new:bY P w (upd H x o') h' x o'):gq P w (upd H x o') h':=λb u q=>by
 have Br:∀c y,H c=some (.own y)->c≠x:=λc y r z=>by subst z;rw[r] at mu;exact mu
 have NZ:∀c xs,H c=some (.tup xs)->c≠x:=λc xs r z=>by subst z;rw[r] at mu;exact mu
 by_cases hb:b=x
 .subst hb;rw[fJ] at q;cases q;exact new
 .rw[cu hb] at q;by_cases hbe:b=e
  .have q':H b=some (.own x):=by
    rcases he with z|z
    .exact absurd (hbe.trans z) hb
    .rw[hbe];exact z
   rw[q] at q';cases q';obtain⟨v,hv⟩:=heo;exact⟨v,by rw[hbe];exact hv⟩
  .refine(ok b u q).stay (λc v hc r=>k c v ?_ r) (λc r=>by rw[cu (Br c b r)];exact r) λc xs r=>by rw[cu (NZ c xs r)];exact r
   rcases hc with rfl|hc
   .exact hbe
   .rintro rfl
    rcases he with z|z
    .exact Br c b hc z
    .rw[hc] at z;cases z;exact hb rfl
end
structure Un(fs ex:List Addr)(H H':Hp)(h h':Heap):Prop where
 keep:∀b o,h.get? b=some o->H b=none->b∉fs->b∉ex->h'.get? b=some o
 slot:∀b o,h.get? b=some o->H b=none->b∈fs->b∉ex->∃sl,h'.get? b=some { o with slots:=sl }
 free:∀b o,h.get? b=some o->H b=none->b∉ex->H' b=none
 there:∀b o,h.get? b=some o->b∉ex->∃o',h'.get? b=some o'
 tups:∀b xs,H b=some (.tup xs)->H' b=some (.tup xs)
 frzs:∀b o u,H b=some (.frz o u)->H' b=some (.frz o u)
 tbls:∀b ps,H b=some (.tbl ps)->∃more,H' b=some (.tbl (ps++more))
section
variable {fs fs' ex ex':List Addr}{H H1 H2:Hp}{h h1 h2 h':Heap}{a x e:Addr}{o:HO}
theorem Un.any(u:Un fs ex H H1 h h1){b:Addr}{ob:Obj}(q:h.get? b=some ob)(n:H b=none)(hx:b∉ex):∃sl,h1.get? b=some { ob with slots:=sl }:=by
 by_cases hb:b∈fs
 .exact u.slot b ob q n hb hx
 .exact⟨ob.slots,u.keep b ob q n hb hx⟩
theorem Un.kept(k:∀b u,h.get? b=some u->h'.get? b=some u):Un fs ex H H h h' :=
 ⟨λb ob q _ _ _=>k b ob q,λb ob q _ _ _=>⟨ob.slots,k b ob q⟩,λ_ _ _ n _=>n,λb ob q _=>⟨ob,k b ob q⟩,λ_ _ q=>q,λ_ _ _ q=>q,λ_ ps q=>⟨#[],by rw[q];simp⟩⟩
def Un.refl:Un fs ex H H h h:=Un.kept λ_ _ q=>q
theorem Un.laid(k:∀b u,h.get? b=some u->h'.get? b=some u)(hp:h.objs.size<=a)(hn:H a=none):Un fs ex H (upd H a o) h h' where
 keep:=λb u q _ _ _=>k b u q
 slot:=λb u q _ _ _=>⟨u.slots,k b u q⟩
 free:=λb u q n _=>by rw[cu (dz (dM (cG q) hp))];exact n
 there:=λb u q _=>⟨u,k b u q⟩
 tups:=λb xs q=>by rw[cu (gB q hn)];exact q
 frzs:=λb u xs q=>by rw[cu (gB q hn)];exact q
 tbls:=λb ps q=>⟨#[],by rw[cu (gB q hn),q];simp⟩
theorem Un.write(mu:Gv (H x))(he:e=x\/H e=some (.own x))(k:∀b u,b≠e->h.get? b=some u->h'.get? b=some u)(heo:∃u,h'.get? e=some u):Un fs ex H (upd H x o) h h':=by
 have hx:∀b,H b=none->b≠x:=λb n z=>by subst z;rw[n] at mu;exact mu
 have hb:∀b,H b=none->b≠e:=λb n z=>by
  subst z;rcases he with r|r
  .exact hx b n r
  .rw[n] at r;cases r
 have hm:∀b u,H b=some u->¬Gv (some u)->b≠x:=λb u q nm z=>by subst z;rw[q] at mu;exact nm mu
 refine⟨λb u q n _ _=>k b u (hb b n) q,λb u q n _ _=>⟨u.slots,k b u (hb b n) q⟩,λb u q n _=>by rw[cu (hx b n)];exact n,λb u q _=>?_,
  λb xs q=>by rw[cu (hm b _ q λz=>z)];exact q,λb u xs q=>by rw[cu (hm b _ q λz=>z)];exact q,λb ps q=>⟨#[],by rw[cu (hm b _ q λz=>z),q];simp⟩⟩
 by_cases hbe:b=e
 .subst hbe;exact heo
 .exact⟨u,k b u hbe q⟩
end
noncomputable def yJ(h:Heap)(H:Hp):List Addr:=(List.range h.objs.size).filter λa=>(H a).isSome
noncomputable def n6(h:Heap)(H:Hp):Heap:=PySem.W.hideAll h (yJ h H)
def zkW(h:Heap)(H:Hp):(n6 h H).objs.size=h.objs.size:=PySem.W.hideAll_size _ _
theorem zmB{h:Heap}{H:Hp}{b:Addr}{o:Obj}(e:h.get? b=some o)(n:H b=none):(n6 h H).get? b=some o :=
 PySem.W.hideAll_get _ e λhm=>by have q:(H b).isSome=true:=(List.mem_filter.mp hm).2;rw[n] at q;simp at q
theorem zoM{h:Heap}{H:Hp}{b:Addr}{o:Obj}(e:(n6 h H).get? b=some o):h.get? b=some o/\H b=none:=by
 have e':h.get? b=some o:=PySem.W.of_hideAll (yJ h H) e;refine⟨e',?_⟩;cases q:H b with
 |none=>rfl
 |some x =>
  have hm:b∈yJ h H:=List.mem_filter.mpr ⟨List.mem_range.mpr (cG e'),by simp[q]⟩;have z:(n6 h H).get? b=none:=PySem.W.hideAll_none (yJ h H) hm;rw[z] at e;cases e
structure Mod(K:FgA)(mg:Str->Option Value)(base:Heap):Prop where
 kin:K.In base
 glob:base.Ns mainGlobals mg
 blt:∃mb,base.Ns builtinsNs mb/\∀x:Str,x ≠ "__name__" -> mb x=bootBuiltins x
 nolimit:base.NoLimit
structure Cx where
 prog:Program
 w:World
 K:FgA
 mg:Str->Option Value
 base:Heap
 A:Around
 N:List Str
 s₀:Shared
 H₀:Hp
 env:Env
 outer:List Env
 stack:List Env
 ex:List Addr
 fn:Str->Bool
 calm:Bool
 pn:List (Addr×Obj)
 xe:Value->Shared->Prop
noncomputable def frs(l:List Env):List Addr:=l.filterMap (·.frame)
noncomputable abbrev Cx.fs(X:Cx):List Addr:=frs X.outer
def Gu(sc:Scope)(x:Str):Prop:=sc.names.lookup x=some .local\/sc.names.lookup x=some .cell\/sc.names.lookup x=some .free
def Loc(sc:Scope)(x:Str):Prop:=sc.names.lookup x=some .local\/sc.names.lookup x=some .cell
noncomputable def Look(env:Env)(h:Heap)(m:Str->Option Value)(x:Str)(u:Value):Prop :=
 (env.kindOf x=some .local/\m x=some u)\/((env.kindOf x=some .cell\/env.kindOf x=some .free)/\∃c,env.cells.lookup x=some c/\h.IsCell c (some u))
structure Cx.Ok(X:Cx):Prop where
 mod:Mod X.K X.mg X.base
 kind:X.env.scope.kind = .function
 glob:X.env.globals=mainGlobals
 blt:X.env.builtins=builtinsNs
 above:X.s₀.heap.objs.size<=X.env.locals
 inj:∀x y c,X.env.cells.lookup x=some c->X.env.cells.lookup y=some c->x=y
 has:∀x,(X.env.kindOf x=some .cell\/X.env.kindOf x=some .free)->∃c,X.env.cells.lookup x=some c
 cab:∀x c,X.fn x=true->X.env.cells.lookup x=some c->X.s₀.heap.objs.size<=c
 hd:X.calm=true->X.A.handled=none
 frames:X.A.frames=some X.stack
 stk:X.stack=X.outer\/(X.stack=X.env::X.outer/\X.env.frame=some X.env.locals)
 exf:∀b∈X.ex,b≠X.env.locals/\∀x c,X.env.cells.lookup x=some c->c≠b
 bs:∀b o,X.base.get? b=some o->X.s₀.heap.get? b=some o/\X.H₀ b=none
 bsz:X.base.objs.size<=X.s₀.heap.objs.size
 noex:∀b o,X.base.get? b=some o->b∉X.ex
 exfs:∀b∈X.ex,b∉X.fs
 funs:X.s₀.heap.FunFrames X.base X.outer
 frf:∀b∈X.fs,X.H₀ b=none
structure Inv(X:Cx)(pins:List (Addr×Obj))(σ:List (Option V))(H:Hp)(s:Shared):Prop where
 ok:X.Ok
 os:s.os=X.s₀.os
 bare:AllBare s.gens
 base:Un X.fs X.ex X.H₀ H X.s₀.heap s.heap
 loc:∃m,s.heap.Ns X.env.locals m/\∀(i:Nat) (x:Str) (v:V),X.N[i]?=some x->σ[i]?=some (some v)->Gu X.env.scope x->∃u,RelV v u/\Look X.env s.heap m x u
 cell:∀x c,X.env.cells.lookup x=some c->∃v,s.heap.IsCell c v
 free:H X.env.locals=none
 freeC:∀x c,X.env.cells.lookup x=some c->H c=none
 pin:∀p∈X.pn++pins,s.heap.get? p.1=some p.2/\H p.1=none/\p.1≠X.env.locals/\p.1∉X.fs/\∀v,p.2.data ≠ .cell v
 hok:gq X.prog X.w H s.heap
 len:σ.length=X.N.length
section
variable {X:Cx}{pins:List (Addr×Obj)}{σ:List (Option V)}{H H':Hp}{s:Shared}{h':Heap}
def Cx.Ok.nofr(ok:X.Ok){b:Addr}{o:Obj}(e:X.base.get? b=some o):b∉X.fs:=λhb=>by have:=(ok.funs.mem hb).1;rw[e] at this;cases this
def Inv.bs(I:Inv X pins σ H s):∀b o,X.base.get? b=some o->s.heap.get? b=some o/\H b=none:=λb o e =>
 ⟨I.base.keep b o (I.ok.bs b o e).1 (I.ok.bs b o e).2 (I.ok.nofr e) (I.ok.noex b o e),I.base.free b o (I.ok.bs b o e).1 (I.ok.bs b o e).2 (I.ok.noex b o e)⟩
def Inv.bk(I:Inv X pins σ H s):∀b o,X.base.get? b=some o->s.heap.get? b=some o:=λb o e=>(I.bs b o e).1
def Inv.mod(I:Inv X pins σ H s):Mod X.K X.mg X.base:=I.ok.mod
def Inv.kIn(I:Inv X pins σ H s):X.K.In s.heap:=I.ok.mod.kin.keeps I.bk
def Inv.lt(I:Inv X pins σ H s):X.env.locals<s.heap.objs.size:=let ⟨_,hn,_⟩:=I.loc;hn.lt
def Inv.sz(I:Inv X pins σ H s):X.s₀.heap.objs.size<=s.heap.objs.size:=Nat.le_trans I.ok.above (uE I.lt)
theorem Inv.nofs(I:Inv X pins σ H s){a:Addr}(h:s.heap.objs.size<=a):a∉X.fs:=λhb=>by obtain⟨_,o,ho,_⟩:=I.ok.funs.mem hb;exact absurd (dM (cG ho) (Nat.le_trans I.sz h)) (iw _)
theorem Inv.cne(I:Inv X pins σ H s):∀x c,X.env.cells.lookup x=some c->c≠X.env.locals:=λx c e z=>by obtain⟨v,o,ho,hd⟩:=I.cell x c e;obtain⟨m,⟨o',es,ep,ho',hd',_⟩,_⟩:=I.loc;rw[z,ho'] at ho;cases ho;rw[hd'] at hd;cases hd
theorem Inv.funs(I:Inv X pins σ H s):s.heap.FunFrames X.base X.outer:=by
 have all:∀(l:List Env),(∀b∈frs l,b∈X.fs)->X.s₀.heap.FunFrames X.base l->s.heap.FunFrames X.base l:=by
  intro l
  induction l with
  |nil=>intro _ _;trivial
  |cons env r ih =>
   intro hs hl;obtain⟨hk,⟨L,o,hf,hn,ho,hd⟩,hr⟩:=hl;have hL:L∈X.fs:=hs L (by unfold frs;rw[List.filterMap_cons,hf];exact fG);obtain⟨sl,e⟩:=I.base.slot L o ho (I.ok.frf L hL) hL λz=>I.ok.exfs L z hL;exact⟨hk,⟨L,_,hf,hn,e,hd⟩,ih (λb hb=>hs b (by unfold frs;rw[List.filterMap_cons,hf];exact cQ _ hb)) hr⟩
 exact all X.outer (λ_ hb=>hb) I.ok.funs
theorem Inv.stack(I:Inv X pins σ H s):s.heap.FunFrames X.base X.stack:=by
 rcases I.ok.stk with e|⟨e,hf⟩
 .rw[e];exact I.funs
 .rw[e];obtain⟨m,hn,_⟩:=I.loc;refine .cons (by rw[I.ok.kind];decide) hf hn ?_ I.funs;exact Heap.get?_none_of_le (Nat.le_trans I.ok.bsz I.ok.above)
theorem Inv.stkSub(I:Inv X pins σ H s):∀b∈frs X.stack,b∈X.env.locals::X.fs:=λb hb=>by
 rcases I.ok.stk with e|⟨e,hf⟩
 .rw[e] at hb;exact cQ _ hb
 .rw[e] at hb;unfold frs at hb;rw[List.filterMap_cons,hf] at hb;exact hb
theorem Inv.stkFree(I:Inv X pins σ H s):∀b∈frs X.stack,H b=none:=λb hb=>by
 rcases List.mem_cons.mp (I.stkSub b hb) with e|hb
 .rw[e];exact I.free
 .obtain⟨_,o,ho,_⟩:=I.ok.funs.mem hb;exact I.base.free b o ho (I.ok.frf b hb) λz=>I.ok.exfs b z hb
theorem Inv.step{g':Array GenState}{t':Nat}{d':Drawn}{ch:List Addr}(I:Inv X pins σ H s)(hch:∀b∈ch,(b∈X.ex\/X.s₀.heap.objs.size<=b)/\b≠X.env.locals/\(∀x c,X.env.cells.lookup x=some c->c≠b)/\∀p∈X.pn++pins,p.1≠b)(keep:∀b o,b≠X.env.locals->b∉X.fs->b∉ch->s.heap.get? b=some o->H b=none->h'.get? b=some o)(slot:∀b o,b≠X.env.locals->b∈X.fs->b∉ch->s.heap.get? b=some o->H b=none->∃sl,h'.get? b=some { o with slots:=sl })(free:∀b o,b∉ch->s.heap.get? b=some o->H b=none->H' b=none)(there:∀b o,b∉ch->s.heap.get? b=some o->∃o',h'.get? b=some o')(tups:∀b xs,H b=some (.tup xs)->H' b=some (.tup xs))(frzs:∀b o u,H b=some (.frz o u)->H' b=some (.frz o u))(tbls:∀b ps,H b=some (.tbl ps)->∃more,H' b=some (.tbl (ps++more)))(ns:∀m,s.heap.Ns X.env.locals m->h'.Ns X.env.locals m)(hok:gq X.prog X.w H' h')(hg:AllBare g'):
 Inv X pins σ H' { s with heap:=h',gens:=g',drawn:=d',toks:=t' }:=by
 have WK:∀b o,X.s₀.heap.get? b=some o->b≠X.env.locals:=λb o e=>dz (dM (cG e) I.ok.above);have t7:∀b o,X.s₀.heap.get? b=some o->b∉X.ex->b∉ch:=λb o e hx hb=>by
  rcases(hch b hb).1 with z|z
  .exact hx z
  .exact absurd (dM (cG e) z) (iw _)
 have cellK:∀x c,X.env.cells.lookup x=some c->∀v,s.heap.IsCell c v->h'.IsCell c v:=λx c e v ⟨o,ho,hd⟩=>by
  have o4:c∉ch:=λz=>(hch c z).2.2.1 x c e rfl;by_cases hc:c∈X.fs
  .obtain⟨sl,q⟩:=slot c o (I.cne x c e) hc o4 ho (I.freeC x c e);exact⟨_,q,hd⟩
  .exact⟨o,keep c o (I.cne x c e) hc o4 ho (I.freeC x c e),hd⟩
 refine⟨I.ok,I.os,hg,⟨λb o e n hb hx=>?_,λb o e n hb hx=>?_,λb o e n hx=>?_,λb o e hx=>?_,λb xs e=>tups b xs (I.base.tups b xs e),λb o xs e=>frzs b o xs (I.base.frzs b o xs e),λb ps e=>?_⟩,?_,λx c e=>?_,?_,λx c e=>?_,λp hp=>?_,hok,I.len⟩
 .exact keep b o (WK b o e) hb (t7 b o e hx) (I.base.keep b o e n hb hx) (I.base.free b o e n hx)
 .obtain⟨sl,e1⟩:=I.base.slot b o e n hb hx;obtain⟨sl',e2⟩:=slot b _ (WK b o e) hb (t7 b o e hx) e1 (I.base.free b o e n hx);exact⟨sl',e2⟩
 .obtain⟨o',e1⟩:=I.base.there b o e hx;exact free b o' (t7 b o e hx) e1 (I.base.free b o e n hx)
 .obtain⟨o',e1⟩:=I.base.there b o e hx;exact there b o' (t7 b o e hx) e1
 .obtain⟨m1,e1⟩:=I.base.tbls b ps e;obtain⟨m2,e2⟩:=tbls b _ e1;exact⟨m1++m2,by rw[e2,Array.append_assoc]⟩
 .obtain⟨m,hn,hl⟩:=I.loc;refine⟨m,ns m hn,λi x v e1 e2 e3=>?_⟩;obtain⟨u,r,l⟩:=hl i x v e1 e2 e3;refine⟨u,r,?_⟩;rcases l with l|⟨k,c,e,z⟩
  .exact .inl l
  .exact .inr ⟨k,c,e,cellK x c e _ z⟩
 .obtain⟨v,z⟩:=I.cell x c e;exact⟨v,cellK x c e v z⟩
 .obtain⟨m,⟨o,_,_,ho,_⟩,_⟩:=I.loc;exact free _ o (λz=>(hch _ z).2.1 rfl) ho I.free
 .obtain⟨v,o,ho,hd⟩:=I.cell x c e;exact free c o (λz=>(hch c z).2.2.1 x c e rfl) ho (I.freeC x c e)
 .obtain⟨e,n,ne,nf,d⟩:=I.pin p hp;have o4:p.1∉ch:=λz=>(hch p.1 z).2.2.2 p hp rfl;exact⟨keep p.1 p.2 ne nf o4 e n,free p.1 p.2 o4 e n,ne,nf,d⟩
theorem Inv.un{t':Nat}(I:Inv X pins σ H s)(u:Un X.fs [] H H' s.heap h')(hok:gq X.prog X.w H' h'):Inv X pins σ H' { s with heap:=h',toks:=t' }:=by
 obtain⟨m,⟨o,es,ep,ho,r⟩,_⟩:=id I.loc;obtain⟨sl,hL⟩:=u.any ho I.free (by simp);exact I.step (g':=s.gens) (d':=s.drawn) (ch:=[]) (λ_ z=>nomatch z) (λb o _ hb _ e n=>u.keep b o e n hb (by simp)) (λb o _ hb _ e n=>u.slot b o e n hb (by simp)) (λb o _ e n=>u.free b o e n (by simp)) (λb o _ e=>u.there b o e (by simp)) u.tups u.frzs u.tbls (λm' hm=>by
  obtain⟨o',es',ep',ho',r'⟩:=hm;rw[ho] at ho';cases ho';exact⟨_,es',ep',hL,r'⟩) hok I.bare
theorem Inv.call{g':Array GenState}{t':Nat}{d':Drawn}{ch:List Addr}(I:Inv X pins σ H s)(u:Un (frs X.stack) ch H H' s.heap h')(hok:gq X.prog X.w H' h')(hg:AllBare g')(hch:∀b∈ch,(b∈X.ex\/X.s₀.heap.objs.size<=b)/\b≠X.env.locals/\(∀x c,X.env.cells.lookup x=some c->c≠b)/\∀p∈X.pn++pins,p.1≠b):
 Inv X pins σ H' { s with heap:=h',gens:=g',drawn:=d',toks:=t' }:=by
 obtain⟨m,⟨o,es,ep,ho,r⟩,_⟩:=id I.loc;obtain⟨sl,hL⟩:=u.any ho I.free λz=>(hch _ z).2.1 rfl;exact I.step (ch:=ch) hch (λb o hL hb hc e n=>u.keep b o e n (λz=>(List.mem_cons.mp (I.stkSub b z)).elim hL hb) hc) (λb o _ _ hc e n=>u.any e n hc) (λb o hc e n=>u.free b o e n hc) (λb o hc e=>u.there b o e hc) u.tups u.frzs u.tbls (λm' hm=>by
  obtain⟨o',es',ep',ho',r'⟩:=hm;rw[ho] at ho';cases ho';exact⟨_,es',ep',hL,r'⟩) hok hg
theorem Inv.turned{t':Nat}{it:Addr}(I:Inv X pins σ H s)(k:∀b o,b≠it->s.heap.get? b=some o->h'.get? b=some o)(hn:H it=none)(hL:it≠X.env.locals)(h1:it∈X.ex\/X.s₀.heap.objs.size<=it)(h2:∀x c,X.env.cells.lookup x=some c->c≠it)(h3:∀p∈X.pn++pins,p.1≠it):Inv X pins σ H { s with heap:=h',toks:=t' }:=by
 have Wz:∀b u,H b=some u->b≠it:=λb u e z=>by rw[z,hn] at e;cases e
 refine I.step (g':=s.gens) (d':=s.drawn) (ch:=[it]) (λb hb=>?_) (λb o _ _ hc e _=>k b o (λz=>hc (by simp[z])) e) (λb o _ _ hc e _=>⟨o.slots,k b o (λz=>hc (by simp[z])) e⟩) (λ_ _ _ _ n=>n)
  (λb o hc e=>⟨o,k b o (λz=>hc (by simp[z])) e⟩) (λ_ _ e=>e) (λ_ _ _ e=>e) (λb ps e=>⟨#[],by rw[e];simp⟩) (λm hm=>?_) (λb u e=>?_) I.bare
 .have e:b=it:=by simpa using hb
  subst e;exact⟨h1,hL,h2,h3⟩
 .obtain⟨o,es,ep,ho,r⟩:=hm;exact⟨o,es,ep,k _ o (Ne.symm hL) ho,r⟩
 .refine(I.hok b u e).stay (λc v hc q=>k c v ?_ q) (λ_ q=>q) λ_ _ q=>q;rcases hc with z|z
  .rw[z];exact Wz b u e
  .exact Wz c _ z
def Inv.tok(I:Inv X pins σ H s)(t:Nat):Inv X pins σ H { s with toks:=t }:=I.un (h':=s.heap) (t':=t) Un.refl I.hok
def Inv.kept{t':Nat}(I:Inv X pins σ H s)(k:∀b u,s.heap.get? b=some u->h'.get? b=some u):Inv X pins σ H { s with heap:=h',toks:=t' }:=I.un (Un.kept k) (I.hok.kept k)
def Inv.laid{a:Addr}{o:HO}{t':Nat}(I:Inv X pins σ H s)(k:∀b u,s.heap.get? b=some u->h'.get? b=some u)(hp:s.heap.objs.size<=a)(new:bY X.prog X.w (upd H a o) h' a o):
 Inv X pins σ (upd H a o) { s with heap:=h',toks:=t' }:=I.un (Un.laid k hp (I.hok.fresh hp)) (I.hok.laid k hp new)
def Inv.write{x e:Addr}{o:HO}{t':Nat}(I:Inv X pins σ H s)(mu:Gv (H x))(he:e=x\/H e=some (.own x))(k:∀b u,b≠e->s.heap.get? b=some u->h'.get? b=some u)(heo:∃u,h'.get? e=some u)(new:bY X.prog X.w (upd H x o) h' x o):Inv X pins σ (upd H x o) { s with heap:=h',toks:=t' }:=I.un (Un.write mu he k heo) (I.hok.write mu he k heo new)
def Inv.pins_of{t6:List (Addr×Obj)}(I:Inv X pins σ H s)(h:∀p∈t6,s.heap.get? p.1=some p.2/\H p.1=none/\p.1≠X.env.locals/\p.1∉X.fs/\∀v,p.2.data ≠ .cell v):Inv X t6 σ H s :=
 ⟨I.ok,I.os,I.bare,I.base,I.loc,I.cell,I.free,I.freeC,λp hp=>(lZ.mp hp).elim (λz=>I.pin p (List.mem_append_left _ z)) (h p),I.hok,I.len⟩
theorem RP{N:List Str}(hN:N.Nodup){i j:Nat}{x:Str}(a:N[i]?=some x)(b:N[j]?=some x):i=j:=by obtain⟨h1,e1⟩:=fu.mp a;obtain⟨h2,e2⟩:=fu.mp b;exact(List.getElem_inj hN).mp (e1.trans e2.symm)
theorem zjT{M:Model}{A:Around}{E:Value->Shared->Prop}{i:Nat}{x:Str}{v:V}{u:Value}{Q:Unit->Shared->Prop}(I:Inv X pins σ H s)(hN:X.N.Nodup)(hi:X.N[i]?=some x)(hx:Loc X.env.scope x)(r:RelV v u)(h:∀s',Inv X pins (σ.set i (some v)) H s'->(∃a,Heap.SameBut a s.heap s'.heap/\(a=X.env.locals\/X.env.cells.lookup x=some a))->Q () s')(hf:X.fn x=true\/X.env.scope.names.lookup x=some .local:=by first|exact .inl rfl|exact .inr rfl|assumption):wpAny M A (storeName X.env x u) Q E s:=by
 obtain⟨m,hn,hl⟩:=id I.loc;have hcls:(X.env.scope.kind == .class||(X.env.scope.kind == .module&&X.env.locals != X.env.globals))=false:=by rw[I.ok.kind];rfl
 have hiσ:i<σ.length:=by rw[I.len];exact(fu.mp hi).1
 have cne:=I.cne;have tracked:∀{a:Addr} {h':Heap},(∃o,s.heap.get? a=some o/\H a=none)->Heap.SameBut a s.heap h'->gq X.prog X.w H h':=λ{a h'} ha hs b ob e=>by
  obtain⟨_,_,hfree⟩:=ha;refine(I.hok b ob e).stay (λc w' hc q=>(hs.2 c ?_).trans q) (λ_ q=>q) λ_ _ q=>q
  rintro rfl
  rcases hc with rfl|hc
  .rw[hfree] at e;cases e
  .rw[hfree] at hc;cases hc
 rcases hx with hk|hk
 .refine wpAny_storeName_local hk hn (λh' hn' hs=>?_) hcls;obtain⟨oL,_,_,hoL,_⟩:=id hn;refine h _ ⟨I.ok,I.os,I.bare,⟨λb o e n hb hx=>?_,λb o e n hb hx=>?_,I.base.free,λb o e hx=>?_,I.base.tups,I.base.frzs,I.base.tbls⟩,⟨_,hn',λj y v' e1 e2 e3=>?_⟩,λy c e=>?_,I.free,I.freeC,λp hp=>?_,tracked ⟨oL,hoL,I.free⟩ hs,by simpa using I.len⟩ ⟨_,hs,.inl rfl⟩
  .exact(hs.2 b (dz (dM (cG e) I.ok.above))).trans (I.base.keep b o e n hb hx)
  .obtain⟨sl,e1⟩:=I.base.slot b o e n hb hx;exact⟨sl,(hs.2 b (dz (dM (cG e) I.ok.above))).trans e1⟩
  .obtain⟨o',e1⟩:=I.base.there b o e hx;exact⟨o',(hs.2 b (dz (dM (cG e) I.ok.above))).trans e1⟩
  .by_cases hj:j=i
   .subst hj;rw[hi] at e1;cases e1;rw[List.getElem?_set_self hiσ] at e2;cases e2;exact⟨u,r,.inl ⟨hk,by simp⟩⟩
   .rw[List.getElem?_set_ne (Ne.symm hj)] at e2;obtain⟨u',r',q⟩:=hl j y v' e1 e2 e3;refine⟨u',r',?_⟩;rcases q with⟨k,e⟩|⟨k,c,e,z⟩
    .refine .inl ⟨k,?_⟩;have:y≠x:=λe=>hj (RP hN e1 (e ▸ hi));simp[this,e]
    .exact .inr ⟨k,c,e,z.sameBut hs (cne y c e)⟩
  .obtain⟨w',z⟩:=I.cell y c e;exact⟨w',z.sameBut hs (cne y c e)⟩
  .obtain⟨e,n,ne,nf,d⟩:=I.pin p hp;exact⟨(hs.2 p.1 ne).trans e,n,ne,nf,d⟩
 .have hfn:X.fn x=true:=by
   rcases hf with z|z
   .exact z
   .rw[z] at hk;cases hk
  obtain⟨c,hc⟩:=I.ok.has x (.inl hk);obtain⟨w',z⟩:=I.cell x c hc;refine wpAny_storeName_cell I.ok.kind hk hc z (λh' hc' hs=>?_);obtain⟨oc,hoc,Oi⟩:=id z;refine h { s with heap:=h' } ⟨I.ok,I.os,I.bare,⟨λb o e n hb hx=>?_,λb o e n hb hx=>?_,I.base.free,λb o e hx=>?_,I.base.tups,I.base.frzs,I.base.tbls⟩,⟨m,hn.sameBut hs (Ne.symm (cne x c hc)),λj y v' e1 e2 e3=>?_⟩,λy c' e=>?_,I.free,I.freeC,λp hp=>?_,tracked ⟨oc,hoc,I.freeC x c hc⟩ hs,by simpa using I.len⟩ ⟨c,hs,.inr hc⟩
  .exact(hs.2 b (dz (dM (cG e) (I.ok.cab x c hfn hc)))).trans (I.base.keep b o e n hb hx)
  .obtain⟨sl,e1⟩:=I.base.slot b o e n hb hx;exact⟨sl,(hs.2 b (dz (dM (cG e) (I.ok.cab x c hfn hc)))).trans e1⟩
  .obtain⟨o',e1⟩:=I.base.there b o e hx;exact⟨o',(hs.2 b (dz (dM (cG e) (I.ok.cab x c hfn hc)))).trans e1⟩
  .by_cases hj:j=i
   .subst hj;rw[hi] at e1;cases e1;rw[List.getElem?_set_self hiσ] at e2;cases e2;exact⟨u,r,.inr ⟨.inl hk,c,hc,hc'⟩⟩
   .rw[List.getElem?_set_ne (Ne.symm hj)] at e2;obtain⟨u',r',q⟩:=hl j y v' e1 e2 e3;refine⟨u',r',?_⟩;rcases q with q|⟨k,c',e,z'⟩
    .exact .inl q
    .refine .inr ⟨k,c',e,z'.sameBut hs ?_⟩
     rintro rfl
     exact hj (RP hN e1 (I.ok.inj _ _ _ e hc ▸ hi))
  .by_cases hcc:c'=c
   .subst hcc;exact⟨_,hc'⟩
   .obtain⟨w2,z2⟩:=I.cell y c' e;exact⟨w2,z2.sameBut hs hcc⟩
  .obtain⟨e,n,ne,nf,d⟩:=I.pin p hp;refine⟨(hs.2 p.1 ?_).trans e,n,ne,nf,d⟩;intro q;rw[q,hoc] at e;have q':oc=p.2:=Option.some.inj e;exact d w' (by rw[<-q'];exact Oi)
theorem yd{M:Model}{A:Around}{E:Value->Shared->Prop}{i:Nat}{x:Str}{v:V}{u:Value}{Q:Unit->Shared->Prop}(I:Inv X pins σ H s)(hN:X.N.Nodup)(hi:X.N[i]?=some x)(hx:Loc X.env.scope x)(r:RelV v u)(h:∀s',Inv X pins (σ.set i (some v)) H s'->Q () s')(hf:X.fn x=true\/X.env.scope.names.lookup x=some .local:=by first|exact .inl rfl|exact .inr rfl|assumption):wpAny M A (storeName X.env x u) Q E s :=
 zjT I hN hi hx r (λs' I' _=>h s' I') hf
theorem Inv.call'{s':Shared}{ch:List Addr}(I:Inv X pins σ H s)(ho:s'.os=s.os)(u:Un (frs X.stack) ch H H' s.heap s'.heap)(hok:gq X.prog X.w H' s'.heap)(hg:AllBare s'.gens)(hch:∀b∈ch,(b∈X.ex\/X.s₀.heap.objs.size<=b)/\b≠X.env.locals/\(∀x c,X.env.cells.lookup x=some c->c≠b)/\∀p∈X.pn++pins,p.1≠b):Inv X pins σ H' s':=by obtain⟨h',g',d',t',o'⟩:=s';have e:o'=s.os:=ho;subst e;exact I.call (g':=g') (t':=t') (d':=d') u hok hg hch
end
noncomputable abbrev XK:=Value->Option Addr->Hp->Prop
noncomputable abbrev St:=List (Option V)
noncomputable abbrev VK:=V->Hp->Prop
noncomputable abbrev TE:=St->Hp->VK->Prop
noncomputable abbrev TT:=St->Hp->(Bool->Hp->Prop)->Prop
noncomputable abbrev TA:=St->Hp->(List V->Hp->Prop)->Prop
structure uP where
 nx:St->Hp->Prop
 rt:VK
 bk:St->Hp->Prop:=λ_ _=>False
 ct:St->Hp->Prop:=λ_ _=>False
noncomputable abbrev TS:=uP->St->Hp->Prop
def EP(X:Cx)(pins:List (Addr×Obj))(σ:St)(Q:VK)(u:Value)(s':Shared):Prop:=∃v H',Inv X pins σ H' s'/\RelV v u/\Q v H'
def TP(X:Cx)(pins:List (Addr×Obj))(σ:St)(Q:Bool->Hp->Prop)(b:Bool)(s':Shared):Prop:=∃H',Inv X pins σ H' s'/\Q b H'
def AP(X:Cx)(pins:List (Addr×Obj))(σ:St)(Q:List V->Hp->Prop)(us:List Value)(s':Shared):Prop:=∃vs H',Inv X pins σ H' s'/\Vals vs us/\Q vs H'
noncomputable def SP(X:Cx)(pins:List (Addr×Obj))(D:uP)(f:Flow)(s':Shared):Prop :=
 match f with
 |.next=>∃σ' H',Inv X pins σ' H' s'/\D.nx σ' H'
 |.brk=>∃σ' H',Inv X pins σ' H' s'/\D.bk σ' H'
 |.cont=>∃σ' H',Inv X pins σ' H' s'/\D.ct σ' H'
 |.ret u=>∃v σ' H',Inv X pins σ' H' s'/\RelV v u/\D.rt v H'
noncomputable def PE(X:Cx)(e:Expr)(t:TE):Prop :=
 ∀(pins:List (Addr×Obj)) (s:Shared) (σ:St) (H:Hp) (Q:VK),Inv X pins σ H s->t σ H Q->wpAny (model X.prog X.w) X.A (eval e X.env) (EP X pins σ Q) X.xe s
noncomputable def PT(X:Cx)(e:Expr)(t:TT):Prop :=
 ∀(pins:List (Addr×Obj)) (s:Shared) (σ:St) (H:Hp) (Q:Bool->Hp->Prop),Inv X pins σ H s->t σ H Q->wpAny (model X.prog X.w) X.A (isTrue e X.env (eval e X.env)) (TP X pins σ Q) X.xe s
noncomputable def PW(X:Cx)(e:Expr)(t:TT):Prop :=
 ∀(whole:Sem Value) (pins:List (Addr×Obj)) (s:Shared) (σ:St) (H:Hp) (Q:Bool->Hp->Prop),Inv X pins σ H s->t σ H Q->wpAny (model X.prog X.w) X.A (isTrue e X.env whole) (TP X pins σ Q) X.xe s
def PW.pt{X:Cx}{e:Expr}{t:TT}(h:PW X e t):PT X e t:=h _
noncomputable def PA(X:Cx)(es:List Expr)(t:TA):Prop :=
 ∀(pos:Pos) (pins:List (Addr×Obj)) (s:Shared) (σ:St) (H:Hp) (Q:List V->Hp->Prop),Inv X pins σ H s->t σ H Q->wpAny (model X.prog X.w) X.A (spliced (backTo pos (starEach es X.env))) (AP X pins σ Q) X.xe s
noncomputable def PS(X:Cx)(st:Stmt)(t:TS):Prop :=
 ∀(pins:List (Addr×Obj)) (s:Shared) (σ:St) (H:Hp) (D:uP),Inv X pins σ H s->t D σ H->wpAny (model X.prog X.w) X.A (exec st X.env) (SP X pins D) X.xe s
noncomputable def jM(X:Cx)(st:List Stmt)(t:TS):Prop :=
 ∀(pins:List (Addr×Obj)) (s:Shared) (σ:St) (H:Hp) (D:uP),Inv X pins σ H s->t D σ H->wpAny (model X.prog X.w) X.A (execs st X.env) (SP X pins D) X.xe s
def bQ{α:Type}{t:Sem α}{Q Q':α->Shared->Prop}{M:Model}{A:Around}{E:Value->Shared->Prop}{s:Shared}(h:wpAny M A t Q E s)(hQ:∀a s,Q a s->Q' a s):wpAny M A t Q' E s:=jO h hQ λ_ _ x=>x
section
variable {X:Cx}
noncomputable def MF(i:Nat):TE:=λσ H Q=>∃v,σ[i]?=some (some v)/\Q v H
noncomputable def tC(v:V):TE:=λ_ H Q=>Q v H
theorem Yp{i:Nat}{x:Str}{pos:Pos}(hN:X.N[i]?=some x)(hv:Gu X.env.scope x)(hd:(x==("__debug__" : Str))=false:=by decide)(hcd:(x==("__classdict__" : Str))=false:=by decide):PE X (.Name x pos) (MF i):=by
 intro pins s σ H Q I h;obtain⟨v,e,h⟩:=h;obtain⟨m,hn,hl⟩:=I.loc;obtain⟨u,r,l⟩:=hl i x v hN e hv;have fin:EP X pins σ Q u s:=⟨v,H,I,r,h⟩
 rcases l with⟨hk,hm⟩|⟨hk,c,hc,hcell⟩
 .exact wpAny_Name (wpAny_loadName_local I.ok.kind hk hn hm fin) hd
 .rcases hk with hk|hk
  .exact wpAny_Name (wpAny_loadName_cell I.ok.kind hk hc hcell fin) hd
  .exact wpAny_Name (wpAny_loadName_free I.ok.kind hk hc hcell fin hcd) hd
def Zf{i j pos}:PE X (.Constant (.int i) j pos) (tC (.int i)):=λ_ _ _ H _ I h=>wpAny_Constant_int ⟨.int i,H,I.tok _,⟨_,rfl⟩,h⟩
def Yd{b j pos}:PE X (.Constant (.bool b) j pos) (tC (.bl b)):=λ_ _ _ H _ I h=>Constant_bool ⟨.bl b,H,I,rfl,h⟩
def Zh{j pos}:PE X (.Constant .none j pos) (tC .non):=λ_ _ _ H _ I h=>Constant_none ⟨.non,H,I,rfl,h⟩
def Yn{x j pos}:PE X (.Constant (.str x) j pos) (tC (.str x)):=λ_ _ _ H _ I h=>Calls.Constant_str ⟨.str x,H,I.tok _,⟨_,rfl⟩,h⟩
def Gl(X:Cx)(x:Str):Prop:=X.env.kindOf x=some .globalImplicit
theorem Io{E:Value->Shared->Prop}{pins:List (Addr×Obj)}{s:Shared}{σ:St}{H:Hp}{x:Str}{u:Value}{pos:Pos}{Q:Value->Shared->Prop}(I:Inv X pins σ H s)(hg:Gl X x)(hm:X.mg x=some u)(h:Q u s)(hd:(x==("__debug__" : Str))=false:=by decide):wpAny (model X.prog X.w) X.A (eval (.Name x pos) X.env) Q E s :=
 Calls.Name_function_global I.ok.kind hg (Calls.loadGlobal_global (by rw[I.ok.glob];exact I.mod.glob.keeps I.bk) hm h) hd
theorem sZ{E:Value->Shared->Prop}{pins:List (Addr×Obj)}{s:Shared}{σ:St}{H:Hp}{x:Str}{u:Value}{pos:Pos}{Q:Value->Shared->Prop}(I:Inv X pins σ H s)(hg:Gl X x)(hm:X.mg x=none)(hv:bootBuiltins x=some u)(h:Q u s)(hn:x ≠ "__name__" := by decide)(hd:(x==("__debug__" : Str))=false:=by decide):wpAny (model X.prog X.w) X.A (eval (.Name x pos) X.env) Q E s:=by obtain⟨mb,h1,h2⟩:=I.mod.blt;exact Calls.Name_function_global I.ok.kind hg (Calls.loadGlobal_builtin (by rw[I.ok.glob];exact I.mod.glob.keeps I.bk) hm (by rw[I.ok.blt];exact h1.keeps I.bk) ((h2 x hn).trans hv) h) hd
theorem zor{x:Str}{v:V}{u:Value}{pos:Pos}(hg:Gl X x)(hm:X.mg x=none)(hv:bootBuiltins x=some u)(r:RelV v u)(hn:x ≠ "__name__" := by decide)(hd:(x==("__debug__" : Str))=false:=by decide):PE X (.Name x pos) (tC v) :=
 λ_ _ _ H _ I h=>sZ I hg hm hv ⟨v,H,I,r,h⟩ hn hd
variable {a b:Expr}{ta tb:TE}{pos:Pos}
variable {tA Gf:TT}{rest:List Expr}
noncomputable def Nb(t u:TT):TT:=λσ H Q=>t σ H λc H1=>if c=true then u σ H1 Q else Q false H1
noncomputable def tOr(t u:TT):TT:=λσ H Q=>t σ H λc H1=>if c=true then Q true H1 else u σ H1 Q
noncomputable def MT(t:TT):TT:=λσ H Q=>t σ H λc H1=>Q (!c) H1
theorem zn8(ha:PT X a tA):PW X (.BoolOp .And [a] pos) tA:=by
 intro wh pins s σ H Q I h;refine isTrue_and (bQ (ha pins s σ H Q I h) λc s1 e=>?_);cases c with
 |true=>exact isTrue_and_nil e
 |false=>exact e
theorem YD(ha:PT X a tA):PW X (.BoolOp .Or [a] pos) tA:=by
 intro wh pins s σ H Q I h;refine isTrue_or (bQ (ha pins s σ H Q I h) λc s1 e=>?_);cases c with
 |false=>exact isTrue_or_nil e
 |true=>exact e
theorem YC(ha:PT X a tA)(hb:PW X (.BoolOp .And (b::rest) pos) Gf):PW X (.BoolOp .And (a::b::rest) pos) (Nb tA Gf):=by
 intro wh pins s σ H Q I h;refine isTrue_and (bQ (ha pins s σ H _ I h) λc s1 ⟨H1,I1,q1⟩=>?_);cases c with
 |true=>exact hb wh pins s1 σ H1 Q I1 q1
 |false=>exact⟨H1,I1,q1⟩
theorem Ym(ha:PT X a tA)(hb:PW X (.BoolOp .Or (b::rest) pos) Gf):PW X (.BoolOp .Or (a::b::rest) pos) (tOr tA Gf):=by
 intro wh pins s σ H Q I h;refine isTrue_or (bQ (ha pins s σ H _ I h) λc s1 ⟨H1,I1,q1⟩=>?_);cases c with
 |true=>exact⟨H1,I1,q1⟩
 |false=>exact hb wh pins s1 σ H1 Q I1 q1
def Yz(ha:PT X a tA):PT X (.UnaryOp .Not a pos) (MT tA):=by intro pins s σ H Q I h;exact isTrue_not (ha pins s σ H (λc H1=>Q (!c) H1) I h)
noncomputable def Aw(ta tb:TE):TE:=λσ H Q=>ta σ H λx H1=>∃c,x = .bl c/\if c=true then tb σ H1 Q else Q (.bl false) H1
noncomputable def MP(ta tb:TE):TE:=λσ H Q=>ta σ H λx H1=>∃c,x = .bl c/\if c=true then Q (.bl true) H1 else tb σ H1 Q
noncomputable def Aj(ta:TE):TE:=λσ H Q=>ta σ H λx H1=>∃c,x = .bl c/\Q (.bl (!c)) H1
def Zj{op}{t:TE}(h:PE X a t):PE X (.BoolOp op [a] pos) t:=λpins s σ H Q I hw=>BoolOp_one (h pins s σ H Q I hw)
theorem Zc(ha:PE X a ta)(hb:PE X (.BoolOp .And (b::rest) pos) tb):PE X (.BoolOp .And (a::b::rest) pos) (Aw ta tb):=by
 intro pins s σ H Q I h;refine BoolOp_and (bQ (ha pins s σ H _ I h) λv s1 ⟨x,H1,I1,r1,q1⟩=>?_);obtain⟨c,rfl,q1⟩:=q1;cases r1;refine wpAny_truthy_bool ?_;cases c with
 |true=>exact hb pins s1 σ H1 Q I1 q1
 |false=>exact⟨.bl false,H1,I1,rfl,q1⟩
theorem Yj(ha:PE X a ta)(hb:PE X (.BoolOp .Or (b::rest) pos) tb):PE X (.BoolOp .Or (a::b::rest) pos) (MP ta tb):=by
 intro pins s σ H Q I h;refine BoolOp_or (bQ (ha pins s σ H _ I h) λv s1 ⟨x,H1,I1,r1,q1⟩=>?_);obtain⟨c,rfl,q1⟩:=q1;cases r1;refine wpAny_truthy_bool ?_;cases c with
 |false=>exact hb pins s1 σ H1 Q I1 q1
 |true=>exact⟨.bl true,H1,I1,rfl,q1⟩
theorem Zi(ha:PE X a ta):PE X (.UnaryOp .Not a pos) (Aj ta):=by intro pins s σ H Q I h;refine UnaryOp_ (bQ (ha pins s σ H _ I h) λv s1 ⟨x,H1,I1,r1,q1⟩=>?_);obtain⟨c,rfl,q1⟩:=q1;cases r1;exact not_of (wpAny_truthy_bool ⟨.bl (!c),H1,I1,rfl,q1⟩)
noncomputable def tIf(t:TT)(ta tb:TE):TE:=λσ H Q=>t σ H λc H1=>if c=true then ta σ H1 Q else tb σ H1 Q
theorem zmh{c:Expr}(hc:PT X c tA)(ha:PE X a ta)(hb:PE X b tb):PE X (.IfExp c a b pos) (tIf tA ta tb):=by
 intro pins s σ H Q I h;refine wpAny_IfExp (bQ (hc pins s σ H _ I h) λd s1 ⟨H1,I1,q1⟩=>?_);cases d with
 |true=>exact ha pins s1 σ H1 Q I1 q1
 |false=>exact hb pins s1 σ H1 Q I1 q1
end
noncomputable def dG(K:FgA)(H:Hp)(a:Addr)(xs:List V):Prop :=
 Rd H a (.lst xs) \/
  ∃(o:Obj) (its:Array Value) (n:Nat),K.lookup a=some o/\o.cls = .type "list" /\ o.dict=none/\o.data = .seq its n/\its.size<=sizeLine/\Vals xs its.toList
noncomputable def dR(K:FgA)(H:Hp)(a:Addr)(xs:List V):Prop :=
 Rd H a (.tup xs) \/
  ∃(o:Obj) (its:Array Value) (n:Nat),K.lookup a=some o/\o.cls = .type "tuple" /\ o.data = .seq its n/\its.size<=sizeLine/\Vals xs its.toList
noncomputable def O3:Value->Option V
 |.none=>some .non
 |.bool b=>some (.bl b)
 |.int i _=>some (.int i)
 |.str x _=>some (.str x)
 |.bytes b _=>some (.byt b)
 |.float b _=>some (.flt b)
 |.ref a=>some (.ref a)
 |.type n=>some (.ty n)
 |_=>none
theorem RelV.abs{x:V}{u:Value}(r:RelV x u):O3 u=some x:=by
 cases x with
 |non=>cases r;rfl
 |bl _=>cases r;rfl
 |int _=>obtain⟨t,rfl⟩:=r;rfl
 |str _=>obtain⟨t,rfl⟩:=r;rfl
 |byt _=>obtain⟨t,rfl⟩:=r;rfl
 |flt _=>obtain⟨t,rfl⟩:=r;rfl
 |ref _=>cases r;rfl
 |ty _=>cases r;rfl
def RelV.inj{x y:V}{u:Value}(r:RelV x u)(q:RelV y u):x=y:=Option.some.inj (r.abs.symm.trans q.abs)
theorem Vals.inj:∀{xs ys:List V} {us:List Value},Vals xs us->Vals ys us->xs=ys
 |_,_,_,.nil,.nil=>rfl
 |_,_,_,.cons r t,.cons r' t'=>by rw[r.inj r',Vals.inj t t']
section
variable {X:Cx}{pins:List (Addr×Obj)}{σ:St}{H:Hp}{s:Shared}{a:Addr}{xs ys:List V}
def dG.of{K:FgA}(h:H a=some (.lst xs)):dG K H a xs := .inl (.inl h)
def dR.of{K:FgA}(h:H a=some (.tup xs)):dR K H a xs := .inl (.inl h)
theorem Inv.list(I:Inv X pins σ H s)(h:dG X.K H a xs):∃its:List Value,Vals xs its/\PlainL s.heap a its.toArray/\xs.length<=sizeLine:=by
 rcases h with h|⟨o,its,n,hk,hc,hd,hs,hz,r⟩
 .obtain⟨z,its,n,r,e⟩:=h.ok I.hok;exact⟨its,r,⟨_,n,e,rfl,rfl,rfl⟩,z⟩
 .refine⟨its.toList,r,⟨o,n,I.kIn a o hk,hc,hd,by simpa using hs⟩,?_⟩;have e:=r.length;simp only[Array.length_toList] at e;omega
theorem Inv.tuple(I:Inv X pins σ H s)(h:dR X.K H a xs):∃its:List Value,Vals xs its/\IsTup s.heap a its.toArray/\xs.length<=sizeLine:=by
 rcases h with h|⟨o,its,n,hk,hc,hs,hz,r⟩
 .obtain⟨z,its,r,p⟩:=h.ok I.hok;exact⟨its,r,p,z⟩
 .refine⟨its.toList,r,⟨o,I.kIn a o hk,hc,n,by simpa using hs⟩,?_⟩;have e:=r.length;simp only[Array.length_toList] at e;omega
theorem Inv.list_inj(I:Inv X pins σ H s)(h:dG X.K H a xs)(h':dG X.K H a ys):xs=ys:=by
 obtain⟨its,r,⟨o,n,e,_,_,d⟩,_⟩:=I.list h;obtain⟨its',r',⟨o',n',e',_,_,d'⟩,_⟩:=I.list h';rw[e] at e';cases e';rw[d] at d';injection d' with d1 _;have:its=its':=by simpa using congrArg Array.toList d1
 subst this;exact r.inj r'
theorem Inv.tuple_inj(I:Inv X pins σ H s)(h:dR X.K H a xs)(h':dR X.K H a ys):xs=ys:=by
 obtain⟨its,r,⟨o,e,_,n,d⟩,_⟩:=I.tuple h;obtain⟨its',r',⟨o',e',_,n',d'⟩,_⟩:=I.tuple h';rw[e] at e';cases e';rw[d] at d';injection d' with d1 _;have:its=its':=by simpa using congrArg Array.toList d1
 subst this;exact r.inj r'
end
noncomputable abbrev Cx.wish(X:Cx)(E:Value->Shared->Prop):Cx:={ X with xe:=E }
noncomputable abbrev Cx.nox(X:Cx):Cx:=X.wish λ_ _=>False
def Cx.Ok.wish{X:Cx}(ok:X.Ok)(E:Value->Shared->Prop):(X.wish E).Ok :=
 ⟨ok.mod,ok.kind,ok.glob,ok.blt,ok.above,ok.inj,ok.has,ok.cab,ok.hd,ok.frames,ok.stk,ok.exf,ok.bs,ok.bsz,ok.noex,ok.exfs,ok.funs,ok.frf⟩
def Cx.Ok.unwish{X:Cx}{E:Value->Shared->Prop}(ok:(X.wish E).Ok):X.Ok :=
 ⟨ok.mod,ok.kind,ok.glob,ok.blt,ok.above,ok.inj,ok.has,ok.cab,ok.hd,ok.frames,ok.stk,ok.exf,ok.bs,ok.bsz,ok.noex,ok.exfs,ok.funs,ok.frf⟩
section
variable {X:Cx}{pins:List (Addr×Obj)}{σ:St}{H:Hp}{s:Shared}{E:Value->Shared->Prop}
def Inv.wish(I:Inv X pins σ H s)(E:Value->Shared->Prop):Inv (X.wish E) pins σ H s:=⟨I.ok.wish E,I.os,I.bare,I.base,I.loc,I.cell,I.free,I.freeC,I.pin,I.hok,I.len⟩
def Inv.unwish(I:Inv (X.wish E) pins σ H s):Inv X pins σ H s:=⟨I.ok.unwish,I.os,I.bare,I.base,I.loc,I.cell,I.free,I.freeC,I.pin,I.hok,I.len⟩
theorem SP.unwish{D:uP}{f:Flow}{s':Shared}(h:SP (X.wish E) pins D f s'):SP X pins D f s':=by
 cases f with
 |next=>obtain⟨σ',H',I,q⟩:=h;exact⟨σ',H',I.unwish,q⟩
 |brk=>obtain⟨σ',H',I,q⟩:=h;exact⟨σ',H',I.unwish,q⟩
 |cont=>obtain⟨σ',H',I,q⟩:=h;exact⟨σ',H',I.unwish,q⟩
 |ret u=>obtain⟨v,σ',H',I,r,q⟩:=h;exact⟨v,σ',H',I.unwish,r,q⟩
def PE.nox{e:Expr}{t:TE}(h:PE X.nox e t):PE X e t:=λpins s σ H Q I hw =>
 jO (h pins s σ H Q (I.wish _) hw) (λ_ _ ⟨v,H',I',r,q⟩=>⟨v,H',I'.unwish,r,q⟩) λ_ _ z=>False.elim z
def jM.nox{st:List Stmt}{t:TS}(h:jM X.nox st t):jM X st t:=λpins s σ H D I hw =>
 jO (h pins s σ H D (I.wish _) hw) (λ_ _ q=>q.unwish) λ_ _ z=>False.elim z
end
section
variable {X:Cx}{st:Stmt}{rest:List Stmt}{t u:TS}{e:Expr}{te:TE}{pos:Pos}
noncomputable def G5:TS:=λD σ H=>D.nx σ H
noncomputable def MK(t u:TS):TS:=λD σ H=>t { D with nx:=u D } σ H
def zoc:jM X [] G5:=λ_ _ σ H _ I h=>wpAny_execs_nil ⟨σ,H,I,h⟩
theorem zl6(h1:PS X st t)(h2:jM X rest u):jM X (st::rest) (MK t u):=by
 intro pins s σ H D I h;refine wpAny_execs_cons (bQ (h1 pins s σ H { D with nx:=u D } I h) λf s1 q=>?_);cases f with
 |next =>
  obtain⟨σ',H',I',q⟩:=q;exact h2 pins s1 σ' H' D I' q
 |ret v=>exact q
 |brk=>exact q
 |cont=>exact q
noncomputable def vH:TS:=λD σ H=>D.bk σ H
noncomputable def Ao:TS:=λD σ H=>D.ct σ H
def zoe:PS X (.Pass pos) G5:=λ_ _ σ H _ I h=>wpAny_Pass ⟨σ,H,I,h⟩
def zl9:PS X (.Break pos) vH:=λ_ _ σ H _ I h=>wpAny_Break ⟨σ,H,I,h⟩
def zhG:PS X (.Continue pos) Ao:=λ_ _ σ H _ I h=>wpAny_Continue ⟨σ,H,I,h⟩
def Inv.quiet{pins:List (Addr×Obj)}{σ:St}{H:Hp}{s:Shared}(I:Inv X pins σ H s):interactive X.env=false:=by simp[interactive,I.ok.kind]
def Yu{x j pos pos'}:PS X (.Expr (.Constant (.str x) j pos) pos') G5:=λ_ s σ H _ I h=>wpAny_Expr (Calls.Constant_str (show SP X _ _ .next { s with toks:=s.toks+1 } from⟨σ,H,I.tok _,h⟩)) I.quiet
noncomputable def Am(te:TE):TS:=λD σ H=>te σ H λ_ H1=>D.nx σ H1
theorem zog(he:PE X e te)(hs:swapsWith e none pos.line X.env=pure false:=by rfl):PS X (.Expr e pos) (Am te):=by intro pins s σ H D I h;exact wpAny_Expr_any (bQ (he pins s σ H _ I h) λv s1 ⟨x,H1,I1,r1,q1⟩=>⟨σ,H1,I1,q1⟩) I.quiet hs
noncomputable def MN(te:TE):TS:=λD σ H=>te σ H D.rt
theorem Yx(he:PE X e te):PS X (.Return (some e) pos) (MN te):=by intro pins s σ H D I h;exact wpAny_Return_some (bQ (he pins s σ H _ I h) λv s1 ⟨x,H1,I1,r1,q1⟩=>⟨x,σ,H1,I1,r1,q1⟩)
noncomputable def Ag:TS:=λD _ H=>D.rt .non H
def zod:PS X (.Return none pos) Ag:=λ_ _ σ H _ I h=>wpAny_Return_none ⟨.non,σ,H,I,rfl,h⟩
noncomputable def M6(c:TT)(t u:TS):TS:=λD σ H=>c σ H λb H1=>if b=true then t D σ H1 else u D σ H1
theorem Yl{c:Expr}{a b:List Stmt}{tc:TT}(hc:PT X c tc)(ha:jM X a t)(hb:jM X b u):PS X (.If c a b pos) (M6 tc t u):=by
 intro pins s σ H D I h;refine wpAny_If (bQ (hc pins s σ H _ I h) λd s1 ⟨H1,I1,q1⟩=>?_);cases d with
 |true=>exact ha pins s1 σ H1 D I1 q1
 |false=>exact hb pins s1 σ H1 D I1 q1
end
noncomputable abbrev TG:=V->St->Hp->(St->Hp->Prop)->Prop
noncomputable abbrev qw:=List V->St->Hp->(St->Hp->Prop)->Prop
noncomputable def PG(X:Cx)(target:Expr)(t:TG):Prop :=
 ∀(pins:List (Addr×Obj)) (s:Shared) (σ:St) (H:Hp) (v:V) (u:Value) (Q:St->Hp->Prop),Inv X pins σ H s->RelV v u->t v σ H Q ->
  wpAny (model X.prog X.w) X.A (assign target X.env u) (λ_ s'=>∃σ' H',Inv X pins σ' H' s'/\Q σ' H') X.xe s
noncomputable def yN(X:Cx)(ts:List Expr)(t:qw):Prop :=
 ∀(pins:List (Addr×Obj)) (s:Shared) (σ:St) (H:Hp) (vs:List V) (us:List Value) (Q:St->Hp->Prop),Inv X pins σ H s->Vals vs us->t vs σ H Q ->
  wpAny (model X.prog X.w) X.A (assignInOrder ((assignEach ts X.env).map (·.2)) us) (λ_ s'=>∃σ' H',Inv X pins σ' H' s'/\Q σ' H') X.xe s
section
variable {X:Cx}{pos:Pos}
noncomputable def uf(i:Nat):TG:=λv σ H Q=>Q (σ.set i (some v)) H
theorem zom{i:Nat}{x:Str}(hN:X.N.Nodup)(hi:X.N[i]?=some x)(hx:Loc X.env.scope x)(hf:X.fn x=true\/X.env.scope.names.lookup x=some .local:=by first|exact .inl rfl|exact .inr rfl|assumption):PG X (.Name x pos) (uf i):=by intro pins s σ H v u Q I r h;exact wpAny_assign_Name (yd I hN hi hx r (λs' I'=>⟨_,H,I',h⟩) hf)
noncomputable def Ot:qw:=λvs σ H Q=>vs=[]/\Q σ H
noncomputable def Cp(t:TG)(u:qw):qw:=λvs σ H Q=>∃v r,vs=v::r/\t v σ H λσ' H'=>u r σ' H' Q
def zok:yN X [] Ot:=by intro pins s σ H vs us Q I r h;obtain⟨e,h⟩:=h;subst e;cases r;exact assignInOrder_nil ⟨σ,H,I,h⟩
theorem zme{e:Expr}{es:List Expr}{t:TG}{u:qw}(h1:PG X e t)(h2:yN X es u)(hs:(assignEach (e::es) X.env).map (·.2)=assign e X.env::(assignEach es X.env).map (·.2):=by rfl):yN X (e::es) (Cp t u):=by
 intro pins s σ H vs us Q I r h;obtain⟨v,vr,e1,h⟩:=h;subst e1;cases r with
 |cons r rr =>
  rw[hs];refine assignInOrder_cons (bQ (h1 pins s σ H _ _ _ I r h) λ_ s1 ⟨σ1,H1,I1,q1⟩=>?_);exact h2 pins s1 σ1 H1 _ _ Q I1 rr q1
noncomputable def cD(K:FgA)(n:Nat)(t:qw):TG:=λv σ H Q=>∃a xs,v = .ref a/\dR K H a xs/\xs.length=n/\t xs σ H Q
theorem Yq{es:List Expr}{k:Nat}{t:qw}{n:Nat}(hc:X.calm=true)(h:yN X es t)(hn:(assignEach es X.env).length=n:=by rfl)(hst:(assignEach es X.env).findIdx? (·.1)=none:=by rfl):PG X (.Tuple es k pos) (cD X.K n t):=by intro pins s σ H v u Q I r hw;obtain⟨a,xs,e1,hq,hl,hw⟩:=hw;subst e1;cases r;obtain⟨its,rv,ht,hz⟩:=I.tuple hq;refine assign_Tuple_tuple (I.ok.hd hc) ht (by simp[hn,<-hl,rv.length]) hst λh' hx=>?_;have I1:Inv X pins σ H { s with heap:=h' }:=I.kept (t':=s.toks) λb o e=>hx b o (dz (cG e)) e;exact h pins _ σ H xs _ Q I1 (by simpa using rv) hw
noncomputable def Av(te:TE)(g:TG):TS:=λD σ H=>te σ H λx H1=>g x σ H1 D.nx
theorem Yt{tg e:Expr}{te:TE}{g:TG}(he:PE X e te)(hg:PG X tg g)(hs:swapsWithSole [tg] e pos.line X.env=pure false:=by rfl)(hw:swappedStores [tg] e X.env=pure none:=by rfl)(h1:(assignEach [tg] X.env).map (·.2)=[assign tg X.env]:=by rfl):PS X (.Assign [tg] e pos) (Av te g):=by intro pins s σ H D I h;refine wpAny_Assign_stores (bQ (he pins s σ H _ I h) λv s1 ⟨x,H1,I1,r1,q1⟩=>?_) hs hw;rw[h1];exact bQ (hg pins s1 σ H1 x v _ I1 r1 q1) λ_ s2 q=>q
theorem Yy{i:Nat}{x:Str}{e:Expr}{te:TE}{pos':Pos}(hN:X.N.Nodup)(hi:X.N[i]?=some x)(hx:Loc X.env.scope x)(he:PE X e te)(hs:swapsWith e (some (.Name x pos')) pos.line X.env=pure false:=by rfl)(hf:X.fn x=true\/X.env.scope.names.lookup x=some .local:=by first|exact .inl rfl|exact .inr rfl|assumption):
 PS X (.Assign [.Name x pos'] e pos) (Av te (uf i)):=by
 intro pins s σ H D I h;refine wpAny_Assign_Name (bQ (he pins s σ H _ I h) λv s1 ⟨y,H1,I1,r1,q1⟩=>?_) hs;exact yd I1 hN hi hx r1 (λs2 I2=>⟨_,H1,I2,q1⟩) hf
end
section
variable {X:Cx}{pos:Pos}
noncomputable def vG(c:TT)(tb:TS):TS:=λD σ H=>∃W:Nat->St->Hp->Prop,(∃m,W m σ H)/\∀m σ H,W m σ H ->
 c σ H λb H1=>if b=true then ∃N:St->Hp->Prop,(∀σ' H',N σ' H'->∃m',m'<m/\W m' σ' H')/\tb { D with nx:=N,ct:=N,bk:=D.nx } σ H1 else D.nx σ H1
theorem zl7{c:Expr}{body:List Stmt}{tc:TT}{tb:TS}(hp:PassesOwn (model X.prog X.w) X.A X.env X.xe)(hc:PT X c tc)(hb:jM X body tb):PS X (.While c body [] pos) (vG tc tb):=by
 intro pins s σ H D I h;obtain⟨W,⟨m0,w0⟩,turn⟩:=h;refine wpAny_While (codeAny_whileLoop (λn s'=>∃σ' H',Inv X pins σ' H' s'/\W n σ' H') ?_ m0 ⟨σ,H,I,w0⟩)
 rintro n s1 ⟨σ1,H1,I1,w1⟩
 refine wpAny_passesOwn hp (bQ (hc pins s1 σ1 H1 _ I1 (turn n σ1 H1 w1)) λb s2 ⟨H2,I2,q2⟩=>?_);cases b with
 |true =>
  obtain⟨N,hN,q2⟩:=q2;rw[if_pos rfl];refine wpAny_passesOwn hp (bQ (hb pins s2 σ1 H2 _ I2 q2) λf s3 q3=>?_);cases f with
  |next =>
   obtain⟨σ3,H3,I3,n3⟩:=q3;obtain⟨m',hm,w3⟩:=hN σ3 H3 n3;exact⟨m',hm,σ3,H3,I3,w3⟩
  |cont =>
   obtain⟨σ3,H3,I3,n3⟩:=q3;obtain⟨m',hm,w3⟩:=hN σ3 H3 n3;exact⟨m',hm,σ3,H3,I3,w3⟩
  |brk=>exact q3
  |ret v=>exact q3
 |false =>
  rw[if_neg gA];exact wpAny_execs_nil ⟨σ1,H2,I2,q2⟩
end
structure It where
 go:Nat->Hp->Prop
 yld:Nat->Hp->V->Hp->Prop
 stop:Nat->Hp->Prop
noncomputable def jY(X:Cx)(pins:List (Addr×Obj))(H:Hp)(b:Addr):Prop :=
 H b=none/\b≠X.env.locals/\b∉X.fs/\(b∈X.ex\/X.s₀.heap.objs.size<=b)/\(∀x c,X.env.cells.lookup x=some c->c≠b)/\∀p∈X.pn++pins,p.1≠b
theorem Inv.fpOk{X:Cx}{pins:List (Addr×Obj)}{σ:St}{H H':Hp}{s:Shared}{b:Addr}(I:Inv X pins σ H s)(hb:s.heap.objs.size<=b)(hn:H' b=none):jY X pins H' b:=by
 refine⟨hn,Nat.ne_of_gt (dM I.lt hb),I.nofs hb,.inr (Nat.le_trans I.sz hb),λx c e z=>?_,λp hp z=>?_⟩
 .obtain⟨v,q⟩:=I.cell x c e;exact absurd (dM q.lt (by rw[z];exact hb)) (iw _)
 .exact absurd (dM (cG (I.pin p hp).1) (by rw[z];exact hb)) (iw _)
structure uG(P:Program)(w:World)(K:FgA)(tg:Expr)(J:It)(fp:List Addr)(it:Addr)(tn:Nat->Heap->Prop):Prop where
 mem:it∈fp
 obj:∀i h,tn i h->∀b∈fp,∃o,h.get? b=some o/\∀v,o.data ≠ .cell v
 keep:∀i h h',tn i h->(∀b∈fp,∀o,h.get? b=some o->h'.get? b=some o)->tn i h'
 item:∀(X:Cx),X.prog=P->X.w=w->X.K=K->X.calm=true->∀(i:Nat) (pins:List (Addr×Obj)) (s:Shared) (σ:St) (H:Hp) (E:Value->Shared->Prop),Inv X pins σ H s->(∀b∈fp,jY X pins H b)->tn i s.heap->J.go i H ->
  wpAny (model P w) X.A (pyNext (.ref it)) (λr s1=>∃u,r=some u /\
   wpAny (model P w) X.A (letOwnedTupleGo tg (.ref it) u) (λ_ s2=>∃x H',Inv X pins σ H' s2/\RelV x u/\J.yld i H x H'/\tn (i+1) s2.heap/\∀b∈fp,H' b=none) E s1) E s
 done:∀(X:Cx),X.prog=P->X.w=w->X.K=K->X.calm=true->∀(i:Nat) (pins:List (Addr×Obj)) (s:Shared) (σ:St) (H:Hp) (E:Value->Shared->Prop),Inv X pins σ H s->(∀b∈fp,jY X pins H b)->tn i s.heap->J.stop i H ->
  wpAny (model P w) X.A (pyNext (.ref it)) (λr s1=>r=none/\Inv X pins σ H s1) E s
 self:∀(A:Around) (i:Nat) (s:Shared) (Q:Value->Shared->Prop) (E:Value->Shared->Prop),tn i s.heap->Q (.ref it) s->wpAny (model P w) A (pyIter (.ref it)) Q E s
noncomputable abbrev TI:=St->Hp->(It->Hp->Prop)->Prop
noncomputable def PIE(X:Cx)(pins:List (Addr×Obj))(σ:St)(tg:Expr)(R:It->Hp->Prop)(itv:Value)(s2:Shared):Prop :=
 ∃(it:Addr) (fp:List Addr) (tn:Nat->Heap->Prop) (J:It) (H':Hp),itv = .ref it/\Inv X pins σ H' s2/\uG X.prog X.w X.K tg J fp it tn/\tn 0 s2.heap/\(∀b∈fp,jY X pins H' b)/\R J H'
noncomputable def PI(X:Cx)(tg iter:Expr)(wi:TI):Prop :=
 ∀(pins:List (Addr×Obj)) (s:Shared) (σ:St) (H:Hp) (R:It->Hp->Prop),Inv X pins σ H s->wi σ H R ->
  wpAny (model X.prog X.w) X.A (eval iter X.env) (λv s1=>wpAny (model X.prog X.w) X.A (pyIter v) (PIE X pins σ tg R) X.xe s1) X.xe s
theorem Hu{M:Model}{A:Around}{E:Value->Shared->Prop}{s:Shared}{tg:Expr}{it:Addr}{u:Value}{o:Obj}{n:String}{vs:Array Value}{Q:Unit->Shared->Prop}(ho:s.heap.get? it=some o)(hc:o.cls = .type n)(hd:o.data = .fields vs)(hn:["enumerate", "zip", "dict_itemiterator", "dict_reverseitemiterator", "odict_iterator", "itertools.zip_longest", "itertools.pairwise"].contains n=false)(hQ:Q () s):wpAny M A (letOwnedTupleGo tg (.ref it) u) Q E s:=by
 unfold letOwnedTupleGo;cases tg<;>first
  |exact b7 hQ
  | (cases u<;>first
   |exact b7 hQ
   | (refine aO (wpAny_load ho ?_)
      rw[hc,hd];show wpAny M A (if(["enumerate", "zip", "dict_itemiterator", "dict_reverseitemiterator", "odict_iterator", "itertools.zip_longest", "itertools.pairwise"].contains n&&vs[0]?==some (rawInt _))=true then _ else _) Q E s;rw[if_neg (by intro h;rw[hn,Bool.false_and] at h;cases h)];exact b7 hQ))
noncomputable def yO(K:FgA)(a:Addr):It :=
 ⟨λi H=>∃xs x,dG K H a xs/\xs[i]?=some x,λi H x H'=>H'=H/\∀xs,dG K H a xs->xs[i]?=some x,λi H=>∃xs,dG K H a xs/\xs.length<=i⟩
noncomputable def O8(K:FgA)(a:Addr):It :=
 ⟨λi H=>∃xs x,dR K H a xs/\xs[i]?=some x,λi H x H'=>H'=H/\∀xs,dR K H a xs->xs[i]?=some x,λi H=>∃xs,dR K H a xs/\xs.length<=i⟩
noncomputable def CP(lo:Int)(n:Nat):It:=⟨λi _=>i<n,λi H x H'=>H'=H/\x = .int (lo+i),λi _=>n<=i⟩
theorem zjL{P:Program}{w:World}{K:FgA}{tg:Expr}(a it:Addr):uG P w K tg (yO K a) [it] it (λi h=>h.IsListIter it a i) where
 mem:=by simp
 obj:=λi h st b hb=>by
  have e:b=it:=by simpa using hb
  subst e;obtain⟨o,e,c,d⟩:=st;exact⟨o,e,λv z=>by rw[d] at z;cases z⟩
 keep:=λi h h' st k=>st.at λo e=>k it (by simp) o e
 item:=by intro X hP hw hK hc i pins s σ H E I hf st hg;subst hP hw hK;obtain⟨xs,x,hq,hx⟩:=hg;obtain⟨its,rv,p,hz⟩:=I.list hq;obtain⟨u,hu,ru⟩:=rv.get hx;obtain⟨f0,f1,f2,f3,f4,f5⟩:=hf it (by simp);refine wpAny_pyNext_list_item st p.isList (x:=u) (by simpa using hu) λh' st' sb=>?_;have I1:Inv X pins σ H { s with heap:=h' }:=I.turned (t':=s.toks) (λb o hb e=>(sb.2 b hb).trans e) f0 f1 f3 f4 f5;obtain⟨o,e,c,d⟩:=id st';exact⟨u,rfl,Hu (s:={ s with heap:=h' }) e c d (by decide) ⟨x,H,I1,ru,⟨rfl,λys hy=>by rw[I.list_inj hy hq];exact hx⟩,st',λb hb=>(hf b hb).1⟩⟩
 done:=by intro X hP hw hK hc i pins s σ H E I hf st hg;subst hP hw hK;obtain⟨xs,hq,hx⟩:=hg;obtain⟨its,rv,p,hz⟩:=I.list hq;obtain⟨f0,f1,f2,f3,f4,f5⟩:=hf it (by simp);have hl:=rv.length;exact wpAny_pyNext_list_end (I.ok.hd hc) st p.isList (by simp;omega) λh' eb=>⟨rfl,I.turned (t':=s.toks) (λb o hb e=>eb b o hb e) f0 f1 f3 f4 f5⟩
 self:=λ_ _ _ _ _ st h=>wpAny_pyIter_listiter st h
theorem zi0{P:Program}{w:World}{K:FgA}{tg:Expr}(a it:Addr):uG P w K tg (O8 K a) [it] it (λi h=>h.IsTupleIter it a i) where
 mem:=by simp
 obj:=λi h st b hb=>by
  have e:b=it:=by simpa using hb
  subst e;obtain⟨o,e,c,d⟩:=st;exact⟨o,e,λv z=>by rw[d] at z;cases z⟩
 keep:=λi h h' st k=>st.at λo e=>k it (by simp) o e
 item:=by intro X hP hw hK hc i pins s σ H E I hf st hg;subst hP hw hK;obtain⟨xs,x,hq,hx⟩:=hg;obtain⟨its,rv,p,hz⟩:=I.tuple hq;obtain⟨u,hu,ru⟩:=rv.get hx;obtain⟨f0,f1,f2,f3,f4,f5⟩:=hf it (by simp);refine wpAny_pyNext_tuple_item st (show s.heap.IsTuple a its.toArray from p) (x:=u) (by simpa using hu) λh' st' sb=>?_;have I1:Inv X pins σ H { s with heap:=h' }:=I.turned (t':=s.toks) (λb o hb e=>(sb.2 b hb).trans e) f0 f1 f3 f4 f5;obtain⟨o,e,c,d⟩:=id st';exact⟨u,rfl,Hu (s:={ s with heap:=h' }) e c d (by decide) ⟨x,H,I1,ru,⟨rfl,λys hy=>by rw[I.tuple_inj hy hq];exact hx⟩,st',λb hb=>(hf b hb).1⟩⟩
 done:=by intro X hP hw hK hc i pins s σ H E I hf st hg;subst hP hw hK;obtain⟨xs,hq,hx⟩:=hg;obtain⟨its,rv,p,hz⟩:=I.tuple hq;obtain⟨f0,f1,f2,f3,f4,f5⟩:=hf it (by simp);have hl:=rv.length;exact wpAny_pyNext_tuple_end (I.ok.hd hc) st (show s.heap.IsTuple a its.toArray from p) (by simp;omega) λh' eb=>⟨rfl,I.turned (t':=s.toks) (λb o hb e=>eb b o hb e) f0 f1 f3 f4 f5⟩
 self:=λ_ _ _ _ _ st h=>wpAny_pyIter_tupleiter st h
theorem zi1{P:Program}{w:World}{K:FgA}{tg:Expr}(it:Addr)(lo:Int)(n:Nat):uG P w K tg (CP lo n) [it] it (λi h=>IsRangeIter h it (lo+(i:Nat)*1) ((n:Int) - (i:Nat)) 1) where
 mem:=by simp
 obj:=λi h st b hb=>by
  have e:b=it:=by simpa using hb
  subst e;exact⟨_,st,λv z=>by
   have z':Data.fields _=Data.cell v:=z;cases z'⟩
 keep:=λi h h' st k=>k it (by simp) _ st
 item:=by intro X hP hw hK hc i pins s σ H E I hf st hg;subst hP hw hK;obtain⟨f0,f1,f2,f3,f4,f5⟩:=hf it (by simp);have W:=Walks.range (prog:=X.prog) (w:=X.w) (I.ok.hd hc) it lo 1 n;refine W.item i s _ _ hg st λv h' tk hv st' kk=>?_;obtain⟨t,rfl⟩:=hv;have I1:Inv X pins σ H { s with heap:=h',toks:=tk }:=I.turned (λb o hb e=>kk b o (by simpa using hb) e) f0 f1 f3 f4 f5;refine⟨_,rfl,Hu (s:={ s with heap:=h',toks:=tk }) (n := "range_iterator") st' rfl rfl (by decide) ⟨.int (lo+i),H,I1,⟨t,?_⟩,⟨rfl,rfl⟩,st',λb hb=>(hf b hb).1⟩⟩;rw[Int.mul_one]
 done:=by intro X hP hw hK hc i pins s σ H E I hf st hg;subst hP hw hK;obtain⟨f0,f1,f2,f3,f4,f5⟩:=hf it (by simp);exact wpAny_pyNext_range_end (I.ok.hd hc) st (by have:n<=i:=hg;omega) λh' eb=>⟨rfl,I.turned (t':=s.toks) (λb o hb e=>eb b o hb e) f0 f1 f3 f4 f5⟩
 self:=λ_ _ _ _ _ st h=>wpAny_pyIter_rangeiter st h
section
variable {X:Cx}{tg:Expr}
noncomputable def BV(K:FgA)(tl:TE):TI:=λσ H R=>tl σ H λx H1=>∃a,x = .ref a/\(∃xs,dG K H1 a xs)/\R (yO K a) H1
noncomputable def Ob(K:FgA)(tl:TE):TI:=λσ H R=>tl σ H λx H1=>∃a,x = .ref a/\(∃xs,dR K H1 a xs)/\R (O8 K a) H1
theorem zoj{l:Expr}{tl:TE}(hl:PE X l tl):PI X tg l (BV X.K tl):=by
 intro pins s σ H R I h;refine bQ (hl pins s σ H _ I h) λv s1 ⟨x,H1,I1,r1,q1⟩=>?_;obtain⟨a,e,⟨xs,hq⟩,q⟩:=q1;subst e;cases r1;obtain⟨its,rv,p,hz⟩:=I1.list hq;refine wpAny_pyIter_list p.isList ?_;refine⟨s1.heap.objs.size,[s1.heap.objs.size],_,_,H1,rfl,I1.kept (t':=s1.toks) λb o e=>dm _ e,zjL a _,⟨_,gw _ rfl,rfl,rfl⟩,λb hb=>?_,q⟩;have e:b=s1.heap.objs.size:=by simpa using hb
 subst e;exact I1.fpOk (bZ _) (I1.hok.fresh (bZ _))
theorem Yr{l:Expr}{tl:TE}(hl:PE X l tl):PI X tg l (Ob X.K tl):=by
 intro pins s σ H R I h;refine bQ (hl pins s σ H _ I h) λv s1 ⟨x,H1,I1,r1,q1⟩=>?_;obtain⟨a,e,⟨xs,hq⟩,q⟩:=q1;subst e;cases r1;obtain⟨its,rv,p,hz⟩:=I1.tuple hq;refine wpAny_pyIter_tuple (show s1.heap.IsTuple a its.toArray from p) ?_;refine⟨s1.heap.objs.size,[s1.heap.objs.size],_,_,H1,rfl,I1.kept (t':=s1.toks) λb o e=>dm _ e,zi0 a _,⟨_,gw _ rfl,rfl,rfl⟩,λb hb=>?_,q⟩;have e:b=s1.heap.objs.size:=by simpa using hb
 subst e;exact I1.fpOk (bZ _) (I1.hok.fresh (bZ _))
theorem RW{pins:List (Addr×Obj)}{σ:St}{H:Hp}{s:Shared}{R:It->Hp->Prop}{E:Value->Shared->Prop}{lo hi:Int}{t u v:Tok}{tk:Nat}(I:Inv X pins σ H s)(h1 : -(2 ^ 62)<=lo)(h2:lo<2 ^ 62)(h3 : -(2 ^ 62)<=hi)(h4:hi<2 ^ 62)(q:R (CP lo (hi - lo).toNat) H):wpAny (model X.prog X.w) X.A (pyIter (.ref s.heap.objs.size)) (PIE X pins σ tg R) E { s with heap:=s.heap.push { cls := .type "range",data := .fields #[.int lo t,.int hi u,.int 1 v] },toks:=tk }:=by
 refine wpAny_pyIter_range (IsRange.new ..) (small_one h1 h2 h3 h4) ?_;have I1:Inv X pins σ H { s with heap:=s.heap.push { cls := .type "range",data := .fields #[.int lo t,.int hi u,.int 1 v] },toks:=tk }:=I.kept λb o e=>dm _ e;refine⟨(s.heap.push { cls := .type "range",data := .fields #[.int lo t,.int hi u,.int 1 v] }).objs.size,[(s.heap.push { cls := .type "range",data := .fields #[.int lo t,.int hi u,.int 1 v] }).objs.size],_,_,H,rfl,
  I1.kept (t':=tk) λb o e=>dm _ e,zi1 _ lo (hi - lo).toNat,?_,λb hb=>?_,q⟩
 .have e1:lo+((0:Nat):Int)*1=lo:=by simp
  have e2:(((hi - lo).toNat:Nat):Int) - ((0:Nat):Int)=Builtin.Range.rangeSize lo hi 1:=by rw[rangeSize_one];split<;>omega
  show IsRangeIter _ _ (lo+((0:Nat):Int)*1) ((((hi - lo).toNat:Nat):Int) - ((0:Nat):Int)) 1;rw[e1,e2];exact gw _ rfl
 .have e:b=(s.heap.push { cls := .type "range",data := .fields #[.int lo t,.int hi u,.int 1 v] }).objs.size:=by simpa using hb
  subst e;exact I1.fpOk (bZ _) (I1.hok.fresh (bZ _))
noncomputable def BR(ta:TA):TI:=λσ H R=>ta σ H λvs H1=>∃j:Int,vs=[.int j] /\ -(2 ^ 62)<=j/\j<2 ^ 62/\R (CP 0 j.toNat) H1
noncomputable def BP(ta:TA):TI:=λσ H R=>ta σ H λvs H1=>∃i j:Int,vs=[.int i,.int j]/\(-(2 ^ 62)<=i/\i<2 ^ 62 /\ -(2 ^ 62)<=j/\j<2 ^ 62)/\R (CP i (j - i).toNat) H1
theorem zkk{a:Expr}{ta:TA}{p pos:Pos}(hg:Gl X "range")(hm:X.mg "range" = none)(ha:PA X [a] ta)(hs:starEach [a] X.env=[(false,eval a X.env)]:=by rfl):PI X tg (.Call (.Name "range" p) [a] [] pos) (BR ta):=by
 intro pins s σ H R I h;refine Call_ (sZ I hg hm boot_range (PyProof.Rows.callWith_type1 (bQ (ha pos pins s σ H _ I h) λus s1 ⟨vs,H1,I1,r1,q1⟩=>?_) hs rfl));obtain⟨j,e,q1,q2,q⟩:=q1;subst e;cases r1 with
 |cons r rr =>
  cases rr;obtain⟨t,rfl⟩:=r;exact call_range_1 (RW I1 (by omega) (by omega) q1 q2 (by simpa using q))
theorem zkj{a b:Expr}{ta:TA}{p pos:Pos}(hg:Gl X "range")(hm:X.mg "range" = none)(ha:PA X [a,b] ta)(hs:starEach [a,b] X.env=[(false,eval a X.env),(false,eval b X.env)]:=by rfl)(hs2:starEach [b] X.env=[(false,eval b X.env)]:=by rfl):
 PI X tg (.Call (.Name "range" p) [a,b] [] pos) (BP ta):=by
 intro pins s σ H R I h;refine Call_ (sZ I hg hm boot_range (PyProof.Rows.callWith_type1 (bQ (ha pos pins s σ H _ I h) λus s1 ⟨vs,H1,I1,r1,q1⟩=>?_) (by rw[hs,hs2]) (by rw[hs2];rfl)));obtain⟨i,j,e,⟨q1,q2,q3,q4⟩,q⟩:=q1;subst e;cases r1 with
 |cons r rr =>
  cases rr with
  |cons r' rr =>
   cases rr;obtain⟨t,rfl⟩:=r;obtain⟨t',rfl⟩:=r';exact call_range_2 (RW I1 q1 q2 q3 q4 q)
noncomputable def M7(wi:TI)(g:TG)(tb:TS):TS:=λD σ H=>wi σ H λJ H1=>∃W:Nat->Nat->St->Hp->Prop,(∃m,W 0 m σ H1)/\∀i m σ H,W i m σ H ->
 (J.stop i H/\D.nx σ H)\/(J.go i H/\∃N:St->Hp->Prop,(∀σ' H',N σ' H'->∃m',m'<m/\W (i+1) m' σ' H')/\∀x H',J.yld i H x H'->g x σ H' λσ2 H2=>tb { D with nx:=N,ct:=N,bk:=D.nx } σ2 H2)
noncomputable def zc(fp:List Addr)(h:Heap):List (Addr×Obj):=fp.filterMap λb=>(h.get? b).map λo=>(b,o)
def J5{fp:List Addr}{h:Heap}{b:Addr}{o:Obj}(hb:b∈fp)(e:h.get? b=some o):(b,o)∈zc fp h:=List.mem_filterMap.mpr ⟨b,hb,by rw[e];rfl⟩
theorem zkn{fp:List Addr}{h:Heap}{p:Addr×Obj}(hp:p∈zc fp h):p.1∈fp/\h.get? p.1=some p.2:=by
 obtain⟨b,hb,e⟩:=List.mem_filterMap.mp hp;cases q:h.get? b with
 |none=>rw[q] at e;cases e
 |some o =>
  rw[q] at e;have e':(b,o)=p:=Option.some.inj e;subst e';exact⟨hb,q⟩
theorem Inv.pinned{pins:List (Addr×Obj)}{σ:St}{H:Hp}{s:Shared}{fp:List Addr}(I:Inv X pins σ H s)(hf:∀b∈fp,jY X pins H b)(ho:∀b∈fp,∃o,s.heap.get? b=some o/\∀v,o.data ≠ .cell v):Inv X (pins++zc fp s.heap) σ H s :=
 I.pins_of λp hp=>(lZ.mp hp).elim (λz=>I.pin p (List.mem_append_right _ z)) λz=>by obtain⟨hb,e⟩:=zkn z;obtain⟨f0,f1,f2,_⟩:=hf p.1 hb;obtain⟨o,e',d⟩:=ho p.1 hb;rw[e] at e';cases e';exact⟨e,f0,f1,f2,d⟩
def Inv.unpinned{pins pl:List (Addr×Obj)}{σ:St}{H:Hp}{s:Shared}(I:Inv X (pins++pl) σ H s):Inv X pins σ H s:=I.pins_of λp hp=>I.pin p (List.mem_append_right _ (List.mem_append_left _ hp))
theorem Yw{iter:Expr}{body:List Stmt}{wi:TI}{g:TG}{tb:TS}{pos:Pos}(hp:PassesOwn (model X.prog X.w) X.A X.env X.xe)(hc:X.calm=true)(hi:PI X tg iter wi)(hg:PG X tg g)(hb:jM X body tb)(hs:∀x,foldedSetIterable iter X.env x=pure x:=by intro _;rfl):PS X (.For tg iter body [] pos) (M7 wi g tb):=by
 intro pins s σ H D I h;refine wpAny_For (bQ (hi pins s σ H _ I h) λv s1 h1=>bQ h1 λitv s2 h2=>?_) hs;obtain⟨it,fp,tn,J,H2,e,I2,T,st2,f2,W,⟨m0,w0⟩,turn⟩:=h2;subst e;have stat:∀{H':Hp},(∀b∈fp,H' b=none)->∀b∈fp,jY X pins H' b:=λhn b hb=>⟨hn b hb,(f2 b hb).2⟩
 refine codeAny_forLoop_any (λn s'=>∃i σ' H',Inv X pins σ' H' s'/\tn i s'.heap/\(∀b∈fp,H' b=none)/\W i n σ' H') ?_ m0 ⟨0,σ,H2,I2,st2,λb hb=>(f2 b hb).1,w0⟩
 rintro n s3 ⟨i,σ3,H3,I3,st3,Gp,w3⟩
 rcases turn i n σ3 H3 w3 with⟨stop,qn⟩|⟨go,N,hN,step⟩
 .refine wpAny_passesOwn hp (bQ (T.done X rfl rfl rfl hc i pins s3 σ3 H3 X.xe I3 (stat Gp) st3 stop) λr s4 ⟨hr,I4⟩=>?_);subst hr;exact wpAny_execs_nil ⟨σ3,H3,I4,qn⟩
 .refine wpAny_passesOwn hp (bQ (T.item X rfl rfl rfl hc i pins s3 σ3 H3 X.xe I3 (stat Gp) st3 go) λr s4 ⟨u,hr,h4⟩=>?_);subst hr;refine wpAny_passesOwn hp (bQ h4 λ_ s5 ⟨x,H5,I5,r5,y5,vJ,Ou⟩=>?_);have Pa:=I5.pinned (stat Ou) (T.obj _ _ vJ);refine wpAny_passesOwn hp (bQ (hg _ s5 σ3 H5 x u _ Pa r5 (step x H5 y5)) λ_ s6 ⟨σ6,H6,I6,q6⟩=>?_);refine wpAny_passesOwn hp (bQ (hb _ s6 σ6 H6 _ I6 q6) λf s7 q7=>?_);have again:∀{σ7:St} {H7:Hp},Inv X (pins++zc fp s5.heap) σ7 H7 s7->N σ7 H7->∃m,m<n/\∃i σ' H',Inv X pins σ' H' s7/\tn i s7.heap/\(∀b∈fp,H' b=none)/\W i m σ' H':=λ{σ7 H7} I7 n7=>by obtain⟨m',hm,w7⟩:=hN σ7 H7 n7;refine⟨m',hm,i+1,σ7,H7,I7.unpinned,T.keep _ _ _ vJ λb hb o e=>(I7.pin (b,o) (List.mem_append_right _ (List.mem_append_right _ (J5 hb e)))).1,λb hb=>?_,w7⟩;obtain⟨o,e,d⟩:=T.obj _ _ vJ b hb;exact(I7.pin (b,o) (List.mem_append_right _ (List.mem_append_right _ (J5 hb e)))).2.1
  cases f with
  |next=>obtain⟨σ7,H7,I7,n7⟩:=q7;exact again I7 n7
  |cont=>obtain⟨σ7,H7,I7,n7⟩:=q7;exact again I7 n7
  |brk=>obtain⟨σ7,H7,I7,q7⟩:=q7;exact⟨σ7,H7,I7.unpinned,q7⟩
  |ret v=>obtain⟨x7,σ7,H7,I7,r7,q7⟩:=q7;exact⟨x7,σ7,H7,I7.unpinned,r7,q7⟩
end
noncomputable abbrev R2:=V->V->Hp->VK->Prop
noncomputable def fC(X:Cx)(f:Value->Value->Sem Value)(r:R2):Prop :=
 ∀(pins:List (Addr×Obj)) (s:Shared) (σ:St) (H:Hp) (x y:V) (v u:Value) (Q:VK),Inv X pins σ H s->RelV x v->RelV y u->r x y H Q ->
  wpAny (model X.prog X.w) X.A (f v u) (EP X pins σ Q) X.xe s
noncomputable def O5(X:Cx)(f:Value->Sem Value)(r:V->Hp->VK->Prop):Prop :=
 ∀(pins:List (Addr×Obj)) (s:Shared) (σ:St) (H:Hp) (x:V) (v:Value) (Q:VK),Inv X pins σ H s->RelV x v->r x H Q ->
  wpAny (model X.prog X.w) X.A (f v) (EP X pins σ Q) X.xe s
noncomputable def gY(X:Cx)(f:Value)(r:List V->Hp->VK->Prop):Prop :=
 ∀(pins:List (Addr×Obj)) (s:Shared) (σ:St) (H:Hp) (xs:List V) (us:List Value) (Q:VK),Inv X pins σ H s->Vals xs us->r xs H Q ->
  wpAny (model X.prog X.w) X.A (call f us) (EP X pins σ Q) X.xe s
noncomputable def O6(X:Cx)(r:V->Hp->(Bool->Hp->Prop)->Prop):Prop :=
 ∀(pins:List (Addr×Obj)) (s:Shared) (σ:St) (H:Hp) (x:V) (v:Value) (Q:Bool->Hp->Prop),Inv X pins σ H s->RelV x v->r x H Q ->
  wpAny (model X.prog X.w) X.A (truthy v) (TP X pins σ Q) X.xe s
noncomputable def Ge(r:R2)(ta tb:TE):TE:=λσ H Q=>ta σ H λx H1=>tb σ H1 λy H2=>r x y H2 Q
noncomputable def tUn(r:V->Hp->VK->Prop)(ta:TE):TE:=λσ H Q=>ta σ H λx H1=>r x H1 Q
noncomputable def rI(C:Int->Int->Prop)(g:Int->Int->V):R2:=λx y H Q=>∃i j,x = .int i/\y = .int j/\C i j/\Q (g i j) H
noncomputable def qj(g:Int->Int->V):R2:=λx y H Q=>∃i j,x = .int i/\y = .int j/\Q (g i j) H
noncomputable def rU(g:Int->V):V->Hp->VK->Prop:=λx H Q=>∃i,x = .int i/\Q (g i) H
section
variable {X:Cx}{a b c:Expr}{ta tb tc:TE}{pos:Pos}
theorem wN(ha:PE X a ta)(hb:PE X b tb){pins:List (Addr×Obj)}{s:Shared}{σ:St}{H:Hp}{R:V->V->Hp->Prop}(I:Inv X pins σ H s)(h:ta σ H λx H1=>tb σ H1 λy H2=>R x y H2){Q:Value->Shared->Prop}{f:Value->Value->Sem Value}(hf:∀v u s2 x y H2,Inv X pins σ H2 s2->RelV x v->RelV y u->R x y H2->wpAny (model X.prog X.w) X.A (f v u) Q X.xe s2):
 wpAny (model X.prog X.w) X.A (eval a X.env) (λv s₁=>wpAny (model X.prog X.w) X.A (eval b X.env) (λu s₂=>wpAny (model X.prog X.w) X.A (f v u) Q X.xe s₂) X.xe s₁) X.xe s:=by
 refine bQ (ha pins s σ H _ I h) λv s1 ⟨x,H1,I1,r1,q1⟩=>?_;refine bQ (hb pins s1 σ H1 _ I1 q1) λu s2 ⟨y,H2,I2,r2,q2⟩=>?_;exact hf v u s2 x y H2 I2 r1 r2 q2
theorem Yi{op:Operator}{r:R2}(ho:fC X (binaryOp op) r)(ha:PE X a ta)(hb:PE X b tb):PE X (.BinOp a op b pos) (Ge r ta tb):=by intro pins s σ H Q I h;exact wpAny_BinOp (wN ha hb I h λv u s2 x y H2 I2 rx ry q=>ho pins s2 σ H2 x y v u Q I2 rx ry q)
theorem Yk{op:UnaryOp}{r:V->Hp->VK->Prop}(ho:O5 X (unaryOp op) r)(ha:PE X a ta):PE X (.UnaryOp op a pos) (tUn r ta):=by intro pins s σ H Q I h;exact UnaryOp_ (bQ (ha pins s σ H _ I h) λv s1 ⟨x,H1,I1,r1,q1⟩=>ho pins s1 σ H1 x v Q I1 r1 q1)
theorem Bp{f:Value->Value->Sem Value}{C:Int->Int->Prop}{g:Int->Int->Int}(rule:∀(i j:Int) (t u:Tok) (s:Shared) (Q:Value->Shared->Prop) (E:Value->Shared->Prop),C i j->Q (.int (g i j) s.toks) { s with toks:=s.toks+1 }->wpAny (model X.prog X.w) X.A (f (.int i t) (.int j u)) Q E s):
 fC X f (rI C λi j => .int (g i j)):=by
 intro pins s σ H x y v u Q I rx ry h;obtain⟨i,j,rfl,rfl,hc,q⟩:=h;obtain⟨t,rfl⟩:=rx;obtain⟨t',rfl⟩:=ry;exact rule i j t t' s _ _ hc ⟨.int (g i j),H,I.tok _,⟨_,rfl⟩,q⟩
theorem Bo{f:Value->Value->Sem Value}{g:Int->Int->Int}(rule:∀(i j:Int) (t u:Tok) (s:Shared) (Q:Value->Shared->Prop) (E:Value->Shared->Prop),Q (.int (g i j) s.toks) { s with toks:=s.toks+1 }->wpAny (model X.prog X.w) X.A (f (.int i t) (.int j u)) Q E s):
 fC X f (qj λi j => .int (g i j)):=by
 intro pins s σ H x y v u Q I rx ry h;obtain⟨i,j,rfl,rfl,q⟩:=h;obtain⟨t,rfl⟩:=rx;obtain⟨t',rfl⟩:=ry;exact rule i j t t' s _ _ ⟨.int (g i j),H,I.tok _,⟨_,rfl⟩,q⟩
theorem mU{f:Value->Value->Sem Value}{g:Int->Int->Bool}(rule:∀(i j:Int) (t u:Tok) (s:Shared) (Q:Value->Shared->Prop) (E:Value->Shared->Prop),Q (.bool (g i j)) s->wpAny (model X.prog X.w) X.A (f (.int i t) (.int j u)) Q E s):
 fC X f (qj λi j => .bl (g i j)):=by
 intro pins s σ H x y v u Q I rx ry h;obtain⟨i,j,rfl,rfl,q⟩:=h;obtain⟨t,rfl⟩:=rx;obtain⟨t',rfl⟩:=ry;exact rule i j t t' s _ _ ⟨.bl (g i j),H,I,rfl,q⟩
def CT(i j:Int):Prop:=0<=j/\j<=1000000/\i.natAbs<2 ^ 64
def Y5:fC X (binaryOp .Add) (qj λi j => .int (i+j)):=Bo λ_ _ _ _ _ _ _ q=>add_int q
def Za:fC X (binaryOp .Sub) (qj λi j => .int (i - j)):=Bo λ_ _ _ _ _ _ _ q=>sub_int q
def zoI:fC X (binaryOp .Mod) (rI (λ_ j=>j≠0) λi j => .int (i.fmod j)):=Bp λ_ _ _ _ _ _ _ hc q=>mod_int' hc q
def Y8:fC X (binaryOp .Pow) (rI CT λi j => .int (i ^ j.toNat)):=Bp λ_ _ _ _ _ _ _ hc q=>pow_int_small hc.1 hc.2.1 hc.2.2 q
def Y9:fC X (binaryOp .LShift) (rI CT λi j => .int (i*2 ^ j.toNat)):=Bp λ_ _ _ _ _ _ _ hc q=>lshift_int_small hc.1 hc.2.1 hc.2.2 q
theorem unI{f:Value->Sem Value}{g:Int->Int}(rule:∀(i:Int) (t:Tok) (s:Shared) (Q:Value->Shared->Prop) (E:Value->Shared->Prop),Q (.int (g i) s.toks) { s with toks:=s.toks+1 }->wpAny (model X.prog X.w) X.A (f (.int i t)) Q E s):
 O5 X f (rU λi => .int (g i)):=by
 intro pins s σ H x v Q I rx h;obtain⟨i,rfl,q⟩:=h;obtain⟨t,rfl⟩:=rx;exact rule i t s _ _ ⟨.int (g i),H,I.tok _,⟨_,rfl⟩,q⟩
def ZF:O5 X (unaryOp .USub) (rU λi => .int (-i)):=unI λ_ _ _ _ _ q=>neg_int q
end
section
variable {X:Cx}{a b c:Expr}{ta tb tc:TE}{pos:Pos}
theorem Ed{pins:List (Addr×Obj)}{σ:St}{H:Hp}{s:Shared}{Q:VK}{k k':Bool}(I:Inv X pins σ H s)(q:Q (.bl k) H)(e:k=k'):EP X pins σ Q (.bool k') s:=by subst e;exact⟨.bl k,H,I,rfl,q⟩
def Yb:fC X (compareOp .Lt) (qj λi j => .bl (decide (i<j))):=mU λ_ _ _ _ _ _ _ q=>lt_int q
def X8:fC X (compareOp .LtE) (qj λi j => .bl (decide (i<=j))):=mU λ_ _ _ _ _ _ _ q=>le_int q
def X7:fC X (compareOp .Gt) (qj λi j => .bl (decide (j<i))):=mU λ_ _ _ _ _ _ _ q=>gt_int q
def X6:fC X (compareOp .GtE) (qj λi j => .bl (decide (j<=i))):=mU λ_ _ _ _ _ _ _ q=>ge_int q
theorem Y7:fC X (compareOp .Is) (λx y H Q=>y = .non/\Q (.bl (decide (x = .non))) H):=by
 intro pins s σ H x y v u Q I rx ry h;obtain⟨rfl,q⟩:=h;cases ry;refine is_none_gen (Ed I q ?_);cases x<;>first
  | (cases rx;rfl)
  | (obtain⟨t,rfl⟩:=rx;rfl)
theorem zoG:fC X (compareOp .IsNot) (λx y H Q=>y = .non/\Q (.bl (!decide (x = .non))) H):=by
 intro pins s σ H x y v u Q I rx ry h;obtain⟨rfl,q⟩:=h;cases ry;refine isnot_none_gen (Ed I q ?_);cases x<;>first
  | (cases rx;rfl)
  | (obtain⟨t,rfl⟩:=rx;rfl)
theorem Pu(b:Expr){op:CmpOp}(h:op ≠ .In:=by decide)(h2:op ≠ .NotIn:=by decide):behindInMarks op b=false:=by
 have e1:(op==CmpOp.In)=false:=by cases op<;>first|rfl|exact absurd rfl h
 have e2:(op==CmpOp.NotIn)=false:=by cases op<;>first|rfl|exact absurd rfl h2
 cases b<;>simp[behindInMarks,e1,e2]
theorem zop{op:CmpOp}{r:R2}(ho:fC X (compareOp op) r)(ha:PE X a ta)(hb:PE X b tb)(hm:behindInMarks op b=false):PE X (.Compare a [op] [b] pos) (Ge r ta tb):=by intro pins s σ H Q I h;exact wpAny_Compare1 (wN ha hb I h λv u s2 x y H2 I2 rx ry q=>ho pins s2 σ H2 x y v u Q I2 rx ry q) hm
noncomputable def Af(t:TE):TT:=λσ H Q=>t σ H λx H'=>∃k,x = .bl k/\Q k H'
theorem zob{op:CmpOp}{r:R2}(ho:fC X (compareOp op) r)(ha:PE X a ta)(hb:PE X b tb)(hm:behindInMarks op b=false):PT X (.Compare a [op] [b] pos) (Af (Ge r ta tb)):=by
 intro pins s σ H Q I h;refine wpAny_isTrue_Compare1 (bQ (ha pins s σ H _ I h) λv s1 ⟨x,H1,I1,r1,q1⟩=>bQ (hb pins s1 σ H1 _ I1 q1) λu s2 ⟨y,H2,I2,r2,q2⟩ =>
  bQ (ho pins s2 σ H2 x y v u _ I2 r1 r2 q2) λc s3 ⟨z,H3,I3,r3,k,e,q3⟩=>?_) hm
 subst e;cases r3;exact wpAny_truthy_bool ⟨H3,I3,q3⟩
noncomputable def wQ(K:FgA)(x:V)(H:Hp)(k:Bool):Prop :=
 match x with
 |.non=>k=false
 |.bl b=>k=b
 |.int i=>k=(i != 0)
 |.str y=>y.length<=sizeLine/\k=((y.length:Int) != 0)
 |.byt y=>y.size<=sizeLine/\k=((y.size:Int) != 0)
 |.ref p=>(∃xs,dG K H p xs/\k = !xs.isEmpty)\/(∃xs,dR K H p xs/\k = !xs.isEmpty)\/∃kvs,H p=some (.dK kvs)/\k = !kvs.isEmpty
 |_=>False
def zju{κ:Type}{kvs:List (κ×V)}{vs:List (κ×Value)}(r:KV kvs vs):(!vs.isEmpty) = !kvs.isEmpty:=by cases r<;>rfl
def U0{xs:List V}{its:List Value}(r:Vals xs its):(!its.toArray.isEmpty) = !xs.isEmpty:=by cases r<;>simp
def xH:(sizeLine:Nat)<2 ^ 63:=by rw[sizeLine_eq];decide
theorem ZC:O6 X (λx H Q=>∃k,wQ X.K x H k/\Q k H):=by
 intro pins s σ H x v Q I rx h;obtain⟨k,e,q⟩:=h;have hl:=xH;have hs:sizeLine=16777216:=sizeLine_eq;cases x with
 |non =>
  cases rx;have e':k=false:=e;subst e';exact truthy_none ⟨H,I,q⟩
 |bl b =>
  cases rx;have e':k=b:=e;subst e';exact wpAny_truthy_bool ⟨H,I,q⟩
 |int i =>
  obtain⟨t,rfl⟩:=rx;have e':k=(i != 0):=e;subst e';exact PySem.P.truthy_int ⟨H,I,q⟩
 |str y =>
  obtain⟨t,rfl⟩:=rx;obtain⟨hy,e'⟩:y.length<=sizeLine/\k=((y.length:Int) != 0):=e;subst e';exact PySem.P.truthy_str (by omega) ⟨H,I.tok _,q⟩
 |byt y =>
  obtain⟨t,rfl⟩:=rx;obtain⟨hy,e'⟩:y.size<=sizeLine/\k=((y.size:Int) != 0):=e;subst e';exact PySem.W.truthy_bytes (by omega) ⟨H,I.tok _,q⟩
 |ref p =>
  cases rx;have e':(∃xs,dG X.K H p xs/\k = !xs.isEmpty)\/(∃xs,dR X.K H p xs/\k = !xs.isEmpty)\/∃kvs,H p=some (.dK kvs)/\k = !kvs.isEmpty:=e;rcases e' with⟨xs,hx,e'⟩|⟨xs,hx,e'⟩|⟨kvs,hx,e'⟩
  .subst e';obtain⟨its,r,pl,hz⟩:=I.list hx;have hlen:=r.length;exact wpAny_truthy_list pl.isList (by simp only[dU];omega) ⟨H,I.tok _,by rw[U0 r];exact q⟩
  .subst e';obtain⟨its,r,pl,hz⟩:=I.tuple hx;have hlen:=r.length;exact truthy_tuple pl (by simp only[dU];omega) ⟨H,I.tok _,by rw[U0 r];exact q⟩
  .subst e';obtain⟨hz,hS,vs,r,m⟩:kvs.length<=sizeLine/\(p==sysModules)=false/\∃vs,KV kvs vs/\s.heap.DictOf (Hi X.prog X.w) p vs:=I.hok p _ hx;have hlen:kvs.length=vs.length:=Paired.length r;exact wpAny_truthy_dict hS m (by omega) ⟨H,I.tok _,by rw[zju r];exact q⟩
 |_=>exact(show False from e).elim
theorem zl5(ha:PE X a ta)(he:∀whole,isTrue a X.env whole=(do let v <-whole;standAt a.pos;holding [v] (truthy v))):
 PT X a (λσ H Q=>ta σ H λx H'=>∃k,wQ X.K x H' k/\Q k H'):=by
 intro pins s σ H Q I h;exact isTrue_plain (bQ (ha pins s σ H _ I h) λv s1 ⟨x,H1,I1,r1,q1⟩=>ZC pins s1 σ H1 x v Q I1 r1 q1) (he _)
theorem zjj:fC X (binaryOp .Add) (λx y H Q=>∃i j,x = .str i/\y = .str j/\i.length+j.length<=sizeLine/\Q (.str (i++j)) H):=by intro pins s σ H x y v u Q I rx ry h;obtain⟨i,j,rfl,rfl,hz,q⟩:=h;obtain⟨t,rfl⟩:=rx;obtain⟨t',rfl⟩:=ry;exact add_str (λt' tk=>⟨.str (i++j),H,I.tok _,⟨_,rfl⟩,q⟩) hz
def oJ{x:V}{us:List Value}(r:Vals [x] us):∃u,us=[u]/\RelV x u:=by
 cases r with
 |cons r1 r2=>cases r2;exact⟨_,rfl,r1⟩
theorem G7{x y:V}{us:List Value}(r:Vals [x,y] us):∃u w',us=[u,w']/\RelV x u/\RelV y w':=by
 cases r with
 |cons r1 r2 =>
  cases r2 with
  |cons r3 r4=>cases r4;exact⟨_,_,rfl,r1,r3⟩
theorem zmV:gY X (.builtin "abs") (λxs H Q=>∃i,xs=[.int i]/\Q (.int (if i<0 then -i else i)) H):=by intro pins s σ H xs us Q I r h;obtain⟨i,rfl,q⟩:=h;obtain⟨u,rfl,t,rfl⟩:=oJ r;exact call_abs_int λu tk=>⟨.int (if i<0 then -i else i),H,I.tok _,⟨_,rfl⟩,q⟩
theorem zlq(hc:X.calm=true):gY X (.builtin "max") (λxs H Q=>∃i j,xs=[.int i,.int j]/\Q (.int (if j>i then j else i)) H):=by
 intro pins s σ H xs us Q I r h;obtain⟨i,j,rfl,q⟩:=h;obtain⟨u,w',rfl,⟨t,rfl⟩,⟨t',rfl⟩⟩:=G7 r;refine max_two_ints (I.ok.hd hc) λh' tk k=>⟨_,H,I.kept k,?_,q⟩
 by_cases hj:j>i
 .rw[if_pos hj,if_pos hj];exact⟨_,rfl⟩
 .rw[if_neg hj,if_neg hj];exact⟨_,rfl⟩
theorem zlp(hc:X.calm=true):gY X (.builtin "min") (λxs H Q=>∃i j,xs=[.int i,.int j]/\Q (.int (if j<i then j else i)) H):=by
 intro pins s σ H xs us Q I r h;obtain⟨i,j,rfl,q⟩:=h;obtain⟨u,w',rfl,⟨t,rfl⟩,⟨t',rfl⟩⟩:=G7 r;refine min_two_ints (I.ok.hd hc) λh' tk k=>⟨_,H,I.kept k,?_,q⟩
 by_cases hj:j<i
 .rw[if_pos hj,if_pos hj];exact⟨_,rfl⟩
 .rw[if_neg hj,if_neg hj];exact⟨_,rfl⟩
end
structure lG(h:Heap)(x dx C:Addr)(mA:Str->Option Value):Prop where
 obj:h.get? x=some (PySem.W.instObj C dx)
 ns:h.Ns1 dx mA
 ne:dx≠x
theorem zkC{h:Heap}{dx:Addr}{mA:Str->Option Value}(n:h.Ns1 dx mA):∃od,h.get? dx=some od/\∀name,PySem.W.lookIn name od=some (mA name):=by
 obtain⟨o,es,ep,ho,hd,hk,_,hm⟩:=n;refine⟨o,ho,λname=>?_⟩;have e:=hm name;unfold nsFind findBy at e;rw[<-Array.find?_toList] at e;unfold PySem.W.lookIn;rw[hd];dsimp only;split
 .rename_i y q;rw[q] at e;exact congrArg some e
 .rename_i q;rw[q] at e;have a:es.toList.any (·.refKey)=false:=by rw[List.any_eq_false];intro y hy;obtain⟨z,t,hkey⟩:=hk y (Array.mem_toList_iff.mp hy);simp[DictEntry.refKey,hkey]
  have a':¬es.toList.any (·.refKey)=true:=by rw[a];exact gA
  rw[if_neg a'];exact congrArg some e
def lG.look{h:Heap}{x dx C:Addr}{mA:Str->Option Value}(I:lG h x dx C mA):∃od,PySem.W.InstAt h x (PySem.W.instObj C dx) C (some od)/\∀name,PySem.W.lookIn name od=some (mA name) :=
 let ⟨od,ho,hl⟩:=zkC I.ns
 ⟨od,⟨I.obj,rfl,rfl,ho⟩,hl⟩
section
variable {prog:Program}{w:World}{A:Around}{E:Value->Shared->Prop}{s:Shared}{K:FgA}{x dx C f:Addr}{mA:Str->Option Value}{name:Str}{v:Value}
theorem zo1{expr:Bool}{Q:Value->Shared->Prop}(X:K.In s.heap)(I:lG s.heap x dx C mA)(hg:PySem.W.plainGet K C name=true)(hh:PySem.W.hasDictIn K C=true)(ha:PySem.W.findIn K (.ref C) name=some none)(hv:mA name=some v)(hv':PySem.W.handedIn v=true)(h:Q v { s with toks:=s.toks+1 }):
 wpAny (model prog w) A (getAttr (.ref x) name expr) Q E s:=by
 obtain⟨od,J,hl⟩:=I.look;exact PySem.W.get_value X J (PySem.W.plainGet_of hg).1 (PySem.W.findObj_own hh ha rfl (by rw[hl,hv])) hv' h
theorem zmD{pl:Sem Bool}{Q:Value×List Value->Shared->Prop}(X:K.In s.heap)(I:lG s.heap x dx C mA)(hg:PySem.W.plainGet K C name=true)(hf:PySem.W.findIn K (.ref C) name=some (some (.ref f)))(ht:PySem.W.isFn K (.ref f)=true)(hv:mA name=none)(h:Q (.ref f,[.ref x]) s):
 wpAny (model prog w) A (getMethod (.ref x) name pl) Q E s:=by
 obtain⟨od,J,hl⟩:=I.look;exact PySem.W.method_fn X J (PySem.W.plainGet_of hg).1 (PySem.W.plainGet_of hg).2 hf (beq_iff_eq.mp ht) (by show(PySem.W.lookIn name od).map (·.isSome)=some false;rw[hl,hv];rfl) h
theorem zn2{ns:List Str}{Q:Unit->Shared->Prop}(X:K.In s.heap)(I:lG s.heap x dx C mA)(hs:PySem.W.findIn K (.ref C) "__setattr__" = some (some (.builtin "object.__setattr__")))(hp:PySem.W.plainOver K C=true)(ht:PySem.W.takerIn K C name=some none)(hh:PySem.W.hasDictIn K C=true)(hw:PySem.Within mA ns)(hsz:ns.length<=sizeLine)(h:∀h',lG h' x dx C (λy=>if y=name then some v else mA y)->Heap.SameBut dx s.heap h'->Q () { s with heap:=h',toks:=s.toks+2 }):
 wpAny (model prog w) A (setAttr (.ref x) name v) Q E s:=by
 obtain⟨od,J,hl⟩:=I.look;refine PySem.W.set_plain X J hs (PySem.W.osa_open (s:={ s with toks:=s.toks+1 }) (r:=none) X J hp ht λb=>?_);obtain⟨cd,hc,hd'⟩:=PySem.W.any_some hh;have hx:s.heap.get? x=some ⟨.ref C,some dx,.plain,#[]⟩:=I.obj;refine aO (b7 (aO (aO (wpAny_loadPart hx (aO (PySem.W.Looks.here (s:={ s with toks:=s.toks+1 }) (PySem.W.looks_clsIn X hc) ?_))))));rw[hd'];refine b7 (a:=some dx) (aO (b7 (aO ?_)));refine wpAny_nsSet1 (s:={ s with toks:=s.toks+1 }) I.ns λh' hn2 hs2=>?_;obtain⟨oD,esD,epD,hoD,hdD,hcD⟩:=hn2.count (PySem.Within.cons name v hw);refine aO (wpAny_lookBehind hoD (by rw[hdD];exact pastItsLine_dict (Nat.le_trans hcD (by rw[jf];omega))) ?_);exact b7 (h _ ⟨(hs2.2 _ (Ne.symm I.ne)).trans I.obj,hn2,I.ne⟩ hs2)
theorem zmr{R:Result->Shared->Prop}{vs:List Value}{kw:List (Str×Value)}(X:K.In s.heap)(hm:PySem.W.makesIn K C=true)(hi:PySem.W.findIn K (.ref C) "__init__" = some (some (.ref f)))(hf:PySem.W.typeIn K (.ref f)=some (.type "function"))(h:codeAny (model prog w) (A.under (.builtin "type.__call__" ⟨.ref C::vs,kw⟩)) (.call (.ref f) ⟨.ref (s.heap.objs.size+1)::vs,kw⟩) (PySem.W.InitBack (s.heap.objs.size+1) R)
  { s with heap:=(s.heap.push PySem.W.emptyDict).push (PySem.W.instObj C s.heap.objs.size) }):
 codeAny (model prog w) A (.call (.ref C) ⟨vs,kw⟩) R s:=by
 obtain⟨hh,g,d,t,os⟩:=s;exact PySem.W.make_core (PySem.W.makes_of X hm) (PySem.W.looks_findIn X hi) (λself=>PySem.W.bind_fn X self hf) (.inl rfl) h
end
noncomputable def jt(f:Str)(v:V):List (Str×V)->List (Str×V)
 |[]=>[(f,v)]
 | (g,x)::r=>if g=f then(g,v)::r else(g,x)::jt f v r
theorem Vw(f g:Str)(v:V):∀fs:List (Str×V),(jt f v fs).lookup g=if g=f then some v else fs.lookup g
 |[]=>by
  show List.lookup g [(f,v)]=_;by_cases h:g=f
  .have hb:(g==f)=true:=beq_iff_eq.mpr h;simp only[List.lookup,hb,if_pos h]
  .have hb:(g==f)=false:=beq_eq_false_iff_ne.mpr h;simp only[List.lookup,hb,if_neg h]
 | (k,x)::r=>by
   have ih:=Vw f g v r;rw[show jt f v ((k,x)::r)=(if k=f then(k,v)::r else(k,x)::jt f v r) from rfl];by_cases hk:k=f
   .rw[if_pos hk];by_cases h:g=k
    .have hb:(g==k)=true:=beq_iff_eq.mpr h;simp only[List.lookup,hb,if_pos (h.trans hk)]
    .have hb:(g==k)=false:=beq_eq_false_iff_ne.mpr h;simp only[List.lookup,hb,if_neg (λe:g=f=>h (e.trans hk.symm))]
   .rw[if_neg hk];by_cases h:g=k
    .have hb:(g==k)=true:=beq_iff_eq.mpr h;simp only[List.lookup,hb,if_neg (λe:g=f=>hk (h.symm.trans e))]
    .have hb:(g==k)=false:=beq_eq_false_iff_ne.mpr h;simp only[List.lookup,hb];exact ih
theorem Ke(f:Str)(v:V):∀fs:List (Str×V),f∈(jt f v fs).map (·.1)/\∀g,g∈fs.map (·.1)->g∈(jt f v fs).map (·.1)
 |[]=>⟨by simp[jt],λg h=>by simp at h⟩
 | (k,x)::r=>by
   obtain⟨i1,i2⟩:=Ke f v r;rw[show jt f v ((k,x)::r)=(if k=f then(k,v)::r else(k,x)::jt f v r) from rfl];by_cases hk:k=f
   .rw[if_pos hk];subst hk;exact⟨by simp,λg h=>by simpa using h⟩
   .rw[if_neg hk];refine⟨?_,λg h=>?_⟩
    .rw[jq];exact cQ _ i1
    .rw[jq] at h ⊢;rcases List.mem_cons.mp h with e|e
     .exact List.mem_cons.mpr (.inl e)
     .exact cQ _ (i2 g e)
theorem Vv(f:Str)(v:V):∀fs:List (Str×V),(jt f v fs).length<=fs.length+1
 |[]=>by simp[jt]
 | (k,x)::r=>by
   have ih:=Vv f v r;rw[show jt f v ((k,x)::r)=(if k=f then(k,v)::r else(k,x)::jt f v r) from rfl];by_cases hk:k=f
   .rw[if_pos hk,jf,jf];omega
   .rw[if_neg hk,jf,jf];omega
theorem jd.some_of{v:V}{o:Option Value}(r:jd (some v) o):∃u,o=some u/\RelV v u:=by
 cases o with
 |none=>exact(show False from r).elim
 |some u=>exact⟨u,rfl,r⟩
def jd.none_of{o:Option Value}(r:jd none o):o=none:=by
 cases o with
 |none=>rfl
 |some u=>exact(show False from r).elim
theorem zkX{v:V}{u:Value}(r:RelV v u):PySem.W.handedIn u=true:=by
 cases v with
 |non=>cases (show u=Value.none from r);rfl
 |bl b=>cases (show u=Value.bool b from r);rfl
 |int i=>obtain⟨t,e⟩:=(show ∃t,u=Value.int i t from r);cases e;rfl
 |str x=>obtain⟨t,e⟩:=(show ∃t,u=Value.str x t from r);cases e;rfl
 |byt b=>obtain⟨t,e⟩:=(show ∃t,u=Value.bytes b t from r);cases e;rfl
 |flt b=>obtain⟨t,e⟩:=(show ∃t,u=Value.float b t from r);cases e;rfl
 |ref a=>cases (show u=Value.ref a from r);rfl
 |ty n=>cases (show u=Value.type n from r);rfl
section
variable {P:Program}{w:World}{H H':Hp}{h h':Heap}{a C dx:Addr}{fs fs':List (Str×V)}
theorem Eh(hok:gq P w H h)(e:H a=some (.ins C dx fs)):∃mA,lG h a dx C mA/\(∀f,jd (fs.lookup f) (mA f))/\PySem.Within mA (fs.map (·.1))/\fs.length<=1000/\H dx=some (.own a):=by
 obtain⟨d,z,ne,ob,mA,n,r,q⟩:=(show bY P w H h a (.ins C dx fs) from hok a _ e)
 exact⟨mA,⟨ob,n,ne⟩,r,q,z,d⟩
end
structure jX(K:FgA)(C:Addr):Prop where
 pg:PySem.W.plainGet K C Str.empty=true
 hd:PySem.W.hasDictIn K C=true
 po:PySem.W.plainOver K C=true
 sa:PySem.W.findIn K (.ref C) "__setattr__" = some (some (.builtin "object.__setattr__"))
def jX.get{K:FgA}{C:Addr}(c:jX K C)(f:Str):PySem.W.plainGet K C f=true:=c.pg
def d7(K:FgA)(C:Addr)(f:Str):Prop:=PySem.W.findIn K (.ref C) f=some none
theorem d7.taker{K:FgA}{C:Addr}{f:Str}(n:d7 K C f):PySem.W.takerIn K C f=some none:=by unfold PySem.W.takerIn;rw[show PySem.W.findIn K (.ref C) f=some none from n];rfl
structure Meth(K:FgA)(C:Addr)(m:Str)(f:Addr):Prop where
 at_:PySem.W.findIn K (.ref C) m=some (some (.ref f))
 fn:PySem.W.isFn K (.ref f)=true
 kp:PySem.W.keepIn K (.ref f)=true
section
variable {X:Cx}{pins:List (Addr×Obj)}{σ:St}{H:Hp}{s:Shared}{a C dx:Addr}{fs:List (Str×V)}{f:Str}{v:V}{A:Around}{E:Value->Shared->Prop}
theorem zjv{b:Bool}{Q:Value->Shared->Prop}(I:Inv X pins σ H s)(e:H a=some (.ins C dx fs))(c:jX X.K C)(n:d7 X.K C f)(l:fs.lookup f=some v)(h:∀u s',Inv X pins σ H s'->RelV v u->Q u s'):wpAny (model X.prog X.w) A (getAttr (.ref a) f b) Q E s:=by obtain⟨mA,O,r,_,_,_⟩:=Eh I.hok e;obtain⟨u,hu,ru⟩:=jd.some_of (v:=v) (o:=mA f) (by rw[<-l];exact r f);exact zo1 I.kIn O (c.get f) c.hd n hu (zkX ru) (h u _ (I.tok _) ru)
theorem UW{m:Str}{g:Addr}{pl:Sem Bool}{Q:Value×List Value->Shared->Prop}(I:Inv X pins σ H s)(e:H a=some (.ins C dx fs))(c:jX X.K C)(k:Meth X.K C m g)(l:fs.lookup m=none)(h:Q (.ref g,[.ref a]) s):wpAny (model X.prog X.w) A (getMethod (.ref a) m pl) Q E s:=by obtain⟨mA,O,r,_,_,_⟩:=Eh I.hok e;have hn:mA m=none:=jd.none_of (by rw[<-l];exact r m);exact zmD I.kIn O (c.get m) k.at_ k.fn hn h
theorem zjd{y:V}{u:Value}{Q:Unit->Shared->Prop}(I:Inv X pins σ H s)(e:H a=some (.ins C dx fs))(c:jX X.K C)(n:d7 X.K C f)(hl:fs.length<1000)(ry:RelV y u)(h:∀s',Inv X pins σ (upd H a (.ins C dx (jt f y fs))) s'->Q () s'):wpAny (model X.prog X.w) A (setAttr (.ref a) f u) Q E s:=by
 obtain⟨mA,O,r,wi,_,ho⟩:=Eh I.hok e;have hz:(fs.map (·.1)).length<=sizeLine:=by rw[dJ,sizeLine_eq];omega
 refine zn2 I.kIn O c.sa c.po n.taker c.hd wi hz λh' O' sb=>h _ ?_;have hd:∃o,h'.get? dx=some o:=let ⟨o,_,_,e',_⟩:=O'.ns;⟨o,e'⟩;refine I.write (x:=a) (e:=dx) (by rw[e];exact True.intro) (.inr ho) (λb q hb z=>(sb.2 b hb).trans z) hd ?_;refine⟨by rw[cu O.ne];exact ho,?_,O.ne,O'.obj,_,O'.ns,λg=>?_,λg hg=>?_⟩
 .have:=Vv f y fs;omega
 .show jd ((jt f y fs).lookup g) (if g=f then some u else mA g);rw[Vw];by_cases q:g=f
  .rw[if_pos q,if_pos q];exact ry
  .rw[if_neg q,if_neg q];exact r g
 .by_cases q:g=f
  .rw[q];exact(Ke f y fs).1
  .refine(Ke f y fs).2 g (wi g λz=>hg ?_);show(if g=f then some u else mA g)=none;rw[if_neg q];exact z
theorem Inv.made(I:Inv X pins σ H s):Inv X pins σ (upd (upd H s.heap.objs.size (.own (s.heap.objs.size+1))) (s.heap.objs.size+1) (.ins C s.heap.objs.size []))
 { s with heap:=(s.heap.push PySem.W.emptyDict).push (PySem.W.instObj C s.heap.objs.size) }:=by
 have e1:(s.heap.push PySem.W.emptyDict).get? s.heap.objs.size=some PySem.W.emptyDict:=gw s.heap rfl;have e2:((s.heap.push PySem.W.emptyDict).push (PySem.W.instObj C s.heap.objs.size)).get? (s.heap.objs.size+1)=some (PySem.W.instObj C s.heap.objs.size):=by
  have:=gw (s.heap.push PySem.W.emptyDict) (o:=PySem.W.instObj C s.heap.objs.size) rfl
  rwa [Heap.size_push] at this
 have e3:(s.heap.push PySem.W.emptyDict).Ns s.heap.objs.size (λ_=>none):=⟨PySem.W.emptyDict,#[],_,e1,rfl,(λe he=>absurd he (by simp)),λ_=>rfl⟩
 have I1:=I.laid (a:=s.heap.objs.size) (o := .own (s.heap.objs.size+1)) (h':=s.heap.push PySem.W.emptyDict) (t':=s.toks) (λb u q=>dm _ q) (bZ _) ⟨_,e1⟩;refine I1.laid (a:=s.heap.objs.size+1) (o := .ins C s.heap.objs.size []) (t':=s.toks) (λb u q=>dm _ q) (Nat.le_of_eq (Heap.size_push _ _)) ?_;have ne:s.heap.objs.size≠s.heap.objs.size+1:=dz (Nat.lt_succ_self _);refine⟨by rw[cu ne,fJ],Nat.zero_le _,ne,e2,λ_=>none,(Heap.Ns1.of_empty e3).at λo q=>dm _ q,λ_=>True.intro,λy hy=>absurd rfl hy⟩
theorem ZG{prog:Program}{w:World}{env:Env}{e:Expr}{f:Str}{pos:Pos}{s:Shared}{Q:Value->Shared->Prop}(hb:attributeBase e f env (eval e env)=eval e env)(h:wpAny (model prog w) A (eval e env) (λo s₁=>wpAny (model prog w) A (getAttr o f true) Q E s₁) E s):wpAny (model prog w) A (eval (.Attribute e f pos) env) Q E s :=
 Attribute_any_ h (by rw[arm_eval_Attribute,hb])
end
noncomputable def M8(K:FgA)(ta:TE)(f:Str):TE:=λσ H Q=>ta σ H λx H1=>∃a C dx fs v,x = .ref a/\H1 a=some (.ins C dx fs)/\jX K C/\d7 K C f/\fs.lookup f=some v/\Q v H1
noncomputable def Nj(K:FgA)(ta tv:TE)(f:Str):TS:=λD σ H=>tv σ H λy H1=>ta σ H1 λx H2=>∃a C dx fs,x = .ref a/\H2 a=some (.ins C dx fs)/\jX K C/\d7 K C f/\fs.length<1000 /\
 D.nx σ (upd H2 a (.ins C dx (jt f y fs)))
section
variable {X:Cx}{o e value:Expr}{f:Str}{pos pos' tpos:Pos}{ta tv:TE}
theorem Ze(he:PE X e ta)(hb:attributeBase e f X.env (eval e X.env)=eval e X.env):PE X (.Attribute e f pos) (M8 X.K ta f):=by intro pins s σ H Q I h;refine ZG hb (bQ (he pins s σ H _ I h) λu s1 ⟨x,H1,I1,rx,a,C,dx,fs,v,ex,ea,c,n,l,q⟩=>?_);subst ex;obtain rfl:u=Value.ref a:=rx;exact zjv I1 ea c n l λu' s2 I2 ru=>⟨v,H1,I2,ru,q⟩
theorem Yv(ha:PE X o ta)(hv:PE X value tv)(hs:swapsWith value (some (.Attribute o f pos')) pos.line X.env=pure false):PS X (.Assign [.Attribute o f pos'] value pos) (Nj X.K ta tv f):=by intro pins s σ H D I h;refine plainObj_wpAny_Assign_Attribute (bQ (hv pins s σ H _ I h) λu s1 ⟨y,H1,I1,ry,q⟩=>bQ (ha pins s1 σ H1 _ I1 q) λov s2 ⟨x,H2,I2,rx,a,C,dx,fs,ex,ea,c,n,l,q2⟩=>?_) hs;subst ex;obtain rfl:ov=Value.ref a:=rx;exact zjd I2 ea c n l ry λs3 I3=>⟨σ,_,I3,q2⟩
end
section
variable {X:Cx}{pins:List (Addr×Obj)}{σ:St}{H:Hp}{s:Shared}{A:Around}{E:Value->Shared->Prop}{Q:Value->Shared->Prop}{c:Value}{b:Bool}
inductive mj(K:FgA)(H:Hp):V->Value->Prop where
 |non:mj K H .non (.type "NoneType")
 |bl (x:Bool):mj K H (.bl x) (.type "bool")
 |int (i:Int):mj K H (.int i) (.type "int")
 |str (x:Str):mj K H (.str x) (.type "str")
 |flt (x:UInt64):mj K H (.flt x) (.type "float")
 |lst {a:Addr} {xs:List V} (e:H a=some (.lst xs)):mj K H (.ref a) (.type "list")
 |frz {a:Addr} {o:Obj} {xs:List V} (e:H a=some (.frz o (.lst xs))):mj K H (.ref a) (.type "list")
 |tup {a:Addr} {xs:List V} (e:H a=some (.tup xs)):mj K H (.ref a) (.type "tuple")
 |dK {a:Addr} {kvs:List (Key×V)} (e:H a=some (.dK kvs)):mj K H (.ref a) (.type "dict")
 |dT {a:Addr} {kvs:List (List Key×V)} (e:H a=some (.dT kvs)):mj K H (.ref a) (.type "dict")
 |ins {a C dx:Addr} {fs:List (Str×V)} (e:H a=some (.ins C dx fs)) (cl:jX K C) (ha:PySem.W.findIn K (.ref C) "__class__" = some (some (.builtin "object.__class__")))
  (hn:PySem.W.specialIn K (.builtin "object.__class__") "__get__" = some (some (.builtin "getset_descriptor.__get__"))) (htk:PySem.W.takesIn K (.builtin "object.__class__")=some true)
  (hm:PySem.W.mroIn K C (.type "object")=some true):mj K H (.ref a) (.ref C)
theorem zkQ{x:V}{u t:Value}(I:Inv X pins σ H s)(rx:RelV x u)(ty:mj X.K H x t)(e:PySem.W.kitOne X.K t c=some b)(h:∀tk,Q (.bool b) { s with toks:=tk }):
 wpAny (model X.prog X.w) A (call (.builtin "isinstance") [u,c]) Q E s:=by
 cases ty with
 |non=>cases (show u=Value.none from rx);exact PySem.W.kia_one PySem.W.kitx_none I.kIn True.intro e (λz=>nomatch z) h
 |bl y=>cases (show u=Value.bool y from rx);exact PySem.W.kia_one PySem.W.kitx_bool I.kIn True.intro e (λz=>nomatch z) h
 |int i=>obtain⟨t,q⟩:=(show ∃t,u=Value.int i t from rx);cases q;exact PySem.W.kia_one PySem.W.kitx_int I.kIn True.intro e (λz=>nomatch z) h
 |str y=>obtain⟨t,q⟩:=(show ∃t,u=Value.str y t from rx);cases q;exact PySem.W.kia_one PySem.W.kitx_str I.kIn True.intro e (λz=>nomatch z) h
 |flt y=>obtain⟨t,q⟩:=(show ∃t,u=Value.float y t from rx);cases q;exact PySem.W.kia_one PySem.W.kitx_float I.kIn True.intro e (λz=>nomatch z) h
 |@lst a xs ea =>
  cases (show u=Value.ref a from rx);obtain⟨_,_,n,_,h1⟩:=(show bY X.prog X.w H s.heap a (.lst xs) from I.hok a _ ea)
  exact PySem.W.kia_one PySem.W.kitx_list I.kIn ⟨_,h1,rfl⟩ e (λz=>nomatch z) h
 |@frz a ob xs ea =>
  cases (show u=Value.ref a from rx);obtain⟨_,_,_,n,_,h1⟩:=(show bY X.prog X.w H s.heap a (.frz ob (.lst xs)) from I.hok a _ ea)
  exact PySem.W.kia_one PySem.W.kitx_list I.kIn ⟨_,h1,rfl⟩ e (λz=>nomatch z) h
 |@tup a xs ea =>
  cases (show u=Value.ref a from rx);obtain⟨_,_,_,p⟩:=(show bY X.prog X.w H s.heap a (.tup xs) from I.hok a _ ea)
  obtain⟨o,h1,h2,_⟩:=p;exact PySem.W.kia_one PySem.W.kitx_tuple I.kIn ⟨o,h1,h2⟩ e (λz=>nomatch z) h
 |@dK a kvs ea =>
  cases (show u=Value.ref a from rx);obtain⟨_,_,vs,_,p⟩:=(show bY X.prog X.w H s.heap a (.dK kvs) from I.hok a _ ea)
  obtain⟨o,es,ep,h1,h2,_⟩:=p;exact PySem.W.kia_one PySem.W.kitx_dict I.kIn ⟨o,h1,h2.1⟩ e (λz=>nomatch z) h
 |@dT a kvs ea =>
  cases (show u=Value.ref a from rx);obtain⟨_,_,xs,_,o,es,ep,h1,h2,_⟩:=(show bY X.prog X.w H s.heap a (.dT kvs) from I.hok a _ ea)
  exact PySem.W.kia_one PySem.W.kitx_dict I.kIn ⟨o,h1,h2.1⟩ e (λz=>nomatch z) h
 |@ins a C dx fs ea cl ha hn htk hm =>
  cases (show u=Value.ref a from rx);obtain⟨mA,O,_⟩:=Eh I.hok ea;obtain⟨od,J,_⟩:=O.look;exact PySem.W.kia_one (PySem.W.kitx_own (cl.get _) cl.hd ha hn htk hm) I.kIn J e (λz=>nomatch z) h
end
structure bI(k:Nat)(A:Around):Prop where
 hd:A.handled=none
 dp:A.depth+3*k+5<recursionLimit
 un:A.units+16*k+200<cLine
def bI.mono{j k:Nat}{A:Around}(r:bI k A)(h:j<=k):bI j A:=⟨r.hd,by have:=r.dp;omega,by have:=r.un;omega⟩
theorem bI.deeper{k:Nat}{A:Around}(r:bI (k+1) A)(env:Env):bI k (A.deeper env) :=
 ⟨r.hd,by have:=r.dp;show A.depth+1+3*k+5<_;omega,by have:=r.un;show A.units+3+16*k+200<_;omega⟩
def bI.in1{k:Nat}{A:Around}(r:bI (k+1) A):bI k A.in1 :=
 ⟨r.hd,by have:=r.dp;show A.depth+3*k+5<_;omega,by have:=r.un;show A.units+1+16*k+200<_;omega⟩
theorem zjq{A:Around}{C:Addr}{us:List Value}{kw:List (Str×Value)}:(A.under (.builtin "type.__call__" ⟨.ref C::us,kw⟩)).depth=A.depth+1:=by
 first|rfl|simp[Around.under,Code.weight,Code.isCreation,Code.isGuard,Code.isCaller,Code.frames,Code.isFrame,guardIds]
theorem zjp{A:Around}{C:Addr}{us:List Value}{kw:List (Str×Value)}:(A.under (.builtin "type.__call__" ⟨.ref C::us,kw⟩)).units=A.units+1:=by
 first|rfl|simp[Around.under,Code.cUnits,Code.frames,Code.isFrame]
theorem bI.make{k:Nat}{A:Around}(r:bI (k+1) A)(C:Addr)(us:List Value)(kw:List (Str×Value)):bI k (A.under (.builtin "type.__call__" ⟨.ref C::us,kw⟩)) :=
 ⟨r.hd,by have:=r.dp;rw[zjq];omega,by have:=r.un;rw[zjp];omega⟩
def bI.depth{k:Nat}{A:Around}(r:bI k A):A.depth<recursionLimit:=by have:=r.dp;omega
def bI.units{k:Nat}{A:Around}(r:bI k A):A.units+64<cLine:=by have:=r.un;omega
noncomputable def Ak:TA:=λ_ H Q=>Q [] H
noncomputable def Aq(ta:TE)(tr:TA):TA:=λσ H Q=>ta σ H λx H1=>tr σ H1 λxs H2=>Q (x::xs) H2
section
variable {X:Cx}{e:Expr}{es:List Expr}{te:TE}{t:TA}{pos:Pos}
def Zb:PA X [] Ak:=λ_ _ _ _ H Q I h=>Calls.spliced_nil ⟨[],H,I,.nil,h⟩
theorem zos(ha:PE X e te)(hr:PA X es t)(hs:starEach (e::es) X.env=(false,eval e X.env)::starEach es X.env:=by rfl):PA X (e::es) (Aq te t):=by intro pos pins s σ H Q I h;rw[hs];show wpAny _ _ (spliced ((false,eval e X.env)::backTo pos (starEach es X.env))) _ _ s;refine Calls.spliced_cons (bQ (ha pins s σ H _ I h) λu s1 ⟨x,H1,I1,r1,q1⟩=>?_);exact bQ (hr pos pins s1 σ H1 _ I1 q1) λus s2 ⟨xs,H2,I2,r2,q2⟩=>⟨x::xs,H2,I2,.cons r1 r2,q2⟩
noncomputable def MJ(t:TA):TE:=λσ H Q=>t σ H λxs H1=>xs.length<=sizeLine/\∀p,H1 p=none->Q (.ref p) (upd H1 p (.tup xs))
noncomputable def M4(t:TA):TE:=λσ H Q=>t σ H λxs H1=>xs.length<=sizeLine/\∀p,H1 p=none->Q (.ref p) (upd H1 p (.lst xs))
theorem Yo{x1}(h:PA X es t):PE X (.Tuple es x1 pos) (MJ t):=by intro pins s σ H Q I hq;refine wpAny_Tuple_spliced (bQ (h pos pins s σ H _ I hq) λus s1 ⟨xs,H1,I1,r,z,q⟩=>⟨by rw[<-r.length];exact z,?_⟩);have hf:H1 s1.heap.objs.size=none:=I1.hok.fresh (bZ _);refine⟨.ref s1.heap.objs.size,upd H1 s1.heap.objs.size (.tup xs),I1.laid (t':=s1.toks) (λb u e=>dm _ e) (bZ _) ?_,rfl,q _ hf⟩;exact⟨z,us,r,⟨_,gw _ rfl,rfl,_,rfl⟩⟩
theorem Zg(h:PA X es t):PE X (.List es pos) (M4 t):=by intro pins s σ H Q I hq;refine wpAny_List_spliced (bQ (h pos pins s σ H _ I hq) λus s1 ⟨xs,H1,I1,r,z,q⟩=>⟨by rw[<-r.length];exact z,?_⟩);have hf:H1 s1.heap.objs.size=none:=I1.hok.fresh (bZ _);refine⟨.ref s1.heap.objs.size,upd H1 s1.heap.objs.size (.lst xs),I1.laid (t':=s1.toks) (λb u e=>dm _ e) (bZ _) ?_,rfl,q _ hf⟩;exact⟨z,us,0,r,gw _ rfl⟩
end
noncomputable abbrev Sp:=List V->Hp->VK->XK->Prop
noncomputable abbrev pM:=List Env->Hp->Shared->XK->Value->Shared->Prop
structure jE(P:Program)(w:World)(K:FgA)(mg:Str->Option Value)(base:Heap)(A:Around)(outer:List Env)(s:Shared)(H:Hp):Prop where
 frames:A.frames=some outer
 mod:Mod K mg base
 bs:∀b o,base.get? b=some o->s.heap.get? b=some o/\H b=none
 bsz:base.objs.size<=s.heap.objs.size
 funs:s.heap.FunFrames base outer
 frf:∀b∈frs outer,H b=none
 hok:gq P w H s.heap
 bare:AllBare s.gens
noncomputable def CE(outer:List Env)(P:Program)(w:World)(H:Hp)(s:Shared)(Q:VK)(u:Value)(s':Shared):Prop :=
 ∃v H',s'.os=s.os/\AllBare s'.gens/\Un (frs outer) [] H H' s.heap s'.heap/\gq P w H' s'.heap/\RelV v u/\Q v H'
noncomputable def CR(CX:pM)(outer:List Env)(P:Program)(w:World)(H:Hp)(s:Shared)(Q:VK)(E:XK)(r:Result)(s':Shared):Prop :=
 match r with
 |.ok (.ret u)=>CE outer P w H s Q u s'
 |.ok _=>False
 |.error e=>CX outer H s E e s'
structure cW(P:Program)(w:World)(K:FgA)(mg:Str->Option Value)(base:Heap)(CX:pM)(k:Nat)(f:Addr)(fd:FuncData)(ps:List Str)(sp:Sp):Prop where
 len:∀vs H Q E,sp vs H Q E->vs.length=ps.length
 run:∀(A:Around) (outer:List Env) (s:Shared) (H:Hp) (args:Args) (us:List Value) (vs:List V) (Q:VK) (E:XK),bI k A->jE P w K mg base A outer s H->BindsTo s fd args (ps.zip us)->Vals vs us->sp vs H Q E ->
  codeAny (model P w) A (.call (.ref f) args) (CR CX outer P w H s Q E) s
def cW.mono{P:Program}{w:World}{K:FgA}{mg:Str->Option Value}{base:Heap}{CX:pM}{j k:Nat}{f:Addr}{fd:FuncData}{ps:List Str}{sp:Sp}(F:cW P w K mg base CX j f fd ps sp)(h:j<=k):
 cW P w K mg base CX k f fd ps sp:=⟨F.len,λA outer s H args us vs Q E hr=>F.run A outer s H args us vs Q E (hr.mono h)⟩
theorem jE.make{P:Program}{w:World}{K:FgA}{mg:Str->Option Value}{base:Heap}{A:Around}{outer:List Env}{s:Shared}{H:Hp}(e:jE P w K mg base A outer s H)(C:Addr)(us:List Value)(kw:List (Str×Value)):
 jE P w K mg base (A.under (.builtin "type.__call__" ⟨.ref C::us,kw⟩)) outer s H:=⟨by first|exact e.frames|(simpa[Around.under,Code.envs,Code.isFrame,pushEnvs] using e.frames),e.mod,e.bs,e.bsz,e.funs,e.frf,e.hok,e.bare⟩
section
variable {X:Cx}{pins:List (Addr×Obj)}{σ:St}{H:Hp}{s s':Shared}
def Inv.env0(I:Inv X pins σ H s):jE X.prog X.w X.K X.mg X.base X.A X.stack s H :=
 ⟨I.ok.frames,I.ok.mod,I.bs,Nat.le_trans I.ok.bsz I.sz,I.stack,I.stkFree,I.hok,I.bare⟩
theorem Inv.after{Q:VK}{u:Value}(I:Inv X pins σ H s)(h:CE X.stack X.prog X.w H s Q u s'):EP X pins σ Q u s':=by obtain⟨v,H',os,bare,un,hok,r,q⟩:=h;obtain⟨hh,g,d,t,os'⟩:=s';obtain rfl:os'=s.os:=os;exact⟨v,H',I.call (h':=hh) (g':=g) (d':=d) (t':=t) (ch:=[]) un hok bare (λb z=>absurd z (by simp)),r,q⟩
end
noncomputable def Ar(sp:Sp)(iW:List V)(E:XK)(t:TA):TE:=λσ H Q=>t σ H λvs H1=>sp (vs++iW) H1 Q E
noncomputable def tW(C:Addr)(m:Str)(sp:Sp)(iW:List V)(E:XK)(ta:TE)(t:TA):TE:=λσ H Q=>ta σ H λx H1=>∃a dx fs,x = .ref a/\H1 a=some (.ins C dx fs)/\fs.lookup m=none /\
 t σ H1 λvs H2=>sp (x::(vs++iW)) H2 Q E
noncomputable def Al(C:Addr)(sp:Sp)(iW:List V)(E:XK)(t:TA):TE:=λσ H Q=>t σ H λvs H1=>∀x dx,H1 x=none->H1 dx=none->dx≠x ->
 sp (.ref x::(vs++iW)) (upd (upd H1 dx (.own x)) x (.ins C dx [])) (λv H2=>v = .non/\Q (.ref x) H2) E
noncomputable def Binds(K:FgA)(fd:FuncData)(ps:List Str)(ds:List Value):Prop :=
 ∀(s:Shared) (us:List Value),K.In s.heap->(us++ds).length=ps.length->BindsTo s fd ⟨us,[]⟩ (ps.zip (us++ds))
theorem Binds.all{K:FgA}{fd:FuncData}{ps:List Str}(h:∀us:List Value,us.length=ps.length->bindArgs fd ⟨us,[]⟩=pure (ps.zip us)):Binds K fd ps []:=λs us _ hl=>by rw[List.append_nil] at hl ⊢;exact .of_eq (h us hl)
def uR(CX:pM)(X:Cx)(E:XK):Prop:=∀(pins:List (Addr×Obj)) (σ:St) (H:Hp) (s:Shared) (e:Value) (s':Shared),Inv X pins σ H s->CX X.stack H s E e s'->X.xe e s'
section
variable {X:Cx}{CX:pM}{k:Nat}{f C:Addr}{fd:FuncData}{ps:List Str}{sp:Sp}{iW:List V}{ds:List Value}{E:XK}{x m:Str}{p pos apos:Pos}{e o:Expr}{es:List Expr}{ta:TE}{t:TA}
theorem HN{pins:List (Addr×Obj)}{σ:St}{H:Hp}{s:Shared}{Q:VK}{us:List Value}{vs:List V}(F:cW X.prog X.w X.K X.mg X.base CX k f fd ps sp)(hr:bI k X.A)(hb:Binds X.K fd ps ds)(hd:Vals iW ds)(hx:uR CX X E)(I:Inv X pins σ H s)(r:Vals vs us)(h:sp (vs++iW) H Q E):wpAny (model X.prog X.w) X.A (call (.ref f) us) (EP X pins σ Q) X.xe s:=by
 have r2:Vals (vs++iW) (us++ds):=r.append hd;have hl:(us++ds).length=ps.length:=by rw[<-r2.length];exact F.len _ _ _ _ h
 refine wpAny_call (codeAny_mono (F.run X.A X.stack s H ⟨us,[]⟩ (us++ds) (vs++iW) Q E hr I.env0 (hb s us I.kIn hl) r2 h) λr s' hq=>?_);cases r with
 |error e=>exact hx pins σ H s e s' I hq
 |ok fl =>
  cases fl with
  |ret u=>exact I.after hq
  |next=>exact False.elim hq
  |brk=>exact False.elim hq
  |cont=>exact False.elim hq
theorem zoq(F:cW X.prog X.w X.K X.mg X.base CX k f fd ps sp)(hr:bI k X.A)(hg:Gl X x)(hm:X.mg x=some (.ref f))(hk:PySem.W.keepIn X.K (.ref f)=true)(hb:Binds X.K fd ps ds)(hd:Vals iW ds)(hx:uR CX X E)(ha:PA X (e::es) t)(hdb:(x==("__debug__" : Str))=false:=by decide)(he:starEach (e::es) X.env=(false,eval e X.env)::starEach es X.env:=by rfl)(hpl:(backTo pos (starEach es X.env)).any (·.1)=false:=by rfl):
 PE X (.Call (.Name x p) (e::es) [] pos) (Ar sp iW E t):=by
 intro pins s σ H Q I h;refine wpAny_Call_Name_kw (Io I hg hm ?_ hdb);refine PySem.W.callWith_K (h₀:=X.base) I.ok.mod.kin hk (bQ (ha pos pins s σ H _ I h) λus s1 ⟨vs,H1,I1,r,q⟩=>⟨I1.kIn,?_⟩) he hpl;exact HN F hr hb hd hx I1 r q
theorem zon{pl:Sem Bool}(he:PE X o ta)(c:jX X.K C)(hm:Meth X.K C m f)(F:cW X.prog X.w X.K X.mg X.base CX k f fd ps sp)(hr:bI k X.A)(hb:Binds X.K fd ps ds)(hd:Vals iW ds)(hx:uR CX X E)(ha:PA X (e::es) t)(hst:starEach (e::es) X.env=(false,eval e X.env)::starEach es X.env:=by rfl)(hpl:(backTo pos (starEach es X.env)).any (·.1)=false:=by rfl)(ht:eval (.Call (.Attribute o m apos) (e::es) [] pos) X.env=(do
  let ov <-eval o X.env
  standAt apos.atName
  let (f,first) <-holding [ov] (getMethod ov m pl)
  callWith pos f first (backTo pos (starEach (e::es) X.env)) (backToKw pos (keywordEach [] X.env))):=by rfl):
 PE X (.Call (.Attribute o m apos) (e::es) [] pos) (tW C m sp iW E ta t):=by
 intro pins s σ H Q I h;refine PySem.W.methodCall_KW (pl:=pl) (bQ (he pins s σ H _ I h) λu s1 ⟨x,H1,I1,rx,a,dx,fs,ex,ea,l,q⟩=>?_) ht;subst ex;obtain rfl:u=Value.ref a:=rx;refine UW I1 ea c hm l ?_;refine PySem.W.callWith_K (first:=[.ref a]) (h₀:=X.base) I.ok.mod.kin hm.kp (bQ (ha pos pins s1 σ H1 _ I1 q) λus s2 ⟨vs,H2,I2,r,q2⟩=>⟨I2.kIn,?_⟩) hst hpl;exact HN (us := .ref a::us) (vs := .ref a::vs) F hr hb hd hx I2 (.cons rfl r) q2
theorem zmg{pl:Sem Bool}(he:PE X o ta)(c:jX X.K C)(hm:Meth X.K C m f)(F:cW X.prog X.w X.K X.mg X.base CX k f fd ps sp)(hr:bI k X.A)(hb:Binds X.K fd ps ds)(hd:Vals iW ds)(hx:uR CX X E)(ht:eval (.Call (.Attribute o m apos) [] [] pos) X.env=(do
  let ov <-eval o X.env
  standAt apos.atName
  let (f,first) <-holding [ov] (getMethod ov m pl)
  callWith pos f first (backTo pos (starEach [] X.env)) (backToKw pos (keywordEach [] X.env))):=by rfl):
 PE X (.Call (.Attribute o m apos) [] [] pos) (tW C m sp iW E ta Ak):=by
 intro pins s σ H Q I h;refine PySem.W.methodCall_KW (pl:=pl) (bQ (he pins s σ H _ I h) λu s1 ⟨x,H1,I1,rx,a,dx,fs,ex,ea,l,q⟩=>?_) ht;subst ex;obtain rfl:u=Value.ref a:=rx;refine UW I1 ea c hm l ?_;exact PySem.W.callWith_K0 (first:=[.ref a]) I1.kIn hm.kp (HN (us:=[.ref a]) (vs:=[.ref a]) F hr hb hd hx I1 (.cons rfl .nil) q)
structure Mk(K:FgA)(C f:Addr):Prop where
 makes:PySem.W.makesIn K C=true
 init:PySem.W.findIn K (.ref C) "__init__" = some (some (.ref f))
 fn:PySem.W.isFn K (.ref f)=true
 kp:PySem.W.keepIn K (.ref C)=true
theorem zl4{pins:List (Addr×Obj)}{σ:St}{H:Hp}{s:Shared}{Q:VK}{us:List Value}{vs:List V}(M:Mk X.K C f)(F:cW X.prog X.w X.K X.mg X.base CX k f fd ps sp)(hr:bI (k+1) X.A)(hb:Binds X.K fd ps ds)(hd:Vals iW ds)(hx:uR CX X E)(I:Inv X pins σ H s)(r:Vals vs us)(h:∀x dx,H x=none->H dx=none->dx≠x->sp (.ref x::(vs++iW)) (upd (upd H dx (.own x)) x (.ins C dx [])) (λv H2=>v = .non/\Q (.ref x) H2) E):
 wpAny (model X.prog X.w) X.A (call (.ref C) us) (EP X pins σ Q) X.xe s:=by
 have hq:=h (s.heap.objs.size+1) s.heap.objs.size (I.hok.fresh (Nat.le_succ _)) (I.hok.fresh (bZ _)) (dz (Nat.lt_succ_self _));have I2:=Inv.made (C:=C) I;have r2:Vals (V.ref (s.heap.objs.size+1)::(vs++iW)) (Value.ref (s.heap.objs.size+1)::(us++ds)) := .cons rfl (r.append hd);have hl:(Value.ref (s.heap.objs.size+1)::us++ds).length=ps.length:=by have e:=r2.length;rw[F.len _ _ _ _ hq] at e;exact e.symm
 refine wpAny_call (zmr (f:=f) I.kIn M.makes M.init (beq_iff_eq.mp M.fn) (codeAny_mono (F.run _ X.stack _ _ ⟨Value.ref (s.heap.objs.size+1)::us,[]⟩ (Value.ref (s.heap.objs.size+1)::(us++ds)) _ _ E (hr.make C us [])
  (I2.env0.make C us []) (hb _ (Value.ref (s.heap.objs.size+1)::us) I2.kIn hl) r2 hq) λr s' hq'=>?_))
 cases r with
 |error e=>exact hx pins σ _ _ e s' I2 hq'
 |ok fl =>
  cases fl with
  |ret u =>
   obtain⟨v,H',I3,rv,ev,q3⟩:=I2.after hq';subst ev;exact⟨rv,⟨V.ref (s.heap.objs.size+1),H',I3,rfl,q3⟩⟩
  |next=>exact False.elim hq'
  |brk=>exact False.elim hq'
  |cont=>exact False.elim hq'
theorem zoo(M:Mk X.K C f)(F:cW X.prog X.w X.K X.mg X.base CX k f fd ps sp)(hr:bI (k+1) X.A)(hg:Gl X x)(hm:X.mg x=some (.ref C))(hb:Binds X.K fd ps ds)(hd:Vals iW ds)(hx:uR CX X E)(ha:PA X (e::es) t)(hdb:(x==("__debug__" : Str))=false:=by decide)(he:starEach (e::es) X.env=(false,eval e X.env)::starEach es X.env:=by rfl)(hpl:(backTo pos (starEach es X.env)).any (·.1)=false:=by rfl):
 PE X (.Call (.Name x p) (e::es) [] pos) (Al C sp iW E t):=by
 intro pins s σ H Q I h;refine wpAny_Call_Name_kw (Io I hg hm ?_ hdb);refine PySem.W.callWith_K (h₀:=X.base) I.ok.mod.kin M.kp (bQ (ha pos pins s σ H _ I h) λus s1 ⟨vs,H1,I1,r,q⟩=>⟨I1.kIn,?_⟩) he hpl;exact zl4 M F hr hb hd hx I1 r q
end
structure nq(N P:List Str)(sc:Scope):Prop where
 kind:sc.kind = .function
 co:sc.isCoroutine=false
 gen:sc.isGenerator=false
 nd:N.Nodup
 pre:N.take P.length=P
 par:∀x∈P,sc.names.lookup x=some .local\/sc.names.lookup x=some .cell
 nofree:∀y∈sc.names,y.2 ≠ .free
theorem Ti{kindOf:Str->Option NameKind}{x:Str}:∀{binds:List (Str×Value)} {m:Str->Option Value},(∀v,(x,v)∉binds)->bindL kindOf binds m x=m x
 |[],_,_=>rfl
 | (n,v)::r,m,h=>by
   unfold bindL;rw[Ti λw hw=>h w (cQ _ hw)];split
   .have:x≠n:=by rintro rfl;exact h v fG
    simp[this]
   .rfl
theorem Tf{kindOf:Str->Option NameKind}{x:Str}:∀{binds:List (Str×Value)} {m:Str->Option Value},(∀v,(x,v)∉binds)->bindC kindOf binds m x=m x
 |[],_,_=>rfl
 | (n,v)::r,m,h=>by
   unfold bindC;rw[Tf λw hw=>h w (cQ _ hw)];split
   .rfl
   .have:x≠n:=by rintro rfl;exact h v fG
    simp[this]
theorem Tg{kindOf:Str->Option NameKind}{x:Str}{v:Value}:∀{P:List Str} {vs:List Value} {i:Nat} {m:Str->Option Value},P.Nodup->P[i]?=some x->vs[i]?=some v->kindOf x=some .local ->
 bindL kindOf (P.zip vs) m x=some v
 |[],_,_,_,_,h,_,_=>by simp at h
 |_::_,[],_,_,_,_,h,_=>by simp at h
 |p::P,w::vs,0,m,nd,h1,h2,hk=>by simp at h1 h2;subst h1;subst h2;show bindL kindOf ((p,w)::P.zip vs) m p=_;unfold bindL;rw[Ti λv hv=>(List.nodup_cons.mp nd).1 (List.of_mem_zip hv).1,if_pos hk];simp
 |p::P,w::vs,i+1,m,nd,h1,h2,hk=>by show bindL kindOf ((p,w)::P.zip vs) m x=_;unfold bindL;exact Tg (i:=i) (List.nodup_cons.mp nd).2 (by simpa using h1) (by simpa using h2) hk
theorem Te{kindOf:Str->Option NameKind}{x:Str}{v:Value}:∀{P:List Str} {vs:List Value} {i:Nat} {m:Str->Option Value},P.Nodup->P[i]?=some x->vs[i]?=some v->kindOf x≠some .local ->
 bindC kindOf (P.zip vs) m x=some v
 |[],_,_,_,_,h,_,_=>by simp at h
 |_::_,[],_,_,_,_,h,_=>by simp at h
 |p::P,w::vs,0,m,nd,h1,h2,hk=>by simp at h1 h2;subst h1;subst h2;show bindC kindOf ((p,w)::P.zip vs) m p=_;unfold bindC;rw[Tf λv hv=>(List.nodup_cons.mp nd).1 (List.of_mem_zip hv).1,if_neg hk];simp
 |p::P,w::vs,i+1,m,nd,h1,h2,hk=>by show bindC kindOf ((p,w)::P.zip vs) m x=_;unfold bindC;exact Te (i:=i) (List.nodup_cons.mp nd).2 (by simpa using h1) (by simpa using h2) hk
noncomputable def start(N:List Str)(vs:List V):St:=vs.map some++List.replicate (N.length - vs.length) none
noncomputable def pO(CX:pM)(P:Program)(w:World)(K:FgA)(mg:Str->Option Value)(base:Heap)(N:List Str)(qual:Str)(scope:Scope)(f:Addr)(cd:Value)(A:Around)(outer:List Env)(s:Shared)(H:Hp)(E:XK):Cx where
 prog:=P
 w:=w
 K:=K
 mg:=mg
 base:=base
 A:=A.deeper (envOfC qual scope s.heap.objs.size f cd)
 N:=N
 s₀:=s
 H₀:=H
 env:=envOfC qual scope s.heap.objs.size f cd
 outer:=outer
 stack:=envOfC qual scope s.heap.objs.size f cd::outer
 ex:=[]
 calm:=true
 fn:=λ_=>true
 pn:=[]
 xe:=λe s'=>wpAny (model P w) (A.deeper (envOfC qual scope s.heap.objs.size f cd)) (leaving (envOfC qual scope s.heap.objs.size f cd) e) (λ_ s''=>CX outer H s E e s'') (λe' s''=>CX outer H s E e' s'') s'
theorem R9{sc:Scope}{n:Nat}{x:Str}(h:sc.names.lookup x=some .cell):∃c,(cellsFrom n sc.names []).lookup x=some c:=by have q:=PySem.W.cellsFrom_some sc.names n [] (.inl h);exact Option.isSome_iff_exists.mp q
theorem zkT{CX:pM}{P:Program}{w:World}{K:FgA}{mg:Str->Option Value}{base:Heap}{N ps:List Str}{qual:Str}{scope:Scope}{f:Addr}{cd:Value}{A:Around}{outer:List Env}{s s1:Shared}{H:Hp}{E:XK}{us:List Value}{vs:List V}(S:nq N ps scope)(hd:A.handled=none)(e0:jE P w K mg base A outer s H)(hl:vs.length=ps.length)(r:Vals vs us)(x:InCallC s s.heap.objs.size (bindL (envOfC qual scope s.heap.objs.size f cd).kindOf (ps.zip us) λ_=>none) (cellsFrom (s.heap.objs.size+1) scope.names []) (bindC (envOfC qual scope s.heap.objs.size f cd).kindOf (ps.zip us) λ_=>none) s1):
 Inv (pO CX P w K mg base N qual scope f cd A outer s H E) [] (start N vs) H s1:=by
 have hpl:ps.length<=N.length:=by have:=congrArg List.length S.pre;rw[wZ] at this;omega
 obtain⟨h1,tk,rfl,hk⟩:=x.done;have rH:∀b:Addr,b∉(pO CX P w K mg base N qual scope f cd A outer s H E).ex:=λb z=>absurd (show b∈([]:List Addr) from z) (by simp);refine⟨⟨e0.mod,S.kind,rfl,rfl,bZ _,λy z c h1 h2=>?_,λy hy=>?_,λy c _ h=>?_,λ_=>hd,Around.frames_deeper e0.frames,.inr ⟨rfl,rfl⟩,λb z=>absurd z (rH b),e0.bs,e0.bsz,λb _ _=>rH b,λb z=>absurd z (rH b),e0.funs,e0.frf⟩,
  rfl,e0.bare,Un.kept hk,⟨_,x.toInCall.ns,λi y v h1 h2 h3=>?_⟩,λy c h=>⟨_,x.cell y c h⟩,e0.hok.fresh (bZ _),λy c h=>?_,λp hp=>absurd (show p∈([]:List (Addr×Obj)) from hp) (by simp),e0.hok.kept hk,?_⟩
 .exact name_of_addr x.apart (iy h1) (iy h2)
 .have hy:scope.names.lookup y=some .cell\/scope.names.lookup y=some .free:=hy;rcases hy with hy|hy
  .exact R9 hy
  .exact absurd rfl (S.nofree _ (iy hy))
 .exact uE (x.above y c (iy h))
 .have hi:i<vs.length:=by
   unfold start at h2;by_cases hi:i<vs.length
   .exact hi
   .rw[yS (by simpa using hi)] at h2;rw[List.getElem?_replicate] at h2;split at h2<;>cases h2
  have ha:vs[i]?=some v:=by
   unfold start at h2;rw[mZ (by simpa using hi),jg] at h2;cases e:vs[i]? with
   |none=>rw[e] at h2;cases h2
   |some a=>rw[e] at h2;cases h2;rfl
  obtain⟨u,hu,rv⟩:=r.get ha;have hp:ps[i]?=some y:=by rw[<-S.pre,List.getElem?_take_of_lt (by omega)];exact h1
  have WL:ps.Nodup:=by rw[<-S.pre];exact S.nd.sublist (List.take_sublist _ _)
  refine⟨u,rv,?_⟩;rcases S.par y (List.mem_of_getElem? hp) with k|k
  .exact .inl ⟨k,Tg WL hp hu k⟩
  .obtain⟨c,e⟩:=R9 (n:=s.heap.objs.size+1) k;refine .inr ⟨.inl k,c,e,?_⟩;have q:=x.cell y c e;rw[Te WL hp hu (by show scope.names.lookup y≠_;rw[k];decide)] at q;exact q
 .exact e0.hok.fresh (uE (x.above y c (iy h)))
 .unfold start;show _=N.length;rw[lH,dJ,List.length_replicate];omega
theorem PN{CX:pM}{P:Program}{w:World}{K:FgA}{mg:Str->Option Value}{base:Heap}{k:Nat}{f:Addr}{name qual:Str}{params:Arguments}{body:List Stmt}{scope:Scope}{dV kV doc pm cdv ct oc:Value}{an od:Option Addr}{osl:Array (Option Value)}{N ps:List Str}{sp:Sp}(lk:K.lookup f=some ⟨oc,od,.func (PySem.W.fnOf name qual params body scope dV kV doc pm an cdv ct),osl⟩)(hcd:PySem.W.codeIn K cdv qual=true)(S:nq N ps scope)(len:∀vs H Q E,sp vs H Q E->vs.length=ps.length)(hbody:∀(A:Around) (outer:List Env) (s:Shared) (H:Hp) (vs:List V) (Q:VK) (E:XK),bI k (A.deeper (envOfC qual scope s.heap.objs.size f cdv))->sp vs H Q E ->
  ∃t,jM (pO CX P w K mg base N qual scope f cdv A outer s H E) body t/\t { nx:=λ_ H'=>Q .non H',rt:=Q } (start N vs) H):
 cW P w K mg base CX (k+1) f (PySem.W.fnOf name qual params body scope dV kV doc pm an cdv ct) ps sp:=by
 refine⟨len,λA outer s H args us vs Q E hr e0 hb r hsp=>?_⟩;have hl:=len _ _ _ _ hsp;have KX:K.In s.heap:=e0.mod.kin.keeps λb o e=>(e0.bs b o e).1;have lim:s.heap.NoLimit:=e0.mod.nolimit.keeps λb o e=>(e0.bs b o e).1;have hkind:∀y∈ps.zip us,scope.names.lookup y.1=some .local\/(scope.names.lookup y.1=some .cell/\((cellsFrom (s.heap.objs.size+1) scope.names []).lookup y.1).isSome=true):=fun⟨n,v⟩ hy=>by
  rcases S.par n (List.of_mem_zip hy).1 with q|q
  .exact .inl q
  .exact .inr ⟨q,PySem.W.cellsFrom_some _ _ _ (.inl q)⟩
 refine codeAny_call_function hr.depth (KX _ _ lk) rfl S.co S.gen rfl (PySem.W.codeRec_of KX hcd) (hb _ _ _ _ ?_);refine wpAny_newFunctionEnv_cells S.kind hkind λenv he s1 x=>?_;subst he;refine⟨lim.keeps x.toInCall.keep,codeAny_func ?_⟩;obtain⟨t,ht,hq⟩:=hbody A outer s H vs Q E (hr.deeper _) hsp;have I:Inv (pO CX P w K mg base N qual scope f cdv A outer s H E) [] (start N vs) H s1:=zkT S hr.hd e0 hl r x;refine jO (ht [] s1 (start N vs) H _ I hq) (λfl s' hs=>?_) λe s' hs=>hs;have fin:∀{σ':St} {H':Hp} {v:V} {u:Value},Inv (pO CX P w K mg base N qual scope f cdv A outer s H E) [] σ' H' s'->RelV v u->Q v H'->CE outer P w H s Q u s' :=
  λ{σ' H' v u} J rv q=>⟨v,H',J.os,J.bare,J.base,J.hok,rv,q⟩
 cases fl with
 |ret u =>
  obtain⟨v,σ',H',J,rv,q⟩:=hs;exact fin J rv q
 |next =>
  obtain⟨σ',H',J,q⟩:=hs;exact fin (v:=V.non) (u:=Value.none) J rfl q
 |brk =>
  obtain⟨_,_,_,q⟩:=hs;exact False.elim q
 |cont =>
  obtain⟨_,_,_,q⟩:=hs;exact False.elim q
section
variable {X:Cx}{x:Str}{p pos:Pos}{e:Expr}{es:List Expr}{t:TA}{id T:String}{r:List V->Hp->VK->Prop}
noncomputable def Wl(r:List V->Hp->VK->Prop)(t:TA):TE:=λσ H Q=>t σ H λvs H1=>r vs H1 Q
theorem zmi(hc:gY X (.builtin id) r)(hg:Gl X x)(hm:X.mg x=none)(hv:bootBuiltins x=some (.builtin id))(ha:PA X (e::es) t)(hn:x ≠ "__name__" := by decide)(hdb:(x==("__debug__" : Str))=false:=by decide)(he:starEach (e::es) X.env=(false,eval e X.env)::starEach es X.env:=by rfl)(hpl:(backTo pos (starEach es X.env)).any (·.1)=false:=by rfl):PE X (.Call (.Name x p) (e::es) [] pos) (Wl r t):=by intro pins s σ H Q I h;refine wpAny_Call_Name_kw (sZ I hg hm hv ?_ hn hdb);exact PyProof.Rows.callWith_builtin1 (bQ (ha pos pins s σ H _ I h) λus s1 ⟨vs,H1,I1,r1,q1⟩=>hc pins s1 σ H1 vs us Q I1 r1 q1) he hpl
theorem zkl(hc:gY X (.type T) r)(hg:Gl X x)(hm:X.mg x=none)(hv:bootBuiltins x=some (.type T))(ha:PA X (e::es) t)(hn:x ≠ "__name__" := by decide)(hdb:(x==("__debug__" : Str))=false:=by decide)(he:starEach (e::es) X.env=(false,eval e X.env)::starEach es X.env:=by rfl)(hpl:(backTo pos (starEach es X.env)).any (·.1)=false:=by rfl):PE X (.Call (.Name x p) (e::es) [] pos) (Wl r t):=by intro pins s σ H Q I h;refine wpAny_Call_Name_kw (sZ I hg hm hv ?_ hn hdb);exact PyProof.Rows.callWith_type1 (bQ (ha pos pins s σ H _ I h) λus s1 ⟨vs,H1,I1,r1,q1⟩=>hc pins s1 σ H1 vs us Q I1 r1 q1) he hpl
end
end L2
namespace HT
open PySem PyProof.Rows
section
variable {prog:Program}{w:World}{A:Around}{E:Value->Shared->Prop}{s:Shared}
theorem zpk{t b:Addr}{vs ws:List Value}{Q:Value->Shared->Prop}(ht:IsTup s.heap t vs.toArray)(hb:IsTup s.heap b ws.toArray)(hv:vs≠[])(h1:ws=[]->Q (.ref t) s)(h2:ws≠[]->Q (.ref s.heap.objs.size) { s with heap:=s.heap.push { cls := .type "tuple",data := .seq (vs++ws).toArray } })(hsz:vs.length+ws.length<=sizeLine):wpAny (model prog w) A (binaryOp .Add (.ref t) (.ref b)) Q E s:=by
 obtain⟨⟨cls,dd,data,sl⟩,ho,hc,n,hd⟩:=id ht;obtain⟨⟨cls2,dd2,data2,sl2⟩,ho2,hc2,n2,hd2⟩:=id hb;simp only at hc hd hc2 hd2;subst hc hd hc2 hd2;have e:vs.toArray++ws.toArray=(vs++ws).toArray:=by simp
 by_cases hw:ws=[]
 .exact concat_meets ⟨_,ho,rfl⟩ ⟨_,ho2,rfl⟩ noFill_tuple_add seq_tuple_add PySem.F.slot_tuple_add PySem.F.entry_tuple_add (PySem.F.args_tuple_add_2 _ _)
   (tuple_addW1 t b vs.toArray ws.toArray n n2 dd dd2 sl sl2 (by simpa using hv) (by simp[hw])) ⟨ho,ho2,h1 hw⟩
 .refine concat_meets ⟨_,ho,rfl⟩ ⟨_,ho2,rfl⟩ noFill_tuple_add seq_tuple_add PySem.F.slot_tuple_add PySem.F.entry_tuple_add (PySem.F.args_tuple_add_2 _ _)
   (tuple_addW2 t b vs.toArray ws.toArray n n2 dd dd2 sl sl2 (by simpa using hv) (by simpa using hw) (by rw[dU,dU];exact hsz)) ⟨ho,ho2,?_⟩
  rw[e];exact h2 hw
noncomputable def sIx(n d:Nat):Option Int->Nat
 |none=>d
 |some v=>if v<0 then(v+(n:Int)).toNat else min v.toNat n
def zin(n d:Nat):sIx n d none=d:=rfl
theorem zj9(n d k:Nat):sIx n d (some (k:Int))=min k n:=by show(if(k:Int)<0 then((k:Int)+(n:Int)).toNat else min (k:Int).toNat n)=min k n;rw[if_neg (by omega),Int.toNat_natCast]
theorem YF(n d:Nat)(hd:d<=n)(o:Option Int):sIx n d o<=n:=by
 cases o with
 |none=>exact hd
 |some v =>
  show(if v<0 then(v+(n:Int)).toNat else min v.toNat n)<=n;by_cases hv:v<0
  .rw[if_pos hv];omega
  .rw[if_neg hv];exact Nat.min_le_right _ _
theorem QM(v:Int)(n d:Nat):(if v<0 then max (v+(n:Int)) 0 else min v (n:Int))=((sIx n d (some v):Nat):Int):=by
 show(if v<0 then max (v+(n:Int)) 0 else min v (n:Int))=(((if v<0 then(v+(n:Int)).toNat else min v.toNat n):Nat):Int)
 by_cases hv:v<0
 .simp only[if_pos hv];omega
 .simp only[if_neg hv];omega
theorem zjH(lo hi:Option Int)(n:Nat):Builtin.Slice.sliceAdjust lo hi 1 (n:Int)=(((sIx n 0 lo:Nat):Int),((sIx n n hi:Nat):Int)):=by
 have h1:¬((1:Int)<0):=by omega
 unfold Builtin.Slice.sliceAdjust;simp only[h1,if_false];refine Prod.ext ?_ ?_
 .cases lo with
  |none=>rfl
  |some v=>exact QM v n 0
 .cases hi with
  |none=>rfl
  |some v=>exact QM v n n
theorem zjh(i j:Nat):Builtin.Slice.slicePlaces (i:Int) (j:Int) 1=j - i:=by
 unfold Builtin.Slice.slicePlaces;have h1:(1:Int)>0:=by omega
 simp only[h1,if_true,Int.ediv_one];split<;>omega
theorem U6{v:Value}{o:Option Int}{Q:Option Int->Shared->Prop}(p:IsPart v o)(h:Q o s):wpAny (model prog w) A (Builtin.Slice.slicePartIndex v) Q E s:=by
 cases p with
 |none=>exact slicePart_none h
 |int i t=>exact slicePart_int h
theorem zc4{sl:Addr}{vl vu:Value}{lo hi:Option Int}{n:Nat}{Q:Int×Int×Nat->Shared->Prop}(hs:s.heap.IsSliceOf sl vl vu .none)(pl:IsPart vl lo)(pu:IsPart vu hi)(h:Q (((sIx n 0 lo:Nat):Int),1,sIx n n hi - sIx n 0 lo) s):wpAny (model prog w) A (Builtin.Slice.sliceApplied (.ref sl) (pure (n:Int))) Q E s:=by obtain⟨os,hos,hcs,hds⟩:=id hs;unfold Builtin.Slice.sliceApplied Builtin.Slice.sliceFields;refine aO (aO (wpAny_field hos hds (x:=vl) rfl (aO (wpAny_field hos hds (x:=vu) rfl (aO (wpAny_field hos hds (x := .none) rfl (b7 ?_)))))));refine aO (slicePart_none ?_);show wpAny _ _ (if((1:Int)==0)=true then _ else _) _ _ s;rw[if_neg (by decide)];refine aO (U6 pl (aO (U6 pu (aO (b7 ?_)))));show wpAny _ _ (match Builtin.Slice.sliceAdjust lo hi 1 (n:Int) with|(lo,hi)=>pure (lo,(1:Int),Builtin.Slice.slicePlaces lo hi 1)) _ _ s;rw[zjH lo hi n];show wpAny _ _ (pure (((sIx n 0 lo:Nat):Int),(1:Int),Builtin.Slice.slicePlaces ((sIx n 0 lo:Nat):Int) ((sIx n n hi:Nat):Int) 1)) _ _ s;rw[zjh];exact b7 h
theorem zmc(xs:Array Value)(i k:Nat):((List.range k).filterMap fun(m:Nat)=>xs[((i:Int)+(m:Int)*1).toNat]?).toArray=((xs.toList.drop i).take k).toArray:=by
 have e:(fun(m:Nat)=>xs[((i:Int)+(m:Int)*1).toNat]?)=λm=>xs[i+m]?:=by
  funext m;have:((i:Int)+(m:Int)*1).toNat=i+m:=by omega
  rw[this]
 rw[e];have:=pick_run xs i k;rw[List.filterMap_map] at this;have e2:((λx=>xs[x]?) ∘ λx=>i+x)=λm=>xs[i+m]?:=rfl;rw[e2] at this;rw[this]
theorem zee{t sl:Addr}{items:Array Value}{vl vu:Value}{lo hi:Option Int}{Q:Value->Shared->Prop}(ht:IsTup s.heap t items)(hs:s.heap.IsSliceOf sl vl vu .none)(pl:IsPart vl lo)(pu:IsPart vu hi)(hw:¬(sIx items.size 0 lo=0/\sIx items.size items.size hi=items.size))(h:Q (.ref s.heap.objs.size) { s with heap:=s.heap.push { cls := .type "tuple",data := .seq ((items.toList.drop (sIx items.size 0 lo)).take (sIx items.size items.size hi - sIx items.size 0 lo)).toArray } })(hsz:items.size<=sizeLine):wpAny (model prog w) A (getItem (.ref t) (.ref sl)) Q E s:=by
 have iH:sizeOk (.seq ((items.toList.drop (sIx items.size 0 lo)).take (sIx items.size items.size hi - sIx items.size 0 lo)).toArray):=by show((items.toList.drop (sIx items.size 0 lo)).take (sIx items.size items.size hi - sIx items.size 0 lo)).toArray.size<=sizeLine;rw[dU,wZ,List.length_drop,Array.length_toList];omega
 have hj:sIx items.size items.size hi<=items.size:=YF _ _ (bZ _) hi;obtain⟨os,hos,hcs,hds⟩:=id hs;have hTs:s.TypeIs (.ref sl) "slice" := ⟨os,hos,hcs⟩
 unfold getItem
 try with_reducible refine wpAny_holding ?_
 first|refine aO (b7 ?_)|skip
 refine aO (wpAny_sequenceKey ht.typeIs (by decide) ?_);refine aO (wpAny_callSpecial?_slot (name:=Str.ofString "__getitem__") ht.typeIs PyProof.Rows.slot_tuple_getitem
  (wpAny_call_entry PyProof.Rows.slot_tuple_getitem ht.typeIs entry_tuple_getitem ?_ (args_tuple_getitem _ _)))
 show wpAny _ _ (Builtin.Tuple.tupleItemsOf (.ref t) >>= _) _ _ s;refine aO (tupleItemsOf_ ht ?_);refine aO (wpAny_typeOf hTs ?_);rw[if_pos (by decide)];refine aO (zc4 hs pl pu ?_);have hno:¬((((sIx items.size 0 lo:Nat):Int)==0&&(1:Int)==1&&(sIx items.size items.size hi - sIx items.size 0 lo)==items.size)=true):=by intro q;rw[dj,dj] at q;have q1:((sIx items.size 0 lo:Nat):Int)=0:=eq_of_beq q.1.1;have q2:sIx items.size items.size hi - sIx items.size 0 lo=items.size:=eq_of_beq q.2;exact hw ⟨by omega,by omega⟩
 show wpAny _ _ (if(((sIx items.size 0 lo:Nat):Int)==0&&(1:Int)==1&&(sIx items.size items.size hi - sIx items.size 0 lo)==items.size)=true then _ else _) _ _ s;rw[if_neg hno,zmc]
 first
  |exact aO (m:=Builtin.Tuple.tupleExact _) (wpAny_newObj_type (b7 ⟨_,rfl,b7 h⟩) iH)
  |exact aO (m:=Builtin.Tuple.tupleExact _) (wpAny_newObj_type (aO (b7 (b7 ⟨_,rfl,b7 h⟩))) iH)
  |exact aO (aO (m:=Builtin.Tuple.tupleExact _) (wpAny_newObj_type (b7 (b7 ⟨_,rfl,b7 h⟩)) iH))
  |exact aO (aO (m:=Builtin.Tuple.tupleExact _) (wpAny_newObj_type (b7 ⟨_,rfl,b7 h⟩) iH))
end
end HT
namespace L2
open PySem PySem.Spec PyProof.Rows
noncomputable abbrev TO:=St->Hp->(Option Int->Hp->Prop)->Prop
noncomputable def PO(X:Cx)(e:Option Expr)(t:TO):Prop :=
 ∀(pins:List (Addr×Obj)) (s:Shared) (σ:St) (H:Hp) (Q:Option Int->Hp->Prop),Inv X pins σ H s->t σ H Q ->
  wpAny (model X.prog X.w) X.A (evalPart e X.env) (λu s'=>∃o H',Inv X pins σ H' s'/\IsPart u o/\Q o H') X.xe s
noncomputable def qZ:TO:=λ_ H Q=>Q none H
noncomputable def Ah(t:TE):TO:=λσ H Q=>t σ H λx H1=>∃i,x = .int i/\Q (some i) H1
section
variable {X:Cx}{e:Expr}{te:TE}{lo hi:Option Expr}{tl th:TO}{pos p2:Pos}
def zoi:PO X none qZ:=by intro pins s σ H Q I h;rw[evalPart_none];exact b7 ⟨none,H,I,.none,h⟩
theorem zoh(h:PE X e te):PO X (some e) (Ah te):=by intro pins s σ H Q I hw;rw[evalPart_some];refine bQ (h pins s σ H _ I hw) λu s1 ⟨x,H1,I1,r1,q1⟩=>?_;obtain⟨i,rfl,q⟩:=q1;obtain⟨t,rfl⟩:=r1;exact⟨some i,H1,I1,.int i t,q⟩
noncomputable def qx(X:Cx)(r:V->Option Int->Option Int->Hp->VK->Prop):Prop :=
 ∀(pins:List (Addr×Obj)) (s:Shared) (σ:St) (H:Hp) (x:V) (v vl vu:Value) (lo hi:Option Int) (sl:Addr) (Q:VK),Inv X pins σ H s->RelV x v->s.heap.IsSliceOf sl vl vu .none->IsPart vl lo->IsPart vu hi->r x lo hi H Q ->
  ∃T id,typeLookup (.type T) "__getitem__" = pure (some (.builtin id))/\s.TypeIs v T/\wpAny (model X.prog X.w) X.A (getItem v (.ref sl)) (EP X pins σ Q) X.xe s
theorem qx.or{r r':V->Option Int->Option Int->Hp->VK->Prop}(h:qx X r)(h':qx X r'):qx X (λx lo hi H Q=>r x lo hi H Q\/r' x lo hi H Q):=by
 intro pins s σ H x v vl vu lo hi sl Q I rx hs pl pu q;rcases q with q|q
 .exact h pins s σ H x v vl vu lo hi sl Q I rx hs pl pu q
 .exact h' pins s σ H x v vl vu lo hi sl Q I rx hs pl pu q
noncomputable def tSl(r:V->Option Int->Option Int->Hp->VK->Prop)(te:TE)(tl th:TO):TE:=λσ H Q=>te σ H λx H1=>tl σ H1 λl H2=>th σ H2 λu H3=>r x l u H3 Q
theorem zmf{r:V->Option Int->Option Int->Hp->VK->Prop}(hr:qx X r)(he:PE X e te)(hl:PO X lo tl)(hu:PO X hi th):PE X (.Subscript e (.Slice lo hi none p2) pos) (tSl r te tl th):=by intro pins s σ H Q I h;refine Subscript_ (bQ (he pins s σ H _ I h) λv s1 ⟨x,H1,I1,r1,q1⟩=>?_);refine wpAny_Slice (bQ (hl pins s1 σ H1 _ I1 q1) λvl s2 ⟨l,H2,I2,pl,q2⟩=>bQ (hu pins s2 σ H2 _ I2 q2) λvu s3 ⟨u,H3,I3,pu,q3⟩=>?_);rw[evalPart_none];refine b7 ?_;have I4:Inv X pins σ H3 { s3 with heap:=s3.heap.push { cls := .type "slice",data := .fields #[vl,vu,.none] } }:=I3.kept (t':=s3.toks) λb ob q=>dm _ q;obtain⟨T,id,hT,ht,hg⟩:=hr pins { s3 with heap:=s3.heap.push { cls := .type "slice",data := .fields #[vl,vu,.none] } } σ H3 x v vl vu l u s3.heap.objs.size Q I4 r1 (Heap.IsSliceOf.new ..) pl pu q3;show wpAny (model X.prog X.w) X.A (subscriptTail e (.Slice lo hi none p2) v (.ref s3.heap.objs.size)) (EP X pins σ Q) X.xe { s3 with heap:=s3.heap.push { cls := .type "slice",data := .fields #[vl,vu,.none] } };exact tail_any (ops:=[.ref s3.heap.objs.size,v]) ht hT hg (by with_unfolding_all rfl)
noncomputable def qy(xs:List V)(lo hi:Option Int):List V:=(xs.drop (HT.sIx xs.length 0 lo)).take (HT.sIx xs.length xs.length hi - HT.sIx xs.length 0 lo)
def Uw(xs:List V)(lo hi:Option Int):(qy xs lo hi).length<=xs.length:=by unfold qy;rw[wZ,List.length_drop];omega
noncomputable def Bk(K:FgA):V->Option Int->Option Int->Hp->VK->Prop:=λx lo hi H Q=>∃a xs,x = .ref a/\dR K H a xs /\
 ¬(HT.sIx xs.length 0 lo=0/\HT.sIx xs.length xs.length hi=xs.length)/\∀p,H p=none->Q (.ref p) (upd H p (.tup (qy xs lo hi)))
theorem Z2:qx X (Bk X.K):=by
 intro pins s σ H x v vl vu lo hi sl Q I rx hs pl pu h;obtain⟨a,xs,rfl,hx,hw,q⟩:=h;cases rx;obtain⟨its,r,ht,hz⟩:=I.tuple hx;have hlen:its.toArray.size=xs.length:=by rw[dU];exact r.length.symm
 refine⟨"tuple",_,PyProof.Rows.slot_tuple_getitem.lookup,ht.typeIs,?_⟩;refine HT.zee ht hs pl pu (by rw[hlen];exact hw) ?_ (by rw[hlen];exact hz);rw[hlen];refine⟨.ref s.heap.objs.size,_,I.laid (t':=s.toks) (o := .tup (qy xs lo hi)) (λb ob q=>dm _ q) (bZ _) ?_,rfl,q _ (I.hok.fresh (bZ _))⟩;exact⟨Nat.le_trans (Uw xs lo hi) hz,_,(r.drop (HT.sIx xs.length 0 lo)).take (HT.sIx xs.length xs.length hi - HT.sIx xs.length 0 lo),IsTup.new _ _⟩
noncomputable def Bm(K:FgA):R2:=λx y H Q=>∃a b xs ys,x = .ref a/\y = .ref b/\dR K H a xs/\dR K H b ys/\xs≠[]/\xs.length+ys.length<=sizeLine /\
 (ys=[]->Q (.ref a) H)/\(ys≠[]->∀p,H p=none->Q (.ref p) (upd H p (.tup (xs++ys))))
def Vals.nil_iff{xs:List V}{us:List Value}(r:Vals xs us):us=[]↔xs=[]:=by
 cases r with
 |nil=>simp
 |cons _ _=>simp
theorem zoK:fC X (binaryOp .Add) (Bm X.K):=by intro pins s σ H x y v u Q I rx ry h;obtain⟨a,b,xs,ys,rfl,rfl,ha,hb,hx,hz,q1,q2⟩:=h;cases rx;cases ry;obtain⟨its,r1,p1,_⟩:=I.tuple ha;obtain⟨its2,r2,p2,_⟩:=I.tuple hb;refine HT.zpk p1 p2 (λz=>hx (r1.nil_iff.mp z)) (λz=>⟨.ref a,H,I,rfl,q1 (r2.nil_iff.mp z)⟩) (λz=>?_) (by rw[<-r1.length,<-r2.length];exact hz);refine⟨.ref s.heap.objs.size,_,I.laid (t':=s.toks) (o := .tup (xs++ys)) (λb ob q=>dm _ q) (bZ _) ?_,rfl,q2 (λw=>z (r2.nil_iff.mpr w)) _ (I.hok.fresh (bZ _))⟩;exact⟨by rw[lH];exact hz,_,r1.append r2,IsTup.new _ _⟩
end
noncomputable def uc(n:Nat)(i:Int):Option Nat:=if 0<=i then(if i<n then some i.toNat else none) else if -(n:Int)<=i then some (i+n).toNat else none
noncomputable def eH{α:Type}(xs:List α)(i:Int):Option α:=(uc xs.length i).bind λj=>xs[j]?
theorem zoS{n:Nat}{i:Int}{j:Nat}(h:uc n i=some j):seqIndex? i n=some j/\j<n /\ -(n:Int)<=i/\i<n:=by
 unfold uc at h;by_cases h0:0<=i
 .rw[if_pos h0] at h;by_cases h1:i<n
  .rw[if_pos h1] at h;have e:i.toNat=j:=Option.some.inj h;exact⟨by rw[seqIndex_of h0 h1,e],by omega,by omega,h1⟩
  .rw[if_neg h1] at h;cases h
 .rw[if_neg h0] at h;by_cases h1 : -(n:Int)<=i
  .rw[if_pos h1] at h;have e:(i+n).toNat=j:=Option.some.inj h;exact⟨by rw[seqIndex_neg (by omega) h1,e],by omega,h1,by omega⟩
  .rw[if_neg h1] at h;cases h
theorem Jg{α:Type}{xs:List α}{i:Int}{v:α}(h:eH xs i=some v):∃j,seqIndex? i xs.length=some j/\xs[j]?=some v/\j<xs.length /\ -(xs.length:Int)<=i/\i<xs.length:=by
 unfold eH at h;cases e:uc xs.length i with
 |none=>rw[e] at h;cases h
 |some j =>
  rw[e] at h;obtain⟨h1,h2,h3,h4⟩:=zoS e;exact⟨j,h1,h,h2,h3,h4⟩
theorem QK{α:Type}{xs:List α}{j:Nat}{v:α}(h:xs[j]?=some v):eH xs (j:Int)=some v:=by
 have hj:j<xs.length:=(fu.mp h).1;have e:uc xs.length (j:Int)=some j:=by unfold uc;rw[if_pos (by omega),if_pos (by omega)];simp
 unfold eH;rw[e];exact h
def Hh(b:Expr):Prop:=∀o i,subscripted b false o i=operate [o,i] (getItem o i)
noncomputable def CN(X:Cx)(r:R2):Prop :=
 ∀(value slice:Expr) (pins:List (Addr×Obj)) (s:Shared) (σ:St) (H:Hp) (x y:V) (v u:Value) (Q:VK),Inv X pins σ H s->RelV x v->RelV y u->r x y H Q ->
  subscripted slice false v u=operate [v,u] (getItem v u)->wpAny (model X.prog X.w) X.A (subscriptTail value slice v u) (EP X pins σ Q) X.xe s
noncomputable def su(X:Cx)(id:String)(r:V->List V->Hp->VK->Prop):Prop :=
 ∀(pins:List (Addr×Obj)) (s:Shared) (σ:St) (H:Hp) (x:V) (xs:List V) (v:Value) (us:List Value) (Q:VK),Inv X pins σ H s->RelV x v->Vals xs us->r x xs H Q ->
  wpAny (model X.prog X.w) X.A (call (.builtin id) (v::us)) (EP X pins σ Q) X.xe s
section
variable {X:Cx}{a b:Expr}{ta tb:TE}{pos:Pos}
theorem Yg{r:R2}(hr:CN X r)(ha:PE X a ta)(hb:PE X b tb)(hs:Hh b):PE X (.Subscript a b pos) (Ge r ta tb):=by intro pins s σ H Q I h;exact Subscript_ (wN ha hb I h λv u s2 x y H2 I2 rx ry q=>hr a b pins s2 σ H2 x y v u Q I2 rx ry q (hs _ _))
noncomputable def Nu(K:FgA):R2:=λx y H Q=>∃p xs i v,x = .ref p/\y = .int i/\dG K H p xs/\eH xs i=some v/\Q v H
noncomputable def Nr(K:FgA):R2:=λx y H Q=>∃p xs i v,x = .ref p/\y = .int i/\dR K H p xs/\eH xs i=some v/\Q v H
noncomputable def Nt:R2:=λx y H Q=>∃z i c,x = .str z/\y = .int i/\z.length<=sizeLine/\eH z.cps.toList i=some c/\Q (.str ⟨#[c]⟩) H
theorem Rj:CN X (Nu X.K):=by
 intro value slice pins s σ H x y v u Q I rx ry h hs;obtain⟨p,xs,i,z,rfl,rfl,hq,he,q⟩:=h;cases rx;obtain⟨t,rfl⟩:=ry;obtain⟨its,r,pl,hz⟩:=I.list hq;obtain⟨j,h1,h2,h3,h4,h5⟩:=Jg he;obtain⟨w,ew,eY⟩:=r.get h2;have hl:=r.length;have hn:=xH;have fin:EP X pins σ Q w s:=⟨z,H,I,eY,q⟩
 by_cases h0:0<=i
 .have hj:i.toNat=j:=by rw[seqIndex_of h0 h5] at h1;exact Option.some.inj h1
  exact item_listR pl.isList h0 (by omega) (by rw[hj];simpa using ew) fin hs
 .have hj:(i+(its.toArray.size:Int)).toNat=j:=by rw[seqIndex_neg (by omega) h4] at h1;rw[dU,<-hl];exact Option.some.inj h1
  exact subscriptTail_builtinR (x:=w) pl.isList.typeIs slot_list_getitem.lookup
   (wpAny_getItem_list_neg (Q:=λr s'=>r=w/\EP X pins σ Q r s') pl.isList (by omega) (by rw[dU]<;>omega) (by omega) (by rw[hj];simpa using ew) ⟨rfl,fin⟩) hs
theorem Zt:CN X (Nr X.K):=by
 intro value slice pins s σ H x y v u Q I rx ry h hs;obtain⟨p,xs,i,z,rfl,rfl,hq,he,q⟩:=h;cases rx;obtain⟨t,rfl⟩:=ry;obtain⟨its,r,pl,hz⟩:=I.tuple hq;obtain⟨j,h1,h2,h3,h4,h5⟩:=Jg he;obtain⟨w,ew,eY⟩:=r.get h2;have hl:=r.length;have hn:=xH;have fin:EP X pins σ Q w s:=⟨z,H,I,eY,q⟩
 exact subscriptTail_builtinR (x:=w) pl.typeIs slot_tuple_getitem.lookup
  (getItem_tuple (j:=j) (Q:=λr s'=>r=w/\EP X pins σ Q r s') pl (by omega) (by omega) (by rw[dU,<-hl];exact h1) (by simpa using ew) ⟨rfl,fin⟩) hs
theorem Zr:CN X Nt:=by
 intro value slice pins s σ H x y v u Q I rx ry h hs;obtain⟨z,i,c,rfl,rfl,hz,he,q⟩:=h;obtain⟨t,rfl⟩:=rx;obtain⟨t',rfl⟩:=ry;obtain⟨j,h1,h2,h3,h4,h5⟩:=Jg he;have hl:z.cps.toList.length=z.length:=by simp[Str.length]
 rw[hl] at h1 h4 h5;have hn:=xH;exact tail_any (typeIs_str s z t) slot_str_getitem.lookup (getItem_str (c:=c) (by
  have e1:decide (i < -(2 ^ 63:Int))=false:=decide_eq_false (by omega);have e2:decide (i ≥ 2 ^ 63)=false:=decide_eq_false (by omega);rw[e1,e2,Bool.or_false]) (by rw[h1];simpa using h2) ⟨.str ⟨#[c]⟩,H,I.tok _,⟨_,rfl⟩,q⟩) hs
theorem zgP(lo hi:Option Int)(n:Nat):(sliceBounds lo hi none n).1=((HT.sIx n 0 lo:Nat):Int)/\(sliceBounds lo hi none n).2.1=((HT.sIx n n hi:Nat):Int)/\(sliceBounds lo hi none n).2.2=1:=by
 refine⟨?_,?_,rfl⟩
 .cases lo with
  |none=>simp[sliceBounds,HT.sIx]
  |some i =>
   simp only[sliceBounds,HT.sIx,Option.getD_none,show(1:Int)>0 by decide,if_true];by_cases h:i<0
   .simp only[h,if_true]<;>omega
   .simp only[h,if_false]<;>omega
 .cases hi with
  |none=>simp[sliceBounds,HT.sIx]
  |some i =>
   simp only[sliceBounds,HT.sIx,Option.getD_none,show(1:Int)>0 by decide,if_true];by_cases h:i<0
   .simp only[h,if_true]<;>omega
   .simp only[h,if_false]<;>omega
theorem zgg(its:List Value)(lo hi:Option Int):slicePick its.toArray lo hi none=((its.drop (HT.sIx its.length 0 lo)).take (HT.sIx its.length its.length hi - HT.sIx its.length 0 lo)).toArray:=by obtain⟨h1,h2,h3⟩:=zgP lo hi its.toArray.size;unfold slicePick;rw[h1,h2,h3];simp only[sliceRange_one,pick_run,dU]<;>rfl
noncomputable def Bl(K:FgA):V->Option Int->Option Int->Hp->VK->Prop:=λx lo hi H Q=>∃a xs,x = .ref a/\dG K H a xs/\∀p,H p=none->Q (.ref p) (upd H p (.lst (qy xs lo hi)))
theorem znU:qx X (Bl X.K):=by intro pins s σ H x v vl vu lo hi sl Q I rx hs pl pu h;obtain⟨a,xs,rfl,hx,q⟩:=h;cases rx;obtain⟨its,r,ht,hz⟩:=I.list hx;have hlen:=r.length;refine⟨"list",_,slot_list_getitem.lookup,ht.isList.typeIs,?_⟩;refine wpAny_getItem_list_slice ht.isList hs pl pu .none (by simp) ?_ (by rw[dU]<;>omega);rw[zgg,<-hlen];refine⟨.ref s.heap.objs.size,_,I.laid (t':=s.toks) (o := .lst (qy xs lo hi)) (λb ob q=>dm _ q) (bZ _) ?_,rfl,q _ (I.hok.fresh (bZ _))⟩;exact⟨Nat.le_trans (Uw xs lo hi) hz,_,0,(r.drop (HT.sIx xs.length 0 lo)).take (HT.sIx xs.length xs.length hi - HT.sIx xs.length 0 lo),gw _ rfl⟩
theorem Vn:gY X (.builtin "len") (λxs H Q=>∃p ys,xs=[.ref p]/\(dG X.K H p ys\/dR X.K H p ys)/\Q (.int ys.length) H):=by
 intro pins s σ H xs us Q I r h;obtain⟨p,ys,rfl,hq,q⟩:=h;obtain⟨u,rfl,rx⟩:=oJ r;cases rx;have hn:=xH;rcases hq with hq|hq
 .obtain⟨its,r',pl,hz⟩:=I.list hq;have hlen:=r'.length;exact Calls.call_len_list pl.isList (by simp only[dU]<;>omega) ⟨.int ys.length,H,I.tok _,⟨s.toks+1,by rw[dU,hlen]⟩,q⟩
 .obtain⟨its,r',pl,hz⟩:=I.tuple hq;have hlen:=r'.length;exact len_tuple pl (by simp only[dU]<;>omega) ⟨.int ys.length,H,I.tok _,⟨s.toks+1,by rw[dU,hlen]⟩,q⟩
theorem zhi:gY X (.builtin "len") (λxs H Q=>∃z,xs=[.str z]/\z.length<=sizeLine/\Q (.int z.length) H):=by intro pins s σ H xs us Q I r h;obtain⟨z,rfl,hz,q⟩:=h;obtain⟨u,rfl,t,rfl⟩:=oJ r;have hn:=xH;exact len_str (by omega) ⟨.int z.length,H,I.tok _,⟨_,rfl⟩,q⟩
theorem zev:gY X (.type "list") (λxs H Q=>∃p ys,xs=[.ref p]/\(dG X.K H p ys\/dR X.K H p ys)/\∀l,H l=none->Q (.ref l) (upd H l (.lst ys))):=by
 intro pins s σ H xs us Q I r h;obtain⟨p,ys,rfl,hq,q⟩:=h;obtain⟨u,rfl,rx⟩:=oJ r;cases rx;have fin:∀(its:List Value),Vals ys its->ys.length<=sizeLine->∀(h':Heap) (c':Nat),(∀b o',s.heap.get? b=some o'->h'.get? b=some o') ->
  h'.get? s.heap.objs.size=some { cls := .type "list",dict:=none,data := .seq its.toArray c',slots:=#[] }->EP X pins σ Q (.ref s.heap.objs.size) { s with heap:=h' }:=λits r' hz h' c' kp e =>
  ⟨.ref s.heap.objs.size,_,I.laid (t':=s.toks) kp (bZ _) (show bY X.prog X.w _ h' _ (.lst ys) from⟨hz,its,c',r',e⟩),rfl,q _ (I.hok.fresh (bZ _))⟩
 rcases hq with hq|hq
 .obtain⟨its,r',pl,hz⟩:=I.list hq;have hlen:=r'.length;obtain⟨o,ho,hc,n,hd⟩:=pl.isList;exact call_list_seq p (.inl rfl) ho hc hd (λh' c' kp e=>fin its r' hz h' c' kp e) (by simp only[dU]<;>omega)
 .obtain⟨its,r',pl,hz⟩:=I.tuple hq;have hlen:=r'.length;obtain⟨o,ho,hc,n,hd⟩:=pl;exact call_list_seq p (.inr rfl) ho hc hd (λh' c' kp e=>fin its r' hz h' c' kp e) (by simp only[dU]<;>omega)
theorem V1:gY X (.type "tuple") (λxs H Q=>∃p ys,xs=[.ref p]/\((dG X.K H p ys/\∀l,H l=none->Q (.ref l) (upd H l (.tup ys)))\/(dR X.K H p ys/\Q (.ref p) H))):=by
 intro pins s σ H xs us Q I r h;obtain⟨p,ys,rfl,h⟩:=h;obtain⟨u,rfl,rx⟩:=oJ r;cases rx;rcases h with⟨hq,q⟩|⟨hq,q⟩
 .obtain⟨its,r',pl,hz⟩:=I.list hq;have hlen:=r'.length;refine call_tuple_list pl.isList (λh' kp=>?_) (by simp only[dU]<;>omega);have I1:Inv X pins σ H { s with heap:=h' }:=I.kept (t':=s.toks) kp;have I2:Inv X pins σ (upd H h'.objs.size (.tup ys)) { s with heap:=h'.push { cls := .type "tuple",data := .seq its.toArray } } :=
   I1.laid (t':=s.toks) (λb o e=>dm _ e) (bZ _) (show bY X.prog X.w _ _ _ (.tup ys) from⟨hz,its,r',IsTup.new _ _⟩)
  exact⟨.ref h'.objs.size,_,I2,rfl,q _ (I1.hok.fresh (bZ _))⟩
 .obtain⟨its,r',pl,hz⟩:=I.tuple hq;exact call_tuple_same pl ⟨.ref p,H,I,rfl,q⟩
noncomputable def Mw(K:FgA)(T:String)(x:V)(H:Hp):Prop:=match x with
 |.str _=>T = "str"
 |.int _=>T = "int"
 |.ref p=>(T = "list" /\ ∃xs,dG K H p xs)\/(T = "tuple" /\ ∃o,K.lookup p=some o/\o.cls = .type "tuple" /\ o.dict=none) \/
  (T = "dict" /\ ((∃kvs,H p=some (.dK kvs))\/∃kvs,H p=some (.dT kvs)))\/(T = "set" /\ ∃S n,H p=some (.set S n))
 |_=>False
theorem QH{pins:List (Addr×Obj)}{σ:St}{H:Hp}{s:Shared}{T:String}{x:V}{v:Value}(I:Inv X pins σ H s)(r:RelV x v)(ty:Mw X.K T x H):
 s.TypeIs v T/\∀a,v = .ref a->∃ob,s.heap.get? a=some ob/\ob.dict=none:=by
 cases x with
 |str z =>
  obtain⟨t,rfl⟩:=r;cases (show T = "str" from ty);exact⟨typeIs_str s z t,λ_ e=>nomatch e⟩
 |int i =>
  obtain⟨t,rfl⟩:=r;cases (show T = "int" from ty);exact⟨typeIs_int s i t,λ_ e=>nomatch e⟩
 |ref p =>
  cases r;rcases ty with⟨rfl,xs,hq⟩|⟨rfl,o,hk,hc,hd⟩|⟨rfl,hk⟩|⟨rfl,S,n,hk⟩
  .obtain⟨its,_,pl,_⟩:=I.list hq;refine⟨pl.isList.typeIs,λa e=>?_⟩;cases e;obtain⟨o,n,e,c,hd,_⟩:=pl;exact⟨o,e,hd⟩
  .refine⟨⟨o,I.kIn p o hk,hc⟩,λa e=>?_⟩;cases e;exact⟨o,I.kIn _ o hk,hd⟩
  .have z:∃o,s.heap.get? p=some o/\o.ExactDict:=by
    rcases hk with⟨kvs,hk⟩|⟨kvs,hk⟩
    .obtain⟨_,_,_,_,o,_,_,e,ex,_⟩:=I.hok p _ hk;exact⟨o,e,ex⟩
    .obtain⟨_,_,_,_,o,_,_,e,ex,_⟩:=I.hok p _ hk;exact⟨o,e,ex⟩
   obtain⟨o,e,ex⟩:=z;refine⟨⟨o,e,ex.1⟩,λa e2=>?_⟩;cases e2;exact⟨o,e,ex.2.1⟩
  .obtain⟨o,_,_,_,e,ex,_⟩:=I.hok p _ hk;refine⟨⟨o,e,ex.1⟩,λa e2=>?_⟩;cases e2;exact⟨o,e,ex.2.1⟩
 |_=>exact False.elim ty
noncomputable def M9(K:FgA)(T:String)(r:V->List V->Hp->VK->Prop)(to:TE):TE:=λσ H Q=>to σ H λx H1=>Mw K T x H1/\r x [] H1 Q
noncomputable def tBM(K:FgA)(T:String)(r:V->List V->Hp->VK->Prop)(to:TE)(t:TA):TE:=λσ H Q=>to σ H λx H1=>Mw K T x H1/\t σ H1 λxs H2=>r x xs H2 Q
variable {o e:Expr}{es:List Expr}{to:TE}{t:TA}{name:Str}{apos cpos:Pos}{T id:String}{r:V->List V->Hp->VK->Prop}
theorem Zd(pa:PlainAttrs T)(slot:Slot T name id)(hty:typeOf (.builtin id)=pure (.type "method_descriptor"))(hm:su X id r)(ho:PE X o to)(hbase:attributeBase o name X.env (eval o X.env)=eval o X.env:=by rfl)(hline:(apos.endLine==cpos.line)=true:=by rfl):PE X (.Call (.Attribute o name apos) [] [] cpos) (M9 X.K T r to):=by intro pins s σ H Q I h;refine wpAny_Call_method0_late hbase hline (bQ (ho pins s σ H _ I h) λv s1 ⟨x,H1,I1,r1,ty,q1⟩=>?_);obtain⟨h1,h2⟩:=QH I1 r1 ty;exact⟨T,id,pa,slot,hty,h1,h2,Calls.callWith_builtin rfl (PySem.evalArgs_none (hm pins s1 σ H1 x [] v [] Q I1 r1 .nil q1))⟩
theorem Ye(pa:PlainAttrs T)(slot:Slot T name id)(hty:typeOf (.builtin id)=pure (.type "method_descriptor"))(hm:su X id r)(ho:PE X o to)(ha:PA X (e::es) t)(hbase:attributeBase o name X.env (eval o X.env)=eval o X.env:=by rfl)(hfew:((backTo cpos (starEach (e::es) X.env)).all (λx => !x.1)&&(backToKw cpos (keywordEach [] X.env)).all (λx=>x.1.isSome)
  && decide ((e::es).length+([]:List Keyword).length+(if([]:List Keyword).isEmpty then 0 else 1)<30))=true:=by rfl)(hline:(apos.endLine==cpos.line)=true:=by rfl)(hs:starEach (e::es) X.env=(false,eval e X.env)::starEach es X.env:=by rfl)(hplain:(backTo cpos (starEach es X.env)).any (·.1)=false:=by rfl):
 PE X (.Call (.Attribute o name apos) (e::es) [] cpos) (tBM X.K T r to t):=by
 intro pins s σ H Q I h;refine wpAny_Call_method_late hbase hfew hline rfl (bQ (ho pins s σ H _ I h) λv s1 ⟨x,H1,I1,r1,ty,q1⟩=>?_);obtain⟨h1,h2⟩:=QH I1 r1 ty;refine⟨T,id,pa,slot,hty,h1,h2,?_⟩;have hA:=ha cpos pins s1 σ H1 _ I1 q1;rw[hs] at hA ⊢;refine Calls.callWith_builtin (by show(false||(backTo cpos (starEach es X.env)).any (·.1))=false;rw[hplain]<;>rfl) (Calls.evalArgs_plain ?_);exact bQ hA λus s2 ⟨vs,H2,I2,r2,q2⟩=>hm pins s2 σ H2 x vs v us Q I2 r1 r2 q2
end
noncomputable def Gw(X:Cx)(id:String)(r:V->List V->Hp->VK->Prop):Prop :=
 ∀(pins:List (Addr×Obj)) (s:Shared) (σ:St) (H:Hp) (x:V) (xs:List V) (v:Value) (us:List Value) (Q:VK),Inv X pins σ H s->RelV x v->Vals xs us->r x xs H Q ->
  wpAny (model X.prog X.w) X.A (call (.builtin id) (v::us)) (EP X pins σ Q) X.xe s
def Vals.one:∀{x:V} {us:List Value},Vals [x] us->∃u,us=[u]/\RelV x u
 |_,_,.cons r .nil=>⟨_,rfl,r⟩
def Vals.zero:∀{us:List Value},Vals [] us->us=[]
 |_,.nil=>rfl
theorem Vals.dropLast{xs:List V}{us:List Value}(h:Vals xs us):Vals xs.dropLast us.dropLast:=by
 induction h with
 |nil=>exact .nil
 |cons r t ih =>
  cases t with
  |nil=>exact .nil
  |cons q t'=>exact .cons r ih
def Vals.eraseIdx:∀{xs:List V} {us:List Value} (i:Nat),Vals xs us->Vals (xs.eraseIdx i) (us.eraseIdx i)
 |_,_,_,.nil => .nil
 |_,_,0,.cons _ t=>t
 |_,_,i+1,.cons r t => .cons r (Vals.eraseIdx i t)
theorem zjA{α:Type}(l:List α):l.eraseIdx (l.length - 1)=l.dropLast:=by
 induction l with
 |nil=>rfl
 |cons a r ih =>
  cases r with
  |nil=>rfl
  |cons b r =>
   have e:(a::b::r).length - 1=((b::r).length - 1)+1:=by have h1:(a::b::r).length=r.length+2:=rfl;have h2:(b::r).length=r.length+1:=rfl;omega
   rw[e,List.eraseIdx_cons_succ,ih]
   all_goals rfl
def Ul{α:Type}:∀(l:List α) (i:Nat),(l.eraseIdx i).length<=l.length
 |[],_=>bZ _
 |_::_,0=>Nat.le_succ _
 |_::r,i+1=>Nat.succ_le_succ (Ul r i)
section
variable {X:Cx}{pins:List (Addr×Obj)}{σ:St}{H:Hp}{s:Shared}{l b:Addr}{xs ys zs:List V}
theorem Inv.lset{its its':List Value}{n:Nat}{f:Array Value->Array Value}{t':Nat}(I:Inv X pins σ H s)(hH:H l=some (.lst xs))(e:s.heap.get? l=some { cls := .type "list",data := .seq its.toArray n })(hf:f its.toArray=its'.toArray)(hv:Vals ys its')(hz:ys.length<=sizeLine):
 Inv X pins σ (upd H l (.lst ys)) { s with heap:=s.heap.update l (Obj.mapSeq f),toks:=t' }:=by
 have q:=PySem.IsL.update e f;rw[hf] at q;refine I.write (x:=l) (e:=l) (by rw[hH];exact trivial) (.inl rfl) (λb' u hb hu=>(Heap.get?_update_other s.heap (Obj.mapSeq f) (Ne.symm hb)).trans hu) ⟨_,q⟩ ?_;exact⟨hz,its',_,hv,q⟩
def Inv.lnew{its:List Value}{t':Nat}(I:Inv X pins σ H s)(hv:Vals ys its)(hz:ys.length<=sizeLine):
 Inv X pins σ (upd H s.heap.objs.size (.lst ys)) { s with heap:=s.heap.push { cls := .type "list",data := .seq its.toArray },toks:=t' } :=
 I.laid (λ_ _ q=>dm _ q) (bZ _) ⟨hz,its,0,hv,gw _ rfl⟩
def Inv.fresh(I:Inv X pins σ H s):H s.heap.objs.size=none:=I.hok.fresh (bZ _)
theorem Inv.lstM(I:Inv X pins σ H s)(hH:H l=some (.lst xs)):xs.length<=sizeLine/\∃(its:List Value) (n:Nat),Vals xs its/\xs.length=its.length/\s.heap.get? l=some { cls := .type "list",data := .seq its.toArray n }:=by obtain⟨z,its,n,r,e⟩:=I.hok l _ hH;exact⟨z,its,n,r,r.length,e⟩
def Py{n:Nat}(h:n<=sizeLine):Builtin.List.listTooLong n=false:=by unfold Builtin.List.listTooLong;exact decide_eq_false (by omega)
end
section
variable {X:Cx}
noncomputable def rB:V->List V->Hp->VK->Prop:=λx vs H Q=>∃l xs y,x = .ref l/\vs=[y]/\H l=some (.lst xs)/\xs.length<sizeLine/\Q .non (upd H l (.lst (xs++[y])))
theorem zkt:Gw X "list.append" rB:=by intro pins s σ H x vs v us Q I rx rv h;obtain⟨l,xs,y,rfl,rfl,hH,hz,q⟩:=h;cases rx;obtain⟨u,rfl,ru⟩:=rv.one;obtain⟨z,its,n,r,hl,e⟩:=I.lstM hH;refine call_meets F.slot_list_append ⟨_,e,rfl⟩ F.entry_list_append (F.args_list_append_2 _ _) (PySem.list_append l its.toArray n u (by rw[dU];omega)) ⟨e,?_⟩;refine⟨.non,_,I.lset (its':=its++[u]) hH e (by simp) (r.append (.cons ru .nil)) ?_,rfl,q⟩;rw[lH,List.length_singleton];omega
noncomputable def rA:V->List V->Hp->VK->Prop:=λx vs H Q=>∃l b xs zs,x = .ref l/\vs=[.ref b]/\H l=some (.lst xs)/\H b=some (.lst zs)/\xs.length+zs.length<=sizeLine/\Q .non (upd H l (.lst (xs++zs)))
theorem zks:Gw X "list.extend" rA:=by
 intro pins s σ H x vs v us Q I rx rv h;obtain⟨l,b,xs,zs,rfl,rfl,hH,hB,hz,q⟩:=h;cases rx;obtain⟨u,rfl,ru⟩:=rv.one;cases ru;obtain⟨z,its,n,r,hl,e⟩:=I.lstM hH;obtain⟨z2,its2,n2,r2,hl2,e2⟩:=I.lstM hB;have hsz:its.toArray.size+its2.toArray.size<=sizeLine:=by rw[dU,dU];omega
 have pA:¬(!its.toArray.isEmpty&&Builtin.List.listTooLong (its.toArray.size+its2.toArray.size))=true:=by rw[Py hsz,Bool.and_false];exact gA
 refine call_meets F.slot_list_extend ⟨_,e,rfl⟩ F.entry_list_extend (F.args_list_extend_2 _ _)
  (AutoSeq1.list_extend_list_list_0 l its.toArray n b its2.toArray n2 pA (by rw[dU];omega) (by omega)) ⟨e,e2,?_⟩
 refine⟨.non,_,I.lset (its':=its++its2) hH e (by simp) (r.append r2) ?_,rfl,q⟩;rw[lH];omega
noncomputable def Nq:V->List V->Hp->VK->Prop:=λx vs H Q=>∃l xs y,x = .ref l/\vs=[]/\H l=some (.lst xs)/\xs[xs.length - 1]?=some y/\Q y (upd H l (.lst xs.dropLast))
theorem Y0:Gw X "list.pop" Nq:=by
 intro pins s σ H x vs v us Q I rx rv h;obtain⟨l,xs,y,rfl,rfl,hH,hy,q⟩:=h;cases rx;have hus:=rv.zero;subst hus;obtain⟨z,its,n,r,hl,e⟩:=I.lstM hH;obtain⟨u,hu,ru⟩:=r.get hy;have hy':its.toArray[its.toArray.size - 1]?=some u:=by show its.toArray[its.length - 1]?=some u;rw[<-Array.getElem?_toList,<-hl];exact hu
 refine call_meets F.slot_list_pop ⟨_,e,rfl⟩ F.entry_list_pop (F.args_list_pop_1 _) (MeetsSeq.list_pop_last l its.toArray n u hy' (by rw[dU];omega)) ⟨e,?_⟩;refine⟨y,_,I.lset (its':=its.dropLast) hH e ?_ r.dropLast ?_,ru,q⟩
 .show its.toArray.eraseIdxIfInBounds (its.toArray.size - 1)=its.dropLast.toArray;rw[dU,List.eraseIdxIfInBounds_toArray,zjA]
 .rw[List.length_dropLast];omega
noncomputable def vO:V->List V->Hp->VK->Prop:=λx vs H Q=>∃l xs i k y,x = .ref l/\vs=[.int i]/\H l=some (.lst xs) /\ -(2 ^ 63)<=i/\i<2 ^ 63/\seqIndex? i xs.length=some k/\xs[k]?=some y/\Q y (upd H l (.lst (xs.eraseIdx k)))
theorem zmm:Gw X "list.pop" vO:=by
 intro pins s σ H x vs v us Q I rx rv h;obtain⟨l,xs,i,k,y,rfl,rfl,hH,h1,h2,hk,hy,q⟩:=h;cases rx;obtain⟨u,rfl,ru⟩:=rv.one;obtain⟨t,rfl⟩:=ru;obtain⟨z,its,n,r,hl,e⟩:=I.lstM hH;obtain⟨w,hw,eY⟩:=r.get hy;refine call_meets F.slot_list_pop ⟨_,e,rfl⟩ F.entry_list_pop (F.args_list_pop_2 _ _)
  (MeetsSeq.list_pop_at l its.toArray n i t k w (fitsIndex_both h1 h2) (by rw[dU,<-hl];exact hk) (by rw[<-Array.getElem?_toList];exact hw) (by rw[dU];omega)) ⟨e,?_⟩
 refine⟨y,_,I.lset (its':=its.eraseIdx k) hH e ?_ (r.eraseIdx k) ?_,eY,q⟩
 .show its.toArray.eraseIdxIfInBounds k=(its.eraseIdx k).toArray;rw[List.eraseIdxIfInBounds_toArray]
 .have:=Ul xs k;omega
noncomputable def Nv:R2:=λx y H Q=>∃l b xs zs,x = .ref l/\y = .ref b/\H l=some (.lst xs)/\H b=some (.lst zs)/\xs.length+zs.length<=sizeLine/\∀p,H p=none->Q (.ref p) (upd H p (.lst (xs++zs)))
theorem Y6:fC X (binaryOp .Add) Nv:=by
 intro pins s σ H x y v u Q I rx ry h;obtain⟨l,b,xs,zs,rfl,rfl,hH,hB,hz,q⟩:=h;cases rx;cases ry;obtain⟨z,its,n,r,hl,e⟩:=I.lstM hH;obtain⟨z2,its2,n2,r2,hl2,e2⟩:=I.lstM hB;refine PySem.P.add_list e e2 ?_ (by rw[dU,dU];omega);have ea:its.toArray++its2.toArray=(its++its2).toArray:=by simp
 rw[ea];exact⟨.ref _,_,I.lnew (t':=s.toks) (r.append r2) (by rw[lH];omega),rfl,q _ I.fresh⟩
end
end L2
namespace Xa
open PySem PySem.W PySem.Calls PyProof.Rows
theorem zfa{P:Params}{h:Heap}:∀(ns:List Int) (vs:List Value),WellAll P h vs (ns.map WData.int)->IntsAre vs ns:=by
 intro ns
 induction ns with
 |nil =>
  intro vs w;rw[List.map_nil] at w;cases w;exact .nil
 |cons n ns ih =>
  intro vs w;rw[jq] at w;cases w with
  |cons a b =>
   cases a;exact .cons _ _ (ih _ b)
theorem zj8{l:OpenLaw}{n:Nat}(hn:l.most=some n){P:Params}{h:Heap}{args:List WData}{vals:List Value}(hpre:l.row.toRowW.claim.pre args=true)(hwl:WellAll P h vals args):
 ∃a vs ns,vals=[Value.ref a]/\args=[WData.list (ns.map WData.int)]/\h.get? a=some { cls := .type "list",data := .seq vs.toArray }/\IntsAre vs ns/\ns.length<=n:=by
 have hsh:WShape.hasAll [] args [.list .int]=true:=(pre_splitW hpre).1;have hc:l.pre.holds [] { args:=args }=true:=(pre_splitW hpre).2;obtain⟨d,r,rfl,h1,h2⟩:=hasAllW_cons hsh;obtain rfl:=hasAllW_nil h2;obtain⟨xs,rfl,h3⟩:=hasW_list h1;obtain⟨ns,rfl⟩:=items_int h3;have hlen:ns.length<=n:=by
  unfold OpenLaw.pre at hc;have h4:(WTm.not (.lt (.lit (.int (n:Int))) (.len (.arg 0)))).holds [] { args:=[.list (ns.map .int)] }=true:=by have h4:=(holds_andW hc).1;rw[hn] at h4;exact h4
  have h5:=condW_of h4 (w_not (w_lt w_lit (w_len_list (w_arg rfl))));rw[dJ] at h5;refine Nat.le_of_not_lt λq=>?_;have q':(n:Int)<((ns.length:Nat):Int):=by omega
  first
   | (rw[decide_eq_true q'] at h5;exact absurd h5 (by decide))
   | (simp at h5;omega)
 cases hwl with
 |cons w1 w2 =>
  cases w2;cases w1 with
  |list ho hall=>exact⟨_,_,ns,rfl,rfl,ho,zfa ns _ hall,hlen⟩
theorem zke(l:OpenLaw)(args:List WData):l.row.toRowW.claim.post args (.bool true) args=true :=
 postW_of (r:=l.row.toRowW) (X:=(true==true))
  (show WShape.has [] (.bool true) .bool=true by first|rfl|decide|simp[WShape.has,WShape.arms,WShape.armsAll])
  (show(WTm.eq .res (.lit (.bool true))).value [] { args:=args,res:=some (.bool true),after:=args }=some (.bool (true==true)) from w_eq_bool (w_res rfl) w_lit) rfl
theorem zh6{l:OpenLaw}{n:Nat}{q:Program}{loose:List Str}{XP:(Str->Option Value)->Heap->Prop}{YP:World->Heap->Prop}{d:DefRec}(hn:l.most=some n)(hdf:d.params.defaults=[])(call:∀(w:World) (s₀ s₁:Shared) (mg mb:Str->Option Value) (fa:Addr) (o:Obj) (pm cd doc:Value) (a:Addr) (vs:List Value) (ns:List Int),
  Ground q loose [] XP w s₀ mg mb s₁.heap->YP w s₁.heap ->
  s₁.heap.get? fa=some o->o.data = .func (docDef d.name d.params d.body d.scope pm cd doc)->s₁.heap.CodeRec cd d.name->mg d.name=some (.ref fa) ->
  s₁.heap.get? a=some { cls := .type "list",data := .seq vs.toArray }->IntsAre vs ns->ns.length<=n->s₁.gens=#[] ->
  codeAny (model l.prog w) callerA (.call (.ref fa) ⟨[.ref a],[]⟩) (λr s'=>r = .ok (.ret (.bool true))/\OldK s₁.heap s'.heap/\s'.os=s₁.os/\AllBare s'.gens) s₁):
 WalkO q loose XP YP l.row.toRowW d [] (λf vs=>PySem.call f vs):=by
 intro w s₀ s₁ mg mb G Y fa o pm cd doc dV kV ho hd hcd hD hmg hg args vals as hpre hlay hrd hwl hlo;obtain rfl:dV = .none:=Dflts.none hD hdf;obtain rfl:kV = .none:=Dflts.noKw hD;obtain⟨a,vs,ns,rfl,rfl,hobj,hints,hlen⟩:=zj8 hn hpre hwl;refine enter_call (codeAny_mono (call w s₀ s₁ mg mb fa o pm cd doc a vs ns G Y ho (fd_plain hd) hcd hmg hobj hints hlen hg) λr s' hq=>?_);obtain⟨rfl,h2,h3,h4⟩:=hq;exact⟨.inl ⟨.bool true,.bool true,[],rfl,λ_=>rfl,.bool true,zke l _,λ_=>⟨List.Pairwise.nil,λ_ hm=>(nomatch hm)⟩⟩,h2,h3,h4⟩
end Xa
namespace L2
open PySem PySem.Spec PyProof.Rows
def Ua:∀{vs:List Value} {ns:List Int},IntsAre vs ns->Vals (ns.map V.int) vs
 |_,_,.nil => .nil
 |_,_,.cons n t h => .cons ⟨t,rfl⟩ (Ua h)
noncomputable def mH(s:Stmt):Arguments:=match s with
 |.FunctionDef _ a _ _ _ _ _ _ _ _=>a
 |_=>{ posonlyargs:=[],args:=[],vararg:=none,kwonlyargs:=[],kw_defaults:=[],kwarg:=none,defaults:=[] }
noncomputable def iC(s:Stmt):List Stmt:=match s with
 |.FunctionDef _ _ b _ _ _ _ _ _ _=>b
 |_=>[]
noncomputable def bM(s:Stmt):Scope:=match s with
 |.FunctionDef _ _ _ _ _ _ sc _ _ _=>sc
 |_=>{ kind := .function,names:=[],isGenerator:=false,isCoroutine:=false }
noncomputable abbrev iu:pM:=λ_ _ _ _ _ _=>False
noncomputable abbrev E0:XK:=λ_ _ _=>False
def Dm{X:Cx}:uR iu X E0:=λ_ _ _ _ _ _ _ h=>h.elim
structure nW(K:FgA)(x qual:Str)(st:Stmt)(f:Addr)(fd:FuncData):Prop where
 ex:∃(oc:Value) (od:Option Addr) (kV doc pm:Value) (an:Option Addr) (cdv ct:Value) (osl:Array (Option Value)),
  fd=PySem.W.fnOf x qual (mH st) (iC st) (bM st) .none kV doc pm an cdv ct/\K.lookup f=some ⟨oc,od,.func fd,osl⟩/\PySem.W.codeIn K cdv qual=true
 kp:PySem.W.keepIn K (.ref f)=true
section
variable {P:Program}{w:World}{K:FgA}{mg:Str->Option Value}{base:Heap}
theorem nW.ok{x qual:Str}{st:Stmt}{f:Addr}{fd:FuncData}{N ps:List Str}{k:Nat}{sp:Sp}(F:nW K x qual st f fd)(S:nq N ps (bM st))(len:∀vs H Q E,sp vs H Q E->vs.length=ps.length)(hbody:∀(cdv:Value) (A:Around) (outer:List Env) (s:Shared) (H:Hp) (vs:List V) (Q:VK) (E:XK),bI k (A.deeper (envOfC qual (bM st) s.heap.objs.size f cdv))->sp vs H Q E ->
  ∃t,jM (pO iu P w K mg base N qual (bM st) f cdv A outer s H E).nox (iC st) t/\t { nx:=λ_ H'=>Q .non H',rt:=Q } (start N vs) H):cW P w K mg base iu (k+1) f fd ps sp:=by
 obtain⟨oc,od,kV,doc,pm,an,cdv,ct,osl,rfl,lk,hcd⟩:=F.ex;refine PN lk hcd S len λA outer s H vs Q E hr hsp=>?_;obtain⟨t,h,q⟩:=hbody cdv A outer s H vs Q E hr hsp;exact⟨t,h.nox,q⟩
theorem nW.binds{x qual:Str}{st:Stmt}{f:Addr}{fd:FuncData}{ps:List Str}(F:nW K x qual st f fd)(h:∀(kV doc pm:Value) (an:Option Addr) (cdv ct:Value) (us:List Value),us.length=ps.length->bindArgs (PySem.W.fnOf x qual (mH st) (iC st) (bM st) .none kV doc pm an cdv ct) ⟨us,[]⟩=pure (ps.zip us)):Binds K fd ps []:=by obtain⟨oc,od,kV,doc,pm,an,cdv,ct,osl,rfl,lk,hcd⟩:=F.ex;exact .all (h kV doc pm an cdv ct)
theorem Qm{x qual:Str}{st:Stmt}{f:Addr}{oc:Value}{od an:Option Addr}{osl:Array (Option Value)}{kV doc pm cdv ct:Value}(l:K.lookup f=some ⟨oc,od,.func (PySem.W.fnOf x qual (mH st) (iC st) (bM st) .none kV doc pm an cdv ct),osl⟩)(c:PySem.W.codeIn K cdv qual=true)(k:PySem.W.keepIn K (.ref f)=true):nW K x qual st f (PySem.W.fnOf x qual (mH st) (iC st) (bM st) .none kV doc pm an cdv ct):=⟨⟨oc,od,kV,doc,pm,an,cdv,ct,osl,rfl,l,c⟩,k⟩
end
def Same(H H':Hp):Prop:=∀b o,H b=some o->H' b=some o
def Same.refl(H:Hp):Same H H:=λ_ _ h=>h
end L2
end
section
namespace MX
open PySem PySem.Spec PyProof.Rows L2
noncomputable abbrev NK:=List (List Int)
noncomputable def Ce(k:NK):Int:=reduceHash (Builtin.Tuple.tupleHashOf (k.map λks=>reduceHash (Builtin.Tuple.tupleHashOf (ks.map hashInt))))
noncomputable def OD(x:NK×Addr×Value):DictEntry:=⟨Ce x.1,.ref x.2.1,x.2.2⟩
def O9(h:Heap)(d:Addr)(xs:List (NK×Addr×Value)):Prop:=∃o es,h.get? d=some o/\o.ExactDict/\o.data = .dict es xs.length/\es.toList=xs.map OD/\(xs.map (·.1)).Nodup
noncomputable def OJ(a:Addr)(xs:List (NK×Addr×Value)):HO := .ext λh=>(a==sysModules)=false/\xs.length<=sizeLine/\O9 h a xs
def rZ(K:FgA)(H:Hp)(k:NK)(b:Addr):Prop:=∃bs:List Addr,dR K H b (bs.map V.ref)/\Paired (fun(ks:List Int) (c:Addr)=>dR K H c (ks.map V.int)) k bs
theorem rZ.mono{K:FgA}{H H':Hp}{k:NK}{b:Addr}(t:∀a vs,dR K H a vs->dR K H' a vs)(h:rZ K H k b):rZ K H' k b:=by
 obtain⟨bs,h1,h2⟩:=h;refine⟨bs,t _ _ h1,?_⟩;clear h1
 induction h2 with
 |nil=>exact .nil
 |cons hc _ ih=>exact .cons (t _ _ hc) ih
inductive DR(K:FgA)(H:Hp):List (NK×Int)->List (NK×Addr×Value)->Prop
 |nil:DR K H [] []
 |cons {k:NK} {i:Int} {b:Addr} {t:Tok} {xs:List (NK×Int)} {ys:List (NK×Addr×Value)}:rZ K H k b->DR K H xs ys->DR K H ((k,i)::xs) ((k,b,.int i t)::ys)
section
variable {K:FgA}{H H':Hp}{xs:List (NK×Int)}{ys:List (NK×Addr×Value)}
theorem DR.mono(t:∀a vs,dR K H a vs->dR K H' a vs)(h:DR K H xs ys):DR K H' xs ys:=by
 induction h with
 |nil=>exact .nil
 |cons hc _ ih=>exact .cons (hc.mono t) ih
end
section
variable {prog:Program}{w:World}{A:Around}{E:Value->Shared->Prop}
theorem Qd{it l:Addr}{us:Array Value}(ne:l≠it):∀(n i:Nat) (t:Shared) (Q:List Value->Shared->Prop),t.heap.IsListIter it l i->t.heap.IsList l us->i+n<=us.size ->
 (∀h',h'.IsListIter it l (i+n)->Heap.SameBut it t.heap h'->Q ((us.toList.drop i).take n) { t with heap:=h' })->wpAny (model prog w) A (draw (.ref it) n) Q E t
 |0,i,t,Q,g,_,_,q=>by show wpAny _ _ (pure []) Q E t;exact b7 (by simpa using q t.heap g (Heap.SameBut.refl ..))
 |n+1,i,t,Q,g,gl,le,q=>by
  have lt:i<us.size:=by omega
  show wpAny _ _ (pyNext (.ref it) >>= _) Q E t;refine aO (wpAny_pyNext_list_item g gl (x:=us[i]) (by simp[lt]) λk₁ g₁ s₁=>?_);have gl₁:k₁.IsList l us:=let ⟨o,e,r⟩:=gl;⟨o,s₁.extBut _ _ ne e,r⟩;refine aO (wpAny_holding (Qd ne n (i+1) _ _ g₁ gl₁ (by omega) λk₂ g₂ s₂=>b7 ?_));have e:us.toList.drop i=us[i]::us.toList.drop (i+1):=by simp[List.drop_eq_getElem_cons,lt]
  have z:=q k₂ (by rw[show i+(n+1)=i+1+n by omega];exact g₂) (s₁.trans s₂);rw[e,List.take_succ_cons] at z;exact z
theorem zlD{l:Addr}{us:Array Value}{t:Shared}{Q:List Value->Shared->Prop}(hh:A.handled=none)(gl:t.heap.IsList l us)(q:∀h',Heap.ExtBut t.heap.objs.size t.heap h'->Q us.toList { t with heap:=h' }):wpAny (model prog w) A (unpackItems (.ref l) us.size none) Q E t:=by
 have ne:l≠t.heap.objs.size:=by obtain⟨o,e,_⟩:=gl;exact dz (cG e)
 have gp:∀o,(t.heap.push o).IsList l us:=λo=>let ⟨u,e,r⟩:=gl;⟨u,dm _ e,r⟩;unfold unpackItems notIterableAtAll;refine aO (aO (wpAny_specialOf gl.typeIs slot_list_iter.lookup (b7 ?_)));simp only[Bool.false_eq_true,if_false];refine aO (wpAny_holding (wpAny_pyIter_list gl (aO (wpAny_holding (Qd ne us.size 0 _ _ ⟨_,gw _ rfl,rfl,rfl⟩ (gp _) (by omega) λk₁ g₁ s₁=>?_)))));rw[show List.take us.size (List.drop 0 us.toList)=us.toList by rw[List.drop_zero];exact List.take_of_length_le (by simp),if_neg (by simp)];have gl₁:k₁.IsList l us:=let ⟨o,e,r⟩:=gp _;⟨o,s₁.extBut _ _ ne e,r⟩;refine aO (wpAny_holding (wpAny_pyNext_list_end hh g₁ gl₁ (by simp) λk₂ e₂=>?_));simp only[Option.isSome_none,Bool.false_eq_true,if_false];exact b7 (q k₂ λc o hc e=>e₂ c o hc (s₁.extBut c o hc (dm _ e)))
end
noncomputable def Ck(K:FgA)(n:Nat)(t:qw):TG:=λv σ H Q=>∃a xs,v = .ref a/\dG K H a xs/\xs.length=n/\t xs σ H Q
theorem zol{X:Cx}{pos:Pos}{es:List Expr}{k:Nat}{t:qw}{n:Nat}(hc:X.calm=true)(h:yN X es t)(hn:(assignEach es X.env).length=n)(hst:(assignEach es X.env).findIdx? (·.1)=none):PG X (.Tuple es k pos) (Ck X.K n t):=by
 intro pins s σ H v u Q I r hw;obtain⟨a,xs,rfl,hq,hl,hw⟩:=hw;cases r;obtain⟨its,rv,ht,hz⟩:=I.list hq;rw[arm_assign_Tuple];refine aO (wpAny_standAt ?_);unfold unpack;have el:(assignEach es X.env).length=its.toArray.size:=by simp[hn,<-hl,rv.length]
 rw[el,hst];refine aO (wpAny_holding (zlD (I.ok.hd hc) ht.isList λh' hx=>?_));have I1:Inv X pins σ H { s with heap:=h' }:=I.kept (t':=s.toks) λb o e=>hx b o (dz (cG e)) e;exact h pins _ σ H xs _ Q I1 (by simpa using rv) hw
theorem PG.or{X:Cx}{e:Expr}{t t':TG}(h:PG X e t)(h':PG X e t'):PG X e (λv σ H Q=>t v σ H Q\/t' v σ H Q):=λpins s σ H v u Q I r q=>by
 rcases q with q|q
 .exact h pins s σ H v u Q I r q
 .exact h' pins s σ H v u Q I r q
inductive D where
 |non|bl (b:Bool)|int (i:Int)|str (x:Str)|tup (xs:List D)|ref (n:Nat)
 |ty (n:String)|adr (a:Addr)
 |obj (C:Str) (ks:List Str) (xs:List D)
inductive O where
 |lst (xs:List D)
 |frz (xs:List D)
 |ins (C:Str) (fs:List (Str×D))
 |dct (xs:List (NK×Int))
 |tbl (x:Str)
noncomputable abbrev Sg:=List (Option D)
noncomputable abbrev So:=List O
mutual
inductive Rep(K:FgA)(H:Hp)(α:List Addr):D->V->Prop
 |non:Rep K H α .non .non
 |bl (b:Bool):Rep K H α (.bl b) (.bl b)
 |int (i:Int):Rep K H α (.int i) (.int i)
 |str (x:Str):Rep K H α (.str x) (.str x)
 |tup {a:Addr} {ds:List D} {vs:List V}:dR K H a vs->aH K H α ds vs->Rep K H α (.tup ds) (.ref a)
 |ref {n:Nat} {a:Addr}:α[n]?=some a->Rep K H α (.ref n) (.ref a)
 |ty (n:String):Rep K H α (.ty n) (.ty n)
 |adr (a:Addr):Rep K H α (.adr a) (.ref a)
 |obj {a:Addr} {C:Str} {dx:Addr} {gs:List (Str×V)} {ks:List Str} {ds:List D} {vs:List V}:H a=some (.ins (cU K C) dx gs)->3<=gs.length->gs.map (·.1)=ks->gs.map (·.2)=vs->aH K H α ds vs->Rep K H α (.obj C ks ds) (.ref a)
inductive aH(K:FgA)(H:Hp)(α:List Addr):List D->List V->Prop
 |nil:aH K H α [] []
 |cons {d:D} {v:V} {ds:List D} {vs:List V}:Rep K H α d v->aH K H α ds vs->aH K H α (d::ds) (v::vs)
end
structure Ext(K:FgA)(H:Hp)(α:List Addr)(H':Hp)(α':List Addr):Prop where
 tups:∀a vs,dR K H a vs->dR K H' a vs
 pre:∀(n:Nat) a,α[n]?=some a->α'[n]?=some a
 insts:∀a c dx gs,3<=gs.length->H a=some (.ins c dx gs)->H' a=some (.ins c dx gs)
section
variable {K:FgA}{H H' W8:Hp}{α α' α'':List Addr}
def Ext.refl:Ext K H α H α:=⟨λ_ _ h=>h,λ_ _ h=>h,λ_ _ _ _ _ h=>h⟩
def Ext.trans(a:Ext K H α H' α')(b:Ext K H' α' W8 α''):Ext K H α W8 α'':=⟨λc vs h=>b.tups c vs (a.tups c vs h),λn c h=>b.pre n c (a.pre n c h),λx c d g l h=>b.insts x c d g l (a.insts x c d g l h)⟩
mutual
theorem Rep.mono(e:Ext K H α H' α'):∀{d:D} {v:V},Rep K H α d v->Rep K H' α' d v
 |_,_,.non => .non
 |_,_,.bl b => .bl b
 |_,_,.int i => .int i
 |_,_,.str x => .str x
 |_,_,.tup h r => .tup (e.tups _ _ h) (aH.mono e r)
 |_,_,.ref h => .ref (e.pre _ _ h)
 |_,_,.ty n => .ty n
 |_,_,.adr a => .adr a
 |_,_,.obj h l k v r => .obj (e.insts _ _ _ _ l h) l k v (aH.mono e r)
theorem aH.mono(e:Ext K H α H' α'):∀{ds:List D} {vs:List V},aH K H α ds vs->aH K H' α' ds vs
 |_,_,.nil => .nil
 |_,_,.cons h r => .cons (Rep.mono e h) (aH.mono e r)
end
def aH.length:∀{ds:List D} {vs:List V},aH K H α ds vs->ds.length=vs.length
 |_,_,.nil=>rfl
 |_,_,.cons _ r=>by simp[aH.length r]
theorem aH.get:∀{ds:List D} {vs:List V} {i:Nat} {d:D},aH K H α ds vs->ds[i]?=some d->∃v,vs[i]?=some v/\Rep K H α d v
 |_,_,_,_,.nil,e=>by simp at e
 |_,_,0,_,.cons h _,e=>by simp at e;subst e;exact⟨_,rfl,h⟩
 |_,_,i+1,_,.cons _ r,e=>by obtain⟨v,h1,h2⟩:=aH.get (i:=i) r (by simpa using e);exact⟨v,by simpa using h1,h2⟩
theorem aH.getV:∀{ds:List D} {vs:List V} {i:Nat} {v:V},aH K H α ds vs->vs[i]?=some v->∃d,ds[i]?=some d/\Rep K H α d v
 |_,_,_,_,.nil,e=>by simp at e
 |_,_,0,_,.cons h _,e=>by simp at e;subst e;exact⟨_,rfl,h⟩
 |_,_,i+1,_,.cons _ r,e=>by obtain⟨v,h1,h2⟩:=aH.getV (i:=i) r (by simpa using e);exact⟨v,by simpa using h1,h2⟩
def aH.append:∀{ds es:List D} {vs ws:List V},aH K H α ds vs->aH K H α es ws->aH K H α (ds++es) (vs++ws)
 |_,_,_,_,.nil,s=>s
 |_,_,_,_,.cons h r,s => .cons h (aH.append r s)
theorem aH.take:∀{ds:List D} {vs:List V} (n:Nat),aH K H α ds vs->aH K H α (ds.take n) (vs.take n)
 |_,_,0,_=>by simp;exact .nil
 |_,_,_+1,.nil => .nil
 |_,_,n+1,.cons h r => .cons h (aH.take n r)
theorem aH.drop:∀{ds:List D} {vs:List V} (n:Nat),aH K H α ds vs->aH K H α (ds.drop n) (vs.drop n)
 |_,_,0,r=>by simpa using r
 |_,_,_+1,.nil => .nil
 |_,_,n+1,.cons h r=>by simpa using aH.drop n r
theorem Same.tups(s:Same H H'):∀a vs,dR K H a vs->dR K H' a vs:=λa vs h=>by
 rcases h with(h|⟨o,h⟩)|h
 .exact .inl (.inl (s _ _ h))
 .exact .inl (.inr ⟨o,s _ _ h⟩)
 .exact .inr h
def Same.ext(s:Same H H'):Ext K H α H' α:=⟨Same.tups s,λ_ _ h=>h,λ_ _ _ _ _ h=>s _ _ h⟩
def lO{p:Addr}{o:HO}(h:H p=none):Same H (upd H p o):=λb u e=>by rw[cu (gB e h)];exact e
noncomputable def sy(K:FgA)(H:Hp)(a:Addr)(xs:List V):Prop :=
 (∃o,H a=some (.frz o (.lst xs))) \/
  ∃(o:Obj) (its:Array Value) (n:Nat),K.lookup a=some o/\o.cls = .type "list" /\ o.dict=none/\o.data = .seq its n/\its.size<=sizeLine/\Vals xs its.toList
def sy.sq{a:Addr}{xs:List V}(h:sy K H a xs):dG K H a xs:=by
 rcases h with h|h
 .exact .inl (.inr h)
 .exact .inr h
def sy.same{a:Addr}{xs:List V}(s:Same H H')(h:sy K H a xs):sy K H' a xs:=by
 rcases h with⟨o,h⟩|h
 .exact .inl ⟨o,s _ _ h⟩
 .exact .inr h
noncomputable def O.own:O->Bool
 |.frz _=>false
 |_=>true
noncomputable def gj(K:FgA)(H:Hp)(α:List Addr)(a:Addr):O->Prop
 |.lst ds=>∃vs,H a=some (.lst vs)/\aH K H α ds vs
 |.frz ds=>∃vs,sy K H a vs/\aH K H α ds vs
 |.ins C fs=>∃dx gs,H a=some (.ins (cU K C) dx gs)/\fs.map (·.1)=gs.map (·.1)/\aH K H α (fs.map (·.2)) (gs.map (·.2))
 |.dct xs=>∃ys,H a=some (OJ a ys)/\DR K H xs ys
 |.tbl x=>a=lu K x/\∃ps,H a=some (.tbl ps)
structure aB(K:FgA)(H:Hp)(α:List Addr)(S:So):Prop where
 len:α.length=S.length
 nd:∀(n m:Nat) o o' a,S[n]?=some o->S[m]?=some o'->O.own o=true->O.own o'=true->α[n]?=some a->α[m]?=some a->n=m
 obj:∀(n:Nat) o a,S[n]?=some o->α[n]?=some a->gj K H α a o
noncomputable def bH(K:FgA)(H:Hp)(α:List Addr)(σd:Sg)(σ:L2.St):Prop :=
 σd.length=σ.length/\∀(i:Nat) d,σd[i]?=some (some d)->∃v,σ[i]?=some (some v)/\Rep K H α d v
def bH.mono{σd:Sg}{σ:L2.St}(e:Ext K H α H' α')(h:bH K H α σd σ):bH K H' α' σd σ :=
 ⟨h.1,λi d q=>let ⟨v,h1,h2⟩:=h.2 i d q;⟨v,h1,h2.mono e⟩⟩
theorem bH.set{σd:Sg}{σ:L2.St}{d:D}{v:V}(h:bH K H α σd σ)(r:Rep K H α d v)(i:Nat):bH K H α (σd.set i (some d)) (σ.set i (some v)):=by
 refine⟨by simpa using h.1,λj e q=>?_⟩;by_cases hj:j=i
 .subst hj;by_cases hlt:j<σd.length
  .rw[List.getElem?_set_self hlt] at q;cases q;exact⟨v,by rw[List.getElem?_set_self (by rw[<-h.1];exact hlt)],r⟩
  .rw[jN (by simpa using hlt)] at q;cases q
 .rw[List.getElem?_set_ne (Ne.symm hj)] at q;obtain⟨u,h1,h2⟩:=h.2 j e q;exact⟨u,by rw[List.getElem?_set_ne (Ne.symm hj)];exact h1,h2⟩
theorem gj.mono{a:Addr}{o:O}(s:Same H H')(e:Ext K H α H' α')(h:gj K H α a o):gj K H' α' a o:=by
 cases o with
 |lst ds=>obtain⟨vs,h1,h2⟩:=h;exact⟨vs,s _ _ h1,h2.mono e⟩
 |frz ds=>obtain⟨vs,h1,h2⟩:=h;exact⟨vs,sy.same s h1,h2.mono e⟩
 |ins C fs=>obtain⟨dx,gs,h1,h2,h3⟩:=h;exact⟨dx,gs,s _ _ h1,h2,h3.mono e⟩
 |dct xs=>obtain⟨ys,h1,h2⟩:=h;exact⟨ys,s _ _ h1,h2.mono e.tups⟩
 |tbl x=>obtain⟨h0,ps,h1⟩:=h;exact⟨h0,ps,s _ _ h1⟩
def aB.mono{S:So}(s:Same H H')(h:aB K H α S):aB K H' α S :=
 ⟨h.len,h.nd,λn o a h1 h2=>(h.obj n o a h1 h2).mono s (Same.ext s)⟩
theorem gj.some{a:Addr}{o:O}(h:gj K H α a o)(w:O.own o=true):∃u,H a=some u:=by
 cases o with
 |lst ds=>obtain⟨vs,h1,_⟩:=h;exact⟨_,h1⟩
 |frz ds=>cases w
 |ins C fs=>obtain⟨dx,gs,h1,_⟩:=h;exact⟨_,h1⟩
 |dct xs=>obtain⟨ys,h1,_⟩:=h;exact⟨_,h1⟩
 |tbl x=>obtain⟨_,ps,h1⟩:=h;exact⟨_,h1⟩
theorem getElem?pK{α:Type}{l:List α}{x y:α}{n:Nat}(h:(l++[x])[n]?=some y):l[n]?=some y\/(n=l.length/\y=x):=by
 by_cases hn:n<l.length
 .rw[mZ hn] at h;exact .inl h
 .rw[yS (by omega)] at h;by_cases h0:n - l.length=0
  .rw[h0] at h;simp at h;exact .inr ⟨by omega,h.symm⟩
  .rw[jN (by simp;omega)] at h;cases h
theorem aB.snoc{S:So}{p:Addr}{o:O}{u:HO}(h:aB K H α S)(hp:H p=none)(ho:∀α',Ext K H α (upd H p u) α'->gj K (upd H p u) α' p o):
 aB K (upd H p u) (α++[p]) (S++[o])/\Ext K H α (upd H p u) (α++[p]):=by
 have s:Same H (upd H p u):=lO hp;have e:Ext K H α (upd H p u) (α++[p]):=⟨Same.tups s,λn a q=>by rw[mZ (fu.mp q).1];exact q,λ_ _ _ _ _ h=>s _ _ h⟩
 have old:∀{n:Nat} {o':O} {a:Addr},S[n]?=some o'->(α++[p])[n]?=some a->α[n]?=some a:=λ{n o' a} h1 h2=>by
  have hn:n<α.length:=by rw[h.len];exact(fu.mp h1).1
  rw[mZ hn] at h2;exact h2
 have o6:(α++[p])[S.length]?=some p:=by rw[<-h.len];simp
 have apart:∀{n:Nat} {o':O},S[n]?=some o'->O.own o'=true->¬(α++[p])[n]?=some p:=λ{n o'} h1 w h2=>by obtain⟨u,z⟩:=(h.obj n o' p h1 (old h1 h2)).some w;rw[hp] at z;cases z
 refine⟨⟨by simp[h.len],λn m o1 o2 a h1 h2 w1 w2 a1 a2=>?_,λn o' a h1 h2=>?_⟩,e⟩
 .rcases getElem?pK h1 with q1|⟨e1,e2⟩<;>rcases getElem?pK h2 with q2|⟨e3,e4⟩
  .exact h.nd n m o1 o2 a q1 q2 w1 w2 (old q1 a1) (old q2 a2)
  .rw[e3,o6] at a2;cases a2;exact absurd a1 (apart q1 w1)
  .rw[e1,o6] at a1;cases a1;exact absurd a2 (apart q2 w2)
  .rw[e1,e3]
 .rcases getElem?pK h1 with h1|⟨rfl,rfl⟩
  .exact(h.obj n o' a h1 (old h1 h2)).mono s e
  .rw[o6] at h2;cases h2;exact ho _ e
theorem aB.put'{S:So}{n:Nat}{a:Addr}{o₀ o:O}{u₀ u:HO}(h:aB K H α S)(hn:S[n]?=some o₀)(w₀:O.own o₀=true)(w:O.own o=true)(ha:α[n]?=some a)(hv:H a=some u₀)(nt:∀ws,HO.tup ws≠u₀)(nf:∀ob x,HO.frz ob x≠u₀)(ni:∀c dx gs,3<=gs.length->HO.ins c dx gs≠u₀)(ho:Ext K H α (upd H a u) α->gj K (upd H a u) α a o):aB K (upd H a u) α (S.set n o)/\Ext K H α (upd H a u) α:=by
 have e:Ext K H α (upd H a u) α:=⟨λb ws q=>by
  rcases q with(q|⟨o,q⟩)|q
  .exact .inl (.inl (by rw[cu (Dz q hv (nt _))];exact q))
  .exact .inl (.inr ⟨o,by rw[cu (Dz q hv (nf _ _))];exact q⟩)
  .exact .inr q,λ_ _ q=>q,λb c dx gs l q=>by rw[cu (Dz q hv (ni _ _ _ l))];exact q⟩
 have hlt:n<S.length:=(fu.mp hn).1;have at':∀{m:Nat} {o':O},(S.set n o)[m]?=some o'->(m=n/\o'=o)\/(m≠n/\S[m]?=some o'):=λ{m o'} h1=>by
  by_cases hm:m=n
  .subst hm;rw[List.getElem?_set_self hlt] at h1;exact .inl ⟨rfl,(Option.some.inj h1).symm⟩
  .rw[List.getElem?_set_ne (Ne.symm hm)] at h1;exact .inr ⟨hm,h1⟩
 refine⟨⟨by simpa using h.len,λm k o1 o2 b h1 h2 w1 w2 b1 b2=>?_,λm o' b h1 h2=>?_⟩,e⟩
 .rcases at' h1 with⟨e1,e2⟩|⟨n1,q1⟩<;>rcases at' h2 with⟨e3,e4⟩|⟨n2,q2⟩
  .rw[e1,e3]
  .rw[e1] at b1 ⊢;exact h.nd _ _ o₀ o2 b hn q2 w₀ w2 b1 b2
  .rw[e3] at b2 ⊢;exact h.nd _ _ o1 o₀ b q1 hn w1 w₀ b1 b2
  .exact h.nd _ _ o1 o2 b q1 q2 w1 w2 b1 b2
 .rcases at' h1 with⟨rfl,rfl⟩|⟨hm,h1⟩
  .rw[ha] at h2;cases h2;exact ho e
  .have q:=h.obj m o' b h1 h2;have hba:O.own o'=true->b≠a:=λw' z=>hm (by subst z;exact h.nd m n o' o₀ b h1 hn w' w₀ h2 ha);cases o' with
   |lst ds=>obtain⟨ws,q1,q2⟩:=q;exact⟨ws,by rw[cu (hba rfl)];exact q1,q2.mono e⟩
   |frz ds =>
    obtain⟨ws,q1,q2⟩:=q;refine⟨ws,?_,q2.mono e⟩;rcases q1 with⟨ob,q1⟩|q1
    .exact .inl ⟨ob,by rw[cu (Dz q1 hv (nf _ _))];exact q1⟩
    .exact .inr q1
   |ins C fs=>obtain⟨dx,gs,q1,q2,q3⟩:=q;exact⟨dx,gs,by rw[cu (hba rfl)];exact q1,q2,q3.mono e⟩
   |dct xs=>obtain⟨ys,q1,q2⟩:=q;exact⟨ys,by rw[cu (hba rfl)];exact q1,q2.mono e.tups⟩
   |tbl x=>obtain⟨q0,ps,q1⟩:=q;exact⟨q0,ps,by rw[cu (hba rfl)];exact q1⟩
theorem aB.put{S:So}{n:Nat}{a:Addr}{o₀ o:O}{u₀ u:HO}(h:aB K H α S)(hn:S[n]?=some o₀)(w₀:O.own o₀=true)(w:O.own o=true)(ha:α[n]?=some a)(hv:H a=some u₀)(hu:(∃vs,u₀ = .lst vs)\/∃f,u₀ = .ext f)(ho:Ext K H α (upd H a u) α->gj K (upd H a u) α a o):aB K (upd H a u) α (S.set n o)/\Ext K H α (upd H a u) α :=
 h.put' hn w₀ w ha hv (λws z=>by rcases hu with⟨vs,e⟩|⟨f,e⟩<;>(rw[e] at z;cases z)) (λob x z=>by rcases hu with⟨vs,e⟩|⟨f,e⟩<;>(rw[e] at z;cases z)) (λc dx gs _ z=>by rcases hu with⟨vs,e⟩|⟨f,e⟩<;>(rw[e] at z;cases z)) ho
end
mutual
def D.lo(n:Nat):D->Bool
 |.tup xs=>cV n xs
 |.obj _ _ xs=>cV n xs
 |.ref m=>decide (m<n)
 |_=>true
def cV(n:Nat):List D->Bool
 |[]=>true
 |d::ds=>D.lo n d&&cV n ds
end
noncomputable def O.lo(n:Nat):O->Bool
 |.lst xs=>cV n xs
 |.frz xs=>cV n xs
 |.ins _ fs=>cV n (fs.map (·.2))
 |.dct _=>true
 |.tbl _=>true
section
variable {K:FgA}{H:Hp}{α β:List Addr}
mutual
theorem Rep.lo:∀{d:D} {v:V},Rep K H α d v->D.lo α.length d=true
 |_,_,.non=>by simp[D.lo]
 |_,_,.bl _=>by simp[D.lo]
 |_,_,.int _=>by simp[D.lo]
 |_,_,.str _=>by simp[D.lo]
 |_,_,.tup _ r=>by rw[D.lo];exact aH.lo r
 |_,_,.ref h=>by rw[D.lo];exact decide_eq_true (fu.mp h).1
 |_,_,.ty _=>by simp[D.lo]
 |_,_,.adr _=>by simp[D.lo]
 |_,_,.obj _ _ _ _ r=>by rw[D.lo];exact aH.lo r
theorem aH.lo:∀{ds:List D} {vs:List V},aH K H α ds vs->cV α.length ds=true
 |_,_,.nil=>by simp[cV]
 |_,_,.cons h r=>by rw[cV,Rep.lo h,aH.lo r];rfl
end
mutual
theorem Rep.cut(n:Nat):∀{d:D} {v:V},Rep K H α d v->D.lo n d=true->Rep K H (α.take n) d v
 |_,_,.non,_ => .non
 |_,_,.bl b,_ => .bl b
 |_,_,.int i,_ => .int i
 |_,_,.str x,_ => .str x
 |_,_,.tup h r,b => .tup h (aH.cut n r (by rw[D.lo] at b;exact b))
 |_,_,.ref h,b => .ref (by
  rw[D.lo] at b;rw[List.getElem?_take_of_lt (of_decide_eq_true b)];exact h)
 |_,_,.ty n,_ => .ty n
 |_,_,.adr a,_ => .adr a
 |_,_,.obj h l k v r,b => .obj h l k v (aH.cut n r (by rw[D.lo] at b;exact b))
theorem aH.cut(n:Nat):∀{ds:List D} {vs:List V},aH K H α ds vs->cV n ds=true->aH K H (α.take n) ds vs
 |_,_,.nil,_ => .nil
 |_,_,.cons h r,b=>by rw[cV,dj] at b;exact .cons (Rep.cut n h b.1) (aH.cut n r b.2)
end
theorem gj.lo{a:Addr}{o:O}(h:gj K H α a o):O.lo α.length o=true:=by
 cases o with
 |lst ds=>obtain⟨_,_,r⟩:=h;exact r.lo
 |frz ds=>obtain⟨_,_,r⟩:=h;exact r.lo
 |ins C fs=>obtain⟨_,_,_,_,r⟩:=h;exact r.lo
 |dct xs=>rfl
 |tbl x=>rfl
theorem gj.cut{a:Addr}{o:O}(n:Nat)(h:gj K H α a o)(b:O.lo n o=true):gj K H (α.take n) a o:=by
 cases o with
 |lst ds=>obtain⟨vs,h1,r⟩:=h;exact⟨vs,h1,r.cut n b⟩
 |frz ds=>obtain⟨vs,h1,r⟩:=h;exact⟨vs,h1,r.cut n b⟩
 |ins C fs=>obtain⟨dx,gs,h1,h2,r⟩:=h;exact⟨dx,gs,h1,h2,r.cut n b⟩
 |dct xs=>exact h
 |tbl x=>exact h
def WF(S:So):Prop:=∀o∈S,O.lo S.length o=true
theorem aB.wf{S:So}(h:aB K H α S):WF S:=λo ho=>by
 obtain⟨n,hn,e⟩:=List.mem_iff_getElem.mp ho;have hn':n<α.length:=by rw[h.len];exact hn
 have:=(h.obj n o α[n] (by rw[fu];exact⟨hn,e⟩) (by simp)).lo;rw[h.len] at this;exact this
theorem aB.cut{S:So}(h:aB K H α S)(n:Nat)(b:∀o∈S.take n,O.lo n o=true):aB K H (α.take n) (S.take n):=by
 have lt:∀{m:Nat} {o:O},(S.take n)[m]?=some o->m<n:=λ{m o} h1=>by have:=(fu.mp h1).1;simp at this;omega
 refine⟨by simp[h.len],λm k o1 o2 a h1 h2 w1 w2 a1 a2=>?_,λm o a h1 h2=>?_⟩
 .have l1:=lt h1;have l2:=lt h2;rw[List.getElem?_take_of_lt l1] at h1 a1;rw[List.getElem?_take_of_lt l2] at h2 a2;exact h.nd m k o1 o2 a h1 h2 w1 w2 a1 a2
 have hm:m<n:=by have:=(fu.mp h1).1;simp at this;omega
 have b1:=b o (List.mem_of_getElem? h1);rw[List.getElem?_take_of_lt hm] at h1 h2;exact(h.obj m o a h1 h2).cut n b1
end
noncomputable def kD(k:NK):D := .tup (k.map λks => .tup (ks.map .int))
section
variable {K:FgA}{H:Hp}{α:List Addr}
def TX:∀l:List Int,aH K H α (l.map .int) (l.map V.int)
 |[] => .nil
 |i::l => .cons (.int i) (TX l)
end
end MX
end
section
namespace MX
open PySem PySem.Spec PyProof.Rows L2
open Builtin.Int (intBits)
noncomputable abbrev EF:=Sg->So->Option (D×So)
noncomputable def Kt(K:FgA)(H:Hp)(α:List Addr)(z:D)(S':So)(Q:VK):Prop :=
 ∀w H' α',aB K H' α' S'->Ext K H α H' α'->Rep K H' α' z w->Q w H'
noncomputable def vN(K:FgA)(f:EF):TE:=λσ H Q=>∃σd S α z S',bH K H α σd σ/\aB K H α S/\f σd S=some (z,S')/\Kt K H α z S' Q
def SE(X:Cx)(e:Expr)(f:EF):Prop:=PE X e (vN X.K f)
def PE.imp{X:Cx}{e:Expr}{t t':TE}(h:PE X e t)(k:∀σ H Q,t' σ H Q->t σ H Q):PE X e t':=λpins s σ H Q I q=>h pins s σ H Q I (k σ H Q q)
noncomputable abbrev G2:=D->D->So->Option (D×So)
noncomputable abbrev GN:=List D->So->Option (D×So)
noncomputable def oh(K:FgA)(g:G2):R2:=λv u H Q=>∃S α x y z S',aB K H α S/\Rep K H α x v/\Rep K H α y u/\g x y S=some (z,S')/\Kt K H α z S' Q
noncomputable def jB(K:FgA)(g:GN):List V->Hp->VK->Prop:=λvs H Q=>∃S α ds z S',aB K H α S/\aH K H α ds vs/\g ds S=some (z,S')/\Kt K H α z S' Q
def Kt.same{K:FgA}{H:Hp}{α:List Addr}{z:D}{S:So}{Q:VK}{w:V}(k:Kt K H α z S Q)(s:aB K H α S)(r:Rep K H α z w):Q w H:=k w H α s Ext.refl r
def Kt.new{K:FgA}{H H':Hp}{α:List Addr}{z:D}{S:So}{Q:VK}{w:V}(k:Kt K H α z S Q)(s:aB K H α S)(m:Same H H')(r:Rep K H' α z w):Q w H':=k w H' α (s.mono m) (Same.ext m) r
def Kt.trans{K:FgA}{H H1:Hp}{α α1:List Addr}{z:D}{S':So}{Q:VK}(k:Kt K H α z S' Q)(e:Ext K H α H1 α1):Kt K H1 α1 z S' Q:=λw H' α' s x r=>k w H' α' s (e.trans x) r
noncomputable def eE(i j:Int):Bool:=decide (intBits i<=64)||decide (intBits j<=64)||decide (intBits i+intBits j<=134217728)
theorem eE.ok{i j:Int}(h:eE i j=true):IntMulOk i j:=by
 unfold eE at h;rw[nZ,nZ] at h;rcases h with(h|h)|h
 .exact .of_left (of_decide_eq_true h)
 .exact .of_right (of_decide_eq_true h)
 .exact IntMulOk.of_le (bZ _) (bZ _) (of_decide_eq_true h)
noncomputable def eZ(j:Int):Bool:=decide (j≠0)&&decide (intBits j<=8000)
theorem eZ.ok{i j:Int}(h:eZ j=true):j≠0/\Builtin.divisionGoesByPylong i j=false:=by
 unfold eZ at h;rw[dj] at h;have h1:j≠0:=of_decide_eq_true h.1;have h2:intBits j<=8000:=of_decide_eq_true h.2;refine⟨h1,PyProof.noPylong_of_log2 ?_⟩;have hb:(j==0)=false:=by simpa using h1
 unfold Builtin.Int.intBits at h2;rw[hb] at h2;simp only[Bool.false_eq_true,if_false] at h2;omega
section
variable {X:Cx}
def zoH:fC X (binaryOp .Mult) (rI (λi j=>eE i j=true) λi j => .int (i*j)):=Bp λ_ _ _ _ _ _ _ hc q=>mul_int q (eE.ok hc)
def zoJ:fC X (binaryOp .FloorDiv) (rI (λ_ j=>eZ j=true) λi j => .int (i.fdiv j)):=Bp λ_ _ _ _ _ _ _ hc q=>floordiv_int (eZ.ok (i:=0) hc).1 q (.inl (eZ.ok hc).2)
end
noncomputable def pG:G2
 |.int i,.int j,S=>some (.int (i+j),S)
 |.str a,.str b,S=>if a.length+b.length<=sizeLine then some (.str (a++b),S) else none
 |.tup xs,.tup ys,S=>if xs≠[]/\xs.length+ys.length<=sizeLine then some (.tup (xs++ys),S) else none
 |.ref n,.ref m,S=>match S[n]?,S[m]? with
  |some (.lst xs),some (.lst ys)=>if xs.length+ys.length<=sizeLine then some (.ref S.length,S++[.lst (xs++ys)]) else none
  |_,_=>none
 |_,_,_=>none
noncomputable def wk:G2
 |.int i,.int j,S=>some (.int (i - j),S)
 |_,_,_=>none
noncomputable def rM:G2
 |.int i,.int j,S=>if eE i j=true then some (.int (i*j),S) else none
 |_,_,_=>none
noncomputable def rO:G2
 |.int i,.int j,S=>if eZ j=true then some (.int (i.fdiv j),S) else none
 |_,_,_=>none
noncomputable def rN:G2
 |.int i,.int j,S=>if j≠0 then some (.int (i.fmod j),S) else none
 |_,_,_=>none
noncomputable def rK:G2
 |.int i,.int j,S=>if 0<=j/\j<=1000000/\i.natAbs<2 ^ 64 then some (.int (i*2 ^ j.toNat),S) else none
 |_,_,_=>none
noncomputable def wz:G2
 |.int i,.int j,S=>if 0<=j/\j<=1000000/\i.natAbs<2 ^ 64 then some (.int (i ^ j.toNat),S) else none
 |_,_,_=>none
noncomputable def aP:Operator->G2
 |.Add=>pG
 |.Sub=>wk
 |.Mult=>rM
 |.FloorDiv=>rO
 |.Mod=>rN
 |.LShift=>rK
 |.Pow=>wz
 |_=>λ_ _ _=>none
section
variable {X:Cx}
theorem zoF:fC X (binaryOp .Add) (oh X.K pG):=by
 intro pins s σ H v u vv uu Q I rv ru h;obtain⟨S,α,x,y,z,S',hs,rx,ry,hg,k⟩:=h;unfold pG at hg;split at hg
 .cases hg;cases rx;cases ry;exact Y5 pins s σ H _ _ _ _ Q I rv ru ⟨_,_,rfl,rfl,k.same hs (.int _)⟩
 .split at hg
  .rename_i hl;cases hg;cases rx;cases ry;exact zjj pins s σ H _ _ _ _ Q I rv ru ⟨_,_,rfl,rfl,hl,k.same hs (.str _)⟩
  .cases hg
 .split at hg
  .rename_i hl;cases hg;cases rx with
   |tup h1 r1 =>
    cases ry with
    |tup h2 r2 =>
     refine zoK pins s σ H _ _ _ _ Q I rv ru ⟨_,_,_,_,rfl,rfl,h1,h2,?_,?_,?_,?_⟩
     .intro e;subst e;cases r1;exact hl.1 rfl
     .rw[<-r1.length,<-r2.length];exact hl.2
     .intro e;subst e;cases r2;exact k.same hs (.tup h1 (by rw[List.append_nil];exact r1))
     .intro _ p hp;exact k.new hs (lO hp) (.tup (dR.of fJ) ((r1.append r2).mono (Same.ext (lO hp))))
  .cases hg
 .split at hg
  .rename_i n m xs ys e1 e2;split at hg
   .rename_i hl;cases hg;cases rx with
    |ref a1 =>
     cases ry with
     |ref a2 =>
      obtain⟨vs,h1,r1⟩:=hs.obj _ _ _ e1 a1;obtain⟨ws,h2,r2⟩:=hs.obj _ _ _ e2 a2;refine Y6 pins s σ H _ _ _ _ Q I rv ru ⟨_,_,_,_,rfl,rfl,h1,h2,by rw[<-r1.length,<-r2.length];exact hl,λp hp=>?_⟩;obtain⟨s',e'⟩:=hs.snoc (p:=p) (o := .lst (xs++ys)) (u := .lst (vs++ws)) hp λα' e=>⟨_,fJ,(r1.append r2).mono e⟩
      exact k _ _ _ s' e' (.ref (by rw[<-hs.len];simp))
   .cases hg
  .cases hg
 .cases hg
theorem zou:fC X (binaryOp .Sub) (oh X.K wk):=by
 intro pins s σ H v u vv uu Q I rv ru h;obtain⟨S,α,x,y,z,S',hs,rx,ry,hg,k⟩:=h;unfold wk at hg;split at hg
 .cases hg;cases rx;cases ry;exact Za pins s σ H _ _ _ _ Q I rv ru ⟨_,_,rfl,rfl,k.same hs (.int _)⟩
 .cases hg
theorem zoz:fC X (binaryOp .Mult) (oh X.K rM):=by
 intro pins s σ H v u vv uu Q I rv ru h;obtain⟨S,α,x,y,z,S',hs,rx,ry,hg,k⟩:=h;unfold rM at hg;split at hg
 .split at hg
  .rename_i hc;cases hg;cases rx;cases ry;exact zoH pins s σ H _ _ _ _ Q I rv ru ⟨_,_,rfl,rfl,hc,k.same hs (.int _)⟩
  .cases hg
 .cases hg
theorem zoD:fC X (binaryOp .FloorDiv) (oh X.K rO):=by
 intro pins s σ H v u vv uu Q I rv ru h;obtain⟨S,α,x,y,z,S',hs,rx,ry,hg,k⟩:=h;unfold rO at hg;split at hg
 .split at hg
  .rename_i hc;cases hg;cases rx;cases ry;exact zoJ pins s σ H _ _ _ _ Q I rv ru ⟨_,_,rfl,rfl,hc,k.same hs (.int _)⟩
  .cases hg
 .cases hg
theorem zoA:fC X (binaryOp .Mod) (oh X.K rN):=by
 intro pins s σ H v u vv uu Q I rv ru h;obtain⟨S,α,x,y,z,S',hs,rx,ry,hg,k⟩:=h;unfold rN at hg;split at hg
 .split at hg
  .rename_i hc;cases hg;cases rx;cases ry;exact zoI pins s σ H _ _ _ _ Q I rv ru ⟨_,_,rfl,rfl,hc,k.same hs (.int _)⟩
  .cases hg
 .cases hg
theorem zov:fC X (binaryOp .LShift) (oh X.K rK):=by
 intro pins s σ H v u vv uu Q I rv ru h;obtain⟨S,α,x,y,z,S',hs,rx,ry,hg,k⟩:=h;unfold rK at hg;split at hg
 .split at hg
  .rename_i hc;cases hg;cases rx;cases ry;exact Y9 pins s σ H _ _ _ _ Q I rv ru ⟨_,_,rfl,rfl,hc,k.same hs (.int _)⟩
  .cases hg
 .cases hg
theorem zow:fC X (binaryOp .Pow) (oh X.K wz):=by
 intro pins s σ H v u vv uu Q I rv ru h;obtain⟨S,α,x,y,z,S',hs,rx,ry,hg,k⟩:=h;unfold wz at hg;split at hg
 .split at hg
  .rename_i hc;cases hg;cases rx;cases ry;exact Y8 pins s σ H _ _ _ _ Q I rv ru ⟨_,_,rfl,rfl,hc,k.same hs (.int _)⟩
  .cases hg
 .cases hg
theorem zoE:∀op:Operator,fC X (binaryOp op) (oh X.K (aP op)):=by
 intro op;cases op
 case Add=>exact zoF
 case Sub=>exact zou
 case Mult=>exact zoz
 case FloorDiv=>exact zoD
 case Mod=>exact zoA
 case LShift=>exact zov
 case Pow=>exact zow
 all_goals
  intro pins s σ H v u vv uu Q I rv ru h;obtain⟨S,α,x,y,z,S',hs,rx,ry,hg,k⟩:=h;exact absurd hg (by simp[aP])
end
noncomputable def m9(f:D->Option PyData):List D->Option (List PyData)
 |[]=>some []
 |d::ds=>(f d).bind λp=>(m9 f ds).map λps=>p::ps
noncomputable def dO(S:So):Nat->D->Option PyData
 |0,_=>none
 |_+1,.non=>some .none
 |_+1,.bl b=>some (.bool b)
 |_+1,.int i=>some (.int i)
 |_+1,.str x=>some (.str x)
 |n+1,.tup ds=>(m9 (dO S n) ds).map .tuple
 |n+1,.ref m=>match S[m]? with
  |some (.lst ds)=>(m9 (dO S n) ds).map .list
  |some (.frz ds)=>(m9 (dO S n) ds).map .list
  |_=>none
 |_+1,_=>none
theorem Vd{X:Cx}{s:Shared}{H:Hp}{α:List Addr}{f:D->Option PyData}(hf:∀d v u p,Rep X.K H α d v->RelV v u->f d=some p->∃as,Reads s.heap u p as):
 ∀ds vs us ps,aH X.K H α ds vs->Vals vs us->m9 f ds=some ps->∃as,ReadsAll s.heap us ps as
 |_,_,_,_,.nil,.nil,e=>by simp[m9] at e;subst e;exact⟨_,.nil⟩
 |_,_,_,_,.cons r rr,.cons rv rvs,e=>by simp only[m9,bf,aX] at e;obtain⟨p,e1,ps,e2,rfl⟩:=e;obtain⟨as,ra⟩:=hf _ _ _ _ r rv e1;obtain⟨bs,rb⟩:=Vd hf _ _ _ _ rr rvs e2;exact⟨_,.cons ra rb⟩
theorem zY{X:Cx}{pins:List (Addr×Obj)}{s:Shared}{σ:L2.St}{H:Hp}{α:List Addr}{S:So}(I:Inv X pins σ H s)(hs:aB X.K H α S):∀(n:Nat) d v u p,Rep X.K H α d v->RelV v u->dO S n d=some p->∃as,Reads s.heap u p as
 |0,d,v,u,p,_,_,e=>by simp[dO] at e
 |n+1,d,v,u,p,r,rv,e=>by
  have ih:=Vd (X:=X) (s:=s) (zY I hs n);cases r with
  |non=>cases rv;simp[dO] at e;subst e;exact⟨_,.none⟩
  |bl b=>cases rv;simp[dO] at e;subst e;exact⟨_,.bool b⟩
  |int i=>obtain⟨t,rfl⟩:=rv;simp[dO] at e;subst e;exact⟨_,.int i t⟩
  |str x=>obtain⟨t,rfl⟩:=rv;simp[dO] at e;subst e;exact⟨_,.str x t⟩
  |tup h r =>
   cases rv;simp only[dO,aX] at e;obtain⟨ps,e1,rfl⟩:=e;obtain⟨its,r',⟨o,ho,hc,m,hd⟩,_⟩:=I.tuple h;obtain⟨as,ra⟩:=ih _ _ _ _ r r' e1;exact⟨_,.tuple ho hc hd (by simpa using ra)⟩
  |@ref m a h =>
   cases rv;simp only[dO] at e;cases hm:S[m]? with
   |none=>rw[hm] at e;simp at e
   |some o =>
    rw[hm] at e;have hob:=hs.obj _ _ _ hm h;cases o with
    |lst ds =>
     simp only[aX] at e;obtain⟨ps,e1,rfl⟩:=e;obtain⟨vs,h1,r⟩:=hob;obtain⟨its,r',⟨o,m,ho,hc,hdd,hd⟩,_⟩:=I.list (dG.of (K:=X.K) h1);obtain⟨as,ra⟩:=ih _ _ _ _ r r' e1;exact⟨_,.list ho hc hd (by simpa using ra)⟩
    |frz ds =>
     simp only[aX] at e;obtain⟨ps,e1,rfl⟩:=e;obtain⟨vs,h1,r⟩:=hob;obtain⟨its,r',⟨o,m,ho,hc,hdd,hd⟩,_⟩:=I.list h1.sq;obtain⟨as,ra⟩:=ih _ _ _ _ r r' e1;exact⟨_,.list ho hc hd (by simpa using ra)⟩
    |ins C fs=>simp at e
    |dct xs=>simp at e
    |tbl x=>simp at e
  |ty n=>simp[dO] at e
  |adr a=>simp[dO] at e
  |obj _ _ _ _ _=>simp[dO] at e
noncomputable def lF(S:So)(x y:D):Option Bool:=(dO S 24 x).bind λp=>(dO S 24 y).bind λq=>if SeqAt.shaped p=true/\SeqAt.shaped q=true then some (PyData.eqv p q) else none
noncomputable def oF:D->Bool
 |.non=>true
 |_=>false
noncomputable def aW:CmpOp->G2
 |.Lt,.int i,.int j,S=>some (.bl (decide (i<j)),S)
 |.LtE,.int i,.int j,S=>some (.bl (decide (i<=j)),S)
 |.Gt,.int i,.int j,S=>some (.bl (decide (j<i)),S)
 |.GtE,.int i,.int j,S=>some (.bl (decide (j<=i)),S)
 |.Eq,.int i,.int j,S=>some (.bl (decide (i=j)),S)
 |.NotEq,.int i,.int j,S=>some (.bl (!decide (i=j)),S)
 |.Eq,x,y,S=>(lF S x y).map λb=>(.bl b,S)
 |.NotEq,x,y,S=>(lF S x y).map λb=>(.bl (!b),S)
 |.Is,x,.non,S=>some (.bl (oF x),S)
 |.IsNot,x,.non,S=>some (.bl (!oF x),S)
 |.Is,.bl a,.bl b,S=>some (.bl (a==b),S)
 |.IsNot,.bl a,.bl b,S=>some (.bl (!(a==b)),S)
 |_,_,_,_=>none
def Rf{K:FgA}{H:Hp}{α:List Addr}{x:D}{v:V}(r:Rep K H α x v):decide (v = .non)=oF x:=by cases r<;>simp[oF]
section
variable {X:Cx}
def zoB:fC X (compareOp .Eq) (qj λi j => .bl (decide (i=j))):=mU λ_ _ _ _ _ _ _ q=>eq_int (by rw[Bool.beq_eq_decide_eq];exact q)
def zox:fC X (compareOp .NotEq) (qj λi j => .bl (!decide (i=j))):=mU λ_ _ _ _ _ _ _ q=>ne_int (by rw[bne,Bool.beq_eq_decide_eq];exact q)
theorem zoC{pins:List (Addr×Obj)}{s:Shared}{σ:L2.St}{H:Hp}{v u:V}{vv uu:Value}{Q:VK}{S:So}{α:List Addr}{x y:D}{b:Bool}(hu:X.A.units+64<cLine)(I:Inv X pins σ H s)(rv:RelV v vv)(ru:RelV u uu)(hs:aB X.K H α S)(rx:Rep X.K H α x v)(ry:Rep X.K H α y u)(hg:lF S x y=some b)(k:Q (.bl b) H):wpAny (model X.prog X.w) X.A (compareOp .Eq vv uu) (EP X pins σ Q) X.xe s:=by
 unfold lF at hg;simp only[bf] at hg;obtain⟨p,e1,q,e2,hg⟩:=hg;split at hg
 .rename_i hc;obtain⟨as,ra⟩:=zY I hs 24 _ _ _ _ rx rv e1;obtain⟨bs,rb⟩:=zY I hs 24 _ _ _ _ ry ru e2;cases hg;exact SeqAt.compareEq_shaped ra rb hc.1 hc.2 hu ⟨.bl _,H,I,rfl,k⟩
 .cases hg
theorem zoy{pins:List (Addr×Obj)}{s:Shared}{σ:L2.St}{H:Hp}{v u:V}{vv uu:Value}{Q:VK}{S:So}{α:List Addr}{x y:D}{b:Bool}(hu:X.A.units+64<cLine)(I:Inv X pins σ H s)(rv:RelV v vv)(ru:RelV u uu)(hs:aB X.K H α S)(rx:Rep X.K H α x v)(ry:Rep X.K H α y u)(hg:lF S x y=some b)(k:Q (.bl (!b)) H):wpAny (model X.prog X.w) X.A (compareOp .NotEq vv uu) (EP X pins σ Q) X.xe s:=by
 unfold lF at hg;simp only[bf] at hg;obtain⟨p,e1,q,e2,hg⟩:=hg;split at hg
 .rename_i hc;obtain⟨as,ra⟩:=zY I hs 24 _ _ _ _ rx rv e1;obtain⟨bs,rb⟩:=zY I hs 24 _ _ _ _ ry ru e2;cases hg;exact SeqAt.compareNe_shaped ra rb hc.1 hc.2 hu ⟨.bl _,H,I,rfl,k⟩
 .cases hg
theorem Q9(hu:X.A.units+64<cLine):∀op:CmpOp,fC X (compareOp op) (oh X.K (aW op)):=by
 intro op pins s σ H v u vv uu Q I rv ru h;obtain⟨S,α,x,y,z,S',hs,rx,ry,hg,k⟩:=h;unfold aW at hg;split at hg
 .cases hg;cases rx;cases ry;exact Yb pins s σ H _ _ _ _ Q I rv ru ⟨_,_,rfl,rfl,k.same hs (.bl _)⟩
 .cases hg;cases rx;cases ry;exact X8 pins s σ H _ _ _ _ Q I rv ru ⟨_,_,rfl,rfl,k.same hs (.bl _)⟩
 .cases hg;cases rx;cases ry;exact X7 pins s σ H _ _ _ _ Q I rv ru ⟨_,_,rfl,rfl,k.same hs (.bl _)⟩
 .cases hg;cases rx;cases ry;exact X6 pins s σ H _ _ _ _ Q I rv ru ⟨_,_,rfl,rfl,k.same hs (.bl _)⟩
 .cases hg;cases rx;cases ry;exact zoB pins s σ H _ _ _ _ Q I rv ru ⟨_,_,rfl,rfl,k.same hs (.bl _)⟩
 .cases hg;cases rx;cases ry;exact zox pins s σ H _ _ _ _ Q I rv ru ⟨_,_,rfl,rfl,k.same hs (.bl _)⟩
 .simp only[aX] at hg;obtain⟨b,e,hg⟩:=hg;cases hg;exact zoC hu I rv ru hs rx ry e (k.same hs (.bl _))
 .simp only[aX] at hg;obtain⟨b,e,hg⟩:=hg;cases hg;exact zoy hu I rv ru hs rx ry e (k.same hs (.bl _))
 .cases hg;cases ry;exact Y7 pins s σ H _ _ _ _ Q I rv ru ⟨rfl,by rw[Rf rx];exact k.same hs (.bl _)⟩
 .cases hg;cases ry;refine zoG pins s σ H _ _ _ _ Q I rv ru ⟨rfl,?_⟩;rw[Rf rx];exact k.same hs (.bl _)
 .cases hg;cases rx;cases ry;cases rv;cases ru;exact is_bool (Ed I (k.same hs (.bl _)) rfl)
 .cases hg;cases rx;cases ry;cases rv;cases ru;exact isnot_bool (Ed I (k.same hs (.bl _)) rfl)
 .cases hg
end
noncomputable def aJ:G2
 |.tup xs,.int i,S=>(eH xs i).map λz=>(z,S)
 |.ref n,.int i,S=>match S[n]? with
  |some (.lst xs)=>(eH xs i).map λz=>(z,S)
  |some (.frz xs)=>(eH xs i).map λz=>(z,S)
  |_=>none
 |.str z,.int i,S=>if z.length<=sizeLine then(eH z.cps.toList i).map λc=>(.str ⟨#[c]⟩,S) else none
 |_,_,_=>none
theorem Jh{K:FgA}{H:Hp}{α:List Addr}{ds:List D}{vs:List V}{i:Int}{z:D}(r:aH K H α ds vs)(h:eH ds i=some z):∃w,eH vs i=some w/\Rep K H α z w:=by
 unfold eH at h ⊢;rw[<-r.length];cases e:uc ds.length i with
 |none=>rw[e] at h;simp at h
 |some j =>
  rw[e] at h;exact r.get h
theorem ixs{X:Cx}:CN X (oh X.K aJ):=by
 intro value slice pins s σ H v u vv uu Q I rv ru h hsub;obtain⟨S,α,x,y,z,S',hs,rx,ry,hg,k⟩:=h;unfold aJ at hg;split at hg
 .simp only[aX] at hg;obtain⟨b,e,hg⟩:=hg;cases hg;cases ry;cases rx with
  |tup h r =>
   obtain⟨w,e',eY⟩:=Jh r e;exact Zt value slice pins s σ H _ _ _ _ Q I rv ru ⟨_,_,_,_,rfl,rfl,h,e',k.same hs eY⟩ hsub
 .cases ry;cases rx with
  |ref h =>
   rename_i n i a;cases hm:S[n]? with
   |none=>rw[hm] at hg;simp at hg
   |some o =>
    rw[hm] at hg;have hob:=hs.obj _ _ _ hm h;cases o with
    |lst ds =>
     simp only[aX] at hg;obtain⟨b,e,hg⟩:=hg;cases hg;obtain⟨vs,h1,r⟩:=hob;obtain⟨w,e',eY⟩:=Jh r e;exact Rj value slice pins s σ H _ _ _ _ Q I rv ru ⟨_,_,_,_,rfl,rfl,dG.of h1,e',k.same hs eY⟩ hsub
    |frz ds =>
     simp only[aX] at hg;obtain⟨b,e,hg⟩:=hg;cases hg;obtain⟨vs,h1,r⟩:=hob;obtain⟨w,e',eY⟩:=Jh r e;exact Rj value slice pins s σ H _ _ _ _ Q I rv ru ⟨_,_,_,_,rfl,rfl,h1.sq,e',k.same hs eY⟩ hsub
    |ins C fs=>simp at hg
    |dct xs=>simp at hg
    |tbl x=>simp at hg
 .split at hg
  .rename_i hl;simp only[aX] at hg;obtain⟨b,e,hg⟩:=hg;cases hg;cases rx;cases ry;exact Zr value slice pins s σ H _ _ _ _ Q I rv ru ⟨_,_,_,rfl,rfl,hl,e,k.same hs (.str _)⟩ hsub
  .cases hg
 .cases hg
end MX
end
section
namespace MX
open PySem PySem.Spec PyProof.Rows L2
theorem Ep(names:List (Str×NameKind)):∀(n:Nat) (acc:List (Str×Addr)),cellsFrom n names acc=cellsFrom n names []++acc:=by
 induction names with
 |nil=>intro n acc;simp[cellsFrom]
 |cons p r ih =>
  intro n acc;obtain⟨x,k⟩:=p;unfold cellsFrom;split
  .rw[ih,ih _ [(x,n)],fW];rfl
  .exact ih n acc
theorem DX{names:List (Str×NameKind)}:∀{n:Nat} {x:Str} {c:Addr},(x,c)∈cellsFrom n names []->n<=c/\(x,NameKind.cell)∈names:=by
 induction names with
 |nil=>intro n x c h;simp[cellsFrom] at h
 |cons p r ih =>
  intro n x c h;obtain⟨y,k⟩:=p;unfold cellsFrom at h;split at h
  .rename_i hk;rw[Ep,lZ] at h;rcases h with h|h
   .have:=ih h;exact⟨by omega,cQ _ this.2⟩
   .have e:(x,c)=(y,n):=by simpa using h
    cases e;have:k=NameKind.cell:=by simpa using hk
    subst this;exact⟨bZ _,fG⟩
  .have:=ih h;exact⟨this.1,cQ _ this.2⟩
theorem FW{α:Type}(x:Str):∀(l r:List (Str×α)),(l++r).lookup x=(l.lookup x).or (r.lookup x)
 |[],r=>by simp
 | (k,v)::l,r=>by
   rw[List.cons_append,jF,jF];cases x==k with
   |true=>rfl
   |false=>exact FW x l r
theorem JQ{names:List (Str×NameKind)}{n:Nat}{acc:List (Str×Addr)}{x:Str}{c:Addr}(h:(cellsFrom n names acc).lookup x=some c):
 ((cellsFrom n names []).lookup x=some c)\/((cellsFrom n names []).lookup x=none/\acc.lookup x=some c):=by
 rw[Ep,FW] at h;cases e:(cellsFrom n names []).lookup x with
 |some d=>rw[e] at h;exact .inl h
 |none=>rw[e] at h;exact .inr ⟨rfl,h⟩
theorem JK{env:Env}(f:Str×NameKind->List (Str×Addr)->Sem (ForInStep (List (Str×Addr))))(hf:∀name kind cs,f (name,kind) cs=if(kind==NameKind.free)=true then(do let a <-cellOf env name;pure (.yield ((name,a)::cs))) else pure (.yield cs)):
 ∀(names:List (Str×NameKind)) (acc:List (Str×Addr)),(∀y∈names,y.2 = .free->∃c,env.cells.lookup y.1=some c)->∃cl,forIn names acc f=pure cl /\
  (∀x c,cl.lookup x=some c->acc.lookup x=some c\/((x,NameKind.free)∈names/\env.cells.lookup x=some c))/\∀x,((x,NameKind.free)∈names\/∃c,acc.lookup x=some c)->∃c,cl.lookup x=some c
 |[],acc,_=>⟨acc,by rw[List.forIn_nil],λx c h => .inl h,λx h=>by
  rcases h with h|h
  .cases h
  .exact h⟩
 | (y,k)::r,acc,h=>by
   by_cases hk:k=NameKind.free
   .subst hk;obtain⟨c,hc⟩:=h (y,.free) fG rfl;obtain⟨cl,e,h1,h2⟩:=JK f hf r ((y,c)::acc) λz hz=>h z (cQ _ hz);refine⟨cl,?_,λx d hx=>?_,λx hx=>h2 x ?_⟩
    .rw[List.forIn_cons,hf];have e1:cellOf env y=pure c:=by unfold cellOf;rw[hc]
     simp only[beq_self_eq_true,if_true,e1,pure_bind];exact e
    .rcases h1 x d hx with q|⟨q1,q2⟩
     .rw[jF] at q;cases hb:x==y with
      |true =>
       rw[hb] at q;cases q;obtain rfl:x=y:=by simpa using hb
       exact .inr ⟨fG,hc⟩
      |false=>rw[hb] at q;exact .inl q
     .exact .inr ⟨cQ _ q1,q2⟩
    .rcases hx with hx|⟨d,hx⟩
     .rcases List.mem_cons.mp hx with q|q
      .cases q;exact .inr ⟨c,by simp⟩
      .exact .inl q
     .cases hb:x==y with
      |true=>exact .inr ⟨c,by rw[jF,hb]⟩
      |false=>exact .inr ⟨d,by rw[jF,hb];exact hx⟩
   .have hb:(k==NameKind.free)=false:=by simpa using hk
    obtain⟨cl,e,h1,h2⟩:=JK f hf r acc λz hz=>h z (cQ _ hz);refine⟨cl,?_,λx d hx=>?_,λx hx=>h2 x ?_⟩
    .rw[List.forIn_cons,hf,hb];simp only[Bool.false_eq_true,if_false,pure_bind];exact e
    .rcases h1 x d hx with q|⟨q1,q2⟩
     .exact .inl q
     .exact .inr ⟨cQ _ q1,q2⟩
    .rcases hx with hx|hx
     .rcases List.mem_cons.mp hx with q|q
      .cases q;exact absurd rfl hk
      .exact .inl q
     .exact .inr hx
theorem ZQ{scope:Scope}{env:Env}(h:∀y∈scope.names,y.2 = .free->∃c,env.cells.lookup y.1=some c):∃cl,closureFor scope env=pure cl /\
 (∀x c,cl.lookup x=some c->(x,NameKind.free)∈scope.names/\env.cells.lookup x=some c)/\∀x,(x,NameKind.free)∈scope.names->∃c,cl.lookup x=some c:=by
 obtain⟨cl,e,h1,h2⟩:=JK (env:=env) (λx cs=>if(x.2==NameKind.free)=true then(do let a <-cellOf env x.1;pure (.yield ((x.1,a)::cs))) else pure (.yield cs)) (λ_ _ _=>rfl) scope.names [] h;refine⟨cl,?_,λx c q=>?_,λx q=>h2 x (.inl q)⟩
 .unfold closureFor;show(forIn scope.names [] _ >>= λcs=>pure cs)=_;rw[show(forIn scope.names ([]:List (Str×Addr)) _:Sem (List (Str×Addr)))=_ from e];rfl
 .rcases h1 x c q with z|z
  .simp at z
  .exact z
theorem K6{env:Env}:∀{names:List (Str×NameKind)} {x:Str},
 (names.map fun(n,k)=>if(k==NameKind.free&&env.scope.kind == .function&&env.kindOf n==some .cell) then(n,NameKind.cell) else(n,k)).lookup x =
  (names.lookup x).map λk=>if(k==NameKind.free&&env.scope.kind == .function&&env.kindOf x==some .cell) then NameKind.cell else k
 |[],_=>rfl
 | (n,k)::r,x=>by
   have ih:=@K6 env r x;show List.lookup x ((if(k==NameKind.free&&env.scope.kind == .function&&env.kindOf n==some .cell)=true then(n,NameKind.cell) else(n,k))::_)=_;cases hx:x==n with
   |true =>
    obtain rfl:x=n:=by simpa using hx
    by_cases hc:(k==NameKind.free&&env.scope.kind == .function&&env.kindOf x==some .cell)=true
    .rw[if_pos hc];simp only[jF,hx,pN,if_pos hc]
    .rw[if_neg hc];simp only[jF,hx,pN,if_neg hc]
   |false =>
    by_cases hc:(k==NameKind.free&&env.scope.kind == .function&&env.kindOf n==some .cell)=true
    .rw[if_pos hc];simp only[jF,hx];exact ih
    .rw[if_neg hc];simp only[jF,hx];exact ih
theorem ziZ{M:Model}{A:Around}{E:Value->Shared->Prop}{s:Shared}{scope:Scope}{globals:Addr}{cl:List (Str×Addr)}{qual:Str}{env:Env}{Q:Env->Shared->Prop}(h:Q { scope:=scope,locals:=s.heap.objs.size,globals:=globals,cells:=cellsFrom (s.heap.objs.size+1) scope.names cl,qual:=qual,func:=none,code:=env.code,frame:=env.frame,builtins:=env.builtins }
  { s with heap:=pushCells (s.heap.push { cls := .type "dict",data := .dict #[] }) scope.names }):
 wpAny M A (newFunctionEnv scope globals cl [] qual none .none (some env)) Q E s:=by
 simp only[newFunctionEnv,Option.isSome_some,if_true];refine aO (wpAny_alloc ?_);refine aO (wpAny_layCells _ (λname kind cells=>by cases hkc:kind==NameKind.cell<;>simp[hkc]) _ _ _ _ ?_);rw[show({ s with heap:=s.heap.push { cls := .type "dict",data := .dict #[] } }:Shared).heap.objs.size=s.heap.objs.size+1 from Heap.size_push ..];rw[List.forIn_nil];exact aO (b7 (b7 h))
structure qL(X:Cx)(scope:Scope)(N':List Str)(src:List (Option Nat)):Prop where
 kind:scope.kind = .function
 uniq:∀y∈scope.names,scope.names.lookup y.1=some y.2
 free:∀y∈scope.names,y.2 = .free->(X.env.kindOf y.1=some .cell\/X.env.kindOf y.1=some .free)
 len:src.length=N'.length
 src:∀(j i:Nat) x,N'[j]?=some x->src[j]?=some (some i)->X.N[i]?=some x/\scope.names.lookup x=some .free
noncomputable def mF(src:List (Option Nat))(σ:L2.St):L2.St:=src.map λo=>o.bind λi=>(σ[i]?).join
noncomputable def qM(X:Cx)(scope:Scope)(N':List Str)(cl:List (Str×Addr))(s₂:Shared)(H₂:Hp)(fp:List Addr):Cx where
 prog:=X.prog
 w:=X.w
 K:=X.K
 mg:=X.mg
 base:=X.base
 A:=X.A
 N:=N'
 s₀:=s₂
 H₀:=H₂
 env:={ scope:=relabel scope X.env,locals:=s₂.heap.objs.size+1,globals:=X.env.globals,cells:=cellsFrom (s₂.heap.objs.size+1+1) scope.names cl,qual:=X.env.qual,func:=none,code:=X.env.code,frame:=X.env.frame,builtins:=X.env.builtins }
 outer:=X.stack
 stack:=X.stack
 ex:=fp
 fn:=λx=>decide (scope.names.lookup x=some .cell)
 calm:=X.calm
 pn:=[]
 xe:=λ_ _=>False
structure oK(X:Cx)(scope:Scope)(N':List Str)(Y:Cx):Prop where
 prog:Y.prog=X.prog
 w:Y.w=X.w
 K:Y.K=X.K
 mg:Y.mg=X.mg
 base:Y.base=X.base
 A:Y.A=X.A
 N:Y.N=N'
 sc:Y.env.scope=relabel scope X.env
 calm:Y.calm=X.calm
 fn:∀x,scope.names.lookup x=some .cell->Y.fn x=true
section
variable {X:Cx}{pins:List (Addr×Obj)}{σ:L2.St}{H:Hp}{s:Shared}{scope:Scope}{N':List Str}{src:List (Option Nat)}{cl:List (Str×Addr)}{fp:List Addr}
def zkS:oK X scope N' (qM X scope N' cl s H fp):=⟨rfl,rfl,rfl,rfl,rfl,rfl,rfl,rfl,rfl,λx h=>decide_eq_true h⟩
theorem zmy(I:Inv X pins σ H s)(hf:∀b∈fp,jY X pins H b)(hfe:∀b∈fp,∃o,s.heap.get? b=some o)(ok:qL X scope N' src)(h1:∀x c,cl.lookup x=some c->(x,NameKind.free)∈scope.names/\X.env.cells.lookup x=some c)(h2:∀x,(x,NameKind.free)∈scope.names->∃c,cl.lookup x=some c){l:Obj}:
 Inv (qM X scope N' cl s H fp) [] (mF src σ) H { s with heap:=pushCells ((s.heap.push l).push { cls := .type "dict",data := .dict #[] }) scope.names }:=by
 have hC:((s.heap.push l).objs.size)=s.heap.objs.size+1:=Heap.size_push ..;have keep:∀b o,s.heap.get? b=some o->(pushCells ((s.heap.push l).push { cls := .type "dict",data := .dict #[] }) scope.names).get? b=some o:=λb o e =>
  pushCells_keeps _ _ b o (dm _ (dm _ e))
 have Ny:=cellsFrom_ok scope.names ((s.heap.push l).push { cls := .type "dict",data := .dict #[] }) (s.heap.objs.size+1+1) [] ⟨λ_ _ hm=>(nomatch hm),List.Pairwise.nil⟩ (by rw[Heap.size_push,hC];exact bZ _);rw[Heap.size_push,hC] at Ny;have cells:∀x c,(qM X scope N' cl s H fp).env.cells.lookup x=some c->((cellsFrom (s.heap.objs.size+1+1) scope.names []).lookup x=some c/\s.heap.objs.size+1+1<=c/\(x,NameKind.cell)∈scope.names)\/(X.env.cells.lookup x=some c/\(x,NameKind.free)∈scope.names):=λx c e=>by
  rcases JQ e with z|⟨_,z⟩
  .have:=DX (iy z);exact .inl ⟨z,this.1,this.2⟩
  .exact .inr ⟨(h1 x c z).2,(h1 x c z).1⟩
 have Bq:∀x c,X.env.cells.lookup x=some c->c<s.heap.objs.size:=λx c e=>by obtain⟨v,q⟩:=I.cell x c e;exact q.lt
 have rel:∀x,(qM X scope N' cl s H fp).env.kindOf x=(scope.names.lookup x).map λk=>if(k==NameKind.free&&X.env.scope.kind == .function&&X.env.kindOf x==some .cell) then NameKind.cell else k:=λx=>K6
 have wB:∀b∈fp,b<s.heap.objs.size:=λb hb=>by obtain⟨o,e⟩:=hfe b hb;exact cG e
 have cap:∀x y c,(qM X scope N' cl s H fp).env.cells.lookup x=some c->(qM X scope N' cl s H fp).env.cells.lookup y=some c->x=y:=λx y c ex ey=>by
  rcases cells x c ex with⟨z1,l1,m1⟩|⟨z1,m1⟩<;>rcases cells y c ey with⟨z2,l2,m2⟩|⟨z2,m2⟩
  .exact name_of_addr Ny.apart (iy z1) (iy z2)
  .exact absurd (dM (Bq y c z2) (Nat.le_trans (Nat.le_add_right _ 2) l1)) (iw _)
  .exact absurd (dM (Bq x c z1) (Nat.le_trans (Nat.le_add_right _ 2) l2)) (iw _)
  .exact I.ok.inj x y c z1 z2
 have BZ:(pushCells ((s.heap.push l).push { cls := .type "dict",data := .dict #[] }) scope.names).Ns (s.heap.objs.size+1) (λ_=>none):=by have q:((s.heap.push l).push { cls := .type "dict",data := .dict #[] }).Ns (s.heap.push l).objs.size (λ_=>none):=Heap.Ns.new (s.heap.push l) (.type "dict");rw[hC] at q;exact q.keeps (pushCells_keeps _ _)
 refine⟨⟨I.ok.mod,ok.kind,I.ok.glob,I.ok.blt,Nat.le_succ _,cap,λx hx=>?_,λx c hx e=>?_,I.ok.hd,I.ok.frames,.inl rfl,λb hb=>?_,I.bs,Nat.le_trans I.ok.bsz I.sz,λb o e hb=>?_,λb hb=>?_,I.stack,I.stkFree⟩,
  rfl,I.bare,Un.kept keep,⟨_,BZ,λi x v e1 e2 e3=>?_⟩,λx c e=>?_,I.hok.fresh (Nat.le_succ _),λx c e=>?_,λp hp=>absurd (show p∈([]:List (Addr×Obj)) from hp) (by simp),I.hok.kept keep,?_⟩
 .-- has
  rw[rel] at hx;have hk:scope.names.lookup x=some .cell\/scope.names.lookup x=some .free:=by
   cases q:scope.names.lookup x with
   |none=>rw[q] at hx;simp at hx
   |some k =>
    rw[q] at hx;simp only[pN,Option.some.injEq] at hx;by_cases hk:k = .free
    .exact .inr (by rw[hk])
    .have hb:(k==NameKind.free)=false:=by simpa using hk
     simp only[hb,Bool.false_and,Bool.false_eq_true,if_false] at hx;rcases hx with hx|hx
     .exact .inl (by rw[hx])
     .exact absurd hx hk
  show ∃c,(cellsFrom (s.heap.objs.size+1+1) scope.names cl).lookup x=some c;rw[Ep,FW];rcases hk with hk|hk
  .obtain⟨c,hc⟩:=Option.isSome_iff_exists.mp (PySem.W.cellsFrom_some scope.names (s.heap.objs.size+1+1) [] (.inl hk));exact⟨c,by rw[hc];rfl⟩
  .obtain⟨c,hc⟩:=h2 x (iy hk);cases q:(cellsFrom (s.heap.objs.size+1+1) scope.names []).lookup x with
   |some d=>exact⟨d,rfl⟩
   |none=>exact⟨c,hc⟩
 .-- cab
  have hx':scope.names.lookup x=some .cell:=of_decide_eq_true hx;rcases cells x c e with⟨_,l1,_⟩|⟨_,m1⟩
  .show s.heap.objs.size<=c;omega
  .rw[ok.uniq _ m1] at hx';cases hx'
 .-- exf
  refine⟨?_,λx c e z=>?_⟩
  .exact dz (Nat.lt_succ_of_lt (wB b hb))
  .subst z;rcases cells x c e with⟨_,l1,_⟩|⟨z1,_⟩
   .exact absurd (dM (wB c hb) (Nat.le_trans (Nat.le_add_right _ 2) l1)) (iw _)
   .exact(hf c hb).2.2.2.2.1 x c z1 rfl
 .-- noex
  obtain⟨_,_,_,q,_⟩:=hf b hb;rcases q with q|q
  .exact I.ok.noex b o e q
  .exact absurd (dM (dM (cG e) I.ok.bsz) q) (iw _)
 .-- exfs
  intro z;obtain⟨_,f1,f2,_⟩:=hf b hb;exact(List.mem_cons.mp (I.stkSub b z)).elim f1 f2
 .-- loc
  have e1':N'[i]?=some x:=e1;obtain⟨j,hj,hv⟩:∃j,src[i]?=some (some j)/\σ[j]?=some (some v):=by
   unfold mF at e2;rw[jg] at e2;cases q:src[i]? with
   |none=>rw[q] at e2;simp at e2
   |some o =>
    rw[q] at e2;cases o with
    |none=>simp at e2
    |some j =>
     refine⟨j,rfl,?_⟩;simp only[pN,cg,Option.some.injEq] at e2;cases q2:σ[j]? with
     |none=>rw[q2] at e2;simp at e2
     |some o2=>rw[q2] at e2;simp at e2;rw[e2]
  obtain⟨hN,hfr⟩:=ok.src i j x e1' hj;have hm:=iy hfr;have hk:=ok.free _ hm rfl;obtain⟨m,hn,hl⟩:=I.loc;obtain⟨u,ru,lk⟩:=hl j x v hN hv (by rcases hk with hk|hk;exact .inr (.inl hk);exact .inr (.inr hk));refine⟨u,ru,.inr ⟨?_,?_⟩⟩
  .rw[rel,hfr];simp only[pN];split
   .exact .inl rfl
   .exact .inr rfl
  .rcases lk with⟨q,_⟩|⟨_,c,hc,hcell⟩
   .rcases hk with hk|hk<;>(rw[q] at hk;cases hk)
   .refine⟨c,?_,hcell.keeps keep⟩;show(cellsFrom (s.heap.objs.size+1+1) scope.names cl).lookup x=some c;rw[Ep,FW];have hnone:(cellsFrom (s.heap.objs.size+1+1) scope.names []).lookup x=none:=by
     cases q:(cellsFrom (s.heap.objs.size+1+1) scope.names []).lookup x with
     |none=>rfl
     |some d =>
      have:=ok.uniq _ (DX (iy q)).2;rw[hfr] at this;cases this
    rw[hnone];obtain⟨c',hc'⟩:=h2 x hm;have:=(h1 x c' hc').2;rw[hc] at this;cases this;exact hc'
 .-- cell
  rcases cells x c e with⟨z1,_,_⟩|⟨z1,_⟩
  .exact⟨none,(Ny.empty x c (iy z1)).1⟩
  .obtain⟨v,q⟩:=I.cell x c z1;exact⟨v,q.keeps keep⟩
 .-- freeC
  rcases cells x c e with⟨_,l1,_⟩|⟨z1,_⟩
  .exact I.hok.fresh (by omega)
  .exact I.freeC x c z1
 .-- len
  show(mF src σ).length=N'.length;unfold mF;rw[dJ];exact ok.len
end
theorem zh4{prog:Program}{w:World}{A:Around}{R:Result->Shared->Prop}{s:Shared}{elt target iter:Expr}{ifs:List Expr}{scope:Scope}{pos:Pos}{it acc:Value}{env:Env}(I:Nat->Shared->Prop)(turn:∀n s,I n s->wpAny (model prog w) A (pyNext it) (λr s₁=>match r with
  |none=>R (.ok .next) s₁
  |some v=>wpAny (model prog w) A (letOwnedTupleGo target it v) (λ_ s₀=>wpAny (model prog w) A (assign target env v) (λ_ s₂ =>
   wpAny (model prog w) A (forIn ifs true λc r=>if r=true then do let ok <-isTrue c env (eval c env);pure (ForInStep.yield ok) else pure (ForInStep.yield r)) (λok s₃ =>
    if ok=true then wpAny (model prog w) A (eval elt env) (λx s₄ =>
     wpAny (model prog w) A (call (.builtin "list.append") [acc,x]) (λ_ s₅=>∃m,m<n/\I m s₅) (λ_ _=>False) s₄) (λ_ _=>False) s₃
    else ∃m,m<n/\I m s₃) (λ_ _=>False) s₂) (λ_ _=>False) s₀) (λ_ _=>False) s₁) (λ_ _=>False) s)(n:Nat)(h:I n s):
 codeAny (model prog w) A (.compLoop (.ListComp elt [⟨target,iter,ifs,0⟩] scope pos) 0 it acc env) R s:=by
 refine codeAny_loop rfl I (λn s hI=>?_) n h;show wpAny _ A ((compTurn (.ListComp elt [⟨target,iter,ifs,0⟩] scope pos) 0 it acc env).onRaise (λx=>do noteFrame x env;theTreesLotGoes x)) _ _ s;refine wpAny_noted ?_;rw[compTurn_list];refine aO (wpAny_standAt (aO (jO (turn n s hI) (λr s₁ h₁=>?_) λ_ _ h'=>h'.elim)));cases r with
 |none=>exact b7 h₁
 |some v =>
  refine aO (jO h₁ (λ_ s₀ h₀=>?_) λ_ _ h'=>h'.elim);refine aO (jO h₀ (λ_ s₂ h₂=>aO (jO h₂ (λok s₃ h₃=>?_) λ_ _ h'=>h'.elim)) λ_ _ h'=>h'.elim);cases ok with
  |false=>exact b7 ⟨rfl,h₃⟩
  |true =>
   exact aO (aO (jO h₃ (λx s₄ h₄=>aO (jO h₄ (λ_ s₅ h₅=>b7 (b7 ⟨rfl,h₅⟩)) λ_ _ h'=>h'.elim)) λ_ _ h'=>h'.elim))
noncomputable def wU(X:Cx)(ifs:List Expr)(t:TT):Prop :=
 ∀(pins:List (Addr×Obj)) (s:Shared) (σ:L2.St) (H:Hp) (Q:Bool->Hp->Prop),Inv X pins σ H s->t σ H Q ->
  wpAny (model X.prog X.w) X.A (forIn ifs true λc r=>if r=true then do let ok <-isTrue c X.env (eval c X.env);pure (ForInStep.yield ok) else pure (ForInStep.yield r)) (TP X pins σ Q) X.xe s
def zoa{X:Cx}:wU X [] (λ_ H Q=>Q true H):=λ_ _ _ H _ I h=>wpAny_tests_nil ⟨H,I,h⟩
def zn9{X:Cx}{c:Expr}{t:TT}(h:PT X c t):wU X [c] t:=λpins s σ H Q I q=>wpAny_tests_one (h pins s σ H Q I q)
noncomputable def Gx(J:It)(g:TG)(tt:TT)(te:TE)(Fin:List V->Hp->Prop)(W:Nat->Nat->List V->L2.St->Hp->Prop):Prop :=
 ∀i m ys τ H,W i m ys τ H->(J.stop i H/\Fin ys H)\/(J.go i H/\ys.length<sizeLine/\∀x H',J.yld i H x H'->g x τ H' λτ2 H2=>tt τ2 H2 λb H3 =>
  if b=true then te τ2 H3 λy H4=>∃m',m'<m/\W (i+1) m' (ys++[y]) τ2 H4 else ∃m',m'<m/\W (i+1) m' ys τ2 H3)
theorem gq.track{P:Program}{w:World}{H:Hp}{h:Heap}{a:Addr}{o:HO}(x:gq P w H h)(hn:H a=none)(new:bY P w (upd H a o) h a o):gq P w (upd H a o) h:=λb u e=>by
 by_cases hb:b=a
 .subst hb;rw[fJ] at e;cases e;exact new
 .rw[cu hb] at e;exact(x b u e).stay (λc v _ q=>q) (λc q=>by rw[cu (gB q hn)];exact q) λc xs q=>by rw[cu (gB q hn)];exact q
theorem Un.track{fs ex:List Addr}{H H':Hp}{h h':Heap}{a:Addr}{o:HO}(u:Un fs ex H H' h h')(hn:H' a=none)(ha:h.get? a=none):Un fs ex H (upd H' a o) h h' where
 keep:=u.keep
 slot:=u.slot
 free:=λb ob q n hx=>by rw[cu (λz=>by rw[z,ha] at q;cases q)];exact u.free b ob q n hx
 there:=u.there
 tups:=λb xs q=>by rw[cu (gB (u.tups b xs q) hn)];exact u.tups b xs q
 frzs:=λb ob xs q=>by rw[cu (gB (u.frzs b ob xs q) hn)];exact u.frzs b ob xs q
 tbls:=λb ps q=>by obtain⟨m,e⟩:=u.tbls b ps q;exact⟨m,by rw[cu (gB e hn)];exact e⟩
theorem Tp{X:Cx}{pins:List (Addr×Obj)}{σ:L2.St}{H:Hp}{s:Shared}{scope:Scope}{N':List Str}{src:List (Option Nat)}{cl:List (Str×Addr)}{fp:List Addr}{elt tg iter:Expr}{ifs:List Expr}{pos:Pos}{J:It}{it:Addr}{tn:Nat->Heap->Prop}{g:TG}{tt:TT}{te:TE}{Fin:List V->Hp->Prop}{W:Nat->Nat->List V->L2.St->Hp->Prop}{RR:Value->Addr->Result->Shared->Prop}{E:Value->Shared->Prop}(hc:X.calm=true)(ok:qL X scope N' src)(I:Inv X pins σ H s)(T:uG X.prog X.w X.K tg J fp it tn)(st:tn 0 s.heap)(hf:∀b∈fp,jY X pins H b)(h1:∀x c,cl.lookup x=some c->(x,NameKind.free)∈scope.names/\X.env.cells.lookup x=some c)(h2:∀x,(x,NameKind.free)∈scope.names->∃c,cl.lookup x=some c)(hY:∀Y,oK X scope N' Y->PG Y tg g/\wU Y ifs tt/\PE Y elt te)(w0:∃m,W 0 m [] (mF src σ) H)(turn:Gx J g tt te Fin W)(hRR:∀ys H' s' oC m,H' s.heap.objs.size=none->LCg.NsObj oC m->Inv X (pins++[(s.heap.objs.size+1,oC)]) σ (upd H' s.heap.objs.size (.lst ys)) s'->Fin ys H'->RR (.ref s.heap.objs.size) (s.heap.objs.size+1) (.ok .next) s'):
 wpAny (model X.prog X.w) X.A (newList []) (λacc s₃=>wpAny (model X.prog X.w) X.A (newFunctionEnv scope X.env.globals cl [] X.env.qual none .none (some X.env)) (λcenv s₄ =>
  codeAny (model X.prog X.w) X.A (.compStart (.ListComp elt [⟨tg,iter,ifs,0⟩] scope pos) 0 (.ref it) acc { cenv with scope:=relabel scope X.env }) (RR acc cenv.locals) s₄) E s₃) E s:=by
 have hfe:∀b∈fp,∃o,s.heap.get? b=some o:=λb hb=>by obtain⟨o,e,_⟩:=T.obj _ _ st b hb;exact⟨o,e⟩
 refine wpAny_newObj_type (ziZ ?_);have hC:(s.heap.push { cls := .type "list",dict:=none,data := .seq ([]:List Value).toArray }).objs.size=s.heap.objs.size+1:=Heap.size_push ..;dsimp only;rw[hC];have I0:Inv (qM X scope N' cl s H fp) [] (mF src σ) H { s with heap:=pushCells ((s.heap.push { cls := .type "list",dict:=none,data := .seq ([]:List Value).toArray }).push { cls := .type "dict",data := .dict #[] }) scope.names } :=
  zmy I hf hfe ok h1 h2
 have vX:oK X scope N' (qM X scope N' cl s H fp):=zkS;obtain⟨hg,ht,he⟩:=hY _ vX;generalize wg:qM X scope N' cl s H fp=Y at I0 vX hg ht he;have eP:Y.prog=X.prog:=vX.prog;have ew:Y.w=X.w:=vX.w;have eA:Y.A=X.A:=vX.A;have eK:Y.K=X.K:=vX.K;have ug:Y.calm=true:=vX.calm.trans hc;have rP:Y.env={ scope:=relabel scope X.env,locals:=s.heap.objs.size+1,globals:=X.env.globals,cells:=cellsFrom (s.heap.objs.size+1+1) scope.names cl,qual:=X.env.qual,func:=none,code:=X.env.code,frame:=X.env.frame,builtins:=X.env.builtins }:=by rw[<-wg];rfl
 have exe:Y.xe=λ_ _=>False:=by rw[<-wg];rfl
 have Gq:Y.fs=frs X.stack:=by rw[<-wg];rfl
 have WY:Y.ex=fp:=by rw[<-wg];rfl
 have Ox:Y.s₀=s:=by rw[<-wg];rfl
 have eH0:Y.H₀=H:=by rw[<-wg];rfl
 have Oz:Y.pn=[]:=by rw[<-wg];rfl
 have eL:Y.env.locals=s.heap.objs.size+1:=by rw[rP]
 rw[<-rP];have wB:∀b∈fp,b<s.heap.objs.size:=λb hb=>by obtain⟨o,e⟩:=hfe b hb;exact cG e
 have hD:∀(τ:L2.St) (H':Hp) (s':Shared) (pn:List (Addr×Obj)),Inv Y pn τ H' s'->∀x c,Y.env.cells.lookup x=some c->c≠s.heap.objs.size:=λτ H' s' pn J' x c e z=>by
  have e':=e;rw[rP] at e';rcases JQ e' with q|⟨_,q⟩
  .have:=(DX (iy q)).1;rw[z] at this;exact absurd (dM (Nat.lt_succ_self _) (Nat.le_trans (Nat.le_succ _) this)) (iw _)
  .obtain⟨v,q'⟩:=I.cell x c (h1 x c q).2;have:=q'.lt;rw[z] at this;exact absurd this (iw _)
 have stat:∀{H':Hp} {pn:List (Addr×Obj)},(∀b∈fp,H' b=none)->(∀p∈pn,p.1=s.heap.objs.size)->∀b∈fp,jY Y pn H' b:=λ{H' pn} hn hp b hb=>by
  refine⟨hn b hb,?_,?_,.inl (by rw[WY];exact hb),λx c e z=>?_,λp hm z=>?_⟩
  .rw[eL];exact dz (Nat.lt_succ_of_lt (wB b hb))
  .rw[Gq];intro z;exact(List.mem_cons.mp (I.stkSub b z)).elim (hf b hb).2.1 (hf b hb).2.2.1
  .subst z;rw[rP] at e;rcases JQ e with q|⟨_,q⟩
   .have:=(DX (iy q)).1;exact absurd (dM (wB c hb) (Nat.le_trans (Nat.le_add_right _ 2) this)) (iw _)
   .exact(hf c hb).2.2.2.2.1 x c (h1 x c q).2 rfl
  .rw[Oz,uD] at hm;have e1:=hp p hm;rw[e1] at z;have:=wB b hb;rw[<-z] at this;exact absurd this (iw _)
 obtain⟨m0,w0⟩:=w0;have loop:∀s₃:Shared,s₃={ s with heap:=pushCells ((s.heap.push { cls := .type "list",dict:=none,data := .seq ([]:List Value).toArray }).push { cls := .type "dict",data := .dict #[] }) scope.names } ->
  codeAny (model X.prog X.w) X.A (.compLoop (.ListComp elt [⟨tg,iter,ifs,0⟩] scope pos) 0 (.ref it) (.ref s.heap.objs.size) Y.env) (RR (.ref s.heap.objs.size) (s.heap.objs.size+1)) s₃:=by
  rintro s₃ rfl
  refine zh4 (λn s'=>∃i ys τ H' its k,Inv Y [(s.heap.objs.size,{ cls := .type "list",data := .seq (List.toArray its) k })] τ H' s'/\Vals ys its/\ys.length<=sizeLine/\tn i s'.heap/\(∀b∈fp,H' b=none)/\W i n ys τ H') ?_ m0 ?_
  .rintro n s3 ⟨i,ys,τ,H3,its,k,I3,rv,hlen,st3,Gp,w3⟩
   have WT:=stat Gp (pn:=[(s.heap.objs.size,{ cls := .type "list",data := .seq (List.toArray its) k })]) (by simp);rcases turn i n ys τ H3 w3 with⟨stop,fin⟩|⟨go,hlt,step⟩
   .have q:=T.done Y eP ew eK ug i _ s3 τ H3 (λ_ _=>False) I3 WT st3 stop;rw[eA] at q;refine bQ q λr s4 ⟨hr,I4⟩=>?_;subst hr;obtain⟨oD,nD,_⟩:=I4.pin (s.heap.objs.size,{ cls := .type "list",data := .seq (List.toArray its) k }) (by rw[Oz];simp);obtain⟨m,hn,_⟩:=I4.loc;rw[eL] at hn;obtain⟨oC,heC,hoC⟩:=LCg.ns_obj hn;have un:=I4.base;rw[Gq,WY,eH0,Ox] at un;have hfresh:s.heap.get? s.heap.objs.size=none:=by
     cases q:s.heap.get? s.heap.objs.size with
     |none=>rfl
     |some o=>exact absurd (cG q) (iw _)
    have hok:=I4.hok;rw[eP,ew] at hok;have hCn:H3 (s.heap.objs.size+1)=none:=by have:=I4.free;rw[eL] at this;exact this
    have I5:Inv X pins σ (upd H3 s.heap.objs.size (.lst ys)) s4:=by refine I.call' (ch:=fp) (by have:=I4.os;rw[Ox] at this;exact this) (Un.track un nD hfresh) (gq.track hok nD ⟨hlen,its,k,rv,oD⟩) I4.bare λb hb=>?_;exact⟨(hf b hb).2.2.2.1,(hf b hb).2.1,(hf b hb).2.2.2.2.1,(hf b hb).2.2.2.2.2⟩
    refine hRR ys H3 s4 oC m nD hoC ?_ fin;refine I5.pins_of λp hp=>?_;rcases lZ.mp hp with z|z
    .exact I5.pin p (List.mem_append_right _ z)
    .have e:p=(s.heap.objs.size+1,oC):=by simpa using z
     subst e;have fo:=I.fpOk (b:=s.heap.objs.size+1) (H':=upd H3 s.heap.objs.size (.lst ys)) (Nat.le_succ _) (by rw[cu (Nat.ne_of_gt (Nat.lt_succ_self _))];exact hCn);obtain⟨es,ep,hd,_⟩:=hoC;exact⟨heC,fo.1,fo.2.1,fo.2.2.1,λv z=>by rw[hd] at z;cases z⟩
   .have q:=T.item Y eP ew eK ug i _ s3 τ H3 (λ_ _=>False) I3 WT st3 go;rw[eA] at q;refine bQ q λr s4 ⟨u,hr,h4⟩=>?_;subst hr;refine bQ h4 λ_ s5 ⟨x,H5,I5,r5,y5,vJ,Ou⟩=>?_;have fo5:=stat Ou (pn:=[(s.heap.objs.size,{ cls := .type "list",data := .seq (List.toArray its) k })]) (by simp);have Pa:=I5.pinned fo5 (T.obj _ _ vJ);have q:=hg _ s5 τ H5 x u _ Pa r5 (step x H5 y5);rw[eP,ew,eA,exe] at q;refine bQ q λ_ s6 ⟨τ6,H6,I6,q6⟩=>?_;have q:=ht _ s6 τ6 H6 _ I6 q6;rw[eP,ew,eA,exe] at q;refine bQ q λb s7 ⟨H7,I7,q7⟩=>?_;have after:∀{τ8:L2.St} {H8:Hp} {s8:Shared},Inv Y ([(s.heap.objs.size,{ cls := .type "list",data := .seq (List.toArray its) k })]++zc fp s5.heap) τ8 H8 s8 ->
     tn (i+1) s8.heap/\(∀b∈fp,H8 b=none)/\s8.heap.get? s.heap.objs.size=some { cls := .type "list",data := .seq (List.toArray its) k }/\H8 s.heap.objs.size=none:=λ{τ8 H8 s8} I8=>by
     have pi:∀b∈fp,∀o,s5.heap.get? b=some o->s8.heap.get? b=some o/\H8 b=none:=λb hb o e=>by have:=I8.pin (b,o) (List.mem_append_right _ (List.mem_append_right _ (J5 hb e)));exact⟨this.1,this.2.1⟩
     have pd:=I8.pin (s.heap.objs.size,{ cls := .type "list",data := .seq (List.toArray its) k }) (List.mem_append_right _ (List.mem_append_left _ (by simp)));refine⟨T.keep _ _ _ vJ λb hb o e=>(pi b hb o e).1,λb hb=>?_,pd.1,pd.2.1⟩;obtain⟨o,e,d⟩:=T.obj _ _ vJ b hb;exact(pi b hb o e).2
    cases b with
    |false =>
     rw[if_neg gA];rw[if_neg gA] at q7;obtain⟨m',hm,w7⟩:=q7;obtain⟨a1,a2,_,_⟩:=after I7;exact⟨m',hm,i+1,ys,τ6,H7,its,k,I7.unpinned,rv,hlen,a1,a2,w7⟩
    |true =>
     rw[if_pos rfl];rw[if_pos rfl] at q7;have q:=he _ s7 τ6 H7 _ I7 q7;rw[eP,ew,eA,exe] at q;refine bQ q λv s8 ⟨y,H8,I8,r8,m',hm,w8⟩=>?_;obtain⟨a1,a2,aD,nD⟩:=after I8;refine append_at (hsz:=by rw[dU,<-rv.length];exact hlen) aD λh9 Wv e9=>?_;have hne:s.heap.objs.size≠Y.env.locals:=by rw[eL];exact dz (Nat.lt_succ_self _)
     have I8':Inv Y [] τ6 H8 s8:=I8.pins_of λp hp=>absurd hp (by simp);have I9:Inv Y [] τ6 H8 { s8 with heap:=h9 }:=I8'.turned (t':=s8.toks) (λb o hb e=>Wv.extBut b o hb e) nD hne (.inr (by rw[Ox];exact bZ _)) (λx c e=>hD _ _ _ _ I8 x c e) (by rw[Oz];simp);have I10:Inv Y [(s.heap.objs.size,{ cls := .type "list",data := .seq (List.toArray (its++[v])) (k+1) })] τ6 H8 { s8 with heap:=h9 }:=I9.pins_of λp hp=>by
      have e:p=(s.heap.objs.size,{ cls := .type "list",data := .seq (List.toArray (its++[v])) (k+1) }):=by simpa using hp
      subst e;refine⟨by rw[<-List.push_toArray];exact e9,nD,hne,?_,λv z=>by cases z⟩;rw[Gq];intro z;rcases List.mem_cons.mp (I.stkSub _ z) with z|z
      .exact absurd I.lt (by rw[<-z];exact iw _)
      .exact I.nofs (bZ _) z
     refine⟨m',hm,i+1,ys++[y],τ6,H8,its++[v],k+1,I10,rv.append (.cons r8 .nil),by rw[lH];exact hlt,?_,a2,w8⟩;exact T.keep _ _ _ a1 λb hb o e=>Wv.extBut b o (dz (wB b hb)) e
  .refine⟨0,[],mF src σ,H,[],0,?_,.nil,Nat.zero_le _,?_,λb hb=>(hf b hb).1,w0⟩
   .refine I0.pins_of λp hp=>?_;have e:p=(s.heap.objs.size,{ cls := .type "list",data := .seq (List.toArray []) 0 }):=by simpa using hp
    subst e;refine⟨pushCells_keeps _ _ _ _ (dm _ (gw _ rfl)),I.hok.fresh (bZ _),by rw[eL];exact dz (Nat.lt_succ_self _),?_,λv z=>by cases z⟩;rw[Gq];intro z;rcases List.mem_cons.mp (I.stkSub _ z) with z|z
    .exact absurd I.lt (by rw[<-z];exact iw _)
    .exact I.nofs (bZ _) z
   .exact T.keep _ _ _ st λb hb o e=>pushCells_keeps _ _ _ _ (dm _ (dm _ e))
 exact codeAny_compStart_list (loop _ rfl) (T.self _ 0 _ _ _ (T.keep _ _ _ st λb hb o e=>pushCells_keeps _ _ _ _ (dm _ (dm _ e))) (loop _ rfl))
noncomputable def tLc(wi:TI)(g:TG)(tt:TT)(te:TE)(src:List (Option Nat)):TE:=λσ H Q=>wi σ H λJ H1=>∃W,(∃m,W 0 m [] (mF src σ) H1) /\
 Gx J g tt te (λys H'=>∀p,H' p=none->Q (.ref p) (upd H' p (.lst ys))) W
section
variable {X:Cx}{elt tg iter:Expr}{ifs:List Expr}{scope:Scope}{pos:Pos}{N':List Str}{src:List (Option Nat)}{wi:TI}{g:TG}{tt:TT}{te:TE}
def Rm(ok:qL X scope N' src){pins:List (Addr×Obj)}{σ:L2.St}{H:Hp}{s:Shared}(I:Inv X pins σ H s):∃cl,closureFor scope X.env=pure cl /\
 (∀x c,cl.lookup x=some c->(x,NameKind.free)∈scope.names/\X.env.cells.lookup x=some c)/\∀x,(x,NameKind.free)∈scope.names->∃c,cl.lookup x=some c :=
 ZQ (scope:=scope) (env:=X.env) λy hy e=>I.ok.has y.1 (ok.free y hy e)
theorem Yh(hc:X.calm=true)(ok:qL X scope N' src)(hi:PI X tg iter wi)(hY:∀Y,oK X scope N' Y->PG Y tg g/\wU Y ifs tt/\PE Y elt te)(hs:∀x,foldedSetIterable iter X.env x=pure x):PE X (.ListComp elt [⟨tg,iter,ifs,0⟩] scope pos) (tLc wi g tt te src):=by intro pins s σ H Q I h;obtain⟨cl,hclos,h1,h2⟩:=Rm ok I;rw[eval_ListComp];refine wpAny_comprehension_free (use:=none) rfl hs hclos ok.kind (λy hy e=>by rw[ok.uniq y hy,e]) ?_;refine bQ (hi pins s σ H _ I h) λv s1 q1=>bQ q1 λitv s2 q2=>?_;obtain⟨it,fp,tn,J,H2,e,I2,T,st2,f2,W,w0,turn⟩:=q2;subst e;refine Tp (RR:=λacc C=>compPost (model X.prog X.w) X.A X.xe none (EP X pins σ Q) acc C) hc ok I2 T st2 f2 h1 h2 hY w0 turn ?_;intro ys H' s' oC m nD hoC I3 fin;obtain⟨heC,nC,t7,nfC,dC⟩:=I3.pin (s2.heap.objs.size+1,oC) (List.mem_append_right _ (List.mem_append_right _ (by simp)));refine⟨m,hoC.ns heC,λh'' sb=>⟨.ref s2.heap.objs.size,_,?_,rfl,fin _ nD⟩⟩;have I4:Inv X pins σ (upd H' s2.heap.objs.size (.lst ys)) s':=I3.unpinned;have fo:=I2.fpOk (b:=s2.heap.objs.size+1) (H':=upd H' s2.heap.objs.size (.lst ys)) (Nat.le_succ _) nC;exact I4.turned (t':=s'.toks) (λb o hb e=>sb.extBut b o hb e) nC fo.2.1 fo.2.2.2.1 fo.2.2.2.2.1 fo.2.2.2.2.2
noncomputable def M5(wi:TI)(g:TG)(tt:TT)(te:TE)(src:List (Option Nat))(i:Nat):TS:=λD σ H=>wi σ H λJ H1=>∃W,(∃m,W 0 m [] (mF src σ) H1) /\
 Gx J g tt te (λys H'=>∀p,H' p=none->D.nx (σ.set i (some (.ref p))) (upd H' p (.lst ys))) W
theorem zl8{y:Str}{py spos:Pos}{i:Nat}(hN:X.N.Nodup)(Oc:X.N[i]?=some y)(hy:X.env.kindOf y=some .local)(hsw:swapsWith (.ListComp elt [⟨tg,iter,ifs,0⟩] scope pos) (some (.Name y py)) spos.line X.env=pure true)(hc:X.calm=true)(ok:qL X scope N' src)(hi:PI X tg iter wi)(hY:∀Y,oK X scope N' Y->PG Y tg g/\wU Y ifs tt/\PE Y elt te)(hs:∀x,foldedSetIterable iter X.env x=pure x):PS X (.Assign [.Name y py] (.ListComp elt [⟨tg,iter,ifs,0⟩] scope pos) spos) (M5 wi g tt te src i):=by
 intro pins s σ H D I h;obtain⟨cl,hclos,h1,h2⟩:=Rm ok I;rw[exec_Assign_Name_used _ _ _ _ hsw];refine aO (wpAny_standAt (aO ?_));show wpAny _ _ (do let _ <-comprehension (.ListComp elt [⟨tg,iter,ifs,0⟩] scope pos) scope X.env _ (newList []) false (eval iter X.env) (some (assign (.Name y py) X.env))) _ _ s;refine aO (jO (wpAny_comprehension_free (use:=some (assign (.Name y py) X.env)) (Q:=λ_ s'=>SP X pins D .next s') rfl hs hclos ok.kind (λy hy e=>by rw[ok.uniq y hy,e])
  ?_) (λ_ s' hq=>b7 (b7 hq)) λ_ _ e=>e)
 refine bQ (hi pins s σ H _ I h) λv s1 q1=>bQ q1 λitv s2 q2=>?_;obtain⟨it,fp,tn,J,H2,e,I2,T,st2,f2,W,w0,turn⟩:=q2;subst e;refine Tp (RR:=λacc C=>compPost (model X.prog X.w) X.A X.xe (some (assign (.Name y py) X.env)) (λ_ s'=>SP X pins D .next s') acc C) hc ok I2 T st2 f2 h1 h2 hY w0 turn ?_;intro ys H' s' oC m nD hoC I3 fin;show wpAny _ _ (assign (.Name y py) X.env (.ref s2.heap.objs.size)) _ _ s';refine wpAny_assign_Name (yd I3 hN Oc (.inl hy) (v := .ref s2.heap.objs.size) rfl (λs3 I4=>?_) (.inr hy));obtain⟨heC,nC,t7,nfC,dC⟩:=I4.pin (s2.heap.objs.size+1,oC) (List.mem_append_right _ (List.mem_append_right _ (by simp)));refine⟨m,hoC.ns heC,λh'' sb=>⟨_,_,?_,fin _ nD⟩⟩;have I5:Inv X pins _ (upd H' s2.heap.objs.size (.lst ys)) s3:=I4.unpinned;have fo:=I2.fpOk (b:=s2.heap.objs.size+1) (H':=upd H' s2.heap.objs.size (.lst ys)) (Nat.le_succ _) nC;exact I5.turned (t':=s3.toks) (λb o hb e=>sb.extBut b o hb e) nC fo.2.1 fo.2.2.2.1 fo.2.2.2.2.1 fo.2.2.2.2.2
end
noncomputable abbrev TF:=Sg->So->Option (Bool×So)
noncomputable abbrev AF:=Sg->So->Option (List D×So)
inductive Fl where
 |nx|bk|ct|rt (d:D)
noncomputable abbrev SF:=Sg->So->Option (Fl×Sg×So)
noncomputable abbrev GF:=D->Sg->So->Option (Sg×So)
def Kb(K:FgA)(H:Hp)(α:List Addr)(S':So)(Q:Hp->Prop):Prop:=∀H' α',aB K H' α' S'->Ext K H α H' α'->Q H'
noncomputable def Bf(K:FgA)(f:TF):TT:=λσ H Q=>∃σd S α b S',bH K H α σd σ/\aB K H α S/\f σd S=some (b,S')/\Kb K H α S' (Q b)
def ST(X:Cx)(e:Expr)(f:TF):Prop:=PT X e (Bf X.K f)
def SW(X:Cx)(e:Expr)(f:TF):Prop:=PW X e (Bf X.K f)
noncomputable def Wx(K:FgA)(f:AF):TA:=λσ H Q=>∃σd S α ds S',bH K H α σd σ/\aB K H α S/\f σd S=some (ds,S')/\∀vs H' α',aB K H' α' S'->Ext K H α H' α'->aH K H' α' ds vs->Q vs H'
def SA(X:Cx)(es:List Expr)(f:AF):Prop:=PA X es (Wx X.K f)
noncomputable def Ks(K:FgA)(H:Hp)(α:List Addr)(fl:Fl)(σd':Sg)(S':So)(D:uP):Prop :=
 ∀σ' H' α',bH K H' α' σd' σ'->aB K H' α' S'->Ext K H α H' α'->match fl with
  |.nx=>D.nx σ' H'
  |.bk=>D.bk σ' H'
  |.ct=>D.ct σ' H'
  |.rt d=>∀v,Rep K H' α' d v->D.rt v H'
noncomputable def Bg(K:FgA)(f:SF):TS:=λD σ H=>∃σd S α fl σd' S',bH K H α σd σ/\aB K H α S/\f σd S=some (fl,σd',S')/\Ks K H α fl σd' S' D
def SS(X:Cx)(st:Stmt)(f:SF):Prop:=PS X st (Bg X.K f)
def uw(X:Cx)(sts:List Stmt)(f:SF):Prop:=jM X sts (Bg X.K f)
noncomputable def Np(K:FgA)(f:GF):TG:=λv σ H Q=>∃σd S α d σd' S',bH K H α σd σ/\aB K H α S/\Rep K H α d v/\f d σd S=some (σd',S') /\
 ∀σ' H' α',bH K H' α' σd' σ'->aB K H' α' S'->Ext K H α H' α'->Q σ' H'
def SG(X:Cx)(tg:Expr)(f:GF):Prop:=PG X tg (Np X.K f)
def PT.imp{X:Cx}{e:Expr}{t t':TT}(h:PT X e t)(k:∀σ H Q,t' σ H Q->t σ H Q):PT X e t':=λpins s σ H Q I q=>h pins s σ H Q I (k σ H Q q)
def PW.imp{X:Cx}{e:Expr}{t t':TT}(h:PW X e t)(k:∀σ H Q,t' σ H Q->t σ H Q):PW X e t':=λwh pins s σ H Q I q=>h wh pins s σ H Q I (k σ H Q q)
def PA.imp{X:Cx}{e:List Expr}{t t':TA}(h:PA X e t)(k:∀σ H Q,t' σ H Q->t σ H Q):PA X e t':=λpos pins s σ H Q I q=>h pos pins s σ H Q I (k σ H Q q)
def PS.imp{X:Cx}{e:Stmt}{t t':TS}(h:PS X e t)(k:∀D σ H,t' D σ H->t D σ H):PS X e t':=λpins s σ H D I q=>h pins s σ H D I (k D σ H q)
def jM.imp{X:Cx}{e:List Stmt}{t t':TS}(h:jM X e t)(k:∀D σ H,t' D σ H->t D σ H):jM X e t':=λpins s σ H D I q=>h pins s σ H D I (k D σ H q)
def PG.imp{X:Cx}{e:Expr}{t t':TG}(h:PG X e t)(k:∀v σ H Q,t' v σ H Q->t v σ H Q):PG X e t':=λpins s σ H v u Q I r q=>h pins s σ H v u Q I r (k v σ H Q q)
def PI.imp{X:Cx}{tg e:Expr}{t t':TI}(h:PI X tg e t)(k:∀σ H Q,t' σ H Q->t σ H Q):PI X tg e t':=λpins s σ H Q I q=>h pins s σ H Q I (k σ H Q q)
noncomputable def aj(i:Nat):EF:=λσ S=>match σ[i]? with
 |some (some d)=>some (d,S)
 |_=>none
noncomputable def eC(d:D):EF:=λ_ S=>some (d,S)
noncomputable def eB(g:G2)(fa fb:EF):EF:=λσ S=>(fa σ S).bind λr=>(fb σ r.2).bind λq=>g r.1 q.1 q.2
noncomputable def eU(g:D->So->Option (D×So))(fa:EF):EF:=λσ S=>(fa σ S).bind λr=>g r.1 r.2
noncomputable def aA:AF:=λ_ S=>some ([],S)
noncomputable def ak(fa:EF)(fr:AF):AF:=λσ S=>(fa σ S).bind λr=>(fr σ r.2).bind λq=>some (r.1::q.1,q.2)
noncomputable def eN(g:GN)(fa:AF):EF:=λσ S=>(fa σ S).bind λr=>g r.1 r.2
noncomputable def uh(t:TF)(fa fb:EF):EF:=λσ S=>(t σ S).bind λr=>if r.1=true then fa σ r.2 else fb σ r.2
noncomputable def cD:GN:=λds S=>if ds.length<=sizeLine then some (.tup ds,S) else none
noncomputable def iB:GN:=λds S=>if ds.length<=sizeLine then some (.ref S.length,S++[.lst ds]) else none
section
variable {X:Cx}{a b:Expr}{fa fb:EF}{pos:Pos}
theorem zp3{i:Nat}{x:Str}(hN:X.N[i]?=some x)(hv:Gu X.env.scope x)(hd:(x==("__debug__" : Str))=false)(hcd:(x==("__classdict__" : Str))=false):SE X (.Name x pos) (aj i):=by
 refine PE.imp (Yp hN hv hd hcd) λσ H Q h=>?_;obtain⟨σd,S,α,z,S',hv,hs,hf,k⟩:=h;unfold aj at hf;split at hf
 .rename_i d e;cases hf;obtain⟨v,h1,h2⟩:=hv.2 i _ e;exact⟨v,h1,k.same hs h2⟩
 .cases hf
theorem oY{e:Expr}{d:D}{v:V}(h:PE X e (tC v))(r:∀H α,Rep X.K H α d v):SE X e (eC d):=by refine PE.imp h λσ H Q h=>?_;obtain⟨σd,S,α,z,S',hv,hs,hf,k⟩:=h;cases hf;exact k.same hs (r _ _)
def YL{i:Int}{j}:SE X (.Constant (.int i) j pos) (eC (.int i)):=oY Zf λ_ _ => .int i
def Xb{i:Bool}{j}:SE X (.Constant (.bool i) j pos) (eC (.bl i)):=oY Yd λ_ _ => .bl i
def zp7{j}:SE X (.Constant .none j pos) (eC .non):=oY Zh λ_ _ => .non
def zp5{x:Str}{j}:SE X (.Constant (.str x) j pos) (eC (.str x)):=oY Yn λ_ _ => .str x
theorem Gh{K:FgA}{g:G2}{σ:L2.St}{H:Hp}{Q:VK}(h:vN K (eB g fa fb) σ H Q):vN K fa σ H λx H1=>vN K fb σ H1 λy H2=>oh K g x y H2 Q:=by obtain⟨σd,S,α,z,S',hv,hs,hf,k⟩:=h;unfold eB at hf;simp only[bf] at hf;obtain⟨⟨x,S1⟩,e1,⟨y,S2⟩,e2,e3⟩:=hf;refine⟨σd,S,α,x,S1,hv,hs,e1,λv H1 α1 s1 x1 r1=>⟨σd,S1,α1,y,S2,hv.mono x1,s1,e2,λu H2 α2 s2 x2 r2=>?_⟩⟩;exact⟨S2,α2,x,y,z,S',s2,r1.mono x2,r2,e3,k.trans (x1.trans x2)⟩
def Xg{op:Operator}(ha:SE X a fa)(hb:SE X b fb):SE X (.BinOp a op b pos) (eB (aP op) fa fb) :=
 PE.imp (Yi (zoE op) ha hb) λ_ _ _ h=>Gh h
def YJ{op:CmpOp}(hu:X.A.units+64<cLine)(h1:op ≠ .In)(h2:op ≠ .NotIn)(ha:SE X a fa)(hb:SE X b fb):SE X (.Compare a [op] [b] pos) (eB (aW op) fa fb) :=
 PE.imp (zop (Q9 hu op) ha hb (Pu b h1 h2)) λ_ _ _ h=>Gh h
def Xd(hp:Hh b)(ha:SE X a fa)(hb:SE X b fb):SE X (.Subscript a b pos) (eB aJ fa fb) :=
 PE.imp (Yg ixs ha hb hp) λ_ _ _ h=>Gh h
noncomputable def uK:D->So->Option (D×So)
 |.int i,S=>some (.int (-i),S)
 |_,_=>none
theorem zp8(ha:SE X a fa):SE X (.UnaryOp .USub a pos) (eU uK fa):=by
 refine PE.imp (Yk ZF ha) λσ H Q h=>?_;obtain⟨σd,S,α,z,S',hv,hs,hf,k⟩:=h;unfold eU at hf;simp only[bf] at hf;obtain⟨⟨x,S1⟩,e1,e2⟩:=hf;refine⟨σd,S,α,x,S1,hv,hs,e1,λv H1 α1 s1 x1 r1=>?_⟩;cases r1 with
 |int i=>cases e2;exact⟨_,rfl,(k.trans x1).same s1 (.int _)⟩
 |_=>cases e2
def YG:SA X [] aA:=by refine PA.imp Zb λσ H Q h=>?_;obtain⟨σd,S,α,ds,S',hv,hs,hf,k⟩:=h;cases hf;exact k _ _ _ hs Ext.refl .nil
theorem zn7{e:Expr}{es:List Expr}{fe:EF}{fr:AF}(ha:SE X e fe)(hr:SA X es fr)(hst:starEach (e::es) X.env=(false,eval e X.env)::starEach es X.env):SA X (e::es) (ak fe fr):=by refine PA.imp (zos ha hr hst) λσ H Q h=>?_;obtain⟨σd,S,α,ds,S',hv,hs,hf,k⟩:=h;unfold ak at hf;simp only[bf] at hf;obtain⟨⟨x,S1⟩,e1,⟨ys,S2⟩,e2,e3⟩:=hf;cases e3;exact⟨σd,S,α,x,S1,hv,hs,e1,λv H1 α1 s1 x1 r1=>⟨σd,S1,α1,ys,_,hv.mono x1,s1,e2,λvs H2 α2 s2 x2 r2=>k _ _ _ s2 (x1.trans x2) (.cons (r1.mono x2) r2)⟩⟩
theorem Bh{K:FgA}{g:GN}{fa:AF}{σ:L2.St}{H:Hp}{Q:VK}(h:vN K (eN g fa) σ H Q):Wx K fa σ H λvs H1=>jB K g vs H1 Q:=by obtain⟨σd,S,α,z,S',hv,hs,hf,k⟩:=h;unfold eN at hf;simp only[bf] at hf;obtain⟨⟨ds,S1⟩,e1,e2⟩:=hf;exact⟨σd,S,α,ds,S1,hv,hs,e1,λvs H1 α1 s1 x1 r1=>⟨S1,α1,ds,z,S',s1,r1,e2,k.trans x1⟩⟩
theorem zp4{es:List Expr}{fs:AF}{k0}(h:SA X es fs):SE X (.Tuple es k0 pos) (eN cD fs):=by
 refine PE.imp (Yo h) λσ H Q q=>?_;obtain⟨σd,S,α,ds,S1,hv,hs,e1,k⟩:=Bh q;refine⟨σd,S,α,ds,S1,hv,hs,e1,λvs H1 α1 s1 x1 r1=>?_⟩;obtain⟨S2,α2,ds',z,S3,s2,r2,e2,k2⟩:=k vs H1 α1 s1 x1 r1;unfold cD at e2;split at e2
 .rename_i hl;cases e2;refine⟨by rw[<-r2.length];exact hl,λp hp=>?_⟩;exact k2.new s2 (lO hp) (.tup (dR.of fJ) (r2.mono (Same.ext (lO hp))))
 .cases e2
theorem YM{es:List Expr}{fs:AF}(h:SA X es fs):SE X (.List es pos) (eN iB fs):=by
 refine PE.imp (Zg h) λσ H Q q=>?_;obtain⟨σd,S,α,ds,S1,hv,hs,e1,k⟩:=Bh q;refine⟨σd,S,α,ds,S1,hv,hs,e1,λvs H1 α1 s1 x1 r1=>?_⟩;obtain⟨S2,α2,ds',z,S3,s2,r2,e2,k2⟩:=k vs H1 α1 s1 x1 r1;unfold iB at e2;split at e2
 .rename_i hl;cases e2;refine⟨by rw[<-r2.length];exact hl,λp hp=>?_⟩;obtain⟨s',e'⟩:=s2.snoc (p:=p) (o := .lst ds') (u := .lst vs) hp λα' e=>⟨_,fJ,r2.mono e⟩
  exact k2 _ _ _ s' e' (.ref (by rw[<-s2.len];simp))
 .cases e2
noncomputable def qY:D->So->Option Bool
 |.non,_=>some false
 |.bl b,_=>some b
 |.int i,_=>some (i != 0)
 |.str x,_=>if x.length<=sizeLine then some ((x.length:Int) != 0) else none
 |.tup xs,_=>some (!xs.isEmpty)
 |.ref n,S=>match S[n]? with
  |some (.lst xs)=>some (!xs.isEmpty)
  |some (.frz xs)=>some (!xs.isEmpty)
  |_=>none
 |_,_=>none
def Kz{K:FgA}{H:Hp}{α:List Addr}{ds:List D}{vs:List V}(r:aH K H α ds vs):(!ds.isEmpty) = !vs.isEmpty:=by cases r<;>rfl
theorem znx{K:FgA}{H:Hp}{α:List Addr}{S:So}{d:D}{v:V}{b:Bool}(hs:aB K H α S)(r:Rep K H α d v)(e:qY d S=some b):wQ K v H b:=by
 cases r with
 |non=>cases e;exact rfl
 |bl b=>cases e;exact rfl
 |int i=>cases e;exact rfl
 |str x =>
  have e':(if x.length<=sizeLine then some ((x.length:Int) != 0) else none)=some b:=e;split at e'
  .rename_i hl;cases e';exact⟨hl,rfl⟩
  .cases e'
 |tup h r=>cases e;exact .inr (.inl ⟨_,h,Kz r⟩)
 |@ref n a h =>
  simp only[qY] at e;cases hm:S[n]? with
  |none=>simp[hm] at e
  |some o =>
   simp only[hm] at e;have hob:=hs.obj _ _ _ hm h;cases o with
   |lst xs =>
    cases e;obtain⟨vs,h1,r⟩:=hob;exact .inl ⟨_,dG.of h1,Kz r⟩
   |frz xs =>
    cases e;obtain⟨vs,h1,r⟩:=hob;exact .inl ⟨_,h1.sq,Kz r⟩
   |ins C fs=>cases e
   |dct xs=>cases e
   |tbl x=>cases e
 |ty n=>cases e
 |adr a=>cases e
 |obj _ _ _ _ _=>cases e
noncomputable def ju(fa:EF):TF:=λσ S=>(fa σ S).bind λr=>(qY r.1 r.2).map λb=>(b,r.2)
theorem zpL(ha:SE X a fa)(he:∀whole,isTrue a X.env whole=(do let v <-whole;standAt a.pos;holding [v] (truthy v))):ST X a (ju fa):=by refine PT.imp (zl5 ha he) λσ H Q h=>?_;obtain⟨σd,S,α,b,S',hv,hs,hf,k⟩:=h;unfold ju at hf;simp only[bf,aX] at hf;obtain⟨⟨x,S1⟩,e1,c,e2,e3⟩:=hf;cases e3;exact⟨σd,S,α,x,S1,hv,hs,e1,λv H1 α1 s1 x1 r1=>⟨b,znx s1 r1 e2,k _ _ s1 x1⟩⟩
noncomputable def bG(fa:EF):TF:=λσ S=>(fa σ S).bind λr=>match r.1 with
 |.bl b=>some (b,r.2)
 |_=>none
theorem zpN{op:CmpOp}(hu:X.A.units+64<cLine)(h1:op ≠ .In)(h2:op ≠ .NotIn)(ha:SE X a fa)(hb:SE X b fb):ST X (.Compare a [op] [b] pos) (bG (eB (aW op) fa fb)):=by
 refine PT.imp (zob (Q9 hu op) ha hb (Pu b h1 h2)) λσ H Q h=>?_;obtain⟨σd,S,α,c,S',hv,hs,hf,k⟩:=h;unfold bG at hf;simp only[bf] at hf;obtain⟨⟨z,S1⟩,e1,e2⟩:=hf;cases z with
 |bl c' =>
  cases e2;exact Gh ⟨σd,S,α,.bl c,_,hv,hs,e1,λv H1 α1 s1 x1 r1=>by cases r1;exact⟨c,rfl,k _ _ s1 x1⟩⟩
 |_=>cases e2
noncomputable def pW(t:TF):TF:=λσ S=>(t σ S).map λr=>(!r.1,r.2)
theorem zpM{t:TF}(ha:ST X a t):ST X (.UnaryOp .Not a pos) (pW t):=by refine PT.imp (Yz ha) λσ H Q h=>?_;obtain⟨σd,S,α,c,S',hv,hs,hf,k⟩:=h;unfold pW at hf;simp only[aX] at hf;obtain⟨⟨b,S1⟩,e1,e2⟩:=hf;cases e2;exact⟨σd,S,α,b,S1,hv,hs,e1,k⟩
noncomputable def xq(t u:TF):TF:=λσ S=>(t σ S).bind λr=>if r.1=true then u σ r.2 else some (false,r.2)
noncomputable def iM(t u:TF):TF:=λσ S=>(t σ S).bind λr=>if r.1=true then some (true,r.2) else u σ r.2
def znB{t:TF}(ha:ST X a t):SW X (.BoolOp .And [a] pos) t:=zn8 ha
def zpJ{t:TF}(ha:ST X a t):SW X (.BoolOp .Or [a] pos) t:=YD ha
theorem zpK{t u:TF}{rest:List Expr}(ha:ST X a t)(hb:SW X (.BoolOp .And (b::rest) pos) u):SW X (.BoolOp .And (a::b::rest) pos) (xq t u):=by
 refine PW.imp (YC ha hb) λσ H Q h=>?_;obtain⟨σd,S,α,c,S',hv,hs,hf,k⟩:=h;unfold xq at hf;simp only[bf] at hf;obtain⟨⟨b1,S1⟩,e1,e2⟩:=hf;refine⟨σd,S,α,b1,S1,hv,hs,e1,λH1 α1 s1 x1=>?_⟩;cases b1 with
 |true =>
  rw[if_pos rfl];rw[if_pos rfl] at e2;exact⟨σd,S1,α1,c,S',hv.mono x1,s1,e2,λH2 α2 s2 x2=>k _ _ s2 (x1.trans x2)⟩
 |false =>
  rw[if_neg gA];rw[if_neg gA] at e2;cases e2;exact k _ _ s1 x1
theorem Xk{t u:TF}{rest:List Expr}(ha:ST X a t)(hb:SW X (.BoolOp .Or (b::rest) pos) u):SW X (.BoolOp .Or (a::b::rest) pos) (iM t u):=by
 refine PW.imp (Ym ha hb) λσ H Q h=>?_;obtain⟨σd,S,α,c,S',hv,hs,hf,k⟩:=h;unfold iM at hf;simp only[bf] at hf;obtain⟨⟨b1,S1⟩,e1,e2⟩:=hf;refine⟨σd,S,α,b1,S1,hv,hs,e1,λH1 α1 s1 x1=>?_⟩;cases b1 with
 |true =>
  rw[if_pos rfl];rw[if_pos rfl] at e2;cases e2;exact k _ _ s1 x1
 |false =>
  rw[if_neg gA];rw[if_neg gA] at e2;exact⟨σd,S1,α1,c,S',hv.mono x1,s1,e2,λH2 α2 s2 x2=>k _ _ s2 (x1.trans x2)⟩
theorem Xc{c:Expr}{t:TF}(hc:ST X c t)(ha:SE X a fa)(hb:SE X b fb):SE X (.IfExp c a b pos) (uh t fa fb):=by
 refine PE.imp (zmh hc ha hb) λσ H Q h=>?_;obtain⟨σd,S,α,z,S',hv,hs,hf,k⟩:=h;unfold uh at hf;simp only[bf] at hf;obtain⟨⟨b1,S1⟩,e1,e2⟩:=hf;refine⟨σd,S,α,b1,S1,hv,hs,e1,λH1 α1 s1 x1=>?_⟩;cases b1 with
 |true =>
  rw[if_pos rfl];rw[if_pos rfl] at e2;exact⟨σd,S1,α1,z,S',hv.mono x1,s1,e2,k.trans x1⟩
 |false =>
  rw[if_neg gA];rw[if_neg gA] at e2;exact⟨σd,S1,α1,z,S',hv.mono x1,s1,e2,k.trans x1⟩
noncomputable def uH(fa:EF):EF:=λσ S=>(fa σ S).bind λr=>match r.1 with
 |.bl b=>some (.bl (!b),r.2)
 |_=>none
theorem zp6(ha:SE X a fa):SE X (.UnaryOp .Not a pos) (uH fa):=by
 refine PE.imp (Zi ha) λσ H Q h=>?_;obtain⟨σd,S,α,z,S',hv,hs,hf,k⟩:=h;unfold uH at hf;simp only[bf] at hf;obtain⟨⟨x,S1⟩,e1,e2⟩:=hf;refine⟨σd,S,α,x,S1,hv,hs,e1,λv H1 α1 s1 x1 r1=>?_⟩;cases r1 with
 |bl c=>cases e2;exact⟨c,rfl,(k.trans x1).same s1 (.bl _)⟩
 |_=>cases e2
noncomputable def m7(fa fb:EF):EF:=λσ S=>(fa σ S).bind λr=>match r.1 with
 |.bl true=>fb σ r.2
 |.bl false=>some (.bl false,r.2)
 |_=>none
noncomputable def qp(fa fb:EF):EF:=λσ S=>(fa σ S).bind λr=>match r.1 with
 |.bl true=>some (.bl true,r.2)
 |.bl false=>fb σ r.2
 |_=>none
def zl3{op}(ha:SE X a fa):SE X (.BoolOp op [a] pos) fa:=Zj ha
theorem YH{rest:List Expr}(ha:SE X a fa)(hb:SE X (.BoolOp .And (b::rest) pos) fb):SE X (.BoolOp .And (a::b::rest) pos) (m7 fa fb):=by
 refine PE.imp (Zc ha hb) λσ H Q h=>?_;obtain⟨σd,S,α,z,S',hv,hs,hf,k⟩:=h;unfold m7 at hf;simp only[bf] at hf;obtain⟨⟨x,S1⟩,e1,e2⟩:=hf;refine⟨σd,S,α,x,S1,hv,hs,e1,λv H1 α1 s1 x1 r1=>?_⟩;cases r1 with
 |bl c =>
  refine⟨c,rfl,?_⟩;cases c with
  |true=>rw[if_pos rfl];exact⟨σd,S1,α1,z,S',hv.mono x1,s1,e2,k.trans x1⟩
  |false=>rw[if_neg gA];cases e2;exact(k.trans x1).same s1 (.bl _)
 |_=>cases e2
theorem Xh{rest:List Expr}(ha:SE X a fa)(hb:SE X (.BoolOp .Or (b::rest) pos) fb):SE X (.BoolOp .Or (a::b::rest) pos) (qp fa fb):=by
 refine PE.imp (Yj ha hb) λσ H Q h=>?_;obtain⟨σd,S,α,z,S',hv,hs,hf,k⟩:=h;unfold qp at hf;simp only[bf] at hf;obtain⟨⟨x,S1⟩,e1,e2⟩:=hf;refine⟨σd,S,α,x,S1,hv,hs,e1,λv H1 α1 s1 x1 r1=>?_⟩;cases r1 with
 |bl c =>
  refine⟨c,rfl,?_⟩;cases c with
  |false=>rw[if_neg gA];exact⟨σd,S1,α1,z,S',hv.mono x1,s1,e2,k.trans x1⟩
  |true=>rw[if_pos rfl];cases e2;exact(k.trans x1).same s1 (.bl _)
 |_=>cases e2
end
noncomputable def sJ(K:FgA)(n:Nat)(φ:GN):Sp:=λvs H Q _=>vs.length=n/\jB K φ vs H Q
def uy(X:Cx)(x:Str)(n:Nat)(φ:GN):Prop:=∃f fd ps k,X.mg x=some (.ref f)/\PySem.W.keepIn X.K (.ref f)=true/\Binds X.K fd ps [] /\
 cW X.prog X.w X.K X.mg X.base iu k f fd ps (sJ X.K n φ)/\bI k X.A
section
variable {X:Cx}{x:Str}{p pos:Pos}{es:List Expr}{fs:AF}
noncomputable def aR(n:Nat)(φ:GN):GN:=λds S=>if ds.length=n then φ ds S else none
theorem zn6{e:Expr}{n:Nat}{φ:GN}(hg:Gl X x)(hF:uy X x n φ)(ha:SA X (e::es) fs)(hdb:(x==("__debug__" : Str))=false)(he:starEach (e::es) X.env=(false,eval e X.env)::starEach es X.env)(hpl:(backTo pos (starEach es X.env)).any (·.1)=false):SE X (.Call (.Name x p) (e::es) [] pos) (eN (aR n φ) fs):=by
 obtain⟨f,fd,ps,k,hm,hk,hb,F,hr⟩:=hF;refine PE.imp (zoq F hr hg hm hk hb .nil Dm ha hdb he hpl) λσ H Q h=>?_;obtain⟨σd,S,α,ds,S1,hv,hs,e1,k⟩:=Bh h;refine⟨σd,S,α,ds,S1,hv,hs,e1,λvs H1 α1 s1 x1 r1=>?_⟩;obtain⟨S2,α2,ds',z,S3,s2,r2,e2,k2⟩:=k vs H1 α1 s1 x1 r1;unfold aR at e2;split at e2
 .rename_i hl;rw[List.append_nil];exact⟨by rw[<-r2.length];exact hl,S2,α2,ds',z,S3,s2,r2,e2,k2⟩
 .cases e2
theorem zl2{e:Expr}{id:String}{g:GN}(hc:gY X (.builtin id) (jB X.K g))(hg:Gl X x)(hm:X.mg x=none)(hv:bootBuiltins x=some (.builtin id))(ha:SA X (e::es) fs)(hn:x ≠ "__name__")(hdb:(x==("__debug__" : Str))=false)(he:starEach (e::es) X.env=(false,eval e X.env)::starEach es X.env)(hpl:(backTo pos (starEach es X.env)).any (·.1)=false):SE X (.Call (.Name x p) (e::es) [] pos) (eN g fs) :=
 PE.imp (zmi hc hg hm hv ha hn hdb he hpl) λ_ _ _ h=>Bh h
theorem zl1{e:Expr}{T:String}{g:GN}(hc:gY X (.type T) (jB X.K g))(hg:Gl X x)(hm:X.mg x=none)(hv:bootBuiltins x=some (.type T))(ha:SA X (e::es) fs)(hn:x ≠ "__name__")(hdb:(x==("__debug__" : Str))=false)(he:starEach (e::es) X.env=(false,eval e X.env)::starEach es X.env)(hpl:(backTo pos (starEach es X.env)).any (·.1)=false):SE X (.Call (.Name x p) (e::es) [] pos) (eN g fs) :=
 PE.imp (zkl hc hg hm hv ha hn hdb he hpl) λ_ _ _ h=>Bh h
end
noncomputable def aM(i:Nat):GF:=λd σ S=>some (σ.set i (some d),S)
noncomputable abbrev nU:=List D->Sg->So->Option (Sg×So)
noncomputable def jK:nU:=λds σ S=>match ds with
 |[]=>some (σ,S)
 |_=>none
noncomputable def dH(f:GF)(fr:nU):nU:=λds σ S=>match ds with
 |d::r=>(f d σ S).bind λq=>fr r q.1 q.2
 |[]=>none
noncomputable def jm(n:Nat)(fr:nU):GF:=λd σ S=>match d with
 |.tup xs=>if xs.length=n then fr xs σ S else none
 |.ref m=>match S[m]? with
  |some (.lst xs)=>if xs.length=n then fr xs σ S else none
  |_=>none
 |_=>none
noncomputable def Nm(K:FgA)(f:nU):qw:=λvs σ H Q=>∃σd S α ds σd' S',bH K H α σd σ/\aB K H α S/\aH K H α ds vs/\f ds σd S=some (σd',S') /\
 ∀σ' H' α',bH K H' α' σd' σ'->aB K H' α' S'->Ext K H α H' α'->Q σ' H'
def CG(X:Cx)(Ae:List Expr)(f:nU):Prop:=yN X Ae (Nm X.K f)
section
variable {X:Cx}{pos:Pos}
theorem zn0{i:Nat}{x:Str}(hN:X.N.Nodup)(hi:X.N[i]?=some x)(hx:Loc X.env.scope x)(hf:X.fn x=true\/X.env.scope.names.lookup x=some .local):SG X (.Name x pos) (aM i):=by refine PG.imp (zom hN hi hx hf) λv σ H Q h=>?_;obtain⟨σd,S,α,d,σd',S',hv,hs,r,hf,k⟩:=h;cases hf;exact k _ _ _ (hv.set r i) hs Ext.refl
theorem znZ:CG X [] jK:=by
 refine λpins s σ H vs us Q I r0 h=>zok pins s σ H vs us Q I r0 ?_;obtain⟨σd,S,α,ds,σd',S',hv,hs,r,hf,k⟩:=h;cases r with
 |nil=>cases hf;exact⟨rfl,k _ _ _ hv hs Ext.refl⟩
 |cons _ _=>cases hf
theorem zlW{e:Expr}{es:List Expr}{f:GF}{fr:nU}(h1:SG X e f)(h2:CG X es fr)(hs:(assignEach (e::es) X.env).map (·.2)=assign e X.env::(assignEach es X.env).map (·.2)):CG X (e::es) (dH f fr):=by
 refine λpins s σ H vs us Q I r0 h=>zme h1 h2 hs pins s σ H vs us Q I r0 ?_;obtain⟨σd,S,α,ds,σd',S',hv,hs,r,hf,k⟩:=h;cases r with
 |nil=>cases hf
 |cons r rr =>
  unfold dH at hf;simp only[bf] at hf;obtain⟨⟨σ1,S1⟩,e1,e2⟩:=hf;exact⟨_,_,rfl,σd,S,α,_,σ1,S1,hv,hs,r,e1,λσ' H' α' v' s' x'=>⟨σ1,S1,α',_,σd',S',v',s',rr.mono x',e2,λσ2 H2 α2 v2 s2 x2=>k _ _ _ v2 s2 (x'.trans x2)⟩⟩
theorem zp2{es:List Expr}{k0:Nat}{f:nU}{n:Nat}(hc:X.calm=true)(h:CG X es f)(hn:(assignEach es X.env).length=n)(hst:(assignEach es X.env).findIdx? (·.1)=none):SG X (.Tuple es k0 pos) (jm n f):=by
 refine PG.imp (PG.or (Yq hc h hn hst) (zol hc h hn hst)) λv σ H Q h=>?_;obtain⟨σd,S,α,d,σd',S',hv,hs,r,hf,k⟩:=h;unfold jm at hf;cases r with
 |tup h r =>
  simp only at hf;split at hf
  .rename_i hl;exact .inl ⟨_,_,rfl,h,by rw[<-r.length];exact hl,σd,S,α,_,σd',S',hv,hs,r,hf,k⟩
  .cases hf
 |ref ha =>
  simp only at hf;split at hf
  .rename_i xs em;split at hf
   .rename_i hl;obtain⟨vs,h1,r⟩:=hs.obj _ _ _ em ha;exact .inr ⟨_,vs,rfl,dG.of h1,by rw[<-r.length];exact hl,σd,S,α,xs,σd',S',hv,hs,r,hf,k⟩
   .cases hf
  .cases hf
 |_=>cases hf
end
noncomputable def aQ:SF:=λσ S=>some (.nx,σ,S)
noncomputable def aC(f g:SF):SF:=λσ S=>(f σ S).bind λr=>match r.1 with
 |.nx=>g r.2.1 r.2.2
 |fl=>some (fl,r.2.1,r.2.2)
noncomputable def bA(fe:EF)(fg:GF):SF:=λσ S=>(fe σ S).bind λr=>(fg r.1 σ r.2).map λq=>(.nx,q.1,q.2)
noncomputable def nj(fe:EF):SF:=λσ S=>(fe σ S).map λr=>(.nx,σ,r.2)
noncomputable def bJ(fe:EF):SF:=λσ S=>(fe σ S).map λr=>(.rt r.1,σ,r.2)
noncomputable def tY:SF:=λσ S=>some (.rt .non,σ,S)
noncomputable def Bb:SF:=λσ S=>some (.bk,σ,S)
noncomputable def oZ:SF:=λσ S=>some (.ct,σ,S)
noncomputable def c7(t:TF)(f g:SF):SF:=λσ S=>(t σ S).bind λr=>if r.1=true then f σ r.2 else g σ r.2
section
variable {X:Cx}{st:Stmt}{rest:List Stmt}{f g:SF}{e:Expr}{fe:EF}{pos:Pos}
def Z9:uw X [] aQ:=by refine jM.imp zoc λD σ H h=>?_;obtain⟨σd,S,α,fl,σd',S',hv,hs,hf,k⟩:=h;cases hf;exact k _ _ _ hv hs Ext.refl
def Ks.trans{K:FgA}{H H1:Hp}{α α1:List Addr}{fl:Fl}{σd':Sg}{S':So}{D:uP}(k:Ks K H α fl σd' S' D)(e:Ext K H α H1 α1):Ks K H1 α1 fl σd' S' D:=λσ' H' α' v s x=>k σ' H' α' v s (e.trans x)
theorem znK(h1:SS X st f)(h2:uw X rest g):uw X (st::rest) (aC f g):=by
 refine jM.imp (zl6 h1 h2) λD σ H h=>?_;obtain⟨σd,S,α,fl,σd',S',hv,hs,hf,k⟩:=h;unfold aC at hf;simp only[bf] at hf;obtain⟨⟨WX,σ1,S1⟩,e1,e2⟩:=hf;refine⟨σd,S,α,WX,σ1,S1,hv,hs,e1,λσ' H' α' v' s' x'=>?_⟩;cases WX with
 |nx=>exact⟨σ1,S1,α',fl,σd',S',v',s',e2,k.trans x'⟩
 |bk=>cases e2;exact k σ' H' α' v' s' x'
 |ct=>cases e2;exact k σ' H' α' v' s' x'
 |rt d=>cases e2;exact k σ' H' α' v' s' x'
def znH:SS X (.Pass pos) aQ:=by refine PS.imp zoe λD σ H h=>?_;obtain⟨σd,S,α,fl,σd',S',hv,hs,hf,k⟩:=h;cases hf;exact k _ _ _ hv hs Ext.refl
theorem Z6{x j pos'}:SS X (.Expr (.Constant (.str x) j pos) pos') aQ:=by refine PS.imp Yu λD σ H h=>?_;obtain⟨σd,S,α,fl,σd',S',hv,hs,hf,k⟩:=h;cases hf;exact k _ _ _ hv hs Ext.refl
def Z4:SS X (.Break pos) Bb:=by refine PS.imp zl9 λD σ H h=>?_;obtain⟨σd,S,α,fl,σd',S',hv,hs,hf,k⟩:=h;cases hf;exact k _ _ _ hv hs Ext.refl
def Z5:SS X (.Continue pos) oZ:=by refine PS.imp zhG λD σ H h=>?_;obtain⟨σd,S,α,fl,σd',S',hv,hs,hf,k⟩:=h;cases hf;exact k _ _ _ hv hs Ext.refl
theorem znJ(he:SE X e fe)(hsw:swapsWith e none pos.line X.env=pure false):SS X (.Expr e pos) (nj fe):=by refine PS.imp (zog he hsw) λD σ H h=>?_;obtain⟨σd,S,α,fl,σd',S',hv,hs,hf,k⟩:=h;unfold nj at hf;simp only[aX] at hf;obtain⟨⟨d,S1⟩,e1,e2⟩:=hf;cases e2;exact⟨σd,S,α,d,S1,hv,hs,e1,λv H' α' s' x' r'=>k _ _ _ (hv.mono x') s' x'⟩
theorem zpO(he:SE X e fe):SS X (.Return (some e) pos) (bJ fe):=by refine PS.imp (Yx he) λD σ H h=>?_;obtain⟨σd,S,α,fl,σd',S',hv,hs,hf,k⟩:=h;unfold bJ at hf;simp only[aX] at hf;obtain⟨⟨d,S1⟩,e1,e2⟩:=hf;cases e2;exact⟨σd,S,α,d,S1,hv,hs,e1,λv H' α' s' x' r'=>k _ _ _ (hv.mono x') s' x' v r'⟩
theorem znG:SS X (.Return none pos) tY:=by refine PS.imp zod λD σ H h=>?_;obtain⟨σd,S,α,fl,σd',S',hv,hs,hf,k⟩:=h;cases hf;exact k _ _ _ hv hs Ext.refl _ .non
theorem DW{tg:Expr}{fg:GF}(he:SE X e fe)(hg:SG X tg fg)(h1:swapsWithSole [tg] e pos.line X.env=pure false)(h2:swappedStores [tg] e X.env=pure none)(h3:(assignEach [tg] X.env).map (·.2)=[assign tg X.env]):SS X (.Assign [tg] e pos) (bA fe fg):=by refine PS.imp (Yt he hg h1 h2 h3) λD σ H h=>?_;obtain⟨σd,S,α,fl,σd',S',hv,hs,hf,k⟩:=h;unfold bA at hf;simp only[bf,aX] at hf;obtain⟨⟨d,S1⟩,e1,⟨σ1,S2⟩,e2,e3⟩:=hf;cases e3;exact⟨σd,S,α,d,S1,hv,hs,e1,λv H' α' s' x' r'=>⟨σd,S1,α',d,_,_,hv.mono x',s',r',e2,λσ2 H2 α2 v2 s2 x2=>k _ _ _ v2 s2 (x'.trans x2)⟩⟩
theorem QD{i:Nat}{x:Str}{pos':Pos}(hN:X.N.Nodup)(hi:X.N[i]?=some x)(hx:Loc X.env.scope x)(he:SE X e fe)(hsw:swapsWith e (some (.Name x pos')) pos.line X.env=pure false)(hfn:X.fn x=true\/X.env.scope.names.lookup x=some .local):
 SS X (.Assign [.Name x pos'] e pos) (bA fe (aM i)):=by
 refine PS.imp (Yy hN hi hx he hsw hfn) λD σ H h=>?_;obtain⟨σd,S,α,fl,σd',S',hv,hs,hf,k⟩:=h;unfold bA at hf;simp only[bf,aX] at hf;obtain⟨⟨d,S1⟩,e1,⟨σ1,S2⟩,e2,e3⟩:=hf;cases e3;cases e2;exact⟨σd,S,α,d,S1,hv,hs,e1,λv H' α' s' x' r'=>k _ _ _ ((hv.mono x').set r' i) s' x'⟩
theorem Xj{c:Expr}{a b:List Stmt}{t:TF}(hc:ST X c t)(ha:uw X a f)(hb:uw X b g):SS X (.If c a b pos) (c7 t f g):=by
 refine PS.imp (Yl hc ha hb) λD σ H h=>?_;obtain⟨σd,S,α,fl,σd',S',hv,hs,hf,k⟩:=h;unfold c7 at hf;simp only[bf] at hf;obtain⟨⟨b1,S1⟩,e1,e2⟩:=hf;refine⟨σd,S,α,b1,S1,hv,hs,e1,λH1 α1 s1 x1=>?_⟩;cases b1 with
 |true =>
  rw[if_pos rfl];rw[if_pos rfl] at e2;exact⟨σd,S1,α1,fl,σd',S',hv.mono x1,s1,e2,k.trans x1⟩
 |false =>
  rw[if_neg gA];rw[if_neg gA] at e2;exact⟨σd,S1,α1,fl,σd',S',hv.mono x1,s1,e2,k.trans x1⟩
end
noncomputable def kE(t:TF)(f:SF):Nat->SF
 |0=>λ_ _=>none
 |n+1=>λσ S=>(t σ S).bind λr=>if r.1=true then(f σ r.2).bind λq=>match q.1 with
  |.nx=>kE t f n q.2.1 q.2.2
  |.ct=>kE t f n q.2.1 q.2.2
  |.bk=>some (.nx,q.2.1,q.2.2)
  |.rt d=>some (.rt d,q.2.1,q.2.2)
  else some (.nx,σ,r.2)
theorem JW{t:TF}{f:SF}:∀{n:Nat} {σ:Sg} {S:So} {r:Fl×Sg×So},kE t f n σ S=some r->kE t f (n+1) σ S=some r
 |0,_,_,_,h=>by cases h
 |n+1,σ,S,r,h=>by
  unfold kE at h ⊢;simp only[bf] at h ⊢;obtain⟨q,e1,e2⟩:=h;refine⟨q,e1,?_⟩;by_cases hb:q.1=true
  .rw[if_pos hb] at e2 ⊢;simp only[bf] at e2 ⊢;obtain⟨q2,e3,e4⟩:=e2;refine⟨q2,e3,?_⟩;obtain⟨fl,σ1,S1⟩:=q2;cases fl with
   |nx=>exact JW e4
   |ct=>exact JW e4
   |bk=>exact e4
   |rt d=>exact e4
  .rw[if_neg hb] at e2 ⊢;exact e2
theorem R6{t:TF}{f:SF}{n m:Nat}{σ:Sg}{S:So}{r:Fl×Sg×So}(h:kE t f n σ S=some r)(hm:n<=m):kE t f m σ S=some r:=by
 obtain⟨k,rfl⟩:=Nat.exists_eq_add_of_le hm;clear hm
 induction k with
 |zero=>exact h
 |succ k ih=>exact JW ih
open Classical in
noncomputable def lC(t:TF)(f:SF):SF:=λσ S=>if h:∃n r,kE t f n σ S=some r then some (Classical.choose (Classical.choose_spec h)) else none
theorem Qx{t:TF}{f:SF}{n:Nat}{σ:Sg}{S:So}{r:Fl×Sg×So}(h:kE t f n σ S=some r):lC t f σ S=some r:=by
 have hx:∃n r,kE t f n σ S=some r:=⟨n,r,h⟩
 unfold lC;rw[dif_pos hx];have e:=Classical.choose_spec (Classical.choose_spec hx);have e1:=R6 e (Nat.le_max_left _ n);have e2:=R6 h (Nat.le_max_right (Classical.choose hx) n);rw[e1] at e2;exact e2
theorem Qw{t:TF}{f:SF}{σ:Sg}{S:So}{r:Fl×Sg×So}(h:lC t f σ S=some r):∃n,kE t f n σ S=some r:=by
 unfold lC at h;split at h
 .rename_i hx;cases h;exact⟨_,Classical.choose_spec (Classical.choose_spec hx)⟩
 .cases h
theorem RX{t:TF}{f:SF}{σ σ1 σ2:Sg}{S S1 S2:So}{fl:Fl}{r:Fl×Sg×So}(h1:t σ S=some (true,S1))(h2:f σ S1=some (fl,σ2,S2))(hf:fl = .nx\/fl = .ct)(h3:lC t f σ2 S2=some r):lC t f σ S=some r:=by obtain⟨n,e⟩:=Qw h3;refine Qx (n:=n+1) ?_;unfold kE;rw[h1];simp only[cg,if_true];rw[h2];rcases hf with rfl|rfl<;>exact e
def Jb{t:TF}{f:SF}{σ:Sg}{S S1:So}(h1:t σ S=some (false,S1)):lC t f σ S=some (.nx,σ,S1):=by refine Qx (n:=1) ?_;unfold kE;rw[h1];simp
section
variable {X:Cx}{pos:Pos}
theorem zlJ{c:Expr}{body:List Stmt}{t:TF}{f:SF}(hp:PassesOwn (model X.prog X.w) X.A X.env X.xe)(hc:ST X c t)(hb:uw X body f):SS X (.While c body [] pos) (lC t f):=by
 refine PS.imp (zl7 hp hc hb) λD σ H h=>?_;obtain⟨σd,S,α,fl,σd',S',hv,hs,hf,k⟩:=h;obtain⟨n,hn⟩:=Qw hf;refine⟨λm σ1 H1=>∃σd1 S1 α1,bH X.K H1 α1 σd1 σ1/\aB X.K H1 α1 S1/\Ext X.K H α H1 α1/\kE t f m σd1 S1=some (fl,σd',S'),⟨n,σd,S,α,hv,hs,Ext.refl,hn⟩,?_⟩
 rintro m σ1 H1 ⟨σd1,S1,α1,v1,s1,x1,e⟩
 cases m with
 |zero=>cases e
 |succ m =>
  unfold kE at e;simp only[bf] at e;obtain⟨⟨b,S2⟩,e1,e2⟩:=e;refine⟨σd1,S1,α1,b,S2,v1,s1,e1,λH2 α2 s2 x2=>?_⟩;cases b with
  |false =>
   rw[if_neg gA];rw[if_neg gA] at e2;cases e2;exact k _ _ _ (v1.mono x2) s2 (x1.trans x2)
  |true =>
   rw[if_pos rfl];rw[if_pos rfl] at e2;simp only[bf] at e2;obtain⟨⟨Ov,σd3,S3⟩,e3,e4⟩:=e2;refine⟨λσ4 H4=>∃σd4 S4 α4,bH X.K H4 α4 σd4 σ4/\aB X.K H4 α4 S4/\Ext X.K H α H4 α4/\kE t f m σd4 S4=some (fl,σd',S'),λσ4 H4 q=>⟨m,Nat.lt_succ_self _,q⟩,?_⟩;refine⟨σd1,S2,α2,Ov,σd3,S3,v1.mono x2,s2,e3,λσ4 H4 α4 v4 s4 x4=>?_⟩;have xx:=(x1.trans x2).trans x4;cases Ov with
   |nx=>exact⟨σd3,S3,α4,v4,s4,xx,e4⟩
   |ct=>exact⟨σd3,S3,α4,v4,s4,xx,e4⟩
   |bk=>cases e4;exact k _ _ _ v4 s4 xx
   |rt d=>cases e4;exact k _ _ _ v4 s4 xx
end
end MX
end
section
variable {A:PySem.Around}{E Q:PySem.Value->PySem.Shared->Prop}{H:L2.Hp}{K:FgA}{S S':MX.So}{X:L2.Cx}{a c l:PySem.Addr}{b e:PySem.Expr}{cpos p pos px py spos:PySem.Pos}{d:MX.D}{ds:List MX.D}{env:PySem.Env}{es:List PySem.Expr}{f:MX.EF}{fa:MX.AF}{fb:MX.SF}{fd:PySem.FuncData}{fns:List (PySem.Str×Nat×MX.GN)}{h h':PySem.Heap}{i j k kk m n nrem t':Nat}{mg:PySem.Str->Option PySem.Value}{name q qual x y:PySem.Str}{names:List (PySem.Str×PySem.NameKind)}{ns:List Int}{o:PySem.Obj}{out vs:List PySem.Value}{params:PySem.Arguments}{prog:PySem.Program}{ps:List PySem.Str}{s:PySem.Shared}{scope:PySem.Scope}{st:PySem.Stmt}{w:PySem.World}{xs:Array (Int×PySem.Tok)}{α:List PySem.Addr}{σ':MX.Sg}
section
namespace MZ
open PySem PySem.Spec PyProof.Rows L2
structure Sub where
 it:Addr
 src:Addr
 tup:Bool
def cF(h:Heap)(p:Sub)(k:Nat):Prop:=if p.tup=true then h.IsTupleIter p.it p.src k else h.IsListIter p.it p.src k
def SrcAt(h:Heap)(p:Sub)(items:List Value):Prop:=if p.tup=true then h.IsTuple p.src items.toArray else h.IsList p.src items.toArray
theorem cF.at{h h':Heap}{p:Sub}{k:Nat}(x:cF h p k)(f:∀o,h.get? p.it=some o->h'.get? p.it=some o):cF h' p k:=by
 unfold cF at x ⊢;split
 .rename_i hp;rw[if_pos hp] at x;obtain⟨o,e,r⟩:=x;exact⟨o,f o e,r⟩
 .rename_i hp;rw[if_neg hp] at x;obtain⟨o,e,r⟩:=x;exact⟨o,f o e,r⟩
theorem SrcAt.at{h h':Heap}{p:Sub}{xs:List Value}(x:SrcAt h p xs)(f:∀o,h.get? p.src=some o->h'.get? p.src=some o):SrcAt h' p xs:=by
 unfold SrcAt at x ⊢;split
 .rename_i hp;rw[if_pos hp] at x;obtain⟨o,e,r⟩:=x;exact⟨o,f o e,r⟩
 .rename_i hp;rw[if_neg hp] at x;obtain⟨o,e,r⟩:=x;exact⟨o,f o e,r⟩
theorem cF.obj{h:Heap}{p:Sub}{k:Nat}(x:cF h p k):∃o,h.get? p.it=some o/\∀v,o.data ≠ .cell v:=by
 unfold cF at x;split at x
 .obtain⟨o,e,_,d⟩:=x;exact⟨o,e,λv z=>by rw[d] at z;cases z⟩
 .obtain⟨o,e,_,d⟩:=x;exact⟨o,e,λv z=>by rw[d] at z;cases z⟩
section
variable {prog:Program}{w:World}{A:Around}{E:Value->Shared->Prop}{s:Shared}
theorem zec{it t:Addr}{i:Nat}{items}{x:Value}{Q:Value->Shared->Prop}(hit:s.heap.IsTupleIter it t i)(ht:s.heap.IsTuple t items)(hx:items[i]?=some x)(hQ:∀h',h'.IsTupleIter it t (i+1)->Heap.SameBut it s.heap h'->Q x { s with heap:=h' }):
 wpAny (model prog w) A (Builtin.SmallTypes.nextOf (.ref it)) Q E s:=by
 obtain⟨o,ho,hc,hd⟩:=id hit;obtain⟨ol,hol,_,nl,hdl⟩:=ht;unfold Builtin.SmallTypes.nextOf;refine aO (wpAny_callSpecial?_slot (name:=Str.ofString "__next__") hit.typeIs F.slot_tuple_iterator_next
  (wpAny_call_entry F.slot_tuple_iterator_next hit.typeIs F.entry_tuple_iterator_next ?_ (F.args_tuple_iterator_next_1 _)))
 show wpAny _ _ (field (.ref it) 0 >>= _) _ _ s;refine aO (wpAny_field ho hd (x := .ref t) rfl ?_);show wpAny _ _ (if(Value.ref t==Value.none)=true then _ else _) _ _ s;rw[if_neg (show ¬((Value.ref t==Value.none)=true) from gA)];show wpAny _ _ (field (.ref it) 1 >>= _) _ _ s;refine aO (wpAny_field ho hd (x := .int i 0) rfl ?_);show wpAny _ _ (seqItems? (.ref t) >>= _) _ _ s;refine aO (wpAny_seqItems hol hdl ?_);simp only[Int.toNat_natCast,hx];refine aO (wpAny_setField ho hd (by simp) (b7 ⟨x,rfl,b7 (hQ _ ?_ (Heap.SameBut.update ..))⟩));exact⟨_,Heap.get?_update_self _ ho (Obj.isFreed_of_fields (Obj.data_mapFields hd _)),(Obj.cls_mapFields ..).trans hc,by
  rw[Obj.data_mapFields hd];simp[rawInt]⟩
theorem zeC{it t:Addr}{i:Nat}{items}{Q:Value->Shared->Prop}(hh:A.handled=none)(hit:s.heap.IsTupleIter it t i)(ht:s.heap.IsTuple t items)(hx:items[i]?=none)(hE:∀h' e,Heap.ExtBut it s.heap h'->(∃o,h'.get? e=some o/\o.cls = .type "StopIteration")->E (.ref e) { s with heap:=h' }):
 wpAny (model prog w) A (Builtin.SmallTypes.nextOf (.ref it)) Q E s:=by
 obtain⟨o,ho,hc,hd⟩:=id hit;obtain⟨ol,hol,_,nl,hdl⟩:=ht;unfold Builtin.SmallTypes.nextOf;refine aO (wpAny_callSpecial?_slot (name:=Str.ofString "__next__") hit.typeIs F.slot_tuple_iterator_next
  (wpAny_call_entry F.slot_tuple_iterator_next hit.typeIs F.entry_tuple_iterator_next ?_ (F.args_tuple_iterator_next_1 _)))
 show wpAny _ _ (field (.ref it) 0 >>= _) _ _ s;refine aO (wpAny_field ho hd (x := .ref t) rfl ?_);show wpAny _ _ (if(Value.ref t==Value.none)=true then _ else _) _ _ s;rw[if_neg (show ¬((Value.ref t==Value.none)=true) from gA)];show wpAny _ _ (field (.ref it) 1 >>= _) _ _ s;refine aO (wpAny_field ho hd (x := .int i 0) rfl ?_);show wpAny _ _ (seqItems? (.ref t) >>= _) _ _ s;refine aO (wpAny_seqItems hol hdl ?_);simp only[Int.toNat_natCast,hx];refine aO (wpAny_rule (aO (wpAny_setField ho hd (by simp) ?_)));show wpAny _ _ (newExc (.type "StopIteration") [] >>= _) _ _ _;refine aO ?_;simp only[newExc,newTuple];refine aO (wpAny_newObj_type ?_ (by size_fits));refine aO (m:=firstArgMember _ _) (wpAny_of_eq (a:=Value.none) (by first|rfl|(simp only[firstArgMember];rfl)) ?_);refine wpAny_newObj_type ?_ (by size_fits);simp only[raiseNew];refine aO (wpAny_handled ?_)
 first|rw[show A.in1.handled=none from hh]|rw[hh]
 refine aO (b7 (wpAny_throw ?_));exact hE _ _ (((Heap.SameBut.update ..).extBut.push _).push _) ⟨_,gw _ rfl,rfl⟩
theorem R4{p:Sub}{xs:List Value}{k:Nat}{x:Value}{Q:Value->Shared->Prop}(hi:cF s.heap p k)(hs:SrcAt s.heap p xs)(hx:xs[k]?=some x)(hQ:∀h',cF h' p (k+1)->Heap.SameBut p.it s.heap h'->Q x { s with heap:=h' }):wpAny (model prog w) A (Builtin.SmallTypes.nextOf (.ref p.it)) Q E s:=by
 by_cases hp:p.tup=true
 .unfold cF SrcAt at *
  rw[if_pos hp] at hi hs;exact zec hi hs (by simpa using hx) λh' a b=>hQ h' (by rw[if_pos hp];exact a) b
 .unfold cF SrcAt at *
  rw[if_neg hp] at hi hs;exact wpAny_nextOf_list_item hi hs (by simpa using hx) λh' a b=>hQ h' (by rw[if_neg hp];exact a) b
theorem znC{p:Sub}{xs:List Value}{k:Nat}{Q:Value->Shared->Prop}(hh:A.handled=none)(hi:cF s.heap p k)(hs:SrcAt s.heap p xs)(hx:xs[k]?=none)(hE:∀h' e,Heap.ExtBut p.it s.heap h'->(∃o,h'.get? e=some o/\o.cls = .type "StopIteration")->E (.ref e) { s with heap:=h' }):
 wpAny (model prog w) A (Builtin.SmallTypes.nextOf (.ref p.it)) Q E s:=by
 by_cases hp:p.tup=true
 .unfold cF SrcAt at *
  rw[if_pos hp] at hi hs;exact zeC hh hi hs (by simpa using hx) hE
 .unfold cF SrcAt at *
  rw[if_neg hp] at hi hs;exact wpAny_nextOf_list_end hh hi hs (by simpa using hx) hE
end
noncomputable abbrev dh(xs:List Value):Obj:={ cls := .type "tuple",data := .seq xs.toArray }
structure w6(z TI TO:Addr)(ps:List Sub):Prop where
 TIz:TI≠z
 TOz:TO≠z
 TITO:TI≠TO
 iz:∀p∈ps,p.it≠z
 iTI:∀p∈ps,p.it≠TI
 iTO:∀p∈ps,p.it≠TO
 sz:∀p∈ps,p.src≠z
 sTO:∀p∈ps,p.src≠TO
 si:∀p∈ps,∀q∈ps,p.src≠q.it
 nd:(ps.map (·.it)).Nodup
section
variable {prog:Program}{w:World}{A:Around}{E:Value->Shared->Prop}{s:Shared}
theorem RG{T:Addr}{ys:List Value}{k:Nat}{x:Value}{Q:Unit->Shared->Prop}(hT:s.heap.get? T=some (dh ys))(hz:ys.length<=sizeLine)(h:∀h',h'.get? T=some (dh (ys.set k x))->Heap.SameBut T s.heap h'->Q () { s with heap:=h' }):
 wpAny (model prog w) A (updateSeq T (·.setIfInBounds k x)) Q E s:=by
 refine wpAny_updateSeq hT rfl (h _ ?_ (Heap.SameBut.update ..)) (by rw[dU];exact hz) (by simp;omega);rw[Heap.get?_update_self _ hT rfl];simp[Obj.mapSeq,dh]
def zn1{α:Type}(a b:List α)(y x:α):(a++y::b).set a.length x=a++x::b:=by rw[List.set_append_right _ _ (bZ _)];simp
theorem zlz{z TI TO:Addr}{ps:List Sub}{xss:List (List Value)}{row ys:List Value}{k:Nat}{Q:Value->Shared->Prop}(D:w6 z TI TO ps)(hne:ps≠[])(hps:ps.length<=100)(hz:IsZip s.heap z TI TO .none)(hTI:s.heap.get? TI=some (dh (ps.map λp=>Value.ref p.it)))(hTO:s.heap.get? TO=some (dh ys))(hy:ys.length=ps.length)(hl:xss.length=ps.length)(hr:row.length=ps.length)(hi:∀p∈ps,cF s.heap p k)(hs:∀(j:Nat) p xs,ps[j]?=some p->xss[j]?=some xs->SrcAt s.heap p xs)(hx:∀(j:Nat) xs x,xss[j]?=some xs->row[j]?=some x->xs[k]?=some x)(hQ:∀h',IsZip h' z TI TO (rawInt s.heap.objs.size)->h'.get? TO=some (dh row)->(∀p∈ps,cF h' p (k+1))->h'.get? s.heap.objs.size=some (dh row)->h'.objs.size=s.heap.objs.size+1 ->
  (∀c o,c≠z->c≠TO->(∀p∈ps,c≠p.it)->s.heap.get? c=some o->h'.get? c=some o)->Q (.ref s.heap.objs.size) { s with heap:=h' }):
 wpAny (model prog w) A (Builtin.«zip.__next__» ⟨[.ref z],[]⟩) (λfin s'=>∃v,fin = .done (.ret v)/\Q v s') E s:=by
 have line:(100:Nat)<=sizeLine:=by decide
 show wpAny _ _ (field (.ref z) 2 >>= _) _ _ _;refine aO (wpAny_field hz rfl (x := .bool false) rfl ?_);show wpAny _ _ (field (.ref z) 3 >>= _) _ _ _;refine aO (wpAny_field hz rfl (x := .ref TI) rfl ?_);refine aO (wpAny_seqItems hTI rfl ?_);have hemp:((ps.map λp=>Value.ref p.it).toArray.isEmpty)=false:=by
  cases ps with
  |nil=>exact absurd rfl hne
  |cons _ _=>simp
 show wpAny _ _ (if((ps.map λp=>Value.ref p.it).toArray.isEmpty)=true then _ else _) _ _ _;rw[if_neg (by rw[hemp];exact gA)];show wpAny _ _ (Builtin.SmallTypes.ownedTupleIsFree (.ref z) >>= _) _ _ _;refine aO ?_;unfold Builtin.SmallTypes.ownedTupleIsFree;refine aO (wpAny_field hz rfl (x := .none) rfl (b7 ?_));simp only[if_true];refine aO (wpAny_rule ?_);refine aO (wpAny_field hz rfl (x := .ref TO) rfl ?_);refine aO (wpAny_setField_rec hz (by simp) λh₁ hz₁ hs₁=>?_);replace hz₁:IsZip h₁ z TI TO .ellipsis:=hz₁;refine aO ?_;refine wpAny_forIn_list _
  (λrest b s'=>b.1=none/\∃j h,s'={ s with heap:=h }/\rest=((ps.drop j).map λp=>Value.ref p.it).zipIdx j/\j<=ps.length/\IsZip h z TI TO .ellipsis/\h.get? TO=some (dh (row.take j++ys.drop j))/\h.objs.size=s.heap.objs.size /\
   (∀(i:Nat) p,ps[i]?=some p->cF h p (if i<j then k+1 else k))/\∀c o,c≠z->c≠TO->(∀p∈ps,c≠p.it)->s.heap.get? c=some o->h.get? c=some o) _ ?_ ?_ _ _ ?_
 .rintro⟨v,kk⟩ rest b s' ⟨hb,j,h,rfl,hrest,hj,z1,t1,Gg,i1,k1⟩
  have hjl:j<ps.length:=by refine Nat.lt_of_le_of_ne hj λe=>?_;rw[e] at hrest;simp at hrest
  obtain⟨p,hp⟩:∃p,ps[j]?=some p:=⟨ps[j],by simp[hjl]⟩
  have hpm:p∈ps:=List.mem_of_getElem? hp;have hdrop:ps.drop j=p::ps.drop (j+1):=by obtain⟨h1,h2⟩:=fu.mp hp;rw[<-h2];exact List.drop_eq_getElem_cons h1
  rw[hdrop,jq,List.zipIdx_cons] at hrest;injection hrest with e1 e2;obtain⟨e3,e4⟩:=Prod.mk.inj e1;subst e3;replace e4:=e4.symm;subst e4;obtain⟨xs,hxs⟩:∃xs,xss[j]?=some xs:=⟨xss[j]'(by omega),by simp⟩
  obtain⟨x,WN⟩:∃x,row[j]?=some x:=⟨row[j]'(by omega),by simp⟩
  obtain⟨y,hyr⟩:∃y,ys[j]?=some y:=⟨ys[j]'(by omega),by simp⟩
  have hit:cF h p k:=by have:=i1 j p hp;rw[if_neg (iw _)] at this;exact this
  have gD:SrcAt h p xs:=(hs j p xs hp hxs).at λo e=>k1 _ o (D.sz p hpm) (D.sTO p hpm) (λq hq=>D.si p hpm q hq) e;have hcur:row.take j++ys.drop j=row.take j++y::ys.drop (j+1):=by obtain⟨h1,h2⟩:=fu.mp hyr;rw[List.drop_eq_getElem_cons h1,h2]
  have hlj:(row.take j).length=j:=by rw[wZ];omega
  obtain⟨b1,b2⟩:=b;have hb':b1=none:=hb;subst hb';refine aO (wpAny_onRaise ?_);show wpAny _ _ (Builtin.SmallTypes.nextOf (.ref p.it) >>= _) _ _ _;refine aO (R4 hit gD (hx j xs x hxs WN) λh₂ it₂ sb₂=>b7 ?_);have t2:h₂.get? TO=some (dh (row.take j++ys.drop j)):=sb₂.extBut _ _ (D.iTO p hpm).symm t1;refine aO (wpAny_seqItems t2 rfl ?_);refine aO (RG (s:={ s with heap:=h₂ }) (k:=j) t2 (by rw[lH,wZ,List.length_drop];omega) λh₃ t3 sb₃=>?_);refine aO (wpAny_letGo (b7 ?_));refine⟨rfl,j+1,h₃,rfl,e2,hjl,?_,?_,?_,λi q hq=>?_,λc o c1 c2 c3 e=>?_⟩
  .exact sb₃.extBut _ _ D.TOz.symm (sb₂.extBut _ _ (D.iz p hpm).symm z1)
  .rw[t3,hcur];have:(row.take j++y::ys.drop (j+1)).set j x=row.take (j+1)++ys.drop (j+1):=by
    have e:row.take (j+1)=row.take j++[x]:=by obtain⟨h1,h2⟩:=fu.mp WN;rw[<-h2];simp
    have:=zn1 (row.take j) (ys.drop (j+1)) y x;rw[hlj] at this;rw[this,e,fW];rfl
   rw[this]
  .rw[sb₃.1,sb₂.1,Gg]
  .have Oe:q∈ps:=List.mem_of_getElem? hq;have k3:∀o,h₂.get? q.it=some o->h₃.get? q.it=some o:=λo e=>sb₃.extBut _ _ (D.iTO q Oe) e;by_cases hij:i=j
   .subst hij;rw[hp] at hq;cases hq;rw[if_pos (Nat.lt_succ_self _)];exact it₂.at k3
   .have hne':q.it≠p.it:=λz=>hij (by
     obtain⟨a1,a2⟩:=fu.mp hq;obtain⟨b1,b2⟩:=fu.mp hp;refine(List.getElem_inj (xs:=ps.map (·.it)) (i:=i) (j:=j) (h₀:=by simpa using a1) (h₁:=by simpa using b1) D.nd).mp ?_;simp[a2,b2,z])
    have:=i1 i q hq;have e:(if i<j+1 then k+1 else k)=(if i<j then k+1 else k):=by
     by_cases h1:i<j
     .rw[if_pos h1,if_pos (by omega)]
     .rw[if_neg h1,if_neg (by omega)]
    rw[e];exact(this.at λo e=>sb₂.extBut _ _ hne' e).at k3
  .exact sb₃.extBut _ _ c2 (sb₂.extBut _ _ (c3 p hpm) (k1 c o c1 c2 c3 e))
 .rintro⟨b1,b2⟩ s' ⟨hb,j,h,rfl,hrest,hj,z1,t1,Gg,i1,k1⟩
  have hb':b1=none:=hb;subst hb';have hjl:j=ps.length:=by
   refine Nat.le_antisymm hj (Nat.le_of_not_lt λhlt=>?_);have hd:ps.drop j≠[]:=by intro e;have:=congrArg List.length e;rw[List.length_drop] at this;simp at this;omega
   cases q:ps.drop j with
   |nil=>exact hd q
   |cons a r=>rw[q] at hrest;simp at hrest
  subst hjl;have Wq:h.get? TO=some (dh row):=by rw[t1,List.take_of_length_le (by omega),List.drop_of_length_le (by omega),List.append_nil]
  show wpAny _ _ (seqItems? (.ref TO) >>= _) _ _ _;refine aO (wpAny_seqItems Wq rfl ?_);refine aO (wpAny_newTuple ?_ (by simp;omega));have hzlt:z<h.objs.size:=cG z1;show wpAny _ _ (Builtin.SmallTypes.ownedTupleHandOut (.ref z) (.ref h.objs.size) >>= _) _ _ _;refine aO ?_;unfold Builtin.SmallTypes.ownedTupleHandOut;have hz₆:IsZip (h.push { cls := .type "tuple",data := .seq row.toArray.toList.toArray }) z TI TO .ellipsis:=dm _ z1;refine aO (wpAny_setField_rec hz₆ (by simp) λh₇ hz₇ hs₇=>?_);replace hz₇:IsZip h₇ z TI TO (rawInt h.objs.size):=hz₇;refine wpAny_setField_rec hz₇ (by simp) λh₈ hz₈ hs₈=>?_;replace hz₈:IsZip h₈ z TI TO (rawInt h.objs.size):=hz₈;have up:∀c o,c≠z->h.get? c=some o->h₈.get? c=some o:=λc o c1 e=>hs₈.extBut _ _ c1 (hs₇.extBut _ _ c1 (dm _ e));have hT₈:h₈.get? h.objs.size=some (dh row):=hs₈.extBut _ _ (Nat.ne_of_gt hzlt) (hs₇.extBut _ _ (Nat.ne_of_gt hzlt) (by simpa[dh] using gw h (o:=dh row) rfl));have hz8:h₈.objs.size=h.objs.size+1:=by rw[hs₈.1,hs₇.1,Heap.size_push]
  rw[Gg] at hz₈ hT₈ hz8;refine b7 ⟨_,rfl,?_⟩;show Q (.ref h.objs.size) _;rw[Gg];refine hQ h₈ hz₈ (up _ _ D.TOz Wq) (λp hp=>?_) hT₈ hz8 λc o c1 c2 c3 e=>up c o c1 (k1 c o c1 c2 c3 e);obtain⟨i,hil,e⟩:=List.mem_iff_getElem.mp hp;have:=i1 i p (by rw[fu];exact⟨hil,e⟩);rw[if_pos hil] at this;exact this.at λo e=>up _ o (D.iz p hp) e
 .refine⟨rfl,0,h₁,rfl,rfl,Nat.zero_le _,hz₁,by simpa using hs₁.extBut _ _ D.TOz hTO,hs₁.1,λi p hp=>?_,λc o c1 c2 c3 e=>hs₁.extBut _ _ c1 e⟩;have hpm:=List.mem_of_getElem? hp;rw[if_neg (Nat.not_lt_zero _)];exact(hi p hpm).at λo e=>hs₁.extBut _ _ (D.iz p hpm) e
theorem znt{z TI TO:Addr}{ps:List Sub}{xss:List (List Value)}{ys:List Value}{k j₀:Nat}{Q:Fin->Shared->Prop}(hh:A.handled=none)(D:w6 z TI TO ps)(hne:ps≠[])(hps:ps.length<=100)(hz:IsZip s.heap z TI TO .none)(hTI:s.heap.get? TI=some (dh (ps.map λp=>Value.ref p.it)))(hTO:s.heap.get? TO=some (dh ys))(hy:ys.length=ps.length)(hl:xss.length=ps.length)(hi:∀p∈ps,cF s.heap p k)(hs:∀(j:Nat) p xs,ps[j]?=some p->xss[j]?=some xs->SrcAt s.heap p xs)(hj₀:j₀<ps.length)(v9:∀(j:Nat) xs,j<j₀->xss[j]?=some xs->∃x,xs[k]?=some x)(hend:∀xs,xss[j₀]?=some xs->xs[k]?=none)(hE:∀h' e,(∀c o,c≠z->c≠TO->(∀p∈ps,c≠p.it)->s.heap.get? c=some o->h'.get? c=some o)->(∃o,h'.get? e=some o/\o.cls = .type "StopIteration")->E (.ref e) { s with heap:=h' }):
 wpAny (model prog w) A (Builtin.«zip.__next__» ⟨[.ref z],[]⟩) Q E s:=by
 have line:(100:Nat)<=sizeLine:=by decide
 show wpAny _ _ (field (.ref z) 2 >>= _) _ _ _;refine aO (wpAny_field hz rfl (x := .bool false) rfl ?_);show wpAny _ _ (field (.ref z) 3 >>= _) _ _ _;refine aO (wpAny_field hz rfl (x := .ref TI) rfl ?_);refine aO (wpAny_seqItems hTI rfl ?_);have hemp:((ps.map λp=>Value.ref p.it).toArray.isEmpty)=false:=by
  cases ps with
  |nil=>exact absurd rfl hne
  |cons _ _=>simp
 show wpAny _ _ (if((ps.map λp=>Value.ref p.it).toArray.isEmpty)=true then _ else _) _ _ _;rw[if_neg (by rw[hemp];exact gA)];show wpAny _ _ (Builtin.SmallTypes.ownedTupleIsFree (.ref z) >>= _) _ _ _;refine aO ?_;unfold Builtin.SmallTypes.ownedTupleIsFree;refine aO (wpAny_field hz rfl (x := .none) rfl (b7 ?_));simp only[if_true];refine aO (wpAny_rule ?_);refine aO (wpAny_field hz rfl (x := .ref TO) rfl ?_);refine aO (wpAny_setField_rec hz (by simp) λh₁ hz₁ hs₁=>?_);replace hz₁:IsZip h₁ z TI TO .ellipsis:=hz₁;refine aO ?_;refine wpAny_forIn_list _
  (λrest b s'=>b.1=none/\∃j h cur,s'={ s with heap:=h }/\rest=((ps.drop j).map λp=>Value.ref p.it).zipIdx j/\j<=j₀/\IsZip h z TI TO .ellipsis/\h.get? TO=some (dh cur)/\cur.length=ps.length /\
   (∀(i:Nat) p,ps[i]?=some p->j<=i->cF h p k)/\∀c o,c≠z->c≠TO->(∀p∈ps,c≠p.it)->s.heap.get? c=some o->h.get? c=some o) _ ?_ ?_ _ _ ?_
 .rintro⟨v,kk⟩ rest b s' ⟨hb,j,h,cur,rfl,hrest,hj,z1,t1,c1',i1,k1⟩
  have hjl:j<ps.length:=CW hj hj₀;obtain⟨p,hp⟩:∃p,ps[j]?=some p:=⟨ps[j],by simp[hjl]⟩
  have hpm:p∈ps:=List.mem_of_getElem? hp;have hdrop:ps.drop j=p::ps.drop (j+1):=by obtain⟨h1,h2⟩:=fu.mp hp;rw[<-h2];exact List.drop_eq_getElem_cons h1
  rw[hdrop,jq,List.zipIdx_cons] at hrest;injection hrest with e1 e2;obtain⟨e3,e4⟩:=Prod.mk.inj e1;subst e3;replace e4:=e4.symm;subst e4;obtain⟨xs,hxs⟩:∃xs,xss[j]?=some xs:=⟨xss[j]'(by omega),by simp⟩
  have hit:cF h p k:=i1 j p hp (bZ _);have gD:SrcAt h p xs:=(hs j p xs hp hxs).at λo e=>k1 _ o (D.sz p hpm) (D.sTO p hpm) (λq hq=>D.si p hpm q hq) e;obtain⟨b1,b2⟩:=b;have hb':b1=none:=hb;subst hb';by_cases hj0:j=j₀
  .subst hj0;refine aO (wpAny_onRaise ?_);show wpAny _ _ (Builtin.SmallTypes.nextOf (.ref p.it) >>= _) _ _ _;refine aO (znC hh hit gD (hend xs hxs) λh₂ e sb₂ he=>?_);obtain⟨oe,hoe,hce⟩:=he;have hz₂:IsZip h₂ z TI TO .ellipsis:=sb₂ _ _ (D.iz p hpm).symm z1;have hez:e≠z:=λx=>by subst x;rw[hz₂] at hoe;cases hoe;simp at hce
   exact wpAny_setField_rec hz₂ (by simp) λh₃ _ hs₃=>hE h₃ e (λc o c1 c2 c3 x=>hs₃.extBut _ _ c1 (sb₂ _ _ (c3 p hpm) (k1 c o c1 c2 c3 x))) ⟨oe,hs₃.extBut _ _ hez hoe,hce⟩
  .obtain⟨x,hx⟩:=v9 j xs (by omega) hxs;refine aO (wpAny_onRaise ?_);show wpAny _ _ (Builtin.SmallTypes.nextOf (.ref p.it) >>= _) _ _ _;refine aO (R4 hit gD hx λh₂ it₂ sb₂=>b7 ?_);have t2:h₂.get? TO=some (dh cur):=sb₂.extBut _ _ (D.iTO p hpm).symm t1;refine aO (wpAny_seqItems t2 rfl ?_);refine aO (RG (s:={ s with heap:=h₂ }) (k:=j) t2 (by omega) λh₃ t3 sb₃=>?_);refine aO (wpAny_letGo (b7 ?_));refine⟨rfl,j+1,h₃,_,rfl,e2,by omega,?_,t3,by simpa using c1',λi q hq hiq=>?_,λc o c1 c2 c3 e=>?_⟩
   .exact sb₃.extBut _ _ D.TOz.symm (sb₂.extBut _ _ (D.iz p hpm).symm z1)
   .have Oe:q∈ps:=List.mem_of_getElem? hq;have hne':q.it≠p.it:=λz=>(show i≠j by omega) (by
     obtain⟨a1,a2⟩:=fu.mp hq;obtain⟨b1,b2⟩:=fu.mp hp;refine(List.getElem_inj (xs:=ps.map (·.it)) (i:=i) (j:=j) (h₀:=by simpa using a1) (h₁:=by simpa using b1) D.nd).mp ?_;simp[a2,b2,z])
    exact((i1 i q hq (by omega)).at λo e=>sb₂.extBut _ _ hne' e).at λo e=>sb₃.extBut _ _ (D.iTO q Oe) e
   .exact sb₃.extBut _ _ c2 (sb₂.extBut _ _ (c3 p hpm) (k1 c o c1 c2 c3 e))
 .rintro b s' ⟨hb,j,h,cur,rfl,hrest,hj,_⟩
  exfalso;have hd:ps.drop j≠[]:=by intro e;have:=congrArg List.length e;rw[List.length_drop] at this;simp at this;omega
  cases q:ps.drop j with
  |nil=>exact hd q
  |cons a r=>rw[q] at hrest;simp at hrest
 .refine⟨rfl,0,h₁,ys,rfl,rfl,Nat.zero_le _,hz₁,hs₁.extBut _ _ D.TOz hTO,hy,λi p hp _=>?_,λc o c1 c2 c3 e=>hs₁.extBut _ _ c1 e⟩;have hpm:=List.mem_of_getElem? hp;exact(hi p hpm).at λo e=>hs₁.extBut _ _ (D.iz p hpm) e
theorem zkq{z TI TO:Addr}{ps:List Sub}{xss:List (List Value)}{row ys:List Value}{k:Nat}{Q:Option Value->Shared->Prop}(D:w6 z TI TO ps)(hne:ps≠[])(hps:ps.length<=100)(hz:IsZip s.heap z TI TO .none)(hTI:s.heap.get? TI=some (dh (ps.map λp=>Value.ref p.it)))(hTO:s.heap.get? TO=some (dh ys))(hy:ys.length=ps.length)(hl:xss.length=ps.length)(hr:row.length=ps.length)(hi:∀p∈ps,cF s.heap p k)(hs:∀(j:Nat) p xs,ps[j]?=some p->xss[j]?=some xs->SrcAt s.heap p xs)(hx:∀(j:Nat) xs x,xss[j]?=some xs->row[j]?=some x->xs[k]?=some x)(hQ:∀h',IsZip h' z TI TO (rawInt s.heap.objs.size)->h'.get? TO=some (dh row)->(∀p∈ps,cF h' p (k+1))->h'.get? s.heap.objs.size=some (dh row)->h'.objs.size=s.heap.objs.size+1 ->
  (∀c o,c≠z->c≠TO->(∀p∈ps,c≠p.it)->s.heap.get? c=some o->h'.get? c=some o)->Q (some (.ref s.heap.objs.size)) { s with heap:=h' }):
 wpAny (model prog w) A (pyNext (.ref z)) Q E s:=by
 have hT:s.TypeIs (.ref z) "zip" := ⟨_,hz,rfl⟩
 unfold pyNext;exact aO (wpAny_attempt (wpAny_callSpecial?_slot (name:=Str.ofString "__next__") hT F.slot_zip_next
  (wpAny_call_entry F.slot_zip_next hT F.entry_zip_next
   (zlz D hne hps hz hTI hTO hy hl hr hi hs hx λh' a1 a2 a3 a4 a5 a6=>b7 (hQ h' a1 a2 a3 a4 a5 a6)) (F.args_zip_next_1 _))))
theorem zmk{z TI TO:Addr}{ps:List Sub}{xss:List (List Value)}{ys:List Value}{k j₀:Nat}{Q:Option Value->Shared->Prop}(hh:A.handled=none)(D:w6 z TI TO ps)(hne:ps≠[])(hps:ps.length<=100)(hz:IsZip s.heap z TI TO .none)(hTI:s.heap.get? TI=some (dh (ps.map λp=>Value.ref p.it)))(hTO:s.heap.get? TO=some (dh ys))(hy:ys.length=ps.length)(hl:xss.length=ps.length)(hi:∀p∈ps,cF s.heap p k)(hs:∀(j:Nat) p xs,ps[j]?=some p->xss[j]?=some xs->SrcAt s.heap p xs)(hj₀:j₀<ps.length)(v9:∀(j:Nat) xs,j<j₀->xss[j]?=some xs->∃x,xs[k]?=some x)(hend:∀xs,xss[j₀]?=some xs->xs[k]?=none)(hQ:∀h',(∀c o,c≠z->c≠TO->(∀p∈ps,c≠p.it)->s.heap.get? c=some o->h'.get? c=some o)->Q none { s with heap:=h' }):
 wpAny (model prog w) A (pyNext (.ref z)) Q E s:=by
 have hT:s.TypeIs (.ref z) "zip" := ⟨_,hz,rfl⟩
 unfold pyNext;refine aO (wpAny_attempt (wpAny_callSpecial?_slot (name:=Str.ofString "__next__") hT F.slot_zip_next
  (wpAny_call_entry F.slot_zip_next hT F.entry_zip_next (znt hh D hne hps hz hTI hTO hy hl hi hs hj₀ v9 hend λh' e hk he=>?_) (F.args_zip_next_1 _))))
 obtain⟨o,ho,hc⟩:=he;refine aO (wpAny_isInstance (T := "StopIteration") (b:=true) ⟨o,ho,hc⟩ isSubtype_stop ?_);exact b7 (hQ _ hk)
noncomputable def dN(n:Nat):List (Addr×Bool)->List Sub
 |[]=>[]
 | (a,t)::r=>⟨n,a,t⟩::dN (n+1) r
def fj(h:Heap)(p:Addr×Bool):Prop:=if p.2=true then ∃xs,h.IsTuple p.1 xs else ∃xs,h.IsList p.1 xs
theorem fj.keeps{h h':Heap}{p:Addr×Bool}(x:fj h p)(f:∀b o,h.get? b=some o->h'.get? b=some o):fj h' p:=by
 unfold fj at x ⊢;split
 .rename_i hp;rw[if_pos hp] at x;obtain⟨xs,o,e,r⟩:=x;exact⟨xs,o,f _ o e,r⟩
 .rename_i hp;rw[if_neg hp] at x;obtain⟨xs,o,e,r⟩:=x;exact⟨xs,o,f _ o e,r⟩
theorem zmx{p:Addr×Bool}{Q:Value->Shared->Prop}(hp:fj s.heap p)(h:∀h',(∀b o,s.heap.get? b=some o->h'.get? b=some o)->h'.objs.size=s.heap.objs.size+1->cF h' ⟨s.heap.objs.size,p.1,p.2⟩ 0->Q (.ref s.heap.objs.size) { s with heap:=h' }):
 wpAny (model prog w) A (pyIter (.ref p.1)) Q E s:=by
 unfold fj at hp;by_cases ht:p.2=true
 .rw[if_pos ht] at hp;obtain⟨xs,hx⟩:=hp;refine wpAny_pyIter_tuple hx (h _ (λb o e=>dm _ e) (Heap.size_push ..) ?_);unfold cF;rw[if_pos ht];exact⟨_,gw _ rfl,rfl,rfl⟩
 .rw[if_neg ht] at hp;obtain⟨xs,hx⟩:=hp;refine wpAny_pyIter_list hx (h _ (λb o e=>dm _ e) (Heap.size_push ..) ?_);unfold cF;rw[if_neg ht];exact⟨_,gw _ rfl,rfl,rfl⟩
theorem Ek:∀(n:Nat) (l:List (Addr×Bool)) (p:Sub),p∈dN n l->n<=p.it/\p.it<n+l.length/\(p.src,p.tup)∈l
 |_,[],p,h=>by cases h
 |n,(a,t)::r,p,h=>by
  rcases List.mem_cons.mp h with rfl|h
  .exact⟨bZ _,by simp,fG⟩
  .obtain⟨h1,h2,h3⟩:=Ek (n+1) r p h;exact⟨Nat.le_of_succ_le h1,dM h2 (by rw[jf];omega),cQ _ h3⟩
def JT:∀(n:Nat) (l:List (Addr×Bool)),(dN n l).length=l.length
 |_,[]=>rfl
 |n,_::r=>by simp[dN,JT (n+1) r]
theorem Rz:∀(n:Nat) (l:List (Addr×Bool)),((dN n l).map (·.it)).Nodup
 |_,[]=>List.nodup_nil
 |n,(a,t)::r=>by rw[dN,jq,List.nodup_cons];refine⟨λhm=>?_,Rz (n+1) r⟩;obtain⟨p,hp,e⟩:=List.mem_map.mp hm;have:=(Ek (n+1) r p hp).1;have e':p.it=n:=e;rw[e'] at this;exact absurd this (Nat.not_succ_le_self n)
theorem J9:∀(n:Nat) (l:List (Addr×Bool)) (p:Addr×Bool),dN n (l++[p])=dN n l++[⟨n+l.length,p.1,p.2⟩]
 |n,[],(a,t)=>rfl
 |n,(b,u)::r,p=>by
  rw[List.cons_append,dN,dN,J9 (n+1) r p,List.cons_append];have:n+1+r.length=n+(r.length+1):=by omega
  simp[this]
theorem zjt{l:List (Addr×Bool)}{Q:List Value->Shared->Prop}(hl:∀p∈l,fj s.heap p)(h:∀h',(∀b o,s.heap.get? b=some o->h'.get? b=some o)->h'.objs.size=s.heap.objs.size+l.length->(∀p∈dN s.heap.objs.size l,cF h' p 0)->Q ((dN s.heap.objs.size l).map λp=>Value.ref p.it) { s with heap:=h' }):
 wpAny (model prog w) A (Builtin.SmallTypes.iterAll (l.map λp=>Value.ref p.1)) Q E s:=by
 unfold Builtin.SmallTypes.iterAll;refine aO ?_;refine wpAny_forIn_list _ (λrest its s'=>∃d r h',l=d++r/\rest=r.map (λp=>Value.ref p.1)/\its=((dN s.heap.objs.size d).map λp=>Value.ref p.it).toArray/\s'={ s with heap:=h' } /\
  (∀b o,s.heap.get? b=some o->h'.get? b=some o)/\h'.objs.size=s.heap.objs.size+d.length/\∀p∈dN s.heap.objs.size d,cF h' p 0) _ ?_ ?_ _ _ ?_
 .rintro x rest its s' ⟨d,r,h',rfl,hr,rfl,rfl,k1,z1,i1⟩
  cases r with
  |nil=>cases hr
  |cons p r =>
   rw[jq] at hr;injection hr with e1 e2;subst e1;refine aO (wpAny_holding (zmx (s:={ s with heap:=h' }) ((hl p (by simp)).keeps k1) λh2 k2 z2 i2=>b7 ?_));refine⟨d++[p],r,h2,by simp,e2,?_,rfl,λb o e=>k2 b o (k1 b o e),by rw[z2];simp;show h'.objs.size+1=_;omega,λq hq=>?_⟩
   .rw[J9,uN];simp[z1]
   .rw[J9] at hq;rcases lZ.mp hq with hq|hq
    .exact(i1 q hq).at λo e=>k2 _ o e
    .have e:q=⟨s.heap.objs.size+d.length,p.1,p.2⟩:=by simpa using hq
     subst e;have:({ s with heap:=h' }:Shared).heap.objs.size=s.heap.objs.size+d.length:=z1;rw[<-this];exact i2
 .rintro its s' ⟨d,r,h',rfl,hr,rfl,rfl,k1,z1,i1⟩
  cases r with
  |cons p r=>cases hr
  |nil =>
   rw[List.append_nil] at *
   exact b7 (by simpa using h h' k1 z1 i1)
 .exact⟨[],l,s.heap,rfl,rfl,rfl,rfl,λ_ _ e=>e,rfl,λp hp=>by cases hp⟩
theorem zkA{l:List (Addr×Bool)}(hl:l.length<=100):
 Meets (Builtin.«zip.__new__» ⟨.type "zip" :: l.map (λp=>Value.ref p.1),[]⟩) (λ_ R s=>(∀p∈l,fj s.heap p) /\
  ∀h',IsZip h' (s.heap.objs.size+l.length+2) (s.heap.objs.size+l.length) (s.heap.objs.size+l.length+1) .none->h'.get? (s.heap.objs.size+l.length)=some (dh ((dN s.heap.objs.size l).map λp=>Value.ref p.it)) ->
   h'.get? (s.heap.objs.size+l.length+1)=some (dh ((dN s.heap.objs.size l).map λ_=>Value.none))->(∀p∈dN s.heap.objs.size l,cF h' p 0)->h'.objs.size=s.heap.objs.size+l.length+3 ->
   (∀b o,s.heap.get? b=some o->h'.get? b=some o)->R (.ok (.ret (.ref (s.heap.objs.size+l.length+2)))) { s with heap:=h' }) :=
 .of_wp λprog w A R s h=>by
  obtain⟨hl1,h⟩:=h;have line:(100:Nat)<=sizeLine:=by decide
  have hsl:=JT s.heap.objs.size l;unfold Builtin.«zip.__new__»;refine aO ?_;unfold Builtin.SmallTypes.newClass;show wpAny _ _ (isType (.type "zip") >>= _) _ _ _;refine aO (wpAny_of_eq (a:=true) rfl ?_);show wpAny _ _ (isSubtype (.type "zip") (.type "zip") >>= _) _ _ _;refine aO (wpAny_of_eq (a:=true) sub_zip ?_);refine b7 ?_;show wpAny _ _ (Builtin.SmallTypes.iterAll (l.map λp=>Value.ref p.1) >>= _) _ _ _;refine aO (zjt hl1 λh1 k1 z1 i1=>?_);show wpAny _ _ (newTuple ((dN s.heap.objs.size l).map λp=>Value.ref p.it) >>= _) _ _ _;refine aO (wpAny_newTuple ?_ (by rw[dJ];omega));refine aO (wpAny_newTuple ?_ (by simp only[dJ];omega));refine aO ?_;unfold Builtin.SmallTypes.newRecord;refine wpAny_newObj_type ?_ (by first|trivial|(show(_:Nat)<=_;simp;decide)|size_fits);refine b7 ⟨_,rfl,?_⟩;have z2:(h1.push (dh ((dN s.heap.objs.size l).map λp=>Value.ref p.it))).objs.size=s.heap.objs.size+l.length+1:=by rw[Heap.size_push,z1]
  have z3:((h1.push (dh ((dN s.heap.objs.size l).map λp=>Value.ref p.it))).push (dh (((dN s.heap.objs.size l).map λp=>Value.ref p.it).map λ_=>Value.none))).objs.size=s.heap.objs.size+l.length+2:=by rw[Heap.size_push,z2]
  have g1:∀o,((h1.push (dh ((dN s.heap.objs.size l).map λp=>Value.ref p.it))).push (dh (((dN s.heap.objs.size l).map λp=>Value.ref p.it).map λ_=>Value.none)) |>.push o).get? (s.heap.objs.size+l.length)=some (dh ((dN s.heap.objs.size l).map λp=>Value.ref p.it)):=λo=>by rw[<-z1];exact dm _ (dm _ (gw _ rfl))
  have g2:∀o,((h1.push (dh ((dN s.heap.objs.size l).map λp=>Value.ref p.it))).push (dh (((dN s.heap.objs.size l).map λp=>Value.ref p.it).map λ_=>Value.none)) |>.push o).get? (s.heap.objs.size+l.length+1)=some (dh ((dN s.heap.objs.size l).map λ_=>Value.none)):=λo=>by rw[<-z2];have:=dm o (gw (h1.push (dh ((dN s.heap.objs.size l).map λp=>Value.ref p.it))) (o:=dh (((dN s.heap.objs.size l).map λp=>Value.ref p.it).map λ_=>Value.none)) rfl);rw[List.map_map] at this ⊢;exact this
  have g3:((h1.push (dh ((dN s.heap.objs.size l).map λp=>Value.ref p.it))).push (dh (((dN s.heap.objs.size l).map λp=>Value.ref p.it).map λ_=>Value.none)) |>.push { cls := .type "zip",dict:=none,data := .fields #[.none,.bool false,.bool false,.ref (s.heap.objs.size+l.length),.ref (s.heap.objs.size+l.length+1)],slots:=#[] }).get? (s.heap.objs.size+l.length+2)=some { cls := .type "zip",dict:=none,data := .fields #[.none,.bool false,.bool false,.ref (s.heap.objs.size+l.length),.ref (s.heap.objs.size+l.length+1)],slots:=#[] }:=by rw[<-z3];exact gw _ rfl
  have fin:=h _ g3 (g1 _) (g2 _) (λp hp=>(i1 p hp).at λo e=>dm _ (dm _ (dm _ e))) (by rw[Heap.size_push,z3]) λb o e=>dm _ (dm _ (dm _ (k1 b o e)));show R (.ok (.ret (.ref ((h1.push (dh ((dN s.heap.objs.size l).map λp=>Value.ref p.it))).push (dh (((dN s.heap.objs.size l).map λp=>Value.ref p.it).map λ_=>Value.none))).objs.size))) { s with heap:=((h1.push (dh ((dN s.heap.objs.size l).map λp=>Value.ref p.it))).push (dh (((dN s.heap.objs.size l).map λp=>Value.ref p.it).map λ_=>Value.none))).push { cls := .type "zip",dict:=none,data := .fields #[.none,.bool false,.bool false,.ref h1.objs.size,.ref (h1.push (dh ((dN s.heap.objs.size l).map λp=>Value.ref p.it))).objs.size],slots:=#[] } };rw[z3,z2,z1];exact fin
end
noncomputable def rowAt{α:Type}:List (List α)->Nat->Option (List α)
 |[],_=>some []
 |xs::r,i=>(xs[i]?).bind λx=>(rowAt r i).map (x::·)
theorem T5{α:Type}:∀{xss:List (List α)} {i:Nat} {row:List α},rowAt xss i=some row->row.length=xss.length
 |[],_,_,h=>by cases h;rfl
 |xs::r,i,row,h=>by simp only[rowAt,bf,aX] at h;obtain⟨x,_,r',e,rfl⟩:=h;simp[T5 e]
theorem T4{α:Type}:∀{xss:List (List α)} {i j:Nat} {row:List α} {xs:List α} {x:α},rowAt xss i=some row->xss[j]?=some xs->row[j]?=some x->xs[i]?=some x
 |[],_,_,_,_,_,_,h,_=>by simp at h
 |ys::r,i,0,row,xs,x,h,h1,h2=>by simp only[rowAt,bf,aX] at h;obtain⟨y,e1,r',e,rfl⟩:=h;simp at h1 h2;subst h1;subst h2;exact e1
 |ys::r,i,j+1,row,xs,x,h,h1,h2=>by simp only[rowAt,bf,aX] at h;obtain⟨y,e1,r',e,rfl⟩:=h;exact T4 e (by simpa using h1) (by simpa using h2)
theorem U4{α:Type}:∀{xss:List (List α)} {i:Nat},rowAt xss i=none->∃j,j<xss.length/\(∀(k:Nat) xs,k<j->xss[k]?=some xs->∃x,xs[i]?=some x)/\∀xs,xss[j]?=some xs->xs[i]?=none
 |[],_,h=>by cases h
 |ys::r,i,h=>by
  cases e:ys[i]? with
  |none=>exact⟨0,by simp,λk xs hk=>absurd hk (Nat.not_lt_zero _),λxs hx=>by simp at hx;subst hx;exact e⟩
  |some y =>
   have h':rowAt r i=none:=by
    cases q:rowAt r i with
    |none=>rfl
    |some z=>simp[rowAt,e,q] at h
   obtain⟨j,h1,h2,h3⟩:=U4 h';refine⟨j+1,by simp;omega,λk xs hk hx=>?_,λxs hx=>h3 xs (by simpa using hx)⟩;cases k with
   |zero=>simp at hx;subst hx;exact⟨y,e⟩
   |succ k=>exact h2 k xs (by omega) (by simpa using hx)
inductive SrcsR(K:FgA)(H:Hp):List (Addr×Bool)->List (List V)->Prop
 |nil:SrcsR K H [] []
 |tup {a:Addr} {xs:List V} {l:List (Addr×Bool)} {r:List (List V)}:dR K H a xs->SrcsR K H l r->SrcsR K H ((a,true)::l) (xs::r)
 |lst {a:Addr} {xs:List V} {l:List (Addr×Bool)} {r:List (List V)}:dG K H a xs->SrcsR K H l r->SrcsR K H ((a,false)::l) (xs::r)
noncomputable def Itz(K:FgA)(srcs:List (Addr×Bool)):It :=
 ⟨λi H=>∃xss row,SrcsR K H srcs xss/\rowAt xss i=some row,
  λi H x H'=>∃p row,x = .ref p/\H p=none/\H'=upd H p (.tup row)/\∀xss,SrcsR K H srcs xss->rowAt xss i=some row,
  λi H=>∃xss,SrcsR K H srcs xss/\rowAt xss i=none⟩
section
variable {X:Cx}{pins:List (Addr×Obj)}{σ:L2.St}{H:Hp}{s:Shared}
theorem JF(I:Inv X pins σ H s):∀{l:List (Addr×Bool)} {r r':List (List V)},SrcsR X.K H l r->SrcsR X.K H l r'->r=r'
 |_,_,_,.nil,.nil=>rfl
 |_,_,_,.tup h t,.tup h' t'=>by rw[I.tuple_inj h h',JF I t t']
 |_,_,_,.lst h t,.lst h' t'=>by rw[I.list_inj h h',JF I t t']
theorem Fd(I:Inv X pins σ H s):∀{l:List (Addr×Bool)} {r:List (List V)},SrcsR X.K H l r->∃us:List (List Value),us.length=l.length /\
 (∀(j:Nat) p u,l[j]?=some p->us[j]?=some u->SrcAt s.heap ⟨0,p.1,p.2⟩ u)/\(∀(i:Nat) row,rowAt r i=some row->∃iU,rowAt us i=some iU/\Vals row iU)/\∀(i:Nat),rowAt r i=none->rowAt us i=none
 |_,_,.nil=>⟨[],rfl,λj p u h=>by simp at h,λi row h=>by cases h;exact⟨[],rfl,.nil⟩,λi h=>by cases h⟩
 |_,_,@SrcsR.tup _ _ a xs l r h t=>by
  obtain⟨us,h1,h2,h3,h4⟩:=Fd I t;obtain⟨its,rv,ht,hz⟩:=I.tuple h;refine⟨its::us,by simp[h1],λj p u e1 e2=>?_,λi row e=>?_,λi e=>?_⟩
  .cases j with
   |zero=>simp at e1 e2;subst e1;subst e2;unfold SrcAt;rw[if_pos rfl];exact ht
   |succ j=>exact h2 j p u (by simpa using e1) (by simpa using e2)
  .simp only[rowAt,bf,aX] at e;obtain⟨x,e1,r',e2,rfl⟩:=e;obtain⟨w,ew,eY⟩:=rv.get e1;obtain⟨ur,e3,r3⟩:=h3 i r' e2;exact⟨w::ur,by simp[rowAt,ew,e3],.cons eY r3⟩
  .cases q:xs[i]? with
   |none=>simp[rowAt,rv.none_of q]
   |some x =>
    have e':rowAt r i=none:=by
     cases q2:rowAt r i with
     |none=>rfl
     |some z=>simp[rowAt,q,q2] at e
    obtain⟨w,ew,_⟩:=rv.get q;simp[rowAt,ew,h4 i e']
 |_,_,@SrcsR.lst _ _ a xs l r h t=>by
  obtain⟨us,h1,h2,h3,h4⟩:=Fd I t;obtain⟨its,rv,ht,hz⟩:=I.list h;refine⟨its::us,by simp[h1],λj p u e1 e2=>?_,λi row e=>?_,λi e=>?_⟩
  .cases j with
   |zero=>simp at e1 e2;subst e1;subst e2;unfold SrcAt;rw[if_neg gA];exact ht.isList
   |succ j=>exact h2 j p u (by simpa using e1) (by simpa using e2)
  .simp only[rowAt,bf,aX] at e;obtain⟨x,e1,r',e2,rfl⟩:=e;obtain⟨w,ew,eY⟩:=rv.get e1;obtain⟨ur,e3,r3⟩:=h3 i r' e2;exact⟨w::ur,by simp[rowAt,ew,e3],.cons eY r3⟩
  .cases q:xs[i]? with
   |none=>simp[rowAt,rv.none_of q]
   |some x =>
    have e':rowAt r i=none:=by
     cases q2:rowAt r i with
     |none=>rfl
     |some z=>simp[rowAt,q,q2] at e
    obtain⟨w,ew,_⟩:=rv.get q;simp[rowAt,ew,h4 i e']
def Rc{a:Addr}{u:HO}(h:Rd H a u):∃o,H a=some o:=by
 rcases h with h|⟨o,h⟩
 .exact⟨_,h⟩
 .exact⟨_,h⟩
theorem k_ne(I:Inv X pins σ H s){a b:Addr}{o:Obj}(hk:X.K.lookup a=some o)(hf:jY X pins H b):a≠b:=by
 rintro rfl
 have hb:=I.ok.mod.kin a o hk;rcases hf.2.2.2.1 with z|z
 .exact I.ok.noex a o hb z
 .exact absurd (dM (dM (cG hb) I.ok.bsz) z) (iw _)
theorem tB(I:Inv X pins σ H s){b:Addr}(hf:jY X pins H b):∀{l:List (Addr×Bool)} {r:List (List V)},SrcsR X.K H l r->∀p∈l,p.1≠b
 |_,_,.nil,p,hp=>by cases hp
 |_,_,.tup h t,p,hp=>by
  rcases List.mem_cons.mp hp with rfl|hp
  .rcases h with h|⟨o,_,_,hk,_⟩
   .obtain⟨o,e⟩:=Rc h;exact gB e hf.1
   .exact k_ne I hk hf
  .exact tB I hf t p hp
 |_,_,.lst h t,p,hp=>by
  rcases List.mem_cons.mp hp with rfl|hp
  .rcases h with h|⟨o,_,_,hk,_⟩
   .obtain⟨o,e⟩:=Rc h;exact gB e hf.1
   .exact k_ne I hk hf
  .exact tB I hf t p hp
theorem Ig(I:Inv X pins σ H s):∀{l:List (Addr×Bool)} {r:List (List V)},SrcsR X.K H l r->∀p∈l,fj s.heap p
 |_,_,.nil,p,hp=>by cases hp
 |_,_,.tup h t,p,hp=>by
  rcases List.mem_cons.mp hp with rfl|hp
  .obtain⟨its,_,ht,_⟩:=I.tuple h;unfold fj;rw[if_pos rfl];exact⟨_,ht⟩
  .exact Ig I t p hp
 |_,_,.lst h t,p,hp=>by
  rcases List.mem_cons.mp hp with rfl|hp
  .obtain⟨its,_,ht,_⟩:=I.list h;unfold fj;rw[if_neg gA];exact⟨_,ht.isList⟩
  .exact Ig I t p hp
theorem Inv.turnedN{t':Nat}{h':Heap}{ch:List Addr}(I:Inv X pins σ H s)(k:∀b o,b∉ch->s.heap.get? b=some o->h'.get? b=some o)(hf:∀b∈ch,jY X pins H b):Inv X pins σ H { s with heap:=h',toks:=t' }:=by
 have o4:∀b u,H b=some u->b∉ch:=λb u e hb=>by rw[(hf b hb).1] at e;cases e
 refine I.step (g':=s.gens) (d':=s.drawn) (ch:=ch) (λb hb=>⟨(hf b hb).2.2.2.1,(hf b hb).2.1,(hf b hb).2.2.2.2.1,(hf b hb).2.2.2.2.2⟩) (λb o _ _ hc e _=>k b o hc e) (λb o _ _ hc e _=>⟨o.slots,k b o hc e⟩) (λ_ _ _ _ n=>n)
  (λb o hc e=>⟨o,k b o hc e⟩) (λ_ _ e=>e) (λ_ _ _ e=>e) (λb ps e=>⟨#[],by rw[e];simp⟩) (λm hm=>?_) (λb u e=>?_) I.bare
 .obtain⟨o,es,ep,ho,r⟩:=hm;exact⟨o,es,ep,k _ o (λhb=>(hf _ hb).2.1 rfl) ho,r⟩
 .refine(I.hok b u e).stay (λc v hc q=>k c v ?_ q) (λ_ q=>q) λ_ _ q=>q;rcases hc with rfl|hc
  .exact o4 _ _ e
  .exact o4 _ _ hc
theorem Inv.turnedT{t':Nat}{h':Heap}{ch:List Addr}{row:List V}{iU:List Value}(I:Inv X pins σ H s)(k:∀b o,b∉ch->s.heap.get? b=some o->h'.get? b=some o)(hf:∀b∈ch,jY X pins H b)(ht:h'.get? s.heap.objs.size=some (dh iU))(rv:Vals row iU)(hz:row.length<=sizeLine):Inv X pins σ (upd H s.heap.objs.size (.tup row)) { s with heap:=h',toks:=t' }:=by
 have o4:∀b u,H b=some u->b∉ch:=λb u e hb=>by rw[(hf b hb).1] at e;cases e
 have hn:H s.heap.objs.size=none:=I.hok.fresh (bZ _);have old:∀b o,s.heap.get? b=some o->b≠s.heap.objs.size:=λb o e=>dz (cG e);refine I.step (g':=s.gens) (d':=s.drawn) (ch:=ch) (λb hb=>⟨(hf b hb).2.2.2.1,(hf b hb).2.1,(hf b hb).2.2.2.2.1,(hf b hb).2.2.2.2.2⟩) (λb o _ _ hc e _=>k b o hc e) (λb o _ _ hc e _=>⟨o.slots,k b o hc e⟩)
  (λb o _ e n=>by rw[cu (old b o e)];exact n)
  (λb o hc e=>⟨o,k b o hc e⟩) (λb xs e=>by rw[cu (gB e hn)];exact e) (λb o u e=>by rw[cu (gB e hn)];exact e) (λb ps e=>⟨#[],by rw[cu (gB e hn),e];simp⟩) (λm hm=>?_) (λb u e=>?_) I.bare
 .obtain⟨o,es,ep,ho,r⟩:=hm;exact⟨o,es,ep,k _ o (λhb=>(hf _ hb).2.1 rfl) ho,r⟩
 .by_cases hb:b=s.heap.objs.size
  .subst hb;rw[fJ] at e;cases e;exact⟨hz,iU,rv,⟨_,ht,rfl,_,rfl⟩⟩
  .rw[cu hb] at e;refine(I.hok b u e).stay (λc v hc q=>k c v ?_ q) (λc q=>by rw[cu (gB q hn)];exact q) λc xs q=>by rw[cu (gB q hn)];exact q
   rcases hc with rfl|hc
   .exact o4 _ _ e
   .exact o4 _ _ hc
end
structure wX(z TI TO:Addr)(ps:List Sub):Prop where
 TIz:TI≠z
 TOz:TO≠z
 TITO:TI≠TO
 iz:∀p∈ps,p.it≠z
 iTI:∀p∈ps,p.it≠TI
 iTO:∀p∈ps,p.it≠TO
 nd:(ps.map (·.it)).Nodup
theorem zlE{P:Program}{w:World}{K:FgA}{es:List Expr}{kk:Nat}{tp:Pos}{z TI TO:Addr}{ps:List Sub}{srcs:List (Addr×Bool)}(D:wX z TI TO ps)(gD:ps.map (λp=>(p.src,p.tup))=srcs)(hne:ps≠[])(hps:ps.length<=100):
 uG P w K (.Tuple es kk tp) (Itz K srcs) (z::TI::TO::ps.map (·.it)) z (λi h=>IsZip h z TI TO .none/\h.get? TI=some (dh (ps.map λp=>Value.ref p.it))/\(∃ys,h.get? TO=some (dh ys)/\ys.length=ps.length)/\∀p∈ps,cF h p i) where
 mem:=fG
 obj:=λi h ⟨h1,h2,⟨ys,h3,_⟩,h4⟩ b hb=>by
  rcases List.mem_cons.mp hb with rfl|hb
  .exact⟨_,h1,λv z=>by cases z⟩
  rcases List.mem_cons.mp hb with rfl|hb
  .exact⟨_,h2,λv z=>by cases z⟩
  rcases List.mem_cons.mp hb with rfl|hb
  .exact⟨_,h3,λv z=>by cases z⟩
  obtain⟨p,hp,rfl⟩:=List.mem_map.mp hb;exact(h4 p hp).obj
 keep:=λi h h' ⟨h1,h2,⟨ys,h3,h3'⟩,h4⟩ k=>by refine⟨k z fG _ h1,k TI (by simp) _ h2,⟨ys,k TO (by simp) _ h3,h3'⟩,λp hp=>(h4 p hp).at λo e=>k _ ?_ o e⟩;exact cQ _ (cQ _ (cQ _ (List.mem_map.mpr ⟨p,hp,rfl⟩)))
 item:=by
  intro X hP hw hK hc i pins s σ H E I hf st hg;subst hP hw hK;obtain⟨h1,h2,⟨ys,h3,h3'⟩,h4⟩:=st;obtain⟨xss,row,hS,hrow⟩:=hg;obtain⟨us,u1,u2,u3,u4⟩:=Fd I hS;obtain⟨iU,e1,rv⟩:=u3 i row hrow;have hlen:srcs.length=ps.length:=by rw[<-gD,dJ]
  have fz:=hf z fG;have Cq:=hf TO (by simp);have fit:∀p∈ps,jY X pins H p.it:=λp hp=>hf _ (cQ _ (cQ _ (cQ _ (List.mem_map.mpr ⟨p,hp,rfl⟩))));have sm:∀p∈ps,(p.src,p.tup)∈srcs:=λp hp=>by rw[<-gD];exact List.mem_map.mpr ⟨p,hp,rfl⟩
  have DD:w6 z TI TO ps:=⟨D.TIz,D.TOz,D.TITO,D.iz,D.iTI,D.iTO,λp hp=>tB I fz hS _ (sm p hp),λp hp=>tB I Cq hS _ (sm p hp),λp hp q hq=>tB I (fit q hq) hS _ (sm p hp),D.nd⟩
  have ul:us.length=ps.length:=by rw[u1,hlen]
  have hrl:iU.length=ps.length:=by rw[T5 e1,ul]
  have hat:∀(j:Nat) p xs,ps[j]?=some p->us[j]?=some xs->SrcAt s.heap p xs:=λj p xs hp hx=>by
   have hj:srcs[j]?=some (p.src,p.tup):=by rw[<-gD,jg,hp];rfl
   exact u2 j _ xs hj hx
  refine zkq DD hne hps h1 h2 h3 h3' ul hrl h4 hat (λj xs x hx hr=>T4 e1 hx hr) λh' a1 a2 a3 a4 a5 a6=>?_;refine⟨_,rfl,wpAny_letOwnedTupleGo_zip (s:={ s with heap:=h' }) a1 λh'' b1 b2=>?_⟩;have Oo:s.heap.objs.size≠z:=Nat.ne_of_gt (cG h1);have kp:∀c o,c∉(z::TO::ps.map (·.it))->s.heap.get? c=some o->h''.get? c=some o:=λc o hc e=>by have c1:c≠z:=λq=>hc (by simp[q]);have c2:c≠TO:=λq=>hc (by simp[q]);have c3:∀p∈ps,c≠p.it:=λp hp q=>hc (cQ _ (cQ _ (List.mem_map.mpr ⟨p,hp,q.symm⟩)));exact b2.extBut _ _ c1 (a6 c o c1 c2 c3 e)
  have fch:∀b∈z::TO::ps.map (·.it),jY X pins H b:=λb hb=>by
   rcases List.mem_cons.mp hb with rfl|hb
   .exact fz
   rcases List.mem_cons.mp hb with rfl|hb
   .exact Cq
   exact hf b (cQ _ (cQ _ (cQ _ hb)))
  have line:(100:Nat)<=sizeLine:=by decide
  have I1:Inv X pins σ (upd H s.heap.objs.size (.tup row)) { s with heap:=h'' }:=Inv.turnedT (t':=s.toks) I kp fch (b2.extBut _ _ Oo a4) rv (by rw[rv.length,hrl];omega);refine⟨.ref s.heap.objs.size,_,I1,rfl,⟨s.heap.objs.size,row,rfl,I.hok.fresh (bZ _),rfl,λxss' h=>by rw[JF I h hS];exact hrow⟩,⟨b1,?_,⟨iU,b2.extBut _ _ D.TOz a2,hrl⟩,λp hp=>(a3 p hp).at λo e=>b2.extBut _ _ (D.iz p hp) e⟩,λb hb=>?_⟩
  .exact b2.extBut _ _ D.TIz (a6 _ _ D.TIz D.TITO (λp hp=>(D.iTI p hp).symm) h2)
  .have hlt:b<s.heap.objs.size:=by
    rcases List.mem_cons.mp hb with rfl|hb
    .exact cG h1
    rcases List.mem_cons.mp hb with rfl|hb
    .exact cG h2
    rcases List.mem_cons.mp hb with rfl|hb
    .exact cG h3
    obtain⟨p,hp,rfl⟩:=List.mem_map.mp hb;obtain⟨o,e,_⟩:=(h4 p hp).obj;exact cG e
   rw[cu (dz hlt)];exact(hf b hb).1
 done:=by
  intro X hP hw hK hc i pins s σ H E I hf st hg;subst hP hw hK;obtain⟨h1,h2,⟨ys,h3,h3'⟩,h4⟩:=st;obtain⟨xss,hS,hrow⟩:=hg;obtain⟨us,u1,u2,u3,u4⟩:=Fd I hS;have e1:=u4 i hrow;obtain⟨j₀,j1,j2,j3⟩:=U4 e1;have hlen:srcs.length=ps.length:=by rw[<-gD,dJ]
  have fz:=hf z fG;have Cq:=hf TO (by simp);have fit:∀p∈ps,jY X pins H p.it:=λp hp=>hf _ (cQ _ (cQ _ (cQ _ (List.mem_map.mpr ⟨p,hp,rfl⟩))));have sm:∀p∈ps,(p.src,p.tup)∈srcs:=λp hp=>by rw[<-gD];exact List.mem_map.mpr ⟨p,hp,rfl⟩
  have DD:w6 z TI TO ps:=⟨D.TIz,D.TOz,D.TITO,D.iz,D.iTI,D.iTO,λp hp=>tB I fz hS _ (sm p hp),λp hp=>tB I Cq hS _ (sm p hp),λp hp q hq=>tB I (fit q hq) hS _ (sm p hp),D.nd⟩
  have ul:us.length=ps.length:=by rw[u1,hlen]
  have hat:∀(j:Nat) p xs,ps[j]?=some p->us[j]?=some xs->SrcAt s.heap p xs:=λj p xs hp hx=>by
   have hj:srcs[j]?=some (p.src,p.tup):=by rw[<-gD,jg,hp];rfl
   exact u2 j _ xs hj hx
  refine zmk (I.ok.hd hc) DD hne hps h1 h2 h3 h3' ul h4 hat (by omega) j2 j3 λh' a6=>⟨rfl,?_⟩
  refine Inv.turnedN (t':=s.toks) (ch:=z::TO::ps.map (·.it)) I (λc o hc e=>a6 c o (λq=>hc (by simp[q])) (λq=>hc (by simp[q])) (λp hp q=>hc (cQ _ (cQ _ (List.mem_map.mpr ⟨p,hp,q.symm⟩)))) e) λb hb=>?_;rcases List.mem_cons.mp hb with rfl|hb
  .exact fz
  rcases List.mem_cons.mp hb with rfl|hb
  .exact Cq
  exact hf b (cQ _ (cQ _ (cQ _ hb)))
 self:=λ_ _ _ _ _ st h=>wpAny_pyIter_zip st.1 h
def zmX:bootBuiltins "zip" = some (.type "zip"):=by decide +kernel
theorem arity(l:List Value)(h2:2<=l.length)(h4:l.length<=4):checkTypeCall "zip" ⟨l,[]⟩=pure ()/\checkBuiltinCall "zip.__new__" ⟨.type "zip" :: l,[]⟩=pure ()/\∀obj,argsOk "object.__init__" ⟨obj::l,[]⟩:=by
 have ao:∀(k:List Value),k.length<=5->k≠[]->argsOk "object.__init__" ⟨k,[]⟩:=λk hk hn=>by
  unfold argsOk;rw[signature?_of (id := "object.__init__") (n:=['_','_','t','i','n','i','_','_']) (o:=['t','c','e','j','b','o']) (by kernel_rfl) F.owner_object];rcases k with _|⟨k1,_|⟨k2,_|⟨k3,_|⟨k4,_|⟨k5,_|⟨k6,r⟩⟩⟩⟩⟩⟩
  .exact absurd rfl hn
  .kernel_rfl
  .kernel_rfl
  .kernel_rfl
  .kernel_rfl
  .kernel_rfl
  .exact absurd hk (by simp only[jf];omega)
 rcases l with _|⟨a,_|⟨b,_|⟨c,_|⟨d,_|⟨e,r⟩⟩⟩⟩⟩
 .exact absurd h2 (by simp only[uQ];omega)
 .exact absurd h2 (by simp only[jf,uQ];omega)
 .exact⟨by kernel_rfl,by kernel_rfl,λo=>ao _ (by simp) (by simp)⟩
 .exact⟨by kernel_rfl,by kernel_rfl,λo=>ao _ (by simp) (by simp)⟩
 .exact⟨by kernel_rfl,by kernel_rfl,λo=>ao _ (by simp) (by simp)⟩
 .exact absurd h4 (by simp only[jf];omega)
noncomputable def BL(K:FgA)(ta:TA):TI:=λσ H R=>ta σ H λvs H1=>∃srcs:List (Addr×Bool),vs=srcs.map (λp=>V.ref p.1)/\2<=srcs.length/\srcs.length<=4/\(∃xss,SrcsR K H1 srcs xss)/\R (Itz K srcs) H1
theorem Uc:∀{l:List (Addr×Bool)} {us:List Value},Vals (l.map λp=>V.ref p.1) us->us=l.map λp=>Value.ref p.1
 |[],_,.nil=>rfl
 |_::_,_,.cons r t=>by cases r;rw[Uc t];rfl
theorem zqu{X:Cx}{es ts:List Expr}{kk:Nat}{tp p pos:Pos}{ta:TA}{e:Expr}(hg:Gl X "zip")(hm:X.mg "zip" = none)(ha:PA X (e::es) ta)(hst:starEach (e::es) X.env=(false,eval e X.env)::starEach es X.env)(hpl:(backTo pos (starEach es X.env)).any (·.1)=false):PI X (.Tuple ts kk tp) (.Call (.Name "zip" p) (e::es) [] pos) (BL X.K ta):=by
 intro pins s σ H R I h;refine Call_ (sZ I hg hm zmX (PyProof.Rows.callWith_type1 (bQ (ha pos pins s σ H _ I h) λus s1 ⟨vs,H1,I1,r1,q1⟩=>?_) hst hpl));obtain⟨srcs,e0,h2,h4,⟨xss,hS⟩,q⟩:=q1;subst e0;have eu:=Uc r1;subst eu;obtain⟨c1,c2,c3⟩:=arity (srcs.map λp=>Value.ref p.1) (by simpa using h2) (by simpa using h4);refine callType_new F.called_zip (by decide) c1 c2 c3 F.entry_zip_new (zkA (l:=srcs) (by omega)) ⟨Ig I1 hS,λh' z1 z2 z3 z4 z5 z6=>?_⟩;show _/\_;refine⟨⟨_,z1,rfl⟩,?_⟩;refine wpAny_pyIter_zip (s:={ s1 with heap:=h' }) z1 ?_;have I2:Inv X pins σ H1 { s1 with heap:=h' }:=I1.kept (t':=s1.toks) z6;have hl:(dN s1.heap.objs.size srcs).length=srcs.length:=JT _ _;have hmap:∀(n:Nat) (l:List (Addr×Bool)),(dN n l).map (λp=>(p.src,p.tup))=l:=λn l=>by
  induction l generalizing n with
  |nil=>rfl
  |cons a r ih=>obtain⟨a,t⟩:=a;rw[dN,jq,ih]
 have lt:∀p∈dN s1.heap.objs.size srcs,s1.heap.objs.size<=p.it/\p.it<s1.heap.objs.size+srcs.length:=λp hp=>⟨(Ek _ _ p hp).1,(Ek _ _ p hp).2.1⟩
 refine⟨_,_,_,_,H1,rfl,I2,zlE (K:=X.K) (srcs:=srcs) (ps:=dN s1.heap.objs.size srcs) (z:=s1.heap.objs.size+srcs.length+2) (TI:=s1.heap.objs.size+srcs.length) (TO:=s1.heap.objs.size+srcs.length+1)
  ⟨dz (by omega),dz (by omega),dz (by omega),λp hp=>dz (dM (lt p hp).2 (by omega)),λp hp=>dz (lt p hp).2,λp hp=>dz (dM (lt p hp).2 (by omega)),Rz _ _⟩ (hmap _ _) (λz=>by rw[z] at hl;simp at hl;omega) (by omega),⟨z1,z2,⟨_,z3,by simp⟩,z4⟩,λb hb=>?_,q⟩
 have hge:s1.heap.objs.size<=b:=by
  rcases List.mem_cons.mp hb with rfl|hb
  .omega
  rcases List.mem_cons.mp hb with rfl|hb
  .omega
  rcases List.mem_cons.mp hb with rfl|hb
  .omega
  obtain⟨p,hp,rfl⟩:=List.mem_map.mp hb;exact(lt p hp).1
 exact I1.fpOk hge (I1.hok.fresh hge)
end MZ
end
section
namespace MX
open PySem PySem.Spec PyProof.Rows L2
inductive yQ where
 |fix (xs:List D)|lst (n:Nat)|zip (ds:List D)|itm (n m:Nat)|enm (n:Nat)
noncomputable def vK(S:So):D->Option (List D)
 |.tup xs=>some xs
 |.ref n=>match S[n]? with
  |some (.lst xs)=>some xs
  |some (.frz xs)=>some xs
  |_=>none
 |_=>none
noncomputable def pU(S:So):List D->Option (List (List D))
 |[]=>some []
 |d::r=>(vK S d).bind λxs=>(pU S r).map (xs::·)
noncomputable def Pr:List (List D)->Option Nat
 |[]=>none
 |[xs]=>some xs.length
 |xs::r=>(Pr r).map λn=>min xs.length n
noncomputable def di:yQ->Nat->So->Option (Option D)
 |.fix xs,i,_=>some xs[i]?
 |.lst n,i,S=>match S[n]? with
  |some (.lst xs)=>some xs[i]?
  |some (.frz xs)=>some xs[i]?
  |_=>none
 |.zip ds,i,S=>(pU S ds).map λxss=>(MZ.rowAt xss i).map D.tup
 |.itm n m,i,S=>match S[n]? with
  |some (.dct xs)=>if xs.length=m then some ((xs[i]?).map λx => .tup [kD x.1,.int x.2]) else none
  |_=>none
 |.enm n,i,S=>match S[n]? with
  |some (.lst xs)=>some ((xs[i]?).map λx => .tup [.int (i:Nat),x])
  |_=>none
noncomputable def sG:yQ->So->Option Nat
 |.fix xs,_=>some xs.length
 |.lst n,S=>match S[n]? with
  |some (.lst xs)=>some xs.length
  |some (.frz xs)=>some xs.length
  |_=>none
 |.zip ds,S=>(pU S ds).bind Pr
 |.itm n m,S=>match S[n]? with
  |some (.dct xs)=>if xs.length=m then some m else none
  |_=>none
 |.enm n,S=>match S[n]? with
  |some (.lst xs)=>some xs.length
  |_=>none
noncomputable abbrev IF:=Sg->So->Option (yQ×So)
def yP(K:FgA)(H₀:Hp)(α₀:List Addr)(j:yQ)(J:It):Prop:=∀(i:Nat) H α S,Ext K H₀ α₀ H α->aB K H α S ->
 (di j i S=some none->J.stop i H)/\∀d,di j i S=some (some d)->J.go i H/\∀x H',J.yld i H x H'->Same H H'/\Rep K H' α d x
noncomputable def Ww(K:FgA)(f:IF):TI:=λσ H R=>∃σd S α j S',bH K H α σd σ/\aB K H α S/\f σd S=some (j,S')/\∀J H' α',aB K H' α' S'->Ext K H α H' α'->yP K H' α' j J->R J H'
def SI(X:Cx)(tg e:Expr)(f:IF):Prop:=PI X tg e (Ww X.K f)
noncomputable def eF(fe:EF):IF:=λσ S=>(fe σ S).bind λr=>match r.1 with
 |.tup xs=>some (.fix xs,r.2)
 |.ref n=>match r.2[n]? with
  |some (.lst _)=>some (.lst n,r.2)
  |some (.frz _)=>some (.lst n,r.2)
  |_=>none
 |_=>none
noncomputable def gO(lo:Int)(n:Nat):List D:=(List.range n).map λk => .int (lo+(k:Nat))
noncomputable def gR(fa:AF):IF:=λσ S=>(fa σ S).bind λr=>match r.1 with
 |[.int j]=>if -(2 ^ 62)<=j/\j<2 ^ 62 then some (.fix (gO 0 j.toNat),r.2) else none
 |_=>none
noncomputable def v8(fa:AF):IF:=λσ S=>(fa σ S).bind λr=>match r.1 with
 |[.int i,.int j]=>if(-(2 ^ 62)<=i/\i<2 ^ 62) /\ -(2 ^ 62)<=j/\j<2 ^ 62 then some (.fix (gO i (j - i).toNat),r.2) else none
 |_=>none
noncomputable def qz(fa:AF):IF:=λσ S=>(fa σ S).bind λr=>if 2<=r.1.length/\r.1.length<=4 then(pU r.2 r.1).map λ_=>(.zip r.1,r.2) else none
inductive iZ(K:FgA)(H:Hp)(α:List Addr):List D->List (Addr×Bool)->Prop
 |nil:iZ K H α [] []
 |tup {a:Addr} {xs:List D} {vs:List V} {ds:List D} {l:List (Addr×Bool)}:dR K H a vs->aH K H α xs vs->iZ K H α ds l->iZ K H α (.tup xs::ds) ((a,true)::l)
 |ref {a:Addr} {n:Nat} {ds:List D} {l:List (Addr×Bool)}:α[n]?=some a->iZ K H α ds l->iZ K H α (.ref n::ds) ((a,false)::l)
inductive jo(K:FgA)(H:Hp)(α:List Addr):List (List D)->List (List V)->Prop
 |nil:jo K H α [] []
 |cons {xs:List D} {vs:List V} {r:List (List D)} {q:List (List V)}:aH K H α xs vs->jo K H α r q->jo K H α (xs::r) (vs::q)
theorem zX{K:FgA}{H H1:Hp}{α α1:List Addr}{S1:So}(x1:Ext K H α H1 α1)(s1:aB K H1 α1 S1):∀{ds:List D} {l:List (Addr×Bool)} {xss:List (List D)},iZ K H α ds l->pU S1 ds=some xss->∃lB,MZ.SrcsR K H1 l lB/\jo K H1 α1 xss lB
 |_,_,_,.nil,e=>by cases e;exact⟨[],.nil,.nil⟩
 |_,_,_,.tup h r t,e=>by simp only[pU,vK,cg,aX] at e;obtain⟨Wi,e1,rfl⟩:=e;obtain⟨lB,h1,h2⟩:=zX x1 s1 t e1;exact⟨_,.tup (x1.tups _ _ h) h1,.cons (r.mono x1) h2⟩
 |_,_,_,@iZ.ref _ _ _ a n ds l h t,e=>by
  simp only[pU,bf,aX] at e;obtain⟨xs,e0,Wi,e1,rfl⟩:=e;obtain⟨lB,h1,h2⟩:=zX x1 s1 t e1;have ha:=x1.pre _ _ h;simp only[vK] at e0;split at e0
  .rename_i q;cases e0;obtain⟨vs,q1,q2⟩:=s1.obj _ _ _ q ha;exact⟨_,.lst (dG.of q1) h1,.cons q2 h2⟩
  .rename_i q;cases e0;obtain⟨vs,q1,q2⟩:=s1.obj _ _ _ q ha;exact⟨_,.lst q1.sq h1,.cons q2 h2⟩
  .cases e0
theorem Jx{K:FgA}{H:Hp}{α:List Addr}{i:Nat}:∀{xss:List (List D)} {lB:List (List V)},jo K H α xss lB->(MZ.rowAt xss i=none->MZ.rowAt lB i=none)/\∀row,MZ.rowAt xss i=some row->∃qX,MZ.rowAt lB i=some qX/\aH K H α row qX
 |_,_,.nil=>⟨λh=>(by cases h),λrow h=>(by cases h;exact⟨[],rfl,.nil⟩)⟩
 |_,_,@jo.cons _ _ _ xs vs r q h t=>by
  obtain⟨i1,i2⟩:=Jx (i:=i) t;refine⟨λe=>?_,λrow e=>?_⟩
  .cases h1:xs[i]? with
   |none =>
    have:vs[i]?=none:=jN (by rw[<-h.length];exact List.getElem?_eq_none_iff.mp h1);simp[MZ.rowAt,this]
   |some x =>
    have e':MZ.rowAt r i=none:=by
     cases q2:MZ.rowAt r i with
     |none=>rfl
     |some z=>simp[MZ.rowAt,h1,q2] at e
    obtain⟨v,hv,_⟩:=h.get h1;simp[MZ.rowAt,hv,i1 e']
  .simp only[MZ.rowAt,bf,aX] at e;obtain⟨x,e1,r',e2,rfl⟩:=e;obtain⟨v,hv,rv⟩:=h.get e1;obtain⟨vr,e3,r3⟩:=i2 r' e2;exact⟨v::vr,by simp[MZ.rowAt,hv,e3],.cons rv r3⟩
theorem zoT{l:List (Addr×Bool)}(h:iZ K H α ds l):yP K H α (.zip ds) (MZ.Itz K l):=λi H1 α1 S1 x1 s1=>by
 simp only[di,aX];refine⟨fun⟨xss,e1,e2⟩=>?_,λd ⟨xss,e1,row,e2,e9⟩=>?_⟩
 .obtain⟨lB,h1,h2⟩:=zX x1 s1 h e1;exact⟨lB,h1,(Jx h2).1 (by simpa using e2)⟩
 .subst e9;obtain⟨lB,h1,h2⟩:=zX x1 s1 h e1;obtain⟨qX,e3,r3⟩:=(Jx h2).2 row e2;refine⟨⟨lB,qX,h1,e3⟩,λx H' y=>?_⟩;obtain⟨p,row',rfl,hp,rfl,hy⟩:=y;have:=hy lB h1;rw[e3] at this;cases this;exact⟨lO hp,.tup (dR.of fJ) (r3.mono (Same.ext (lO hp)))⟩
theorem Rx{K:FgA}{H:Hp}{α:List Addr}{S:So}(hs:aB K H α S):∀{ds:List D} {vs:List V} {xss:List (List D)},aH K H α ds vs->pU S ds=some xss->∃l,iZ K H α ds l/\vs=l.map λp=>V.ref p.1
 |_,_,_,.nil,_=>⟨[],.nil,rfl⟩
 |_,_,_,.cons r rr,e=>by
  simp only[pU,bf,aX] at e;obtain⟨xs,e0,Wi,e1,rfl⟩:=e;obtain⟨l,h1,h2⟩:=Rx hs rr e1;cases r with
  |tup h q=>exact⟨_,.tup h q h1,by rw[h2];rfl⟩
  |ref h=>exact⟨_,.ref h h1,by rw[h2];rfl⟩
  |_=>cases e0
theorem JD{K:FgA}{H:Hp}{α:List Addr}:∀{ds:List D} {l:List (Addr×Bool)},iZ K H α ds l->ds.length=l.length
 |_,_,.nil=>rfl
 |_,_,.tup _ _ t=>by simp[JD t]
 |_,_,.ref _ t=>by simp[JD t]
section
variable {X:Cx}{tg:Expr}
theorem PI.or{t t':TI}(h:PI X tg e t)(h':PI X tg e t'):PI X tg e (λσ H R=>t σ H R\/t' σ H R):=λpins s σ H R I q=>by
 rcases q with q|q
 .exact h pins s σ H R I q
 .exact h' pins s σ H R I q
theorem zoU{vs:List V}(h:dR K H a vs)(r:aH K H α ds vs):yP K H α (.fix ds) (O8 K a):=λi H1 α1 S1 x1 s1=>by
 have h1:=x1.tups _ _ h;have r1:=r.mono x1;refine⟨λe=>?_,λd e=>?_⟩
 .have e':ds[i]?=none:=Option.some.inj e;exact⟨vs,h1,by rw[<-r.length];exact List.getElem?_eq_none_iff.mp e'⟩
 .obtain⟨v,e1,q⟩:=r1.get (Option.some.inj e);refine⟨⟨vs,v,h1,e1⟩,λx H' y=>?_⟩;obtain⟨rfl,y⟩:=y;have:=y vs h1;rw[e1] at this;cases this;exact⟨Same.refl _,q⟩
theorem Ri(h:α[n]?=some a):yP K H α (.lst n) (yO K a):=λi H1 α1 S1 x1 s1=>by
 have h1:=x1.pre _ _ h;have core:∀ds,(∃vs,dG K H1 a vs/\aH K H1 α1 ds vs)->((some ds[i]?=some (none:Option D))->(yO K a).stop i H1)/\∀d,some ds[i]?=some (some d)->(yO K a).go i H1/\∀x H',(yO K a).yld i H1 x H'->Same H1 H'/\Rep K H' α1 d x:=λds ⟨vs,q,r⟩=>by
  refine⟨λe=>?_,λd e=>?_⟩
  .have e':ds[i]?=none:=Option.some.inj e;exact⟨vs,q,by rw[<-r.length];exact List.getElem?_eq_none_iff.mp e'⟩
  .obtain⟨v,e1,rv⟩:=r.get (Option.some.inj e);refine⟨⟨vs,v,q,e1⟩,λx H' y=>?_⟩;obtain⟨rfl,y⟩:=y;have:=y vs q;rw[e1] at this;cases this;exact⟨Same.refl _,rv⟩
 unfold di;cases hm:S1[n]? with
 |none=>simp only[hm];exact⟨λe=>(nomatch e),λd e=>(nomatch e)⟩
 |some o =>
  have hob:=s1.obj _ _ _ hm h1;cases o with
  |lst ds=>simp only[hm];obtain⟨vs,q,r⟩:=hob;exact core ds ⟨vs,dG.of q,r⟩
  |frz ds=>simp only[hm];obtain⟨vs,q,r⟩:=hob;exact core ds ⟨vs,q.sq,r⟩
  |ins C fs=>simp only[hm];exact⟨λe=>(nomatch e),λd e=>(nomatch e)⟩
  |dct xs=>simp only[hm];exact⟨λe=>(nomatch e),λd e=>(nomatch e)⟩
  |tbl x=>simp only[hm];exact⟨λe=>(nomatch e),λd e=>(nomatch e)⟩
theorem J6{lo:Int}:(gO lo n)[i]?=if i<n then some (.int (lo+(i:Nat))) else none:=by
 unfold gO;rw[jg];by_cases h:i<n
 .rw[if_pos h,List.getElem?_range h];rfl
 .rw[if_neg h,jN (by simpa using h)];rfl
theorem Uj{lo:Int}:yP K H α (.fix (gO lo n)) (CP lo n):=λi H1 α1 S1 x1 s1=>by
 simp only[di];rw[J6];by_cases h:i<n
 .rw[if_pos h];refine⟨λe=>(nomatch e),λd e=>⟨h,λx H' y=>?_⟩⟩;obtain⟨rfl,rfl⟩:=y;cases e;exact⟨Same.refl _,.int _⟩
 .rw[if_neg h];exact⟨λ_=>Nat.le_of_not_lt h,λd e=>(nomatch e)⟩
theorem ZX{fe:EF}(he:SE X e fe):SI X tg e (eF fe):=by
 refine PI.imp (PI.or (Yr he) (zoj he)) λσ H R h=>?_;obtain⟨σd,S,α,j,S',hv,hs,hf,k⟩:=h;unfold eF at hf;simp only[bf] at hf;obtain⟨⟨d,S1⟩,e1,e2⟩:=hf;cases d with
 |tup xs =>
  cases e2;refine .inl ⟨σd,S,α,.tup xs,_,hv,hs,e1,λv H1 α1 s1 x1 r1=>?_⟩;cases r1 with
  |tup h r=>exact⟨_,rfl,⟨_,h⟩,k _ _ _ s1 x1 (zoU h r)⟩
 |ref n =>
  refine .inr ⟨σd,S,α,.ref n,S1,hv,hs,e1,λv H1 α1 s1 x1 r1=>?_⟩;cases r1 with
  |ref h =>
   refine⟨_,rfl,?_⟩;simp only at e2;cases hm:S1[n]? with
   |none=>simp[hm] at e2
   |some o =>
    have hob:=s1.obj _ _ _ hm h;cases o with
    |lst ds=>simp only[hm] at e2;cases e2;obtain⟨vs,q,r⟩:=hob;exact⟨⟨vs,dG.of q⟩,k _ _ _ s1 x1 (Ri h)⟩
    |frz ds=>simp only[hm] at e2;cases e2;obtain⟨vs,q,r⟩:=hob;exact⟨⟨vs,q.sq⟩,k _ _ _ s1 x1 (Ri h)⟩
    |ins C fs=>simp[hm] at e2
    |dct xs=>simp[hm] at e2
    |tbl x=>simp[hm] at e2
 |_=>cases e2
theorem zj7{a:Expr}(hg:Gl X "range")(hm:X.mg "range" = none)(ha:SA X [a] fa)(hst:starEach [a] X.env=[(false,eval a X.env)]):SI X tg (.Call (.Name "range" p) [a] [] pos) (gR fa):=by
 refine PI.imp (zkk hg hm ha hst) λσ H R h=>?_;obtain⟨σd,S,α,j,S',hv,hs,hf,k⟩:=h;unfold gR at hf;simp only[bf] at hf;obtain⟨⟨ds,S1⟩,e1,e2⟩:=hf;refine⟨σd,S,α,ds,S1,hv,hs,e1,λvs H1 α1 s1 x1 r1=>?_⟩;split at e2
 .rename_i jj hj;simp only at hj;subst hj;split at e2
  .rename_i hb;cases e2;cases r1 with
   |cons r rr=>cases r;cases rr;exact⟨jj,rfl,hb.1,hb.2,k _ _ _ s1 x1 Uj⟩
  .cases e2
 .cases e2
theorem zj6{a:Expr}(hg:Gl X "range")(hm:X.mg "range" = none)(ha:SA X [a,b] fa)(hst:starEach [a,b] X.env=[(false,eval a X.env),(false,eval b X.env)])(hst2:starEach [b] X.env=[(false,eval b X.env)]):
 SI X tg (.Call (.Name "range" p) [a,b] [] pos) (v8 fa):=by
 refine PI.imp (zkj hg hm ha hst hst2) λσ H R h=>?_;obtain⟨σd,S,α,j,S',hv,hs,hf,k⟩:=h;unfold v8 at hf;simp only[bf] at hf;obtain⟨⟨ds,S1⟩,e1,e2⟩:=hf;refine⟨σd,S,α,ds,S1,hv,hs,e1,λvs H1 α1 s1 x1 r1=>?_⟩;split at e2
 .rename_i ii jj hj;simp only at hj;subst hj;split at e2
  .rename_i hb;cases e2;cases r1 with
   |cons r rr =>
    cases r;cases rr with
    |cons r rr=>cases r;cases rr;exact⟨ii,jj,rfl,⟨hb.1.1,hb.1.2,hb.2.1,hb.2.2⟩,k _ _ _ s1 x1 Uj⟩
  .cases e2
 .cases e2
theorem Z0{ts:List Expr}{tp:Pos}(hg:Gl X "zip")(hm:X.mg "zip" = none)(ha:SA X (e::es) fa)(hst:starEach (e::es) X.env=(false,eval e X.env)::starEach es X.env)(hpl:(backTo pos (starEach es X.env)).any (·.1)=false):SI X (.Tuple ts kk tp) (.Call (.Name "zip" p) (e::es) [] pos) (qz fa):=by
 refine PI.imp (MZ.zqu hg hm ha hst hpl) λσ H R h=>?_;obtain⟨σd,S,α,j,S',hv,hs,hf,k⟩:=h;unfold qz at hf;simp only[bf] at hf;obtain⟨⟨ds,S1⟩,e1,e2⟩:=hf;refine⟨σd,S,α,ds,S1,hv,hs,e1,λvs H1 α1 s1 x1 r1=>?_⟩;split at e2
 .rename_i hb;simp only[aX] at e2;obtain⟨xss,e3,e4⟩:=e2;cases e4;obtain⟨l,h1,h2⟩:=Rx s1 r1 e3;have hl:=JD h1;obtain⟨lB,h3,_⟩:=zX Ext.refl s1 h1 e3;exact⟨l,h2,by rw[<-hl];exact hb.1,by rw[<-hl];exact hb.2,⟨lB,h3⟩,k _ _ _ s1 x1 (zoT h1)⟩
 .cases e2
end
noncomputable def jG(nx:Nat->So->Option (Option D))(g:GF)(f:SF):Nat->Nat->SF
 |0,i=>λσ S=>match nx i S with
  |some none=>some (.nx,σ,S)
  |_=>none
 |k+1,i=>λσ S=>match nx i S with
  |some (some d)=>(g d σ S).bind λq=>(f q.1 q.2).bind λr=>match r.1 with
   |.nx=>jG nx g f k (i+1) r.2.1 r.2.2
   |.ct=>jG nx g f k (i+1) r.2.1 r.2.2
   |.bk=>some (.nx,r.2.1,r.2.2)
   |.rt d=>some (.rt d,r.2.1,r.2.2)
  |_=>none
noncomputable def mz(fi:IF)(g:GF)(f:SF):SF:=λσ S=>(fi σ S).bind λr=>(sG r.1 r.2).bind λn=>jG (di r.1) g f n 0 σ r.2
theorem Z8{tg iter:Expr}{body:List Stmt}{fi:IF}{g:GF}{f:SF}(hp:PassesOwn (model X.prog X.w) X.A X.env X.xe)(hc:X.calm=true)(hi:SI X tg iter fi)(hg:SG X tg g)(hb:uw X body f)(hfs:∀x,foldedSetIterable iter X.env x=pure x):SS X (.For tg iter body [] pos) (mz fi g f):=by
 refine PS.imp (Yw hp hc hi hg hb hfs) λD σ H h=>?_;obtain⟨σd,S,α,fl,σd',S',hv,hs,hf,k⟩:=h;unfold mz at hf;simp only[bf] at hf;obtain⟨⟨j,S1⟩,e1,n,e2,e3⟩:=hf;refine⟨σd,S,α,j,S1,hv,hs,e1,λJ H1 α1 s1 x1 jr=>?_⟩;refine⟨λi m σ2 H2=>∃σd2 S2 α2,bH X.K H2 α2 σd2 σ2/\aB X.K H2 α2 S2/\Ext X.K H1 α1 H2 α2/\jG (di j) g f m i σd2 S2=some (fl,σd',S'),⟨n,σd,S1,α1,hv.mono x1,s1,Ext.refl,e3⟩,?_⟩
 rintro i m σ2 H2 ⟨σd2,S2,α2,v2,s2,x2,e⟩
 obtain⟨o7,Oa⟩:=jr i H2 α2 S2 x2 s2;cases m with
 |zero =>
  unfold jG at e;split at e
  .rename_i hn;cases e;exact .inl ⟨o7 hn,k _ _ _ v2 s2 (x1.trans x2)⟩
  .cases e
 |succ m =>
  unfold jG at e;split at e
  .rename_i d hn;obtain⟨hgo,hy⟩:=Oa d hn;simp only[bf] at e;obtain⟨⟨σ3,S3⟩,e4,⟨WW,σ4,S4⟩,e5,e6⟩:=e;refine .inr ⟨hgo,λσ5 H5=>∃σd5 S5 α5,bH X.K H5 α5 σd5 σ5/\aB X.K H5 α5 S5/\Ext X.K H1 α1 H5 α5/\jG (di j) g f m (i+1) σd5 S5=some (fl,σd',S'),λσ5 H5 q=>⟨m,Nat.lt_succ_self _,q⟩,λx H3 y=>?_⟩;obtain⟨sm,rx⟩:=hy x H3 y;have x3:Ext X.K H2 α2 H3 α2:=Same.ext sm;refine⟨σd2,S2,α2,d,σ3,S3,v2.mono x3,s2.mono sm,rx,e4,λσ5 H5 α5 v5 s5 x5=>?_⟩;refine⟨σ3,S3,α5,WW,σ4,S4,v5,s5,e5,λσ6 H6 α6 v6 s6 x6=>?_⟩;have xx:=((x2.trans x3).trans x5).trans x6;cases WW with
   |nx=>exact⟨σ4,S4,α6,v6,s6,xx,e6⟩
   |ct=>exact⟨σ4,S4,α6,v6,s6,xx,e6⟩
   |bk=>cases e6;exact k _ _ _ v6 s6 (x1.trans xx)
   |rt d=>cases e6;exact k _ _ _ v6 s6 (x1.trans xx)
  .cases e
noncomputable def ou(src:List (Option Nat))(σ:Sg):Sg:=src.map λo=>o.bind λi=>(σ[i]?).join
theorem zlM{σd:Sg}{σ:L2.St}{src:List (Option Nat)}(h:bH K H α σd σ):bH K H α (ou src σd) (mF src σ):=by
 refine⟨by simp[ou,mF],λi d e=>?_⟩;unfold ou at e;rw[jg] at e;cases q:src[i]? with
 |none=>rw[q] at e;simp at e
 |some o =>
  rw[q] at e;cases o with
  |none=>simp at e
  |some j =>
   simp only[pN,cg,Option.some.injEq] at e;cases q2:σd[j]? with
   |none=>rw[q2] at e;simp at e
   |some o2 =>
    rw[q2] at e;simp at e;subst e;obtain⟨v,h1,h2⟩:=h.2 j d q2;exact⟨v,by unfold mF;rw[jg,q];simp[h1],h2⟩
noncomputable def cY:TF:=λ_ S=>some (true,S)
noncomputable def jC(nx:Nat->So->Option (Option D))(g:GF)(t:TF)(fe:EF):Nat->Nat->Sg->So->List D->Option (List D×So)
 |0,i,_,S,acc=>match nx i S with
  |some none=>some (acc,S)
  |_=>none
 |k+1,i,τ,S,acc=>match nx i S with
  |some (some d)=>(g d τ S).bind λq=>(t q.1 q.2).bind λb=>if b.1=true then(fe q.1 b.2).bind λr=>jC nx g t fe k (i+1) q.1 r.2 (acc++[r.1]) else jC nx g t fe k (i+1) q.1 b.2 acc
  |_=>none
noncomputable def Gm(fi:IF)(g:GF)(t:TF)(fe:EF)(src:List (Option Nat)):Sg->So->Option (List D×So):=λσ S=>(fi σ S).bind λr=>(sG r.1 r.2).bind λn=>if n<=sizeLine then jC (di r.1) g t fe n 0 (ou src σ) r.2 [] else none
noncomputable def dg(fi:IF)(g:GF)(t:TF)(fe:EF)(src:List (Option Nat)):EF:=λσ S=>(Gm fi g t fe src σ S).map λq=>(.ref q.2.length,q.2++[.lst q.1])
def uq(X:Cx)(ifs:List Expr)(t:TF):Prop:=wU X ifs (Bf X.K t)
def znE:uq X [] cY:=λpins s σ H Q I h=>zoa pins s σ H Q I (by
 obtain⟨σd,S,α,b,S',hv,hs,hf,k⟩:=h;cases hf;exact k _ _ hs Ext.refl)
def znD{c:Expr}{t:TF}(h:ST X c t):uq X [c] t:=zn9 h
section
variable {X:Cx}{elt tg iter:Expr}{ifs:List Expr}{scope:Scope}{pos:Pos}{N':List Str}{src:List (Option Nat)}{fi:IF}{g:GF}{t:TF}{fe:EF}
theorem Rn{σd:Sg}{σ:L2.St}{Fin:List V->Hp->Prop}(hv:bH K H α σd σ)(hs:aB K H α S)(hf:Gm fi g t fe src σd S=some (ds,S'))(k:∀ys H' α',aB K H' α' S'->Ext K H α H' α'->aH K H' α' ds ys->Fin ys H'):
 Ww K fi σ H λJ H1=>∃W,(∃m,W 0 m [] (mF src σ) H1)/\Gx J (Np K g) (Bf K t) (vN K fe) Fin W:=by
 unfold Gm at hf;simp only[bf] at hf;obtain⟨⟨j,S1⟩,e1,n,e2,e3⟩:=hf;split at e3
 .rename_i hn;refine⟨σd,S,α,j,S1,hv,hs,e1,λJ H1 α1 s1 x1 jr=>?_⟩;refine⟨λi m ys τ H2=>∃σd2 S2 α2 acc,bH K H2 α2 σd2 τ/\aB K H2 α2 S2/\Ext K H1 α1 H2 α2/\aH K H2 α2 acc ys/\acc.length+m<=sizeLine/\jC (di j) g t fe m i σd2 S2 acc=some (ds,S'),
   ⟨n,ou src σd,S1,α1,[],zlM (hv.mono x1),s1,Ext.refl,.nil,by simpa using hn,e3⟩,?_⟩
  rintro i m ys τ H2 ⟨σd2,S2,α2,acc,v2,s2,x2,r2,hl,e⟩
  obtain⟨o7,Oa⟩:=jr i H2 α2 S2 x2 s2;cases m with
  |zero =>
   unfold jC at e;split at e
   .rename_i hn;cases e;exact .inl ⟨o7 hn,k _ _ _ s2 (x1.trans x2) r2⟩
   .cases e
  |succ m =>
   unfold jC at e;split at e
   .rename_i d hn;obtain⟨hgo,hy⟩:=Oa d hn;simp only[bf] at e;obtain⟨⟨σ3,S3⟩,e4,⟨b,S4⟩,e5,e6⟩:=e;refine .inr ⟨hgo,by rw[<-r2.length];omega,λx H3 y=>?_⟩;obtain⟨sm,rx⟩:=hy x H3 y;have x3:Ext K H2 α2 H3 α2:=Same.ext sm;refine⟨σd2,S2,α2,d,σ3,S3,v2.mono x3,s2.mono sm,rx,e4,λσ5 H5 α5 v5 s5 x5=>?_⟩;refine⟨σ3,S3,α5,b,S4,v5,s5,e5,λH6 α6 s6 x6=>?_⟩;cases b with
    |false =>
     rw[if_neg gA];rw[if_neg gA] at e6;exact⟨m,Nat.lt_succ_self _,σ3,S4,α6,acc,v5.mono x6,s6,((x2.trans x3).trans x5).trans x6,((r2.mono x3).mono x5).mono x6,by omega,e6⟩
    |true =>
     rw[if_pos rfl];rw[if_pos rfl] at e6;simp only[bf] at e6;obtain⟨⟨z,S7⟩,e7,e8⟩:=e6;refine⟨σ3,S4,α6,z,S7,v5.mono x6,s6,e7,λw H8 α8 s8 x8 r8=>?_⟩;exact⟨m,Nat.lt_succ_self _,σ3,S7,α8,acc++[z],(v5.mono x6).mono x8,s8,(((x2.trans x3).trans x5).trans x6).trans x8,((((r2.mono x3).mono x5).mono x6).mono x8).append (.cons r8 .nil),by simp;omega,e8⟩
   .cases e
 .cases e3
theorem Vj(hY:∀Y,oK X scope N' Y->SG Y tg g/\uq Y ifs t/\SE Y elt fe):∀Y,oK X scope N' Y->PG Y tg (Np X.K g)/\wU Y ifs (Bf X.K t)/\PE Y elt (vN X.K fe):=λY hy=>by obtain⟨h1,h2,h3⟩:=hY Y hy;unfold SG at h1;unfold uq at h2;unfold SE at h3;rw[hy.K] at h1 h2 h3;exact⟨h1,h2,h3⟩
theorem Pz(hc:X.calm=true)(ok:qL X scope N' src)(hi:SI X tg iter fi)(hY:∀Y,oK X scope N' Y->SG Y tg g/\uq Y ifs t/\SE Y elt fe)(hfs:∀x,foldedSetIterable iter X.env x=pure x):SE X (.ListComp elt [⟨tg,iter,ifs,0⟩] scope pos) (dg fi g t fe src):=by
 refine PE.imp (Yh hc ok hi (Vj hY) hfs) λσ H Q h=>?_;obtain⟨σd,S,α,z,S',hv,hs,hf,k⟩:=h;unfold dg at hf;simp only[aX] at hf;obtain⟨⟨ds,S1⟩,e1,e2⟩:=hf;cases e2;refine Rn hv hs e1 λys H' α' s' x' r' p hp=>?_;obtain⟨s2,x2⟩:=s'.snoc (p:=p) (o := .lst ds) (u := .lst ys) hp λα'' e=>⟨_,fJ,r'.mono e⟩
 exact k _ _ _ s2 (x'.trans x2) (.ref (by rw[<-s'.len];simp))
theorem zlK(hN:X.N.Nodup)(Oc:X.N[i]?=some y)(hy:X.env.kindOf y=some .local)(hsw:swapsWith (.ListComp elt [⟨tg,iter,ifs,0⟩] scope pos) (some (.Name y py)) spos.line X.env=pure true)(hc:X.calm=true)(ok:qL X scope N' src)(hi:SI X tg iter fi)(hY:∀Y,oK X scope N' Y->SG Y tg g/\uq Y ifs t/\SE Y elt fe)(hfs:∀x,foldedSetIterable iter X.env x=pure x):SS X (.Assign [.Name y py] (.ListComp elt [⟨tg,iter,ifs,0⟩] scope pos) spos) (bA (dg fi g t fe src) (aM i)):=by
 refine PS.imp (zl8 hN Oc hy hsw hc ok hi (Vj hY) hfs) λD σ H h=>?_;obtain⟨σd,S,α,fl,σd',S',hv,hs,hf,k⟩:=h;unfold bA dg at hf;simp only[bf,aX] at hf;obtain⟨⟨d,S1⟩,⟨⟨ds,S2⟩,e1,e2⟩,⟨σ1,S3⟩,e3,e4⟩:=hf;cases e4;cases e3;cases e2;refine Rn hv hs e1 λys H' α' s' x' r' p hp=>?_;obtain⟨s2,x2⟩:=s'.snoc (p:=p) (o := .lst ds) (u := .lst ys) hp λα'' e=>⟨_,fJ,r'.mono e⟩
 exact k _ _ _ (((hv.mono x').mono x2).set (.ref (by rw[<-s'.len];simp)) i) s2 (x'.trans x2)
end
noncomputable def ji:GN
 |[.tup xs],S=>some (.int xs.length,S)
 |[.str z],S=>if z.length<=sizeLine then some (.int z.length,S) else none
 |[.ref n],S=>match S[n]? with
  |some (.lst xs)=>some (.int xs.length,S)
  |some (.frz xs)=>some (.int xs.length,S)
  |_=>none
 |_,_=>none
noncomputable def sI:GN
 |[.int i],S=>some (.int (if i<0 then -i else i),S)
 |_,_=>none
noncomputable def mK:List D->Option (List Int)
 |[]=>some []
 |.int i::r=>(mK r).map (i::·)
 |_::_=>none
noncomputable def jh:List Int->Option Int
 |[]=>none
 |i::r=>some (r.foldl (λa b=>if b<a then b else a) i)
noncomputable def jk:List Int->Option Int
 |[]=>none
 |i::r=>some (r.foldl (λa b=>if b>a then b else a) i)
noncomputable def pC:GN
 |[.int i,.int j],S=>some (.int (if j<i then j else i),S)
 |[.ref n],S=>match S[n]? with
  |some (.lst xs)=>(mK xs).bind λns=>(jh ns).map λm=>(.int m,S)
  |_=>none
 |_,_=>none
noncomputable def pF:GN
 |[.int i,.int j],S=>some (.int (if j>i then j else i),S)
 |[.ref n],S=>match S[n]? with
  |some (.lst xs)=>(mK xs).bind λns=>(jk ns).map λm=>(.int m,S)
  |_=>none
 |_,_=>none
noncomputable def qN:GN
 |[.tup xs],S=>some (.tup xs,S)
 |[.ref n],S=>match S[n]? with
  |some (.lst xs)=>some (.tup xs,S)
  |some (.frz xs)=>some (.tup xs,S)
  |_=>none
 |_,_=>none
noncomputable def qH:GN
 |[.tup xs],S=>some (.ref S.length,S++[.lst xs])
 |[.ref n],S=>match S[n]? with
  |some (.lst xs)=>some (.ref S.length,S++[.lst xs])
  |some (.frz xs)=>some (.ref S.length,S++[.lst xs])
  |_=>none
 |_,_=>none
theorem Vp:∀(r:List Int) (i:Int),r.foldl (λa b=>if b<a then b else a) i<=i/\(∀x∈r,r.foldl (λa b=>if b<a then b else a) i<=x)/\(r.foldl (λa b=>if b<a then b else a) i=i\/r.foldl (λa b=>if b<a then b else a) i∈r)
 |[],i=>⟨Int.le_refl _,λ_ h=>(nomatch h),.inl rfl⟩
 |x::r,i=>by
  obtain⟨h1,h2,h3⟩:=Vp r (if x<i then x else i);rw[List.foldl_cons];refine⟨?_,λy hy=>?_,?_⟩
  .refine Int.le_trans (by first|exact h1|(refine Int.le_trans ?_ h1;split<;>omega)) (by first|(split<;>omega)|exact Int.le_refl _)
  .rcases List.mem_cons.mp hy with rfl|hy
   .first
     |exact Int.le_trans h1 (by split<;>omega)
     |exact Int.le_trans (by split<;>omega) h1
   .exact h2 y hy
  .rcases h3 with h3|h3
   .rw[h3];split
    .exact .inr fG
    .exact .inl rfl
   .exact .inr (cQ _ h3)
theorem Vo:∀(r:List Int) (i:Int),i<=r.foldl (λa b=>if b>a then b else a) i/\(∀x∈r,x<=r.foldl (λa b=>if b>a then b else a) i)/\(r.foldl (λa b=>if b>a then b else a) i=i\/r.foldl (λa b=>if b>a then b else a) i∈r)
 |[],i=>⟨Int.le_refl _,λ_ h=>(nomatch h),.inl rfl⟩
 |x::r,i=>by
  obtain⟨h1,h2,h3⟩:=Vo r (if x>i then x else i);rw[List.foldl_cons];refine⟨?_,λy hy=>?_,?_⟩
  .refine Int.le_trans (by first|exact h1|(refine Int.le_trans ?_ h1;split<;>omega)) (by first|(split<;>omega)|exact Int.le_refl _)
  .rcases List.mem_cons.mp hy with rfl|hy
   .first
     |exact Int.le_trans h1 (by split<;>omega)
     |exact Int.le_trans (by split<;>omega) h1
   .exact h2 y hy
  .rcases h3 with h3|h3
   .rw[h3];split
    .exact .inr fG
    .exact .inl rfl
   .exact .inr (cQ _ h3)
theorem Q6{m:Int}(h1:m∈ns)(h2:∀a∈ns,m<=a):jh ns=some m:=by
 cases ns with
 |nil=>cases h1
 |cons i r =>
  obtain⟨a,b,c⟩:=Vp r i;unfold jh;have l1:m<=r.foldl (λa b=>if b<a then b else a) i:=by
   rcases c with c|c
   .rw[c];exact h2 i fG
   .exact h2 _ (cQ _ c)
  have l2:r.foldl (λa b=>if b<a then b else a) i<=m:=by
   rcases List.mem_cons.mp h1 with rfl|h1
   .exact a
   .exact b m h1
  exact congrArg some (Int.le_antisymm l2 l1)
theorem Rp{m:Int}(h1:m∈ns)(h2:∀a∈ns,a<=m):jk ns=some m:=by
 cases ns with
 |nil=>cases h1
 |cons i r =>
  obtain⟨a,b,c⟩:=Vo r i;unfold jk;have l1:r.foldl (λa b=>if b>a then b else a) i<=m:=by
   rcases c with c|c
   .rw[c];exact h2 i fG
   .exact h2 _ (cQ _ c)
  have l2:m<=r.foldl (λa b=>if b>a then b else a) i:=by
   rcases List.mem_cons.mp h1 with rfl|h1
   .exact a
   .exact b m h1
  exact congrArg some (Int.le_antisymm l1 l2)
theorem yp{K:FgA}{H:Hp}{α:List Addr}:∀{ds:List D} {vs:List V} {us:List Value} {ns:List Int},aH K H α ds vs->Vals vs us->mK ds=some ns->IntsAre us ns
 |_,_,_,_,.nil,.nil,e=>by cases e;exact .nil
 |_,_,_,_,.cons r rr,.cons rv rvs,e=>by
  cases r with
  |int i =>
   simp only[mK,aX] at e;obtain⟨ms,e1,rfl⟩:=e;obtain⟨t,rfl⟩:=rv;exact .cons _ _ (yp rr rvs e1)
  |_=>cases e
theorem aH.inv1{vs:List V}(r:aH K H α [d] vs):∃v,vs=[v]/\Rep K H α d v:=by
 cases r with
 |cons r rr=>cases rr;exact⟨_,rfl,r⟩
theorem aH.inv2{e:D}{vs:List V}(r:aH K H α [d,e] vs):∃v u,vs=[v,u]/\Rep K H α d v/\Rep K H α e u:=by
 cases r with
 |cons r rr =>
  obtain⟨u,rfl,q⟩:=rr.inv1;exact⟨_,_,rfl,r,q⟩
theorem nM{xs:List D}(hs:aB K H α S)(ha:α[n]?=some a)(h:S[n]?=some (.lst xs)\/S[n]?=some (.frz xs)):∃vs,dG K H a vs/\aH K H α xs vs:=by
 rcases h with h|h
 .obtain⟨vs,q,r⟩:=hs.obj _ _ _ h ha;exact⟨vs,dG.of q,r⟩
 .obtain⟨vs,q,r⟩:=hs.obj _ _ _ h ha;exact⟨vs,q.sq,r⟩
section
variable {X:Cx}
theorem Xr:gY X (.builtin "len") (jB X.K ji):=by
 intro pins s σ H vs us Q I rv h;obtain⟨S,α,ds,z,S',hs,r,hg,k⟩:=h;unfold ji at hg;split at hg
 .cases hg;obtain⟨v,rfl,r0⟩:=r.inv1;cases r0 with
  |tup h r1=>exact Vn pins s σ H _ us Q I rv ⟨_,_,rfl,.inr h,by rw[<-r1.length];exact k.same hs (.int _)⟩
 .split at hg
  .rename_i hl;cases hg;obtain⟨v,rfl,r0⟩:=r.inv1;cases r0;exact zhi pins s σ H _ us Q I rv ⟨_,rfl,hl,k.same hs (.int _)⟩
  .cases hg
 .obtain⟨v,rfl,r0⟩:=r.inv1;cases r0 with
  |@ref n a ha =>
   have core:∀xs,(∃vs,dG X.K H a vs/\aH X.K H α xs vs)->some (D.int (xs.length:Int),S)=some (z,S')->wpAny (model X.prog X.w) X.A (call (.builtin "len") us) (EP X pins σ Q) X.xe s:=λxs ⟨vs,q,r⟩ e=>by cases e;exact Vn pins s σ H _ us Q I rv ⟨_,_,rfl,.inl q,by rw[<-r.length];exact k.same hs (.int _)⟩
   split at hg
   .rename_i e;exact core _ (nM hs ha (.inl e)) hg
   .rename_i e;exact core _ (nM hs ha (.inr e)) hg
   .cases hg
 .cases hg
theorem Xn:gY X (.builtin "abs") (jB X.K sI):=by
 intro pins s σ H vs us Q I rv h;obtain⟨S,α,ds,z,S',hs,r,hg,k⟩:=h;unfold sI at hg;split at hg
 .cases hg;obtain⟨v,rfl,r0⟩:=r.inv1;cases r0;exact zmV pins s σ H _ us Q I rv ⟨_,rfl,k.same hs (.int _)⟩
 .cases hg
theorem Xv(hc:X.calm=true):gY X (.builtin "min") (jB X.K pC):=by
 intro pins s σ H vs us Q I rv h;obtain⟨S,α,ds,z,S',hs,r,hg,k⟩:=h;unfold pC at hg;split at hg
 .cases hg;obtain⟨v,u,rfl,r1,r2⟩:=r.inv2;cases r1;cases r2;exact zlp hc pins s σ H _ us Q I rv ⟨_,_,rfl,k.same hs (.int _)⟩
 .obtain⟨v,rfl,r0⟩:=r.inv1;cases r0 with
  |@ref n a ha =>
   split at hg
   .rename_i e;simp only[bf,aX] at hg;obtain⟨ns,e1,m,e2,e3⟩:=hg;cases e3;obtain⟨ws,q,r⟩:=nM hs ha (.inl e);obtain⟨u,rfl,ru⟩:=oJ rv;cases ru;obtain⟨its,rr,pl,hz⟩:=I.list q;have hi:=yp r rr e1;have hne:0<ns.length:=by
     cases ns with
     |nil=>cases e2
     |cons _ _=>simp
    obtain⟨xs,hxs⟩:=hi.allInts.items;have hn:=hi.numsOf;have hnn:numsOf (intItems xs).toList=ns:=by rw[<-hxs];simpa using hn
    rw[nums_intItems] at hnn;have hsz:0<xs.size:=by have:=congrArg List.length hnn;simp at this;omega
    have hl':s.heap.IsList a (intItems xs):=by rw[<-hxs];exact pl.isList
    refine min_intList (I.ok.hd hc) hl' hsz λv h' tk hv hk=>?_;obtain⟨t,rfl⟩:=intItems_at hv;obtain⟨h1,h2⟩:=argBest_lt (numAt xs) (xs.size - 1);have hm:jh ns=some (numAt xs (argBest (λi j=>decide (numAt xs i<numAt xs j)) (xs.size - 1))):=by
     refine Q6 ?_ λb hb=>?_
     .rw[<-hnn,numAt_eq];exact getD_mem (by rw[dJ,Array.length_toList];omega)
     .rw[<-hnn] at hb;obtain⟨j,hj,rfl⟩:=mem_getD hb;rw[dJ,Array.length_toList] at hj;rw[<-numAt_eq];exact h2 j (by omega)
    rw[e2] at hm;cases hm;exact⟨.int _,H,I.kept hk,⟨t,rfl⟩,k.same hs (.int _)⟩
   .cases hg
 .cases hg
theorem Xu(hc:X.calm=true):gY X (.builtin "max") (jB X.K pF):=by
 intro pins s σ H vs us Q I rv h;obtain⟨S,α,ds,z,S',hs,r,hg,k⟩:=h;unfold pF at hg;split at hg
 .cases hg;obtain⟨v,u,rfl,r1,r2⟩:=r.inv2;cases r1;cases r2;exact zlq hc pins s σ H _ us Q I rv ⟨_,_,rfl,k.same hs (.int _)⟩
 .obtain⟨v,rfl,r0⟩:=r.inv1;cases r0 with
  |@ref n a ha =>
   split at hg
   .rename_i e;simp only[bf,aX] at hg;obtain⟨ns,e1,m,e2,e3⟩:=hg;cases e3;obtain⟨ws,q,r⟩:=nM hs ha (.inl e);obtain⟨u,rfl,ru⟩:=oJ rv;cases ru;obtain⟨its,rr,pl,hz⟩:=I.list q;have hi:=yp r rr e1;have hne:0<ns.length:=by
     cases ns with
     |nil=>cases e2
     |cons _ _=>simp
    obtain⟨xs,hxs⟩:=hi.allInts.items;have hn:=hi.numsOf;have hnn:numsOf (intItems xs).toList=ns:=by rw[<-hxs];simpa using hn
    rw[nums_intItems] at hnn;have hsz:0<xs.size:=by have:=congrArg List.length hnn;simp at this;omega
    have hl':s.heap.IsList a (intItems xs):=by rw[<-hxs];exact pl.isList
    refine max_intList (I.ok.hd hc) hl' hsz λv h' tk hv hk=>?_;obtain⟨t,rfl⟩:=intItems_at hv;obtain⟨h1,h2⟩:=argBest_gt (numAt xs) (xs.size - 1);have hm:jk ns=some (numAt xs (argBest (λi j=>decide (numAt xs i>numAt xs j)) (xs.size - 1))):=by
     refine Rp ?_ λb hb=>?_
     .rw[<-hnn,numAt_eq];exact getD_mem (by rw[dJ,Array.length_toList];omega)
     .rw[<-hnn] at hb;obtain⟨j,hj,rfl⟩:=mem_getD hb;rw[dJ,Array.length_toList] at hj;rw[<-numAt_eq];exact h2 j (by omega)
    rw[e2] at hm;cases hm;exact⟨.int _,H,I.kept hk,⟨t,rfl⟩,k.same hs (.int _)⟩
   .cases hg
 .cases hg
theorem zmW:gY X (.type "tuple") (jB X.K qN):=by
 intro pins s σ H vs us Q I rv h;obtain⟨S,α,ds,z,S',hs,r,hg,k⟩:=h;unfold qN at hg;split at hg
 .cases hg;obtain⟨v,rfl,r0⟩:=r.inv1;cases r0 with
  |tup h r1=>exact V1 pins s σ H _ us Q I rv ⟨_,_,rfl,.inr ⟨h,k.same hs (.tup h r1)⟩⟩
 .obtain⟨v,rfl,r0⟩:=r.inv1;cases r0 with
  |@ref n a ha =>
   have core:∀xs,(∃vs,dG X.K H a vs/\aH X.K H α xs vs)->some (D.tup xs,S)=some (z,S')->wpAny (model X.prog X.w) X.A (call (.type "tuple") us) (EP X pins σ Q) X.xe s:=λxs ⟨vs,q,r⟩ e=>by cases e;exact V1 pins s σ H _ us Q I rv ⟨_,_,rfl,.inl ⟨q,λp hp=>k.new hs (lO hp) (.tup (dR.of fJ) (r.mono (Same.ext (lO hp))))⟩⟩
   split at hg
   .rename_i e;exact core _ (nM hs ha (.inl e)) hg
   .rename_i e;exact core _ (nM hs ha (.inr e)) hg
   .cases hg
 .cases hg
theorem ZM:gY X (.type "list") (jB X.K qH):=by
 intro pins s σ H vs us Q I rv h;obtain⟨S,α,ds,z,S',hs,r,hg,k⟩:=h;have fin:∀(xs:List D) (vs:List V) (p:Addr),aH X.K H α xs vs->H p=none->some (D.ref S.length,S++[O.lst xs])=some (z,S')->Q (.ref p) (upd H p (.lst vs)):=λxs vs p r hp e=>by
  cases e;obtain⟨s2,x2⟩:=hs.snoc (p:=p) (o := .lst xs) (u := .lst vs) hp λα'' e=>⟨_,fJ,r.mono e⟩
  exact k _ _ _ s2 x2 (.ref (by rw[<-hs.len];simp))
 unfold qH at hg;split at hg
 .obtain⟨v,rfl,r0⟩:=r.inv1;cases r0 with
  |tup h r1=>exact zev pins s σ H _ us Q I rv ⟨_,_,rfl,.inr h,λp hp=>fin _ _ p r1 hp hg⟩
 .obtain⟨v,rfl,r0⟩:=r.inv1;cases r0 with
  |@ref n a ha =>
   have core:∀xs,(∃vs,dG X.K H a vs/\aH X.K H α xs vs)->some (D.ref S.length,S++[O.lst xs])=some (z,S')->wpAny (model X.prog X.w) X.A (call (.type "list") us) (EP X pins σ Q) X.xe s:=λxs ⟨vs,q,r⟩ e =>
    zev pins s σ H _ us Q I rv ⟨_,_,rfl,.inl q,λp hp=>fin _ _ p r hp e⟩
   split at hg
   .rename_i e;exact core _ (nM hs ha (.inl e)) hg
   .rename_i e;exact core _ (nM hs ha (.inr e)) hg
   .cases hg
 .cases hg
end
noncomputable def o8(a b:String):Option Bool:=PySem.W.kitOne default (.type a) (.type b)
def Rh{a b:String}:PySem.W.kitOne K (.type a) (.type b)=o8 a b:=by unfold o8 PySem.W.kitOne PySem.W.kitCls PySem.W.subIn;rfl
noncomputable def Mx:D->So->Option String
 |.non,_=>some "NoneType"
 |.bl _,_=>some "bool"
 |.int _,_=>some "int"
 |.str _,_=>some "str"
 |.tup _,_=>some "tuple"
 |.ref n,S=>match S[n]? with
  |some (.lst _)=>some "list"
  |_=>none
 |_,_=>none
noncomputable def uJ:GN
 |[d,.ty T],S=>(Mx d S).bind λt=>(o8 t T).map λb=>(.bl b,S)
 |_,_=>none
theorem ZD{v:V}{t:String}(hs:aB K H α S)(r:Rep K H α d v)(e:Mx d S=some t):(∃b vs,v = .ref b/\dR K H b vs/\t = "tuple")\/mj K H v (.type t):=by
 cases r with
 |non=>cases e;exact .inr .non
 |bl b=>cases e;exact .inr (.bl b)
 |int i=>cases e;exact .inr (.int i)
 |str x=>cases e;exact .inr (.str x)
 |tup h r=>cases e;exact .inl ⟨_,_,rfl,h,rfl⟩
 |@ref n a ha =>
  simp only[Mx] at e;split at e
  .rename_i q;cases e;obtain⟨vs,h,_⟩:=hs.obj _ _ _ q ha;exact .inr (.lst h)
  .cases e
 |ty n=>cases e
 |adr a=>cases e
 |obj _ _ _ _ _=>cases e
theorem Xq:gY X (.builtin "isinstance") (jB X.K uJ):=by
 intro pins s σ H vs us Q I rv h;obtain⟨S,α,ds,z,S',hs,r,hg,k⟩:=h;unfold uJ at hg;split at hg
 .simp only[bf,aX] at hg;obtain⟨t,e1,b,e2,e3⟩:=hg;cases e3;obtain⟨v,u,rfl,r1,r2⟩:=r.inv2;cases r2 with
  |ty T =>
   obtain⟨u1,u2,rfl,q1,q2⟩:=G7 rv;cases q2;rcases ZD hs r1 e1 with⟨a,ws,rfl,h,rfl⟩|ty
   .cases q1;obtain⟨its,_,⟨o,h1,h2,_⟩,_⟩:=I.tuple h;exact PySem.W.kia_one PySem.W.kitx_tuple I.kIn ⟨o,h1,h2⟩ (by rw[Rh];exact e2) (λz=>nomatch z) λtk=>⟨.bl b,H,I.tok _,rfl,k.same hs (.bl _)⟩
   .exact zkQ I q1 ty (by rw[Rh];exact e2) λtk=>⟨.bl b,H,I.tok _,rfl,k.same hs (.bl _)⟩
 .cases hg
noncomputable abbrev PF:=Sg->So->Option (Option Int×So)
noncomputable def kZ:PF:=λ_ S=>some (none,S)
noncomputable def jR(fe:EF):PF:=λσ S=>(fe σ S).bind λr=>match r.1 with
 |.int i=>some (some i,r.2)
 |_=>none
noncomputable def jP(xs:List D)(lo hi:Option Int):List D:=(xs.drop (HT.sIx xs.length 0 lo)).take (HT.sIx xs.length xs.length hi - HT.sIx xs.length 0 lo)
noncomputable def rJ:D->Option Int->Option Int->So->Option (D×So)
 |.tup xs,lo,hi,S=>if ¬(HT.sIx xs.length 0 lo=0/\HT.sIx xs.length xs.length hi=xs.length) then some (.tup (jP xs lo hi),S) else some (.tup xs,S)
 |.ref n,lo,hi,S=>match S[n]? with
  |some (.lst xs)=>some (.ref S.length,S++[.lst (jP xs lo hi)])
  |some (.frz xs)=>some (.ref S.length,S++[.lst (jP xs lo hi)])
  |_=>none
 |_,_,_,_=>none
noncomputable def jV(fe:EF)(fl fh:PF):EF:=λσ S=>(fe σ S).bind λr=>(fl σ r.2).bind λl=>(fh σ l.2).bind λh=>rJ r.1 l.1 h.1 h.2
noncomputable def rdP(K:FgA)(f:PF):TO:=λσ H Q=>∃σd S α p S',bH K H α σd σ/\aB K H α S/\f σd S=some (p,S')/\∀H' α',aB K H' α' S'->Ext K H α H' α'->Q p H'
def Cz(X:Cx)(e:Option Expr)(f:PF):Prop:=PO X e (rdP X.K f)
theorem Sv{vs:List V}{lo hi:Option Int}(r:aH K H α ds vs):aH K H α (jP ds lo hi) (qy vs lo hi):=by unfold jP qy;rw[r.length];exact(r.drop _).take _
theorem zjN{t sl:Addr}{items:Array Value}{vl vu:Value}{lo hi:Option Int}(ht:IsTup s.heap t items)(hs:s.heap.IsSliceOf sl vl vu .none)(pl:IsPart vl lo)(pu:IsPart vu hi)(hw:HT.sIx items.size 0 lo=0/\HT.sIx items.size items.size hi=items.size)(h:Q (.ref t) s):wpAny (model prog w) A (getItem (.ref t) (.ref sl)) Q E s:=by
 obtain⟨os,hos,hcs,hds⟩:=id hs;have hTs:s.TypeIs (.ref sl) "slice" := ⟨os,hos,hcs⟩
 unfold getItem
 try with_reducible refine wpAny_holding ?_
 first|refine aO (b7 ?_)|skip
 refine aO (wpAny_sequenceKey ht.typeIs (by decide) ?_);refine aO (wpAny_callSpecial?_slot (name:=Str.ofString "__getitem__") ht.typeIs PyProof.Rows.slot_tuple_getitem
  (wpAny_call_entry PyProof.Rows.slot_tuple_getitem ht.typeIs entry_tuple_getitem ?_ (args_tuple_getitem _ _)))
 show wpAny _ _ (Builtin.Tuple.tupleItemsOf (.ref t) >>= _) _ _ s;refine aO (tupleItemsOf_ ht ?_);refine aO (wpAny_typeOf hTs ?_);rw[if_pos (by decide)];refine aO (HT.zc4 hs pl pu ?_);show wpAny _ _ (if(((HT.sIx items.size 0 lo:Nat):Int)==0&&(1:Int)==1&&(HT.sIx items.size items.size hi - HT.sIx items.size 0 lo)==items.size)=true then _ else _) _ _ s;rw[hw.1,hw.2,if_pos (by simp)];obtain⟨o,e1,e2,n,e3⟩:=id ht;have ex:∀{A:Around} {E:Value->Shared->Prop} {Q:Bool->Shared->Prop},Q true s->wpAny (model prog w) A (Builtin.Tuple.tupleIsExact (.ref t)) Q E s:=λ{A E Q} q=>by unfold Builtin.Tuple.tupleIsExact;refine aO (wpAny_typeOf ht.typeIs ?_);exact b7 q
 refine aO (ex ?_);rw[if_pos rfl];exact aO (wpAny_rule (b7 ⟨_,rfl,b7 h⟩))
noncomputable def Bj(K:FgA):V->Option Int->Option Int->Hp->VK->Prop:=λx lo hi H Q=>∃a xs,x = .ref a/\dR K H a xs/\(HT.sIx xs.length 0 lo=0/\HT.sIx xs.length xs.length hi=xs.length)/\Q (.ref a) H
theorem znT:qx X (Bj X.K):=by
 intro pins s σ H x v vl vu lo hi sl Q I rx hs pl pu h;obtain⟨a,xs,rfl,hx,hw,q⟩:=h;cases rx;obtain⟨its,r,ht,hz⟩:=I.tuple hx;have hlen:its.toArray.size=xs.length:=by rw[dU];exact r.length.symm
 refine⟨"tuple",_,PyProof.Rows.slot_tuple_getitem.lookup,ht.typeIs,?_⟩;exact zjN ht hs pl pu (by rw[hlen];exact hw) ⟨.ref a,H,I,rfl,q⟩
section
variable {X:Cx}{e:Expr}{fe:EF}{lo hi:Option Expr}{fl fh:PF}{pos p2:Pos}
def znO:Cz X none kZ:=λpins s σ H Q I h=>zoi pins s σ H Q I (by
 obtain⟨σd,S,α,p,S',hv,hs,hf,k⟩:=h;cases hf;exact k _ _ hs Ext.refl)
theorem znL(he:SE X e fe):Cz X (some e) (jR fe):=λpins s σ H Q I h=>zoh he pins s σ H Q I (by
 obtain⟨σd,S,α,p,S',hv,hs,hf,k⟩:=h;unfold jR at hf;simp only[bf] at hf;obtain⟨⟨d,S1⟩,e1,e2⟩:=hf;refine⟨σd,S,α,d,S1,hv,hs,e1,λv H1 α1 s1 x1 r1=>?_⟩;cases r1 with
 |int i=>cases e2;exact⟨i,rfl,k _ _ s1 x1⟩
 |_=>cases e2)
theorem zlZ(he:SE X e fe)(hl:Cz X lo fl)(hh:Cz X hi fh):SE X (.Subscript e (.Slice lo hi none p2) pos) (jV fe fl fh):=by
 refine PE.imp (zmf (qx.or (qx.or Z2 znT) znU) he hl hh) λσ H Q h=>?_;obtain⟨σd,S,α,z,S',hv,hs,hf,k⟩:=h;unfold jV at hf;simp only[bf] at hf;obtain⟨⟨d,S1⟩,e1,⟨l,S2⟩,e2,⟨u,S3⟩,e3,e4⟩:=hf;refine⟨σd,S,α,d,S1,hv,hs,e1,λv H1 α1 s1 x1 r1=>⟨σd,S1,α1,l,S2,hv.mono x1,s1,e2,λH2 α2 s2 x2=>⟨σd,S2,α2,u,S3,(hv.mono x1).mono x2,s2,e3,λH3 α3 s3 x3=>?_⟩⟩⟩;have r3:=(r1.mono x2).mono x3;have k3:=k.trans ((x1.trans x2).trans x3);simp only at e4;cases r3 with
 |tup h r =>
  simp only[rJ] at e4;split at e4
  .rename_i hc;cases e4;refine .inl (.inl ⟨_,_,rfl,h,by rw[<-r.length];exact hc,λp hp=>?_⟩);exact k3.new s3 (lO hp) (.tup (dR.of fJ) ((Sv r).mono (Same.ext (lO hp))))
  .rename_i hc;cases e4;refine .inl (.inr ⟨_,_,rfl,h,by rw[<-r.length];exact Decidable.not_not.mp hc,?_⟩);exact k3 _ _ _ s3 Ext.refl (.tup h r)
 |@ref n a ha =>
  simp only[rJ] at e4;have core:∀xs,(∃vs,dG X.K H3 a vs/\aH X.K H3 α3 xs vs)->some (D.ref S3.length,S3++[O.lst (jP xs l u)])=some (z,S')->(Bk X.K (.ref a) l u H3 Q\/Bj X.K (.ref a) l u H3 Q)\/Bl X.K (.ref a) l u H3 Q:=λxs ⟨vs,q,r⟩ e=>by
   cases e;refine .inr ⟨_,_,rfl,q,λp hp=>?_⟩;obtain⟨s4,x4⟩:=s3.snoc (p:=p) (o := .lst (jP xs l u)) (u := .lst (qy vs l u)) hp λα'' e=>⟨_,fJ,(Sv r).mono e⟩
   exact k3 _ _ _ s4 x4 (.ref (by rw[<-s3.len];simp))
  split at e4
  .rename_i q;exact core _ (nM s3 ha (.inl q)) e4
  .rename_i q;exact core _ (nM s3 ha (.inr q)) e4
  .cases e4
 |_=>cases e4
end
noncomputable abbrev GM:=D->List D->So->Option (D×So)
noncomputable def vM(K:FgA)(g:GM):V->List V->Hp->VK->Prop:=λv vs H Q=>∃S α d ds z S',aB K H α S/\Rep K H α d v/\aH K H α ds vs/\g d ds S=some (z,S')/\Kt K H α z S' Q
noncomputable def uY:GM
 |.ref n,[d],S=>match S[n]? with
  |some (.lst xs)=>if xs.length<sizeLine then some (.non,S.set n (.lst (xs++[d]))) else none
  |_=>none
 |_,_,_=>none
theorem zkw:su X "list.append" (vM X.K uY):=by
 intro pins s σ H v vs vv us Q I rv rs h;obtain⟨S,α,d,ds,z,S',hs,r,rr,hg,k⟩:=h;unfold uY at hg;split at hg
 .cases r with
  |ref ha =>
   split at hg
   .rename_i e;split at hg
    .rename_i hl;cases hg;obtain⟨w,rfl,eY⟩:=rr.inv1;obtain⟨ws,q,r⟩:=hs.obj _ _ _ e ha;refine zkt pins s σ H _ _ _ us Q I rv rs ⟨_,_,_,rfl,rfl,q,by rw[<-r.length];exact hl,?_⟩;obtain⟨s2,x2⟩:=hs.put (o := .lst (_++[_])) (u := .lst (ws++[w])) e rfl rfl ha q (.inl ⟨_,rfl⟩) λx=>⟨_,fJ,(r.append (.cons eY .nil)).mono x⟩
     exact k _ _ _ s2 x2 .non
    .cases hg
   .cases hg
 .cases hg
noncomputable def eM(g:GM)(fo:EF)(fa:AF):EF:=λσ S=>(fo σ S).bind λr=>match r.1 with
 |.ref n=>match r.2[n]? with
  |some (.lst _)=>(fa σ r.2).bind λq=>g r.1 q.1 q.2
  |_=>none
 |_=>none
theorem Xf{o:Expr}{fo:EF}{g:GM}{id:String}{apos:Pos}(slot:Slot "list" name id)(hty:typeOf (.builtin id)=pure (.type "method_descriptor"))(hm:su X id (vM X.K g))(ho:SE X o fo)(ha:SA X (e::es) fa)(hbase:attributeBase o name X.env (eval o X.env)=eval o X.env)(hfew:((backTo cpos (starEach (e::es) X.env)).all (λx => !x.1)&&(backToKw cpos (keywordEach [] X.env)).all (λx=>x.1.isSome)
  && decide ((e::es).length+([]:List Keyword).length+(if([]:List Keyword).isEmpty then 0 else 1)<30))=true)(hline:(apos.endLine==cpos.line)=true)(hst:starEach (e::es) X.env=(false,eval e X.env)::starEach es X.env)(hplain:(backTo cpos (starEach es X.env)).any (·.1)=false):
 SE X (.Call (.Attribute o name apos) (e::es) [] cpos) (eM g fo fa):=by
 refine PE.imp (Ye PySem.F.plainAttrs_list slot hty hm ho ha hbase hfew hline hst hplain) λσ H Q h=>?_;obtain⟨σd,S,α,z,S',hv,hs,hf,k⟩:=h;unfold eM at hf;simp only[bf] at hf;obtain⟨⟨d,S1⟩,e1,e2⟩:=hf;refine⟨σd,S,α,d,S1,hv,hs,e1,λv H1 α1 s1 x1 r1=>?_⟩;simp only at e2;split at e2
 .rename_i n;split at e2
  .rename_i xs q;simp only[bf] at e2;obtain⟨⟨ds,S2⟩,e3,e4⟩:=e2;cases r1 with
   |ref ha =>
    obtain⟨ws,hw,_⟩:=s1.obj _ _ _ q ha;refine⟨.inl ⟨rfl,_,dG.of hw⟩,σd,S1,α1,ds,S2,hv.mono x1,s1,e3,λvs H2 α2 s2 x2 r2=>?_⟩;exact⟨S2,α2,_,ds,z,S',s2,.ref (x2.pre _ _ ha),r2,e4,k.trans (x1.trans x2)⟩
  .cases e2
 .cases e2
noncomputable def sS:List D->Option (List Bool)
 |[]=>some []
 |.bl b::r=>(sS r).map (b::·)
 |_::_=>none
theorem J4{K:FgA}{H:Hp}{α:List Addr}:∀{ds:List D} {vs:List V} {us:List Value} {bs:List Bool},aH K H α ds vs->Vals vs us->sS ds=some bs->LSm.BoolsAre us bs
 |_,_,_,_,.nil,.nil,e=>by cases e;exact .nil
 |_,_,_,_,.cons r rr,.cons rv rvs,e=>by
  cases r with
  |bl b =>
   simp only[sS,aX] at e;obtain⟨ms,e1,rfl⟩:=e;cases rv;exact .cons _ (J4 rr rvs e1)
  |_=>cases e
noncomputable def pP:GN
 |[.ref n],S=>match S[n]? with
  |some (.lst xs)=>(sS xs).map λbs=>(.bl (bs.all id),S)
  |_=>none
 |_,_=>none
noncomputable def uI:GN
 |[.ref n],S=>match S[n]? with
  |some (.lst xs)=>(sS xs).map λbs=>(.bl (bs.any id),S)
  |_=>none
 |_,_=>none
section
variable {X:Cx}
theorem zjG{bs:List Bool}(hh:A.handled=none)(hl:s.heap.IsList l vs.toArray)(hb:LSm.BoolsAre vs bs)(h:∀h' tk,(∀b x,s.heap.get? b=some x->h'.get? b=some x)->Q (.bool (bs.all id)) { s with heap:=h',toks:=tk }):wpAny (model prog w) A (call (.builtin "all") [.ref l]) Q E s:=by
 have hlt:l<s.heap.objs.size:=by obtain⟨_,e,_⟩:=hl;exact cG e
 refine call_all_walk (wpAny_pyIter_list hl ?_);refine⟨s.heap.objs.size,[s.heap.objs.size,l],[s.heap.objs.size],vs.toArray.size,_,_,λi=>(bs[i]?).getD true,rfl,Walks.list (A:=A.in1) hh _ l (dz hlt) vs.toArray,
  ⟨⟨_,gw _ rfl,rfl,rfl⟩,hl.push _⟩,λi v s' Q' E' hP hQ=>?_,λh' tk hk=>?_⟩
 .obtain⟨b,e,rfl⟩:=hb.get i v (by simpa using hP);simp only[e,Option.getD_some] at hQ;exact wpAny_truthy_bool hQ
 .have e:((List.range vs.toArray.size).all λi=>(bs[i]?).getD true)=bs.all id:=by rw[dU,hb.length];exact LSm.range_all bs
  rw[e];exact h h' tk (LSm.kept_iter hk)
theorem zjD{bs:List Bool}(hh:A.handled=none)(hl:s.heap.IsList l vs.toArray)(hb:LSm.BoolsAre vs bs)(h:∀h' tk,(∀b x,s.heap.get? b=some x->h'.get? b=some x)->Q (.bool (bs.any id)) { s with heap:=h',toks:=tk }):wpAny (model prog w) A (call (.builtin "any") [.ref l]) Q E s:=by
 have hlt:l<s.heap.objs.size:=by obtain⟨_,e,_⟩:=hl;exact cG e
 refine call_any_walk (wpAny_pyIter_list hl ?_);refine⟨s.heap.objs.size,[s.heap.objs.size,l],[s.heap.objs.size],vs.toArray.size,_,_,λi=>(bs[i]?).getD false,rfl,Walks.list (A:=A.in1) hh _ l (dz hlt) vs.toArray,
  ⟨⟨_,gw _ rfl,rfl,rfl⟩,hl.push _⟩,λi v s' Q' E' hP hQ=>?_,λh' tk hk=>?_⟩
 .obtain⟨b,e,rfl⟩:=hb.get i v (by simpa using hP);simp only[e,Option.getD_some] at hQ;exact wpAny_truthy_bool hQ
 .have e:((List.range vs.toArray.size).any λi=>(bs[i]?).getD false)=bs.any id:=by rw[dU,hb.length];exact LSm.range_any bs
  rw[e];exact h h' tk (LSm.kept_iter hk)
theorem Xo(hc:X.calm=true):gY X (.builtin "all") (jB X.K pP):=by
 intro pins s σ H vs us Q I rv h;obtain⟨S,α,ds,z,S',hs,r,hg,k⟩:=h;unfold pP at hg;split at hg
 .obtain⟨v,rfl,r0⟩:=r.inv1;cases r0 with
  |@ref n a ha =>
   split at hg
   .rename_i e;simp only[aX] at hg;obtain⟨bs,e1,e2⟩:=hg;cases e2;obtain⟨ws,q,r⟩:=nM hs ha (.inl e);obtain⟨u,rfl,ru⟩:=oJ rv;cases ru;obtain⟨its,rr,pl,hz⟩:=I.list q;exact zjG (I.ok.hd hc) pl.isList (J4 r rr e1) λh' tk hk=>⟨.bl _,H,I.kept hk,rfl,k.same hs (.bl _)⟩
   .cases hg
 .cases hg
theorem Xp(hc:X.calm=true):gY X (.builtin "any") (jB X.K uI):=by
 intro pins s σ H vs us Q I rv h;obtain⟨S,α,ds,z,S',hs,r,hg,k⟩:=h;unfold uI at hg;split at hg
 .obtain⟨v,rfl,r0⟩:=r.inv1;cases r0 with
  |@ref n a ha =>
   split at hg
   .rename_i e;simp only[aX] at hg;obtain⟨bs,e1,e2⟩:=hg;cases e2;obtain⟨ws,q,r⟩:=nM hs ha (.inl e);obtain⟨u,rfl,ru⟩:=oJ rv;cases ru;obtain⟨its,rr,pl,hz⟩:=I.list q;exact zjD (I.ok.hd hc) pl.isList (J4 r rr e1) λh' tk hk=>⟨.bl _,H,I.kept hk,rfl,k.same hs (.bl _)⟩
   .cases hg
 .cases hg
theorem zjn(hh:A.handled=none)(hl:s.heap.IsTuple l (intItems xs))(hne:0<xs.size)(h:∀v h' tk,(intItems xs)[argBest (λi j=>decide (numAt xs i<numAt xs j)) (xs.size - 1)]?=some v->(∀b o,s.heap.get? b=some o->h'.get? b=some o)->Q v { s with heap:=h',toks:=tk }):
 wpAny (model prog w) A (call (.builtin "min") [.ref l]) Q E s:=by
 have hlt:l<s.heap.objs.size:=by obtain⟨_,e,_⟩:=hl;exact cG e
 refine call_min_walk (wpAny_pyIter_tuple hl ?_);refine⟨_,[s.heap.objs.size,l],[s.heap.objs.size],_,_,_,_,rfl,Walks.tuple (A:=A.in1) hh _ l (dz hlt) (intItems xs),
  ⟨⟨_,gw _ rfl,rfl,rfl⟩,hl.push _⟩,λc hc=>?_,by simpa[intItems] using hne,CmpOf.ints_lt (numAt xs) (λ_ _=>intItems_at),λv h' tk hP hk=>?_⟩
 .show c<(s.heap.push _).objs.size;rw[Heap.size_push];rcases List.mem_cons.mp hc with rfl|hc
  .exact Nat.lt_succ_self _
  .rcases List.mem_cons.mp hc with rfl|hc
   .exact Nat.lt_succ_of_lt hlt
   .cases hc
 .exact h v h' tk (by simpa[intItems] using hP) (LSm.kept_iter hk)
theorem zjo(hh:A.handled=none)(hl:s.heap.IsTuple l (intItems xs))(hne:0<xs.size)(h:∀v h' tk,(intItems xs)[argBest (λi j=>decide (numAt xs i>numAt xs j)) (xs.size - 1)]?=some v->(∀b o,s.heap.get? b=some o->h'.get? b=some o)->Q v { s with heap:=h',toks:=tk }):
 wpAny (model prog w) A (call (.builtin "max") [.ref l]) Q E s:=by
 have hlt:l<s.heap.objs.size:=by obtain⟨_,e,_⟩:=hl;exact cG e
 refine call_max_walk (wpAny_pyIter_tuple hl ?_);refine⟨_,[s.heap.objs.size,l],[s.heap.objs.size],_,_,_,_,rfl,Walks.tuple (A:=A.in1) hh _ l (dz hlt) (intItems xs),
  ⟨⟨_,gw _ rfl,rfl,rfl⟩,hl.push _⟩,λc hc=>?_,by simpa[intItems] using hne,CmpOf.ints_gt (numAt xs) (λ_ _=>intItems_at),λv h' tk hP hk=>?_⟩
 .show c<(s.heap.push _).objs.size;rw[Heap.size_push];rcases List.mem_cons.mp hc with rfl|hc
  .exact Nat.lt_succ_self _
  .rcases List.mem_cons.mp hc with rfl|hc
   .exact Nat.lt_succ_of_lt hlt
   .cases hc
 .exact h v h' tk (by simpa[intItems] using hP) (LSm.kept_iter hk)
noncomputable def lM:GN
 |[.tup xs],S=>(mK xs).bind λns=>(jh ns).map λm=>(.int m,S)
 |ds,S=>pC ds S
noncomputable def jQ:GN
 |[.tup xs],S=>(mK xs).bind λns=>(jk ns).map λm=>(.int m,S)
 |ds,S=>pF ds S
theorem ZL(hc:X.calm=true):gY X (.builtin "min") (jB X.K lM):=by
 intro pins s σ H vs us Q I rv h;obtain⟨S,α,ds,z,S',hs,r,hg,k⟩:=h;unfold lM at hg;split at hg
 .obtain⟨v,rfl,r0⟩:=r.inv1;cases r0 with
  |@tup a ds vs q r1 =>
   simp only[bf,aX] at hg;obtain⟨ns,e1,m,e2,e3⟩:=hg;cases e3;obtain⟨u,rfl,ru⟩:=oJ rv;cases ru;obtain⟨its,rr,pl,hz⟩:=I.tuple q;have hi:=yp r1 rr e1;have hne:0<ns.length:=by
    cases ns with
    |nil=>cases e2
    |cons _ _=>simp
   obtain⟨xs,hxs⟩:=hi.allInts.items;have hn:=hi.numsOf;have hnn:numsOf (intItems xs).toList=ns:=by rw[<-hxs];simpa using hn
   rw[nums_intItems] at hnn;have hsz:0<xs.size:=by have:=congrArg List.length hnn;simp at this;omega
   have hl':s.heap.IsTuple a (intItems xs):=by rw[<-hxs];exact pl
   refine zjn (I.ok.hd hc) hl' hsz λv h' tk hv hk=>?_;obtain⟨t,rfl⟩:=intItems_at hv;obtain⟨h1,h2⟩:=argBest_lt (numAt xs) (xs.size - 1);have hm:jh ns=some (numAt xs (argBest (λi j=>decide (numAt xs i<numAt xs j)) (xs.size - 1))):=by
    refine Q6 ?_ λb hb=>?_
    .rw[<-hnn,numAt_eq];exact getD_mem (by rw[dJ,Array.length_toList];omega)
    .rw[<-hnn] at hb;obtain⟨j,hj,rfl⟩:=mem_getD hb;rw[dJ,Array.length_toList] at hj;rw[<-numAt_eq];exact h2 j (by omega)
   rw[e2] at hm;cases hm;exact⟨.int _,H,I.kept hk,⟨t,rfl⟩,k.same hs (.int _)⟩
 .exact Xv hc pins s σ H vs us Q I rv ⟨S,α,_,z,S',hs,r,hg,k⟩
theorem ZK(hc:X.calm=true):gY X (.builtin "max") (jB X.K jQ):=by
 intro pins s σ H vs us Q I rv h;obtain⟨S,α,ds,z,S',hs,r,hg,k⟩:=h;unfold jQ at hg;split at hg
 .obtain⟨v,rfl,r0⟩:=r.inv1;cases r0 with
  |@tup a ds vs q r1 =>
   simp only[bf,aX] at hg;obtain⟨ns,e1,m,e2,e3⟩:=hg;cases e3;obtain⟨u,rfl,ru⟩:=oJ rv;cases ru;obtain⟨its,rr,pl,hz⟩:=I.tuple q;have hi:=yp r1 rr e1;have hne:0<ns.length:=by
    cases ns with
    |nil=>cases e2
    |cons _ _=>simp
   obtain⟨xs,hxs⟩:=hi.allInts.items;have hn:=hi.numsOf;have hnn:numsOf (intItems xs).toList=ns:=by rw[<-hxs];simpa using hn
   rw[nums_intItems] at hnn;have hsz:0<xs.size:=by have:=congrArg List.length hnn;simp at this;omega
   have hl':s.heap.IsTuple a (intItems xs):=by rw[<-hxs];exact pl
   refine zjo (I.ok.hd hc) hl' hsz λv h' tk hv hk=>?_;obtain⟨t,rfl⟩:=intItems_at hv;obtain⟨h1,h2⟩:=argBest_gt (numAt xs) (xs.size - 1);have hm:jk ns=some (numAt xs (argBest (λi j=>decide (numAt xs i>numAt xs j)) (xs.size - 1))):=by
    refine Rp ?_ λb hb=>?_
    .rw[<-hnn,numAt_eq];exact getD_mem (by rw[dJ,Array.length_toList];omega)
    .rw[<-hnn] at hb;obtain⟨j,hj,rfl⟩:=mem_getD hb;rw[dJ,Array.length_toList] at hj;rw[<-numAt_eq];exact h2 j (by omega)
   rw[e2] at hm;cases hm;exact⟨.int _,H,I.kept hk,⟨t,rfl⟩,k.same hs (.int _)⟩
 .exact Xu hc pins s σ H vs us Q I rv ⟨S,α,_,z,S',hs,r,hg,k⟩
end
theorem zjy(l:Addr)(items:Array Value)(n:Nat)(b:Addr)(items2:Array Value)(n2:Nat)(dd:Option Addr)(sl:Array (Option Value))(hs0:¬(!items.isEmpty&&Builtin.List.listTooLong (items.size+items2.size))=true)(hs1:items.size<=sizeLine)(hs2:items.size+items2.size<=sizeLine+1):
 Meets (Builtin.«list.extend» ⟨[.ref l,.ref b],[]⟩) (λ_ R s=>s.heap.get? l=some { cls := .type "list",dict:=none,data := .seq items n,slots:=#[] }/\s.heap.get? b=some { cls := .type "tuple",dict:=dd,data := .seq items2 n2,slots:=sl }/\R (.ok (.ret Value.none)) { s with heap:=s.heap.update l (Obj.mapSeq λx=>x++items2),toks:=s.toks }) :=
 .of_wp λprog w A R s h=>by
  obtain⟨hp,g,d,tk,os⟩:=s;obtain⟨hl,hb,h⟩:=h;have f1:=AutoSeq1.idx_int;have f2:=AutoSeq1.sub_tuple_tuple;have f3:=AutoSeq1.sub_list_list;have f4:=AutoSeq1.sub_tuple_list;have f5:=AutoSeq1.sub_list_tuple;have hz':(items++items2).size<=sizeLine+1:=by rw[Array.size_append];exact hs2
  wp_walk using (wpAny_updateSeq hl rfl (hz:=hs1) (_hz':=hz')),AutoSeq1.wpAny_loadPart' hl,AutoSeq1.wpAny_loadPart' hb;exact⟨_,rfl,h⟩
noncomputable def xJ:GM
 |.ref n,[.ref m],S=>match S[n]?,S[m]? with
  |some (.lst xs),some (.lst ys)=>if xs.length+ys.length<=sizeLine then some (.non,S.set n (.lst (xs++ys))) else none
  |_,_=>none
 |.ref n,[.tup ys],S=>match S[n]? with
  |some (.lst xs)=>if xs.length+ys.length<=sizeLine then some (.non,S.set n (.lst (xs++ys))) else none
  |_=>none
 |_,_,_=>none
def aH.eraseIdx{K:FgA}{H:Hp}{α:List Addr}:∀{ds:List D} {vs:List V} (i:Nat),aH K H α ds vs->aH K H α (ds.eraseIdx i) (vs.eraseIdx i)
 |_,_,_,.nil => .nil
 |_,_,0,.cons _ t=>t
 |_,_,i+1,.cons r t => .cons r (aH.eraseIdx i t)
theorem aH.dropLast{K:FgA}{H:Hp}{α:List Addr}{ds:List D}{vs:List V}(r:aH K H α ds vs):aH K H α ds.dropLast vs.dropLast:=by rw[List.dropLast_eq_take,List.dropLast_eq_take,r.length];exact r.take _
theorem zkv:su X "list.extend" (vM X.K xJ):=by
 intro pins s σ H v vs vv us Q I rv rs h;obtain⟨S,α,d,ds,z,S',hs,r,rr,hg,k⟩:=h;unfold xJ at hg;split at hg
 .cases r with
  |ref ha =>
   split at hg
   .rename_i e1 e2;split at hg
    .rename_i hl;cases hg;obtain⟨w,rfl,eY⟩:=rr.inv1;cases eY with
     |ref hb =>
      obtain⟨ws,q,r⟩:=hs.obj _ _ _ e1 ha;obtain⟨ws2,q2,r2⟩:=hs.obj _ _ _ e2 hb;refine zks pins s σ H _ _ _ us Q I rv rs ⟨_,_,_,_,rfl,rfl,q,q2,by rw[<-r.length,<-r2.length];exact hl,?_⟩;obtain⟨s2,x2⟩:=hs.put (o := .lst (_++_)) (u := .lst (ws++ws2)) e1 rfl rfl ha q (.inl ⟨_,rfl⟩) λx=>⟨_,fJ,(r.append r2).mono x⟩
      exact k _ _ _ s2 x2 .non
    .cases hg
   .cases hg
 .cases r with
  |ref ha =>
   split at hg
   .rename_i xs e1;split at hg
    .rename_i hl;cases hg;obtain⟨w,rfl,eY⟩:=rr.inv1;cases eY with
     |tup hb r2 =>
      obtain⟨ws,q,r⟩:=hs.obj _ _ _ e1 ha;cases rv;obtain⟨u,rfl,ru⟩:=rs.one;cases ru;obtain⟨hz,its,n0,vL,hli,ho⟩:=I.lstM q;obtain⟨its2,tZ,⟨⟨c2,dd2,dt2,sl2⟩,ho2,hc2,n2,hd2⟩,hz2⟩:=I.tuple hb;simp only at hc2 hd2;subst hc2 hd2;have e3:its.length=xs.length:=by rw[<-hli,r.length]
      have e4:=tZ.length;rw[<-r2.length] at e4;have hsz:its.toArray.size+its2.toArray.size<=sizeLine:=by rw[dU,dU,e3,<-e4];exact hl
      have pA:¬(!its.toArray.isEmpty&&Builtin.List.listTooLong (its.toArray.size+its2.toArray.size))=true:=by rw[Py hsz,Bool.and_false];exact gA
      refine call_meets F.slot_list_extend ⟨_,ho,rfl⟩ F.entry_list_extend (F.args_list_extend_2 _ _)
       (zjy _ its.toArray n0 _ its2.toArray n2 dd2 sl2 pA (by omega) (by omega)) ⟨ho,ho2,?_⟩
      obtain⟨s2,x2⟩:=hs.put (o := .lst (xs++_)) (u := .lst (ws++_)) e1 rfl rfl ha q (.inl ⟨_,rfl⟩) λx=>⟨_,fJ,(r.append r2).mono x⟩
      refine⟨.non,_,I.lset (its':=its++its2) q ho (by simp) (vL.append tZ) ?_,rfl,k _ _ _ s2 x2 .non⟩;rw[lH,<-r.length,<-r2.length];exact hl
    .cases hg
   .cases hg
 .cases hg
noncomputable def mW:GM
 |.ref n,[],S=>match S[n]? with
  |some (.lst xs)=>(xs[xs.length - 1]?).map λd=>(d,S.set n (.lst xs.dropLast))
  |_=>none
 |.ref n,[.int i],S=>match S[n]? with
  |some (.lst xs)=>if -(2 ^ 63)<=i/\i<2 ^ 63 then(seqIndex? i xs.length).bind λk=>(xs[k]?).map λd=>(d,S.set n (.lst (xs.eraseIdx k))) else none
  |_=>none
 |_,_,_=>none
theorem YZ:su X "list.pop" (vM X.K mW):=by
 intro pins s σ H v vs vv us Q I rv rs h;obtain⟨S,α,d,ds,z,S',hs,r,rr,hg,k⟩:=h;unfold mW at hg;split at hg
 .cases r with
  |ref ha =>
   split at hg
   .rename_i xs e;simp only[aX] at hg;obtain⟨d,e1,e2⟩:=hg;cases e2;cases rr;obtain⟨ws,q,r⟩:=hs.obj _ _ _ e ha;obtain⟨w,ew,eY⟩:=r.get e1;refine Y0 pins s σ H _ _ _ us Q I rv rs ⟨_,_,w,rfl,rfl,q,by rw[<-r.length];exact ew,?_⟩;obtain⟨s2,x2⟩:=hs.put (o := .lst xs.dropLast) (u := .lst ws.dropLast) e rfl rfl ha q (.inl ⟨_,rfl⟩) λx=>⟨_,fJ,r.dropLast.mono x⟩
    exact k _ _ _ s2 x2 (eY.mono x2)
   .cases hg
 .cases r with
  |ref ha =>
   split at hg
   .rename_i xs e;split at hg
    .rename_i hb;simp only[bf,aX] at hg;obtain⟨kk,e0,d,e1,e2⟩:=hg;cases e2;obtain⟨w0,rfl,r0⟩:=rr.inv1;cases r0;obtain⟨ws,q,r⟩:=hs.obj _ _ _ e ha;obtain⟨w,ew,eY⟩:=r.get e1;refine zmm pins s σ H _ _ _ us Q I rv rs ⟨_,_,_,kk,w,rfl,rfl,q,hb.1,hb.2,by rw[<-r.length];exact e0,ew,?_⟩;obtain⟨s2,x2⟩:=hs.put (o := .lst (xs.eraseIdx kk)) (u := .lst (ws.eraseIdx kk)) e rfl rfl ha q (.inl ⟨_,rfl⟩) λx=>⟨_,fJ,(r.eraseIdx kk).mono x⟩
     exact k _ _ _ s2 x2 (eY.mono x2)
    .cases hg
   .cases hg
 .cases hg
noncomputable def Cw(g:GM)(fo:EF):EF:=λσ S=>(fo σ S).bind λr=>match r.1 with
 |.ref n=>match r.2[n]? with
  |some (.lst _)=>g r.1 [] r.2
  |_=>none
 |_=>none
theorem YQ{o:Expr}{fo:EF}{g:GM}{id:String}{apos:Pos}(slot:Slot "list" name id)(hty:typeOf (.builtin id)=pure (.type "method_descriptor"))(hm:su X id (vM X.K g))(ho:SE X o fo)(hbase:attributeBase o name X.env (eval o X.env)=eval o X.env)(hline:(apos.endLine==cpos.line)=true):
 SE X (.Call (.Attribute o name apos) [] [] cpos) (Cw g fo):=by
 refine PE.imp (Zd PySem.F.plainAttrs_list slot hty hm ho hbase hline) λσ H Q h=>?_;obtain⟨σd,S,α,z,S',hv,hs,hf,k⟩:=h;unfold Cw at hf;simp only[bf] at hf;obtain⟨⟨d,S1⟩,e1,e2⟩:=hf;refine⟨σd,S,α,d,S1,hv,hs,e1,λv H1 α1 s1 x1 r1=>?_⟩;simp only at e2;split at e2
 .rename_i n;split at e2
  .rename_i xs q;cases r1 with
   |ref ha =>
    obtain⟨ws,hw,_⟩:=s1.obj _ _ _ q ha;exact⟨.inl ⟨rfl,_,dG.of hw⟩,S1,α1,_,[],z,S',s1,.ref ha,.nil,e2,k.trans x1⟩
  .cases e2
 .cases e2
end MX
end
section
namespace MX
open PySem PySem.Spec PySem.W PyProof.Rows L2
noncomputable def wH(P:Program)(w:World)(K:FgA)(mg:Str->Option Value)(base:Heap)(N:List Str)(qual:Str)(scope:Scope)(f:Addr)(cd:Value)(cl:List (Str×Addr))(A:Around)(outer:List Env)(s:Shared)(H:Hp)(E:XK):Cx where
 prog:=P
 w:=w
 K:=K
 mg:=mg
 base:=base
 A:=A.deeper (envX qual scope s.heap.objs.size f cd cl)
 N:=N
 s₀:=s
 H₀:=H
 env:=envX qual scope s.heap.objs.size f cd cl
 outer:=outer
 stack:=envX qual scope s.heap.objs.size f cd cl::outer
 ex:=[]
 calm:=true
 fn:=λ_=>false
 pn:=[]
 xe:=λe s'=>wpAny (model P w) (A.deeper (envX qual scope s.heap.objs.size f cd cl)) (leaving (envX qual scope s.heap.objs.size f cd cl) e) (λ_ s''=>iu outer H s E e s'') (λe' s''=>iu outer H s E e' s'') s'
structure pL(p:Str)(scope:Scope)(cl:List (Str×Addr)):Prop where
 kind:scope.kind = .function
 co:scope.isCoroutine=false
 gen:scope.isGenerator=false
 par:scope.names.lookup p=some .local
 nocell:∀x∈scope.names,x.2 ≠ .cell
 has:∀x,scope.names.lookup x=some .free->∃c,cl.lookup x=some c
 inj:∀x y c,cl.lookup x=some c->cl.lookup y=some c->x=y
def zoN(h:∀x∈scope.names,x.2≠NameKind.cell)(x:Str):scope.names.lookup x≠some .cell:=λe=>h _ (iy e) rfl
theorem mY{R:Result->Shared->Prop}{args:Args}{body:Expr}(hroom:A.depth<recursionLimit)(ho:s.heap.get? a=some o)(hd':o.data = .func fd)(hco:fd.scope.isCoroutine=false)(hgen:fd.scope.isGenerator=false)(hbody:fd.body = .expr body)(hcd:s.heap.CodeRec fd.code q)(h:wpAny (model prog w) A.in1 (bindArgs fd args) (λbinds s₁ =>
  wpAny (model prog w) A.in1 (newFunctionEnv fd.scope fd.globals fd.closure binds (q ++ ".<locals>.") (some a) fd.code none fd.builtins)
   (λenv s₂=>s₂.heap.NoLimit/\codeAny (model prog w) A (.expr body env) R s₂) (λe s'=>R (.error e) s') s₁) (λe s'=>R (.error e) s') s):
 codeAny (model prog w) A (.call (.ref a) args) R s:=by
 refine codeAny_of_tree ?_;show wpAny _ A.in1 (callAny (.ref a) args) _ _ s;simp only[callAny];refine aO (wpAny_load ho ?_);obtain⟨c,oc,vs,tq,hc,hoc,hdc,hq⟩:=hcd;simp only[hd',callFunction,hco,hgen,hbody,hc];rw[hc] at h;refine aO (m:=field (.ref c) 1) (wpAny_field hoc hdc hq (aO (b7 ?_)));exact aO (jO h (λbinds s₁ h₁=>aO (jO h₁ (λenv s₂ h₂=>aO (wpAny_enterFrame h₂.1 hroom
  (b7 (And.intro rfl h₂.2)))) λ_ _ h'=>h')) λ_ _ h'=>h')
theorem YW{P:Program}{base:Heap}{body:Expr}{cl:List (Str×Addr)}{pm cdv ctv:Value}{p:Str}{cap:List Str}{gm:List V}{cus:List Value}{sp:Sp}{Pt:Addr}{bN:Pos}(ho:base.get? a=some o)(hod:o.data = .func (kla_fn name qual params body scope cl pm cdv ctv))(hcd:∀vs H Q E,sp vs H Q E->∃ps,H Pt=some (.tbl ps)/\codeAmong bN ps.toList=some cdv)(S:pL p scope cl)(hcells:∀x c,cl.lookup x=some c->∃v,base.IsCell c v)(hcap:∀(i:Nat) x v,cap[i]?=some x->gm[i]?=some v->scope.names.lookup x=some .free/\∃c u,cl.lookup x=some c/\base.IsCell c (some u)/\RelV v u)(hlen:cap.length=gm.length)(len:∀vs H Q E,sp vs H Q E->vs.length=1)(hbody:∀(qual:Str) (A:Around) (outer:List Env) (s:Shared) (H:Hp) (v:V) (Q:VK) (E:XK),bI k (A.deeper (envX qual scope s.heap.objs.size a cdv cl))->sp [v] H Q E ->
  ∃t,PE (wH P w K mg base (p::cap) qual scope a cdv cl A outer s H E).nox body t/\t (some v::gm.map some) H Q):
 cW P w K mg base iu (k+1) a (kla_fn name qual params body scope cl pm cdv ctv) [p] sp:=by
 refine⟨len,λA outer s H args us vs Q E hr e0 hb r hsp=>?_⟩;have hl:=len _ _ _ _ hsp;obtain⟨v,rfl⟩:∃v,vs=[v]:=by
  match vs,hl with
  |[v],_=>exact⟨v,rfl⟩
 obtain⟨u,rfl,rv⟩:∃u,us=[u]/\RelV v u:=by
  cases r with
  |cons h1 h2=>cases h2;exact⟨_,rfl,h1⟩
 have bk:∀b o,base.get? b=some o->s.heap.get? b=some o:=λb o e=>(e0.bs b o e).1;have lim:s.heap.NoLimit:=e0.mod.nolimit.keeps bk;obtain⟨ps,hps,ham⟩:=hcd _ _ _ _ hsp;obtain⟨_,_,hcp⟩:=e0.hok Pt _ hps;obtain⟨cc,q,oc,vs,tq,hc1,_,hc2,hc3,hc4⟩:=hcp bN cdv ham;have cr:s.heap.CodeRec cdv q:=⟨cc,oc,vs,tq,hc1,hc2,hc3,hc4⟩
 obtain⟨t,ht,hq⟩:=hbody q A outer s H v Q E (hr.deeper _) hsp;refine mY hr.depth (bk _ _ ho) hod S.co S.gen rfl cr (hb _ _ _ _ ?_);have hloc:∀y∈[p].zip [u],scope.names.lookup y.1=some .local:=λy hy=>by
  have:y=(p,u):=by simpa using hy
  subst this;exact S.par
 refine wpAny_newFunctionEnv S.nocell hloc (λh₁ hns hsb=>⟨lim.fresh _ hsb,?_⟩) S.kind;show codeAny _ _ (.expr body (envX q scope s.heap.objs.size a cdv cl)) _ _;have hk₁:∀b o,s.heap.get? b=some o->h₁.get? b=some o:=λb o e=>hsb.extBut b o (dz (cG e)) (dm _ e);have cellK:∀c v,base.IsCell c v->h₁.IsCell c v:=λc v ⟨o,e,d⟩=>⟨o,hk₁ _ _ (bk _ _ e),d⟩
 have rH:∀b:Addr,b∉(wH P w K mg base (p::cap) q scope a cdv cl A outer s H E).ex:=λb z=>absurd (show b∈([]:List Addr) from z) (by simp);have I:Inv (wH P w K mg base (p::cap) q scope a cdv cl A outer s H E) [] (some v::gm.map some) H { s with heap:=h₁,toks:=s.toks+([p].zip [u]).length }:=by
  refine⟨⟨e0.mod,S.kind,rfl,rfl,bZ _,S.inj,λy hy=>?_,λy c hf _=>(nomatch hf),λ_=>hr.hd,Around.frames_deeper e0.frames,.inr ⟨rfl,rfl⟩,λb z=>absurd z (rH b),e0.bs,e0.bsz,λb _ _=>rH b,λb z=>absurd z (rH b),e0.funs,e0.frf⟩,
   rfl,e0.bare,Un.kept hk₁,⟨_,hns,λi y z h1 h2 h3=>?_⟩,λy c h=>?_,e0.hok.fresh (bZ _),λy c h=>?_,λq hq=>absurd (show q∈([]:List (Addr×Obj)) from hq) (by simp),e0.hok.kept hk₁,?_⟩
  .rcases hy with hy|hy
   .exact absurd hy (zoN S.nocell y)
   .exact S.has y hy
  .cases i with
   |zero =>
    have e1:p=y:=by simpa[wH] using h1
    have e2:v=z:=by simpa using h2
    subst e1 e2;exact⟨u,rv,.inl ⟨S.par,by simp⟩⟩
   |succ i =>
    have e1:cap[i]?=some y:=by simpa[wH] using h1
    have e2:gm[i]?=some z:=by
     rw[List.getElem?_cons_succ,jg] at h2;cases q:gm[i]? with
     |none=>rw[q] at h2;cases h2
     |some x=>rw[q] at h2;cases h2;rfl
    obtain⟨k1,c,u',k2,k3,k4⟩:=hcap i y z e1 e2;exact⟨u',k4,.inr ⟨.inr k1,c,k2,cellK _ _ k3⟩⟩
  .obtain⟨v',hv⟩:=hcells y c h;exact⟨v',cellK _ _ hv⟩
  .obtain⟨v',o',ho',_⟩:=hcells y c h;exact(e0.bs _ _ ho').2
  .show _=(p::cap).length;simp[hlen]
 refine kla_codeExpr (jO (ht.nox [] _ _ H Q I hq) (λu' s' hs=>?_) λe s' hs=>hs);obtain⟨v',H',J,rv',q⟩:=hs;exact⟨v',H',J.os,J.bare,J.base,J.hok,rv',q⟩
section
variable {X:Cx}{x:Str}{p pos:Pos}{e:Expr}{es:List Expr}{t:TA}
structure fU(H H':Hp):Prop where
 tups:∀b xs,H b=some (.tup xs)->H' b=some (.tup xs)
 tbls:∀b ps,H b=some (.tbl ps)->∃more,H' b=some (.tbl (ps++more))
 frzs:∀b o u,H b=some (.frz o u)->H' b=some (.frz o u)
end
def BM(h:Heap)(mg:Str->Option Value):Prop:=∃bm o,mg "__builtins__" = some (.ref bm)/\bm≠builtinsNs/\h.get? bm=some o/\o.cls = .type "module" /\ o.dict=some builtinsNs/\o.data = .plain
def jn(H H':Hp):Prop:=(∀b o,H b=some o->(∀ps,o ≠ .tbl ps)->H' b=some o)/\∀b ps,H b=some (.tbl ps)->∃qs,H' b=some (.tbl qs)
theorem zjF{cv:Value}:∀(l more:List Value),codeAmong pos l=some cv->codeAmong pos (l++more)=some cv:=λl more=>by
 fun_induction codeAmong pos l with
 |case1 line a col b c rest hc =>
  intro e;simp only[List.cons_append,codeAmong];rw[if_pos hc];exact e
 |case2 line a col b c rest hc ih =>
  intro e;simp only[List.cons_append,codeAmong];rw[if_neg hc];exact ih e
 |case3=>intro e;cases e
theorem zjE{pos':Pos}{c cv:Value}:∀l:List Value,TriplesOk l->codeAmong pos (l++[rawInt pos'.line,rawInt pos'.col,c])=some cv->codeAmong pos l=some cv\/cv=c:=λl h=>by
 fun_induction TriplesOk l with
 |case1 =>
  intro e;simp only[uD,codeAmong,rawInt] at e;split at e
  .cases e;exact .inr rfl
  .cases e
 |case2 a' t b' u x rest ih =>
  intro e;simp only[List.cons_append,codeAmong] at e ⊢;split at e
  .rename_i hc;rw[if_pos hc];exact .inl e
  .rename_i hc;rw[if_neg hc];exact ih h e
 |case3 l h1 h2=>exact h.elim
section
variable {X:Cx}{pins:List (Addr×Obj)}{σ:L2.St}{H:Hp}{s:Shared}
theorem S8(I:Inv X pins σ H s){t':Nat}(k:∀b o,s.heap.get? b=some o->h'.get? b=some o):Inv X pins σ H { s with heap:=h',toks:=t' } :=
 I.step (h':=h') (g':=s.gens) (d':=s.drawn) (ch:=[]) (λ_ z=>nomatch z) (λb o _ _ _ e _=>k b o e) (λb o _ _ _ e _=>⟨o.slots,k b o e⟩) (λb o _ _ n=>n) (λb o _ e=>⟨o,k b o e⟩) (λ_ _ q=>q) (λ_ _ _ q=>q) (λ_ ps q=>⟨#[],by rw[q];simp⟩)
  (λm ⟨o,es,ep,e,r⟩=>⟨o,es,ep,k _ _ e,r⟩) (I.hok.kept k) I.bare
theorem zkU(I:Inv X pins σ H s){P c':Addr}{ps:Array Value}{t':Nat}{bN:Pos}(hT:H P=some (.tbl ps))(hx:Heap.ExtBut P s.heap h')(hge:s.heap.objs.size<=c')(hrec:h'.CodeRec (.ref c') q)(hP:h'.get? P=some (tabObj (ps++#[rawInt bN.line,rawInt bN.col,.ref c']))):
 Inv X pins σ (upd (upd H P (.tbl (ps++#[rawInt bN.line,rawInt bN.col,.ref c']))) c' (.own P)) { s with heap:=h',toks:=t' }:=by
 have hc:H c'=none:=I.hok.fresh hge;have hPc:P≠c':=λz=>by rw[z,hc] at hT;cases hT
 have Gj:∀b,H b=none->b≠P:=λb n z=>by rw[z,hT] at n;cases n
 have t7:∀b o,s.heap.get? b=some o->b≠c':=λb o e z=>absurd (dM (cG e) (z ▸ hge)) (iw _);have old:∀b,b≠P->b≠c'->upd (upd H P (.tbl (ps++#[rawInt bN.line,rawInt bN.col,.ref c']))) c' (.own P) b=H b:=λb h1 h2=>by rw[cu h2,cu h1]
 have oldS:∀b o,H b=some o->b≠P->upd (upd H P (.tbl (ps++#[rawInt bN.line,rawInt bN.col,.ref c']))) c' (.own P) b=some o:=λb o e h1=>by rw[old b h1 (gB e hc)];exact e
 obtain⟨eP,tP,cP⟩:=I.hok P _ hT;refine I.step (h':=h') (g':=s.gens) (d':=s.drawn) (ch:=[]) (λ_ z=>nomatch z) (λb o _ _ _ e n=>hx b o (Gj b n) e) (λb o _ _ _ e n=>⟨o.slots,hx b o (Gj b n) e⟩) (λb o _ e n=>by rw[old b (Gj b n) (t7 b o e)];exact n) (λb o _ e=>?_)
  (λb xs q=>oldS b _ q λz=>by rw[z,hT] at q;cases q) (λb o u q=>oldS b _ q λz=>by rw[z,hT] at q;cases q) (λb qs e=>?_) (λm hm=>hm.extBut hx (Gj _ I.free)) (λb o e=>?_) I.bare
 .by_cases hb:b=P
  .subst hb;exact⟨_,hP⟩
  .exact⟨o,hx b o hb e⟩
 .by_cases hb:b=P
  .subst hb;rw[hT] at e;cases e;exact⟨_,by rw[cu hPc,fJ]⟩
  .exact⟨#[],by rw[oldS b _ e hb];simp⟩
 .obtain⟨c2,oc,vs,t,ec,hoc,hod,hv⟩:=hrec;cases ec;by_cases h1:b=c'
  .subst h1;rw[fJ] at e;cases e;exact⟨_,hoc⟩
  .rw[cu h1] at e;by_cases h2:b=P
   .subst h2;rw[fJ] at e;cases e;refine⟨hP,by rw[Array.toList_append];exact TriplesOk_snoc _ _ _ _ tP,λpos cv q=>?_⟩;rw[Array.toList_append] at q;rcases zjE _ tP q with q|q
    .obtain⟨c3,q3,oc3,vs3,t3,e1,e2,e3,e4⟩:=cP pos cv q;have n3:c3≠b:=λz=>by rw[z,hT] at e2;cases e2
     exact⟨c3,q3,oc3,vs3,t3,e1,oldS _ _ e2 n3,hx _ _ n3 e3,e4⟩
    .exact⟨c',_,oc,vs,t,q,fJ,hoc,hod,hv⟩
   .rw[cu h2] at e;refine(I.hok b o e).stay (λx u hxb g=>hx x u ?_ g) (λx g=>oldS x _ g λz=>by rw[z,hT] at g;cases g) λx xs g=>oldS x _ g λz=>by rw[z,hT] at g;cases g
    rcases hxb with z|z
    .rw[z];exact h2
    .intro y;rw[y,hT] at z;cases z
end
section
variable {X:Cx}{pins:List (Addr×Obj)}{σ:L2.St}{H:Hp}{s:Shared}{params:Arguments}{body:Expr}{scope:Scope}{bN:Pos}{clos:List (Str×Addr)}{c P:Addr}{ps:Array Value}{R:Value->Shared->Prop}
structure Made(X:Cx)(pins:List (Addr×Obj))(σ:L2.St)(H:Hp)(s:Shared)(params:Arguments)(body:Expr)(scope:Scope)(clos:List (Str×Addr))(P:Addr)(bN:Pos)(a:Addr)(s':Shared)(H':Hp):Prop where
 inv:Inv X pins σ H' s'
 same:jn H H'
 keep:∀b o,s.heap.get? b=some o->H b=none->s'.heap.get? b=some o/\H' b=none
 no:H' a=none
 new:s.heap.objs.size<=a
 obj:∃pm cdv ctv,s'.heap.get? a=some { cls := .type "function",data := .func (kla_fn "<lambda>" (X.env.qual ++ "<lambda>") params body scope clos pm cdv ctv) }/\∃ps,H' P=some (.tbl ps)/\codeAmong bN ps.toList=some cdv
theorem zmw(I:Inv X pins σ H s)(hT:H P=some (.tbl ps))(hcode:X.env.code = .ref c)(C:CodeHd X.base c P)(B:BM X.base X.mg)(hcl:closureFor scope X.env=pure clos)(hdef:defaultsOf params X.env=([],[]))(h:∀a s' H',Made X pins σ H s params body scope clos P bN a s' H'->R (.ref a) s'):wpAny (model X.prog X.w) X.A (eval (.Lambda params body scope bN) X.env) R X.xe s:=by
 refine kla_eval hdef ?_;obtain⟨eP,tP,cP⟩:=I.hok P _ hT;have hg:s.heap.Ns mainGlobals X.mg:=I.mod.glob.keeps I.bk;have hgP:mainGlobals≠P:=λz=>by obtain⟨o,es,ep,e,hd,_⟩:=I.mod.glob;have:=(I.bs _ _ e).2;rw[z,hT] at this;cases this
 obtain⟨bm,ob,b1,b2,b3,b4,b5,b6⟩:=B;have hbP:bm≠P:=λz=>by have:=(I.bs _ _ b3).2;rw[z,hT] at this;cases this
 have hbG:bm≠mainGlobals:=λz=>by obtain⟨o,es,ep,e,hd,_⟩:=I.mod.glob;rw[z,e] at b3;cases b3;rw[hd] at b6;cases b6
 have hb:s.heap.BuiltinsAt X.mg P:=⟨bm,ob,b1,b2,hbG,hbP,I.bk _ _ b3,b4,b5,b6⟩
 have fnew:∀{h':Heap} {o:Obj} {b:Addr},H b=none->True:=λ_=>trivial;cases hn:codeAmong bN ps.toList with
 |none =>
  refine kla_makeFunction (mg:=X.mg) hcl I.ok.glob hg hcode (C.keeps I.bk) eP tP hn hgP hb λc' ctv h' tk hx hge hlt hrec htb=>?_;have I1:=zkU I (t':=tk) hT hx hge hrec htb;have I2:=S8 I1 (h':=h'.push (kla_obj "<lambda>" (X.env.qual ++ "<lambda>") params body scope clos ((X.mg "__name__").getD .none) c' ctv)) (t':=tk) λb o e=>dm _ e;have hc:H c'=none:=I.hok.fresh hge;refine h h'.objs.size _ _ ⟨I2,⟨λb o e ne=>?_,λb qs e=>?_⟩,λb o e n=>⟨dm _ (hx b o (λz=>by rw[z,hT] at n;cases n) e),?_⟩,?_,?_,?_⟩
  .rw[cu (gB e hc),cu (λz=>ne ps (by rw[z,hT] at e;cases e;rfl))];exact e
  .rw[cu (gB e hc)];by_cases hb:b=P
   .subst hb;exact⟨_,fJ⟩
   .rw[cu hb];exact⟨_,e⟩
  .have hlt':=cG e;rw[cu (dz (dM hlt' hge)),cu (λz=>by rw[z,hT] at n;cases n)];exact n
  .rw[cu (Nat.ne_of_gt hlt),cu (λz=>by
    have:=cG htb;rw[<-z] at this;exact absurd this (iw _))]
   refine I.hok.fresh (uE (CW hge hlt))
  .exact uE (CW hge hlt)
  .exact⟨_,_,ctv,gw _ rfl,_,by rw[cu (gB hT hc),fJ],by rw[Array.toList_append];exact codeAmong_snoc _ tP hn⟩
 |some cv =>
  obtain⟨c',q,oc,vs,t,rfl,e2,e3,e4,e5⟩:=cP bN cv hn;refine kla_makeFunctionHit (mg:=X.mg) hcl I.ok.glob hg hcode (C.keeps I.bk) eP tP hn hb λctv h' tk hk hsz=>?_;have I2:=S8 I (h':=h'.push { cls := .type "function",data := .func (kla_fn "<lambda>" (X.env.qual ++ "<lambda>") params body scope clos ((X.mg "__name__").getD .none) (.ref c') ctv) }) (t':=tk) λb o e=>dm _ (hk b o e);refine h h'.objs.size _ _ ⟨I2,⟨λb o e _=>e,λb qs e=>⟨qs,e⟩⟩,λb o e n=>⟨dm _ (hk b o e),n⟩,I.hok.fresh hsz,hsz,?_⟩;exact⟨_,_,ctv,gw _ rfl,ps,hT,hn⟩
end
noncomputable def qG(env:Env)(y:Str×NameKind):Option (Str×Addr):=if(y.2==NameKind.free)=true then(env.cells.lookup y.1).map λc=>(y.1,c) else none
noncomputable def oE(env:Env)(names:List (Str×NameKind)):List (Str×Addr):=(names.filterMap (qG env)).reverse
theorem Vi{env:Env}:∀(names:List (Str×NameKind)) (acc:List (Str×Addr)),(∀y∈names,y.2 = .free->∃c,env.cells.lookup y.1=some c) ->
 (forIn names acc (fun(x:Str×NameKind) (cs:List (Str×Addr))=>do if(x.2==NameKind.free)=true then let c <-cellOf env x.1;pure (ForInStep.yield ((x.1,c)::cs)) else pure (ForInStep.yield cs)):Sem (List (Str×Addr)))
  = pure (oE env names++acc)
 |[],acc,_=>by simp[oE]
 |y::r,acc,h=>by
  have ih:=Vi (env:=env) r;rw[List.forIn_cons];unfold oE at *
  rw[List.filterMap_cons];by_cases hk:(y.2==NameKind.free)=true
  .obtain⟨c,hc⟩:=h y (fG ..) (by simpa using hk);have hcell:cellOf env y.1=pure c:=by unfold cellOf;rw[hc]
   have hG:qG env y=some (y.1,c):=by unfold qG;rw[if_pos hk,hc];rfl
   simp only[if_pos hk,hcell,pure_bind];rw[ih _ (λz hz=>h z (cQ _ hz)),hG];simp
  .have hG:qG env y=none:=by unfold qG;rw[if_neg hk]
   simp only[if_neg hk,pure_bind];rw[ih _ (λz hz=>h z (cQ _ hz)),hG]
theorem zjB(h:∀y∈scope.names,y.2 = .free->∃c,env.cells.lookup y.1=some c):
 closureFor scope env=pure (oE env scope.names):=by
 unfold closureFor;have:=Vi (env:=env) scope.names [] h;rw[List.append_nil] at this;simpa using this
theorem zjC{y:Str×NameKind}{q:Str×Addr}(e:qG env y=some q):y.2 = .free/\q.1=y.1/\env.cells.lookup y.1=some q.2:=by
 unfold qG at e;split at e
 .rename_i hk;simp only[aX] at e;obtain⟨c,h1,rfl⟩:=e;exact⟨by simpa using hk,rfl,h1⟩
 .cases e
def Tn{q:Str×Addr}:q∈oE env names↔∃y∈names,qG env y=some q:=by unfold oE;rw[List.mem_reverse,List.mem_filterMap]
theorem zjr{α:Type}{l:List (Str×α)}{v:α}(h:(x,v)∈l):∃u,l.lookup x=some u:=by
 induction l with
 |nil=>cases h
 |cons q r ih =>
  obtain⟨k,w⟩:=q;by_cases hk:x=k
  .subst hk;exact⟨w,by simp[List.lookup]⟩
  .rcases List.mem_cons.mp h with e|e
   .cases e;exact absurd rfl hk
   .obtain⟨u,hu⟩:=ih e;refine⟨u,?_⟩;rw[jF];have:(x==k)=false:=by simpa using hk
    rw[this];exact hu
theorem z9(h:(oE env names).lookup x=some c):env.cells.lookup x=some c/\(x,NameKind.free)∈names:=by obtain⟨y,hy,e⟩:=Tn.mp (iy h);obtain⟨h1,h2,h3⟩:=zjC e;obtain⟨y1,y2⟩:=y;simp only at h1 h2 h3;subst h1 h2;exact⟨h3,hy⟩
theorem Tj(h:(x,NameKind.free)∈names)(hc:env.cells.lookup x=some c):(oE env names).lookup x=some c:=by have:(x,c)∈oE env names:=Tn.mpr ⟨_,h,by unfold qG;simp[hc]⟩;obtain⟨u,hu⟩:=zjr this;have:=(z9 hu).1;rw[hc] at this;rw[hu,<-this]
noncomputable def nA(h:Heap)(H:Hp)(l:List Env):Heap:=hideAll h (yJ h H++frs l)
theorem J0{l:List Env}{b:Addr}(e:h.get? b=some o)(n:H b=none)(hf:b∉frs l):(nA h H l).get? b=some o :=
 hideAll_get _ e λhm=>by
  rcases lZ.mp hm with z|z
  .have q:(H b).isSome=true:=(List.mem_filter.mp z).2;rw[n] at q;simp at q
  .exact hf z
theorem TV{l:List Env}{b:Addr}(e:(nA h H l).get? b=some o):h.get? b=some o/\H b=none:=by
 have e':h.get? b=some o:=of_hideAll _ e;refine⟨e',?_⟩;cases q:H b with
 |none=>rfl
 |some x =>
  have hm:b∈yJ h H++frs l:=List.mem_append_left _ (List.mem_filter.mpr ⟨List.mem_range.mpr (cG e'),by simp[q]⟩);have z:(nA h H l).get? b=none:=hideAll_none _ hm;rw[z] at e;cases e
theorem KY{h base base':Heap}:∀{l:List Env},h.FunFrames base l->(∀b∈frs l,base'.get? b=none)->h.FunFrames base' l
 |[],_,_=>trivial
 |env::r,hl,hb=>by
  obtain⟨h1,⟨L,o,h2,_,h3,h4⟩,h5⟩:=hl;refine⟨h1,⟨L,o,h2,hb L ?_,h3,h4⟩,KY h5 λb q=>hb b ?_⟩
  .unfold frs;rw[List.filterMap_cons,h2];exact fG ..
  .unfold frs at *;rw[List.filterMap_cons,h2];exact cQ _ q
def zku{base base':Heap}(M:Mod K mg base)(k:∀b o,base.get? b=some o->base'.get? b=some o):Mod K mg base' :=
 ⟨M.kin.keeps k,M.glob.keeps k,let ⟨mb,h1,h2⟩:=M.blt;⟨mb,h1.keeps k,h2⟩,M.nolimit.keeps k⟩
theorem zlj{pins:List (Addr×Obj)}{σ:L2.St}(I:Inv X pins σ H s):jE X.prog X.w X.K X.mg (nA s.heap H X.stack) X.A X.stack s H/\∀b o,X.base.get? b=some o->(nA s.heap H X.stack).get? b=some o:=by
 have kb:∀b o,X.base.get? b=some o->(nA s.heap H X.stack).get? b=some o:=λb o e =>
  J0 (I.bs b o e).1 (I.bs b o e).2 λz=>by have:=(I.stack.mem z).1;rw[e] at this;cases this
 refine⟨⟨I.ok.frames,zku I.mod kb,λb o e=>TV e,by unfold nA;rw[hideAll_size];exact bZ _,KY I.stack λb hb=>hideAll_none _ (List.mem_append_right _ hb),I.stkFree,I.hok,I.bare⟩,kb⟩
structure W9(base:Heap)(qual:Str)(params:Arguments)(body:Expr)(scope:Scope)(clos:List (Str×Addr))(cap:List Str)(gm:List V)(a:Addr)(cdv:Value):Prop where
 obj:∃pm ctv,base.get? a=some { cls := .type "function",data := .func (kla_fn "<lambda>" (qual ++ "<lambda>") params body scope clos pm cdv ctv) }
 has:∀y,(y,NameKind.free)∈scope.names->∃c,clos.lookup y=some c
 inj:∀y z c,clos.lookup y=some c->clos.lookup z=some c->y=z
 cells:∀y c,clos.lookup y=some c->∃v,base.IsCell c v
 cap:∀(i:Nat) y v,cap[i]?=some y->gm[i]?=some v->(y,NameKind.free)∈scope.names/\∃c u,clos.lookup y=some c/\base.IsCell c (some u)/\RelV v u
section
variable {K:FgA}{H H':Hp}{α:List Addr}
mutual
def D.no:D->Bool
 |.tup xs=>vR xs
 |.obj _ _ _=>false
 |.ref _=>false
 |_=>true
def vR:List D->Bool
 |[]=>true
 |d::ds=>D.no d&&vR ds
end
mutual
theorem Rep.monoT{H H':Hp}{α α':List Addr}(t:fU H H'):∀{d:D} {v:V},Rep K H α d v->D.no d=true->Rep K H' α' d v
 |_,_,.non,_ => .non
 |_,_,.bl b,_ => .bl b
 |_,_,.int i,_ => .int i
 |_,_,.str x,_ => .str x
 |_,_,.tup h r,b => .tup (by
  rcases h with(h|⟨o,h⟩)|h
  .exact .inl (.inl (t.tups _ _ h))
  .exact .inl (.inr ⟨o,t.frzs _ _ _ h⟩)
  .exact .inr h) (aH.monoT t r (by rw[D.no] at b;exact b))
 |_,_,.ref h,b=>by rw[D.no] at b;cases b
 |_,_,.ty n,_ => .ty n
 |_,_,.adr a,_ => .adr a
 |_,_,.obj _ _ _ _ _,b=>by rw[D.no] at b;cases b
theorem aH.monoT{H H':Hp}{α α':List Addr}(t:fU H H'):∀{ds:List D} {vs:List V},aH K H α ds vs->vR ds=true->aH K H' α' ds vs
 |_,_,.nil,_ => .nil
 |_,_,.cons h r,b=>by rw[vR,dj] at b;exact .cons (Rep.monoT t h b.1) (aH.monoT t r b.2)
end
def fU.refl:fU H H:=⟨λ_ _ h=>h,λ_ _ h=>⟨#[],by rw[h];simp⟩,λ_ _ _ h=>h⟩
theorem jn.ext(t:jn H H'):Ext K H α H' α:=⟨λa vs h=>by
 rcases h with(h|⟨o,h⟩)|h
 .exact .inl (.inl (t.1 _ _ h λ_ z=>by cases z))
 .exact .inl (.inr ⟨o,t.1 _ _ h λ_ z=>by cases z⟩)
 .exact .inr h,λ_ _ q=>q,λ_ _ _ _ _ q=>t.1 _ _ q λ_ z=>by cases z⟩
theorem jn.store(t:jn H H')(s:aB K H α S):aB K H' α S:=⟨s.len,s.nd,λn o a h1 h2=>by
 have ob:=s.obj n o a h1 h2;cases o with
 |lst ds=>obtain⟨vs,e,r⟩:=ob;exact⟨vs,t.1 _ _ e (λ_ z=>by cases z),r.mono t.ext⟩
 |frz ds =>
  obtain⟨vs,e,r⟩:=ob;refine⟨vs,?_,r.mono t.ext⟩;rcases e with⟨ob,e⟩|e
  .exact .inl ⟨ob,t.1 _ _ e λ_ z=>by cases z⟩
  .exact .inr e
 |ins C fs=>obtain⟨dx,gs,e,h,r⟩:=ob;exact⟨dx,gs,t.1 _ _ e (λ_ z=>by cases z),h,r.mono t.ext⟩
 |dct xs=>obtain⟨ys,e,r⟩:=ob;exact⟨ys,t.1 _ _ e (λ_ z=>by cases z),r.mono (jn.ext (α:=α) t).tups⟩
 |tbl x=>obtain⟨h0,ps,e⟩:=ob;obtain⟨qs,e'⟩:=t.2 _ _ e;exact⟨h0,qs,e'⟩⟩
end
noncomputable def Dt(P:Program)(w:World)(K:FgA)(mg:Str->Option Value)(base:Heap)(k:Nat)(a:Addr)(R:Hp->Prop)(ψ:GN):Prop :=
 ∃fd q sp,cW P w K mg base iu k a fd [q] sp/\base.get? a=some { cls := .type "function",data := .func fd }/\(∀(s:Shared) (u:Value),BindsTo s fd ⟨[u],[]⟩ [(q,u)])/\∀vs H Q,R H->vs.length=1->jB K ψ vs H Q->sp vs H Q E0
def CK(X:Cx)(a:Addr)(ψ:GN):Prop:=∃R k,Dt X.prog X.w X.K X.mg X.base k a R ψ/\bI k X.A/\∀H,fU X.H₀ H->R H
noncomputable def spH(K:FgA)(R:Hp->Prop)(a:Addr)(ψ:GN)(G:Addr->GN->GN):Sp:=λvs H Q _=>∃v1,vs=[v1,.ref a]/\R H/\∃S α d1 z S',aB K H α S/\Rep K H α d1 v1/\G a ψ [d1,.adr a] S=some (z,S')/\Kt K H α z S' Q
noncomputable def CQ(P:Program)(w:World)(K:FgA)(mg:Str->Option Value)(base:Heap)(k:Nat)(f:Addr)(fd:FuncData)(ps:List Str)(G:Addr->GN->GN):Prop :=
 ∀(a:Addr) (R:Hp->Prop) (ψ:GN),(∀H H',fU H H'->R H->R H')->Dt P w K mg base k a R ψ->cW P w K mg base iu (k+1) f fd ps (spH K R a ψ G)
noncomputable def pJ:List Nat->Sg->Option (List D)
 |[],_=>some []
 |j::r,σ=>match σ[j]? with
  |some (some d)=>(pJ r σ).map λds=>d::ds
  |_=>none
noncomputable def lamF(fb:EF)(ig:List D):GN:=λds S=>match ds with
 |[d]=>fb (some d::ig.map some) S
 |_=>none
theorem R8{K:FgA}{H:Hp}{α:List Addr}{σd:Sg}{σ:L2.St}(hv:bH K H α σd σ):∀{src:List Nat} {ig:List D},pJ src σd=some ig->∃gm:List V,aH K H α ig gm/\src.length=gm.length/\∀(i j:Nat),src[i]?=some j->∃v,σ[j]?=some (some v)/\gm[i]?=some v
 |[],ig,e=>by cases e;exact⟨[],.nil,rfl,λi j h=>by simp at h⟩
 |j::r,ig,e=>by
  unfold pJ at e;split at e
  .rename_i d ed;simp only[aX] at e;obtain⟨ds,e1,rfl⟩:=e;obtain⟨gm,h1,h2,h3⟩:=R8 hv e1;obtain⟨v,k1,k2⟩:=hv.2 j d ed;refine⟨v::gm,.cons k2 h1,by simp[h2],λi j' hi=>?_⟩;cases i with
   |zero=>simp at hi;subst hi;exact⟨v,k1,rfl⟩
   |succ i=>simpa using h3 i j' (by simpa using hi)
  .cases e
structure Du(X:Cx)(P c:Addr):Prop where
 fn:∀y,X.fn y=true
 tab:∃ps,X.H₀ P=some (.tbl ps)
 code:X.env.code = .ref c
 hd:CodeHd X.base c P
 bm:BM X.base X.mg
section
variable {X:Cx}{pins:List (Addr×Obj)}{σ:L2.St}{H1 H':Hp}{s1 s':Shared}{params:Arguments}{body:Expr}{scope:Scope}{bN:Pos}{P:Addr}{cap:List Str}{gm:List V}{a:Addr}
theorem zms(I1:Inv X pins σ H1 s1)(M:Made X pins σ H1 s1 params body scope (oE X.env scope.names) P bN a s' H')(hcap:∀y∈cap,(y,NameKind.free)∈scope.names)(hfree:∀y∈scope.names,y.2 = .free->X.env.kindOf y.1=some .cell)(hfn:∀y,X.fn y=true)(hsl:∀(i:Nat) y,cap[i]?=some y->∃(j:Nat) (v:V),X.N[j]?=some y/\σ[j]?=some (some v)/\gm[i]?=some v):
 ∃cdv,W9 (nA s'.heap H' X.stack) X.env.qual params body scope (oE X.env scope.names) cap gm a cdv/\∃ps,H' P=some (.tbl ps)/\codeAmong bN ps.toList=some cdv:=by
 obtain⟨pm,cdv,ctv,ho,Oh⟩:=M.obj;have I2:=M.inv;have hcells:∀y∈scope.names,y.2 = .free->∃c,X.env.cells.lookup y.1=some c:=λy hy e=>I1.ok.has y.1 (.inl (hfree y hy e));have Bs:∀b,s1.heap.objs.size<=b->b∉frs X.stack:=λb hb z=>by obtain⟨_,o,ho,_⟩:=I1.stack.mem z;exact absurd (dM (cG ho) hb) (iw _)
 have wI:∀y c,X.env.cells.lookup y=some c->c∉frs X.stack:=λy c ec z=>by
  rcases List.mem_cons.mp (I2.stkSub c z) with q|q
  .exact I2.cne y c ec q
  .obtain⟨_,o,ho,_⟩:=I2.ok.funs.mem q;exact absurd (dM (cG ho) (I2.ok.cab y c (hfn y) ec)) (iw _)
 have um:∀y c v,X.env.cells.lookup y=some c->s'.heap.IsCell c v->(nA s'.heap H' X.stack).IsCell c v:=λy c v ec ⟨o,h1,h2⟩=>⟨o,J0 h1 (I2.freeC y c ec) (wI y c ec),h2⟩
 refine⟨cdv,⟨⟨pm,ctv,J0 ho M.no (Bs a M.new)⟩,λy hy=>?_,λy z c h1 h2=>I2.ok.inj y z c (z9 h1).1 (z9 h2).1,λy c h1=>?_,λi y v h1 h2=>?_⟩,Oh⟩
 .obtain⟨c,hc⟩:=hcells _ hy rfl;exact⟨c,Tj hy hc⟩
 .obtain⟨v,hv⟩:=I2.cell y c (z9 h1).1;exact⟨v,um y c v (z9 h1).1 hv⟩
 .have hy:=hcap y (List.mem_of_getElem? h1);obtain⟨j,v',k1,k2,k3⟩:=hsl i y h1;rw[h2] at k3;cases k3;have hkind:=hfree _ hy rfl;obtain⟨m,_,hloc⟩:=I2.loc;obtain⟨u,ru,l⟩:=hloc j y v k1 k2 (.inr (.inl hkind));refine⟨hy,?_⟩;rcases l with⟨l1,_⟩|⟨_,c,l2,l3⟩
  .have l1':X.env.kindOf y=some .local:=l1;have hk':X.env.kindOf y=some .cell:=hkind;rw[hk'] at l1';cases l1'
  .exact⟨c,u,Tj hy l2,um y c _ l2 l3,ru⟩
end
end MX
end
section
namespace MX
open PySem PySem.Spec PyProof.Rows L2
noncomputable def uW:Expr->Bool
 |.Starred _ _=>true
 |_=>false
theorem oW{z:Str}{pz pt ql:Pos}{kt k2:Nat}{a d:Expr}(hk:env.scope.kind = .function)(hx:env.scope.names.lookup x=some .local)(hy:env.scope.names.lookup y=some .local)(hz:env.scope.names.lookup z=some .local)(l1:py.line=px.line)(l2:pz.line=px.line)(xy:x≠y)(xz:x≠z)(yz:y≠z)(s1:uW a=false)(s2:uW b=false)(s3:uW d=false)(f:[a,b,d].all (foldedForSure 8)=false)(g:[a,b,d].all (constantsAlone 8)=false):
 swappedStores [.Tuple [.Name x px,.Name y py,.Name z pz] kt pt] (.Tuple [a,b,d] k2 ql) env=pure (some [x,y,z]):=by
 have hb:env.blockKind = .function:=by unfold Env.blockKind;rw[hk];rfl
 have kx:env.kindOf x=some .local:=hx;have ky:env.kindOf y=some .local:=hy;have kz:env.kindOf z=some .local:=hz;have hst:([a,b,d].any fun|.Starred .. => true|_=>false)=false:=by
  have e:∀e:Expr,uW e=false->(match e with|.Starred .. => true|_=>false)=false:=λe h=>by cases e<;>first|rfl|cases h
  simp only[List.any_cons,List.any_nil,e a s1,e b s2,e d s3,Bool.or_false]
 have WQ:∀e:Pos,(Expr.Name x e).pos=e:=λe=>rfl;have hnm:([Expr.Name x px,Expr.Name y py,Expr.Name z pz].filterMap fun
  |.Name id pos=>if env.kindOf id==some .local&&pos.line==px.line then some id else none
  |_=>none)=[x,y,z]:=by
  simp only[List.filterMap_cons,List.filterMap_nil,kx,ky,kz,l1,l2,beq_self_eq_true,Bool.and_self,if_true]
 have hed:[x,y,z].eraseDups.length=3:=by
  have q1:(y==x)=false:=by simpa using Ne.symm xy
  have q2:(z==x)=false:=by simpa using Ne.symm xz
  have q3:(z==y)=false:=by simpa using Ne.symm yz
  simp[List.eraseDups_cons,q1,q2,q3,xy,xz,yz,Ne.symm xy,Ne.symm xz,Ne.symm yz]
 have nn:∀l:List Str,l=[x,y,z]->¬((l.length != 0+1+1+1||l.eraseDups.length != l.length)=true):=λl e=>by subst e;rw[hed];exact(by decide:¬((3 != 3||3 != 3)=true))
 unfold swappedStores;simp only[jf,uQ,hb,List.head?_cons,pN,Option.getD_some,WQ,f,g];rw[if_neg (by decide)];refine(if_neg (λh=>Bool.noConfusion (hst.symm.trans h))).trans ?_;refine(if_neg (nn _ hnm)).trans ?_;rw[if_neg (by decide),if_neg (by decide)];exact congrArg (λl=>(pure (some l):Sem (Option (List Str)))) hnm
theorem zi3{z:Str}{pz pt ql:Pos}{kt k2:Nat}{vs:List Expr}(h:¬(env.scope.names.lookup x=some .local/\env.scope.names.lookup y=some .local/\env.scope.names.lookup z=some .local)):
 swappedStores [.Tuple [.Name x px,.Name y py,.Name z pz] kt pt] (.Tuple vs k2 ql) env=pure none:=by
 have hb:∀(l:Nat) (w:Str) (p:Pos),(if env.kindOf w==some .local&&p.line==l then some w else none)=some w->env.scope.names.lookup w=some .local:=λl w p e=>by
  by_cases q:(env.kindOf w==some .local&&p.line==l)=true
  .exact eq_of_beq (Bool.and_eq_true_iff.mp q).1
  .rw[if_neg q] at e;cases e
 have hl:∀l:Nat,(([Expr.Name x px,Expr.Name y py,Expr.Name z pz].filterMap fun
  |.Name id pos=>if env.kindOf id==some .local&&pos.line==l then some id else none
  |_=>none).length != 0+1+1+1)=true:=λl=>by
  simp only[List.filterMap_cons,List.filterMap_nil];by_cases hx:(env.kindOf x==some .local&&px.line==l)=true
  .by_cases hy:(env.kindOf y==some .local&&py.line==l)=true
   .by_cases hz:(env.kindOf z==some .local&&pz.line==l)=true
    .exact absurd ⟨eq_of_beq (Bool.and_eq_true_iff.mp hx).1,eq_of_beq (Bool.and_eq_true_iff.mp hy).1,eq_of_beq (Bool.and_eq_true_iff.mp hz).1⟩ h
    .rw[if_pos hx,if_pos hy,if_neg hz];rfl
   .by_cases hz:(env.kindOf z==some .local&&pz.line==l)=true
    .rw[if_pos hx,if_neg hy,if_pos hz];rfl
    .rw[if_pos hx,if_neg hy,if_neg hz];rfl
  .by_cases hy:(env.kindOf y==some .local&&py.line==l)=true
   .by_cases hz:(env.kindOf z==some .local&&pz.line==l)=true
    .rw[if_neg hx,if_pos hy,if_pos hz];rfl
    .rw[if_neg hx,if_pos hy,if_neg hz];rfl
   .by_cases hz:(env.kindOf z==some .local&&pz.line==l)=true
    .rw[if_neg hx,if_neg hy,if_pos hz];rfl
    .rw[if_neg hx,if_neg hy,if_neg hz];rfl
 unfold swappedStores;simp only[jf,uQ,List.head?_cons,pN,Option.getD_some];split
 .rfl
 .split
  .rfl
  .refine(if_pos ?_).trans rfl;exact Bool.or_eq_true_iff.mpr (.inl (hl _))
noncomputable def Ai(i j k:Nat)(ta:TA):TS:=λD σ H=>ta σ H λvs H1=>∃u v w,vs=[u,v,w]/\D.nx (((σ.set i (some u)).set j (some v)).set k (some w)) H1
section
variable {X:Cx}{pos:Pos}
theorem zof{z:Str}{a d:Expr}{ta:TA}{pz pt:Pos}{kt k2 ql}(hc:X.calm=true)(hN:X.N.Nodup)(hi:X.N[i]?=some x)(hj:X.N[j]?=some y)(hk:X.N[k]?=some z)(hij:i≠j)(hik:i≠k)(hjk:j≠k)(hx:X.env.scope.names.lookup x=some .local)(hy:X.env.scope.names.lookup y=some .local)(hz:X.env.scope.names.lookup z=some .local)(ha:PA X [a,b,d] ta)(hw:swappedStores [.Tuple [.Name x px,.Name y py,.Name z pz] kt pt] (.Tuple [a,b,d] k2 ql) X.env=pure (some [x,y,z]))(hs:swapsWithSole [.Tuple [.Name x px,.Name y py,.Name z pz] kt pt] (.Tuple [a,b,d] k2 ql) pos.line X.env=pure false:=by rfl):
 PS X (.Assign [.Tuple [.Name x px,.Name y py,.Name z pz] kt pt] (.Tuple [a,b,d] k2 ql) pos) (Ai i j k ta):=by
 intro pins s σ H D I h;rw[exec_Assign_arm];refine aO (wpAny_standAt ?_);rw[hs];refine aO (b7 ?_);rw[if_neg (by decide)];refine aO (Tuple_ (bQ (ha _ pins s σ H _ I h) λus s1 ⟨vs,H1,I1,r1,q1⟩=>?_));obtain⟨u,v,w,e1,q1⟩:=q1;subst e1;obtain⟨u1,u2,u3,rfl,ru,rv,eY⟩:∃u1 u2 u3,us=[u1,u2,u3]/\RelV u u1/\RelV v u2/\RelV w u3:=by
  cases r1 with
  |cons p q=>cases q with
   |cons p' q'=>cases q' with
    |cons p'' q'' =>
     cases q'';exact⟨_,_,_,rfl,p,p',p''⟩
 refine wpAny_newObj_type ?_ (by show 3<=sizeLine;decide);have I2:Inv X pins σ H1 { s1 with heap:=s1.heap.push { cls := .type "tuple",data := .seq [u1,u2,u3].toArray } }:=I1.kept (t':=s1.toks) λb o e=>dm _ e;rw[hw];refine aO (b7 ?_);show wpAny (model X.prog X.w) X.A (do rule "assign.swapped-stores";let items <-unpackItems (.ref s1.heap.objs.size) 3 none;assignInOrder [λv=>bindName X.env z v,λv=>bindName X.env y v,λv=>bindName X.env x v] items.reverse;pure Flow.next) _ _ _;refine aO (wpAny_rule (aO (unpackItems_tuple (items:=#[u1,u2,u3]) (I.ok.hd hc) (IsTup.new s1.heap _) λh' hx'=>?_)));have I3:=I2.kept (h':=h') (t':=s1.toks) λb o e=>hx' b o (dz (cG e)) e;show wpAny _ _ (assignInOrder [λv=>bindName X.env z v,λv=>bindName X.env y v,λv=>bindName X.env x v] [u3,u2,u1] >>= λ_=>pure Flow.next) _ _ _;refine aO (assignInOrder_cons (wpAny_bindName (yd I3 hN hk (.inl hz) eY (λs2 I4=>?_) (.inr hz))));refine assignInOrder_cons (wpAny_bindName (yd I4 hN hj (.inl hy) rv (λs3 I5=>?_) (.inr hy)));refine assignInOrder_cons (wpAny_bindName (yd I5 hN hi (.inl hx) ru (λs4 I6=>assignInOrder_nil (b7 ?_)) (.inr hx)));have e:((σ.set k (some w)).set j (some v)).set i (some u)=((σ.set i (some u)).set j (some v)).set k (some w):=by rw[List.set_comm _ _ (Ne.symm hjk),List.set_comm _ _ (Ne.symm hik),List.set_comm _ _ (Ne.symm hij)]
 rw[e] at I6;exact⟨_,H1,I6,q1⟩
theorem znI{z:Str}{a d:Expr}{pz pt:Pos}{kt k2 ql}(hc:X.calm=true)(hN:X.N.Nodup)(hi:X.N[i]?=some x)(hj:X.N[j]?=some y)(hk:X.N[k]?=some z)(hij:i≠j)(hik:i≠k)(hjk:j≠k)(hx:X.env.scope.names.lookup x=some .local)(hy:X.env.scope.names.lookup y=some .local)(hz:X.env.scope.names.lookup z=some .local)(ha:SA X [a,b,d] fa)(hw:swappedStores [.Tuple [.Name x px,.Name y py,.Name z pz] kt pt] (.Tuple [a,b,d] k2 ql) X.env=pure (some [x,y,z])):
 SS X (.Assign [.Tuple [.Name x px,.Name y py,.Name z pz] kt pt] (.Tuple [a,b,d] k2 ql) pos) (bA (eN cD fa) (jm 3 (dH (aM i) (dH (aM j) (dH (aM k) jK))))):=by
 refine PS.imp (zof hc hN hi hj hk hij hik hjk hx hy hz ha hw) λD σ H h=>?_;obtain⟨σd,S,α,fl,σd',S',hv,hs,hf,kk⟩:=h;unfold bA eN at hf;simp only[bf,aX] at hf;obtain⟨⟨t,S2⟩,⟨⟨ds,S1⟩,e1,e2⟩,⟨σ1,S3⟩,e3,e4⟩:=hf;cases e4;unfold cD at e2;split at e2
 .cases e2;simp only[jm] at e3;split at e3
  .rename_i hl;obtain⟨d1,d2,d3,rfl⟩:∃d1 d2 d3,ds=[d1,d2,d3]:=by
    match ds,hl with
    |[d1,d2,d3],_=>exact⟨d1,d2,d3,rfl⟩
   simp only[dH,jK,aM,cg,Option.some.injEq,Prod.mk.injEq] at e3;obtain⟨rfl,rfl⟩:=e3;refine⟨σd,S,α,_,_,hv,hs,e1,λvs H1 α1 s1 x1 r1=>?_⟩;cases r1 with
   |cons p q=>cases q with
    |cons p' q'=>cases q' with
     |cons p'' q'' =>
      cases q'';exact⟨_,_,_,rfl,kk _ _ _ ((((hv.mono x1).set p i).set p' j).set p'' k) s1 x1⟩
  .cases e3
 .cases e2
end
end MX
end
section
namespace MX
open PySem PyProof.Rows
noncomputable abbrev fV:=Array (Int×Nat)
noncomputable abbrev PD:=Array (Nat×Nat×Nat)
structure RR(φ:Int×Nat->Keyed)(ps:fV)(pd:PD)(st:SortSt):Prop where
 arr:arrOf st=ps.map φ
 kind:kindOf st=oneType'
 failed:failedOf st=none
 pend:pendingOf st=pd
 key:∀p∈ps.toList,∃t,(φ p).1 = .int p.1 t
noncomputable def Ex{α:Type}(m:StateT SortSt Sem α)(ps:fV)(pd:PD)(Q:α->fV->PD->Prop):Prop :=
 ∃a ps' mR,(∀φ st,RR φ ps pd st->∀(prog:Program) (w:World) (A:Around) (E:Value->Shared->Prop) (s:Shared),wpS (model prog w) A E s m (λx st'=>x=a/\RR φ ps' mR st') st)/\Q a ps' mR
section
variable {α β:Type}{ps:fV}{pd:PD}
def iT{a:α}{Q:α->fV->PD->Prop}(h:Q a ps pd):Ex (pure a) ps pd Q:=⟨a,ps,pd,λφ st r prog w A E s=>wpS_pure ⟨rfl,r⟩,h⟩
theorem gZ{m:StateT SortSt Sem α}{f:α->StateT SortSt Sem β}{Q:β->fV->PD->Prop}(h:Ex m ps pd λa ps' mR=>Ex (f a) ps' mR Q):Ex (m >>= f) ps pd Q:=by obtain⟨a,ps1,Gi,h1,b,ps2,pd2,h2,q⟩:=h;refine⟨b,ps2,pd2,λφ st r prog w A E s=>wpS_bind (wpS_mono (h1 φ st r prog w A E s) λx st' ⟨e,r'⟩=>?_),q⟩;subst e;exact h2 φ st' r' prog w A E s
theorem xW{m:StateT SortSt Sem α}{Q Q':α->fV->PD->Prop}(h:Ex m ps pd Q)(k:∀a x y,Q a x y->Q' a x y):Ex m ps pd Q':=by obtain⟨a,ps1,Gi,h1,q⟩:=h;exact⟨a,ps1,Gi,h1,k _ _ _ q⟩
theorem zp{Q:Option Bool->fV->PD->Prop}(hi:i<ps.size)(hj:j<ps.size)(h:∀b,Q (some b) ps pd):Ex (ltAt' i j) ps pd Q:=by
 refine⟨some (decide (ps[i].1<ps[j].1)),ps,pd,λφ st r prog w A E s=>?_,h _⟩;obtain⟨t,ht⟩:=r.key ps[i] (by simp);obtain⟨u,hu⟩:=r.key ps[j] (by simp);have e1:(arrOf st)[i]?=some (.int ps[i].1 t,(φ ps[i]).2):=by rw[r.arr,Array.getElem?_map,getElem?_pos ps i hi,<-ht];rfl
 have e2:(arrOf st)[j]?=some (.int ps[j].1 u,(φ ps[j]).2):=by rw[r.arr,Array.getElem?_map,getElem?_pos ps j hj,<-hu];rfl
 exact wpS_ltAt r.kind e1 e2 ⟨rfl,r⟩
theorem zmq{γ δ:Type}(f:γ->δ)(xs:Array γ)(i j:Nat):(xs.map f).swapIfInBounds i j=(xs.swapIfInBounds i j).map f:=by
 apply Array.ext';rw[Array.swapIfInBounds_def,Array.swapIfInBounds_def];by_cases hi:i<xs.size
 .by_cases hj:j<xs.size
  .rw[dif_pos (by simpa using hi),dif_pos (by simpa using hj),dif_pos hi,dif_pos hj];simp
  .rw[dif_pos (by simpa using hi),dif_neg (by simpa using hj),dif_pos hi,dif_neg hj]
 .rw[dif_neg (by simpa using hi),dif_neg hi]
theorem Kf{γ δ ε:Type}(f:γ->δ)(p q:ε->Nat):∀(l:List ε) (xs:Array γ),l.foldl (λa k=>a.swapIfInBounds (p k) (q k)) (xs.map f)=(l.foldl (λa k=>a.swapIfInBounds (p k) (q k)) xs).map f
 |[],xs=>rfl
 |k::l,xs=>by rw[List.foldl_cons,List.foldl_cons,zmq,Kf f p q l]
theorem Ue{m:StateT SortSt Sem Unit}{g:(γ:Type)->Array γ->Array γ}{Q:Unit->fV->PD->Prop}(hm:m=modify λs=>setArr s (g Keyed (arrOf s)))(hp:(g (Int×Nat) ps).Perm ps)(hg:∀φ:Int×Nat->Keyed,g Keyed (ps.map φ)=(g (Int×Nat) ps).map φ)(h:∀ps',ps'.Perm ps->Q () ps' pd):Ex m ps pd Q:=by refine⟨(),g _ ps,pd,λφ st r prog w A E s=>?_,h _ hp⟩;rw[hm];refine wpS_modify ⟨rfl,?_,r.kind,r.failed,r.pend,λp q=>r.key p ((Array.perm_iff_toList_perm.mp hp).mem_iff.mp q)⟩;show g Keyed (arrOf st)=_;rw[r.arr,hg]
def zo3{Q:Unit->fV->PD->Prop}(h:∀ps',ps'.Perm ps->Q () ps' pd):Ex (moveDown' i j) ps pd Q :=
 Ue (g:=λ_ xs=>bubble xs i (i - j)) (moveDown'_eq i j) (bubble_perm _ _ _) (λφ=>Kf φ _ _ _ ps) h
def Ec{Q:Unit->fV->PD->Prop}(h:∀ps',ps'.Perm ps->Q () ps' pd):Ex (reverseSlice' i j) ps pd Q :=
 Ue (g:=λ_ xs=>mirror xs i j ((j - i) / 2)) (reverseSlice'_eq i j) (mirror_perm _ _ _ _) (λφ=>Kf φ _ _ _ ps) h
def Ru{r:String}{Q:Unit->fV->PD->Prop}(h:Q () ps pd):Ex (liftM (rule r):StateT SortSt Sem Unit) ps pd Q :=
 ⟨(),ps,pd,λφ st q prog w A E s=>wpS_lift (wpAny_rule ⟨rfl,rfl,q⟩),h⟩
theorem Eb{f:SortSt->StateT SortSt Sem α}{Q:α->fV->PD->Prop}(g:StateT SortSt Sem α)(hf:∀st,(arrOf st).size=ps.size->pendingOf st=pd->f st=g)(h:Ex g ps pd Q):Ex (get >>= f) ps pd Q:=by obtain⟨a,ps1,Gi,h1,q⟩:=h;refine⟨a,ps1,Gi,λφ st r prog w A E s=>wpS_bind (wpS_get ?_),q⟩;rw[hf st (by rw[r.arr];simp) r.pend];exact h1 φ st r prog w A E s
theorem Rt{k:PD->PD}{Q:Unit->fV->PD->Prop}(h:Q () ps (k pd)):Ex (modify λs=>setPending s (k (pendingOf s))) ps pd Q:=by refine⟨(),ps,k pd,λφ st r prog w A E s=>?_,h⟩;refine wpS_modify ⟨rfl,r.arr,r.kind,r.failed,?_,r.key⟩;show k (pendingOf st)=_;rw[r.pend]
theorem Rr{f:Nat->β->StateT SortSt Sem (ForInStep β)}(I:List Nat->β->fV->PD->Prop){Q:β->fV->PD->Prop}(hstep:∀x rest b ps pd,I (x::rest) b ps pd->Ex (f x b) ps pd λr ps' mR=>match r with|.done b'=>Q b' ps' mR|.yield b'=>I rest b' ps' mR)(hend:∀b ps pd,I [] b ps pd->Q b ps pd):∀(l:List Nat) (b:β) (ps:fV) (pd:PD),I l b ps pd->Ex (forIn l b f) ps pd Q
 |[],b,ps,pd,h=>by rw[List.forIn_nil];exact iT (hend _ _ _ h)
 |x::rest,b,ps,pd,h=>by
  rw[List.forIn_cons];refine gZ (xW (hstep x rest b ps pd h) λr ps' mR h'=>?_);cases r with
  |done b'=>exact iT h'
  |yield b'=>exact Rr I hstep hend rest b' ps' mR h'
theorem xV{a b:Nat}{f:Nat->β->StateT SortSt Sem (ForInStep β)}(I:Nat->β->fV->PD->Prop){Q:β->fV->PD->Prop}(hstep:∀i c ps pd,a<=i->i<b->I i c ps pd->Ex (f i c) ps pd λr ps' mR=>match r with|.done c'=>Q c' ps' mR|.yield c'=>I (i+1) c' ps' mR)(hend:∀c ps pd,I (max a b) c ps pd->Q c ps pd){c:β}(h:I a c ps pd):Ex (forIn [a:b] c f) ps pd Q:=by
 rw[Std.Legacy.Range.forIn_eq_forIn_range'];have hsz:([a:b]:Std.Legacy.Range).size=b - a:=by simp[Std.Legacy.Range.size]
 show Ex (forIn (List.range' a ([a:b]:Std.Legacy.Range).size 1) c f) ps pd Q;rw[hsz];refine Rr (λl c ps pd=>∃i,a<=i/\i<=max a b/\l=List.range' i (max a b - i) 1/\I i c ps pd) ?_ ?_ _ c ps pd ⟨a,bZ _,by omega,by congr 1;omega,h⟩
 .rintro x rest c ps pd ⟨i,hai,hib,hl,hI⟩
  have hlt:i<max a b:=by
   rcases Nat.lt_or_ge i (max a b) with h'|h'
   .exact h'
   .rw[show max a b - i=0 by omega] at hl;simp at hl
  obtain⟨n,hn⟩:∃n,max a b - i=n+1:=⟨max a b - i - 1,by omega⟩
  rw[hn,List.range'_succ] at hl;obtain⟨rfl,rfl⟩:=List.cons.inj hl;refine xW (hstep x c ps pd hai (by omega) hI) λr ps' mR h'=>?_;cases r with
  |done c'=>exact h'
  |yield c'=>exact⟨x+1,by omega,by omega,by congr 1;omega,h'⟩
 .rintro c ps pd ⟨i,hai,hib,hl,hI⟩
  have:i=max a b:=by
   rcases Nat.lt_or_ge i (max a b) with h'|h'
   .obtain⟨n,hn⟩:∃n,max a b - i=n+1:=⟨max a b - i - 1,by omega⟩
    rw[hn,List.range'_succ] at hl;simp at hl
   .omega
  subst this;exact hend _ _ _ hI
end
section
variable {ps₀ ps:fV}{pd:PD}
abbrev Pm(ps₀:fV)(ps:fV):Prop:=ps.Perm ps₀
theorem Qk{a:Nat}{Q:AscSt->fV->PD->Prop}(hn:nrem<=ps₀.size)(ha:1<=a)(han:a<=nrem)(hp:Pm ps₀ ps)(h:∀k,a<=k->k<=nrem->Q (none,k) ps pd):Ex (ascLoop a nrem) ps pd Q:=by
 unfold ascLoop;refine xV (λi c x y=>x=ps/\y=pd/\c=(none,i)/\a<=i/\i<=nrem) ?_ ?_ ⟨rfl,rfl,rfl,bZ _,han⟩
 .rintro i c x y h1 h2 ⟨rfl,rfl,rfl,h3,h4⟩
  have hs:=hp.size_eq;refine gZ (zp (by first|omega|(simp;omega)) (by first|omega|(simp;omega)) λb=>?_);cases b with
  |true=>exact iT (h i h3 h4)
  |false=>exact iT ⟨rfl,rfl,rfl,by omega,by omega⟩
 .rintro c x y ⟨rfl,rfl,rfl,h3,h4⟩
  exact h _ h3 h4
theorem SX{Q:Option Nat->fV->PD->Prop}(hn:nrem<=ps₀.size)(h1:1<=n)(hnn:n<=nrem)(hp:Pm ps₀ ps)(h:∀k ps',n<=k->k<=nrem->Pm ps₀ ps'->Q (some k) ps' pd):Ex (tail3 n nrem) ps pd Q:=by unfold tail3;refine gZ (Ec λps1 q1=>gZ (Qk (ps₀:=ps₀) hn h1 hnn (q1.trans hp) λk k1 k2=>?_));exact iT (h k ps1 k1 k2 (q1.trans hp))
theorem zo4{Q:DescSt->fV->PD->Prop}(hn:nrem<=ps₀.size)(h1:1<=n)(hnn:n<=nrem)(hp:Pm ps₀ ps)(h:∀k j ps',n<=k->k<=nrem->Pm ps₀ ps'->Q (none,k,j) ps' pd):Ex (descLoop n nrem) ps pd Q:=by
 unfold descLoop;refine xV (λi c x y=>y=pd/\Pm ps₀ x/\(∃j,c=(none,i,j))/\n<=i/\i<=nrem) ?_ ?_ ⟨rfl,hp,⟨0,rfl⟩,bZ _,hnn⟩
 .rintro i c x y e1 e2 ⟨rfl,hx,⟨j,rfl⟩,h3,h4⟩
  have hs:=hx.size_eq;refine gZ (zp (by first|omega|(simp;omega)) (by first|omega|(simp;omega)) λb=>?_);cases b with
  |true =>
   dsimp only;rw[if_pos rfl];split
   .exact gZ (Ec λx' q'=>iT ⟨rfl,q'.trans hx,⟨0,rfl⟩,by omega,by omega⟩)
   .exact iT ⟨rfl,hx,⟨0,rfl⟩,by omega,by omega⟩
  |false =>
   dsimp only;rw[if_neg (by simp)];refine gZ (zp (by first|omega|(simp;omega)) (by first|omega|(simp;omega)) λb=>?_);cases b with
   |true=>exact iT (h i j x h3 h4 hx)
   |false=>exact iT ⟨rfl,hx,⟨j+1,rfl⟩,by omega,by omega⟩
 .rintro c x y ⟨rfl,hx,⟨j,rfl⟩,h3,h4⟩
  exact h _ j x h3 h4 hx
theorem Ux{Q:Option Nat->fV->PD->Prop}(hn:nrem<=ps₀.size)(hnn:n+1<=nrem)(hp:Pm ps₀ ps)(h:∀k ps',1<=k->k<=nrem->Pm ps₀ ps'->Q (some k) ps' pd):Ex (descPart n nrem) ps pd Q:=by
 unfold descPart;refine gZ (Ru (gZ (zo4 (ps₀:=ps₀) hn (by omega) hnn hp λk j ps1 k1 k2 q1=>?_)));dsimp only;split
 .exact gZ (Ec λps2 q2=>SX (ps₀:=ps₀) hn (by omega) k2 (q2.trans q1) λk' Nx a1 a2 a3=>h k' Nx (by omega) a2 a3)
 .exact SX (ps₀:=ps₀) hn (by omega) k2 q1 λk' Nx a1 a2 a3=>h k' Nx (by omega) a2 a3
theorem zhX{Q:Option Nat->fV->PD->Prop}(hn:nrem<=ps₀.size)(h1:1<=nrem)(hp:Pm ps₀ ps)(h:∀k ps',1<=k->k<=nrem->Pm ps₀ ps'->Q (some k) ps' pd):Ex (countRun' 0 nrem) ps pd Q:=by
 rw[countRun0_eq];have hs:=hp.size_eq;refine gZ (Qk (ps₀:=ps₀) hn (bZ _) h1 hp λk k1 k2=>?_);dsimp only;split
 .exact iT (h k ps k1 k2 hp)
 .rename_i hne;have hne':k≠nrem:=by simpa using hne
  split
  .refine gZ (zp (by omega) (by omega) λb=>?_);cases b with
   |true=>exact iT (h k ps k1 k2 hp)
   |false=>exact gZ (Ec λps1 q1=>Ux (ps₀:=ps₀) hn (by omega) (q1.trans hp) h)
  .exact Ux (ps₀:=ps₀) hn (by omega) hp h
theorem zgz{ok:Nat}{Q:Bool->fV->PD->Prop}(hn:n<=ps₀.size)(hok:ok<=n)(hp:Pm ps₀ ps)(h:∀ps',Pm ps₀ ps'->Q true ps' pd):Ex (binarySort' 0 n ok) ps pd Q:=by
 rw[binarySort'_eq];simp only[Nat.zero_add];refine gZ (xW (xV (λk c x y=>c=(none,())/\y=pd/\Pm ps₀ x) (Q:=λc x y=>c=(none,())/\y=pd/\Pm ps₀ x) ?_ (λ_ _ _ q=>q) ⟨rfl,rfl,hp⟩) ?_)
 .rintro k c x y hak hkn ⟨rfl,rfl,hx⟩
  have hs:=hx.size_eq;refine gZ (xW (xV (λi c x' y'=>x'=x/\y'=y/\∃l r,c=(none,l,r)/\l<=r/\r<=k) (Q:=λc x' y'=>x'=x/\y'=y/\∃l r,c=(none,l,r)) ?_ ?_ ⟨rfl,rfl,0,k,rfl,by omega,by omega⟩) ?_)
  .rintro i c x' y' _ _ ⟨rfl,rfl,l,r,rfl,h1,h2⟩
   dsimp only;by_cases hge:l ≥ r
   .rw[if_pos hge];exact iT ⟨rfl,rfl,l,r,rfl⟩
   .rw[if_neg hge];refine gZ (zp (by omega) (by omega) λb=>?_);cases b with
    |true=>exact iT ⟨rfl,rfl,l,(l+r) / 2,rfl,by omega,by omega⟩
    |false=>exact iT ⟨rfl,rfl,(l+r) / 2+1,r,rfl,by omega,by omega⟩
  .rintro c x' y' ⟨h1,h2,l,r,h3,_⟩
   exact⟨h1,h2,l,r,h3⟩
  .rintro c x' y' ⟨rfl,rfl,l,r,rfl⟩
   show Ex (do moveDown' k l;pure (ForInStep.yield (none,()))) _ _ _;exact gZ (zo3 λx2 q2=>iT ⟨rfl,rfl,q2.trans hx⟩)
 .rintro c x y ⟨rfl,rfl,hx⟩
  exact iT (h x hx)
theorem Ft(h2:2<=ps.size)(h64:ps.size<64):Ex sortRuns' ps #[] (λ_ ps' _=>Pm ps ps'):=by
 rw[sortRuns'_eq];have hmr:minRun' ps.size ps.size 0=ps.size:=by
  obtain⟨f,hf⟩:∃f,ps.size=f+1:=⟨ps.size - 1,by omega⟩
  have:minRun' (f+1) ps.size 0=ps.size:=by rw[minRun'_succ,if_pos h64];rfl
  rwa [<-hf] at this
 refine Eb _ (λst e1 e2=>by rw[e1]) ?_;simp only[hmr];refine gZ (xW (xV (λx c p d=>(x=0/\c=(none,0)/\d=#[]/\Pm ps p)\/(1<=x/\c=(none,ps.size)/\d=#[(0,ps.size,0)]/\Pm ps p))
  (Q:=λc p d=>c=(none,ps.size)/\d=#[(0,ps.size,0)]/\Pm ps p) ?step ?fin (.inl ⟨rfl,rfl,rfl,Array.Perm.refl _⟩)) ?post)
 case fin =>
  rintro c p d (⟨hx,_,_⟩|⟨_,hc,hD⟩)
  .omega
  .exact⟨hc,hD⟩
 case step =>
  rintro x c p d _ hx (⟨rfl,rfl,rfl,hB'⟩|⟨hx1,rfl,rfl,hD⟩)
  .dsimp only;rw[if_neg (by omega)];simp only[Nat.sub_zero,Nat.min_self,Nat.zero_add];refine gZ (zhX (ps₀:=ps) (bZ _) (by omega) hB' λm p2 hm1 hm2 hB2=>?_);dsimp only;by_cases hlt:m<ps.size
   .rw[if_pos hlt];refine gZ (Ru ?_);refine gZ (zgz (ps₀:=ps) (bZ _) hm2 hB2 λp3 hB3=>?_);simp only[Bool.not_true,Bool.false_eq_true,if_false];refine Eb _ (λst e1 e2=>by rw[e2]) ?_
    try dsimp only
    exact gZ (Rt (k:=λd=>d.push (0,ps.size,0)) (iT (.inr ⟨by omega,rfl,rfl,hB3⟩)))
   .rw[if_neg hlt];have hm:m=ps.size:=by omega
    subst hm;refine Eb _ (λst e1 e2=>by rw[e2]) ?_
    try dsimp only
    exact gZ (Rt (k:=λd=>d.push (0,ps.size,0)) (iT (.inr ⟨by omega,rfl,rfl,hB2⟩)))
  .dsimp only;rw[if_pos (bZ _)];exact iT ⟨rfl,rfl,hD⟩
 case post =>
  rintro c p d ⟨rfl,rfl,hD⟩
  dsimp only;refine gZ (xW (xV (λ_ c p' d'=>p'=p/\d'=#[(0,ps.size,0)]/\c=(none,())) (Q:=λc p' d'=>p'=p/\c=(none,())) ?_ (λ_ _ _ hh=>⟨hh.1,hh.2.2⟩) ⟨rfl,rfl,rfl⟩) ?_)
  .rintro x c p' d' _ _ ⟨rfl,rfl,rfl⟩
   refine Eb _ (λst e1 e2=>by rw[e2]) ?_;rw[if_pos (by exact bZ 1)];exact iT ⟨rfl,rfl⟩
  .rintro c p' d' ⟨rfl,rfl⟩
   exact iT hD
end
noncomputable def jZ(ks:List Int):fV:=ks.zipIdx.toArray
def tO(ks:List Int):(jZ ks).size=ks.length:=by simp[jZ]
open Classical in
noncomputable def uV(ks:List Int):fV:=if h:2<=ks.length/\ks.length<64 then(Ft (ps:=jZ ks) (by rw[tO];exact h.1) (by rw[tO];exact h.2)).choose_spec.choose else jZ ks
noncomputable def jH(ks:List Int):List Nat:=(uV ks).toList.map (·.2)
theorem zhy(ks:List Int):(uV ks).Perm (jZ ks):=by
 unfold uV;split
 .rename_i h;exact(Ft (ps:=jZ ks) (by rw[tO];exact h.1) (by rw[tO];exact h.2)).choose_spec.choose_spec.choose_spec.2
 .exact Array.Perm.refl _
theorem K1(ks:List Int):(jH ks).Perm (List.range ks.length):=by
 have h:=(Array.perm_iff_toList_perm.mp (zhy ks)).map (·.2);have e:(jZ ks).toList.map (·.2)=List.range ks.length:=by simp[jZ,List.zipIdx_eq_zip_range'];rw[List.map_snd_zip (by simp)];exact(List.range_eq_range' ..).symm
 rw[e] at h;exact h
theorem zoW{us:List Value}(h:IntsAre us ns){n:Int}(e:ns[i]?=some n):∃t,us[i]?=some (.int n t):=by
 induction h generalizing i with
 |nil=>simp at e
 |cons m t r ih =>
  cases i with
  |zero=>simp at e;subst e;exact⟨t,rfl⟩
  |succ i=>simpa using ih (by simpa using e)
section
variable {prog:Program}{w:World}{A:Around}{E:Value->Shared->Prop}{s:Shared}{keys:Array Value}{kz:List Int}{vs:List Value}
noncomputable def Dn(keys:Array Value)(vs:List Value)(p:Int×Nat):Keyed:=(keys.toList.getD p.2 .none,vs.getD p.2 .none)
theorem Ra(hk:IntsAre keys.toList kz)(hlen:kz.length=vs.length):keys.zip vs.toArray=(jZ kz).map (Dn keys vs):=by
 have hl:=hk.length;apply Array.ext';have e1:(keys.zip vs.toArray).toList=keys.toList.zip vs:=by cases keys;simp
 rw[e1,Array.toList_map];apply List.ext_getElem?;intro i;by_cases hi:i<kz.length
 .have h1:i<keys.toList.length:=by omega
  have h2:i<vs.length:=by omega
  simp only[jZ,jg,List.getElem?_zip_eq_some,List.getElem?_zipIdx];rw[gG hi,gG (by rw[List.length_zip];omega)];simp[Dn,List.getElem_zip,h1,h2];have h1':i<keys.size:=by simpa using h1
  simp[h1']
 .rw[jN (by rw[List.length_zip];omega),jN (by simp[jZ];omega)]
theorem Ys(hk:IntsAre keys.toList kz)(hlen:kz.length=vs.length):RR (Dn keys vs) (jZ kz) #[] (SortSt.mk' oneType' (keys.zip vs.toArray) #[] 7 none):=by
 refine⟨Ra hk hlen,rfl,rfl,rfl,λp hp=>?_⟩;obtain⟨n,i⟩:=p;have hp':(n,i)∈kz.zipIdx:=by simpa[jZ] using hp
 have e:=List.mem_zipIdx_iff_getElem?.mp hp';obtain⟨t,ht⟩:=zoW hk e;refine⟨t,?_⟩;show keys.toList.getD i .none=_;rw[List.getD_eq_getElem?_getD,ht];rfl
theorem Rb(hlen:kz.length=vs.length):∀ps:fV,((ps.map (Dn keys vs)).map (·.2)).toList=(ps.toList.map (·.2)).map λi=>vs.getD i .none:=by intro ps;simp only[Array.toList_map,List.map_map];exact List.map_congr_left λ_ _=>rfl
theorem znu(hk:IntsAre keys.toList kz)(hlen:kz.length=vs.length)(h2:2<=vs.length)(h64:vs.length<64):
 wpAny (model prog w) A (sortRuns'.run (SortSt.mk' oneType' (keys.zip vs.toArray) #[] 7 none)) (λr s'=>s'=s/\failedOf r.2=none/\((arrOf r.2).map (·.2)).toList=(jH kz).map λi=>vs.getD i .none) E s:=by
 have h:2<=kz.length/\kz.length<64:=by omega
 have q:=(Ft (ps:=jZ kz) (by rw[tO];exact h.1) (by rw[tO];exact h.2)).choose_spec.choose_spec.choose_spec.1 _ _ (Ys hk hlen) prog w A E s;refine jO q (λr s' ⟨e,_,rr⟩=>⟨e,rr.failed,?_⟩) λ_ _ e=>e;have e1:uV kz=(Ft (ps:=jZ kz) (by rw[tO];exact h.1) (by rw[tO];exact h.2)).choose_spec.choose:=by unfold uV;rw[dif_pos h]
 rw[rr.arr,<-e1,Rb (kz:=kz) hlen];rfl
theorem zlV(hk:IntsAre keys.toList kz)(hlen:kz.length=vs.length)(h2:vs.length<2):((keys.zip vs.toArray).map (·.2)).toList=(jH kz).map λi=>vs.getD i .none:=by
 have e1:uV kz=jZ kz:=by unfold uV;rw[dif_neg (by omega)]
 unfold jH;rw[Ra hk hlen,Rb (kz:=kz) hlen,e1]
end
end MX
end
section
namespace MX
open PySem PySem.Spec PySem.W PyProof.Rows L2
structure N0(X:Cx)(pins:List (Addr×Obj))(base:Heap)(n0:Nat):Prop where
 s0:X.s₀.heap.objs.size<=n0
 loc:X.env.locals<n0
 cel:∀x c,X.env.cells.lookup x=some c->c<n0
 pin:∀p∈X.pn++pins,p.1<n0
 fr:∀b∈frs X.stack,b<n0
 bse:base.objs.size<=n0
 frb:∀b∈frs X.stack,base.get? b=none
structure SJ(X:Cx)(pins:List (Addr×Obj))(σ:L2.St)(S:So)(H₀:Hp)(α₀:List Addr)(base:Heap)(n0:Nat)(own:List (Addr×Obj))(s:Shared)(H:Hp)(α:List Addr):Prop where
 inv:Inv X pins σ H s
 st:aB X.K H α S
 ext:Ext X.K H₀ α₀ H α
 tu:fU H₀ H
 sz:n0<=s.heap.objs.size
 bs:∀b o,base.get? b=some o->s.heap.get? b=some o/\H b=none
 own:∀p∈own,s.heap.get? p.1=some p.2/\H p.1=none/\n0<=p.1
section
variable {X:Cx}{pins:List (Addr×Obj)}{σ:L2.St}{S:So}{H₀ H:Hp}{α₀ α:List Addr}{base:Heap}{n0:Nat}{own:List (Addr×Obj)}{s:Shared}
theorem N0.of(I:Inv X pins σ H s):N0 X pins (nA s.heap H X.stack) s.heap.objs.size where
 s0:=I.sz
 loc:=I.lt
 cel:=λx c e=>by obtain⟨v,o,ho,_⟩:=I.cell x c e;exact cG ho
 pin:=λp hp=>cG (I.pin p hp).1
 fr:=λb hb=>by obtain⟨_,o,ho,_⟩:=I.stack.mem hb;exact cG ho
 bse:=by unfold nA;rw[hideAll_size];exact bZ _
 frb:=λb hb=>hideAll_none _ (List.mem_append_right _ hb)
theorem fU.trans{H1 H2 H3:Hp}(a:fU H1 H2)(b:fU H2 H3):fU H1 H3:=⟨λc xs h=>b.tups c xs (a.tups c xs h),λc ps h=>by
 obtain⟨m1,e1⟩:=a.tbls c ps h;obtain⟨m2,e2⟩:=b.tbls c _ e1;exact⟨m1++m2,by rw[e2,Array.append_assoc]⟩,λc o u h=>b.frzs c o u (a.frzs c o u h)⟩
theorem SJ.laid(J:SJ X pins σ S H₀ α₀ base n0 own s H α){t':Nat}(k:∀b u,s.heap.get? b=some u->h'.get? b=some u)(ha:s.heap.objs.size<=a)(new:h'.get? a=some o):
 SJ X pins σ S H₀ α₀ base n0 (own++[(a,o)]) { s with heap:=h',toks:=t' } H α where
 inv:=J.inv.kept k
 st:=J.st
 ext:=J.ext
 tu:=J.tu
 sz:=Nat.le_trans J.sz (Nat.le_trans ha (uE (cG new)))
 bs:=λb o e=>⟨k _ _ (J.bs b o e).1,(J.bs b o e).2⟩
 own:=λp hp=>by
  rcases lZ.mp hp with hp|hp
  .obtain⟨h1,h2,h3⟩:=J.own p hp;exact⟨k _ _ h1,h2,h3⟩
  .rw[List.mem_singleton.mp hp];exact⟨new,J.inv.hok.fresh ha,Nat.le_trans J.sz ha⟩
def SJ.fewer(J:SJ X pins σ S H₀ α₀ base n0 own s H α){own':List (Addr×Obj)}(h:∀p∈own',p∈own):SJ X pins σ S H₀ α₀ base n0 own' s H α:={ J with own:=λp hp=>J.own p (h p hp) }
theorem SJ.chg(N:N0 X pins base n0)(J:SJ X pins σ S H₀ α₀ base n0 own s H α){xs:Array Value}(ha:(a,seqObj "list" xs n)∈own)(g:Array Value->Array Value){t':Nat}:
 ∃c,∀own',(∀p∈own',p=(a,seqObj "list" (g xs) c)\/(p∈own/\p.1≠a))->SJ X pins σ S H₀ α₀ base n0 own' { s with heap:=s.heap.update a (Obj.mapSeq g),toks:=t' } H α:=by
 obtain⟨e,hn,h0⟩:=J.own _ ha;have sb:=Heap.SameBut.update s.heap a (Obj.mapSeq g);have k:∀b o,b≠a->s.heap.get? b=some o->(s.heap.update a (Obj.mapSeq g)).get? b=some o:=λb o hb q=>(sb.2 b hb).trans q;obtain⟨c,e2⟩:∃c,(s.heap.update a (Obj.mapSeq g)).get? a=some (seqObj "list" (g xs) c):=⟨_,get?_update_seq e g⟩
 refine⟨c,λown' ho=>⟨J.inv.turned k hn (Nat.ne_of_gt (dM N.loc h0)) (.inr (Nat.le_trans N.s0 h0)) (λx c q=>dz (dM (N.cel x c q) h0)) (λp hp=>dz (dM (N.pin p hp) h0)),
  J.st,J.ext,J.tu,?_,λb o q=>⟨k b o (dz (dM (dM (cG q) N.bse) h0)) (J.bs b o q).1,(J.bs b o q).2⟩,λp hp=>?_⟩⟩
 .show n0<=(s.heap.update a (Obj.mapSeq g)).objs.size;rw[Heap.size_update];exact J.sz
 .rcases ho p hp with rfl|⟨h1,h2⟩
  .exact⟨e2,hn,h0⟩
  .obtain⟨q1,q2,q3⟩:=J.own p h1;exact⟨k _ _ h2 q1,q2,q3⟩
theorem SJ.call(N:N0 X pins base n0)(M:Mod X.K X.mg base)(J:SJ X pins σ S H₀ α₀ base n0 own s H α){A:Around}{a:Addr}{R:Hp->Prop}{ψ:GN}{k:Nat}(hA:A.frames=X.A.frames)(hr:bI k A)(C:Dt X.prog X.w X.K X.mg base k a R ψ)(hT:∀H H',fU H H'->R H->R H')(hR:R H₀){p0:Addr×Obj}(hne:p0∈own){d:D}{v:V}{u:Value}{kk:Int}(rd:Rep X.K H α d v)(ru:RelV v u)(hψ:ψ [d] S=some (.int kk,S)):
 wpAny (model X.prog X.w) A (call (.ref a) [u]) (λr s'=>∃t H' α',r = .int kk t/\SJ X pins σ S H₀ α₀ base n0 own s' H' α') (λ_ _=>False) s:=by
 obtain⟨fd,q,sp,F,hob,hb,hsp⟩:=C;have I:=J.inv;have e0:jE X.prog X.w X.K X.mg base A X.stack s H:=⟨by rw[hA];exact I.ok.frames,M,J.bs,Nat.le_trans N.bse J.sz,KY I.stack N.frb,I.stkFree,I.hok,I.bare⟩
 have h1:sp [v] H (λw H'=>∃α',aB X.K H' α' S/\Ext X.K H α H' α'/\Rep X.K H' α' (.int kk) w) E0 :=
  hsp _ _ _ (hT _ _ J.tu hR) rfl ⟨S,α,[d],.int kk,S,J.st,.cons rd .nil,hψ,λw H' α' h1 h2 h3=>⟨α',h1,h2,h3⟩⟩
 refine wpAny_call (codeAny_mono (F.run A X.stack s H ⟨[u],[]⟩ [u] [v] _ E0 hr e0 (hb s u) (.cons ru .nil) h1) λr s' hq=>?_);cases r with
 |error e=>exact hq.elim
 |ok fl =>
  cases fl with
  |ret u =>
   obtain⟨w,H',os,bare,un,hok,eY,α',s1,x1,r1⟩:=id hq;obtain⟨_,_,I',_,_⟩:=I.after (show CE X.stack X.prog X.w H s (λw2 H2=>w2=w/\H2=H') u s' from⟨w,H',os,bare,un,hok,eY,rfl,rfl⟩);rename_i w2 H2 _ z;obtain⟨rfl,rfl⟩:=z;cases r1;obtain⟨t,rfl⟩:=eY;have WD:∀b,n0<=b->b∉frs X.stack:=λb hb z=>absurd (dM (N.fr b z) hb) (iw _);refine⟨t,H2,α',rfl,I',s1,J.ext.trans x1,J.tu.trans ⟨un.tups,un.tbls,un.frzs⟩,?_,λb o e=>?_,λp hp=>?_⟩
   .obtain⟨q1,q2,q3⟩:=J.own _ hne;exact Nat.le_trans q3 (uE (cG (un.keep _ _ q1 q2 (WD _ q3) (by simp))))
   .obtain⟨q1,q2⟩:=J.bs b o e;exact⟨un.keep b o q1 q2 (λz=>by rw[N.frb b z] at e;cases e) (by simp),un.free b o q1 q2 (by simp)⟩
   .obtain⟨q1,q2,q3⟩:=J.own p hp;exact⟨un.keep _ _ q1 q2 (WD _ q3) (by simp),un.free _ _ q1 q2 (by simp),q3⟩
  |next=>exact False.elim hq
  |brk=>exact False.elim hq
  |cont=>exact False.elim hq
end
section
variable {X:Cx}{pins:List (Addr×Obj)}{σ:L2.St}{S:So}{H₀ H:Hp}{α₀ α:List Addr}{base:Heap}{n0:Nat}{s:Shared}{A:Around}{E:Value->Shared->Prop}{a D kS:Addr}{vs:List Value}{kz:List Int}{keys:Array Value}{e e1:Nat}{P:PySem.Fin->Shared->Prop}
theorem RJ{st:SortSt}(N:N0 X pins base n0)(J:SJ X pins σ S H₀ α₀ base n0 [(D,seqObj "list" #[] e1),(kS,seqObj "list" keys e)] s H α)(hka:D≠kS)(hkz:keys.size<=64)(hfl:failedOf st=none)(ho:((arrOf st).map (·.2)).toList=out)(h64:out.length<=64)(h:∀c tk h',SJ X pins σ S H₀ α₀ base n0 [(D,seqObj "list" out.toArray c)] { s with heap:=h',toks:=tk } H α->P (.done (.ret .none)) { s with heap:=h',toks:=tk }):
 wpAny (model X.prog X.w) A (ksk_tail D false e1 (.ref kS) st) P E s:=by
 have ho2:(arrOf st).map (·.2)=out.toArray:=by rw[<-ho]
 unfold ksk_tail
 try dsimp only
 have nk:=J.own (kS,seqObj "list" keys e) (by simp);obtain⟨c1,J1⟩:=J.chg N (a:=kS) (xs:=keys) (n:=e) (by simp) (λ_=>(#[]:Array Value)) (t':=s.toks);have J1:=J1 [(D,seqObj "list" #[] e1)] (λp hp=>by
  rw[List.mem_singleton.mp hp];exact .inr ⟨by simp,hka⟩)
 have na:=J1.own (D,seqObj "list" #[] e1) (by simp);refine aO (listUpdate_at nk.1 rfl ?_ (by rw[sizeLine_eq];omega) (Nat.zero_le _));refine aO (wpAny_letGo ?_);refine aO (seqEpoch_at na.1 rfl ?_);rw[ho2];refine aO (listUpdate_at na.1 rfl ?_ (Nat.zero_le _) (by simp only[Bool.false_eq_true,if_false,dU];rw[sizeLine_eq];omega));rw[hfl];simp only[bne_self_eq_false,Bool.false_eq_true,if_false];obtain⟨c2,J2⟩:=J1.chg N (a:=D) (xs:=#[]) (n:=e1) (by simp) (λ_=>out.toArray) (t':=s.toks);exact b7 (h c2 _ _ (J2 _ λp hp=>by
  rw[List.mem_singleton.mp hp];exact .inl rfl))
theorem Z1(N:N0 X pins base n0)(J:SJ X pins σ S H₀ α₀ base n0 [(D,seqObj "list" #[] e1),(kS,seqObj "list" keys e)] s H α)(hka:D≠kS)(hk:IntsAre keys.toList kz)(hlen:kz.length=vs.length)(h64:vs.length<64)(h:∀c tk h',SJ X pins σ S H₀ α₀ base n0 [(D,seqObj "list" ((jH kz).map λi=>vs.getD i .none).toArray c)] { s with heap:=h',toks:=tk } H α->P (.done (.ret .none)) { s with heap:=h',toks:=tk }):
 wpAny (model X.prog X.w) A (ksk_end D false vs.toArray e1 (.ref kS) keys) P E s:=by
 have hsz:keys.size=vs.length:=by have h1:=hk.length;rw[Array.length_toList] at h1;omega
 have hol:((jH kz).map λi=>vs.getD i Value.none).length<=64:=by rw[dJ,(K1 kz).length_eq,List.length_range];omega
 unfold ksk_end;simp only[Bool.false_eq_true,if_false];by_cases h2:vs.toArray.size<2
 .rw[if_pos h2,if_pos h2];refine aO (b7 ?_);rw[StateT.run_pure];refine aO (b7 ?_)
  try dsimp only
  rw[dU] at h2;exact RJ (st:=SortSt.mk' general' (keys.zip vs.toArray) #[] 7 none) N J hka (by omega) rfl (zlV hk hlen h2) hol h
 .rw[if_neg h2,if_neg h2];rw[dU] at h2;rw[ksk_kind hk (by rw[hsz];omega)];refine aO (b7 ?_);refine aO (jO (znu hk hlen (by omega) h64) ?_ λ_ _ e=>e)
  rintro⟨⟨⟩,st'⟩ s' ⟨rfl,hf,ho⟩
  try dsimp only
  exact RJ N J hka (by omega) hf ho hol h
theorem znW{f:Value}(N:N0 X pins base n0)(J:SJ X pins σ S H₀ α₀ base n0 [(D,seqObj "list" #[] e1),(kS,seqObj "list" #[] 0)] s H α)(hka:D≠kS)(hlen:kz.length=vs.length)(h64:vs.length<64)(turn:∀(i:Nat) (v:Value) (k:Int),vs[i]?=some v->kz[i]?=some k->∀own p0,p0∈own->∀s H α,SJ X pins σ S H₀ α₀ base n0 own s H α->wpAny (model X.prog X.w) A (call f [v]) (λr s'=>∃t H' α',r = .int k t/\SJ X pins σ S H₀ α₀ base n0 own s' H' α') (λ_ _=>False) s)(h:∀c s' H' α',SJ X pins σ S H₀ α₀ base n0 [(D,seqObj "list" ((jH kz).map λi=>vs.getD i .none).toArray c)] s' H' α'->P (.done (.ret .none)) s'):
 wpAny (model X.prog X.w) A (ksk_rest D f false vs.toArray e1 (.ref kS)) P E s:=by
 unfold ksk_rest;refine aO (wpAny_rule ?_)
 first
  |rw[List.forIn_toArray]
  | (rw[<-Array.forIn_toList];simp only[List.toList_toArray])
  |rw[<-Array.forIn_toList]
 refine aO (ksk_fold (λi s'=>∃H α kA e,SJ X pins σ S H₀ α₀ base n0 [(D,seqObj "list" #[] e1),(kS,seqObj "list" kA e)] s' H α/\IntsAre kA.toList (kz.take i)) vs 0 s
  ⟨H,α,#[],0,J,by simpa using IntsAre.nil⟩ ?step ?done)
 case step =>
  rintro j x s' hx ⟨H',α',kA,e,J',hk⟩
  simp only[Nat.zero_add] at hk ⊢;have hj:j<vs.length:=(fu.mp hx).1;obtain⟨k,hkj⟩:∃k,kz[j]?=some k:=⟨_,gG (by omega)⟩
  have hz:kA.size<=vs.length:=by have h1:=hk.length;rw[Array.length_toList,wZ] at h1;omega
  refine aO (wpAny_attempt (jO (turn j x k hx hkj _ _ (fG ..) s' H' α' J') (λv s'' he=>?_) λ_ _ hF=>hF.elim));obtain⟨t2,H2,α2,rfl,J2⟩:=he
  try dsimp only
  have nk:=J2.own (kS,seqObj "list" kA e) (by simp);obtain⟨c2,J3⟩:=J2.chg N (a:=kS) (xs:=kA) (n:=e) (by simp) (·.push (.int k t2)) (t':=s''.toks);have ek:kz.take (j+1)=kz.take j++[k]:=by rw[List.take_add_one,hkj];simp
  have ea:(kA.push (Value.int k t2)).toList=kA.toList++[Value.int k t2]:=by simp
  refine aO (listUpdate_at nk.1 rfl ?_ (by rw[sizeLine_eq];omega) (Nat.le_trans (Nat.le_of_eq (Array.size_push ..)) (by rw[sizeLine_eq];omega)));refine b7 ⟨rfl,H2,α2,kA.push (.int k t2),c2,J3 _ λp hp=>?_,by rw[ea,ek];exact ksk_snoc hk⟩;rcases List.mem_cons.mp hp with rfl|hp
  .exact .inr ⟨by simp,hka⟩
  .rw[List.mem_singleton.mp hp];exact .inl rfl
 case done =>
  rintro s' ⟨H',α',kA,e,J',hk⟩
  have hk':IntsAre kA.toList kz:=by have e3:kz.take (0+vs.length)=kz:=List.take_of_length_le (by omega);rw[e3] at hk;exact hk
  have nk:=J'.own (kS,seqObj "list" kA e) (by simp)
  try dsimp only
  refine aO (listItems_at nk.1 rfl ?_);exact Z1 N J' hka hk' hlen h64 λc tk h' J2=>h c _ _ _ J2
theorem znV{f:Value}(N:N0 X pins base n0)(J:SJ X pins σ S H₀ α₀ base n0 [(D,seqObj "list" vs.toArray n)] s H α)(hlen:kz.length=vs.length)(h64:vs.length<64)(turn:∀(i:Nat) (v:Value) (k:Int),vs[i]?=some v->kz[i]?=some k->∀own p0,p0∈own->∀s H α,SJ X pins σ S H₀ α₀ base n0 own s H α->wpAny (model X.prog X.w) A (call f [v]) (λr s'=>∃t H' α',r = .int k t/\SJ X pins σ S H₀ α₀ base n0 own s' H' α') (λ_ _=>False) s)(h:∀c s' H' α',SJ X pins σ S H₀ α₀ base n0 [(D,seqObj "list" ((jH kz).map λi=>vs.getD i .none).toArray c)] s' H' α'->P (.done (.ret .none)) s'):
 wpAny (model X.prog X.w) A (ksk_tree D f false) P E s:=by
 have ho:=(J.own _ (List.mem_singleton.mpr rfl)).1;have ha:D<s.heap.objs.size:=cG ho;obtain⟨e1,J1⟩:=J.chg N (a:=D) (xs:=vs.toArray) (n:=n) (by simp) (λ_=>(#[]:Array Value)) (t':=s.toks);have J1:=J1 [(D,seqObj "list" #[] e1)] λp hp=>by rw[List.mem_singleton.mp hp];exact .inl rfl
 have ho1:=(J1.own _ (List.mem_singleton.mpr rfl)).1;have J2:=J1.laid (h':=(s.heap.update D (Obj.mapSeq λ_=>(#[]:Array Value))).push (seqObj "tuple" vs.toArray 0)) (t':=s.toks) (λb u q=>dm _ q) (bZ _) (gw _ rfl);have J2:=J2.fewer (own':=[(D,seqObj "list" #[] e1)]) λp hp=>List.mem_append_left _ hp;have J3:=J2.laid (h':=((s.heap.update D (Obj.mapSeq λ_=>(#[]:Array Value))).push (seqObj "tuple" vs.toArray 0)).push (seqObj "list" #[] 0)) (t':=s.toks) (λb u q=>dm _ q) (bZ _) (gw _ rfl);unfold ksk_tree;refine aO (listItems_at ho rfl ?_);refine aO (listUpdate_at ho rfl ?_ (by rw[dU,sizeLine_eq];omega) (Nat.zero_le _));refine aO (seqEpoch_at ho1 rfl ?_);refine aO (wpAny_newTuple ?_ (by show vs.length<=_;rw[sizeLine_eq];omega));refine aO (wpAny_newList ?_ (Nat.zero_le _));refine wpAny_holding ?_;refine znW N J3 ?_ hlen h64 turn h;have:D<((s.heap.update D (Obj.mapSeq λ_=>(#[]:Array Value))).push (seqObj "tuple" vs.toArray 0)).objs.size:=by rw[size_push',Heap.size_update];exact Nat.lt_succ_of_lt ha
 exact dz this
end
section
variable {X:Cx}{pins:List (Addr×Obj)}{σ:L2.St}{S:So}{H₀ H:Hp}{α₀ α:List Addr}{base:Heap}{n0:Nat}{s:Shared}{A:Around}{E:Value->Shared->Prop}{a l:Addr}{vs:List Value}{kz:List Int}{Q:Value->Shared->Prop}
theorem zj5(N:N0 X pins base n0)(J:SJ X pins σ S H₀ α₀ base n0 [] s H α)(hl:s.heap.IsList l vs.toArray)(hlen:kz.length=vs.length)(h64:vs.length<64)(turn:∀(i:Nat) (v:Value) (k:Int),vs[i]?=some v->kz[i]?=some k->∀own p0,p0∈own->∀s H α,SJ X pins σ S H₀ α₀ base n0 own s H α->wpAny (model X.prog X.w) A.in1.in1 (call (.ref a) [v]) (λr s'=>∃t H' α',r = .int k t/\SJ X pins σ S H₀ α₀ base n0 own s' H' α') (λ_ _=>False) s)(h:∀D c s' H' α',SJ X pins σ S H₀ α₀ base n0 [(D,seqObj "list" ((jH kz).map λi=>vs.getD i .none).toArray c)] s' H' α'->Q (.ref D) s'):
 wpAny (model X.prog X.w) A (call (.builtin "sorted") [.ref l] [(Str.ofString "key",.ref a)]) Q E s:=by
 refine call_function_entry_kw kind_sorted plain_sorted entry_sorted (ksk_s1 _ _) ?_;unfold Builtin.«sorted»;refine aO (m:=checkCount "sorted" 1 1 _) (b7 ?_);refine aO (collect_list hl ?_ (by rw[sizeLine_eq];omega));refine aO (wpAny_newList ?_ (by rw[sizeLine_eq];omega));have hsz:((s.heap.push (seqObj "list" #[] 0)).update s.heap.objs.size (Obj.mapSeq (·++vs.toArray))).objs.size=s.heap.objs.size+1:=by rw[Heap.size_update,size_push']
 have hoL:(((s.heap.push (seqObj "list" #[] 0)).update s.heap.objs.size (Obj.mapSeq (·++vs.toArray))).push (seqObj "list" vs.toArray 0)).get? (s.heap.objs.size+1)=some (seqObj "list" vs.toArray 0):=by rw[<-hsz];exact gw _ rfl
 have keep:∀b o,s.heap.get? b=some o->(((s.heap.push (seqObj "list" #[] 0)).update s.heap.objs.size (Obj.mapSeq (·++vs.toArray))).push (seqObj "list" vs.toArray 0)).get? b=some o:=λb o q=>by have hlt:b<s.heap.objs.size:=cG q;rw[Heap.get?_push_ne _ _ _ (by rw[hsz];exact dz (Nat.lt_succ_of_lt hlt)),Heap.get?_update_ne _ _ _ _ (dz hlt),Heap.get?_push_ne _ _ _ (dz hlt)];exact q
 have J1:=J.laid (h':=((s.heap.push (seqObj "list" #[] 0)).update s.heap.objs.size (Obj.mapSeq (·++vs.toArray))).push (seqObj "list" vs.toArray 0)) (t':=s.toks) keep (Nat.le_succ _) hoL;show wpAny _ _ _ _ _ { s with heap:=((s.heap.push (seqObj "list" #[] 0)).update s.heap.objs.size (Obj.mapSeq (·++vs.toArray))).push (seqObj "list" vs.toArray 0) };rw[hsz];refine aO (wpAny_holding (wpAny_call_entry_kw slot_list_sort ⟨_,hoL,rfl⟩ entry_list_sort ?body (ksk_l1 _ _)))
 case body =>
  show wpAny (model X.prog X.w) A.in1.in1 (Builtin.«list.sort» ⟨[.ref (s.heap.objs.size+1)],[(Str.ofString "key",.ref a)]⟩) _ _ _;rw[ksk_t1];refine znV N J1 hlen h64 turn λc s' H' α' J'=>⟨_,rfl,?_⟩
  exact b7 ⟨_,rfl,h _ _ _ _ _ J'⟩
theorem SJ.adopt{D:Addr}{c:Nat}{ws:List V}(N:N0 X pins base n0)(J:SJ X pins σ S H₀ α₀ base n0 [(D,seqObj "list" out.toArray c)] s H α)(hv:Vals ws out)(hz:ws.length<=sizeLine):Inv X pins σ (upd H D (.lst ws)) s:=by
 obtain⟨e,hn,h0⟩:=J.own _ (List.mem_singleton.mpr rfl);have I:=J.inv;refine I.step (h':=s.heap) (g':=s.gens) (d':=s.drawn) (t':=s.toks) (ch:=[D]) (λb hb=>?_) (λb o _ _ _ q _=>q) (λb o _ _ _ q _=>⟨o.slots,q⟩) (λb o hb q n=>?_) (λb o _ q=>⟨o,q⟩) (λb xs q=>?_) (λb o u q=>?_) (λb ps q=>?_) (λm q=>q) (λb o q=>?_) I.bare
 .rw[List.mem_singleton.mp hb];exact⟨.inr (Nat.le_trans N.s0 h0),Nat.ne_of_gt (dM N.loc h0),λx c q=>dz (dM (N.cel x c q) h0),λp hp=>dz (dM (N.pin p hp) h0)⟩
 .rw[cu (λz=>hb (by simp[z]))];exact n
 .rw[cu (gB q hn)];exact q
 .rw[cu (gB q hn)];exact q
 .exact⟨#[],by rw[cu (gB q hn),q];simp⟩
 .by_cases hb:b=D
  .subst hb;rw[fJ] at q;cases q;exact⟨hz,out,c,hv,e⟩
  .rw[cu hb] at q;exact(I.hok b o q).stay (λ_ _ _ r=>r) (λx r=>by rw[cu (gB r hn)];exact r) λx xs r=>by rw[cu (gB r hn)];exact r
end
section
variable {X:Cx}{pins:List (Addr×Obj)}{σ:L2.St}{H1 H':Hp}{s1 s':Shared}{params:Arguments}{body:Expr}{scope:Scope}{bN:Pos}{P Pt:Addr}{cap:List Str}{gm:List V}{a:Addr}{q:Str}{fb:EF}{k:Nat}{clos:List (Str×Addr)}{ig:List D}{cdv:Value}{base:Heap}
theorem Xx(hsc:scope.kind = .function/\scope.isCoroutine=false/\scope.isGenerator=false/\scope.names.lookup q=some .local/\∀y∈scope.names,y.2 ≠ .cell)(hu:∀y∈scope.names,scope.names.lookup y.1=some y.2)(hbind:∀(pm cdv ctv:Value) (clos:List (Str×Addr)) (qual:Str) (u:Value),bindArgs (kla_fn "<lambda>" qual params body scope clos pm cdv ctv) ⟨[u],[]⟩=pure [(q,u)])(hbody:∀(a:Addr) (cdv:Value) (clos:List (Str×Addr)) (qual:Str) (A:Around) (outer:List Env) (s:Shared) (H:Hp) (E:XK),bI k (A.deeper (envX qual scope s.heap.objs.size a cdv clos)) ->
  SE (wH X.prog X.w X.K X.mg base (q::cap) qual scope a cdv clos A outer s H E).nox body fb)(hlo:vR ig=true)(hl:cap.length=gm.length)(C:W9 base X.env.qual params body scope clos cap gm a cdv):
 Dt X.prog X.w X.K X.mg base (k+1) a (λH=>aH X.K H [] ig gm/\∃ps,H Pt=some (.tbl ps)/\codeAmong bN ps.toList=some cdv) (lamF fb ig):=by
 obtain⟨pm,ctv,ho⟩:=C.obj;have lam:=YW (P:=X.prog) (w:=X.w) (K:=X.K) (mg:=X.mg) (k:=k) (Pt:=Pt) (bN:=bN) (p:=q) (cap:=cap) (gm:=gm) (cus:=[])
  (sp:=λvs H Q E=>vs.length=1/\(aH X.K H [] ig gm/\∃ps,H Pt=some (.tbl ps)/\codeAmong bN ps.toList=some cdv)/\jB X.K (lamF fb ig) vs H Q)
  ho rfl (λvs H Q E h=>h.2.1.2) ⟨hsc.1,hsc.2.1,hsc.2.2.1,hsc.2.2.2.1,hsc.2.2.2.2,λy hy=>C.has y (iy hy),C.inj⟩ C.cells
  (λi y v h1 h2=>⟨hu _ (C.cap i y v h1 h2).1,(C.cap i y v h1 h2).2⟩) hl (λvs H Q E h=>h.1)
  (λqual A outer s H v Q E hr h=>⟨_,hbody a cdv clos qual A outer s H E hr,?_⟩)
 .exact⟨_,q,_,lam,ho,λs u => .of_eq (hbind pm cdv ctv clos _ u),λvs H Q hR h1 h2=>⟨h1,hR,h2⟩⟩
 .obtain⟨_,⟨hrep,_⟩,S,α,ds,z,S',hs,hrs,hf,kk⟩:=h;unfold lamF at hf;split at hf
  .rename_i d;cases hrs with
   |cons r1 r2 =>
    cases r2;refine⟨some d::ig.map some,S,α,z,S',⟨by simp[hrep.length],λi d' e'=>?_⟩,hs,hf,kk⟩;cases i with
    |zero =>
     simp at e';subst e';exact⟨v,rfl,r1⟩
    |succ i =>
     rw[List.getElem?_cons_succ,jg] at e';cases qd:ig[i]? with
     |none=>rw[qd] at e';cases e'
     |some d2 =>
      rw[qd] at e';cases e';obtain⟨v2,k1,k2⟩:=(hrep.monoT (α':=α) fU.refl hlo).get qd;exact⟨v2,by rw[List.getElem?_cons_succ,jg,k1];rfl,k2⟩
  .cases hf
end
open Classical in
noncomputable def qJ(ψ:GN)(S:So):List D->Option (List Int)
 |[]=>some []
 |d::r=>match ψ [d] S with
  |some (.int k,S')=>if S'=S then(qJ ψ S r).map λl=>k::l else none
  |_=>none
theorem zjs{ψ:GN}{r:List D}{k:Int}{l:List Int}(h:ψ [d] S=some (.int k,S))(hr:qJ ψ S r=some l):qJ ψ S (d::r)=some (k::l):=by unfold qJ;rw[h];simp[hr]
theorem Uk{ψ:GN}{S:So}:∀{xs:List D} {kz:List Int},qJ ψ S xs=some kz->kz.length=xs.length/\∀(i:Nat) d k,xs[i]?=some d->kz[i]?=some k->ψ [d] S=some (.int k,S)
 |[],kz,h=>by cases h;exact⟨rfl,λi d k e=>by simp at e⟩
 |x::r,kz,h=>by
  unfold qJ at h;split at h
  .rename_i k0 S0 e0;split at h
   .rename_i hS;subst hS;simp only[aX] at h;obtain⟨l,e1,rfl⟩:=h;obtain⟨h1,h2⟩:=Uk e1;refine⟨by simp[h1],λi d k e3 e4=>?_⟩;cases i with
    |zero=>simp at e3 e4;subst e3 e4;exact e0
    |succ i=>exact h2 i d k (by simpa using e3) (by simpa using e4)
   .cases h
  .cases h
noncomputable def yM(fe:EF)(src:List Nat)(fb:EF):EF:=λσ S=>(fe σ S).bind λr=>(pJ src σ).bind λig=>if vR ig=true then match r.1 with
 |.ref n=>match r.2[n]? with
  |some (.lst xs)=>if xs.length<64 then(qJ (lamF fb ig) r.2 xs).map λkz=>(.ref r.2.length,r.2++[.lst ((jH kz).map λi=>xs.getD i .non)]) else none
  |_=>none
 |_=>none
 else none
theorem TY{K:FgA}{H:Hp}{α:List Addr}{xs:List D}{ws:List V}(r:aH K H α xs ws):∀l:List Nat,aH K H α (l.map λi=>xs.getD i .non) (l.map λi=>ws.getD i .non)
 |[] => .nil
 |i::l=>by
  refine .cons (show Rep K H α (xs.getD i .non) (ws.getD i .non) from ?_) (TY r l);by_cases hi:i<xs.length
  .obtain⟨v,h1,h2⟩:=r.get (gG hi);rw[List.getD_eq_getElem?_getD,List.getD_eq_getElem?_getD,gG hi,h1];exact h2
  .have hi':¬i<ws.length:=by rw[<-r.length];exact hi
   rw[List.getD_eq_getElem?_getD,List.getD_eq_getElem?_getD,jN (by omega),jN (by omega)];exact .non
theorem Ub{ws:List V}{us:List Value}(r:Vals ws us):∀l:List Nat,Vals (l.map λi=>ws.getD i .non) (l.map λi=>us.getD i .none)
 |[] => .nil
 |i::l=>by
  refine .cons (show RelV (ws.getD i .non) (us.getD i .none) from ?_) (Ub r l);by_cases hi:i<ws.length
  .obtain⟨v,h1,h2⟩:=r.get (gG hi);rw[List.getD_eq_getElem?_getD,List.getD_eq_getElem?_getD,gG hi,h1];exact h2
  .have hi':¬i<us.length:=by rw[<-r.length];exact hi
   rw[List.getD_eq_getElem?_getD,List.getD_eq_getElem?_getD,jN (by omega),jN (by omega)];exact rfl
section
variable {X:Cx}{p pos bN kp:Pos}{e:Expr}{fe fb:EF}{params:Arguments}{body:Expr}{scope:Scope}{q:Str}{cap:List Str}{src:List Nat}{k:Nat}{Pt ct:Addr}
theorem Xi(L:Du X Pt ct)(hsc:scope.kind = .function/\scope.isCoroutine=false/\scope.isGenerator=false/\scope.names.lookup q=some .local/\∀y∈scope.names,y.2 ≠ .cell)(hu:∀y∈scope.names,scope.names.lookup y.1=some y.2)(hcap:∀y∈cap,(y,NameKind.free)∈scope.names)(hfree:∀y∈scope.names,y.2 = .free->X.env.kindOf y.1=some .cell)(gD:∀(i:Nat) y,cap[i]?=some y->∃j,src[i]?=some j/\X.N[j]?=some y)(hlen:cap.length=src.length)(hdef:defaultsOf params X.env=([],[]))(hbind:∀(pm cdv ctv:Value) (clos:List (Str×Addr)) (qual:Str) (u:Value),bindArgs (kla_fn "<lambda>" qual params body scope clos pm cdv ctv) ⟨[u],[]⟩=pure [(q,u)])(hbody:∀(base:Heap),Mod X.K X.mg base->∀(a:Addr) (cdv:Value) (clos:List (Str×Addr)) (qual:Str) (A:Around) (outer:List Env) (s:Shared) (H:Hp) (E:XK),bI k (A.deeper (envX qual scope s.heap.objs.size a cdv clos)) ->
  SE (wH X.prog X.w X.K X.mg base (q::cap) qual scope a cdv clos A outer s H E).nox body fb)(hr:bI (k+3) X.A)(hg:Gl X "sorted")(hm:X.mg "sorted" = none)(ha:SE X e fe)(he:starEach [e] X.env=[(false,eval e X.env)]):
 SE X (.Call (.Name "sorted" p) [e] [⟨some "key",.Lambda params body scope bN,kp⟩] pos) (yM fe src fb):=by
 intro pins s σ H Q I h;obtain⟨σd,S,α,z,S',hv,hs,hf,kk⟩:=h;unfold yM at hf;simp only[bf] at hf;obtain⟨⟨d1,S1⟩,e1,ig,e2,e3⟩:=hf;split at e3
 .rename_i hlo;split at e3
  .rename_i n en;simp only at en;subst en;split at e3
   .rename_i xs ex;split at e3
    .rename_i h64;simp only[aX] at e3;obtain⟨kz,ek,e4⟩:=e3;cases e4;obtain⟨hkl,hkg⟩:=Uk ek;obtain⟨gm,c1,c2,c3⟩:=R8 hv e2;refine wpAny_Call_Name_kw (sZ I hg hm (show bootBuiltins "sorted" = some (.builtin "sorted") by decide +kernel) ?_ (by decide) (by decide));have hst:backTo pos (starEach [e] X.env)=(false,eval e X.env)::backTo pos (starEach [] X.env):=by rw[he];rfl
     refine callWith_kw ?_ hst (by rw[hst];rfl) rfl rfl;rw[hst];refine Calls.spliced_cons (bQ (ha pins s σ H (λv H1=>∃α1,aB X.K H1 α1 S1/\Ext X.K H α H1 α1/\Rep X.K H1 α1 (.ref n) v) I ⟨σd,S,α,.ref n,S1,hv,hs,e1,λw H1 α1 s1 x1 r1=>⟨α1,s1,x1,r1⟩⟩) λu1 s1 ⟨v1,H1,I1,r1,α1,st1,x1,Nk⟩=>?_);refine Calls.spliced_nil ?_;cases Nk with
     |@ref _ l hl =>
      cases r1;obtain⟨ws,hw,rws⟩:=st1.obj _ _ _ ex hl;have hcells:∀y∈scope.names,y.2 = .free->∃c,X.env.cells.lookup y.1=some c:=λy hy e=>I1.ok.has y.1 (.inl (hfree y hy e));obtain⟨ps0,Og⟩:=L.tab;obtain⟨more,hps⟩:=I1.base.tbls Pt ps0 Og;refine kws_cons (zmw I1 hps L.code L.hd L.bm (zjB hcells) hdef λa s2 H2 M=>kws_nil ?_);obtain⟨cdv,C,Ol⟩:=zms I1 M hcap hfree L.fn (gm:=gm) (λi y hi=>by
       obtain⟨j,k1,k2⟩:=gD i y hi;obtain⟨v,k3,k4⟩:=c3 i j k1;exact⟨j,v,k2,k3,k4⟩)
      have I2:=M.inv;obtain⟨e0,kb⟩:=zlj I2;have N:=N0.of I2;have hw2:H2 l=some (.lst ws):=M.same.1 _ _ hw λ_ z=>by cases z
      have J:SJ X pins σ S1 H2 α1 (nA s2.heap H2 X.stack) s2.heap.objs.size [] s2 H2 α1:=⟨I2,M.same.store st1,Ext.refl,fU.refl,bZ _,λb o e=>TV e,λp hp=>(nomatch hp)⟩
      obtain⟨hz,its,en,rv,hits,ho⟩:=I2.lstM hw2;have hil:s2.heap.IsList l its.toArray:=⟨_,ho,rfl,en,rfl⟩
      have clo:=Xx (X:=X) (Pt:=Pt) (bN:=bN) (k:=k) hsc hu hbind (hbody _ e0.mod) hlo (by rw[hlen,c2]) C;have hR:aH X.K H2 [] ig gm/\∃ps,H2 Pt=some (.tbl ps)/\codeAmong bN ps.toList=some cdv:=⟨(c1.mono (x1.trans M.same.ext)).monoT fU.refl hlo,Ol⟩
      have Bc:=rws.mono (M.same.ext (α:=α1));refine zj5 (kz:=kz) N J hil (by rw[hkl,rws.length];exact hits) (by rw[<-hits,<-rws.length];exact h64) (λi u kv hu hk own p0 hp0 s3 H3 α3 J3=>?_) λDd c s3 H3 α3 J3=>?_
      .obtain⟨w,hw3,rw3⟩:∃w,ws[i]?=some w/\RelV w u:=by
        have hi:i<ws.length:=by rw[hits];exact(fu.mp hu).1
        obtain⟨u',hu',r'⟩:=rv.get (gG hi);rw[hu] at hu';cases hu';exact⟨_,gG hi,r'⟩
       obtain⟨d,hd,rd⟩:=Bc.getV hw3;refine SJ.call N e0.mod J3 (A:=X.A.in1.in1) rfl hr.in1.in1 clo (λHa Hb t hR=>⟨hR.1.monoT t hlo,?_⟩) hR hp0 (rd.mono J3.ext) rw3 (hkg i d kv hd hk);obtain⟨ps,h1,h2⟩:=hR.2;obtain⟨more,h3⟩:=t.tbls _ _ h1;exact⟨_,h3,by rw[Array.toList_append];exact zjF _ _ h2⟩
      .have BW:((jH kz).map λi=>ws.getD i V.non).length<=sizeLine:=by rw[dJ,(K1 kz).length_eq,List.length_range,sizeLine_eq];omega
       have I3:=J3.adopt N (Ub rv (jH kz)) BW;have hnD:=(J3.own _ (List.mem_singleton.mpr rfl)).2.1;obtain⟨s4,x4⟩:=J3.st.snoc (p:=Dd) (o := .lst ((jH kz).map λi=>xs.getD i .non)) (u := .lst ((jH kz).map λi=>ws.getD i V.non)) hnD λα' x=>⟨_,fJ,(TY (Bc.mono J3.ext) (jH kz)).mono x⟩
       refine⟨.ref Dd,_,I3,rfl,kk _ _ _ s4 ((x1.trans (M.same.ext (α:=α1))).trans (J3.ext.trans x4)) (.ref ?_)⟩;rw[<-J3.st.len];simp
    .cases e3
   .cases e3
  .cases e3
 .cases e3
end
end MX
end
section
namespace MX
open PySem PySem.Spec PyProof.Rows L2
noncomputable def uM(f:Str)(v:D):List (Str×D)->List (Str×D)
 |[]=>[(f,v)]
 | (g,x)::r=>if g=f then(g,v)::r else(g,x)::uM f v r
section
variable {K:FgA}{H:Hp}{α:List Addr}
inductive cO(K:FgA)(H:Hp)(α:List Addr):List (Str×D)->List (Str×V)->Prop
 |nil:cO K H α [] []
 |cons {f:Str} {d:D} {v:V} {fs:List (Str×D)} {gs:List (Str×V)} (h:Rep K H α d v) (r:cO K H α fs gs):cO K H α ((f,d)::fs) ((f,v)::gs)
theorem cO.of:∀{fs:List (Str×D)} {gs:List (Str×V)},fs.map (·.1)=gs.map (·.1)->aH K H α (fs.map (·.2)) (gs.map (·.2))->cO K H α fs gs
 |[],[],_,_ => .nil
 |[],_::_,e,_=>by cases e
 |_::_,[],e,_=>by cases e
 | (f,d)::fs,(g,v)::gs,e,r=>by
   injection e with e1 e2;cases e1;cases r with
   |cons a b=>exact .cons a (cO.of e2 b)
def cO.keys:∀{fs:List (Str×D)} {gs:List (Str×V)},cO K H α fs gs->fs.map (·.1)=gs.map (·.1)
 |_,_,.nil=>rfl
 |_,_,.cons _ r=>by simp only[jq,r.keys]
def cO.reps:∀{fs:List (Str×D)} {gs:List (Str×V)},cO K H α fs gs->aH K H α (fs.map (·.2)) (gs.map (·.2))
 |_,_,.nil => .nil
 |_,_,.cons h r => .cons h r.reps
theorem cO.look{f:Str}{d:D}:∀{fs:List (Str×D)} {gs:List (Str×V)},cO K H α fs gs->fs.lookup f=some d->∃v,gs.lookup f=some v/\Rep K H α d v
 |_,_,.nil,h=>by cases h
 |_,_,@cO.cons _ _ _ g d' v' fs gs h r,e=>by
  rw[jF] at e ⊢;by_cases q:(f==g)=true
  .rw[q] at e ⊢;simp only at e ⊢;cases e;exact⟨_,rfl,h⟩
  .have q:(f==g)=false:=by simpa using q
   rw[q] at e ⊢;exact r.look e
theorem cO.lookN{f:Str}:∀{fs:List (Str×D)} {gs:List (Str×V)},cO K H α fs gs->fs.lookup f=none->gs.lookup f=none
 |_,_,.nil,h=>rfl
 |_,_,@cO.cons _ _ _ g d' v' fs gs h r,e=>by
  rw[jF] at e ⊢;by_cases q:(f==g)=true
  .rw[q] at e;cases e
  .have q:(f==g)=false:=by simpa using q
   rw[q] at e ⊢;exact r.lookN e
theorem cO.put{f:Str}{d:D}{v:V}(h0:Rep K H α d v):∀{fs:List (Str×D)} {gs:List (Str×V)},cO K H α fs gs->cO K H α (uM f d fs) (jt f v gs)
 |_,_,.nil => .cons h0 .nil
 |_,_,@cO.cons _ _ _ g d' v' fs gs h r=>by
  unfold uM jt;by_cases q:g=f
  .rw[if_pos q,if_pos q];exact .cons h0 r
  .rw[if_neg q,if_neg q];exact .cons h (r.put h0)
def cO.len{fs:List (Str×D)}{gs:List (Str×V)}(r:cO K H α fs gs):fs.length=gs.length:=by have:=congrArg List.length r.keys;simpa using this
end
noncomputable def gH(C f:Str)(fe:EF):EF:=λσ S=>(fe σ S).bind λr=>match r.1 with
 |.ref n=>match r.2[n]? with
  |some (.ins C' fs)=>if C'=C then(fs.lookup f).map λd=>(d,r.2) else none
  |_=>none
 |.obj C' ks xs=>if C'=C/\ks.length=xs.length then((ks.zip xs).lookup f).map λd=>(d,r.2) else none
 |_=>none
noncomputable def oH(C f:Str)(fo fv:EF):SF:=λσ S=>(fv σ S).bind λr=>(fo σ r.2).bind λq=>match q.1 with
 |.ref n=>match q.2[n]? with
  |some (.ins C' fs)=>if C'=C/\fs.length<3 then some (.nx,σ,q.2.set n (.ins C (uM f r.1 fs))) else none
  |_=>none
 |_=>none
noncomputable def mq(C m:Str)(n:Nat)(φ:GN)(fo:EF)(fa:AF):EF:=λσ S=>(fo σ S).bind λr=>match r.1 with
 |.ref j=>match r.2[j]? with
  |some (.ins C' fs)=>if C'=C/\fs.lookup m=none then(fa σ r.2).bind λq=>aR n φ (.ref j::q.1) q.2 else none
  |_=>none
 |_=>none
noncomputable def mX(C:Str)(n:Nat)(S:So):D×So:=match S[n]? with
 |some (.ins C' fs)=>if C'=C/\3<=fs.length/\S.length=n+1/\cV n (fs.map (·.2))=true/\(S.take n).all (O.lo n)=true then(.obj C (fs.map (·.1)) (fs.map (·.2)),S.take n) else(.ref n,S)
 |_=>(.ref n,S)
noncomputable def pI(C:Str)(n:Nat)(φ:GN)(fa:AF):EF:=λσ S=>(fa σ S).bind λr=>(aR n φ (.ref r.2.length::r.1) (r.2++[.ins C []])).bind λq=>match q.1 with
 |.non=>some (mX C r.2.length q.2)
 |_=>none
structure G8(X:Cx)(C f:Str):Prop where
 cls:jX X.K (cU X.K C)
 no:d7 X.K (cU X.K C) f
def Hf(X:Cx)(C m:Str)(n:Nat)(φ:GN):Prop:=∃f fd ps k,jX X.K (cU X.K C)/\Meth X.K (cU X.K C) m f/\Binds X.K fd ps []/\cW X.prog X.w X.K X.mg X.base iu k f fd ps (sJ X.K n φ)/\bI k X.A
def ux(X:Cx)(C:Str)(n:Nat)(φ:GN):Prop:=∃f fd ps k,X.mg C=some (.ref (cU X.K C))/\Mk X.K (cU X.K C) f/\Binds X.K fd ps []/\cW X.prog X.w X.K X.mg X.base iu k f fd ps (sJ X.K n φ)/\bI (k+1) X.A
section
variable {X:Cx}{C f m:Str}{e o:Expr}{es:List Expr}{fe fo fv:EF}{fa:AF}{n:Nat}{φ:GN}{pos pos' apos p:Pos}
theorem YK(ok:G8 X C f)(he:SE X e fe)(hb:attributeBase e f X.env (eval e X.env)=eval e X.env):SE X (.Attribute e f pos) (gH C f fe):=by
 refine PE.imp (Ze he hb) λσ H Q h=>?_;obtain⟨σd,S,α,z,S',hv,hs,hf,k⟩:=h;unfold gH at hf;simp only[bf] at hf;obtain⟨⟨d,S1⟩,e1,e2⟩:=hf;refine⟨σd,S,α,d,S1,hv,hs,e1,λv H1 α1 s1 x1 r1=>?_⟩;simp only at e2;split at e2
 .rename_i j;split at e2
  .rename_i C' fs q;split at e2
   .rename_i hC;subst hC;simp only[aX] at e2;obtain⟨d',l,e3⟩:=e2;cases e3;cases r1 with
    |ref ha =>
     obtain⟨dx,gs,h1,h2,h3⟩:=s1.obj _ _ _ q ha;obtain⟨w,lw,eY⟩:=(cO.of h2 h3).look l;exact⟨_,_,dx,gs,w,rfl,h1,ok.cls,ok.no,lw,(k.trans x1).same s1 eY⟩
   .cases e2
  .cases e2
 .rename_i C' ks xs;split at e2
  .rename_i hC;obtain⟨rfl,hl⟩:=hC;simp only[aX] at e2;obtain⟨d',l,e3⟩:=e2;cases e3;cases r1 with
   |@obj a C dx gs ks ds vs h1 h2 h3 h4 h5 =>
    have z1:(ks.zip xs).map (·.1)=gs.map (·.1):=by rw[List.map_fst_zip (Nat.le_of_eq hl),h3]
    have z2:aH X.K H1 α1 ((ks.zip xs).map (·.2)) (gs.map (·.2)):=by rw[List.map_snd_zip (Nat.le_of_eq hl.symm),h4];exact h5
    obtain⟨w,lw,eY⟩:=(cO.of z1 z2).look l;exact⟨_,_,dx,gs,w,rfl,h1,ok.cls,ok.no,lw,(k.trans x1).same s1 eY⟩
  .cases e2
 .cases e2
theorem Z7(ok:G8 X C f)(ho:SE X o fo)(hv:SE X e fv)(hs:swapsWith e (some (.Attribute o f pos')) pos.line X.env=pure false):SS X (.Assign [.Attribute o f pos'] e pos) (oH C f fo fv):=by
 refine PS.imp (Yv ho hv hs) λD σ H h=>?_;obtain⟨σd,S,α,fl,σd',S',Od,hss,hf,k⟩:=h;unfold oH at hf;simp only[bf] at hf;obtain⟨⟨d,S1⟩,e1,⟨d2,S2⟩,e2,e3⟩:=hf;refine⟨σd,S,α,d,S1,Od,hss,e1,λv H1 α1 s1 x1 r1=>⟨σd,S1,α1,d2,S2,Od.mono x1,s1,e2,λv2 H2 α2 s2 x2 r2=>?_⟩⟩;simp only at e3;split at e3
 .split at e3
  .rename_i C' fs q;split at e3
   .rename_i hC;obtain⟨rfl,hl⟩:=hC;cases e3;cases r2 with
    |ref ha =>
     obtain⟨dx,gs,h1,h2,h3⟩:=s2.obj _ _ _ q ha;have R:=cO.of h2 h3;refine⟨_,_,dx,gs,rfl,h1,ok.cls,ok.no,by rw[<-R.len];exact Nat.lt_trans hl (by decide),?_⟩;obtain⟨s3,x3⟩:=s2.put' (o := .ins C' (uM f d fs)) (u := .ins (cU X.K C') dx (jt f v gs)) q rfl rfl ha h1 (λ_ z=>by cases z) (λ_ _ z=>by cases z) (λc dy hs l z=>by cases z;rw[<-R.len] at l;omega) λx=>by
      have R2:=(cO.put (f:=f) (r1.mono x2) R)
      exact⟨dx,_,fJ,R2.keys,R2.reps.mono x⟩
     exact k _ _ _ (((Od.mono x1).mono x2).mono x3) s3 ((x1.trans x2).trans x3)
   .cases e3
  .cases e3
 .cases e3
theorem TJ{args:List Expr}(hbase:attributeBase o m env (eval o env)=eval o env)(hfew:((backTo pos (starEach args env)).all (λx => !x.1)&&(backToKw pos (keywordEach [] env)).all (λx=>x.1.isSome)&&decide (args.length+([]:List Keyword).length+(if([]:List Keyword).isEmpty then 0 else 1)<30))=true)(hline:(apos.endLine==pos.line)=true):eval (.Call (.Attribute o m apos) args [] pos) env=(do
  let ov <-eval o env
  standAt apos.atName
  let (f,first) <-holding [ov] (getMethod ov m (do return(<-importBound o env).getD true))
  callWith pos f first (backTo pos (starEach args env)) (backToKw pos (keywordEach [] env))):=by
 have hform:methodCallForm (args.length+([]:List Keyword).length) (backTo pos (starEach args env)) (backToKw pos (keywordEach [] env))=true:=by have h:=hfew;rw[<-h];rfl
 have hpos:methodCallPos true o env apos pos=pure pos:=by unfold methodCallPos;simp[hline]
 rw[arm_eval_Call,hbase];unfold methodCall;rw[hform,hpos];rfl
theorem zp9(R:Hf X C m n φ)(ho:SE X o fo)(ha:SA X (e::es) fa)(hbase:attributeBase o m X.env (eval o X.env)=eval o X.env)(hfew:((backTo pos (starEach (e::es) X.env)).all (λx => !x.1)&&(backToKw pos (keywordEach [] X.env)).all (λx=>x.1.isSome)&&decide ((e::es).length+([]:List Keyword).length+(if([]:List Keyword).isEmpty then 0 else 1)<30))=true)(hline:(apos.endLine==pos.line)=true)(hst:starEach (e::es) X.env=(false,eval e X.env)::starEach es X.env)(hpl:(backTo pos (starEach es X.env)).any (·.1)=false):
 SE X (.Call (.Attribute o m apos) (e::es) [] pos) (mq C m n φ fo fa):=by
 obtain⟨f,fd,ps,kk,c,hm,hb,F,hr⟩:=R;refine PE.imp (zon ho c hm F hr hb .nil Dm ha hst hpl (TJ hbase hfew hline)) λσ H Q h=>?_;obtain⟨σd,S,α,z,S',hv,hs,hf,k⟩:=h;unfold mq at hf;simp only[bf] at hf;obtain⟨⟨d,S1⟩,e1,e2⟩:=hf;refine⟨σd,S,α,d,S1,hv,hs,e1,λv H1 α1 s1 x1 r1=>?_⟩;simp only at e2;split at e2
 .split at e2
  .rename_i C' fs q;split at e2
   .rename_i hC;obtain⟨rfl,hl⟩:=hC;simp only[bf] at e2;obtain⟨⟨ds,S2⟩,e3,e4⟩:=e2;unfold aR at e4;split at e4
    .rename_i hn;cases r1 with
     |ref ha =>
      obtain⟨dx,gs,h1,h2,h3⟩:=s1.obj _ _ _ q ha;refine⟨_,dx,gs,rfl,h1,(cO.of h2 h3).lookN hl,σd,S1,α1,ds,S2,hv.mono x1,s1,e3,λvs H2 α2 s2 x2 r2=>?_⟩;show sJ _ _ _ (_::(vs++[])) _ _ _;rw[List.append_nil];exact⟨by rw[<-hn,jf,jf,r2.length],S2,α2,_,z,S',s2,.cons (.ref (x2.pre _ _ ha)) r2,e4,k.trans (x1.trans x2)⟩
    .cases e4
   .cases e2
  .cases e2
 .cases e2
theorem zn4(R:Hf X C m n φ)(ho:SE X o fo)(hbase:attributeBase o m X.env (eval o X.env)=eval o X.env)(hline:(apos.endLine==pos.line)=true):
 SE X (.Call (.Attribute o m apos) [] [] pos) (mq C m n φ fo aA):=by
 obtain⟨f,fd,ps,kk,c,hm,hb,F,hr⟩:=R;refine PE.imp (zmg ho c hm F hr hb .nil Dm (TJ hbase rfl hline)) λσ H Q h=>?_;obtain⟨σd,S,α,z,S',hv,hs,hf,k⟩:=h;unfold mq at hf;simp only[bf] at hf;obtain⟨⟨d,S1⟩,e1,e2⟩:=hf;refine⟨σd,S,α,d,S1,hv,hs,e1,λv H1 α1 s1 x1 r1=>?_⟩;simp only at e2;split at e2
 .split at e2
  .rename_i C' fs q;split at e2
   .rename_i hC;obtain⟨rfl,hl⟩:=hC;simp only[bf] at e2;obtain⟨⟨ds,S2⟩,e3,e4⟩:=e2;cases e3;unfold aR at e4;split at e4
    .rename_i hn;cases r1 with
     |ref ha =>
      obtain⟨dx,gs,h1,h2,h3⟩:=s1.obj _ _ _ q ha;refine⟨_,dx,gs,rfl,h1,(cO.of h2 h3).lookN hl,?_⟩;exact⟨by rw[<-hn];rfl,_,α1,_,z,S',s1,.cons (.ref ha) .nil,e4,k.trans x1⟩
    .cases e4
   .cases e2
  .cases e2
 .cases e2
theorem Xe(R:ux X C n φ)(hg:Gl X C)(ha:SA X (e::es) fa)(hdb:(C==("__debug__" : Str))=false)(hst:starEach (e::es) X.env=(false,eval e X.env)::starEach es X.env)(hpl:(backTo pos (starEach es X.env)).any (·.1)=false):
 SE X (.Call (.Name C p) (e::es) [] pos) (pI C n φ fa):=by
 obtain⟨f,fd,ps,kk,hm,M,hb,F,hr⟩:=R;refine PE.imp (zoo M F hr hg hm hb .nil Dm ha hdb hst hpl) λσ H Q h=>?_;obtain⟨σd,S,α,z,S',hv,hs,hf,k⟩:=h;unfold pI at hf;simp only[bf] at hf;obtain⟨⟨ds,S1⟩,e1,⟨d2,S2⟩,e2,e3⟩:=hf;refine⟨σd,S,α,ds,S1,hv,hs,e1,λvs H1 α1 s1 x1 r1=>λx dx hx hdx hne=>?_⟩;simp only at e2 e3;split at e3
 .have e4:=Option.some.inj e3;unfold aR at e2;split at e2
  .rename_i hn;have sa:Same H1 (upd H1 dx (.own x)):=lO hdx;have hx2:upd H1 dx (.own x) x=none:=by rw[cu (Ne.symm hne)];exact hx
   obtain⟨s2,x2⟩:=(s1.mono sa).snoc (p:=x) (o := .ins C []) (u := .ins (cU X.K C) dx []) hx2 λα' e=>⟨dx,[],fJ,rfl,.nil⟩
   have lx:(α1++[x])[S1.length]?=some x:=by rw[<-s1.len];simp
   have x12:Ext X.K H1 α1 (upd (upd H1 dx (.own x)) x (.ins (cU X.K C) dx [])) (α1++[x]):=(Same.ext sa).trans x2;rw[List.append_nil];refine⟨by rw[<-hn,jf,jf,r1.length],_,α1++[x],_,.non,_,s2,.cons (.ref lx) (r1.mono x12),e2,λw H3 α3 s3 x3 r3=>?_⟩;cases r3;refine⟨rfl,?_⟩;have l3:=x3.pre _ _ lx;have usual:(D.ref S1.length,S2)=(z,S')->Q (.ref x) H3:=λq=>by cases q;exact k _ _ _ s3 ((x1.trans x12).trans x3) (.ref l3)
   unfold mX at e4;split at e4
   .rename_i C' fs q;split at e4
    .rename_i hq;obtain⟨rfl,q1,q2,q3,q4⟩:=hq;cases e4;obtain⟨dx3,gs,g1,g2,g3⟩:=s3.obj _ _ _ q l3;have gl:3<=gs.length:=by have:=congrArg List.length g2;simp only[dJ] at this;omega
     have s4:=s3.cut S1.length (λo ho=>List.all_eq_true.mp q4 o ho);have xx:=x12.trans x3;exact k _ _ _ s4 (x1.trans ⟨xx.tups,λi b q=>by
      have hi:=(fu.mp q).1;rw[s1.len] at hi;rw[List.getElem?_take_of_lt hi];exact xx.pre i b q,xx.insts⟩) (.obj g1 gl g2.symm rfl (g3.cut _ q3))
    .exact usual e4
   .exact usual e4
  .cases e2
 .cases e3
end
noncomputable def Ite(K:FgA)(a:Addr):It :=
 ⟨λi H=>∃vs v,dG K H a vs/\vs[i]?=some v,
  λi H x H'=>∃p v,x = .ref p/\H p=none/\H'=upd H p (.tup [.int (i:Nat),v])/\∀vs,dG K H a vs->vs[i]?=some v,
  λi H=>∃vs,dG K H a vs/\vs.length<=i⟩
theorem zoV(h:α[n]?=some a):yP K H α (.enm n) (Ite K a):=λi H1 α1 S1 x1 s1=>by
 have h1:=x1.pre _ _ h;unfold di;cases hm:S1[n]? with
 |none=>simp only[hm];exact⟨λe=>(nomatch e),λd e=>(nomatch e)⟩
 |some o =>
  have hob:=s1.obj _ _ _ hm h1;cases o with
  |lst ds =>
   simp only[hm];obtain⟨vs,q,r⟩:=hob;refine⟨λe=>?_,λd e=>?_⟩
   .have e':ds[i]?=none:=by simpa using e
    exact⟨vs,dG.of q,by rw[<-r.length];exact List.getElem?_eq_none_iff.mp e'⟩
   .have e':(ds[i]?).map (λx=>D.tup [.int (i:Nat),x])=some d:=by simpa using e
    simp only[aX] at e';obtain⟨x,e2,rfl⟩:=e';obtain⟨v,e1,rv⟩:=r.get e2;refine⟨⟨vs,v,dG.of q,e1⟩,λx H' y=>?_⟩;obtain⟨p,v',rfl,hp,rfl,hy⟩:=y;have:=hy vs (dG.of q);rw[e1] at this;cases this;exact⟨lO hp,.tup (dR.of fJ) (.cons (.int _) (.cons (rv.mono (Same.ext (lO hp))) .nil))⟩
  |_=>simp only[hm];exact⟨λe=>(nomatch e),λd e=>(nomatch e)⟩
theorem zjM{P:Program}{tp:Pos}{e it:Addr}(hei:e≠it):
 uG P w K (.Tuple es kk tp) (Ite K l) [e,it] e (λi h=>(∃old,IsEnum h e it (i:Nat) old)/\h.IsListIter it l i) where
 mem:=fG
 obj:=λi h ⟨⟨old,h1⟩,⟨o,h2,h3,h4⟩⟩ b hb=>by
  rcases List.mem_cons.mp hb with rfl|hb
  .exact⟨_,h1,λv z=>by cases z⟩
  .rw[List.mem_singleton.mp hb];exact⟨o,h2,λv z=>by rw[h4] at z;cases z⟩
 keep:=λi h h' ⟨⟨old,h1⟩,h2⟩ k=>⟨⟨old,k e (by simp) _ h1⟩,h2.at λo x=>k it (by simp) o x⟩
 item:=by
  intro X hP hw hK hc i pins s σ H E I hf st hg;subst hP hw hK;obtain⟨⟨old,he⟩,hit⟩:=st;obtain⟨vs,v,hS,hv⟩:=hg;obtain⟨its,rv,pl,hz⟩:=I.list hS;obtain⟨u,hu,ru⟩:=rv.get hv;refine wpAny_pyNext_enum_item he hit pl.isList (by simpa using hu) hei λh' ho hit' hT hsz hk=>?_;refine⟨_,rfl,wpAny_letOwnedTupleGo_enum (s:={ s with heap:=h',toks:=s.toks+1 }) ho λh'' he' hs'=>?_⟩;have helt:e<s.heap.objs.size:=cG he;have hilt:it<s.heap.objs.size:=by obtain⟨_,x,_⟩:=hit;exact cG x
  have kp:∀c o,c∉[e,it]->s.heap.get? c=some o->h''.get? c=some o:=λc o hc q=>by have c1:c≠e:=λz=>hc (by simp[z]);have c2:c≠it:=λz=>hc (by simp[z]);exact(hs'.2 c c1).trans (hk c o c1 c2 q)
  have hTe:s.heap.objs.size≠e:=Nat.ne_of_gt helt;have I1:Inv X pins σ (upd H s.heap.objs.size (.tup [.int (i:Nat),v])) { s with heap:=h'',toks:=s.toks+1 } :=
   MZ.Inv.turnedT (t':=s.toks+1) (iU:=[.int i s.toks,u]) I kp hf ((hs'.2 _ hTe).trans hT) (.cons ⟨_,rfl⟩ (.cons ru .nil)) (by show 2<=sizeLine;decide)
  refine⟨.ref s.heap.objs.size,_,I1,rfl,⟨s.heap.objs.size,v,rfl,I.hok.fresh (bZ _),rfl,λvs' h=>by rw[I.list_inj h hS];exact hv⟩,⟨⟨_,by simpa using he'⟩,hit'.at λo y=>(hs'.2 it hei.symm).trans y⟩,λb hb=>?_⟩;have hlt:b<s.heap.objs.size:=by
   rcases List.mem_cons.mp hb with rfl|hb
   .exact helt
   .rw[List.mem_singleton.mp hb];exact hilt
  rw[cu (dz hlt)];exact(hf b hb).1
 done:=by
  intro X hP hw hK hc i pins s σ H E I hf st hg;subst hP hw hK;obtain⟨⟨old,he⟩,hit⟩:=st;obtain⟨vs,hS,hlen⟩:=hg;obtain⟨its,rv,pl,hz⟩:=I.list hS;refine wpAny_pyNext_enum_end (I.ok.hd hc) he hit pl.isList (by simp;rw[<-rv.length];exact hlen) λh' hx=>⟨rfl,?_⟩
  exact MZ.Inv.turnedN (t':=s.toks) (ch:=[e,it]) I (λc o hc q=>hx c o (λz=>hc (by simp[z])) q) hf
 self:=λ_ _ _ _ _ st h=>by obtain⟨⟨old,he⟩,_⟩:=st;exact wpAny_pyIter_enum he h
def zlt:bootBuiltins "enumerate" = some (.type "enumerate"):=by decide +kernel
section
variable {X:Cx}
noncomputable def o9(fe:EF):IF:=λσ S=>(fe σ S).bind λr=>match r.1 with
 |.ref n=>match r.2[n]? with
  |some (.lst _)=>some (.enm n,r.2)
  |_=>none
 |_=>none
theorem zp0{ts:List Expr}{tp:Pos}{fe:EF}(hg:Gl X "enumerate")(hm:X.mg "enumerate" = none)(ha:SE X e fe)(hst:starEach [e] X.env=[(false,eval e X.env)]):
 SI X (.Tuple ts kk tp) (.Call (.Name "enumerate" p) [e] [] pos) (o9 fe):=by
 intro pins s σ H R I h;obtain⟨σd,S,α,j,S',hv,hs,hf,k⟩:=h;unfold o9 at hf;simp only[bf] at hf;obtain⟨⟨d,S1⟩,e1,e2⟩:=hf;simp only at e2;split at e2
 .rename_i n;split at e2
  .rename_i xs q;cases e2;have hst':starEach (e::[]) X.env=(false,eval e X.env)::starEach [] X.env:=hst;refine wpAny_Call_Name_kw (sZ I hg hm zlt ?_ (by decide) (by decide));refine PyProof.Rows.callWith_type1 ?_ hst' rfl;rw[hst'];refine Calls.spliced_cons (bQ (ha pins s σ H (λv H1=>∃α1,aB X.K H1 α1 S'/\Ext X.K H α H1 α1/\Rep X.K H1 α1 (.ref n) v) I ⟨σd,S,α,.ref n,S',hv,hs,e1,λw H1 α1 s1 x1 r1=>⟨α1,s1,x1,r1⟩⟩) λu1 s1 ⟨v1,H1,I1,r1,α1,st1,x1,Nk⟩=>?_);refine Calls.spliced_nil ?_;cases Nk with
   |@ref _ l hl =>
    cases r1;obtain⟨ws,hw,rws⟩:=st1.obj _ _ _ q hl;obtain⟨its,rv,pl,hz⟩:=I1.list (dG.of (K:=X.K) hw);refine call_enumerate_list pl.isList λh' he hit hsz hk=>?_;have I2:Inv X pins σ H1 { s1 with heap:=h' }:=I1.kept (t':=s1.toks) hk;refine wpAny_pyIter_enum (s:={ s1 with heap:=h' }) he ?_;refine⟨_,_,_,_,H1,rfl,I2,zjM (K:=X.K) (l:=l) (e:=s1.heap.objs.size+1) (it:=s1.heap.objs.size) (Nat.succ_ne_self _),⟨⟨_,he⟩,hit⟩,λb hb=>?_,k _ _ _ st1 x1 (zoV hl)⟩;have hge:s1.heap.objs.size<=b:=by
     rcases List.mem_cons.mp hb with rfl|hb
     .omega
     .rw[List.mem_singleton.mp hb];exact bZ _
    exact I1.fpOk hge (I1.hok.fresh hge)
  .cases e2
 .cases e2
end
noncomputable def xG:GM
 |.ref n,[.int k],S=>match S[n]? with
  |some (.lst xs)=>(mK xs).bind λns=>if k∈ns then some (.int (ns.idxOf k:Nat),S) else none
  |_=>none
 |_,_,_=>none
theorem zhS{k:Int}{t:Tok}(hl:s.heap.IsList l vs.toArray)(hi:IntsAre vs ns)(hb:ns.length<=sizeLine)(hk:k∈ns)(h:Q (.int (ns.idxOf k:Nat) s.toks) { s with toks:=s.toks+1 }):
 wpAny (model prog w) A (call (.builtin "list.index") [.ref l,.int k t]) Q E s:=by
 obtain⟨⟨cls,dd,data,sl⟩,ho,hc,n,hd⟩:=id hl;simp only at hc hd;subst hc hd;have hlen:=hi.length;have hj:ns.idxOf k<ns.length:=List.idxOf_lt_length_iff.mpr hk;rw[sizeLine_eq] at hb;refine call_meets PySem.F.slot_list_index ⟨_,ho,rfl⟩ PySem.F.entry_list_index (PySem.F.args_list_index_2 _ _)
  (PySem.SeqAt.list_indexAt l vs.toArray n dd sl (.int k t) (isInt k) (ns.idxOf k) (by simpa[hlen] using hj) (by omega) ?_ ?_) ⟨ho,λy hy=>(eq_isInt k t hi y (by simpa using hy)).at _ _,h⟩
 .show isInt k vs[ns.idxOf k]=true;rw[isInt_at k hi _ (by omega) hj];simpa using List.getElem_idxOf hj
 .intro j hjs hlt;show isInt k vs[j]=false;rw[isInt_at k hi j (by simpa using hjs) (by omega)];exact ne_of_lt_idxOf hlt _
theorem zmn:su X "list.index" (vM X.K xG):=by
 intro pins s σ H v vs vv us Q I rv rs h;obtain⟨S,α,d,ds,z,S',hs,r,rr,hg,k⟩:=h;unfold xG at hg;split at hg
 .cases r with
  |ref ha =>
   split at hg
   .rename_i xs e;simp only[bf] at hg;obtain⟨ns,e1,e2⟩:=hg;split at e2
    .rename_i hk;cases e2;obtain⟨w,rfl,eY⟩:=rr.inv1;cases eY;cases rv;obtain⟨u,rfl,ru⟩:=rs.one;obtain⟨t,rfl⟩:=ru;obtain⟨ws,q,rws⟩:=hs.obj _ _ _ e ha;obtain⟨hz,its,n0,vL,hl,ho⟩:=I.lstM q;have hi:=yp rws vL e1;refine zhS (vs:=its) ⟨_,ho,rfl,n0,rfl⟩ hi (by rw[<-hi.length,<-hl];exact hz) hk ?_;exact⟨.int _,H,I.tok _,⟨_,rfl⟩,k.same hs (.int _)⟩
    .cases e2
   .cases hg
 .cases hg
section
variable {X:Cx}{e:Expr}{es:List Expr}{fa:AF}{x:Str}{apos cpos p:Pos}{j:Option String}
theorem zn5{t:Tok}(hg:Gl X x)(hm:X.mg x=some (.str y t))(hdb:(x==("__debug__" : Str))=false):SE X (.Name x p) (eC (.str y)):=by intro pins s σ H Q I h;obtain⟨σd,S,α,z,S',hv,hs,hf,k⟩:=h;cases hf;exact Io I hg hm ⟨.str y,H,I,⟨_,rfl⟩,k.same hs (.str _)⟩ hdb
end
structure Ctx where
 N:List Str
 names:List (Str×NameKind)
 sts:List Str
 fns:List (Str×Nat×GN)
 blt:List Str
 lf:Option (Str×Addr×GN):=none
 hof:List (Str×Str×(Addr->GN->GN)):=[]
 ext:Str->List Expr->Option EF:=λ_ _=>none
 kwx:Str->List Expr->List Keyword->Option EF:=λ_ _ _=>none
 gls:List (Str×Str):=[]
 flds:List (Str×Str):=[]
 mths:List (Str×Str×Nat×GN):=[]
 mks:List (Str×Nat×GN):=[]
noncomputable def FnAt(P:Program)(w:World)(K:FgA)(mg:Str->Option Value)(base:Heap)(k:Nat)(x:Str)(n:Nat)(φ:GN):Prop :=
 ∃f fd ps,mg x=some (.ref f)/\PySem.W.keepIn K (.ref f)=true/\Binds K fd ps []/\cW P w K mg base iu k f fd ps (sJ K n φ)
noncomputable def zb(q:Str)(ap:Pos):Arguments:={ posonlyargs:=[],args:=[{ arg:=q,annotation:=none,pos:=ap }],vararg:=none,kwonlyargs:=[],kw_defaults:=[],kwarg:=none,defaults:=[] }
def zoL{ap:Pos}(env:Env):defaultsOf (zb q ap) env=([],[]):=rfl
noncomputable def wW(c:Ctx)(X:Cx)(x q:Str)(G:Addr->GN->GN):Prop:=∃f fd p1 p2 k Pt ct,Du X Pt ct/\X.mg x=some (.ref f)/\PySem.W.keepIn X.K (.ref f)=true/\Binds X.K fd [p1,p2] []/\bI (k+2) X.A /\
 (∀(ap:Pos) (body:Expr) (scope:Scope) (pm cdv ctv:Value) (clos:List (Str×Addr)) (qual:Str) (u:Value),bindArgs (PySem.W.kla_fn "<lambda>" qual (zb q ap) body scope clos pm cdv ctv) ⟨[u],[]⟩=pure [(q,u)]) /\
 (∀base:Heap,Mod X.K X.mg base->(∀b o,X.base.get? b=some o->base.get? b=some o)->CQ X.prog X.w X.K X.mg base (k+1) f fd [p1,p2] G) /\
 ∀base:Heap,Mod X.K X.mg base->(∀b o,X.base.get? b=some o->base.get? b=some o)->∀y n ψ,c.fns.lookup y=some (n,ψ)->FnAt X.prog X.w X.K X.mg base k y n ψ
structure fH(c:Ctx)(X:Cx):Prop where
 N:X.N=c.N
 nd:c.N.Nodup
 names:X.env.scope.names=c.names
 kind:X.env.scope.kind = .function
 st:∀x∈c.sts,Loc X.env.scope x/\(X.fn x=true\/X.env.scope.names.lookup x=some .local)
 fns:∀x k φ,c.fns.lookup x=some (k,φ)->uy X x k φ
 blt:∀x∈c.blt,X.mg x=none
 calm:X.calm=true
 un:X.A.units+64<cLine
 lf:∀x a ψ,c.lf=some (x,a,ψ)->CK X a ψ
 hof:∀x q G,c.hof.lookup x=some (q,G)->wW c X x q G
 ext:∀x es f p pos,c.ext x es=some f->SE X (.Call (.Name x p) es [] pos) f
 kwx:∀x es ks f p pos,c.kwx x es ks=some f->SE X (.Call (.Name x p) es ks pos) f
 gls:∀x y,c.gls.lookup x=some y->∃t,X.mg x=some (.str y t)
 flds:∀f C,c.flds.lookup f=some C->G8 X C f
 mths:∀m C n φ,c.mths.lookup m=some (C,n,φ)->Hf X C m n φ
 mks:∀C n φ,c.mks.lookup C=some (n,φ)->ux X C n φ
noncomputable def jl:List Str->Str->Option Nat
 |[],_=>none
 |y::r,x=>if y=x then some 0 else(jl r x).map (·+1)
theorem nQ:∀{N:List Str} {x:Str} {i:Nat},jl N x=some i->N[i]?=some x
 |[],_,_,h=>by cases h
 |y::r,x,i,h=>by
  unfold jl at h;split at h
  .rename_i e;cases h;rw[e];rfl
  .simp only[aX] at h;obtain⟨j,h1,rfl⟩:=h;simpa using nQ h1
noncomputable def nu:Expr->Bool
 |.Starred _ _=>false
 |_=>true
theorem kj(h:nu e=true)(es:List Expr)(env:Env):starEach (e::es) env=(false,eval e env)::starEach es env:=by
 cases e with
 |Starred _ _=>cases h
 |_=>simp[starEach]
theorem vq(h:es.all nu=true)(pos:Pos)(env:Env):(backTo pos (starEach es env)).any (·.1)=false:=by
 induction es with
 |nil=>rfl
 |cons e r ih =>
  rw[m6,dj] at h;rw[kj h.1];show(false||(backTo pos (starEach r env)).any (·.1))=false;rw[ih h.2];rfl
theorem zlI(h:es.all nu=true)(pos:Pos)(env:Env):(backTo pos (starEach es env)).all (λx => !x.1)=true:=by
 induction es with
 |nil=>rfl
 |cons e r ih =>
  rw[m6,dj] at h;rw[kj h.1];show(!false&&(backTo pos (starEach r env)).all (λx => !x.1))=true;rw[ih h.2];rfl
noncomputable def Dw:Expr->Bool
 |.Slice _ _ _ _=>false
 |_=>true
def zjg(h:Dw b=true):Hh b:=by
 intro o i;cases b with
 |Slice _ _ _ _=>cases h
 |_=>rfl
noncomputable def Px:Expr->Bool
 |.Name _ _=>true
 |.Call _ _ _ _=>true
 |.Subscript _ _ _=>true
 |.Constant _ _ _=>true
 |.BinOp _ _ _ _=>true
 |.List _ _=>true
 |.Tuple _ _ _=>true
 |.Attribute _ _ _=>true
 |.ListComp _ _ _ _=>true
 |_=>false
theorem zkf{a:Expr}(h:Px a=true)(env:Env)(whole:Sem Value):isTrue a env whole=(do let v <-whole;standAt a.pos;holding [v] (truthy v)):=by
 cases a with
 |Name _ _=>rfl
 |Call _ _ _ _=>rfl
 |Subscript _ _ _=>rfl
 |Constant _ _ _=>rfl
 |BinOp _ _ _ _=>rfl
 |List _ _=>rfl
 |Tuple _ _ _=>rfl
 |Attribute _ _ _=>rfl
 |ListComp _ _ _ _=>rfl
 |_=>cases h
noncomputable def za:Expr->Bool
 |.Set _ _ _=>false
 |_=>true
def TQ(h:za e=true)(env:Env)(x:Value):foldedSetIterable e env x=pure x:=by
 cases e with
 |Set _ _ _=>cases h
 |_=>rfl
noncomputable def xK:Expr->Bool
 |.ListComp _ _ _ _=>false
 |.SetComp _ _ _ _=>false
 |.DictComp _ _ _ _ _=>false
 |_=>true
theorem yC(h:xK e=true)(t:Option Expr)(l:Nat)(env:Env):swapsWith e t l env=pure false:=by
 cases e with
 |ListComp _ _ _ _=>cases h
 |SetComp _ _ _ _=>cases h
 |DictComp _ _ _ _ _=>cases h
 |_=>rfl
noncomputable def G9:Expr->Bool
 |.Tuple _ _ _=>false
 |_=>true
noncomputable def vY:Expr->Bool
 |.Tuple _ _ _=>true
 |.List _ _=>true
 |_=>false
theorem zjm{t:Expr}(h:vY t=false)(e:Expr)(env:Env):swappedStores [t] e env=pure none:=by
 cases t with
 |Tuple _ _ _=>cases h
 |List _ _=>cases h
 |_=>rfl
theorem zjl(h:G9 e=true)(ts:List Expr)(k:Nat)(p:Pos)(env:Env):swappedStores [.Tuple ts k p] e env=pure none:=by
 cases e with
 |Tuple _ _ _=>cases h
 |_=>rfl
noncomputable def wK:List (Str×String):=[("int", "int"),("bool", "bool"),("str", "str"),("tuple", "tuple"),("list", "list")]
theorem zls{T:String}(h:wK.lookup x=some T):bootBuiltins x=some (.type T):=by have hm:=iy h;unfold wK at hm;simp only[List.mem_cons,nY,or_false,Prod.mk.injEq] at hm;rcases hm with⟨rfl,rfl⟩|⟨rfl,rfl⟩|⟨rfl,rfl⟩|⟨rfl,rfl⟩|⟨rfl,rfl⟩<;>decide +kernel
noncomputable def pY(x:Str):Bool:=(x==("__debug__" : Str))||(x==("__classdict__" : Str))||(x==("__name__" : Str))
def uL(h:pY x=false):(x==("__debug__" : Str))=false:=by unfold pY at h;rw[Bool.or_eq_false_iff,Bool.or_eq_false_iff] at h;exact h.1.1
def NP(h:pY x=false):(x==("__classdict__" : Str))=false:=by unfold pY at h;rw[Bool.or_eq_false_iff,Bool.or_eq_false_iff] at h;exact h.1.2
def vP(h:pY x=false):x≠("__name__" : Str):=by unfold pY at h;rw[Bool.or_eq_false_iff] at h;exact beq_eq_false_iff_ne.mp h.2
noncomputable def nmE(c:Ctx)(x:Str):Option EF:=if pY x=true then none else match c.names.lookup x with
 |some .local=>(jl c.N x).map aj
 |some .cell=>(jl c.N x).map aj
 |some .free=>(jl c.N x).map aj
 |some .globalImplicit=>if x∈c.blt then(wK.lookup x).map λT=>eC (.ty T) else(c.gls.lookup x).map λy=>eC (.str y)
 |_=>none
noncomputable def Ph:Const->Option EF
 |.int i=>some (eC (.int i))
 |.bool b=>some (eC (.bl b))
 |.none=>some (eC .non)
 |.str x=>some (eC (.str x))
 |_=>none
section
variable {c:Ctx}{X:Cx}
theorem zi8(ok:fH c X)(h:nmE c x=some f):SE X (.Name x pos) f:=by
 unfold nmE at h;split at h
 .cases h
 .rename_i ho;have ho':pY x=false:=by simpa using ho
  have loc:∀(v:Gu X.env.scope x),(jl c.N x).map aj=some f->SE X (.Name x pos) f:=λv e=>by simp only[aX] at e;obtain⟨i,e1,rfl⟩:=e;exact zp3 (by rw[ok.N];exact nQ e1) v (uL ho') (NP ho')
  split at h
  .rename_i e;exact loc (.inl (by rw[ok.names];exact e)) h
  .rename_i e;exact loc (.inr (.inl (by rw[ok.names];exact e))) h
  .rename_i e;exact loc (.inr (.inr (by rw[ok.names];exact e))) h
  .rename_i e;split at h
   .rename_i hb;simp only[aX] at h;obtain⟨T,e1,rfl⟩:=h;exact oY (zor (show X.env.scope.names.lookup x=_ by rw[ok.names];exact e) (ok.blt x hb) (zls e1) (v := .ty T) rfl (vP ho') (uL ho')) λ_ _ => .ty T
   .simp only[aX] at h;obtain⟨y,e1,rfl⟩:=h;obtain⟨t,ht⟩:=ok.gls x y e1;exact zn5 (show X.env.scope.names.lookup x=_ by rw[ok.names];exact e) ht (uL ho')
  .cases h
theorem zhv{k:Const}(h:Ph k=some f):SE X (.Constant k j pos) f:=by
 cases k with
 |int i=>cases h;exact YL
 |bool b=>cases h;exact Xb
 |none=>cases h;exact zp7
 |str x=>cases h;exact zp5
 |_=>cases h
end
noncomputable def Be(cn names:List (Str×NameKind)):List (Str×NameKind):=names.map fun(n,k)=>if(k==NameKind.free&&true&&cn.lookup n==some .cell) then(n,NameKind.cell) else(n,k)
noncomputable def sY(names:List (Str×NameKind)):List Str:=(names.filter λy=>(y.2 == .local||y.2 == .cell)&&y.1 != (".0" : Str)).map (·.1)
noncomputable def yZ(c:Ctx)(names:List (Str×NameKind)):List (Str×Nat):=names.filterMap λy=>if y.2==NameKind.free then(jl c.N y.1).map λi=>(y.1,i) else none
noncomputable def sW(c:Ctx)(names:List (Str×NameKind)):List Str:=sY names++(yZ c names).map (·.1)
noncomputable def xu(c:Ctx)(names:List (Str×NameKind)):List (Option Nat):=(sY names).map (λ_=>none)++(yZ c names).map λp=>some p.2
noncomputable def Dj(c:Ctx)(names:List (Str×NameKind)):Ctx:={ N:=sW c names,names:=Be c.names names,sts:=sY names,fns:=c.fns,blt:=c.blt,flds:=c.flds,mths:=c.mths,mks:=c.mks }
noncomputable def yW(c:Ctx)(scope:Scope):Bool:=decide (scope.kind = .function)&&scope.names.all (λy=>decide (scope.names.lookup y.1=some y.2)) &&
 scope.names.all (λy=>decide (y.2 = .free->(c.names.lookup y.1=some .cell\/c.names.lookup y.1=some .free)))&&decide (sW c scope.names).Nodup
section
variable {c:Ctx}{X:Cx}{scope:Scope}
theorem zmE{p:Str×Nat}(h:p∈yZ c names):(p.1,NameKind.free)∈names/\jl c.N p.1=some p.2:=by
 unfold yZ at h;obtain⟨y,hy,e⟩:=List.mem_filterMap.mp h;split at e
 .rename_i hk;simp only[aX] at e;obtain⟨i,e1,rfl⟩:=e;have:y.2=NameKind.free:=by simpa using hk
  refine⟨?_,e1⟩;rw[<-this];exact hy
 .cases e
theorem zot(h:x∈sY names):(x,NameKind.local)∈names\/(x,NameKind.cell)∈names:=by
 unfold sY at h;obtain⟨y,hy,rfl⟩:=List.mem_map.mp h;obtain⟨h1,h2⟩:=List.mem_filter.mp hy;rw[dj,nZ] at h2;obtain⟨y1,y2⟩:=y;rcases h2.1 with q|q
 .have:y2=NameKind.local:=by simpa using q
  subst this;exact .inl h1
 .have:y2=NameKind.cell:=by simpa using q
  subst this;exact .inr h1
theorem ZR(ok:fH c X)(h:yW c scope=true):qL X scope (sW c scope.names) (xu c scope.names):=by
 unfold yW at h;rw[dj,dj,dj] at h;obtain⟨⟨⟨h1,h2⟩,h3⟩,h4⟩:=h;rw[List.all_eq_true] at h2 h3;have u:∀y∈scope.names,scope.names.lookup y.1=some y.2:=λy hy=>of_decide_eq_true (h2 y hy);refine⟨of_decide_eq_true h1,u,λy hy e=>?_,by simp[xu,sW],λj i x e1 e2=>?_⟩
 .have:=of_decide_eq_true (h3 y hy) e;show X.env.scope.names.lookup y.1=_\/X.env.scope.names.lookup y.1=_;rw[ok.names];exact this
 .unfold sW at e1;unfold xu at e2;have hj:(sY scope.names).length<=j:=by
   refine Nat.le_of_not_lt λhlt=>?_;rw[mZ (by simpa using hlt),jg] at e2;cases q:(sY scope.names)[j]? with
   |none=>rw[q] at e2;cases e2
   |some z=>rw[q] at e2;cases e2
  rw[yS (by simpa using hj),jg,dJ] at e2;rw[yS hj,jg] at e1;cases q:(yZ c scope.names)[j - (sY scope.names).length]? with
  |none=>rw[q] at e2;cases e2
  |some p =>
   rw[q] at e1 e2;simp only[pN,Option.some.injEq] at e1 e2;obtain⟨m1,m2⟩:=zmE (List.mem_of_getElem? q);subst e1 e2;exact⟨by rw[ok.N];exact nQ m2,u _ m1⟩
theorem zmS(ok:fH c X)(h:yW c scope=true){Y:Cx}(hy:oK X scope (sW c scope.names) Y):fH (Dj c scope.names) Y:=by
 have h0:=h;unfold yW at h;rw[dj,dj,dj] at h;obtain⟨⟨⟨h1,h2⟩,h3⟩,h4⟩:=h;rw[List.all_eq_true] at h2;have u:∀y∈scope.names,scope.names.lookup y.1=some y.2:=λy hy=>of_decide_eq_true (h2 y hy);have hn:Y.env.scope.names=Be c.names scope.names:=by
  rw[hy.sc];show List.map _ scope.names=List.map _ scope.names;refine List.map_congr_left λy _=>?_;obtain⟨n,k⟩:=y;have e1:(X.env.scope.kind == .function)=true:=by rw[ok.kind];rfl
  have e2:X.env.kindOf n=c.names.lookup n:=by show X.env.scope.names.lookup n=_;rw[ok.names]
  simp only[e1,e2]
 refine⟨hy.N,of_decide_eq_true h4,hn,by rw[hy.sc];exact of_decide_eq_true h1,λx hx=>?_,λx k φ e=>?_,λx hx=>by rw[hy.mg];exact ok.blt x hx,hy.calm.trans ok.calm,by rw[hy.A];exact ok.un,λ_ _ _ h=>(nomatch h),λ_ _ _ h=>(nomatch h),λ_ _ _ _ _ h=>(nomatch h),λ_ _ _ _ _ _ h=>(nomatch h),λ_ _ h=>(nomatch h),λf C e=>?_,λm C n φ e=>?_,λC n φ e=>?_⟩
 .have lk:∀k,k ≠ .free->scope.names.lookup x=some k->Y.env.scope.names.lookup x=some k:=λk hk e=>by
   rw[hy.sc];show(List.map _ scope.names).lookup x=_;rw[show(List.map _ scope.names).lookup x=_ from K6,e];have hb:(k==NameKind.free)=false:=by simpa using hk
   show some (if(k==NameKind.free&&_&&_)=true then NameKind.cell else k)=some k;rw[hb];rfl
  rcases zot hx with m|m
  .have e:=u _ m;exact⟨.inl (lk _ (by decide) e),.inr (lk _ (by decide) e)⟩
  .have e:=u _ m;exact⟨.inr (lk _ (by decide) e),.inl (hy.fn x e)⟩
 .obtain⟨f,fd,ps,kk,m1,m2,m3,m4,m5⟩:=ok.fns x k φ e;refine⟨f,fd,ps,kk,by rw[hy.mg];exact m1,by rw[hy.K];exact m2,by rw[hy.K];exact m3,?_,by rw[hy.A];exact m5⟩;rw[hy.prog,hy.w,hy.K,hy.mg,hy.base];exact m4
 .obtain⟨h1,h2⟩:=ok.flds f C e;exact⟨by rw[hy.K];exact h1,by rw[hy.K];exact h2⟩
 .obtain⟨f,fd,ps,kk,m1,m2,m3,m4,m5⟩:=ok.mths m C n φ e;refine⟨f,fd,ps,kk,by rw[hy.K];exact m1,by rw[hy.K];exact m2,by rw[hy.K];exact m3,?_,by rw[hy.A];exact m5⟩;rw[hy.prog,hy.w,hy.K,hy.mg,hy.base];exact m4
 .obtain⟨f,fd,ps,kk,m1,m2,m3,m4,m5⟩:=ok.mks C n φ e;refine⟨f,fd,ps,kk,by rw[hy.K,hy.mg];exact m1,by rw[hy.K];exact m2,by rw[hy.K];exact m3,?_,by rw[hy.A];exact m5⟩;rw[hy.prog,hy.w,hy.K,hy.mg,hy.base];exact m4
end
noncomputable def Dr(c:Ctx):Expr->Option GF
 |.Name x _=>if x∈c.sts then(jl c.N x).map aM else none
 |_=>none
noncomputable def Ds(c:Ctx):List Expr->Option nU
 |[]=>some jK
 |e::r=>(Dr c e).bind λf=>(Ds c r).map λfr=>dH f fr
noncomputable def xr(c:Ctx):Expr->Option GF
 |.Name x p=>Dr c (.Name x p)
 |.Tuple es _ _=>(Ds c es).map λfr=>jm es.length fr
 |_=>none
section
variable {c:Ctx}{X:Cx}
theorem Vt(ok:fH c X){f:GF}(h:Dr c e=some f):SG X e f:=by
 cases e with
 |Name x p =>
  simp only[Dr] at h;split at h
  .rename_i hx;simp only[aX] at h;obtain⟨i,e1,rfl⟩:=h;obtain⟨h1,h2⟩:=ok.st x hx;exact zn0 (by rw[ok.N];exact ok.nd) (by rw[ok.N];exact nQ e1) h1 h2
  .cases h
 |_=>cases h
theorem Vu(ok:fH c X):∀{es:List Expr} {f:nU},Ds c es=some f->CG X es f/\(assignEach es X.env).length=es.length/\(assignEach es X.env).findIdx? (·.1)=none
 |[],f,h=>by cases h;exact⟨znZ,rfl,rfl⟩
 |e::r,f,h=>by
  unfold Ds at h;simp only[bf,aX] at h;obtain⟨f1,e1,fr,e2,rfl⟩:=h;obtain⟨i1,i2,i3⟩:=Vu ok e2;have ea:assignEach (e::r) X.env=(false,assign e X.env)::assignEach r X.env:=by
   cases e with
   |Name x p=>rfl
   |_=>cases e1
  refine⟨zlW (Vt ok e1) i1 (by rw[ea];rfl),by rw[ea,jf,jf,i2],?_⟩;rw[ea,List.findIdx?_cons,i3];rfl
theorem yD(ok:fH c X){f:GF}(h:xr c e=some f):SG X e f:=by
 cases e with
 |Name x p=>exact Vt ok h
 |Tuple es k p =>
  unfold xr at h;simp only[aX] at h;obtain⟨fr,e1,rfl⟩:=h;obtain⟨i1,i2,i3⟩:=Vu ok e1;exact zp2 ok.calm i1 i2 i3
 |_=>cases h
end
noncomputable def Pq:EF:=λ_ _=>none
def zl0:SE X e Pq:=λ_ _ _ _ _ _ h=>by obtain⟨_,_,_,_,_,_,_,hf,_⟩:=h;cases hf
section
variable (rE:Ctx->Expr->Option EF)(rT:Ctx->Expr->Option TF)
noncomputable def kY(c:Ctx):List Expr->Option AF
 |[]=>some aA
 |e::r=>if nu e=true then(rE c e).bind λf=>(kY c r).map λfr=>ak f fr else none
noncomputable def Dh(c:Ctx)(op:BoolOp):List Expr->Option EF
 |[]=>none
 |[a]=>rE c a
 |a::b::r=>(rE c a).bind λf=>(Dh c op (b::r)).map λg=>match op with
  |.And=>m7 f g
  |.Or=>qp f g
noncomputable def Di(c:Ctx)(op:BoolOp):List Expr->Option TF
 |[]=>none
 |[a]=>rT c a
 |a::b::r=>(rT c a).bind λf=>(Di c op (b::r)).map λg=>match op with
  |.And=>xq f g
  |.Or=>iM f g
noncomputable def Dl(c:Ctx):Option Expr->Option PF
 |none=>some kZ
 |some e=>(rE c e).map jR
noncomputable def wM:List (Str×String×GN):=[("len", "len",ji),("abs", "abs",sI),("min", "min",lM),("max", "max",jQ),("isinstance", "isinstance",uJ),("all", "all",pP),("any", "any",uI)]
noncomputable def wL:List (Str×String×GN):=[("tuple", "tuple",qN),("list", "list",qH)]
noncomputable def GZ(params:Arguments):Option (Str×Pos):=match params.args with
 |[]=>none
 |a::r=>match r with
  |_::_=>none
  |[]=>if params.posonlyargs.isEmpty=true/\params.vararg.isNone=true/\params.kwonlyargs.isEmpty=true/\params.kw_defaults.isEmpty=true/\params.kwarg.isNone=true/\params.defaults.isEmpty=true/\a.annotation.isNone=true then some (a.arg,a.pos) else none
noncomputable def xj(names:List (Str×NameKind)):List Str:=(names.filter λy=>y.2==NameKind.free).map (·.1)
noncomputable def rm(c:Ctx):List Str->Option (List Nat)
 |[]=>some []
 |y::r=>(jl c.N y).bind λi=>(rm c r).map λl=>i::l
noncomputable def BK(c:Ctx)(q:Str)(scope:Scope):Bool:=decide (scope.kind = .function) && !scope.isCoroutine && !scope.isGenerator&&decide (scope.names.lookup q=some .local)&&scope.names.all (λy=>decide (y.2 ≠ .cell)) &&
 scope.names.all (λy=>decide (scope.names.lookup y.1=some y.2))&&scope.names.all (λy=>decide (y.2 = .free->c.names.lookup y.1=some .cell))&&decide (q::xj scope.names).Nodup
noncomputable def GJ(c:Ctx)(x:Str)(es:List Expr):Option EF:=if pY x=true then none else
 if c.names.lookup x=some .globalImplicit/\es.all nu=true/\es≠[] then
  match c.fns.lookup x with
  |some (k,φ)=>(kY rE c es).map λfa=>eN (aR k φ) fa
  |none=>match c.mks.lookup x with
  |some (n,φ)=>(kY rE c es).map λfa=>pI x n φ fa
  |none=>if x∈c.blt then match wM.lookup x with
   |some (_,g)=>(kY rE c es).map λfa=>eN g fa
   |none=>match wL.lookup x with
    |some (_,g)=>(kY rE c es).map λfa=>eN g fa
    |none=>none
   else some Pq
 else none
noncomputable def GD(c:Ctx)(x:Str)(es:List Expr):Option EF:=match c.ext x es with
 |some f=>some f
 |none=>GJ rE c x es
noncomputable def isTup:Expr->Bool
 |.Tuple _ _ _=>true
 |_=>false
noncomputable def Cu(c:Ctx)(es:List Expr):Option IF:=match es with
 |[]=>none
 |e::r=>match r with
  |[]=>(rE c e).map o9
  |_::_=>none
noncomputable def GR(c:Ctx)(tg:Expr):Expr->Option IF
 |.Call (.Name x p) es [] pos=>if x = "zip" /\ c.names.lookup x=some .globalImplicit/\x∈c.blt/\es.all nu=true/\es≠[]/\isTup tg=true then(kY rE c es).map qz else if x = "enumerate" /\ c.names.lookup x=some .globalImplicit/\x∈c.blt/\es.all nu=true/\isTup tg=true then Cu rE c es else if x = "range" /\ c.names.lookup x=some .globalImplicit/\x∈c.blt/\es.all nu=true then
  match es with
  |[_]=>(kY rE c es).map gR
  |[_,_]=>(kY rE c es).map v8
  |_=>none
  else(rE c (.Call (.Name x p) es [] pos)).map eF
 |e=>(rE c e).map eF
noncomputable abbrev Dk(c:Ctx)(tg e:Expr):Option IF:=GR rE c tg e
noncomputable def v7(c:Ctx):List Expr->Option TF
 |[]=>some cY
 |[t]=>rT c t
 |_=>none
noncomputable def yX(c:Ctx)(elt:Expr)(g:Comprehension)(scope:Scope):Option EF :=
 if g.is_async=0/\yW c scope=true/\za g.iter=true then
  (Dk rE c g.target g.iter).bind λfi=>(xr (Dj c scope.names) g.target).bind λfg=>(v7 rT (Dj c scope.names) g.ifs).bind λft=>(rE (Dj c scope.names) elt).map λfe=>dg fi fg ft fe (xu c scope.names)
 else none
noncomputable def o5:List (Str×String×GM):=[("append", "list.append",uY),("extend", "list.extend",xJ),("pop", "list.pop",mW),("index", "list.index",xG)]
theorem zmp(hu:X.A.units+64<cLine){m:Str}{p:String×GM}(h:o5.lookup m=some p):Slot "list" m p.1/\typeOf (.builtin p.1)=pure (.type "method_descriptor")/\su X p.1 (vM X.K p.2):=by
 have hm:=iy h;unfold o5 at hm;simp only[List.mem_cons,nY,or_false,Prod.mk.injEq] at hm;rcases hm with⟨rfl,rfl⟩|⟨rfl,rfl⟩|⟨rfl,rfl⟩|⟨rfl,rfl⟩
 .exact⟨PySem.F.slot_list_append,PySem.F.type_list_append,zkw⟩
 .exact⟨PySem.F.slot_list_extend,PySem.F.type_list_extend,zkv⟩
 .exact⟨PySem.F.slot_list_pop,PySem.F.type_list_pop,YZ⟩
 .exact⟨PySem.F.slot_list_index,PySem.F.type_list_index,zmn⟩
noncomputable def GX(c:Ctx)(o:Expr)(m:Str)(apos:Pos)(es:List Expr)(cpos:Pos):Option EF :=
 if es.all nu=true/\es.length<20/\(apos.endLine==cpos.line)=true then
  match o with
  |.Name x p=>match c.mths.lookup m with
   |some (C,n,φ)=>match es with
    |[]=>(rE c (.Name x p)).map λfo=>mq C m n φ fo aA
    |e::r=>(rE c (.Name x p)).bind λfo=>(kY rE c (e::r)).map λfa=>mq C m n φ fo fa
   |none=>match o5.lookup m with
   |some (_,g)=>match es with
    |[]=>(rE c (.Name x p)).map λfo=>Cw g fo
    |e::r=>(rE c (.Name x p)).bind λfo=>(kY rE c (e::r)).map λfa=>eM g fo fa
   |none=>none
  |_=>none
 else none
noncomputable def GC(c:Ctx)(e:Expr)(f:Str):Option EF:=match e with
 |.Name x p=>match c.flds.lookup f with
  |some C=>(rE c (.Name x p)).map λfe=>gH C f fe
  |none=>none
 |_=>none
noncomputable def unE(c:Ctx)(op:UnaryOp)(a:Expr):Option EF:=match op with
 |.USub=>(rE c a).map (eU uK)
 |.Not=>(rE c a).map uH
 |_=>none
noncomputable def O1(c:Ctx)(a:Expr)(ops:List CmpOp)(bs:List Expr):Option EF:=match ops with
 |[]=>none
 |op::r=>match r with
  |_::_=>none
  |[]=>match bs with
   |[]=>none
   |b::q=>match q with
    |_::_=>none
    |[]=>if op ≠ .In/\op ≠ .NotIn then(rE c a).bind λfa=>(rE c b).map λfb=>eB (aW op) fa fb else none
noncomputable def Nh(c:Ctx)(a:Expr)(lo hi st:Option Expr):Option EF:=match st with
 |none=>(rE c a).bind λfa=>(Dl rE c lo).bind λfl=>(Dl rE c hi).map λfh=>jV fa fl fh
 |some _=>none
noncomputable def Az(c:Ctx)(a b:Expr):Option EF:=match b with
 |.Slice lo hi st _=>Nh rE c a lo hi st
 |_=>none
noncomputable def Ng(c:Ctx)(a b:Expr):Option EF:=if Dw b=true then(rE c a).bind λfa=>(rE c b).map λfb=>eB aJ fa fb else Az rE c a b
noncomputable def O2(c:Ctx)(f:Expr)(es:List Expr)(ks:List Keyword)(pos:Pos):Option EF:=match ks with
 |[]=>match f with
  |.Name x _=>GD rE c x es
  |.Attribute o m apos=>GX rE c o m apos es pos
  |_=>none
 |k::r=>match f with
  |.Name x _=>c.kwx x es (k::r)
  |_=>none
noncomputable def lcE(c:Ctx)(elt:Expr)(gs:List Comprehension)(scope:Scope):Option EF:=match gs with
 |[]=>none
 |g::r=>match r with
  |[]=>yX rE rT c elt g scope
  |_::_=>none
noncomputable def tX(c:Ctx)(e:Expr):Option EF:=match e with
 |.Name x _=>nmE c x
 |.Constant k _ _=>Ph k
 |.BinOp a op b _=>(rE c a).bind λfa=>(rE c b).map λfb=>eB (aP op) fa fb
 |.UnaryOp op a _=>unE rE c op a
 |.BoolOp op es _=>Dh rE c op es
 |.Compare a ops bs _=>O1 rE c a ops bs
 |.Tuple es _ _=>(kY rE c es).map (eN cD)
 |.List es _=>(kY rE c es).map (eN iB)
 |.Subscript a b _=>Ng rE c a b
 |.IfExp t a b _=>(rT c t).bind λft=>(rE c a).bind λfa=>(rE c b).map λfb=>uh ft fa fb
 |.Call f es ks pos=>O2 rE c f es ks pos
 |.Attribute e f _=>GC rE c e f
 |.ListComp elt gs scope _=>lcE rE rT c elt gs scope
 |_=>none
noncomputable def G4(c:Ctx):Expr->Option TF
 |.UnaryOp .Not a _=>(rT c a).map pW
 |.BoolOp op es _=>Di rT c op es
 |.Compare a [op] [b] _=>if op ≠ .In/\op ≠ .NotIn then(rE c a).bind λfa=>(rE c b).map λfb=>bG (eB (aW op) fa fb) else none
 |e=>if Px e=true then(rE c e).map ju else none
end
mutual
def cE:Nat->Ctx->Expr->Option EF
 |0,_,_=>none
 |n+1,c,e=>tX (cE n) (cT n) c e
def cT:Nat->Ctx->Expr->Option TF
 |0,_,_=>none
 |n+1,c,e=>G4 (cE n) (cT n) c e
end
def lU(rE:Ctx->Expr->Option EF):Prop:=∀c X e f,fH c X->rE c e=some f->SE X e f
def wV(rT:Ctx->Expr->Option TF):Prop:=∀c X e f,fH c X->rT c e=some f->ST X e f
section
variable {rE:Ctx->Expr->Option EF}{rT:Ctx->Expr->Option TF}{c:Ctx}{X:Cx}
theorem mL(hE:lU rE)(ok:fH c X):∀{es:List Expr} {f:AF},kY rE c es=some f->SA X es f/\es.all nu=true
 |[],f,h=>by cases h;exact⟨YG,rfl⟩
 |e::r,f,h=>by
  unfold kY at h;split at h
  .rename_i hn;simp only[bf,aX] at h;obtain⟨f1,e1,fr,e2,rfl⟩:=h;obtain⟨i1,i2⟩:=mL hE ok e2;exact⟨zn7 (hE c X e f1 ok e1) i1 (kj hn r X.env),by rw[m6,hn,i2];rfl⟩
  .cases h
theorem U7(hE:lU rE)(ok:fH c X){op:BoolOp}{pos:Pos}:∀{es:List Expr} {f:EF},Dh rE c op es=some f->SE X (.BoolOp op es pos) f
 |[],f,h=>by cases h
 |[a],f,h=>zl3 (hE c X a f ok h)
 |a::b::r,f,h=>by
  unfold Dh at h;simp only[bf,aX] at h;obtain⟨f1,e1,fr,e2,rfl⟩:=h;have i:=U7 hE ok (pos:=pos) e2;cases op with
  |And=>exact YH (hE c X a f1 ok e1) i
  |Or=>exact Xh (hE c X a f1 ok e1) i
theorem Vs(hT:wV rT)(ok:fH c X){op:BoolOp}{pos:Pos}:∀{es:List Expr} {f:TF},Di rT c op es=some f->SW X (.BoolOp op es pos) f
 |[],f,h=>by cases h
 |[a],f,h=>by
  cases op with
  |And=>exact znB (hT c X a f ok h)
  |Or=>exact zpJ (hT c X a f ok h)
 |a::b::r,f,h=>by
  unfold Di at h;simp only[bf,aX] at h;obtain⟨f1,e1,fr,e2,rfl⟩:=h;have i:=Vs hT ok (pos:=pos) e2;cases op with
  |And=>exact zpK (hT c X a f1 ok e1) i
  |Or=>exact Xk (hT c X a f1 ok e1) i
theorem Va(hE:lU rE)(ok:fH c X){e:Option Expr}{f:PF}(h:Dl rE c e=some f):Cz X e f:=by
 cases e with
 |none=>cases h;exact znO
 |some e =>
  unfold Dl at h;simp only[aX] at h;obtain⟨f1,e1,rfl⟩:=h;exact znL (hE c X e f1 ok e1)
theorem zlv{p:String×GN}(h:wM.lookup x=some p)(hc:X.calm=true):bootBuiltins x=some (.builtin p.1)/\gY X (.builtin p.1) (jB X.K p.2):=by
 have hm:=iy h;unfold wM at hm;simp only[List.mem_cons,nY,or_false,Prod.mk.injEq] at hm;rcases hm with⟨rfl,rfl⟩|⟨rfl,rfl⟩|⟨rfl,rfl⟩|⟨rfl,rfl⟩|⟨rfl,rfl⟩|⟨rfl,rfl⟩|⟨rfl,rfl⟩
 .exact⟨by decide +kernel,Xr⟩
 .exact⟨by decide +kernel,Xn⟩
 .exact⟨by decide +kernel,ZL hc⟩
 .exact⟨by decide +kernel,ZK hc⟩
 .exact⟨by decide +kernel,Xq⟩
 .exact⟨by decide +kernel,Xo hc⟩
 .exact⟨by decide +kernel,Xp hc⟩
theorem zlu{p:String×GN}(h:wL.lookup x=some p):bootBuiltins x=some (.type p.1)/\gY X (.type p.1) (jB X.K p.2):=by
 have hm:=iy h;unfold wL at hm;simp only[List.mem_cons,nY,or_false,Prod.mk.injEq] at hm;rcases hm with⟨rfl,rfl⟩|⟨rfl,rfl⟩
 .exact⟨by decide +kernel,zmW⟩
 .exact⟨by decide +kernel,ZM⟩
theorem zhw(hE:lU rE)(ok:fH c X)(h:GJ rE c x es=some f):SE X (.Call (.Name x p) es [] pos) f:=by
 unfold GJ at h;split at h
 .cases h
 .rename_i ho;have ho':pY x=false:=by simpa using ho
  split at h
  .rename_i hc;obtain⟨h1,h2,h3⟩:=hc;have hg:Gl X x:=by show X.env.scope.names.lookup x=_;rw[ok.names];exact h1
   cases es with
   |nil=>exact absurd rfl h3
   |cons e r =>
    rw[m6,dj] at h2;split at h
    .rename_i k φ e1;simp only[aX] at h;obtain⟨fa,e2,rfl⟩:=h;exact zn6 hg (ok.fns x k φ e1) (mL hE ok e2).1 (uL ho') (kj h2.1 r X.env) (vq h2.2 pos X.env)
    split at h
    .rename_i n φ e1;simp only[aX] at h;obtain⟨fa,e2,rfl⟩:=h;exact Xe (ok.mks x n φ e1) hg (mL hE ok e2).1 (uL ho') (kj h2.1 r X.env) (vq h2.2 pos X.env)
    .split at h
     .rename_i hb;split at h
      .rename_i q g e1;simp only[aX] at h;obtain⟨fa,e2,rfl⟩:=h;obtain⟨b1,b2⟩:=zlv e1 ok.calm;exact zl2 b2 hg (ok.blt x hb) b1 (mL hE ok e2).1 (vP ho') (uL ho') (kj h2.1 r X.env) (vq h2.2 pos X.env)
      .split at h
       .rename_i q g e1;simp only[aX] at h;obtain⟨fa,e2,rfl⟩:=h;obtain⟨b1,b2⟩:=zlu (X:=X) e1;exact zl1 b2 hg (ok.blt x hb) b1 (mL hE ok e2).1 (vP ho') (uL ho') (kj h2.1 r X.env) (vq h2.2 pos X.env)
       .cases h
     .cases h;exact zl0
  .cases h
theorem zjk{ap:Pos}(h:GZ params=some (q,ap)):params=zb q ap:=by
 obtain⟨a1,a2,a3,a4,a5,a6,a7⟩:=params;unfold GZ at h;simp only at h;split at h
 .cases h
 .rename_i a r;split at h
  .cases h
  .split at h
   .rename_i hc;obtain⟨h1,h2,h3,h4,h5,h6,h7⟩:=hc;cases h;obtain⟨b1,b2,b3⟩:=a;simp only[List.isEmpty_iff,Option.isNone_iff_eq_none] at h1 h2 h3 h4 h5 h6 h7;subst h1 h2 h3 h4 h5 h6 h7;rfl
   .cases h
theorem Ry{c:Ctx}:∀{cap:List Str} {src:List Nat},rm c cap=some src->cap.length=src.length/\∀(i:Nat) y,cap[i]?=some y->∃j,src[i]?=some j/\c.N[j]?=some y
 |[],src,h=>by cases h;exact⟨rfl,λi y e=>by simp at e⟩
 |y::r,src,h=>by
  unfold rm at h;simp only[bf,aX] at h;obtain⟨i0,e0,l,e1,rfl⟩:=h;obtain⟨h1,h2⟩:=Ry e1;refine⟨by simp[h1],λi z e=>?_⟩;cases i with
  |zero=>simp at e;subst e;exact⟨i0,rfl,nQ e0⟩
  |succ i=>simpa using h2 i z (by simpa using e)
theorem ZP(h:y∈xj names):(y,NameKind.free)∈names:=by
 unfold xj at h;obtain⟨z,hz,rfl⟩:=List.mem_map.mp h;obtain⟨h1,h2⟩:=List.mem_filter.mp hz;obtain⟨z1,z2⟩:=z;have:z2=NameKind.free:=by simpa using h2
 subst this;exact h1
theorem zja(hE:lU rE)(ok:fH c X)(h:GD rE c x es=some f):SE X (.Call (.Name x p) es [] pos) f:=by
 unfold GD at h;split at h
 .rename_i f' ef;cases h;exact ok.ext x es f p pos ef
 .exact zhw hE ok h
theorem zhu(hE:lU rE)(ok:fH c X){tg:Expr}{f:IF}(h:GR rE c tg e=some f):SI X tg e f:=by
 have dflt:∀{e:Expr},(rE c e).map eF=some f->SI X tg e f:=λ{e} q=>by simp only[aX] at q;obtain⟨f1,e1,rfl⟩:=q;exact ZX (hE c X e f1 ok e1)
 unfold GR at h;split at h
 .rename_i x p es pos;split at h
  .rename_i hc;obtain⟨rfl,h1,h2,h3,h4,h5⟩:=hc;have hg:Gl X "zip" := by show X.env.scope.names.lookup _=_;rw[ok.names];exact h1
   simp only[aX] at h;obtain⟨fa,e2,rfl⟩:=h;cases es with
   |nil=>exact absurd rfl h4
   |cons e r =>
    rw[m6,dj] at h3;cases tg with
    |Tuple ts kk tp=>exact Z0 hg (ok.blt _ h2) (mL hE ok e2).1 (kj h3.1 r X.env) (vq h3.2 pos X.env)
    |_=>cases h5
  split at h
  .rename_i hc;obtain⟨rfl,h1,h2,h3,h5⟩:=hc;have hg:Gl X "enumerate" := by show X.env.scope.names.lookup _=_;rw[ok.names];exact h1
   unfold Cu at h;cases es with
   |nil=>cases h
   |cons e r =>
    cases r with
    |cons _ _=>cases h
    |nil =>
     simp only[aX] at h;obtain⟨fe,e2,rfl⟩:=h;rw[m6,dj] at h3;cases tg with
     |Tuple ts kk tp=>exact zp0 hg (ok.blt _ h2) (hE c X _ fe ok e2) (by rw[kj h3.1];rfl)
     |_=>cases h5
  split at h
  .rename_i hc;obtain⟨rfl,h1,h2,h3⟩:=hc;have hg:Gl X "range" := by show X.env.scope.names.lookup _=_;rw[ok.names];exact h1
   split at h
   .rename_i a;simp only[aX] at h;obtain⟨fa,e2,rfl⟩:=h;rw[m6,dj] at h3;exact zj7 hg (ok.blt _ h2) (mL hE ok e2).1 (by rw[kj h3.1];rfl)
   .rename_i a b;simp only[aX] at h;obtain⟨fa,e2,rfl⟩:=h;rw[m6,m6,dj,dj] at h3;exact zj6 hg (ok.blt _ h2) (mL hE ok e2).1 (by rw[kj h3.1,kj h3.2.1];rfl) (by rw[kj h3.2.1];rfl)
   .cases h
  .exact dflt h
 .exact dflt h
def U9(hE:lU rE)(ok:fH c X){tg:Expr}{f:IF}(h:Dk rE c tg e=some f):SI X tg e f:=zhu hE ok h
theorem zj2(hT:wV rT)(ok:fH c X){ifs:List Expr}{f:TF}(h:v7 rT c ifs=some f):uq X ifs f:=by
 unfold v7 at h;split at h
 .cases h;exact znE
 .exact znD (hT c X _ f ok h)
 .cases h
theorem U8(hE:lU rE)(hT:wV rT)(ok:fH c X){elt:Expr}{g:Comprehension}(h:yX rE rT c elt g scope=some f):
 ∃fi fg ft fe,f=dg fi fg ft fe (xu c scope.names)/\g=⟨g.target,g.iter,g.ifs,0⟩/\qL X scope (sW c scope.names) (xu c scope.names)/\SI X g.target g.iter fi /\
  (∀Y,oK X scope (sW c scope.names) Y->SG Y g.target fg/\uq Y g.ifs ft/\SE Y elt fe)/\∀x,foldedSetIterable g.iter X.env x=pure x:=by
 unfold yX at h;split at h
 .rename_i hc;obtain⟨h1,h2,h3⟩:=hc;simp only[bf,aX] at h;obtain⟨fi,e1,fg,e2,ft,e3,fe,e4,rfl⟩:=h;refine⟨fi,fg,ft,fe,rfl,?_,ZR ok h2,U9 hE ok e1,λY hy=>?_,TQ h3 X.env⟩
  .obtain⟨a,b,d,z⟩:=g;have:z=0:=h1;subst this;rfl
  .have Nz:=zmS ok h2 hy;exact⟨yD Nz e2,zj2 hT Nz e3,hE _ Y elt fe Nz e4⟩
 .cases h
theorem Ql(h1:es.all nu=true)(h3:es.length<20):((backTo cpos (starEach es env)).all (λx => !x.1)&&(backToKw cpos (keywordEach [] env)).all (λx=>x.1.isSome)&&decide (es.length+([]:List Keyword).length+(if([]:List Keyword).isEmpty then 0 else 1)<30))=true:=by rw[zlI h1];show(true&&true&&_)=true;rw[dj];exact⟨rfl,decide_eq_true (by simp;omega)⟩
theorem zi9(hE:lU rE)(ok:fH c X){o:Expr}{m:Str}{apos:Pos}(h:GX rE c o m apos es cpos=some f):SE X (.Call (.Attribute o m apos) es [] cpos) f:=by
 unfold GX at h;split at h
 .rename_i hc;obtain⟨h1,h3,h4⟩:=hc;split at h
  .rename_i x p;split at h
   .rename_i C n φ e1;have R:=ok.mths m C n φ e1;cases es with
    |nil =>
     simp only[aX] at h;obtain⟨fo,e2,rfl⟩:=h;exact zn4 R (hE c X _ fo ok e2) rfl h4
    |cons e r =>
     have h1':=h1;rw[m6,dj] at h1;simp only[bf,aX] at h;obtain⟨fo,e2,fa,e3,rfl⟩:=h;exact zp9 R (hE c X _ fo ok e2) (mL hE ok e3).1 rfl (Ql h1' h3) h4 (kj h1.1 r X.env) (vq h1.2 cpos X.env)
   split at h
   .rename_i q g e1;obtain⟨m1,m2,m3⟩:=zmp ok.un e1;cases es with
    |nil =>
     simp only[aX] at h;obtain⟨fo,e2,rfl⟩:=h;exact YQ m1 m2 m3 (hE c X _ fo ok e2) rfl h4
    |cons e r =>
     have h1':=h1;rw[m6,dj] at h1;simp only[bf,aX] at h;obtain⟨fo,e2,fa,e3,rfl⟩:=h;exact Xf m1 m2 m3 (hE c X _ fo ok e2) (mL hE ok e3).1 rfl (Ql h1' h3) h4 (kj h1.1 r X.env) (vq h1.2 cpos X.env)
   .cases h
  .cases h
 .cases h
theorem zjb(hE:lU rE)(ok:fH c X){g:Str}(h:GC rE c e g=some f):SE X (.Attribute e g p) f:=by
 unfold GC at h;cases e with
 |Name x q =>
  simp only at h;split at h
  .rename_i C e0;obtain⟨fe,e1,rfl⟩:=aX.mp h;exact YK (ok.flds g C e0) (hE c X _ fe ok e1) rfl
  .cases h
 |_=>cases h
theorem zht(hE:lU rE)(hT:wV rT):lU (tX rE rT):=by
 intro c X e f ok h;cases e with
 |Name x p=>exact zi8 ok h
 |Constant k a b=>exact zhv h
 |BinOp a op b p =>
  obtain⟨fa,e1,h⟩:=bf.mp h;obtain⟨fb,e2,rfl⟩:=aX.mp h;exact Xg (hE c X _ fa ok e1) (hE c X _ fb ok e2)
 |UnaryOp op a p =>
  cases op with
  |USub =>
   obtain⟨fa,e1,rfl⟩:=aX.mp h;exact zp8 (hE c X _ fa ok e1)
  |Not =>
   obtain⟨fa,e1,rfl⟩:=aX.mp h;exact zp6 (hE c X _ fa ok e1)
  |_=>exact nomatch (show(none:Option EF)=some f from h)
 |BoolOp op es p=>exact U7 hE ok h
 |Compare a ops bs p =>
  cases ops with
  |nil=>exact nomatch (show(none:Option EF)=some f from h)
  |cons op r =>
   cases r with
   |cons _ _=>exact nomatch (show(none:Option EF)=some f from h)
   |nil =>
    cases bs with
    |nil=>exact nomatch (show(none:Option EF)=some f from h)
    |cons b q =>
     cases q with
     |cons _ _=>exact nomatch (show(none:Option EF)=some f from h)
     |nil =>
      change (if op ≠ .In/\op ≠ .NotIn then(rE c a).bind λfa=>(rE c b).map λfb=>eB (aW op) fa fb else none)=some f at h;by_cases hc:op ≠ .In/\op ≠ .NotIn
      .rw[if_pos hc] at h;obtain⟨fa,e1,h⟩:=bf.mp h;obtain⟨fb,e2,rfl⟩:=aX.mp h;exact YJ ok.un hc.1 hc.2 (hE c X _ fa ok e1) (hE c X _ fb ok e2)
      .rw[if_neg hc] at h;cases h
 |Tuple es a b =>
  obtain⟨fa,e1,rfl⟩:=aX.mp h;exact zp4 (mL hE ok e1).1
 |List es a =>
  obtain⟨fa,e1,rfl⟩:=aX.mp h;exact YM (mL hE ok e1).1
 |Subscript a b p =>
  change (if Dw b=true then(rE c a).bind λfa=>(rE c b).map λfb=>eB aJ fa fb else Az rE c a b)=some f at h;by_cases hp:Dw b=true
  .rw[if_pos hp] at h;obtain⟨fa,e1,h⟩:=bf.mp h;obtain⟨fb,e2,rfl⟩:=aX.mp h;exact Xd (zjg hp) (hE c X _ fa ok e1) (hE c X _ fb ok e2)
  .rw[if_neg hp] at h;cases b with
   |Slice lo hi st q =>
    cases st with
    |some _=>exact nomatch (show(none:Option EF)=some f from h)
    |none =>
     obtain⟨fa,e1,h⟩:=bf.mp h;obtain⟨fl,e2,h⟩:=bf.mp h;obtain⟨fh,e3,rfl⟩:=aX.mp h;exact zlZ (hE c X _ fa ok e1) (Va hE ok e2) (Va hE ok e3)
   |_=>exact nomatch (show(none:Option EF)=some f from h)
 |IfExp t a b p =>
  obtain⟨ft,e0,h⟩:=bf.mp h;obtain⟨fa,e1,h⟩:=bf.mp h;obtain⟨fb,e2,rfl⟩:=aX.mp h;exact Xc (hT c X _ ft ok e0) (hE c X _ fa ok e1) (hE c X _ fb ok e2)
 |Call g es ks pos =>
  cases ks with
  |cons k r =>
   cases g with
   |Name x p=>exact ok.kwx x es (k::r) f p pos h
   |_=>exact nomatch (show(none:Option EF)=some f from h)
  |nil =>
   cases g with
   |Name x p=>exact zja hE ok h
   |Attribute o m p=>exact zi9 hE ok h
   |_=>exact nomatch (show(none:Option EF)=some f from h)
 |ListComp elt gs scope p =>
  cases gs with
  |nil=>exact nomatch (show(none:Option EF)=some f from h)
  |cons g r =>
   cases r with
   |cons _ _=>exact nomatch (show(none:Option EF)=some f from h)
   |nil =>
    obtain⟨fi,fg,ft,fe,rfl,eg,Gs,hi,hY,hfs⟩:=U8 hE hT ok h;rw[eg];exact Pz ok.calm Gs hi hY hfs
 |Attribute e g p=>exact zjb hE ok h
 |_=>exact nomatch (show(none:Option EF)=some f from h)
theorem zhs(hE:lU rE)(hT:wV rT):wV (G4 rE rT):=by
 intro c X e f ok h;unfold G4 at h;split at h
 .simp only[aX] at h;obtain⟨fa,e1,rfl⟩:=h;exact zpM (hT c X _ fa ok e1)
 .exact PW.pt (Vs hT ok h)
 .split at h
  .rename_i hc;simp only[bf,aX] at h;obtain⟨fa,e1,fb,e2,rfl⟩:=h;exact zpN ok.un hc.1 hc.2 (hE c X _ fa ok e1) (hE c X _ fb ok e2)
  .cases h
 .split at h
  .rename_i hp;simp only[aX] at h;obtain⟨fa,e1,rfl⟩:=h;exact zpL (hE c X _ fa ok e1) (zkf hp X.env)
  .cases h
theorem oN:∀n,lU (cE n)/\wV (cT n)
 |0=>⟨λ_ _ _ _ _ h=>by simp[cE] at h,λ_ _ _ _ _ h=>by simp[cT] at h⟩
 |n+1=>by
  obtain⟨h1,h2⟩:=oN n;refine⟨λc X e f ok h=>?_,λc X e f ok h=>?_⟩
  .rw[cE] at h;exact zht h1 h2 c X e f ok h
  .rw[cT] at h;exact zhs h1 h2 c X e f ok h
end
noncomputable def Dy:SF:=λ_ _=>none
def zlL:SS X st Dy:=λ_ _ _ _ _ _ h=>by obtain⟨_,_,_,_,_,_,_,_,hf,_⟩:=h;cases hf
noncomputable def uo(c:Ctx)(x:Str)(e:Expr):Option SF:=match e with
 |.ListComp elt gs scope _=>match gs with
  |[]=>none
  |g::r=>match r with
   |_::_=>none
   |[]=>if x∈c.sts then(jl c.N x).bind λi=>(yX (cE 60) (cT 60) c elt g scope).map λf=>bA f (aM i) else none
 |_=>none
noncomputable def Cy(c:Ctx)(x:Str)(e:Expr):Option SF:=if x∈c.sts then(cE 60 c e).bind λfe=>(jl c.N x).map λi=>bA fe (aM i) else none
noncomputable def CZ(c:Ctx)(o:Expr)(f:Str)(e:Expr):Option SF:=match o with
 |.Name x p=>match c.flds.lookup f with
  |some C=>(cE 60 c e).bind λfe=>(cE 60 c (.Name x p)).map λfo=>oH C f fo fe
  |none=>none
 |_=>none
noncomputable def yV(c:Ctx)(tg e:Expr):Option SF:=(cE 60 c e).bind λfe=>(xr c tg).map λfg=>bA fe fg
noncomputable def G3(c:Ctx)(x y z:Str)(px py pz:Pos)(a b d:Expr):Bool:=decide (c.names.lookup x=some .local/\c.names.lookup y=some .local/\c.names.lookup z=some .local/\py.line=px.line/\pz.line=px.line/\x≠y/\x≠z/\y≠z /\
 uW a=false/\uW b=false/\uW d=false/\[a,b,d].all (foldedForSure 8)=false/\[a,b,d].all (constantsAlone 8)=false)
noncomputable def yU(c:Ctx)(ts:List Expr):Bool:=match ts with
 |[.Name x _,.Name y _,.Name z _]=>decide (¬(c.names.lookup x=some .local/\c.names.lookup y=some .local/\c.names.lookup z=some .local))
 |_=>false
theorem zmj{c:Ctx}(ok:fH c X){ts vs:List Expr}{k2:Nat}{p2:Pos}(h:yU c ts=true):swappedStores [.Tuple ts k p] (.Tuple vs k2 p2) X.env=pure none:=by
 unfold yU at h;split at h
 .have:=of_decide_eq_true h;rw[<-ok.names] at this;exact zi3 this
 .cases h
noncomputable def Pk(c:Ctx)(x y z:Str)(px py pz:Pos)(a b d:Expr):Option SF:=if G3 c x y z px py pz a b d=true then(kY (cE 60) c [a,b,d]).bind λfa=>(jl c.N x).bind λi=>(jl c.N y).bind λj=>(jl c.N z).map λk =>
 bA (eN cD fa) (jm 3 (dH (aM i) (dH (aM j) (dH (aM k) jK)))) else none
noncomputable def Dc(c:Ctx)(ts:List Expr)(e:Expr):Option SF:=match e with
 |.Tuple vs _ _=>match ts with
  |[.Name x px,.Name y py,.Name z pz]=>match vs with
   |[a,b,d]=>Pk c x y z px py pz a b d
   |_=>none
  |_=>none
 |_=>none
noncomputable def vZ:Expr->Bool
 |.ListComp _ _ _ _=>true
 |_=>false
noncomputable def wO(c:Ctx)(tg e:Expr):Option SF :=
 if xK e=true then
  if G9 e=true then match tg with
   |.Attribute o f _=>CZ c o f e
   |tg=>yV c tg e
  else match tg with
   |.Name x _=>Cy c x e
   |.Tuple ts k p=>if yU c ts=true then yV c (.Tuple ts k p) e else Dc c ts e
   |.Attribute o f _=>CZ c o f e
   |_=>none
 else match tg with
  |.Name x _=>uo c x e
  |.Tuple ts k p=>if vZ e=true then yV c (.Tuple ts k p) e else none
  |_=>none
noncomputable def ud(e:Expr):Bool:=match e with
 |.Constant k _ _=>match k with
  |.str _=>true
  |_=>false
 |_=>false
noncomputable def wD(c:Ctx)(e:Expr):Option SF:=if ud e=true then some aQ else if xK e=true then(cE 60 c e).map nj else none
mutual
def cS:Nat->Ctx->Stmt->Option SF
 |0,_,_=>none
 |n+1,c,st=>match st with
  |.Pass _=>some aQ
  |.Break _=>some Bb
  |.Continue _=>some oZ
  |.Expr e _=>wD c e
  |.Return o _=>match o with
   |none=>some tY
   |some e=>(cE 60 c e).map bJ
  |.Raise _ _ _=>some Dy
  |.Assign Ae e _=>match Ae with
   |[]=>none
   |tg::r=>match r with
    |[]=>wO c tg e
    |_::_=>none
  |.If t a b _=>(cT 60 c t).bind λft=>(jD n c a).bind λfa=>(jD n c b).map λfb=>c7 ft fa fb
  |.While t a o _=>match o with
   |[]=>(cT 60 c t).bind λft=>(jD n c a).map λfa=>lC ft fa
   |_::_=>none
  |.For tg it a o _=>match o with
   |[]=>if za it=true then(Dk (cE 60) c tg it).bind λfi=>(xr c tg).bind λfg=>(jD n c a).map λfa=>mz fi fg fa else none
   |_::_=>none
  |_=>none
def jD:Nat->Ctx->List Stmt->Option SF
 |0,_,_=>none
 |_+1,_,[]=>some aQ
 |n+1,c,st::r=>(cS n c st).bind λf=>(jD n c r).map λg=>aC f g
end
theorem zhx{c:Ctx}(ok:fH c X){f:SF}(h:uo c x e=some f):SS X (.Assign [.Name x px] e spos) f:=by
 have hE:=(oN 60).1;have hT:=(oN 60).2;cases e with
 |ListComp elt gs scope p=>cases gs with
  |nil=>exact nomatch (show(none:Option SF)=some f from h)
  |cons g r=>cases r with
   |cons _ _=>exact nomatch (show(none:Option SF)=some f from h)
   |nil =>
    change (if x∈c.sts then(jl c.N x).bind λi=>(yX (cE 60) (cT 60) c elt g scope).map λf=>bA f (aM i) else none)=some f at h;by_cases hx:x∈c.sts
    .rw[if_pos hx] at h;obtain⟨i,e0,h⟩:=bf.mp h;obtain⟨f1,e1,rfl⟩:=aX.mp h;obtain⟨fi,fg,ft,fe,rfl,eg,Gs,hi,hY,hfs⟩:=U8 hE hT ok e1;obtain⟨s1,s2⟩:=ok.st x hx;have nd:X.N.Nodup:=by rw[ok.N];exact ok.nd
     have sl:X.N[i]?=some x:=by rw[ok.N];exact nQ e0
     rw[eg];have key:swapsWith (.ListComp elt [⟨g.target,g.iter,g.ifs,0⟩] scope p) (some (.Name x px)) spos.line X.env=pure (X.env.blockKind==ScopeKind.function&&X.env.kindOf x==some NameKind.local&&px.line==p.line && !(scope.names.any λy=>y.1==x&&(y.2==NameKind.local||y.2==NameKind.cell))):=rfl;cases hb:(X.env.blockKind==ScopeKind.function&&X.env.kindOf x==some NameKind.local&&px.line==p.line && !(scope.names.any λy=>y.1==x&&(y.2==NameKind.local||y.2==NameKind.cell))) with
     |true =>
      rw[hb] at key;rw[dj,dj,dj] at hb;have hk:X.env.kindOf x=some .local:=by simpa using hb.1.1.2
      exact zlK nd sl hk key ok.calm Gs hi hY hfs
     |false =>
      rw[hb] at key;exact QD nd sl s1 (Pz ok.calm Gs hi hY hfs) key s2
    .rw[if_neg hx] at h;cases h
 |_=>exact nomatch (show(none:Option SF)=some f from h)
theorem zgO{c:Ctx}(ok:fH c X){ts:List Expr}{k0:Nat}{f:SF}(h:Dc c ts e=some f):SS X (.Assign [.Tuple ts k0 p] e spos) f:=by
 have hE:=(oN 60).1;unfold Dc at h;split at h
 .rename_i vs k1 p1;split at h
  .rename_i x px y py z pz;split at h
   .rename_i a b d;unfold Pk at h;by_cases hp:G3 c x y z px py pz a b d=true
    .rw[if_pos hp] at h;unfold G3 at hp;obtain⟨q1,q2,q3,q4,q5,q6,q7,q8,q9,q10,q11,q12,q13⟩:=of_decide_eq_true hp;obtain⟨fa,e0,h⟩:=bf.mp h;obtain⟨i,e1,h⟩:=bf.mp h;obtain⟨j,e2,h⟩:=bf.mp h;obtain⟨k,e3,rfl⟩:=aX.mp h;rw[<-ok.names] at q1 q2 q3;have apart:∀{x y:Str} {i j:Nat},x≠y->jl c.N x=some i->jl c.N y=some j->i≠j:=λhn a b q=>by subst q;have:=(nQ a).symm.trans (nQ b);cases this;exact hn rfl
     exact znI ok.calm (by rw[ok.N];exact ok.nd) (by rw[ok.N];exact nQ e1) (by rw[ok.N];exact nQ e2) (by rw[ok.N];exact nQ e3) (apart q6 e1 e2) (apart q7 e1 e3) (apart q8 e2 e3) q1 q2 q3 (mL hE ok e0).1
      (oW ok.kind q1 q2 q3 q4 q5 q6 q7 q8 q9 q10 q11 q12 q13)
    .rw[if_neg hp] at h;cases h
   .cases h
  .cases h
 .cases h
theorem Vr{c:Ctx}(ok:fH c X){o:Expr}{g:Str}{f:SF}(hc:xK e=true)(h:CZ c o g e=some f):SS X (.Assign [.Attribute o g p] e spos) f:=by
 have hE:=(oN 60).1;unfold CZ at h;cases o with
 |Name x q =>
  simp only at h;split at h
  .rename_i C e0;obtain⟨fe,e1,h⟩:=bf.mp h;obtain⟨fo,e2,rfl⟩:=aX.mp h;exact Z7 (ok.flds g C e0) (hE c X _ fo ok e2) (hE c X _ fe ok e1) (yC hc _ _ _)
  .cases h
 |_=>cases h
theorem zjc{c:Ctx}(ok:fH c X){tg:Expr}{f:SF}(h:wO c tg e=some f):SS X (.Assign [tg] e spos) f:=by
 have hE:=(oN 60).1;unfold wO at h;by_cases hc:xK e=true
 .rw[if_pos hc] at h;by_cases ht:G9 e=true
  .rw[if_pos ht] at h;cases tg with
   |Attribute o g p=>exact Vr ok hc h
   |Name _ _ =>
    obtain⟨fe,e1,h⟩:=bf.mp h;obtain⟨fg,e2,rfl⟩:=aX.mp h;exact DW (hE c X _ fe ok e1) (yD ok e2) (by unfold swapsWithSole;exact yC hc _ _ _) (zjm rfl _ _) rfl
   |Tuple _ _ _ =>
    obtain⟨fe,e1,h⟩:=bf.mp h;obtain⟨fg,e2,rfl⟩:=aX.mp h;exact DW (hE c X _ fe ok e1) (yD ok e2) (by unfold swapsWithSole;exact yC hc _ _ _) (zjl ht _ _ _ _) rfl
   |_ =>
    obtain⟨fe,e1,h⟩:=bf.mp h;obtain⟨fg,e2,h⟩:=aX.mp h;cases e2
  .rw[if_neg ht] at h;cases tg with
   |Name x px =>
    change (if x∈c.sts then(cE 60 c e).bind λfe=>(jl c.N x).map λi=>bA fe (aM i) else none)=some f at h;by_cases hx:x∈c.sts
    .rw[if_pos hx] at h;obtain⟨fe,e1,h⟩:=bf.mp h;obtain⟨i,e2,rfl⟩:=aX.mp h;obtain⟨s1,s2⟩:=ok.st x hx;exact QD (by rw[ok.N];exact ok.nd) (by rw[ok.N];exact nQ e2) s1 (hE c X _ fe ok e1) (yC hc _ _ _) s2
    .rw[if_neg hx] at h;cases h
   |Tuple ts k0 p =>
    change (if yU c ts=true then yV c (.Tuple ts k0 p) e else Dc c ts e)=some f at h;by_cases hp:yU c ts=true
    .rw[if_pos hp] at h;obtain⟨fe,e1,h⟩:=bf.mp h;obtain⟨fg,e2,rfl⟩:=aX.mp h;cases e with
     |Tuple vs k2 p2=>exact DW (hE c X _ fe ok e1) (yD ok e2) (by unfold swapsWithSole;exact yC hc _ _ _) (zmj ok hp) rfl
     |_=>exact absurd rfl ht
    .rw[if_neg hp] at h;exact zgO ok h
   |Attribute o g p=>exact Vr ok hc h
   |_=>exact nomatch (show(none:Option SF)=some f from h)
 .rw[if_neg hc] at h;cases tg with
  |Name x px=>exact zhx ok h
  |Tuple ts k0 p =>
   change (if vZ e=true then yV c (.Tuple ts k0 p) e else none)=some f at h;by_cases hl:vZ e=true
   .rw[if_pos hl] at h;obtain⟨fe,e1,h⟩:=bf.mp h;obtain⟨fg,e2,rfl⟩:=aX.mp h;cases e with
    |ListComp _ _ _ _=>exact DW (hE c X _ fe ok e1) (yD ok e2) rfl rfl rfl
    |_=>cases hl
   .rw[if_neg hl] at h;cases h
  |_=>exact nomatch (show(none:Option SF)=some f from h)
theorem zj3{c:Ctx}(ok:fH c X){f:SF}(h:wD c e=some f):SS X (.Expr e p) f:=by
 have hE:=(oN 60).1;unfold wD at h;by_cases hd:ud e=true
 .rw[if_pos hd] at h;cases h;cases e with
  |Constant k a b=>cases k with
   |str _=>exact Z6
   |_=>cases hd
  |_=>cases hd
 .rw[if_neg hd] at h;by_cases hc:xK e=true
  .rw[if_pos hc] at h;obtain⟨fe,e1,rfl⟩:=aX.mp h;exact znJ (hE c X _ fe ok e1) (yC hc _ _ _)
  .rw[if_neg hc] at h;cases h
theorem Fb:∀n c X,fH c X->PassesOwn (model X.prog X.w) X.A X.env X.xe->(∀st f,cS n c st=some f->SS X st f)/\∀sts f,jD n c sts=some f->uw X sts f
 |0,c,X,ok,hp=>⟨λ_ _ h=>by simp[cS] at h,λ_ _ h=>by simp[jD] at h⟩
 |n+1,c,X,ok,hp=>by
  obtain⟨ih1,ih2⟩:=Fb n c X ok hp;have hE:=(oN 60).1;have hT:=(oN 60).2;refine⟨λst f h=>?_,λsts f h=>?_⟩
  .unfold cS at h;cases st with
   |Pass _=>cases h;exact znH
   |Break _=>cases h;exact Z4
   |Continue _=>cases h;exact Z5
   |Expr e p=>exact zj3 ok h
   |Return o p=>cases o with
    |none=>cases h;exact znG
    |some e =>
     obtain⟨fe,e1,rfl⟩:=aX.mp h;exact zpO (hE c X _ fe ok e1)
   |Raise _ _ _=>cases h;exact zlL
   |Assign Ae e p=>cases Ae with
    |nil=>exact nomatch (show(none:Option SF)=some f from h)
    |cons tg r=>cases r with
     |nil=>exact zjc ok h
     |cons _ _=>exact nomatch (show(none:Option SF)=some f from h)
   |If t a b p =>
    obtain⟨ft,e0,h⟩:=bf.mp h;obtain⟨fa,e1,h⟩:=bf.mp h;obtain⟨fb,e2,rfl⟩:=aX.mp h;exact Xj (hT c X _ ft ok e0) (ih2 _ fa e1) (ih2 _ fb e2)
   |While t a o p=>cases o with
    |cons _ _=>exact nomatch (show(none:Option SF)=some f from h)
    |nil =>
     obtain⟨ft,e0,h⟩:=bf.mp h;obtain⟨fa,e1,rfl⟩:=aX.mp h;exact zlJ hp (hT c X _ ft ok e0) (ih2 _ fa e1)
   |For tg it a o p=>cases o with
    |cons _ _=>exact nomatch (show(none:Option SF)=some f from h)
    |nil =>
     change (if za it=true then(Dk (cE 60) c tg it).bind λfi=>(xr c tg).bind λfg=>(jD n c a).map λfa=>mz fi fg fa else none)=some f at h;by_cases hn:za it=true
     .rw[if_pos hn] at h;obtain⟨fi,e0,h⟩:=bf.mp h;obtain⟨fg,e1,h⟩:=bf.mp h;obtain⟨fa,e2,rfl⟩:=aX.mp h;exact Z8 hp ok.calm (U9 hE ok e0) (yD ok e1) (ih2 _ fa e2) (TQ hn X.env)
     .rw[if_neg hn] at h;cases h
   |_=>exact nomatch (show(none:Option SF)=some f from h)
  .cases sts with
   |nil=>rw[jD] at h;cases h;exact Z9
   |cons st r =>
    rw[jD] at h;simp only[bf,aX] at h;obtain⟨f1,e1,g1,e2,rfl⟩:=h;exact znK (ih1 _ f1 e1) (ih2 _ g1 e2)
def FnAt.mono{P:Program}{w:World}{K:FgA}{mg:Str->Option Value}{base:Heap}{j k:Nat}{x:Str}{n:Nat}{φ:GN}(h:FnAt P w K mg base j x n φ)(hjk:j<=k):FnAt P w K mg base k x n φ :=
 let ⟨f,fd,ps,a,b,c,d⟩:=h
 ⟨f,fd,ps,a,b,c,d.mono hjk⟩
noncomputable def gJ(names:List (Str×NameKind)):List Str:=(names.filter λy=>y.2 == .local||y.2 == .cell).map (·.1)
noncomputable def mkC(st:Stmt)(fns:List (Str×Nat×GN))(blt:List Str):Ctx:={ N:=gJ (bM st).names,names:=(bM st).names,sts:=gJ (bM st).names,fns:=fns,blt:=blt }
noncomputable def oM(N:List Str)(ds:List D):Sg:=ds.map some++List.replicate (N.length - ds.length) none
theorem J8{N:List Str}{vs:List V}(r:aH K H α ds vs):bH K H α (oM N ds) (start N vs):=by
 have hl:=r.length;refine⟨by simp[oM,L2.start,hl],λi d e=>?_⟩;have hi:i<ds.length:=by
  unfold oM at e;by_cases hi:i<ds.length
  .exact hi
  .rw[yS (by simpa using hi),List.getElem?_replicate] at e;split at e<;>cases e
 have ed:ds[i]?=some d:=by
  unfold oM at e;rw[mZ (by simpa using hi),jg] at e;cases q:ds[i]? with
  |none=>rw[q] at e;cases e
  |some z=>rw[q] at e;cases e;rfl
 obtain⟨v,h1,h2⟩:=r.get ed;refine⟨v,?_,h2⟩;unfold L2.start;rw[mZ (by rw[dJ,<-hl];exact hi),jg,h1];rfl
def uz(r:Option (Fl×Sg×So))(z:D)(S S':So):Prop:=∃fl σ' gF,r=some (fl,σ',gF)/\(fl = .rt z\/(fl = .nx/\z = .non))/\S'=gF.take S'.length/\S.length<=S'.length/\D.lo S'.length z=true/\∀o∈S',O.lo S'.length o=true
theorem zji(hu:∀y∈names,names.lookup y.1=some y.2)(h:x∈gJ names):names.lookup x=some .local\/names.lookup x=some .cell:=by
 unfold gJ at h;obtain⟨y,hy,rfl⟩:=List.mem_map.mp h;obtain⟨h1,h2⟩:=List.mem_filter.mp hy;rw[nZ] at h2;have e:=hu y h1;rcases h2 with q|q
 .exact .inl (by rw[e];congr 1;simpa using q)
 .exact .inr (by rw[e];congr 1;simpa using q)
noncomputable def Ay(K:FgA)(n:Nat):Sp:=λvs H Q _=>∃(a:Addr) (ns:List Int),vs=[.ref a]/\sy K H a (ns.map V.int)/\ns.length<=n/\∀H',Q (.bl true) H'
section
variable {P:Program}{w:World}{K:FgA}{mg:Str->Option Value}{base:Heap}
noncomputable def zf(K:FgA)(n:Nat)(Pt:Addr):Sp:=λvs H Q E=>(∃ps,H Pt=some (.tbl ps))/\Ay K n vs H Q E
end
end MX
end
section
namespace MX
open PySem L2
theorem Eu{nx:Nat->So->Option (Option D)}{g:GF}{t:TF}{fe:EF}{S:So}{xs:List D}(T:Sg->Prop)(p:D->Bool)(h:D->D)(hnx:∀i:Nat,nx i S=some xs[i]?)(hstep:∀d∈xs,∀τ,T τ->∃τ',g d τ S=some (τ',S)/\T τ'/\t τ' S=some (p d,S)/\(p d=true->fe τ' S=some (h d,S))):
 ∀(n i:Nat) (τ:Sg) (acc:List D),T τ->i+n=xs.length->jC nx g t fe n i τ S acc=some (acc++((xs.drop i).filter p).map h,S)
 |0,i,τ,acc,hT,hl=>by unfold jC;rw[hnx,jN (by omega),List.drop_of_length_le (by omega)];simp
 |n+1,i,τ,acc,hT,hl=>by
  have hi:i<xs.length:=by omega
  unfold jC;rw[hnx,gG hi,List.drop_eq_getElem_cons hi];obtain⟨τ',h1,h2,h3,h4⟩:=hstep xs[i] (List.getElem_mem hi) τ hT;simp only[h1,cg,h3];cases hp:p xs[i] with
  |false =>
   simp only[Bool.false_eq_true,if_false];rw[Eu T p h hnx hstep n (i+1) τ' acc h2 (by omega),List.filter_cons_of_neg (by simp[hp])]
  |true =>
   simp only[if_true,h4 hp,cg];rw[Eu T p h hnx hstep n (i+1) τ' _ h2 (by omega),List.filter_cons_of_pos hp];simp
theorem Es{nx:Nat->So->Option (Option D)}{g:GF}{f:SF}{xs:List D}(P:Nat->Sg->So->Prop)(hnx:∀(i:Nat) σ S,P i σ S->nx i S=some xs[i]?)(hstep:∀(i:Nat) d σ S,xs[i]?=some d->P i σ S->∃σ1 S1 fl σ2 S2,g d σ S=some (σ1,S1)/\f σ1 S1=some (fl,σ2,S2)/\(fl = .nx\/fl = .ct)/\P (i+1) σ2 S2):
 ∀(n i:Nat) (σ:Sg) (S:So),P i σ S->i+n=xs.length->∃σ' S',jG nx g f n i σ S=some (.nx,σ',S')/\P xs.length σ' S'
 |0,i,σ,S,hP,hl=>by
  unfold jG;rw[hnx i σ S hP,jN (by omega)];have:i=xs.length:=by omega
  subst this;exact⟨σ,S,rfl,hP⟩
 |n+1,i,σ,S,hP,hl=>by
  have hi:i<xs.length:=by omega
  unfold jG;rw[hnx i σ S hP,gG hi];obtain⟨σ1,S1,fl,σ2,S2,h1,h2,h3,h4⟩:=hstep i xs[i] σ S (gG hi) hP;obtain⟨σ',S',e1,e2⟩:=Es P hnx hstep n (i+1) σ2 S2 h4 (by omega);refine⟨σ',S',?_,e2⟩;simp only[h1,cg,h2];rcases h3 with rfl|rfl<;>exact e1
def Ui(ns:List Int):mK (ns.map D.int)=some ns:=by
 induction ns with
 |nil=>rfl
 |cons n r ih=>simp[mK,ih]
end MX
end
section
namespace MX
open PySem PySem.Spec PyProof.Rows L2
noncomputable def mQ(n:Nat)(ds:List D):Sg:=ds.map some++List.replicate (n - ds.length) none
open Classical in
noncomputable def fnOf(n:Nat)(fb:SF):GN:=λds S=>match fb (mQ n ds) S with
 |some (.rt z,_,gF)=>if gF.take S.length=S/\D.lo S.length z=true then some (z,S) else if S.length<=gF.length/\D.lo gF.length z=true/\WF gF then some (z,gF) else none
 |some (.nx,_,gF)=>if gF.take S.length=S then some (.non,S) else if S.length<=gF.length/\WF gF then some (.non,gF) else none
 |_=>none
theorem Fe{N:List Str}(hn:N.length=n){z:D}(hS:WF S)(h:fnOf n fb ds S=some (z,S')):uz (fb (oM N ds) S) z S S':=by
 have e0:oM N ds=mQ n ds:=by unfold oM mQ;rw[hn]
 rw[e0];unfold fnOf at h;split at h
 .rename_i z' σ' gF e;split at h
  .rename_i hc;cases h;exact⟨_,_,_,e,.inl rfl,hc.1.symm,bZ _,hc.2,hS⟩
  .split at h
   .rename_i hc;cases h;exact⟨_,_,_,e,.inl rfl,by simp,hc.1,hc.2.1,hc.2.2⟩
   .cases h
 .rename_i σ' gF e;split at h
  .rename_i hc;cases h;exact⟨_,_,_,e,.inr ⟨rfl,rfl⟩,hc.symm,bZ _,by simp[D.lo],hS⟩
  .split at h
   .rename_i hc;cases h;exact⟨_,_,_,e,.inr ⟨rfl,rfl⟩,by simp,hc.1,by simp[D.lo],hc.2⟩
   .cases h
 .cases h
theorem bK{z:D}(h:fb (mQ n ds) S=some (.rt z,σ',S'))(hS:S'.take S.length=S)(hz:D.lo S.length z=true):fnOf n fb ds S=some (z,S):=by unfold fnOf;rw[h];simp only;rw[if_pos ⟨hS,hz⟩]
theorem UJ(h:fb (mQ n ds) S=some (.nx,σ',S'))(hS:S'.take S.length=S):fnOf n fb ds S=some (.non,S):=by unfold fnOf;rw[h];simp only;rw[if_pos hS]
theorem zF{z:D}(h:fb (mQ n ds) S=some (.rt z,σ',S'))(hne:¬(S'.take S.length=S/\D.lo S.length z=true))(hl:S.length<=S'.length)(hz:D.lo S'.length z=true)(hw:WF S'):fnOf n fb ds S=some (z,S'):=by unfold fnOf;rw[h];simp only;rw[if_neg hne,if_pos ⟨hl,hz,hw⟩]
def eO(K:FgA)(x:Str)(st:Stmt):Prop:=∃f fd,PySem.W.nsIn K mainGlobals x=some (some (.ref f))/\nW K x x st f fd
def eO.mk'{f:Addr}{oc:Value}{od an:Option Addr}{osl:Array (Option Value)}{kV doc pm cdv ct:Value}(a:PySem.W.nsIn K mainGlobals x=some (some (.ref f)))(l:K.lookup f=some ⟨oc,od,.func (PySem.W.fnOf x x (mH st) (iC st) (bM st) .none kV doc pm an cdv ct),osl⟩)(c:PySem.W.codeIn K cdv x=true)(k:PySem.W.keepIn K (.ref f)=true):eO K x st:=⟨f,_,a,Qm l c k⟩
def b8(P:Program)(w:World)(K:FgA)(mg:Str->Option Value)(base:Heap)(k:Nat)(fns:List (Str×Nat×GN)):Prop:=∀y n ψ,fns.lookup y=some (n,ψ)->FnAt P w K mg base k y n ψ
section
variable {P:Program}{w:World}{K:FgA}{mg:Str->Option Value}{base h:Heap}
def b8.nil:b8 P w K mg base k []:=λ_ _ _ e=>by cases e
theorem b8.snoc{φ:GN}(hs:b8 P w K mg base k fns)(h:FnAt P w K mg base (k+1) x n φ):b8 P w K mg base (k+1) ((x,n,φ)::fns):=λy m ψ e=>by
 rw[jF] at e;split at e
 .rename_i q;cases e;have:y=x:=by simpa using q
  subst this;exact h
 .exact(hs y m ψ e).mono (Nat.le_succ _)
def pR(x:Str)(st:Stmt)(ps:List Str):Prop:=∀(kV doc pm:Value) (an:Option Addr) (cdv ct:Value) (us:List Value),us.length=ps.length->bindArgs (PySem.W.fnOf x x (mH st) (iC st) (bM st) .none kV doc pm an cdv ct) ⟨us,[]⟩=pure (ps.zip us)
def zuZ{p0:Str}(h:∀(kV doc pm:Value) (an:Option Addr) (cdv ct:Value) (u0:Value),bindArgs (PySem.W.fnOf x x (mH st) (iC st) (bM st) .none kV doc pm an cdv ct) ⟨[u0],[]⟩=pure ([p0].zip [u0])):pR x st [p0]:=λkV doc pm an cdv ct us hl=>match us,hl with
 |[u0],_=>h kV doc pm an cdv ct u0
def bind2{p0 p1:Str}(h:∀(kV doc pm:Value) (an:Option Addr) (cdv ct:Value) (u0 u1:Value),bindArgs (PySem.W.fnOf x x (mH st) (iC st) (bM st) .none kV doc pm an cdv ct) ⟨[u0,u1],[]⟩=pure ([p0,p1].zip [u0,u1])):pR x st [p0,p1]:=λkV doc pm an cdv ct us hl=>match us,hl with
 |[u0,u1],_=>h kV doc pm an cdv ct u0 u1
def bind3{p0 p1 p2:Str}(h:∀(kV doc pm:Value) (an:Option Addr) (cdv ct:Value) (u0 u1 u2:Value),bindArgs (PySem.W.fnOf x x (mH st) (iC st) (bM st) .none kV doc pm an cdv ct) ⟨[u0,u1,u2],[]⟩=pure ([p0,p1,p2].zip [u0,u1,u2])):pR x st [p0,p1,p2]:=λkV doc pm an cdv ct us hl=>match us,hl with
 |[u0,u1,u2],_=>h kV doc pm an cdv ct u0 u1 u2
def bind4{p0 p1 p2 p3:Str}(h:∀(kV doc pm:Value) (an:Option Addr) (cdv ct:Value) (u0 u1 u2 u3:Value),bindArgs (PySem.W.fnOf x x (mH st) (iC st) (bM st) .none kV doc pm an cdv ct) ⟨[u0,u1,u2,u3],[]⟩=pure ([p0,p1,p2,p3].zip [u0,u1,u2,u3])):pR x st [p0,p1,p2,p3]:=λkV doc pm an cdv ct us hl=>match us,hl with
 |[u0,u1,u2,u3],_=>h kV doc pm an cdv ct u0 u1 u2 u3
def xg(K:FgA)(x:Str)(st:Stmt)(c:Addr):Prop:=∃f fd,PySem.W.nsIn K mainGlobals x=some (some (.ref f))/\nW K x x st f fd/\fd.code = .ref c
def zmZ{blt:List Str}(KX:K.In h)(G:h.Ns mainGlobals mg)(hz:∀y∈blt,PySem.W.nsIn K mainGlobals y=some none):∀y∈blt,mg y=none:=λy hy=>PySem.W.mg_none_of KX G (hz y hy)
end
end MX
end
section
namespace MX
open PySem PySem.Spec PySem.W PyProof.Rows L2
section
variable {P:Program}{w:World}{K:FgA}{mg mb:Str->Option Value}
theorem zkM{fa:Addr}{s₁:Shared}{Pt:Addr}(KX:K.In s₁.heap)(hns:s₁.heap.Ns mainGlobals mg)(hb:s₁.heap.Ns builtinsNs mb)(hbb:∀x:Str,x ≠ "__name__" -> mb x=bootBuiltins x)(hlim:s₁.heap.NoLimit)(hg:s₁.gens=#[])(ha:s₁.heap.get? a=some { cls := .type "list",data := .seq vs.toArray })(hi:IntsAre vs ns)(hl:ns.length<=63)(hr:bI k callerA)(hP:s₁.heap.get? Pt=some (tabObj #[]))(hKP:K.lookup Pt=none)(C:CodeHd s₁.heap c Pt)(hbm:BM s₁.heap mg)(F:∀base:Heap,Mod K mg base->CodeHd base c Pt->BM base mg->cW P w K mg base iu k fa fd [x] (zf K 63 Pt))(hbind:∀(s:Shared) (u:Value),BindsTo s fd ⟨[u],[]⟩ [(x,u)]):
 codeAny (model P w) callerA (.call (.ref fa) ⟨[.ref a],[]⟩) (λr s'=>r = .ok (.ret (.bool true))/\OldK s₁.heap s'.heap/\s'.os=s₁.os/\AllBare s'.gens) s₁:=by
 have rv:=Ua hi;have lenV:=hi.length;have hPa:Pt≠a:=λz=>by rw[z,ha] at hP;cases hP
 have hl':ns.length<=sizeLine:=Nat.le_trans hl (by rw[sizeLine_eq];decide);have core:∀H:Hp,sy K H a (ns.map V.int)->gq P w H s₁.heap->H Pt=some (.tbl #[])->(∀b,b≠Pt->H b=none\/(b=a/\K.lookup a=none/\∃o xs,H b=some (.frz o (.lst xs)))) ->
  codeAny (model P w) callerA (.call (.ref fa) ⟨[.ref a],[]⟩) (λr s'=>r = .ok (.ret (.bool true))/\OldK s₁.heap s'.heap/\s'.os=s₁.os/\AllBare s'.gens) s₁:=by
  intro H hS hok hT hO;have ir:∀{b:Addr} {o:Obj},s₁.heap.get? b=some o->H b=none->(n6 s₁.heap H).get? b=some o:=λe n=>zmB e n;have none_of:∀{b:Addr} {o:Obj},s₁.heap.get? b=some o->o≠tabObj #[]->o≠{ cls := .type "list",data := .seq vs.toArray }->H b=none:=λ{b o} e n1 n2=>by
   by_cases hb:b=Pt
   .subst hb;rw[hP] at e;cases e;exact absurd rfl n1
   .rcases hO b hb with z|⟨z,_⟩
    .exact z
    .subst z;rw[ha] at e;cases e;exact absurd rfl n2
  have rH:∀{b:Addr} {o:Obj} {es:Array DictEntry} {ep:Nat},s₁.heap.get? b=some o->o.data = .dict es ep->H b=none:=λ{b o es ep} e d =>
   none_of e (λz=>by rw[z] at d;cases d) (λz=>by rw[z] at d;cases d)
  have N5:∀{b:Addr} {m:Str->Option Value},s₁.heap.Ns b m->(n6 s₁.heap H).Ns b m:=λ{b m} ⟨o,es,ep,e,d,r⟩=>⟨o,es,ep,ir e (rH e d),d,r⟩
  have hKb:K.In (n6 s₁.heap H):=λb o e=>ir (KX b o e) (by
   by_cases hb:b=Pt
   .subst hb;rw[hKP] at e;cases e
   .rcases hO b hb with z|⟨z,z2,_⟩
    .exact z
    .subst z;rw[z2] at e;cases e)
  have hM:Mod K mg (n6 s₁.heap H):=⟨hKb,N5 hns,⟨mb,N5 hb,hbb⟩,let ⟨mc,h1,h2⟩:=hlim;⟨mc,N5 h1,h2⟩⟩
  have e0:jE P w K mg (n6 s₁.heap H) callerA [] s₁ H:=⟨rfl,hM,λb o e=>zoM e,Nat.le_of_eq (zkW _ _),trivial,λb hb=>absurd (show b∈([]:List Addr) from hb) (by simp),hok,.of_eq hg⟩
  have hC:CodeHd (n6 s₁.heap H) c Pt:=by obtain⟨o,vs',file,tf,flags,tg,inF,text,tt,e,hc1,hc2,r⟩:=C;exact⟨o,vs',file,tf,flags,tg,inF,text,tt,ir e (none_of e (λz=>by rw[z] at hc1;cases hc1) (λz=>by rw[z] at hc1;exact absurd (Value.type.inj hc1) (by decide))),hc1,hc2,r⟩
  have hB:BM (n6 s₁.heap H) mg:=by obtain⟨bm,o,h1,h2,h3,h4,h5,h6⟩:=hbm;exact⟨bm,o,h1,h2,ir h3 (none_of h3 (λz=>by rw[z] at h4;cases h4) (λz=>by rw[z] at h4;exact absurd (Value.type.inj h4) (by decide))),h4,h5,h6⟩
  have hsp:zf K 63 Pt [.ref a] H (λv _=>v = .bl true) λ_ _ _=>False:=⟨⟨_,hT⟩,a,ns,rfl,hS,hl,λ_=>rfl⟩
  refine codeAny_mono ((F _ hM hC hB).run callerA [] s₁ H ⟨[.ref a],[]⟩ [.ref a] [.ref a] _ _ hr e0 (hbind s₁ (.ref a)) (.cons rfl .nil) hsp) λr s' h=>?_;cases r with
  |error e=>exact h.elim
  |ok fl =>
   cases fl with
   |next=>exact False.elim h
   |brk=>exact False.elim h
   |cont=>exact False.elim h
   |ret u =>
    obtain⟨v,H',os,bare,un,hok',r',q⟩:=h;have q':v = .bl true:=q;subst q';obtain rfl:u=Value.bool true:=r';have kept:∀b o,b≠Pt->s₁.heap.get? b=some o->s'.heap.get? b=some o:=λb o hb e=>by
     rcases hO b hb with z|⟨_,_,ob,xs,z⟩
     .exact un.keep b o e z (by intro z;exact absurd (show b∈([]:List Addr) from z) (by simp)) (by simp)
     .have z2:=un.frzs b ob _ z;obtain⟨e1,_⟩:=hok b _ z;obtain⟨e2,_⟩:=hok' b _ z2;rw[e] at e1;cases e1;exact e2
    obtain⟨more,hm⟩:=un.tbls Pt _ hT;obtain⟨em,_⟩:=hok' Pt _ hm;refine⟨rfl,⟨λb o e=>?_,λb o e=>?_⟩,os,bare⟩
    .by_cases hb:b=Pt
     .subst hb;rw[hP] at e;cases e;exact .inr (.inl ⟨(C.tab hP).isCodeTable,rfl,#[],more,rfl,em⟩)
     .exact .inl (kept b o hb e)
    .by_cases hb:b=Pt
     .subst hb;exact⟨_,em⟩
     .exact⟨o,kept b o hb e⟩
 have tV:∀H:Hp,bY P w H s₁.heap Pt (.tbl #[]):=λH=>⟨hP,trivial,λpos cv q=>by simp[codeAmong] at q⟩
 cases hk:K.lookup a with
 |some o =>
  have e:=KX a o hk;rw[ha] at e;cases e;refine core (λb=>if b=Pt then some (.tbl #[]) else none) (.inr ⟨_,vs.toArray,_,hk,rfl,rfl,rfl,by rw[dU,lenV];exact hl',by simpa using rv⟩) (λb u z=>?_) (if_pos rfl) (λb hb => .inl (if_neg hb));by_cases hb:b=Pt
  .have z':=(if_pos hb).symm.trans z;cases z';subst hb;exact tV _
  .have z':=(if_neg hb).symm.trans z;cases z'
 |none =>
  refine core (λb=>if b=Pt then some (.tbl #[]) else if b=a then some (.frz { cls := .type "list",data := .seq vs.toArray } (.lst (ns.map V.int))) else none) (.inl ⟨{ cls := .type "list",data := .seq vs.toArray },(if_neg (Ne.symm hPa)).trans (if_pos rfl)⟩) (λb u z=>?_) (if_pos rfl) (λb hb=>?_)
  .by_cases hb:b=Pt
   .have z':=(if_pos hb).symm.trans z;cases z';subst hb;exact tV _
   .have z1:=(if_neg hb).symm.trans z;by_cases hba:b=a
    .have z':=(if_pos hba).symm.trans z1;cases z';subst hba;exact⟨ha,by rw[dJ];exact hl',vs,_,rv,ha⟩
    .have z':=(if_neg hba).symm.trans z1;cases z'
  .by_cases hba:b=a
   .exact .inr ⟨hba,hk,_,_,(if_neg hb).trans (if_pos hba)⟩
   .exact .inl ((if_neg hb).trans (if_neg hba))
end
theorem Uy:∀(os:List Obj) (b a:Nat) (o:Obj),(qK os b).lookup a=some o->b<=a/\os[a - b]?=some o/\qI a o=true
 |[],_,_,_,e=>by cases e
 |o'::r,b,a,o,e=>by
  have low:(qK r (Nat.succ b)).lookup a=some o->b<=a/\(o'::r)[a - b]?=some o/\qI a o=true:=λe=>by
   obtain⟨h1,h2,h3⟩:=Uy r (Nat.succ b) a o e;refine⟨by omega,?_,h3⟩;have:a - b=(a - Nat.succ b)+1:=by omega
   rw[this,List.getElem?_cons_succ];exact h2
  unfold qK at e;cases q:qI b o' with
  |false=>rw[q] at e;exact low e
  |true =>
   rw[q] at e;simp only[cond_true,jF] at e;cases z:a==b with
   |false=>rw[z] at e;exact low e
   |true =>
    rw[z] at e;cases e;have z':a=b:=by simpa using z
    subst z';exact⟨bZ _,by rw[Nat.sub_self];rfl,q⟩
theorem zk2(h:Heap):(gW h).In h:=λa o e=>by obtain⟨_,h2,h3⟩:=Uy _ _ _ _ e;rw[Nat.sub_zero,Array.getElem?_toList] at h2;unfold Heap.get?;rw[h2];obtain⟨c,d,dt,sl⟩:=o;cases dt<;>first|rfl|(exact absurd h3 (by intro z;cases z))
def Ho(s:Stmt):dA s=mH s:=by cases s<;>rfl
def Hq(s:Stmt):dB s=iC s:=by cases s<;>rfl
def Hr(s:Stmt):dS s=bM s:=by cases s<;>rfl
theorem eO.of_seen(h:xM K x=some (dA st,dB st,dS st,true)):eO K x st:=by
 rw[Ho,Hq,Hr] at h;unfold xM at h;split at h
 .rename_i f a;split at h
  .rename_i oc od n q ps b sc g kV doc pm an cd ct bn osl l;simp only[Option.some.injEq,Prod.mk.injEq,dj,beq_iff_eq] at h;obtain⟨e1,e2,e3,e4,e5,e6,e7,e8,e9⟩:=h;have e6:=Nat.eq_of_beq_eq_true e6;have e7:=Nat.eq_of_beq_eq_true e7;subst e1 e2 e3 e4 e5 e6 e7;exact eO.mk' a l e8 e9
  .cases h
 .cases h
theorem zhD(D:eO K x st)(e:zj K h x=(some (tabObj #[]),true)):
 ∃c Pt:Addr,xg K x st c/\codeHdIn K c Pt=true/\K.lookup Pt=none/\h.get? Pt=some (tabObj #[]):=by
 obtain⟨f,fd,a,F⟩:=D;unfold zj at e;rw[a] at e;simp only at e;split at e
 .rename_i oc od F' osl l;split at e
  .rename_i c hc;split at e
   .rename_i c1 d1 vs s1 lc;split at e
    .rename_i Pt hv;simp only[Prod.mk.injEq,dj] at e;obtain⟨e1,e2,e3⟩:=e;refine⟨c,Pt,⟨f,fd,a,F,?_⟩,e2,?_,e1⟩
     .obtain⟨oc',od',kV,doc,pm,an,cdv,ct,osl',hfd,hl,_⟩:=F.ex;rw[l] at hl;cases hl;exact hc
     .cases q:K.lookup Pt with
      |none=>rfl
      |some o=>rw[q] at e3;cases e3
    .cases e
   .cases e
  .cases e
 .cases e
end MX
end
section
namespace MX
open PySem PySem.Spec PyProof.Rows L2
structure CE where
 flds:List (Str×Str):=[]
 mths:List (Str×Str×Nat×GN):=[]
 mks:List (Str×Nat×GN):=[]
 gls:List (Str×Str):=[]
noncomputable def CJ(P:Program)(w:World)(K:FgA)(mg:Str->Option Value)(base:Heap)(k:Nat)(C m:Str)(n:Nat)(φ:GN):Prop :=
 ∃f fd ps,jX K (cU K C)/\Meth K (cU K C) m f/\Binds K fd ps []/\cW P w K mg base iu k f fd ps (sJ K n φ)
noncomputable def O7(P:Program)(w:World)(K:FgA)(mg:Str->Option Value)(base:Heap)(k:Nat)(C:Str)(n:Nat)(φ:GN):Prop :=
 ∃f fd ps j,j+1<=k/\mg C=some (.ref (cU K C))/\Mk K (cU K C) f/\Binds K fd ps []/\cW P w K mg base iu j f fd ps (sJ K n φ)
structure fD(P:Program)(w:World)(K:FgA)(mg:Str->Option Value)(base:Heap)(k:Nat)(E:CE):Prop where
 flds:∀f C,E.flds.lookup f=some C->jX K (cU K C)/\d7 K (cU K C) f
 mths:∀m C n φ,E.mths.lookup m=some (C,n,φ)->CJ P w K mg base k C m n φ
 mks:∀C n φ,E.mks.lookup C=some (n,φ)->O7 P w K mg base k C n φ
 gls:∀x y,E.gls.lookup x=some y->∃t,mg x=some (.str y t)
section
variable {P:Program}{w:World}{K:FgA}{mg:Str->Option Value}{base h:Heap}
theorem fD.mono{j k:Nat}{E:CE}(e:fD P w K mg base j E)(hjk:j<=k):fD P w K mg base k E:=⟨e.flds,λm C n φ q=>by
 obtain⟨f,fd,ps,a,b,c,d⟩:=e.mths m C n φ q;exact⟨f,fd,ps,a,b,c,d.mono hjk⟩,λC n φ q=>by
 obtain⟨f,fd,ps,i,hi,a,b,c,d⟩:=e.mks C n φ q;exact⟨f,fd,ps,i,Nat.le_trans hi hjk,a,b,c,d⟩,e.gls⟩
noncomputable def n8(st:Stmt)(fns:List (Str×Nat×GN))(blt:List Str)(E:CE):Ctx:={ mkC st fns blt with flds:=E.flds,mths:=E.mths,mks:=E.mks,gls:=E.gls }
theorem Jv{CX:pM}{f:Addr}{blt:List Str}{E:CE}(S:nq (gJ (bM st).names) ps (bM st))(hu:(bM st).names.all (λy=>decide ((bM st).names.lookup y.1=some y.2))=true)(pB:b8 P w K mg base k fns)(fQ:∀y∈blt,mg y=none)(hE:fD P w K mg base k E){cdv:Value}{outer:List Env}{E':XK}(hr:bI k (A.deeper (envOfC qual (bM st) s.heap.objs.size f cdv))):
 fH (n8 st fns blt E) (pO CX P w K mg base (gJ (bM st).names) qual (bM st) f cdv A outer s H E')/\fH (n8 st fns blt E) (pO CX P w K mg base (gJ (bM st).names) qual (bM st) f cdv A outer s H E').nox:=by
 constructor
 all_goals
  refine⟨rfl,S.nd,rfl,S.kind,λy hy=>?_,λy n ψ q=>?_,fQ,rfl,hr.units,λ_ _ _ h=>(nomatch h),λ_ _ _ h=>(nomatch h),λ_ _ _ _ _ h=>(nomatch h),λ_ _ _ _ _ _ h=>(nomatch h),hE.gls,λg C q=>⟨(hE.flds g C q).1,(hE.flds g C q).2⟩,λy C n ψ q=>?_,λC n ψ q=>?_⟩
  .rw[List.all_eq_true] at hu;exact⟨zji (λz hz=>of_decide_eq_true (hu z hz)) hy,.inl rfl⟩
  .obtain⟨f',fd',ps',a,b,c,d⟩:=pB y n ψ q;exact⟨f',fd',ps',k,a,b,c,d,hr⟩
  .obtain⟨f',fd',ps',a,b,c,d⟩:=hE.mths y C n ψ q;exact⟨f',fd',ps',k,a,b,c,d,hr⟩
  .obtain⟨f',fd',ps',j,hj,a,b,c,d⟩:=hE.mks C n ψ q;exact⟨f',fd',ps',j,a,b,c,d,hr.mono hj⟩
theorem Jm{f:Addr}{blt:List Str}{E:CE}{φ:GN}(F:nW K x qual st f fd)(S:nq (gJ (bM st).names) ps (bM st))(hu:(bM st).names.all (λy=>decide ((bM st).names.lookup y.1=some y.2))=true)(pB:∀y n ψ,fns.lookup y=some (n,ψ)->FnAt P w K mg base k y n ψ)(fQ:∀y∈blt,mg y=none)(hE:fD P w K mg base k E)(hb:jD m (n8 st fns blt E) (iC st)=some fb)(hφ:∀ds S₀ z S',WF S₀->ds.length=ps.length->φ ds S₀=some (z,S')->uz (fb (oM (gJ (bM st).names) ds) S₀) z S₀ S'):
 cW P w K mg base iu (k+1) f fd ps (sJ K ps.length φ):=by
 refine F.ok S (λvs H Q E h=>h.1) (λcdv A outer s H vs Q E' hr h=>?_);obtain⟨hlen,S₀,α,ds,z,S',hs,r,e,kk⟩:=h;have ok:=(Jv (CX:=iu) (P:=P) (w:=w) (qual:=qual) (f:=f) (cdv:=cdv) (outer:=outer) (H:=H) (E':=E') S hu pB fQ hE hr).2;refine⟨Bg K fb,(Fb m _ _ ok PassesOwn.never).2 _ fb hb,?_⟩;obtain⟨fl,σ',gF,e1,e2,e3,e4,e5,e6⟩:=hφ ds S₀ z S' hs.wf (by rw[r.length];exact hlen) e;refine⟨_,S₀,α,fl,σ',gF,J8 r,hs,e1,λσ2 H2 α2 v2 s2 x2=>?_⟩;have s3:aB K H2 (α2.take S'.length) S':=by have:=s2.cut S'.length (by rw[<-e3];exact e6);rw[<-e3] at this;exact this
 have x3:Ext K H α H2 (α2.take S'.length):=⟨x2.tups,λn a q=>by
  have hn:n<S'.length:=by have:=(fu.mp q).1;rw[hs.len] at this;omega
  rw[List.getElem?_take_of_lt hn];exact x2.pre n a q,x2.insts⟩
 rcases e2 with rfl|⟨rfl,rfl⟩
 .exact λv rv=>kk v H2 _ s3 x3 (rv.cut _ e5)
 .exact kk .non H2 _ s3 x3 .non
def gQ(K:FgA)(C m:Str)(st:Stmt):Prop:=∃f fd,Meth K (cU K C) m f/\nW K m (C ++ "." ++ m) st f fd
def CV(C m:Str)(st:Stmt)(ps:List Str):Prop:=∀(kV doc pm:Value) (an:Option Addr) (cdv ct:Value) (us:List Value),us.length=ps.length->bindArgs (PySem.W.fnOf m (C ++ "." ++ m) (mH st) (iC st) (bM st) .none kV doc pm an cdv ct) ⟨us,[]⟩=pure (ps.zip us)
theorem zmH{blt:List Str}{E:CE}(hs:b8 P w K mg base k fns)(hE:fD P w K mg base k E)(KX:K.In h)(G:h.Ns mainGlobals mg)(fQ:∀y∈blt,mg y=none)(hD:eO K x st)(hb0:pR x st ps)(S:nq (gJ (bM st).names) ps (bM st))(hu:(bM st).names.all (λy=>decide ((bM st).names.lookup y.1=some y.2))=true)(hn:(gJ (bM st).names).length=n)(hb:jD m (n8 st fns blt E) (iC st)=some fb):b8 P w K mg base (k+1) ((x,ps.length,fnOf n fb)::fns):=by obtain⟨f,fd,a,F⟩:=hD;exact hs.snoc ⟨f,fd,ps,PySem.W.mg_of KX G a,F.kp,F.binds hb0,Jm F S hu hs fQ hE hb λds S₀ z S' hw _ e=>Fe hn hw e⟩
theorem Kg{C:Str}{blt:List Str}{E:CE}(hs:b8 P w K mg base k fns)(hE:fD P w K mg base k E)(hc:jX K (cU K C))(fQ:∀y∈blt,mg y=none)(hD:gQ K C x st)(hb0:CV C x st ps)(S:nq (gJ (bM st).names) ps (bM st))(hu:(bM st).names.all (λy=>decide ((bM st).names.lookup y.1=some y.2))=true)(hn:(gJ (bM st).names).length=n)(hb:jD m (n8 st fns blt E) (iC st)=some fb):fD P w K mg base (k+1) { E with mths:=(x,C,ps.length,fnOf n fb)::E.mths }:=by
 obtain⟨f,fd,a,F⟩:=hD;have e2:=hE.mono (Nat.le_succ k);refine⟨e2.flds,λy C' j ψ e=>?_,e2.mks,e2.gls⟩;have e:((x,C,ps.length,fnOf n fb)::E.mths).lookup y=some (C',j,ψ):=e;rw[jF] at e;split at e
 .rename_i q;cases e;have:y=x:=by simpa using q
  subst this;exact⟨f,fd,ps,hc,a,F.binds hb0,Jm F S hu hs fQ hE hb λds S₀ z S' hw _ e=>Fe hn hw e⟩
 .exact e2.mths y C' j ψ e
theorem RN{C:Str}{blt:List Str}{E:CE}(hs:b8 P w K mg base k fns)(hE:fD P w K mg base k E)(fQ:∀y∈blt,mg y=none)(hm:mg C=some (.ref (cU K C)))(hD:∃f fd,Mk K (cU K C) f/\nW K "__init__" (C ++ ".__init__") st f fd)(hb0:∀(kV doc pm:Value) (an:Option Addr) (cdv ct:Value) (us:List Value),us.length=ps.length->bindArgs (PySem.W.fnOf "__init__" (C ++ ".__init__") (mH st) (iC st) (bM st) .none kV doc pm an cdv ct) ⟨us,[]⟩=pure (ps.zip us))(S:nq (gJ (bM st).names) ps (bM st))(hu:(bM st).names.all (λy=>decide ((bM st).names.lookup y.1=some y.2))=true)(hn:(gJ (bM st).names).length=n)(hb:jD m (n8 st fns blt E) (iC st)=some fb):fD P w K mg base (k+2) { E with mks:=(C,ps.length,fnOf n fb)::E.mks }:=by
 obtain⟨f,fd,a,F⟩:=hD;have e2:=hE.mono (Nat.le_add_right k 2);refine⟨e2.flds,e2.mths,λy j ψ e=>?_,e2.gls⟩;have e:((C,ps.length,fnOf n fb)::E.mks).lookup y=some (j,ψ):=e;rw[jF] at e;split at e
 .rename_i q;cases e;have:y=C:=by simpa using q
  subst this;exact⟨f,fd,ps,k+1,bZ _,hm,a,F.binds hb0,Jm F S hu hs fQ hE hb λds S₀ z S' hw _ e=>Fe hn hw e⟩
 .exact e2.mks y j ψ e
def b8.mono{j k:Nat}{fns:List (Str×Nat×GN)}(hs:b8 P w K mg base j fns)(h:j<=k):b8 P w K mg base k fns:=λy n ψ e=>(hs y n ψ e).mono h
end
end MX
end
section
namespace MX
open PySem PySem.Spec PySem.W PyProof.Rows L2
noncomputable def BJ(c:Ctx)(q:Str)(names:List (Str×NameKind)):Ctx:={ N:=q::xj names,names:=names,sts:=[],fns:=[],blt:=[],flds:=c.flds }
noncomputable def Wr(m:Nat)(c:Ctx)(q0:Str)(e value:Expr):Option EF:=match value with
 |.Lambda params body scope _=>match GZ params with
  |none=>none
  |some (q,_)=>if q=q0/\BK c q scope=true then(cE m c e).bind λfe=>(rm c (xj scope.names)).bind λsrc=>(cE m (BJ c q scope.names) body).map λfb=>yM fe src fb else none
 |_=>none
noncomputable def Ni(m:Nat)(c:Ctx)(q0 x:Str)(es:List Expr)(ks:List Keyword):Option EF :=
 if x = "sorted" /\ c.names.lookup x=some .globalImplicit/\x∈c.blt then match es with
  |[]=>none
  |e::r=>match r with
   |_::_=>none
   |[]=>match ks with
    |[]=>none
    |k::kr=>match kr with
     |_::_=>none
     |[]=>if k.arg=some "key" /\ nu e=true then Wr m c q0 e k.value else none
 else none
section
variable {c:Ctx}{X:Cx}
theorem zlU{q0:Str}{ks:List Keyword}{Pt ct:Addr}(ok:fH c X)(L:Du X Pt ct)(hr:bI (k+3) X.A)(hbind:∀(ap:Pos) (body:Expr) (scope:Scope) (pm cdv ctv:Value) (clos:List (Str×Addr)) (qual:Str) (u:Value),bindArgs (kla_fn "<lambda>" qual (zb q0 ap) body scope clos pm cdv ctv) ⟨[u],[]⟩=pure [(q0,u)])(h:Ni m c q0 x es ks=some f):SE X (.Call (.Name x p) es ks pos) f:=by
 unfold Ni at h;split at h
 .rename_i hc;obtain⟨rfl,h1,h2⟩:=hc;cases es with
  |nil=>cases h
  |cons e r =>
   cases r with
   |cons _ _=>cases h
   |nil =>
    cases ks with
    |nil=>cases h
    |cons kw kr =>
     cases kr with
     |cons _ _=>cases h
     |nil =>
      simp only at h;split at h
      .rename_i hk;obtain⟨a,v,kp⟩:=kw;obtain⟨hk1,hk2⟩:=hk;simp only at hk1;subst hk1;unfold Wr at h;simp only at h;cases v with
       |Lambda params body scope bN =>
        simp only at h;split at h
        .cases h
        .rename_i q' ap eo;have eo:=zjk eo;split at h
         .rename_i hc;obtain⟨rfl,h3⟩:=hc;simp only[bf,aX] at h;obtain⟨fe,e1,src,e2,fb,e3,rfl⟩:=h;subst eo;unfold BK at h3;simp only[dj,lX,Bool.not_eq_true',List.all_eq_true] at h3;obtain⟨⟨⟨⟨⟨⟨⟨k1,k2⟩,k3⟩,k4⟩,k5⟩,k6⟩,k7⟩,k8⟩:=h3;obtain⟨s1,s2⟩:=Ry e2;refine Xi (q:=q') (cap:=xj scope.names) (k:=k) L ⟨k1,k2,k3,k4,k5⟩ k6 (λy hy=>ZP hy) (λy hy hf=>?_) (λi y hi=>?_) s1 (zoL _) (λpm cdv ctv clos qual u=>hbind ap body scope pm cdv ctv clos qual u) (λbase M a cdv clos qual A outer s H E hrm=>?_) hr ?_ (ok.blt _ h2) ((oN m).1 c X e fe ok e1) (by rw[kj hk2];rfl)
          .show X.env.scope.names.lookup y.1=_;rw[ok.names];exact k7 y hy hf
          .obtain⟨j,j1,j2⟩:=s2 i y hi;exact⟨j,j1,by rw[ok.N];exact j2⟩
          .exact(oN m).1 (BJ c q' scope.names) _ body fb ⟨rfl,k8,rfl,k1,λy hy=>(nomatch hy),λ_ _ _ h=>(nomatch h),λy hy=>(nomatch hy),rfl,hrm.units,λ_ _ _ h=>(nomatch h),λ_ _ _ h=>(nomatch h),λ_ _ _ _ _ h=>(nomatch h),λ_ _ _ _ _ _ h=>(nomatch h),λ_ _ h=>(nomatch h),λg C q=>⟨(ok.flds g C q).cls,(ok.flds g C q).no⟩,λ_ _ _ _ h=>(nomatch h),λ_ _ _ h=>(nomatch h)⟩ e3
          .show X.env.scope.names.lookup _=_;rw[ok.names];exact h1
         .cases h
       |_=>cases h
      .cases h
 .cases h
end
noncomputable def O.isT(x:Str):O->Bool
 |.tbl y=>decide (y=x)
 |_=>false
noncomputable def lJ(x:Str)(S:So):Bool:=S.any (O.isT x)
theorem zoZ(hs:aB K H α S)(h:lJ x S=true):∃ps,H (lu K x)=some (.tbl ps):=by
 unfold lJ at h;rw[List.any_eq_true] at h;obtain⟨o,ho,e⟩:=h;obtain⟨n,hn,rfl⟩:=List.mem_iff_getElem.mp ho;have hn':n<α.length:=by rw[hs.len];exact hn
 have ob:=hs.obj n S[n] α[n] (gG hn) (gG hn');cases q:S[n] with
 |tbl y =>
  rw[q] at e ob;have e:y=x:=of_decide_eq_true e;subst e;obtain⟨h0,ps,h1⟩:=ob;exact⟨ps,by rw[<-h0];exact h1⟩
 |_=>rw[q] at e;cases e
noncomputable def vU(m:Nat)(st:Stmt)(fns:List (Str×Nat×GN))(blt:List Str)(E:CE)(q0:Str):Ctx:={ n8 st fns blt E with kwx:=Ni m (n8 st fns blt E) q0 }
noncomputable def sX(x:Str)(n:Nat)(fb:SF):GN:=λds S=>if lJ x S=true then fnOf n fb ds S else none
section
variable {P:Program}{w:World}{K:FgA}{mg:Str->Option Value}{base h:Heap}
theorem zmG{q0:Str}{blt:List Str}{E:CE}(hs:b8 P w K mg base k fns)(hE:fD P w K mg base k E)(KX:K.In h)(G:h.Ns mainGlobals mg)(fQ:∀y∈blt,mg y=none)(hD:xg K x st c)(hC:CodeHd base c (lu K x))(hB:BM base mg)(hb0:pR x st ps)(S:nq (gJ (bM st).names) ps (bM st))(hu:(bM st).names.all (λy=>decide ((bM st).names.lookup y.1=some y.2))=true)(hbind:∀(ap:Pos) (body:Expr) (scope:Scope) (pm cdv ctv:Value) (clos:List (Str×Addr)) (qual:Str) (u:Value),bindArgs (kla_fn "<lambda>" qual (zb q0 ap) body scope clos pm cdv ctv) ⟨[u],[]⟩=pure [(q0,u)])(hn:(gJ (bM st).names).length=n)(hb:jD m (vU m st fns blt E q0) (iC st)=some fb):b8 P w K mg base (k+4) ((x,ps.length,sX x n fb)::fns):=by
 obtain⟨f,fd,a,F,hcode⟩:=hD;refine(hs.mono (Nat.le_add_right k 3)).snoc ⟨f,fd,ps,PySem.W.mg_of KX G a,F.kp,F.binds hb0,?_⟩;obtain⟨oc,od,kV,doc,pm,an,wJ,ct,osl,rfl,lk,Cd⟩:=F.ex;refine PN lk Cd S (λvs H Q E h=>h.1) (λA outer s H vs Q E' hr h=>?_);obtain⟨hlen,S₀,α,ds,z,S',hst,r,e,kk⟩:=h;unfold sX at e;split at e
 .rename_i hT;have ok0:=(Jv (CX:=iu) (P:=P) (w:=w) (K:=K) (mg:=mg) (base:=base) (qual:=x) (f:=f) (E':=E') (outer:=outer) (H:=H) (cdv:=wJ) S hu hs fQ hE (hr.mono (Nat.le_add_right k 3))).2;have L:Du (pO iu P w K mg base (gJ (bM st).names) x (bM st) f wJ A outer s H E').nox (lu K x) c:=⟨λ_=>rfl,zoZ hst hT,hcode,hC,hB⟩
  have ok:fH (vU m st fns blt E q0) (pO iu P w K mg base (gJ (bM st).names) x (bM st) f wJ A outer s H E').nox :=
   ⟨ok0.N,ok0.nd,ok0.names,ok0.kind,ok0.st,ok0.fns,ok0.blt,ok0.calm,ok0.un,ok0.lf,λ_ _ _ h=>(nomatch h),ok0.ext,λy es ks g p pos q=>zlU ok0 L hr hbind q,ok0.gls,ok0.flds,ok0.mths,ok0.mks⟩
  refine⟨Bg K fb,((Fb m _ _ ok PassesOwn.never).2 _ fb hb).nox,?_⟩;obtain⟨fl,σ',gF,e1,e2,e3,e4,e5,e6⟩:=Fe hn hst.wf e;refine⟨_,S₀,α,fl,σ',gF,J8 r,hst,e1,λσ2 H2 α2 v2 s2 x2=>?_⟩;have s3:aB K H2 (α2.take S'.length) S':=by have:=s2.cut S'.length (by rw[<-e3];exact e6);rw[<-e3] at this;exact this
  have x3:Ext K H α H2 (α2.take S'.length):=⟨x2.tups,λn a q=>by
   have hn:n<S'.length:=by have:=(fu.mp q).1;rw[hst.len] at this;omega
   rw[List.getElem?_take_of_lt hn];exact x2.pre n a q,x2.insts⟩
  rcases e2 with rfl|⟨rfl,rfl⟩
  .exact λv rv=>kk v H2 _ s3 x3 (rv.cut _ e5)
  .exact kk .non H2 _ s3 x3 .non
 .cases e
theorem zmF(hs:b8 P w K mg base k fns)(KX:K.In h)(G:h.Ns mainGlobals mg)(hD:eO K x st)(hb0:pR x st ps):b8 P w K mg base k ((x,ps.length,λ_ _=>none)::fns):=by
 obtain⟨f,fd,a,F⟩:=hD;intro y n ψ e;rw[jF] at e;split at e
 .rename_i q;cases e;have:y=x:=by simpa using q
  subst this;refine⟨f,fd,ps,PySem.W.mg_of KX G a,F.kp,F.binds hb0,⟨λvs H Q E h=>?_,λA outer s H args us vs Q E _ _ _ _ h=>?_⟩⟩
  .obtain⟨_,S,α,ds,z,S',_,_,e,_⟩:=h;cases e
  .obtain⟨_,S,α,ds,z,S',_,_,e,_⟩:=h;cases e
 .exact hs y n ψ e
theorem zkL{f:Addr}{p:Str}{blt:List Str}{E:CE}{Pt:Addr}(F:nW K x qual st f fd)(S:nq (gJ (bM st).names) [p] (bM st))(hu:(bM st).names.all (λy=>decide ((bM st).names.lookup y.1=some y.2))=true)(pB:b8 P w K mg base k fns)(fQ:∀y∈blt,mg y=none)(hE:fD P w K mg base k E)(hPt:Pt=lu K y)(hb:jD m (n8 st fns blt E) (iC st)=some fb)(hφ:∀ns:List Int,ns.length<=n->∃σ' gF,fb (oM (gJ (bM st).names) [.ref 0]) [.frz (ns.map D.int),.tbl y]=some (.rt (.bl true),σ',gF)):
 cW P w K mg base iu (k+1) f fd [p] (zf K n Pt):=by
 refine F.ok S (λvs H Q E h=>?_) (λcdv A outer s H vs Q E' hr h=>?_)
 .obtain⟨_,a,ns,rfl,_⟩:=h;rfl
 obtain⟨⟨ps,htab⟩,a,ns,rfl,hz,hl,kk⟩:=h;refine⟨Bg K fb,(Fb m _ _ (Jv (CX:=iu) S hu pB fQ hE hr).2 PassesOwn.never).2 _ fb hb,?_⟩;obtain⟨σ',gF,e⟩:=hφ ns hl;have hs:aB K H [a,Pt] [.frz (ns.map D.int),.tbl y]:=by
  refine⟨rfl,λi j o o' b h1 h2 w1 w2 _ _=>?_,λi o b h1 h2=>?_⟩
  .rcases i with _|_|i
   .cases h1;cases w1
   .rcases j with _|_|j
    .cases h2;cases w2
    .rfl
    .simp at h2
   .simp at h1
  .rcases i with _|_|i
   .cases h1;cases h2;exact⟨_,hz,TX ns⟩
   .cases h1;cases h2;exact⟨hPt,ps,htab⟩
   .simp at h1
 refine⟨_,_,[a,Pt],_,σ',gF,J8 (K:=K) (α:=[a,Pt]) (.cons (.ref rfl) .nil),hs,e,λσ2 H2 α2 v2 s2 x2 v rv=>?_⟩;cases rv;exact kk H2
end
end MX
end
end
section
namespace MX.P
open PySem L2 MX
noncomputable def Vm:SF:=aC (bJ (dg (eF (aj 0)) (aM 0) cY (eB aJ (aj 0) (aj 1)) [none,some 1])) aQ
noncomputable def Fp:GN:=fnOf 2 Vm
noncomputable def Vl:SF:=aC (bA (dg (gR (ak (eC (.int 3)) aA)) (aM 0) cY (eN lM (ak (eN (aR 2 Fp) (ak (aj 1) (ak (aj 0) aA))) aA)) [none,some 0]) (aM 1)) (aC (bA (dg (gR (ak (eC (.int 3)) aA)) (aM 0) cY (eN jQ (ak (eN (aR 2 Fp) (ak (aj 1) (ak (aj 0) aA))) aA)) [none,some 0]) (aM 2)) (aC (bJ (eN cD (ak (eN qN (ak (aj 1) aA)) (ak (eN qN (ak (aj 2) aA)) aA)))) aQ))
noncomputable def yt:GN:=fnOf 3 Vl
noncomputable def VN:SF:=aC (bJ (eN pP (ak (dg (qz (ak (aj 0) (ak (aj 1) aA))) (jm 2 (dH (aM 0) (dH (aM 1) jK))) cY (eB (aW .LtE) (aj 0) (aj 1)) [none,none]) aA))) aQ
noncomputable def K4:GN:=fnOf 2 VN
noncomputable def JZ:SF:=aC (c7 (bG (eB (aW .Eq) (jV (aj 0) kZ (jR (eC (.int 1)))) (eN cD (ak (eC (.str "box")) aA)))) (aC (bJ (m7 (eB (aW .Eq) (eN ji (ak (aj 0) aA)) (eC (.int 3))) (eN (aR 2 K4) (ak (eB aJ (aj 0) (eC (.int 1))) (ak (eB aJ (aj 0) (eC (.int 2))) aA))))) aQ) aQ) (aC (bJ (m7 (eB (aW .Eq) (jV (aj 0) kZ (jR (eC (.int 1)))) (eN cD (ak (eC (.str "triangle")) aA))) (eB (aW .Eq) (eN ji (ak (aj 0) aA)) (eC (.int 4))))) aQ)
noncomputable def yj:GN:=fnOf 1 JZ
noncomputable def V6:SF:=aC (c7 (pW (ju (eN (aR 1 yj) (ak (aj 0) aA)))) (aC Dy aQ) aQ) aQ
noncomputable def Ad:GN:=fnOf 1 V6
noncomputable def R7:SF:=aC (nj (eN (aR 1 Ad) (ak (aj 0) aA))) (aC (bJ (eN (aR 1 yt) (ak (eN qH (ak (jV (aj 0) (jR (eC (.int 1))) kZ) aA)) aA))) aQ)
noncomputable def vo:GN:=fnOf 1 R7
noncomputable def KC:SF:=aC (c7 (bG (eB (aW .Eq) (aj 0) (eN iB aA))) (aC (bJ (eB (aP .Mult) (aj 1) (eC (.int 7919)))) aQ) aQ) (aC (bJ (eB (aP .Add) (eB aJ (aj 0) (eB (aP .Mod) (aj 1) (eN ji (ak (aj 0) aA)))) (eB (aP .Mult) (eB (aP .FloorDiv) (aj 1) (eN ji (ak (aj 0) aA))) (eC (.int 104729))))) aQ)
noncomputable def oO:GN:=fnOf 2 KC
noncomputable def zdt:SF:=aC (bA (eB (aP .Mod) (eB (aP .Add) (eB (aP .Mult) (aj 0) (eC (.int 6364136223846793005))) (eB (aP .Mult) (eB (aP .Add) (aj 1) (eC (.int 1))) (eC (.int 1442695040888963407)))) (eC (.int 340282366920938463463374607431768211507))) (aM 2)) (aC (bJ (eB (aP .Mod) (eB (aP .Mult) (aj 2) (aj 2)) (eC (.int 340282366920938463463374607431768211297)))) aQ)
noncomputable def yr:GN:=fnOf 3 zdt
noncomputable def V8:SF:=aC (lC (bG (eB (aW .NotEq) (aj 1) (eC (.int 0)))) (aC (bA (eB (aP .Mod) (aj 0) (aj 1)) (aM 2)) (aC (bA (aj 1) (aM 0)) (aC (bA (aj 2) (aM 1)) aQ)))) (aC (bJ (eN sI (ak (aj 0) aA))) aQ)
noncomputable def Fz:GN:=fnOf 3 V8
noncomputable def VP:SF:=aC (bA (eN (aR 2 Fz) (ak (eB aJ (aj 0) (eC (.int 0))) (ak (eB aJ (aj 0) (eC (.int 1))) aA))) (aM 1)) (aC (bJ (eN cD (ak (eB (aP .FloorDiv) (eB aJ (aj 0) (eC (.int 0))) (aj 1)) (ak (eB (aP .FloorDiv) (eB aJ (aj 0) (eC (.int 1))) (aj 1)) aA)))) aQ)
noncomputable def tR:GN:=fnOf 2 VP
noncomputable def JM:SF:=aC (bJ (eB (aW .Lt) (eB (aP .Mult) (eB aJ (aj 0) (eC (.int 0))) (eB aJ (aj 1) (eC (.int 1)))) (eB (aP .Mult) (eB aJ (aj 1) (eC (.int 0))) (eB aJ (aj 0) (eC (.int 1)))))) aQ
noncomputable def p8:GN:=fnOf 2 JM
noncomputable def LK:SF:=aC (bJ (eN cD (ak (eB (aP .Sub) (eB aJ (aj 1) (eC (.int 0))) (eB aJ (aj 0) (eC (.int 0)))) (ak (eB (aP .Sub) (eB aJ (aj 1) (eC (.int 1))) (eB aJ (aj 0) (eC (.int 1)))) (ak (eB (aP .Sub) (eB aJ (aj 1) (eC (.int 2))) (eB aJ (aj 0) (eC (.int 2)))) aA))))) aQ
noncomputable def d8:GN:=fnOf 2 LK
noncomputable def Hj:SF:=aC (bJ (eB (aP .Add) (eB (aP .Add) (eB (aP .Mult) (eB aJ (aj 0) (eC (.int 0))) (eB aJ (aj 1) (eC (.int 0)))) (eB (aP .Mult) (eB aJ (aj 0) (eC (.int 1))) (eB aJ (aj 1) (eC (.int 1))))) (eB (aP .Mult) (eB aJ (aj 0) (eC (.int 2))) (eB aJ (aj 1) (eC (.int 2)))))) aQ
noncomputable def fO:GN:=fnOf 2 Hj
noncomputable def Ib:SF:=aC (bJ (eN cD (ak (eB (aP .Sub) (eB (aP .Mult) (eB aJ (aj 0) (eC (.int 1))) (eB aJ (aj 1) (eC (.int 2)))) (eB (aP .Mult) (eB aJ (aj 0) (eC (.int 2))) (eB aJ (aj 1) (eC (.int 1))))) (ak (eB (aP .Sub) (eB (aP .Mult) (eB aJ (aj 0) (eC (.int 2))) (eB aJ (aj 1) (eC (.int 0)))) (eB (aP .Mult) (eB aJ (aj 0) (eC (.int 0))) (eB aJ (aj 1) (eC (.int 2))))) (ak (eB (aP .Sub) (eB (aP .Mult) (eB aJ (aj 0) (eC (.int 0))) (eB aJ (aj 1) (eC (.int 1)))) (eB (aP .Mult) (eB aJ (aj 0) (eC (.int 1))) (eB aJ (aj 1) (eC (.int 0))))) aA))))) aQ
noncomputable def jz:GN:=fnOf 2 Ib
noncomputable def Ld:SF:=aC (c7 (bG (eB (aW .Gt) (aj 1) (eC (.int 0)))) (aC (bJ (eN cD (ak (eN cD (ak (eB (aP .Sub) (aj 2) (aj 0)) (ak (aj 1) aA))) (ak (eN cD (ak (eB (aP .Sub) (aj 3) (aj 0)) (ak (aj 1) aA))) aA)))) aQ) aQ) (aC (bJ (eN cD (ak (eN cD (ak (eB (aP .Sub) (aj 0) (aj 3)) (ak (eU uK (aj 1)) aA))) (ak (eN cD (ak (eB (aP .Sub) (aj 0) (aj 2)) (ak (eU uK (aj 1)) aA))) aA)))) aQ)
noncomputable def Lg:GN:=fnOf 4 Ld
noncomputable def KJ:SF:=bA (eN cD (ak (eC (.int 0)) (ak (eC (.int 1)) aA))) (aM 2)
noncomputable def KN:SF:=bA (eC .non) (aM 3)
noncomputable def zZ:SF:=c7 (bG (eB (aW .Eq) (aj 5) (eC (.int 0)))) (aC (c7 (iM (bG (eB (aW .Lt) (aj 4) (aj 6))) (bG (eB (aW .Gt) (aj 4) (aj 7)))) (aC (bJ (eC .non)) aQ) aQ) (aC oZ aQ)) aQ
noncomputable def Lr:SF:=bA (eN (aR 4 Lg) (ak (aj 4) (ak (aj 5) (ak (aj 6) (ak (aj 7) aA))))) (aM 8)
noncomputable def Ls:SF:=c7 (ju (eN (aR 2 p8) (ak (aj 2) (ak (eB aJ (aj 8) (eC (.int 0))) aA)))) (aC (bA (eB aJ (aj 8) (eC (.int 0))) (aM 2)) aQ) aQ
noncomputable def Lw:SF:=c7 (iM (bG (eB (aW .Is) (aj 3) (eC .non))) (ju (eN (aR 2 p8) (ak (eB aJ (aj 8) (eC (.int 1))) (ak (aj 3) aA))))) (aC (bA (eB aJ (aj 8) (eC (.int 1))) (aM 3)) aQ) aQ
noncomputable def qe:SF:=aC zZ (aC Lr (aC Ls (aC Lw aQ)))
noncomputable def KQ:SF:=mz (qz (ak (eB aJ (aj 0) (eC (.int 0))) (ak (eB aJ (aj 0) (eC (.int 1))) (ak (eB aJ (aj 1) (eC (.int 0))) (ak (eB aJ (aj 1) (eC (.int 1))) aA))))) (jm 4 (dH (aM 4) (dH (aM 5) (dH (aM 6) (dH (aM 7) jK))))) qe
noncomputable def zV:SF:=c7 (ju (eN (aR 2 p8) (ak (aj 3) (ak (aj 2) aA)))) (aC (bJ (eC .non)) aQ) aQ
noncomputable def Ut:SF:=bJ (eN cD (ak (aj 2) (ak (aj 3) aA)))
noncomputable def Fi:SF:=aC KJ (aC KN (aC KQ (aC zV (aC Ut aQ))))
noncomputable def vm:GN:=fnOf 9 Fi
noncomputable def KH:SF:=aC (bA (eN (aR 2 vm) (ak (aj 0) (ak (aj 1) aA))) (aM 2)) (aC (c7 (bG (eB (aW .Is) (aj 2) (eC .non))) (aC (bJ (eC .non)) aQ) aQ) (aC (bJ (eN (aR 1 tR) (ak (eB aJ (aj 2) (eC (.int 0))) aA))) aQ))
noncomputable def KR:GN:=fnOf 3 KH
noncomputable def JX:SF:=aC (bJ (eN iB (ak (eN cD (ak (eB aJ (aj 0) (eC (.int 0))) (ak (eB aJ (aj 0) (eC (.int 1))) aA))) (ak (eN cD (ak (eB aJ (aj 0) (eC (.int 1))) (ak (eB aJ (aj 0) (eC (.int 2))) aA))) (ak (eN cD (ak (eB aJ (aj 0) (eC (.int 2))) (ak (eB aJ (aj 0) (eC (.int 0))) aA))) aA))))) aQ
noncomputable def vA:GN:=fnOf 1 JX
noncomputable def Ga:SF:=aC (bA (eB aJ (aj 0) (eC (.int 1))) (aM 3)) (aC (bA (eN (aR 2 d8) (ak (eB aJ (aj 0) (eC (.int 0))) (ak (aj 1) aA))) (aM 4)) (aC (c7 (bG (eB (aW .NotEq) (eN (aR 2 jz) (ak (aj 4) (ak (aj 3) aA))) (eN cD (ak (eC (.int 0)) (ak (eC (.int 0)) (ak (eC (.int 0)) aA)))))) (aC (bJ (eC .non)) aQ) aQ) (aC (bA (eN cD (ak (eN (aR 2 fO) (ak (aj 4) (ak (aj 3) aA))) (ak (eN (aR 2 fO) (ak (eN (aR 2 d8) (ak (eB aJ (aj 0) (eC (.int 0))) (ak (aj 2) aA))) (ak (aj 3) aA))) aA))) (aM 5)) (aC (c7 (bG (eB (aW .Lt) (eN jQ (ak (aj 5) aA)) (eC (.int 0)))) (aC (bJ (eC .non)) aQ) aQ) (aC (bJ (eN (aR 1 tR) (ak (eN cD (ak (eN jQ (ak (eN lM (ak (aj 5) aA)) (ak (eC (.int 0)) aA))) (ak (eN (aR 2 fO) (ak (aj 3) (ak (aj 3) aA))) aA))) aA))) aQ)))))
noncomputable def Lh:GN:=fnOf 6 Ga
noncomputable def vB:SF:=aC (bA (eB aJ (aj 0) (eC (.int 1))) (aM 3)) (aC (bA (eN (aR 2 d8) (ak (aj 1) (ak (aj 2) aA))) (aM 4)) (aC (bA (eN (aR 2 jz) (ak (aj 3) (ak (aj 4) aA))) (aM 5)) (aC (c7 (bG (eB (aW .Eq) (aj 5) (eN cD (ak (eC (.int 0)) (ak (eC (.int 0)) (ak (eC (.int 0)) aA)))))) (aC (bJ (eN (aR 3 Lh) (ak (aj 0) (ak (aj 1) (ak (aj 2) aA))))) aQ) aQ) (aC (bA (eN (aR 2 d8) (ak (eB aJ (aj 0) (eC (.int 0))) (ak (aj 1) aA))) (aM 6)) (aC (c7 (bG (eB (aW .NotEq) (eN (aR 2 fO) (ak (aj 6) (ak (aj 5) aA))) (eC (.int 0)))) (aC (bJ (eC .non)) aQ) aQ) (aC (bA (eN (aR 2 fO) (ak (aj 5) (ak (aj 5) aA))) (aM 7)) (aC (bA (eN (aR 2 fO) (ak (eN (aR 2 jz) (ak (aj 6) (ak (aj 4) aA))) (ak (aj 5) aA))) (aM 8)) (aC (bA (eN (aR 2 fO) (ak (eN (aR 2 jz) (ak (aj 6) (ak (aj 3) aA))) (ak (aj 5) aA))) (aM 9)) (aC (c7 (iM (bG (eB (aW .Lt) (aj 8) (eC (.int 0)))) (iM (bG (eB (aW .Lt) (aj 9) (eC (.int 0)))) (bG (eB (aW .Gt) (aj 9) (aj 7))))) (aC (bJ (eC .non)) aQ) aQ) (aC (bJ (eN (aR 1 tR) (ak (eN cD (ak (aj 8) (ak (aj 7) aA))) aA))) aQ))))))))))
noncomputable def Le:GN:=fnOf 10 vB
noncomputable def Vz:SF:=bA (eC .non) (aM 2)
noncomputable def Mt:SF:=bA (eN (aR 3 Le) (ak (aj 0) (ak (aj 3) (ak (aj 4) aA)))) (aM 5)
noncomputable def qU:SF:=c7 (xq (bG (eB (aW .IsNot) (aj 5) (eC .non))) (iM (bG (eB (aW .Is) (aj 2) (eC .non))) (ju (eN (aR 2 p8) (ak (aj 5) (ak (aj 2) aA)))))) (aC (bA (aj 5) (aM 2)) aQ) aQ
noncomputable def Mj:SF:=aC Mt (aC qU aQ)
noncomputable def Lb:SF:=mz (eF (eN (aR 1 vA) (ak (aj 1) aA))) (jm 2 (dH (aM 3) (dH (aM 4) jK))) Mj
noncomputable def VB:SF:=bJ (aj 2)
noncomputable def V0:SF:=aC Vz (aC Lb (aC VB aQ))
noncomputable def yw:GN:=fnOf 6 V0
noncomputable def Lj:SF:=aC (bA (dg (eF (aj 2)) (aM 0) cY (eN (aR 2 d8) (ak (aj 1) (ak (aj 0) aA))) [none,some 0]) (aM 3)) (aC (bA (dg (eF (eN (aR 1 vA) (ak (aj 3) aA))) (jm 2 (dH (aM 0) (dH (aM 1) jK))) cY (eN (aR 2 fO) (ak (aj 2) (ak (eN (aR 2 jz) (ak (aj 0) (ak (aj 1) aA))) aA))) [none,none,some 1]) (aM 4)) (aC (bJ (qp (eB (aW .GtE) (eN lM (ak (aj 4) aA)) (eC (.int 0))) (eB (aW .LtE) (eN jQ (ak (aj 4) aA)) (eC (.int 0))))) aQ))
noncomputable def qi:GN:=fnOf 5 Lj
noncomputable def LR:SF:=aC (c7 (ju (eN (aR 3 qi) (ak (eB aJ (aj 0) (eC (.int 0))) (ak (aj 2) (ak (aj 1) aA))))) (aC (bJ (eN cD (ak (eC (.int 0)) (ak (eC (.int 1)) aA)))) aQ) aQ) (aC (bJ (eN (aR 2 yw) (ak (aj 0) (ak (aj 1) aA)))) aQ)
noncomputable def yI:GN:=fnOf 3 LR
noncomputable def qb:SF:=aC (bA (eN (aR 2 jz) (ak (eN (aR 2 d8) (ak (eB aJ (aj 1) (eC (.int 0))) (ak (eB aJ (aj 1) (eC (.int 1))) aA))) (ak (eN (aR 2 d8) (ak (eB aJ (aj 1) (eC (.int 0))) (ak (eB aJ (aj 1) (eC (.int 2))) aA))) aA))) (aM 2)) (aC (c7 (bG (eB (aW .Eq) (aj 2) (eN cD (ak (eC (.int 0)) (ak (eC (.int 0)) (ak (eC (.int 0)) aA)))))) (aC (bJ (eN (aR 2 yw) (ak (aj 0) (ak (aj 1) aA)))) aQ) aQ) (aC (bA (eN (aR 2 fO) (ak (eN (aR 2 d8) (ak (eB aJ (aj 0) (eC (.int 0))) (ak (eB aJ (aj 1) (eC (.int 0))) aA))) (ak (aj 2) aA))) (aM 3)) (aC (bA (eN (aR 2 fO) (ak (eB aJ (aj 0) (eC (.int 1))) (ak (aj 2) aA))) (aM 4)) (aC (c7 (bG (eB (aW .Eq) (aj 4) (eC (.int 0)))) (aC (bJ (uh (bG (eB (aW .Eq) (aj 3) (eC (.int 0)))) (eN (aR 3 yI) (ak (aj 0) (ak (aj 1) (ak (aj 2) aA)))) (eC .non))) aQ) aQ) (aC (c7 (bG (eB (aW .Lt) (aj 4) (eC (.int 0)))) (aC (bA (eU uK (aj 3)) (aM 3)) (aC (bA (eU uK (aj 4)) (aM 4)) aQ)) aQ) (aC (c7 (iM (bG (eB (aW .Lt) (aj 3) (eC (.int 0)))) (pW (ju (eN (aR 3 qi) (ak (eB aJ (aj 0) (eC (.int 0))) (ak (eB aJ (aj 0) (eC (.int 1))) (ak (aj 1) aA))))))) (aC (bJ (eC .non)) aQ) aQ) (aC (bJ (eN (aR 1 tR) (ak (eN cD (ak (aj 3) (ak (aj 4) aA))) aA))) aQ)))))))
noncomputable def nP:GN:=fnOf 5 qb
noncomputable def V7:SF:=aC (c7 (bG (eB (aW .Eq) (eB aJ (aj 0) (eC (.int 1))) (eN cD (ak (eC (.int 0)) (ak (eC (.int 0)) (ak (eC (.int 0)) aA)))))) (aC Dy aQ) aQ) aQ
noncomputable def FN:GN:=fnOf 1 V7
noncomputable def JN:SF:=aC (c7 (bG (eB (aW .Eq) (eB aJ (aj 1) (eC (.int 0))) (eC (.str "box")))) (aC (bJ (eN (aR 2 KR) (ak (aj 0) (ak (jV (aj 1) (jR (eC (.int 1))) kZ) aA)))) aQ) aQ) (aC (bJ (eN (aR 2 nP) (ak (aj 0) (ak (jV (aj 1) (jR (eC (.int 1))) kZ) aA)))) aQ)
noncomputable def yo:GN:=fnOf 2 JN
noncomputable def QJ:SF:=aC (nj (eN (aR 1 FN) (ak (aj 0) aA))) (aC (nj (eN (aR 1 Ad) (ak (aj 1) aA))) (aC (bJ (eN (aR 2 yo) (ak (aj 0) (ak (aj 1) aA)))) aQ))
noncomputable def Ij:GN:=fnOf 2 QJ
noncomputable def Vg:SF:=aC (bJ (eN qN (ak (dg (gR (ak (eC (.int 3)) aA)) (aM 0) cY (eB (aP .Sub) (eB aJ (aj 2) (aj 0)) (eB aJ (aj 1) (aj 0))) [none,some 0,some 1]) aA))) aQ
noncomputable def yh:GN:=fnOf 2 Vg
noncomputable def Fw:SF:=aC (bJ (eB (aP .Sub) (eB (aP .Mult) (eB aJ (aj 0) (aj 2)) (eB aJ (aj 1) (aj 3))) (eB (aP .Mult) (eB aJ (aj 0) (aj 3)) (eB aJ (aj 1) (aj 2))))) aQ
noncomputable def lA:GN:=fnOf 4 Fw
noncomputable def VJ:SF:=c7 (iM (bG (eB (aW .Lt) (eB aJ (aj 0) (aj 4)) (eB (aP .Mult) (eN lM (ak (eN iB (ak (eB aJ (aj 2) (aj 4)) (ak (eB aJ (aj 3) (aj 4)) aA))) aA)) (aj 1)))) (bG (eB (aW .Gt) (eB aJ (aj 0) (aj 4)) (eB (aP .Mult) (eN jQ (ak (eN iB (ak (eB aJ (aj 2) (aj 4)) (ak (eB aJ (aj 3) (aj 4)) aA))) aA)) (aj 1))))) (aC (bJ (eC (.bl false))) aQ) aQ
noncomputable def Kq:SF:=aC VJ aQ
noncomputable def zU:SF:=mz (gR (ak (eC (.int 3)) aA)) (aM 4) Kq
noncomputable def Ve:SF:=bA (dg (gR (ak (eC (.int 3)) aA)) (aM 0) cY (eB (aP .Sub) (eB aJ (aj 2) (aj 0)) (eB (aP .Mult) (eB aJ (aj 1) (aj 0)) (aj 3))) [none,some 2,some 0,some 1]) (aM 5)
noncomputable def Vf:SF:=bA (eN (aR 2 yh) (ak (aj 2) (ak (aj 3) aA))) (aM 6)
noncomputable def Uq:SF:=bJ (eN pP (ak (dg (gR (ak (eC (.int 3)) aA)) (aM 0) cY (eB (aW .Eq) (eN (aR 4 lA) (ak (aj 1) (ak (aj 2) (ak (aj 0) (ak (eB (aP .Mod) (eB (aP .Add) (aj 0) (eC (.int 1))) (eC (.int 3))) aA))))) (eC (.int 0))) [none,some 5,some 6]) aA))
noncomputable def zK:SF:=aC zU (aC Ve (aC Vf (aC Uq aQ)))
noncomputable def zL:GN:=fnOf 7 zK
noncomputable def Wa:SF:=bA (aj 2) (jm 3 (dH (aM 3) (dH (aM 4) (dH (aM 5) jK))))
noncomputable def Wc:SF:=bA (eN (aR 2 yh) (ak (aj 3) (ak (aj 4) aA))) (aM 6)
noncomputable def Wd:SF:=bA (eN (aR 2 yh) (ak (aj 3) (ak (aj 5) aA))) (aM 7)
noncomputable def Wg:SF:=bA (dg (gR (ak (eC (.int 3)) aA)) (aM 0) cY (eB (aP .Sub) (eB aJ (aj 2) (aj 0)) (eB (aP .Mult) (eB aJ (aj 1) (aj 0)) (aj 3))) [none,some 3,some 0,some 1]) (aM 8)
noncomputable def Mu:SF:=bA (eN (aR 4 lA) (ak (aj 6) (ak (aj 7) (ak (aj 9) (ak (aj 10) aA))))) (aM 11)
noncomputable def Mv:SF:=c7 (bG (eB (aW .NotEq) (aj 11) (eC (.int 0)))) (aC (bA (eN (aR 4 lA) (ak (aj 8) (ak (aj 7) (ak (aj 9) (ak (aj 10) aA))))) (aM 12)) (aC (bA (eN (aR 4 lA) (ak (aj 6) (ak (aj 8) (ak (aj 9) (ak (aj 10) aA))))) (aM 13)) (aC (c7 (bG (eB (aW .Lt) (aj 11) (eC (.int 0)))) (aC (bA (eN cD (ak (eB (aP .Sub) (eC (.int 0)) (aj 12)) (ak (eB (aP .Sub) (eC (.int 0)) (aj 13)) (ak (eB (aP .Sub) (eC (.int 0)) (aj 11)) aA)))) (jm 3 (dH (aM 12) (dH (aM 13) (dH (aM 11) jK))))) aQ) aQ) (aC (c7 (iM (bG (eB (aW .Lt) (aj 12) (eC (.int 0)))) (iM (bG (eB (aW .Lt) (aj 13) (eC (.int 0)))) (bG (eB (aW .Gt) (eB (aP .Add) (aj 12) (aj 13)) (eB (aP .Mult) (aj 11) (aj 1)))))) (aC (bJ (eC (.bl false))) aQ) aQ) (aC (bA (dg (gR (ak (eC (.int 3)) aA)) (aM 0) cY (eB (aP .Add) (eB (aP .Mult) (aj 2) (eB aJ (aj 4) (aj 0))) (eB (aP .Mult) (aj 3) (eB aJ (aj 1) (aj 0)))) [none,some 7,some 12,some 13,some 6]) (aM 14)) (aC (bJ (eB (aW .Eq) (aj 14) (dg (eF (aj 8)) (aM 0) cY (eB (aP .Mult) (aj 0) (aj 1)) [none,some 11]))) aQ)))))) aQ
noncomputable def Ac:SF:=aC Mu (aC Mv aQ)
noncomputable def Wh:SF:=mz (eF (eN iB (ak (eN cD (ak (eC (.int 0)) (ak (eC (.int 1)) aA))) (ak (eN cD (ak (eC (.int 1)) (ak (eC (.int 2)) aA))) (ak (eN cD (ak (eC (.int 2)) (ak (eC (.int 0)) aA))) aA))))) (jm 2 (dH (aM 9) (dH (aM 10) jK))) Ac
noncomputable def V9:SF:=bJ (qp (eN (aR 4 zL) (ak (aj 0) (ak (aj 1) (ak (aj 3) (ak (aj 4) aA))))) (qp (eN (aR 4 zL) (ak (aj 0) (ak (aj 1) (ak (aj 4) (ak (aj 5) aA))))) (eN (aR 4 zL) (ak (aj 0) (ak (aj 1) (ak (aj 5) (ak (aj 3) aA)))))))
noncomputable def V2:SF:=aC Wa (aC Wc (aC Wd (aC Wg (aC Wh (aC V9 aQ)))))
noncomputable def Gd:GN:=fnOf 15 V2
noncomputable def Ur:SF:=aC (bJ (eN cD (ak (eB (aP .Sub) (eB (aP .Mod) (aj 0) (eC (.int 9))) (eC (.int 4))) (ak (eB (aP .Sub) (eB (aP .Mod) (eB (aP .FloorDiv) (aj 0) (eC (.int 9))) (eC (.int 9))) (eC (.int 4))) (ak (eB (aP .Sub) (eB (aP .Mod) (eB (aP .FloorDiv) (aj 0) (eC (.int 81))) (eC (.int 9))) (eC (.int 4))) aA))))) aQ
noncomputable def tL:GN:=fnOf 1 Ur
noncomputable def LC:SF:=aC (c7 (bG (eB (aW .Eq) (eB (aP .Mod) (aj 1) (eC (.int 3))) (eC (.int 0)))) (aC (bJ (aj 0)) aQ) aQ) (aC (bA (eB (aP .Add) (eC (.int 1)) (eB (aP .Mod) (aj 1) (eB (aP .LShift) (eC (.int 1)) (eC (.int 50))))) (aM 2)) (aC (bJ (eN cD (ak (eB (aP .Add) (eB (aP .Mult) (eB aJ (aj 0) (eC (.int 0))) (aj 2)) (eB (aP .Mod) (aj 1) (eC (.int 1000003)))) (ak (eB (aP .Sub) (eB (aP .Mult) (eB aJ (aj 0) (eC (.int 1))) (aj 2)) (eB (aP .Mod) (aj 1) (eC (.int 997)))) (ak (eB (aP .Add) (eB (aP .Mult) (eB aJ (aj 0) (eC (.int 2))) (aj 2)) (eC (.int 5))) aA))))) aQ))
noncomputable def yu:GN:=fnOf 3 LC
noncomputable def Mi:SF:=aC (oH "Tree" "box" (aj 0) (aj 1)) (aC (oH "Tree" "number" (aj 0) (aj 2)) (aC (oH "Tree" "halves" (aj 0) (aj 3)) aQ))
noncomputable def yF:GN:=fnOf 4 Mi
noncomputable def VR:SF:=aC (bA (dg (qz (ak (eB aJ (aj 0) (eC (.int 0))) (ak (eB aJ (aj 0) (eC (.int 1))) aA))) (jm 2 (dH (aM 0) (dH (aM 1) jK))) cY (eB (aP .Sub) (aj 1) (aj 0)) [none,none]) (aM 1)) (aC (bJ (eM xG (aj 1) (ak (eN jQ (ak (aj 1) aA)) aA))) aQ)
noncomputable def K5:GN:=fnOf 2 VR
noncomputable def nR(φ:GN):SF:=aC (c7 (bG (eB (aW .Eq) (eN ji (ak (aj 0) aA)) (eC (.int 1)))) (aC (bJ (eB aJ (aj 0) (eC (.int 0)))) aQ) aQ) (aC (bA (eN (aR 1 yt) (ak (eB (aP .Add) (dg (eF (aj 0)) (aM 0) cY (eB aJ (gH "Tree" "box" (aj 0)) (eC (.int 0))) [none]) (dg (eF (aj 0)) (aM 0) cY (eB aJ (gH "Tree" "box" (aj 0)) (eC (.int 1))) [none])) aA)) (aM 1)) (aC (bA (eN (aR 1 K5) (ak (aj 1) aA)) (aM 4)) (aC (bA (yM (aj 0) [4] (eB (aP .Add) (eB aJ (eB aJ (gH "Tree" "box" (aj 0)) (eC (.int 0))) (aj 1)) (eB aJ (eB aJ (gH "Tree" "box" (aj 0)) (eC (.int 1))) (aj 1)))) (aM 2)) (aC (bA (eB (aP .FloorDiv) (eN ji (ak (aj 2) aA)) (eC (.int 2))) (aM 3)) (aC (bJ (pI "Tree" 4 yF (ak (aj 1) (ak (eC .non) (ak (eN cD (ak (eN (aR 1 φ) (ak (jV (aj 2) kZ (jR (aj 3))) aA)) (ak (eN (aR 1 φ) (ak (jV (aj 2) (jR (aj 3)) kZ) aA)) aA))) aA))))) aQ)))))
noncomputable def jy:Nat->GN
 |0=>λ_ _=>none
 |k+1=>sX "tree_over" 5 (nR (jy k))
noncomputable def zhV:GN:=jy 6
noncomputable def Lx:SF:=bA (dg (o9 (aj 0)) (jm 2 (dH (aM 0) (dH (aM 1) jK))) cY (pI "Tree" 4 yF (ak (aj 1) (ak (aj 0) (ak (eN cD aA) aA)))) [none,none]) (aM 1)
noncomputable def z7:SF:=bJ (uh (bG (eB (aW .Eq) (eN ji (ak (aj 1) aA)) (eC (.int 0)))) (eC .non) (eN (aR 1 zhV) (ak (aj 1) aA)))
noncomputable def Kv:SF:=aC Lx (aC z7 aQ)
noncomputable def Fq:GN:=fnOf 2 Kv
noncomputable def Ml:SF:=aC (oH "Scene" "kept" (aj 0) (eN qH (ak (aj 1) aA))) (aC (oH "Scene" "tree" (aj 0) (eN (aR 1 Fq) (ak (dg (eF (gH "Scene" "kept" (aj 0))) (aM 0) cY (eN (aR 1 vo) (ak (aj 0) aA)) [none]) aA))) aQ)
noncomputable def FJ:GN:=fnOf 2 Ml
noncomputable def Kr:SF:=aC (bA (eB (aP .Sub) (aj 1) (eB (aP .Mult) (eB (aP .Mod) (aj 1) (eC (.int 3))) (eB (aP .Mod) (eN (aR 2 oO) (ak (aj 0) (ak (eC (.int 0)) aA))) (eC (.int 2))))) (aM 2)) (aC (bA (eN (aR 2 yr) (ak (eN (aR 2 oO) (ak (aj 0) (ak (eB (aP .Add) (aj 2) (eC (.int 1))) aA))) (ak (aj 2) aA))) (aM 3)) (aC (bA (eN (aR 1 tL) (ak (aj 3) aA)) (aM 4)) (aC (c7 (bG (eB (aW .Eq) (eB (aP .Mod) (eB (aP .FloorDiv) (aj 3) (eC (.int 729))) (eC (.int 2))) (eC (.int 0)))) (aC (bA (eN (aR 1 tL) (ak (eB (aP .FloorDiv) (aj 3) (eC (.int 1458))) aA)) (aM 5)) (aC (bJ (eN cD (ak (eC (.str "box")) (ak (aj 4) (ak (eN cD (ak (eB (aP .Add) (eB aJ (aj 4) (eC (.int 0))) (eN sI (ak (eB aJ (aj 5) (eC (.int 0))) aA))) (ak (eB (aP .Add) (eB aJ (aj 4) (eC (.int 1))) (eB (aP .FloorDiv) (eN sI (ak (eB aJ (aj 5) (eC (.int 1))) aA)) (eC (.int 2)))) (ak (eB (aP .Add) (eB aJ (aj 4) (eC (.int 2))) (eB (aP .Mod) (eN sI (ak (eB aJ (aj 5) (eC (.int 2))) aA)) (eC (.int 3)))) aA)))) aA))))) aQ)) aQ) (aC (bJ (eN cD (ak (eC (.str "triangle")) (ak (aj 4) (ak (eN (aR 1 tL) (ak (eB (aP .FloorDiv) (aj 3) (eC (.int 1458))) aA)) (ak (eN (aR 1 tL) (ak (eB (aP .FloorDiv) (aj 3) (eC (.int 1062882))) aA)) aA)))))) aQ))))
noncomputable def Ky:GN:=fnOf 6 Kr
noncomputable def Vk:SF:=aC (bA (eN (aR 2 Ky) (ak (aj 0) (ak (aj 1) aA))) (aM 2)) (aC (bJ (eB (aP .Add) (eN cD (ak (eB aJ (aj 2) (eC (.int 0))) aA)) (eN qN (ak (dg (eF (jV (aj 2) (jR (eC (.int 1))) kZ)) (aM 0) cY (eN (aR 2 yu) (ak (aj 0) (ak (eN (aR 2 oO) (ak (aj 1) (ak (eC (.int 0)) aA))) aA))) [none,some 0]) aA)))) aQ)
noncomputable def vy:GN:=fnOf 3 Vk
noncomputable def Mp:SF:=bA (eN iB aA) (aM 2)
noncomputable def Mq:SF:=bA (uh (bG (eB (aW .Is) (aj 0) (eC .non))) (eN iB aA) (eN iB (ak (aj 0) aA))) (aM 3)
noncomputable def Ma:SF:=bA (Cw mW (aj 3)) (aM 4)
noncomputable def yH:SF:=c7 (bG (eB (aW .Is) (eN (aR 2 vm) (ak (aj 1) (ak (gH "Tree" "box" (aj 4)) aA))) (eC .non))) (aC oZ aQ) aQ
noncomputable def Ab:SF:=c7 (bG (eB (aW .Is) (gH "Tree" "number" (aj 4)) (eC .non))) (aC (nj (eM xJ (aj 3) (ak (gH "Tree" "halves" (aj 4)) aA))) aQ) (aC (nj (eM uY (aj 2) (ak (gH "Tree" "number" (aj 4)) aA))) aQ)
noncomputable def tQ:SF:=aC Ma (aC yH (aC Ab aQ))
noncomputable def V5:SF:=lC (bG (eB (aW .Gt) (eN ji (ak (aj 3) aA)) (eC (.int 0)))) tQ
noncomputable def Mr:SF:=bJ (aj 2)
noncomputable def VD:SF:=aC Mp (aC Mq (aC V5 (aC Mr aQ)))
noncomputable def FZ:GN:=fnOf 5 VD
noncomputable def K7:SF:=nj (eN (aR 1 FN) (ak (aj 1) aA))
noncomputable def K8:SF:=bA (eN iB aA) (aM 2)
noncomputable def Ms:SF:=bA (eN (aR 2 yo) (ak (aj 1) (ak (eB aJ (gH "Scene" "kept" (aj 0)) (aj 3)) aA))) (aM 4)
noncomputable def Aa:SF:=c7 (bG (eB (aW .IsNot) (aj 4) (eC .non))) (aC (nj (eM uY (aj 2) (ak (eN cD (ak (aj 4) (ak (aj 3) aA))) aA))) aQ) aQ
noncomputable def yE:SF:=aC Ms (aC Aa aQ)
noncomputable def K9:SF:=mz (eF (eN (aR 2 FZ) (ak (gH "Scene" "tree" (aj 0)) (ak (aj 1) aA)))) (aM 3) yE
noncomputable def La:SF:=bJ (aj 2)
noncomputable def Lz:SF:=aC K7 (aC K8 (aC K9 (aC La aQ)))
noncomputable def Gb:GN:=fnOf 5 Lz
noncomputable def Us:SF:=aC (c7 (ju (eN (aR 2 p8) (ak (eB aJ (aj 0) (eC (.int 0))) (ak (eB aJ (aj 1) (eC (.int 0))) aA)))) (aC (bJ (eC (.bl true))) aQ) aQ) (aC (bJ (m7 (eB (aW .Eq) (eB aJ (aj 0) (eC (.int 0))) (eB aJ (aj 1) (eC (.int 0)))) (eB (aW .Lt) (eB aJ (aj 0) (eC (.int 1))) (eB aJ (aj 1) (eC (.int 1)))))) aQ)
noncomputable def Fv:GN:=fnOf 2 Us
noncomputable def Mf:SF:=bA (eC .non) (aM 2)
noncomputable def LQ:SF:=c7 (iM (bG (eB (aW .Is) (aj 2) (eC .non))) (ju (eN (aR 2 Fv) (ak (aj 3) (ak (aj 2) aA))))) (aC (bA (aj 3) (aM 2)) aQ) aQ
noncomputable def yG:SF:=aC LQ aQ
noncomputable def Mg:SF:=mz (eF (mq "Scene" "hits" 2 Gb (aj 0) (ak (aj 1) aA))) (aM 3) yG
noncomputable def Mh:SF:=bJ (aj 2)
noncomputable def Li:SF:=aC Mf (aC Mg (aC Mh aQ))
noncomputable def Ly:GN:=fnOf 4 Li
noncomputable def KD:SF:=aC (bA (eN (aR 2 yr) (ak (eN (aR 2 oO) (ak (aj 0) (ak (eC (.int 0)) aA))) (ak (eC (.int 77)) aA))) (aM 1)) (aC (c7 (bG (eB (aW .Eq) (eB (aP .Mod) (aj 1) (eC (.int 8))) (eC (.int 5)))) (aC (bJ (eC (.int 30))) aQ) aQ) (aC (bJ (eB (aP .Mod) (eB (aP .FloorDiv) (aj 1) (eC (.int 8))) (eC (.int 13)))) aQ))
noncomputable def zW:GN:=fnOf 2 KD
noncomputable def Kp:SF:=aC (c7 (bG (eB (aW .Eq) (eB aJ (aj 1) (eC (.int 0))) (eC (.str "box")))) (aC (bJ (eN pP (ak (dg (gR (ak (eC (.int 3)) aA)) (aM 0) cY (m7 (eB (aW .LtE) (eB aJ (eB aJ (aj 2) (eC (.int 1))) (aj 0)) (eB aJ (aj 1) (aj 0))) (eB (aW .LtE) (eB aJ (aj 1) (aj 0)) (eB aJ (eB aJ (aj 2) (eC (.int 2))) (aj 0)))) [none,some 0,some 1]) aA))) aQ) aQ) (aC (bJ (eN (aR 3 Gd) (ak (aj 0) (ak (eC (.int 1)) (ak (jV (aj 1) (jR (eC (.int 1))) kZ) aA))))) aQ)
noncomputable def Kw:GN:=fnOf 2 Kp
noncomputable def VL:SF:=aC (bA (eN (aR 2 Ij) (ak (eN cD (ak (aj 0) (ak (eN (aR 2 yh) (ak (aj 0) (ak (aj 1) aA))) aA))) (ak (aj 2) aA))) (aM 3)) (aC (bJ (m7 (eB (aW .IsNot) (aj 3) (eC .non)) (eB (aW .LtE) (eB aJ (aj 3) (eC (.int 0))) (eB aJ (aj 3) (eC (.int 1)))))) aQ)
noncomputable def K3:GN:=fnOf 4 VL
noncomputable def Fx:SF:=aC (bA (eN (aR 2 d8) (ak (aj 1) (ak (aj 2) aA))) (aM 3)) (aC (bA (eN cD (ak (eC (.int 1)) (ak (eC (.int 1)) aA))) (aM 4)) (aC (c7 (bG (eB (aW .Eq) (aj 3) (eN cD (ak (eC (.int 0)) (ak (eC (.int 0)) (ak (eC (.int 0)) aA)))))) (aC (bA (eN cD (ak (eC (.int 1)) (ak (eC (.int 0)) (ak (eC (.int 0)) aA)))) (aM 3)) (aC (bA (eN cD (ak (eC (.int 0)) (ak (eC (.int 1)) aA))) (aM 4)) aQ)) aQ) (aC (bA (mq "Scene" "first" 2 Ly (aj 0) (ak (eN cD (ak (aj 1) (ak (aj 3) aA))) aA)) (aM 5)) (aC (bJ (qp (eB (aW .Is) (aj 5) (eC .non)) (eN (aR 2 p8) (ak (aj 4) (ak (eB aJ (aj 5) (eC (.int 0))) aA))))) aQ))))
noncomputable def Fy:GN:=fnOf 6 Fx
noncomputable def zid:SF:=bA (dg (gR (ak (eN (aR 1 zW) (ak (aj 0) aA)) aA)) (aM 0) cY (eN (aR 2 vy) (ak (aj 1) (ak (aj 0) aA))) [none,some 0]) (aM 2)
noncomputable def zic:SF:=bA (pI "Scene" 2 FJ (ak (aj 2) aA)) (aM 3)
noncomputable def Lk:SF:=bA (eN (aR 2 oO) (ak (aj 0) (ak (eB (aP .Add) (eC (.int 40)) (aj 1)) aA))) (aM 4)
noncomputable def Ln:SF:=bA (eN (aR 2 yr) (ak (aj 4) (ak (aj 1) aA))) (aM 5)
noncomputable def Lp:SF:=bA (eN (aR 2 yu) (ak (eN (aR 1 tL) (ak (aj 5) aA)) (ak (eN (aR 2 oO) (ak (aj 0) (ak (eC (.int 0)) aA))) aA))) (aM 6)
noncomputable def Lq:SF:=bA (eN (aR 2 yu) (ak (eN (aR 1 tL) (ak (eB (aP .FloorDiv) (aj 5) (eC (.int 729))) aA)) (ak (eN (aR 2 oO) (ak (aj 0) (ak (eC (.int 0)) aA))) aA))) (aM 7)
noncomputable def FP:SF:=c7 (iM (bG (eB (aW .Eq) (aj 1) (eC (.int 3)))) (bG (eB (aW .Eq) (aj 6) (aj 7)))) (aC (bA (uH (eN uI (ak (dg (eF (aj 2)) (aM 0) cY (eN (aR 2 Kw) (ak (aj 1) (ak (aj 0) aA))) [none,some 6]) aA))) (aM 8)) (aC (bA (aj 6) (aM 7)) aQ)) (aC (bA (uH (eN uI (ak (dg (eF (aj 2)) (aM 0) cY (eN (aR 3 K3) (ak (aj 1) (ak (aj 2) (ak (aj 0) aA)))) [none,some 6,some 7]) aA))) (aM 8)) aQ)
noncomputable def FQ:SF:=bA (eN iB (ak (mq "Scene" "is_free" 3 Fy (aj 3) (ak (aj 6) (ak (aj 7) aA))) (ak (mq "Scene" "is_free" 3 Fy (aj 3) (ak (aj 7) (ak (aj 6) aA))) aA))) (aM 9)
noncomputable def FT:SF:=c7 (iM (bG (eB (aW .NotEq) (aj 9) (eN iB (ak (aj 8) (ak (aj 8) aA))))) (iM (pW (ju (eN uJ (ak (eB aJ (aj 9) (eC (.int 0))) (ak (eC (.ty "bool")) aA))))) (pW (ju (eN uJ (ak (eB aJ (aj 9) (eC (.int 1))) (ak (eC (.ty "bool")) aA))))))) (aC (bJ (eC (.bl false))) aQ) aQ
noncomputable def Ku:SF:=aC Lk (aC Ln (aC Lp (aC Lq (aC FP (aC FQ (aC FT aQ))))))
noncomputable def zib:SF:=mz (gR (ak (eC (.int 4)) aA)) (aM 1) Ku
noncomputable def zia:SF:=bJ (eC (.bl true))
noncomputable def Td:SF:=aC zid (aC zic (aC zib (aC zia aQ)))
end MX.P
end
section
namespace MX
open PySem L2
def jw{p:Prop}{i:Decidable p}(h:p):@decide p i=true:=decide_eq_true h
def fM{p:Prop}{i:Decidable p}(h:¬p):@decide p i=false:=decide_eq_false h
section
variable {σ σ1:Sg}{S S1 S2:So}{x y z d:D}{xs ds:List D}{fa fb fe fo:EF}{aa:AF}
theorem bC{g:G2}{r:Option (D×So)}(h1:fa σ S=some (x,S1))(h2:fb σ S1=some (y,S2))(h3:g x y S2=r):eB g fa fb σ S=r:=by unfold eB;rw[h1];simp only[cg];rw[h2];simp only[cg];exact h3
def XH{g:D->So->Option (D×So)}{r:Option (D×So)}(h1:fa σ S=some (x,S1))(h3:g x S1=r):eU g fa σ S=r:=by unfold eU;rw[h1];simp only[cg];exact h3
def aZ{g:GN}{r:Option (D×So)}(h1:aa σ S=some (ds,S1))(h2:g ds S1=r):eN g aa σ S=r:=by unfold eN;rw[h1];simp only[cg];exact h2
def aK{fr:AF}(h1:fa σ S=some (x,S1))(h2:fr σ S1=some (xs,S2)):ak fa fr σ S=some (x::xs,S2):=by unfold ak;rw[h1];simp only[cg];rw[h2];rfl
def aY:aA σ S=some ([],S):=rfl
def bF:eC d σ S=some (d,S):=rfl
def aF{i:Nat}(h:σ[i]?=some (some d)):aj i σ S=some (d,S):=by unfold aj;rw[h]
def cM{n:Nat}{φ:GN}{r:Option (D×So)}(h1:ds.length=n)(h2:φ ds S=r):aR n φ ds S=r:=by unfold aR;rw[if_pos h1];exact h2
noncomputable def pQ{α:Type}(b:Bool)(x y:α):α:=if b=true then x else y
def d9{α:Type}{b:Bool}{x y r:α}(h:b=true)(hx:x=r):pQ b x y=r:=by unfold pQ;rw[if_pos h];exact hx
def dI{α:Type}{b:Bool}{x y r:α}(h:b=false)(hx:y=r):pQ b x y=r:=by unfold pQ;rw[if_neg (by rw[h];exact gA)];exact hx
theorem zu{t:TF}{b:Bool}{r:Option (D×So)}(h1:t σ S=some (b,S1))(h2:pQ b (fa σ S1) (fb σ S1)=r):uh t fa fb σ S=r:=by unfold uh;rw[h1];simp only[cg];exact h2
def Jk{b:Bool}(h1:fa σ S=some (.bl b,S1)):uH fa σ S=some (.bl (!b),S1):=by unfold uH;rw[h1];rfl
theorem xU{b:Bool}{r:Option (D×So)}(h1:fa σ S=some (.bl b,S1))(h2:pQ b (fb σ S1) (some (.bl false,S1))=r):m7 fa fb σ S=r:=by unfold m7;rw[h1];simp only[cg];cases b<;>exact h2
theorem u6{b:Bool}{r:Option (D×So)}(h1:fa σ S=some (.bl b,S1))(h2:pQ b (some (.bl true,S1)) (fb σ S1)=r):qp fa fb σ S=r:=by unfold qp;rw[h1];simp only[cg];cases b<;>exact h2
def fY{b:Bool}(h1:fa σ S=some (.bl b,S1)):bG fa σ S=some (b,S1):=by unfold bG;rw[h1];rfl
def Em{b:Bool}(h1:fa σ S=some (x,S1))(h2:qY x S1=some b):ju fa σ S=some (b,S1):=by unfold ju;rw[h1];simp only[cg];rw[h2];rfl
def Rq{t:TF}{b:Bool}(h1:t σ S=some (b,S1)):pW t σ S=some (!b,S1):=by unfold pW;rw[h1];rfl
theorem zo5{t u:TF}{b:Bool}{r:Option (Bool×So)}(h1:t σ S=some (b,S1))(h2:pQ b (u σ S1) (some (false,S1))=r):xq t u σ S=r:=by unfold xq;rw[h1];simp only[cg];exact h2
theorem jU{t u:TF}{b:Bool}{r:Option (Bool×So)}(h1:t σ S=some (b,S1))(h2:pQ b (some (true,S1)) (u σ S1)=r):iM t u σ S=r:=by unfold iM;rw[h1];simp only[cg];exact h2
def nO:cY σ S=some (true,S):=rfl
noncomputable abbrev SR:=Option (Fl×Sg×So)
noncomputable def rz(fl:Fl)(g:SF)(σ:Sg)(S:So):SR:=match fl with
 |.nx=>g σ S
 |fl=>some (fl,σ,S)
def aV{g:SF}{r:SR}(h:g σ S=r):rz .nx g σ S=r:=h
def cL{g:SF}:rz (.rt z) g σ S=some (.rt z,σ,S):=rfl
def Jc{g:SF}:rz .ct g σ S=some (.ct,σ,S):=rfl
def aL{f g:SF}{fl:Fl}{r:SR}(h1:f σ S=some (fl,σ1,S1))(h2:rz fl g σ1 S1=r):aC f g σ S=r:=by unfold aC;rw[h1];simp only[cg];cases fl<;>exact h2
def eX:aQ σ S=some (.nx,σ,S):=rfl
def Q5:oZ σ S=some (.ct,σ,S):=rfl
def eG(h:fe σ S=some (x,S1)):bJ fe σ S=some (.rt x,σ,S1):=by unfold bJ;rw[h];rfl
def tK(h:fe σ S=some (x,S1)):nj fe σ S=some (.nx,σ,S1):=by unfold nj;rw[h];rfl
def cN{g:GF}(h1:fe σ S=some (x,S1))(h2:g x σ S1=some (σ1,S2)):bA fe g σ S=some (.nx,σ1,S2):=by unfold bA;rw[h1];simp only[cg];rw[h2];rfl
def dF{t:TF}{f g:SF}{b:Bool}{r:SR}(h1:t σ S=some (b,S1))(h2:pQ b (f σ S1) (g σ S1)=r):c7 t f g σ S=r:=by unfold c7;rw[h1];simp only[cg];exact h2
def dw{i:Nat}(h:σ.set i (some d)=σ1):aM i d σ S=some (σ1,S):=by unfold aM;rw[h]
def Qi{n:Nat}{fr:nU}{r:Option (Sg×So)}(h1:ds.length=n)(h2:fr ds σ S=r):jm n fr (.tup ds) σ S=r:=by unfold jm;simp only;rw[if_pos h1];exact h2
def Sx:jK [] σ S=some (σ,S):=rfl
def JS{f:GF}{fr:nU}{r:Option (Sg×So)}(h1:f d σ S=some (σ1,S1))(h2:fr ds σ1 S1=r):dH f fr (d::ds) σ S=r:=by unfold dH;simp only;rw[h1];exact h2
def DY{i j:Int}:aP .Add (.int i) (.int j) S=some (.int (i+j),S):=rfl
theorem ZV{n m:Nat}{xs ys:List D}(h1:S[n]?=some (.lst xs))(h2:S[m]?=some (.lst ys))(h:xs.length+ys.length<=sizeLine):aP .Add (.ref n) (.ref m) S=some (.ref S.length,S++[.lst (xs++ys)]):=by unfold aP pG;simp only;rw[h1,h2];simp only;rw[if_pos h]
theorem ZW{xs ys:List D}(h0:xs≠[])(h:xs.length+ys.length<=sizeLine):aP .Add (.tup xs) (.tup ys) S=some (.tup (xs++ys),S):=by unfold aP pG;simp only;rw[if_pos ⟨h0,h⟩]
def Zm{i j:Int}:aP .Sub (.int i) (.int j) S=some (.int (i - j),S):=rfl
def vf{i j:Int}(h:eE i j=true):aP .Mult (.int i) (.int j) S=some (.int (i*j),S):=by unfold aP rM;simp only;rw[if_pos h]
def u5{i j:Int}(h:eZ j=true):aP .FloorDiv (.int i) (.int j) S=some (.int (i.fdiv j),S):=by unfold aP rO;simp only;rw[if_pos h]
def Ea{i j:Int}(h:j≠0):aP .Mod (.int i) (.int j) S=some (.int (i.fmod j),S):=by unfold aP rN;simp only;rw[if_pos h]
def Ht{i j:Int}:aW .Lt (.int i) (.int j) S=some (.bl (decide (i<j)),S):=rfl
def DK{i j:Int}:aW .LtE (.int i) (.int j) S=some (.bl (decide (i<=j)),S):=rfl
def Hs{i j:Int}:aW .Gt (.int i) (.int j) S=some (.bl (decide (j<i)),S):=rfl
def XJ{i j:Int}:aW .GtE (.int i) (.int j) S=some (.bl (decide (j<=i)),S):=rfl
def xN{i j:Int}:aW .Eq (.int i) (.int j) S=some (.bl (decide (i=j)),S):=rfl
def XM{i j:Int}:aW .NotEq (.int i) (.int j) S=some (.bl (!decide (i=j)),S):=rfl
def pZ:aW .Is x .non S=some (.bl (oF x),S):=by cases x<;>rfl
def zT:aW .IsNot x .non S=some (.bl (!oF x),S):=by cases x<;>rfl
def XF{i:Int}:uK (.int i) S=some (.int (-i),S):=rfl
def gb{i:Int}(h:eH xs i=some z):aJ (.tup xs) (.int i) S=some (z,S):=by unfold aJ;simp only;rw[h];rfl
def zx{n:Nat}{i:Int}(h1:S[n]?=some (.lst xs))(h:eH xs i=some z):aJ (.ref n) (.int i) S=some (z,S):=by unfold aJ;simp only;rw[h1];simp only;rw[h];rfl
def Qj{n:Nat}{i:Int}(h1:S[n]?=some (.frz xs))(h:eH xs i=some z):aJ (.ref n) (.int i) S=some (z,S):=by unfold aJ;simp only;rw[h1];simp only;rw[h];rfl
def lN(h:ds.length<=sizeLine):cD ds S=some (.tup ds,S):=by unfold cD;rw[if_pos h]
def vd(h:ds.length<=sizeLine):iB ds S=some (.ref S.length,S++[.lst ds]):=by unfold iB;rw[if_pos h]
def zo8:ji [.tup xs] S=some (.int xs.length,S):=rfl
def qR{n:Nat}(h1:S[n]?=some (.lst xs)):ji [.ref n] S=some (.int xs.length,S):=by unfold ji;simp only;rw[h1]
def Ih{n:Nat}(h1:S[n]?=some (.frz xs)):ji [.ref n] S=some (.int xs.length,S):=by unfold ji;simp only;rw[h1]
def Ud{n:Nat}(h1:S[n]?=some (.lst xs)):qN [.ref n] S=some (.tup xs,S):=by unfold qN;simp only;rw[h1]
def SM{n:Nat}(h1:S[n]?=some (.lst xs)):qH [.ref n] S=some (.ref S.length,S++[.lst xs]):=by unfold qH;simp only;rw[h1]
def SN:qH [.tup xs] S=some (.ref S.length,S++[.lst xs]):=rfl
def zo6{i j:Int}:jQ [.int i,.int j] S=some (.int (if j>i then j else i),S):=rfl
def Qe{i:Int}:sI [.int i] S=some (.int (if i<0 then -i else i),S):=rfl
theorem Ii{n:Nat}{ns:List Int}{m:Int}(h1:S[n]?=some (.lst (ns.map .int)))(h:jh ns=some m):lM [.ref n] S=some (.int m,S):=by unfold lM pC;simp only;rw[h1];simp only;rw[Ui];simp only[cg];rw[h];rfl
theorem Q0{n:Nat}{ns:List Int}{m:Int}(h1:S[n]?=some (.lst (ns.map .int)))(h:jk ns=some m):jQ [.ref n] S=some (.int m,S):=by unfold jQ pF;simp only;rw[h1];simp only;rw[Ui];simp only[cg];rw[h];rfl
def Vh(bs:List Bool):sS (bs.map D.bl)=some bs:=by
 induction bs with
 |nil=>rfl
 |cons n r ih=>simp[sS,ih]
theorem Xz{n:Nat}{bs:List Bool}(h1:S[n]?=some (.lst (bs.map .bl))):pP [.ref n] S=some (.bl (bs.all id),S):=by unfold pP;simp only;rw[h1];simp only;rw[Vh];rfl
theorem QZ{n:Nat}{bs:List Bool}(h1:S[n]?=some (.lst xs))(h2:sS xs=some bs):pP [.ref n] S=some (.bl (bs.all id),S):=by unfold pP;simp only;rw[h1];simp only;rw[h2];rfl
theorem zmK{n:Nat}{ns:List Int}{m:Int}(h1:S[n]?=some (.lst xs))(h2:mK xs=some ns)(h:jh ns=some m):lM [.ref n] S=some (.int m,S):=by unfold lM pC;simp only;rw[h1];simp only;rw[h2];simp only[cg];rw[h];rfl
theorem SQ{n:Nat}{ns:List Int}{m:Int}(h1:S[n]?=some (.lst xs))(h2:mK xs=some ns)(h:jk ns=some m):jQ [.ref n] S=some (.int m,S):=by unfold jQ pF;simp only;rw[h1];simp only;rw[h2];simp only[cg];rw[h];rfl
def zmJ{i j:Int}:lM [.tup [.int i,.int j]] S=some (.int (if j<i then j else i),S):=rfl
def zmL{i j:Int}:jQ [.tup [.int i,.int j]] S=some (.int (if j>i then j else i),S):=rfl
theorem Tv{n:Nat}(h1:S[n]?=some (.lst xs))(h:xs.length<sizeLine){S3:So}(h3:S.set n (.lst (xs++[d]))=S3):uY (.ref n) [d] S=some (.non,S3):=by unfold uY;simp only;rw[h1];simp only;rw[if_pos h,h3]
theorem DG{g:GM}{n:Nat}{r:Option (D×So)}(h1:fo σ S=some (.ref n,S1))(h2:S1[n]?=some (.lst xs))(h3:aa σ S1=some (ds,S2))(h4:g (.ref n) ds S2=r):eM g fo aa σ S=r:=by unfold eM;rw[h1];simp only[cg];rw[h2];simp only;rw[h3];exact h4
theorem xP{fl fh:PF}{l h:Option Int}{S3:So}{r:Option (D×So)}(h1:fe σ S=some (x,S1))(h2:fl σ S1=some (l,S2))(h3:fh σ S2=some (h,S3))(h4:rJ x l h S3=r):jV fe fl fh σ S=r:=by unfold jV;rw[h1];simp only[cg];rw[h2];simp only[cg];rw[h3];exact h4
def zO:kZ σ S=some (none,S):=rfl
def zP{i:Int}(h:fe σ S=some (.int i,S1)):jR fe σ S=some (some i,S1):=by unfold jR;rw[h];rfl
theorem Hz{l h:Option Int}{ys:List D}(hc:¬(HT.sIx xs.length 0 l=0/\HT.sIx xs.length xs.length h=xs.length))(e:jP xs l h=ys):rJ (.tup xs) l h S=some (.tup ys,S):=by unfold rJ;simp only;rw[if_pos hc,e]
theorem Hy{n:Nat}{l h:Option Int}{ys:List D}(h1:S[n]?=some (.lst xs))(e:jP xs l h=ys):rJ (.ref n) l h S=some (.ref S.length,S++[.lst ys]):=by unfold rJ;simp only;rw[h1];simp only;rw[e]
theorem Er:jP (x::xs) (some 1) none=xs:=by
 unfold jP;have h1:HT.sIx (x::xs).length 0 (some 1)=1:=by
  unfold HT.sIx;simp
  try omega
 have h2:HT.sIx (x::xs).length (x::xs).length none=(x::xs).length:=rfl;rw[h1,h2];simp
theorem Ss:jP (x::xs) none (some 1)=[x]:=by
 unfold jP;have h1:HT.sIx (x::xs).length (x::xs).length (some 1)=1:=by
  unfold HT.sIx;simp
  try omega
 have h2:HT.sIx (x::xs).length 0 none=0:=rfl;rw[h1,h2];simp
theorem El{j:Int}(h1:aa σ S=some ([.int j],S1))(hb : -(2 ^ 62)<=j/\j<2 ^ 62):gR aa σ S=some (.fix (gO 0 j.toNat),S1):=by unfold gR;rw[h1];simp only[cg];rw[if_pos hb]
def Sy(h1:fe σ S=some (.tup xs,S1)):eF fe σ S=some (.fix xs,S1):=by unfold eF;rw[h1];rfl
def nJ{n:Nat}(h1:fe σ S=some (.ref n,S1))(h2:S1[n]?=some (.lst xs)):eF fe σ S=some (.lst n,S1):=by unfold eF;rw[h1];simp only[cg];rw[h2]
theorem zo9{xss:List (List D)}(h1:aa σ S=some (ds,S1))(h2:2<=ds.length/\ds.length<=4)(h3:pU S1 ds=some xss):qz aa σ S=some (.zip ds,S1):=by unfold qz;rw[h1];simp only[cg];rw[if_pos h2,h3];rfl
theorem p6{fi:IF}{g:GF}{t:TF}{src:List (Option Nat)}{j:yQ}{n:Nat}{ys:List D}(h1:fi σ S=some (j,S1))(h2:sG j S1=some n)(hn:n<=sizeLine)(hτ:ou src σ=σ1)(h3:jC (di j) g t fe n 0 σ1 S1 []=some (ys,S2)):dg fi g t fe src σ S=some (.ref S2.length,S2++[.lst ys]):=by subst hτ;unfold dg Gm;rw[h1];simp only[cg];rw[h2];simp only[cg];rw[if_pos hn,h3];rfl
def xQ{nx:Nat->So->Option (Option D)}{g:GF}{t:TF}{i:Nat}{acc:List D}(h:nx i S=some none):jC nx g t fe 0 i σ S acc=some (acc,S):=by unfold jC;rw[h]
theorem nH{nx:Nat->So->Option (Option D)}{g:GF}{t:TF}{k i:Nat}{acc acc':List D}{r:Option (List D×So)}{S3:So}(h:nx i S=some (some d))(h1:g d σ S=some (σ1,S1))(h2:t σ1 S1=some (true,S2))(h3:fe σ1 S2=some (x,S3))(ha:acc++[x]=acc')(h4:jC nx g t fe k (i+1) σ1 S3 acc'=r):jC nx g t fe (k+1) i σ S acc=r:=by unfold jC;rw[h];simp only;rw[h1];simp only[cg];rw[h2];simp only[cg,if_true];rw[h3];rw[<-ha] at h4;exact h4
theorem jT{fi:IF}{g:GF}{f:SF}{j:yQ}{n:Nat}{r:SR}(h1:fi σ S=some (j,S1))(h2:sG j S1=some n)(h3:jG (di j) g f n 0 σ S1=r):mz fi g f σ S=r:=by unfold mz;rw[h1];simp only[cg];rw[h2];exact h3
def zB{nx:Nat->So->Option (Option D)}{g:GF}{f:SF}{i:Nat}(h:nx i S=some none):jG nx g f 0 i σ S=some (.nx,σ,S):=by unfold jG;rw[h]
noncomputable def wC(fl:Fl)(nx:Nat->So->Option (Option D))(g:GF)(f:SF)(k i:Nat)(σ:Sg)(S:So):SR:=match fl with
 |.nx=>jG nx g f k i σ S
 |.ct=>jG nx g f k i σ S
 |.bk=>some (.nx,σ,S)
 |.rt d=>some (.rt d,σ,S)
theorem fP{nx:Nat->So->Option (Option D)}{g:GF}{f:SF}{k i:Nat}{fl:Fl}{σ2:Sg}{r:SR}(h:nx i S=some (some d))(h1:g d σ S=some (σ1,S1))(h2:f σ1 S1=some (fl,σ2,S2))(h3:wC fl nx g f k (i+1) σ2 S2=r):jG nx g f (k+1) i σ S=r:=by unfold jG;rw[h];simp only;rw[h1];simp only[cg];rw[h2];simp only[cg];cases fl<;>exact h3
def kh{nx:Nat->So->Option (Option D)}{g:GF}{f:SF}{k i:Nat}{r:SR}(h:jG nx g f k i σ S=r):wC .nx nx g f k i σ S=r:=h
def p7{nx:Nat->So->Option (Option D)}{g:GF}{f:SF}{k i:Nat}:wC (.rt z) nx g f k i σ S=some (.rt z,σ,S):=rfl
def Y4{i:Nat}(h:xs[i]?=some d):di (.fix xs) i S=some (some d):=by show some xs[i]?=_;rw[h]
def jx{n i:Nat}(h1:S[n]?=some (.lst xs))(h:xs[i]?=some d):di (.lst n) i S=some (some d):=by unfold di;simp only;rw[h1];simp only;rw[h]
def X3{n i:Nat}{lo:Int}{z:Int}(h:i<n)(hz:lo+(i:Nat)=z):di (.fix (gO lo n)) i S=some (some (.int z)):=by unfold di;simp only;rw[J6,if_pos h,hz]
def cJ{o:O}:(S++[o])[S.length]?=some o:=by simp
def fK{o p:O}{n:Nat}(h:S[n]?=some o):(S++[p])[n]?=some o:=by rw[mZ (fu.mp h).1];exact h
end
noncomputable def fB:Nat->D->Bool
 |_,.non=>true
 |_,.int _=>true
 |_,.str x=>PyData.strOk x
 |n+1,.tup xs=>xs.all (fB n)
 |_,_=>false
noncomputable def lE:Nat->D->PyData
 |_,.int i => .int i
 |_,.str x => .str x
 |n+1,.tup xs => .tuple (xs.map (lE n))
 |_,_ => .none
theorem En{f:D->Option PyData}{g:D->PyData}:∀{xs:List D},(∀d∈xs,f d=some (g d))->m9 f xs=some (xs.map g)
 |[],_=>rfl
 |d::r,h=>by unfold m9;rw[h d fG,En (xs:=r) λe he=>h e (cQ _ he)];rfl
theorem zH{S:So}:∀{n:Nat} {d:D},fB n d=true->dO S (n+1) d=some (lE n d)
 |n,.obj _ _ _,h=>by cases n<;>cases h
 |n,.non,_=>by simp[dO];cases n<;>rfl
 |n,.int i,_=>by simp[dO];cases n<;>rfl
 |n,.str x,_=>by simp[dO];cases n<;>rfl
 |n+1,.tup xs,h=>by unfold fB at h;rw[List.all_eq_true] at h;unfold dO;rw[En λd hd=>zH (h d hd)];rfl
 |0,.tup xs,h=>by simp[fB] at h
 |_,.bl _,h=>by simp[fB] at h
 |_,.ref _,h=>by simp[fB] at h
 |_,.ty _,h=>by simp[fB] at h
 |_,.adr _,h=>by simp[fB] at h
theorem zR{S:So}:∀{n m:Nat} {d:D} {p:PyData},dO S n d=some p->n<=m->dO S m d=some p
 |0,_,_,_,h,_=>by simp[dO] at h
 |n+1,0,_,_,_,hm=>by omega
 |n+1,m+1,d,p,h,hm=>by
  have aux:∀{xs:List D} {ps:List PyData},m9 (dO S n) xs=some ps->m9 (dO S m) xs=some ps:=λ{xs}=>by
   induction xs with
   |nil=>intro ps e;exact e
   |cons x r ih =>
    intro ps e;simp only[m9,bf,aX] at e ⊢;obtain⟨q,e1,qs,e2,e3⟩:=e;exact⟨q,zR e1 (by omega),qs,ih e2,e3⟩
  cases d with
  |tup xs =>
   simp only[dO,aX] at h ⊢;obtain⟨ps,e1,e2⟩:=h;exact⟨ps,aux e1,e2⟩
  |ref k =>
   simp only[dO] at h ⊢;split at h
   .rename_i q;simp only[aX] at h ⊢;obtain⟨ps,e1,e2⟩:=h;exact⟨ps,aux e1,e2⟩
   .rename_i q;simp only[aX] at h ⊢;obtain⟨ps,e1,e2⟩:=h;exact⟨ps,aux e1,e2⟩
   .cases h
  |non=>simpa[dO] using h
  |bl b=>simpa[dO] using h
  |int i=>simpa[dO] using h
  |str x=>simpa[dO] using h
  |obj _ _ _=>simp[dO] at h
  |ty x=>simp[dO] at h
  |adr x=>simp[dO] at h
theorem Pg{ps:List PyData}(h:∀p∈ps,PyData.canLay0 p=true):PyData.canLayAll0 ps=true:=by
 induction ps with
 |nil=>rfl
 |cons p r ih=>unfold PyData.canLayAll0;rw[h p fG,ih λq hq=>h q (cQ _ hq)];rfl
theorem Pn{ps:List PyData}{n:Nat}(h:∀p∈ps,PyData.depth p<=n):PyData.depthAll ps<=n:=by
 induction ps with
 |nil=>exact Nat.zero_le _
 |cons p r ih=>unfold PyData.depthAll;exact Nat.max_le.mpr ⟨h p fG,ih λq hq=>h q (cQ _ hq)⟩
theorem zy:∀{n:Nat} {d:D},fB n d=true->PyData.canLay0 (lE n d)=true/\PyData.depth (lE n d)<=n
 |n,.obj _ _ _,h=>by cases n<;>cases h
 |n,.non,_=>by cases n<;>exact⟨rfl,Nat.zero_le _⟩
 |n,.int i,_=>by cases n<;>exact⟨rfl,Nat.zero_le _⟩
 |n,.str x,h=>by
  have h':PyData.strOk x=true:=by cases n<;>simpa[fB] using h
  cases n<;>exact⟨h',Nat.zero_le _⟩
 |n+1,.tup xs,h=>by
  unfold fB at h;rw[List.all_eq_true] at h;constructor
  .show PyData.canLayAll0 (xs.map (lE n))=true;refine Pg λp hp=>?_;obtain⟨d,hd,rfl⟩:=List.mem_map.mp hp;exact(zy (h d hd)).1
  .show PyData.depthAll (xs.map (lE n))+1<=n+1;refine Nat.succ_le_succ (Pn λp hp=>?_);obtain⟨d,hd,rfl⟩:=List.mem_map.mp hp;exact(zy (h d hd)).2
 |0,.tup xs,h=>by simp[fB] at h
 |_,.bl _,h=>by simp[fB] at h
 |_,.ref _,h=>by simp[fB] at h
 |_,.ty _,h=>by simp[fB] at h
 |_,.adr _,h=>by simp[fB] at h
theorem U5{n:Nat}{d:D}(h:fB n d=true)(hn:n<=64):SeqAt.shaped (lE n d)=true:=by unfold SeqAt.shaped;obtain⟨a,b⟩:=zy h;rw[a,Bool.true_and];exact decide_eq_true (by omega)
theorem QW{f:D->PyData}{xs:List D}:∀{ys:List D},(∀x∈xs,∀y∈ys,(PyData.eqv (f x) (f y)=true↔x=y))->(PyData.eqvAll (xs.map f) (ys.map f)=true↔xs=ys):=by
 induction xs with
 |nil=>intro ys h;cases ys<;>simp[PyData.eqvAll]
 |cons x r ih =>
  intro ys h;cases ys with
  |nil=>simp[PyData.eqvAll]
  |cons y s =>
   simp only[jq,PyData.eqvAll,dj,List.cons.injEq];rw[h x fG y fG,ih λa ha b hb=>h a (cQ _ ha) b (cQ _ hb)]
theorem QX:∀{n:Nat} {x y:D},fB n x=true->fB n y=true->(PyData.eqv (lE n x) (lE n y)=true↔x=y):=by
 intro n
 induction n with
 |zero =>
  intro x y hx hy;cases x<;>cases y<;>simp_all [fB,lE,PyData.eqv]
 |succ n ih =>
  intro x y hx hy;cases x<;>cases y<;>simp_all [fB,lE,PyData.eqv];exact QW λa ha b hb=>ih (hx a ha) (hy b hb)
open Classical in
theorem QV{S:So}{x y:D}(n:Nat)(hx:fB n x=true)(hy:fB n y=true)(hn:n<=23:=by decide):lF S x y=some (decide (x=y)):=by unfold lF;rw[zR (zH hx) (by omega),zR (zH hy) (by omega)];simp only[cg];rw[if_pos ⟨U5 hx (by omega),U5 hy (by omega)⟩];congr 1;rw[Bool.eq_iff_iff,QX hx hy,lX]
open Classical in
theorem ZS{S:So}{n m:Nat}{xs ys:List D}(k:Nat)(h1:S[n]?=some (.lst xs)\/S[n]?=some (.frz xs))(h2:S[m]?=some (.lst ys)\/S[m]?=some (.frz ys))(hx:∀x∈xs,fB k x=true)(hy:∀y∈ys,fB k y=true)(hk:k<=20:=by decide):
 lF S (.ref n) (.ref m)=some (decide (xs=ys)):=by
 have e1:dO S (k+2) (.ref n)=some (.list (xs.map (lE k))):=by unfold dO;rcases h1 with h1|h1<;>(rw[h1];simp only;rw[En λd hd=>zH (hx d hd)];rfl)
 have e2:dO S (k+2) (.ref m)=some (.list (ys.map (lE k))):=by unfold dO;rcases h2 with h2|h2<;>(rw[h2];simp only;rw[En λd hd=>zH (hy d hd)];rfl)
 have sh:∀zs:List D,(∀z∈zs,fB k z=true)->SeqAt.shaped (.list (zs.map (lE k)))=true:=λzs hz=>by
  unfold SeqAt.shaped;rw[dj];constructor
  .show PyData.canLayAll0 _=true;refine Pg λp hp=>?_;obtain⟨d,hd,rfl⟩:=List.mem_map.mp hp;exact(zy (hz d hd)).1
  .refine decide_eq_true ?_;show PyData.depthAll _+1<=64;have:PyData.depthAll (zs.map (lE k))<=k:=Pn λp hp=>by obtain⟨d,hd,rfl⟩:=List.mem_map.mp hp;exact(zy (hz d hd)).2
   omega
 unfold lF;rw[zR e1 (by omega),zR e2 (by omega)];simp only[cg];rw[if_pos ⟨sh xs hx,sh ys hy⟩];congr 1;rw[Bool.eq_iff_iff,lX];show PyData.eqvAll _ _=true↔_;exact QW λa ha b hb=>QX (hx a ha) (hy b hb)
section
variable {S:So}{x y:D}
noncomputable def Bt:D->D->Bool
 |.int _,.int _=>false
 |_,_=>true
open Classical in
theorem u9(h:Bt x y=true)(n:Nat)(hx:fB n x=true)(hy:fB n y=true)(hn:n<=23):aW .Eq x y S=some (.bl (decide (x=y)),S):=by
 have e:aW .Eq x y S=(lF S x y).map λb=>(.bl b,S):=by cases x<;>cases y<;>first|rfl|cases h
 rw[e,QV n hx hy hn];rfl
open Classical in
theorem XD(h:Bt x y=true)(n:Nat)(hx:fB n x=true)(hy:fB n y=true)(hn:n<=23):aW .NotEq x y S=some (.bl (!decide (x=y)),S):=by
 have e:aW .NotEq x y S=(lF S x y).map λb=>(.bl (!b),S):=by cases x<;>cases y<;>first|rfl|cases h
 rw[e,QV n hx hy hn];rfl
open Classical in
theorem Qh{n m:Nat}{xs ys:List D}(k:Nat)(h1:S[n]?=some (.lst xs)\/S[n]?=some (.frz xs))(h2:S[m]?=some (.lst ys)\/S[m]?=some (.frz ys))(hx:∀x∈xs,fB k x=true)(hy:∀y∈ys,fB k y=true)(hk:k<=20):
 aW .Eq (.ref n) (.ref m) S=some (.bl (decide (xs=ys)),S):=by
 show(lF S (.ref n) (.ref m)).map _=_;rw[ZS k h1 h2 hx hy hk];rfl
end
end MX
end
section
namespace MX
open PySem L2
open Builtin.Int (intBits)
def Bd(k:Nat)(x:Int):Prop:=x.natAbs<2 ^ k
def Bd.le{k l:Nat}{x:Int}(h:Bd k x)(hl:k<=l):Bd l x:=dM h (Nat.pow_le_pow_right (by decide) hl)
theorem Bd.add{k l:Nat}{x y:Int}(h:Bd k x)(g:Bd l y):Bd (max k l+1) (x+y):=by
 have h1:=h.le (Nat.le_max_left k l);have h2:=g.le (Nat.le_max_right k l);unfold Bd at *
 rw[Nat.pow_succ];have:=Int.natAbs_add_le x y;omega
def Bd.neg{k:Nat}{x:Int}(h:Bd k x):Bd k (-x):=by unfold Bd at *;rw[Int.natAbs_neg];exact h
def Bd.sub{k l:Nat}{x y:Int}(h:Bd k x)(g:Bd l y):Bd (max k l+1) (x - y):=by rw[Int.sub_eq_add_neg];exact h.add g.neg
def Bd.mul{k l:Nat}{x y:Int}(h:Bd k x)(g:Bd l y):Bd (k+l) (x*y):=by
 unfold Bd at *
 rw[Int.natAbs_mul,Nat.pow_add];exact Nat.mul_lt_mul'' h g
def Bd.lit(x:Int):Bd (intBits x) x:=by
 unfold Bd intBits;split
 .rename_i h;have:x=0:=by simpa using h
  subst this;decide
 .exact Nat.lt_log2_self
def Bd.fmod{m x:Int}(h:0<m):Bd (intBits m) (x.fmod m):=by
 have h1:=uO x h;have h2:=wY x h;have h3:=Bd.lit m;unfold Bd at *
 omega
theorem Zk{i j:Int}{S:So}(h:0<=j/\j<=1000000/\i.natAbs<2 ^ 64):aP .LShift (.int i) (.int j) S=some (.int (i*2 ^ j.toNat),S):=by unfold aP rK;simp only;rw[if_pos h]
theorem Bd.bits{k:Nat}{x:Int}(h:Bd k x):intBits x<=k:=by
 unfold Bd at h;unfold intBits;split
 .exact Nat.zero_le _
 .rename_i hn;have hx:x.natAbs≠0:=λe=>hn (by have:=Int.natAbs_eq_zero.mp e;subst this;rfl);exact(Nat.log2_lt hx).mpr h
theorem vp{k l:Nat}{x y:Int}(h:Bd k x)(g:Bd l y)(hl:k+l<=134217728):eE x y=true:=by unfold eE;have h1:=h.bits;have h2:=g.bits;rw[nZ];exact .inr (decide_eq_true (by omega))
def Q7{x y:Int}(h:intBits y<=64):eE x y=true:=by unfold eE;rw[nZ,nZ];exact .inl (.inr (decide_eq_true h))
theorem Sw{k:Nat}{y:Int}(h:Bd k y)(h0:y≠0)(hl:k<=8000):eZ y=true:=by unfold eZ;have:=h.bits;rw[dj];exact⟨decide_eq_true h0,decide_eq_true (by omega)⟩
noncomputable abbrev P3(x y z:Int):D := .tup [.int x,.int y,.int z]
noncomputable abbrev R2(x y:Int):D := .tup [.int x,.int y]
end MX
namespace MX
open PySem L2
theorem D.lo_mono:∀{d:D} {n m:Nat},n<=m->D.lo n d=true->D.lo m d=true:=by
 have key:∀(k:Nat) (d:D) (n m:Nat),sizeOf d<=k->n<=m->D.lo n d=true->D.lo m d=true:=by
  intro k
  induction k with
  |zero=>intro d n m hk;cases d<;>simp at hk
  |succ k ih =>
   intro d n m hk hm h;cases d with
   |tup xs =>
    rw[D.lo] at h ⊢;have aux:∀ys:List D,sizeOf ys<=k->cV n ys=true->cV m ys=true:=by
     intro ys
     induction ys with
     |nil=>intro _ _;simp[cV]
     |cons y r ihr =>
      intro hs hl;rw[cV,dj] at hl ⊢;simp at hs;exact⟨ih y n m (by omega) hm hl.1,ihr (by omega) hl.2⟩
    exact aux xs (by simp at hk;omega) h
   |obj _ _ xs =>
    rw[D.lo] at h ⊢;have aux:∀ys:List D,sizeOf ys<=k->cV n ys=true->cV m ys=true:=by
     intro ys
     induction ys with
     |nil=>intro _ _;simp[cV]
     |cons y r ihr =>
      intro hs hl;rw[cV,dj] at hl ⊢;simp at hs;exact⟨ih y n m (by omega) hm hl.1,ihr (by omega) hl.2⟩
    exact aux xs (by simp at hk;omega) h
   |ref j=>rw[D.lo] at h ⊢;exact decide_eq_true (dM (of_decide_eq_true h) hm)
   |_=>simp[D.lo]
 exact λ{d n m} hm h=>key (sizeOf d) d n m (bZ _) hm h
def lz{n:Nat}:∀{xs:List D},cV n xs=true↔∀x∈xs,D.lo n x=true
 |[]=>by simp[cV]
 |x::r=>by rw[cV,dj,lz (xs:=r)];simp
def Js{n m:Nat}{xs:List D}(hm:n<=m)(h:cV n xs=true):cV m xs=true:=lz.mpr λx hx=>D.lo_mono hm (lz.mp h x hx)
theorem O.lo_mono{n m:Nat}{o:O}(hm:n<=m)(h:O.lo n o=true):O.lo m o=true:=by
 cases o with
 |lst xs=>exact Js hm h
 |frz xs=>exact Js hm h
 |ins C fs=>exact Js hm h
 |dct xs=>rfl
 |tbl x=>rfl
theorem WF.snoc{S:So}{o:O}(h:WF S)(ho:O.lo S.length o=true):WF (S++[o]):=λp hp=>by
 rw[lH,List.length_singleton];rcases lZ.mp hp with hp|hp
 .exact O.lo_mono (Nat.le_succ _) (h p hp)
 .rw[List.mem_singleton.mp hp];exact O.lo_mono (Nat.le_succ _) ho
def Ip(n:Nat)(ns:List Int):O.lo n (.lst (ns.map .int))=true:=lz.mpr λx hx=>by obtain⟨i,_,rfl⟩:=List.mem_map.mp hx;simp[D.lo]
end MX
namespace MX.P
open PySem L2 MX
noncomputable abbrev Pt:=Int×Int×Int
noncomputable abbrev pD(p:Pt):D:=P3 p.1 p.2.1 p.2.2
def lo_pts(n:Nat)(pts:List Pt):O.lo n (.lst (pts.map pD))=true:=lz.mpr λx hx=>by obtain⟨i,_,rfl⟩:=List.mem_map.mp hx;simp[D.lo,cV]
theorem Qs{fe:EF}{S:So}{m:Nat}{rest:Sg}(h:Nat->D)(hstep:∀k:Nat,k<m->fe (some (.int (k:Nat))::rest) S=some (h k,S)):
 jC (di (.fix (gO 0 m))) (aM 0) cY fe m 0 (none::rest) S []=some ((List.range m).map h,S):=by
 have hl:(gO 0 m).length=m:=by simp[gO]
 have:=Eu (nx:=di (.fix (gO 0 m))) (g:=aM 0) (t:=cY) (fe:=fe) (S:=S) (xs:=gO 0 m) (λτ=>∃v,τ=v::rest) (λ_=>true) (λd=>match d with|.int i=>h i.toNat|_ => .non)
  (λi=>rfl) (λd hd τ hT=>?_) m 0 (none::rest) [] ⟨none,rfl⟩ (by rw[hl];omega)
 .rw[this,uD,List.drop_zero,List.filter_eq_self.mpr (λ_ _=>rfl)];congr 2;unfold gO;rw[List.map_map];refine List.map_congr_left λk _=>?_;show h ((0:Int)+(k:Nat)).toNat=h k;congr 1;omega
 .obtain⟨v,rfl⟩:=hT;unfold gO at hd;obtain⟨k,hk,rfl⟩:=List.mem_map.mp hd;refine⟨some (.int ((0:Int)+(k:Nat)))::rest,rfl,⟨_,rfl⟩,rfl,λ_=>?_⟩;have e:((0:Int)+(k:Nat))=(k:Nat):=by omega
  rw[e,hstep k (List.mem_range.mp hk)];congr
end MX.P
end
open MX
local macro_rules | `(tactic| wtm_at "?p") => `(tactic| first | rfl | assumption | exact jw (by first | assumption | rfl | omega) | exact fM (by first | assumption | omega) | (simp only [Bool.not_eq_true', Bool.not_eq_false', Bool.not_true, Bool.not_false, lX, decide_eq_false_iff_not, oF]; first | assumption | omega))
local macro_rules | `(tactic| wtm_at "?e") => `(tactic| first | assumption | exact cJ | (apply fK; wtm_at "?e"))
local macro_rules | `(tactic| wtm_at "?f") => `(tactic| first | assumption | ((with_reducible apply Bd.mul); (·wtm_at "?f"); (·wtm_at "?f")) | ((with_reducible apply Bd.add); (·wtm_at "?f"); (·wtm_at "?f")) | ((with_reducible apply Bd.sub); (·wtm_at "?f"); (·wtm_at "?f")) | ((with_reducible apply Bd.neg); wtm_at "?f") | ((with_reducible apply Bd.fmod); decide) | ((with_reducible apply Bd.fmodV); (focus first | assumption | decide); (·wtm_at "?f")) | ((with_reducible apply Bd.fdiv); (·wtm_at "?f"); (focus first | decide | assumption | omega)) | exact Bd.lit _)
local macro_rules | `(tactic| wtm_at "?u") => `(tactic| (apply Bd.le; (·wtm_at "?f"); (focus first | decide | (simp only [Nat.reduceAdd, Nat.reduceMax, Nat.max_self]; omega))))
local macro_rules | `(tactic| wtm_at "?k") => `(tactic| first | assumption | rfl | wtm_at "?e" | (refine Q7 (by decide)) | (refine mulOk_l (by decide)) | (apply vp; (·wtm_at "?f"); (·wtm_at "?f"); (focus first | decide | omega)) | wtm_at "?u" | decide | omega)
local macro_rules | `(tactic| wtm_at "?l") => `(tactic| first | assumption | ((with_reducible apply WF.snoc); (·wtm_at "?l"); (focus first | exact Ip _ _ | assumption | rfl)))
local macro_rules | `(tactic| wtm_at "?h") => `(tactic| first
 | (with_reducible first|exact DY|exact Zm|exact Ht|exact DK|exact Hs|exact XJ|exact xN|exact XM|exact pZ|exact zT|exact XF)
 | ((with_reducible apply vf);wtm_at "?k")|((with_reducible apply Ea);wtm_at "?k")|((with_reducible apply u5);first|decide|wtm_at "?k")|((with_reducible apply Zk);decide)
 | ((with_reducible apply gb);first|(with_reducible assumption)|rfl)|((with_reducible apply zx);(·wtm_at "?e");(focus first|(with_reducible assumption)|rfl))|((with_reducible apply Qj);(·wtm_at "?e");(focus first|(with_reducible assumption)|rfl))
 | (refine u9 ?_ 8 ?_ ?_ ?_<;>first | decide +kernel | rfl | decide) | (refine XD ?_ 8 ?_ ?_ ?_<;>first | decide +kernel | rfl | decide))
local macro_rules | `(tactic| wtm_at "?m") => `(tactic| first
 | ((with_reducible apply lN);exact sH rfl)|((with_reducible apply vd);exact sH rfl)|(with_reducible first|exact zo8|exact zmJ|exact zmL|exact ev_min2|exact zo6|exact Qe|exact SN)
 | ((with_reducible apply qR);wtm_at "?e")|((with_reducible apply Ih);wtm_at "?e")|((with_reducible apply Ud);wtm_at "?e")|((with_reducible apply SM);wtm_at "?e")
 | ((with_reducible apply QZ);(·wtm_at "?e");(·rfl))|((with_reducible apply zmK);(·wtm_at "?e");(·rfl);(·rfl))|((with_reducible apply SQ);(·wtm_at "?e");(·rfl);(·rfl))|((with_reducible apply ev_minT');(·rfl);(·rfl))|((with_reducible apply ev_maxT');(·rfl);(·rfl))
 | ((with_reducible apply cM);(·rfl);(·wtm_at "?d")))
local macro_rules | `(tactic| wtm_at "?q") => `(tactic| first | rfl | (with_reducible assumption) | exact jw (by with_reducible assumption) | exact fM (by with_reducible assumption) | exact jw rfl)
local macro_rules | `(tactic| wtm_at "?i") => `(tactic| first | (apply d9; (·wtm_at "?q"); wtm_at "?a") | (apply dI; (·wtm_at "?q"); wtm_at "?a") | (apply d9; (·wtm_at "?p"); wtm_at "?a") | (apply dI; (·wtm_at "?p"); wtm_at "?a"))
local macro_rules | `(tactic| wtm_at "?v") => `(tactic| first | (simp only [List.set_cons_zero, List.set_cons_succ, List.set]; done) | (simp only [List.set_cons_zero, List.set_cons_succ, List.set]; rfl) | rfl)
local macro_rules | `(tactic| wtm_at "?g") => `(tactic| first
 | ((with_reducible apply dw);wtm_at "?v")
 | ((with_reducible apply Qi);(·rfl);(·wtm_at "?g"))
 | ((with_reducible apply JS);(·wtm_at "?g");(·wtm_at "?g"))
 | (with_reducible exact Sx))
local macro_rules | `(tactic| wtm_at "?a") => `(tactic| first
 | (with_reducible exact bF)|((with_reducible apply aF);rfl)
 | ((with_reducible apply bC);(·wtm_at "?a");(·wtm_at "?a");(·wtm_at "?h"))
 | ((with_reducible apply aZ);(·wtm_at "?a");(·wtm_at "?m"))
 | ((with_reducible apply aK);(·wtm_at "?a");(·wtm_at "?a"))|(with_reducible exact aY)
 | ((with_reducible apply aL);(·wtm_at "?a");(·wtm_at "?n"))
 | ((with_reducible apply eG);wtm_at "?a")|(with_reducible first|exact eX|exact ev_sRetN|exact Q5|exact ev_sBrk)
 | ((with_reducible apply cN);(·wtm_at "?a");(·wtm_at "?g"))
 | ((with_reducible apply dF);(·wtm_at "?a");(·wtm_at "?i"))
 | ((with_reducible apply tK);wtm_at "?a")
 | ((with_reducible apply fY);wtm_at "?a")|((with_reducible apply Rq);wtm_at "?a")
 | ((with_reducible apply zo5);(·wtm_at "?a");(·wtm_at "?i"))|((with_reducible apply jU);(·wtm_at "?a");(·wtm_at "?i"))
 | ((with_reducible apply Em);(·wtm_at "?a");(·rfl))
 | ((with_reducible apply XH);(·wtm_at "?a");(·wtm_at "?h"))
 | ((with_reducible apply Jk);wtm_at "?a")
 | ((with_reducible apply xU);(·wtm_at "?a");(·wtm_at "?i"))|((with_reducible apply u6);(·wtm_at "?a");(·wtm_at "?i"))
 | ((with_reducible apply zu);(·wtm_at "?a");(·wtm_at "?i"))
 | ((with_reducible apply xP);(·wtm_at "?a");(·wtm_at "?a");(·wtm_at "?a");(·wtm_at "?w"))|(with_reducible exact zO)|((with_reducible apply zP);wtm_at "?a")
 | ((with_reducible apply p6);(·wtm_at "?j");(·rfl);(focus exact sH rfl);(focus simp only[ou,jq,List.map_nil,cg,Option.bind_none,List.getElem?_cons_zero,List.getElem?_cons_succ,Option.join_some];rfl);(·wtm_at "?r"))
 | ((with_reducible apply jT);(·wtm_at "?j");(·rfl);(·wtm_at "?o"))
 | (with_reducible exact nO)
 |exact rfl)
local macro_rules | `(tactic| wtm_at "?j") => `(tactic| first | ((with_reducible apply El); (·wtm_at "?a"); (focus decide)) | ((with_reducible apply Sy); wtm_at "?a") | ((with_reducible apply zo9); (·wtm_at "?a"); (focus exact ⟨sH rfl, sH rfl⟩); (·rfl)) | ((with_reducible apply nJ); (·wtm_at "?a"); (·wtm_at "?e")))
local macro_rules | `(tactic| wtm_at "?r") => `(tactic| first | (apply nH; (·wtm_at "?s"); (·wtm_at "?g"); (·wtm_at "?a"); (·wtm_at "?a"); (focus simp only [uD, List.cons_append]; rfl); (·wtm_at "?r")) | (apply xQ; rfl))
local macro_rules | `(tactic| wtm_at "?t") => `(tactic| first | (simp only [List.getElem?_cons_zero, List.getElem?_cons_succ]; done) | (simp only [List.getElem?_cons_zero, List.getElem?_cons_succ]; rfl) | rfl)
local macro_rules | `(tactic| wtm_at "?s") => `(tactic| first | ((with_reducible apply X3); (focus decide); (focus first | (simp; rfl) | rfl)) | ((with_reducible apply Y4); wtm_at "?t") | ((with_reducible apply jx); (·wtm_at "?e"); (·wtm_at "?t")) | rfl)
local macro_rules | `(tactic| wtm_at "?o") => `(tactic| first | (apply fP; (·wtm_at "?s"); (·wtm_at "?g"); (·wtm_at "?a"); (·wtm_at "?x")) | (apply zB; rfl))
local macro_rules | `(tactic| wtm_at "?x") => `(tactic| first | (with_reducible first | exact p7 | exact forK_bk) | ((with_reducible apply kh); wtm_at "?o") | ((with_reducible apply forK_ct); wtm_at "?o"))
local macro_rules | `(tactic| wtm_at "?w") => `(tactic| first | ((with_reducible apply Hz); (focus exact of_decide_eq_false rfl); (focus first | exact Er | exact Ss)) | ((with_reducible apply Hy); (·wtm_at "?e"); (focus first | exact Er | exact Ss | rfl)))
local macro_rules | `(tactic| wtm_at "?n") => `(tactic| first | exact cL | ((with_reducible apply aV); wtm_at "?a") | (with_reducible first | exact seqK_bk | exact Jc))
local macro_rules | `(tactic| wtm_at "?b") => `(tactic| simp only [mQ, jq, List.map_nil, jf, uQ, Nat.reduceAdd, Nat.reduceSub, Nat.zero_add, Nat.sub_self, List.replicate, List.cons_append, uD, List.append_nil])
local macro_rules | `(tactic| wtm_at "?c") => `(tactic| first | exact lY | simp [List.take_append])
local macro_rules | `(tactic| wtm_at "?y") => `(tactic| first | assumption | (apply Gr.refl; wtm_at "?l") | ((with_reducible apply Gr.snoc); (·wtm_at "?y"); (focus first | exact Ip _ _ | exact MX.P.lo_pts _ _ | rfl | assumption)))
section
namespace MX.P
open PySem L2 MX
theorem Vy(a b c d e f:Int)(S:So):d8 [P3 a b c,P3 d e f] S=some (P3 (d - a) (e - b) (f - c),S):=by refine bK (σ':=[some (P3 a b c),some (P3 d e f)]) (S':=S) ?_ (by simp) rfl;show LK [some (P3 a b c),some (P3 d e f)] S=_;unfold LK;wtm_at "?a"
theorem Z3{k l:Nat}{a b c d e f:Int}(ha:Bd k a)(hb:Bd k b)(hc:Bd k c)(hd:Bd l d)(he:Bd l e)(hf:Bd l f)(hk:k+l<=134217728)(S:So):fO [P3 a b c,P3 d e f] S=some (.int (a*d+b*e+c*f),S):=by refine bK (σ':=[some (P3 a b c),some (P3 d e f)]) (S':=S) ?_ (by simp) rfl;show Hj [some (P3 a b c),some (P3 d e f)] S=_;unfold Hj;wtm_at "?a"
theorem zlQ{k l:Nat}{a b c d e f:Int}(ha:Bd k a)(hb:Bd k b)(hc:Bd k c)(hd:Bd l d)(he:Bd l e)(hf:Bd l f)(hk:k+l<=134217728)(S:So):jz [P3 a b c,P3 d e f] S=some (P3 (b*f - c*e) (c*d - a*f) (a*e - b*d),S):=by refine bK (σ':=[some (P3 a b c),some (P3 d e f)]) (S':=S) ?_ (by simp) rfl;show Ib [some (P3 a b c),some (P3 d e f)] S=_;unfold Ib;wtm_at "?a"
theorem sp_is_less{k l:Nat}{a b c d:Int}(ha:Bd k a)(hb:Bd k b)(hc:Bd l c)(hd:Bd l d)(hk:k+l<=134217728)(S:So):p8 [R2 a b,R2 c d] S=some (.bl (decide (a*d<c*b)),S):=by refine bK (σ':=[some (R2 a b),some (R2 c d)]) (S':=S) ?_ (by simp) rfl;show JM [some (R2 a b),some (R2 c d)] S=_;unfold JM;wtm_at "?a"
noncomputable def Dg(c k:Int):Int:=(((c*6364136223846793005+(k+1)*1442695040888963407).fmod 340282366920938463463374607431768211507)*((c*6364136223846793005+(k+1)*1442695040888963407).fmod 340282366920938463463374607431768211507)).fmod 340282366920938463463374607431768211297
theorem sp_drawn(c k:Int)(S:So):yr [.int c,.int k] S=some (.int (Dg c k),S):=by refine bK (σ':=[some (.int c),some (.int k),some (.int ((c*6364136223846793005+(k+1)*1442695040888963407).fmod 340282366920938463463374607431768211507))]) (S':=S) ?_ (by simp) rfl;show zdt [some (.int c),some (.int k),none] S=_;unfold zdt;wtm_at "?a"
end MX.P
end
section
local macro_rules | `(tactic| wtm_at "?d") => `(tactic| exact MX.P.sp_drawn _ _ _)
namespace MX.P
open PySem L2 MX
noncomputable def jJ(ns:List Int)(k:Int):Int:=if ns=[] then k*7919 else(ns[(k.fmod ns.length).toNat]?.getD 0)+k.fdiv ns.length*104729
def rC(k:Nat)(ns:List Int):∀x∈ns.map D.int,fB k x=true:=λx hx=>by obtain⟨n,_,rfl⟩:=List.mem_map.mp hx;cases k<;>rfl
theorem tH{ns:List Int}(hn:ns.length<=63)(k:Int){S:So}(h:S[0]?=some (.frz (ns.map .int))):oO [.ref 0,.int k] S=some (.int (jJ ns k),S):=by
 have e1:bG (eB (aW .Eq) (aj 0) (eN iB aA)) [some (.ref 0),some (.int k)] S=some (decide (ns.map D.int=[]),S++[.lst []]):=by
  apply fY;apply bC
  .wtm_at "?a"
  .wtm_at "?a"
  .rw[Qh 0 (.inr (fK h)) (.inl cJ) (rC 0 ns) (by simp) (by decide)]
 by_cases hz:ns=[]
 .apply bK
  .wtm_at "?b"
   unfold KC;apply aL
   .apply dF
    .exact e1
    .apply d9
     .simp[hz]
     .wtm_at "?a"
   .have:jJ ns k=k*7919:=by unfold jJ;rw[if_pos hz]
    rw[this];wtm_at "?n"
  .simp
  .rfl
 .have hl:0<ns.length:=List.length_pos_iff.mpr hz;have hl':(0:Int)<((ns.map D.int).length:Int):=by simp;omega
  have h1:=uO k hl';have h2:=wY k hl';have hb:Bd 7 ((ns.map D.int).length:Int):=by unfold Bd;simp;omega
  have e2:eH (ns.map D.int) (k.fmod ((ns.map D.int).length:Int))=some (.int (ns[(k.fmod ns.length).toNat]?.getD 0)):=by
   unfold eH uc;rw[if_pos h1,if_pos h2];simp only[dJ] at h2 h1 ⊢;simp only[cg,jg];have:(k.fmod (ns.length:Int)).toNat<ns.length:=by omega
   rw[gG this];rfl
  apply bK
  .wtm_at "?b"
   unfold KC;apply aL
   .apply dF
    .exact e1
    .apply dI
     .simp[hz]
     .wtm_at "?a"
   .apply aV;apply aL
    .apply eG;apply bC
     .apply bC
      .wtm_at "?a"
      .apply bC
       .wtm_at "?a"
       .apply aZ
        .wtm_at "?a"
        .exact Ih (fK h)
       .exact Ea (by omega)
      .exact Qj (fK h) e2
     .apply bC
      .apply bC
       .wtm_at "?a"
       .apply aZ
        .wtm_at "?a"
        .exact Ih (fK h)
       .exact u5 (Sw hb (by omega) (by decide))
      .wtm_at "?a"
      .exact vf (Q7 (by decide))
     .exact DY
    .have:jJ ns k=(ns[(k.fmod ns.length).toNat]?.getD 0)+k.fdiv ((ns.map D.int).length:Int)*104729:=by unfold jJ;rw[if_neg hz,dJ]
     rw[this];exact cL
  .simp
  .rfl
end MX.P
end
section
namespace MX.P
open PySem L2 MX
noncomputable def co(k:Int)(p:Pt):Int:=if k=0 then p.1 else if k=1 then p.2.1 else p.2.2
theorem nG{k:Int}(h0:0<=k)(h2:k<=2)(p:Pt):eH [D.int p.1,.int p.2.1,.int p.2.2] k=some (.int (co k p)):=by
 have:k=0\/k=1\/k=2:=by omega
 rcases this with rfl|rfl|rfl<;>rfl
theorem zoR{σ:Sg}{S:So}{i j n:Nat}{k:Int}{pts:List Pt}(hi:σ[i]?=some (some (.ref n)))(hj:σ[j]?=some (some (.int k)))(hn:S[n]?=some (.lst (pts.map pD)))(hl:pts.length<=1000)(h0:0<=k)(h2:k<=2):
 dg (eF (aj i)) (aM 0) cY (eB aJ (aj 0) (aj 1)) [none,some j] σ S=some (.ref S.length,S++[.lst ((pts.map (co k)).map .int)]):=by
 have key:jC (di (.lst n)) (aM 0) cY (eB aJ (aj 0) (aj 1)) (pts.map pD).length 0 [none,some (.int k)] S []=some ((pts.map (co k)).map .int,S):=by
  have:=Eu (nx:=di (.lst n)) (g:=aM 0) (t:=cY) (fe:=eB aJ (aj 0) (aj 1)) (S:=S) (xs:=pts.map pD) (λτ=>∃v,τ=[v,some (.int k)]) (λ_=>true) (λd=>match d with|.tup xs=>(eH xs k).getD .non|_ => .non)
   (λi=>by unfold di;simp only;rw[hn]) (λd hd τ hT=>?_) (pts.map pD).length 0 [none,some (.int k)] [] ⟨none,rfl⟩ (by simp)
  .rw[this];congr 2;rw[uD,List.drop_zero,List.filter_eq_self.mpr (λ_ _=>rfl),List.map_map,List.map_map];refine List.map_congr_left λp _=>?_;show(eH [D.int p.1,.int p.2.1,.int p.2.2] k).getD .non=_;rw[nG h0 h2];rfl
  .obtain⟨v,rfl⟩:=hT;obtain⟨p,_,rfl⟩:=List.mem_map.mp hd;refine⟨[some (pD p),some (.int k)],rfl,⟨_,rfl⟩,rfl,λ_=>?_⟩;apply bC
   .wtm_at "?a"
   .wtm_at "?a"
   .show aJ (.tup [D.int p.1,.int p.2.1,.int p.2.2]) (.int k) S=_;rw[gb (nG h0 h2 p)];show _=some ((eH [D.int p.1,.int p.2.1,.int p.2.2] k).getD .non,S);rw[nG h0 h2];rfl
 apply p6
 .exact nJ (aF hi) hn
 .show(match S[n]? with|some (.lst xs)=>some xs.length|some (.frz xs)=>some xs.length|_=>none)=_;rw[hn]
 .rw[sizeLine_eq,dJ];omega
 .simp only[ou,jq,List.map_nil,cg,Option.bind_none,hj,Option.join_some];rfl
 .exact key
theorem sp_numbers_at{S:So}{n:Nat}{k:Int}{pts:List Pt}(hS:WF S)(hn:S[n]?=some (.lst (pts.map pD)))(hl:pts.length<=1000)(h0:0<=k)(h2:k<=2):
 Fp [.ref n,.int k] S=some (.ref S.length,S++[.lst ((pts.map (co k)).map .int)]):=by
 apply zF
 .wtm_at "?b"
  unfold Vm;apply aL
  .apply eG;exact zoR rfl rfl hn hl h0 h2
  .exact cL
 .intro h;simp[D.lo] at h
 .simp
 .simp[D.lo]
 .exact hS.snoc (Ip _ _)
def HD{ns:List Int}(h:ns≠[]):∃m,jh ns=some m:=by cases ns with|nil=>exact absurd rfl h|cons _ _=>exact⟨_,rfl⟩
def DQ{ns:List Int}(h:ns≠[]):∃m,jk ns=some m:=by cases ns with|nil=>exact absurd rfl h|cons _ _=>exact⟨_,rfl⟩
end MX.P
local macro_rules | `(tactic| wtm_at "?d") => `(tactic| (apply MX.P.sp_numbers_at; (·wtm_at "?l"); (·wtm_at "?e"); (·assumption); (focus decide); (focus decide)))
local macro_rules | `(tactic| wtm_at "?m") => `(tactic| first | ((with_reducible apply Ii); (·wtm_at "?e"); (·assumption)) | ((with_reducible apply Q0); (·wtm_at "?e"); (·assumption)))
namespace MX.P
theorem zgf{S:So}{n:Nat}{pts:List Pt}{a0 a1 a2 b0 b1 b2:Int}(hS:WF S)(hn:S[n]?=some (.lst (pts.map pD)))(hl:pts.length<=1000)(h0:jh (pts.map (co 0))=some a0)(h1:jh (pts.map (co 1))=some a1)(h2:jh (pts.map (co 2))=some a2)(g0:jk (pts.map (co 0))=some b0)(g1:jk (pts.map (co 1))=some b1)(g2:jk (pts.map (co 2))=some b2):
 yt [.ref n] S=some (.tup [P3 a0 a1 a2,P3 b0 b1 b2],S):=by
 apply bK
 .wtm_at "?b"
  unfold Vl;wtm_at "?a"
 .wtm_at "?c"
 .rfl
theorem sp_are_in_order{S:So}{a b c d e f:Int}:K4 [P3 a b c,P3 d e f] S=some (.bl ([decide (a<=d),decide (b<=e),decide (c<=f)].all id),S):=by
 apply bK
 .wtm_at "?b"
  unfold VN;wtm_at "?a"
 .wtm_at "?c"
 .rfl
theorem zi2:¬(D.tup [.str "triangle"]=D.tup [.str "box"]):=by intro h;simp only[D.tup.injEq,List.cons.injEq,D.str.injEq,and_true] at h;exact absurd h (by decide +kernel)
end MX.P
local macro_rules | `(tactic| wtm_at "?d") => `(tactic| exact MX.P.sp_are_in_order)
namespace MX.P
theorem VH{S:So}{a b c:D}:yj [.tup [.str "triangle",a,b,c]] S=some (.bl true,S):=by
 have:=zi2;apply bK
 .wtm_at "?b"
  unfold JZ;wtm_at "?a"
 .wtm_at "?c"
 .rfl
theorem VG{S:So}{a b c d e f:Int}(h1:a<=d)(h2:b<=e)(h3:c<=f):yj [.tup [.str "box",P3 a b c,P3 d e f]] S=some (.bl true,S):=by
 have h:[decide (a<=d),decide (b<=e),decide (c<=f)].all id=true:=by simp[h1,h2,h3]
 apply bK
 .wtm_at "?b"
  unfold JZ;rw[<-h];wtm_at "?a"
 .wtm_at "?c"
 .rfl
end MX.P
end
section
local macro_rules | `(tactic| wtm_at "?d") => `(tactic| (with_reducible assumption))
namespace MX.P
open PySem L2 MX
def V3{S:So}{sh:D}(h:yj [sh] S=some (.bl true,S)):Ad [sh] S=some (.non,S):=by
 apply UJ
 .wtm_at "?b"
  unfold V6;wtm_at "?a"
 .wtm_at "?c"
structure lW(pts:List Pt)(lo hi:Pt):Prop where
 h0:jh (pts.map (co 0))=some lo.1
 h1:jh (pts.map (co 1))=some lo.2.1
 h2:jh (pts.map (co 2))=some lo.2.2
 g0:jk (pts.map (co 0))=some hi.1
 g1:jk (pts.map (co 1))=some hi.2.1
 g2:jk (pts.map (co 2))=some hi.2.2
theorem Qc{pts:List Pt}(h:pts≠[]):∃lo hi,lW pts lo hi:=by have hk:∀k,pts.map (co k)≠[]:=λk e=>h (List.map_eq_nil_iff.mp e);obtain⟨a,ha⟩:=HD (hk 0);obtain⟨b,hb⟩:=HD (hk 1);obtain⟨c,hc⟩:=HD (hk 2);obtain⟨d,hd⟩:=DQ (hk 0);obtain⟨e,he⟩:=DQ (hk 1);obtain⟨f,hf⟩:=DQ (hk 2);exact⟨(a,b,c),(d,e,f),⟨ha,hb,hc,hd,he,hf⟩⟩
def QC{S:So}{n:Nat}{pts:List Pt}{lo hi:Pt}(hS:WF S)(hn:S[n]?=some (.lst (pts.map pD)))(hl:pts.length<=1000)(B:lW pts lo hi):yt [.ref n] S=some (.tup [pD lo,pD hi],S) :=
 zgf hS hn hl B.h0 B.h1 B.h2 B.g0 B.g1 B.g2
theorem T7{S:So}{nm:Str}{pts:List Pt}{lo hi:Pt}(hS:WF S)(hl:pts.length<=1000)(hp:pts≠[])(B:lW pts lo hi)(h:yj [.tup (.str nm::pts.map pD)] S=some (.bl true,S)):vo [.tup (.str nm::pts.map pD)] S=some (.tup [pD lo,pD hi],S):=by
 have h1:=V3 h;apply bK
 .wtm_at "?b"
  unfold R7;apply aL
  .apply tK;apply aZ
   .wtm_at "?a"
   .exact cM rfl h1
  .apply aV;apply aL
   .apply eG;apply aZ
    .apply aK
     .apply aZ
      .apply aK
       .apply xP
        .wtm_at "?a"
        .wtm_at "?a"
        .wtm_at "?a"
        .refine Hz (ys:=pts.map pD) ?_ Er
         rintro⟨e1,e2⟩
         have:HT.sIx (D.str nm::pts.map pD).length 0 (some 1)=1:=by unfold HT.sIx;simp
         omega
       .wtm_at "?a"
      .exact SN
     .wtm_at "?a"
    .exact cM rfl (QC (hS.snoc (lo_pts _ _)) cJ hl B)
   .exact cL
 .wtm_at "?c"
 .rfl
noncomputable def dD(a b:Int):Int×Int:=((Rat.divInt a b).num,((Rat.divInt a b).den:Int))
def Ja{a b c d:Int}(hb:b≠0)(hd:d≠0)(h:a*d=c*b):dD a b=dD c d:=by unfold dD;rw[(Rat.divInt_eq_divInt_iff hb hd).mpr h]
theorem Ez{a b:Int}(hb:0<b):dD a b=(a / ((Nat.gcd a.natAbs b.natAbs:Nat):Int),b / ((Nat.gcd a.natAbs b.natAbs:Nat):Int)):=by
 unfold dD;rw[Rat.num_divInt,Rat.den_divInt,if_neg (by omega),Int.sign_eq_one_of_pos hb,Int.one_mul,Int.gcd_eq_natAbs_gcd_natAbs,Nat.gcd_comm];congr 1;have:(b.natAbs:Int)=b:=by omega
 rw[Int.natCast_ediv,this]
def zo2{a b:Int}(hb:b≠0):0<Nat.gcd a.natAbs b.natAbs:=Nat.gcd_pos_of_pos_right _ (by omega)
def vz(a b:Int):0<(dD a b).2:=by unfold dD;have:=(Rat.divInt a b).den_pos;simp only;omega
theorem U3{a b:Int}(hb:b≠0):(dD a b).1*b=a*(dD a b).2:=by unfold dD;have h:=(Rat.divInt a b).num_divInt_den;have:=(Rat.divInt_eq_divInt_iff (by have:=(Rat.divInt a b).den_pos;omega) hb).mp h;exact this
def Kl(a b:Int):dD (dD a b).1 (dD a b).2=dD a b:=by unfold dD;simp only[Rat.num_divInt_den]
def yx{a b:Int}(ha:0<=a)(hb:0<b):0<=(dD a b).1:=by rw[Ez hb];exact Int.ediv_nonneg ha (by omega)
def Bd.of_le{k:Nat}{x y:Int}(h:Bd k y)(hx:x.natAbs<=y.natAbs):Bd k x:=CW hx h
theorem Ej{k:Nat}{a b:Int}(ha:Bd k a)(hb:Bd k b)(h:0<b):Bd k (dD a b).1/\Bd k (dD a b).2:=by rw[Ez h];exact⟨Bd.of_le ha (Int.natAbs_ediv_le_natAbs _ _),Bd.of_le hb (Int.natAbs_ediv_le_natAbs _ _)⟩
theorem Zn{k:Nat}{a b:Int}(hb:Bd k b)(h:b≠0):Bd k ((Nat.gcd a.natAbs b.natAbs:Nat):Int):=by refine Bd.of_le hb ?_;show Nat.gcd a.natAbs b.natAbs<=b.natAbs;exact Nat.le_of_dvd (by omega) (Nat.gcd_dvd_right _ _)
theorem PX:∀(N:Nat) (m n:Nat) (r:Option D) (S:So),n<=N->∃r',lC (bG (eB (aW .NotEq) (aj 1) (eC (.int 0)))) (aC (bA (eB (aP .Mod) (aj 0) (aj 1)) (aM 2)) (aC (bA (aj 1) (aM 0)) (aC (bA (aj 2) (aM 1)) aQ)))
 [some (.int (m:Nat)),some (.int (n:Nat)),r] S=some (.nx,[some (.int (Nat.gcd m n:Nat)),some (.int 0),r'],S)
 |N,m,0,r,S,_=>by
  refine⟨r,?_⟩;rw[Nat.gcd_zero_right];apply Jb;apply fY;apply bC
  .wtm_at "?a"
  .wtm_at "?a"
  .rfl
 |0,_,n+1,_,_,h=>by omega
 |N+1,m,n+1,r,S,h=>by
  obtain⟨r',e⟩:=PX N (n+1) (m % (n+1)) (some (.int ((m % (n+1):Nat):Int))) S (by have:=Nat.mod_lt m (show 0<n+1 by omega);omega);refine⟨r',?_⟩;have hg:Nat.gcd m (n+1)=Nat.gcd (n+1) (m % (n+1)):=by rw[Nat.gcd_comm m,Nat.gcd_rec,Nat.gcd_comm]
  rw[hg];have hm:((m:Nat):Int).fmod ((n+1:Nat):Int)=((m % (n+1):Nat):Int):=by rw[Int.fmod_eq_emod_of_nonneg _ (by omega)];rfl
  refine RX (σ1:=[]) (fl := .nx) (S1:=S) (S2:=S) ?_ ?_ (.inl rfl) e
  .apply fY;have:D.bl true = .bl (!decide (((n+1:Nat):Int)=0)):=by rw[fM (by omega)];rfl
   rw[this];apply bC
   .wtm_at "?a"
   .wtm_at "?a"
   .wtm_at "?h"
  .rw[<-hm];have h0:((n+1:Nat):Int)≠0:=by omega
   wtm_at "?a"
theorem zd8(m n:Nat)(S:So):Fz [.int (m:Nat),.int (n:Nat)] S=some (.int (Nat.gcd m n:Nat),S):=by
 obtain⟨r',e⟩:=PX n m n none S (bZ _);apply bK
 .wtm_at "?b"
  unfold V8;apply aL
  .exact e
  .apply aV;apply aL
   .apply eG;apply aZ
    .wtm_at "?a"
    .exact Qe
   .have:(if((Nat.gcd m n:Nat):Int)<0 then -((Nat.gcd m n:Nat):Int) else((Nat.gcd m n:Nat):Int))=((Nat.gcd m n:Nat):Int):=if_neg (by omega);rw[this];exact cL
 .wtm_at "?c"
 .rfl
noncomputable abbrev rD(p:Int×Int):D:=R2 p.1 p.2
theorem z8{k:Nat}{a b:Int}(ha:0<=a)(hb:0<b)(hk:Bd k b)(h8:k<=8000)(S:So):tR [R2 a b] S=some (rD (dD a b),S):=by
 have e:Fz [.int a,.int b] S=some (.int ((Nat.gcd a.natAbs b.natAbs:Nat):Int),S):=by
  have:=zd8 a.natAbs b.natAbs S;have h1:(a.natAbs:Int)=a:=by omega
  have h2:(b.natAbs:Int)=b:=by omega
  rw[h1,h2] at this;exact this
 have hg:=zo2 (a:=a) (show b≠0 by omega);have hd:eZ ((Nat.gcd a.natAbs b.natAbs:Nat):Int)=true:=Sw (Zn hk (by omega)) (by omega) h8;apply bK
 .wtm_at "?b"
  unfold VP;rw[Ez hb];rw[<-Int.fdiv_eq_ediv_of_nonneg a (show(0:Int)<=((Nat.gcd a.natAbs b.natAbs:Nat):Int) by omega),<-Int.fdiv_eq_ediv_of_nonneg b (show(0:Int)<=((Nat.gcd a.natAbs b.natAbs:Nat):Int) by omega)];wtm_at "?a"
 .wtm_at "?c"
 .rfl
end MX.P
end
section
local macro_rules | `(tactic| wtm_at "?d") => `(tactic| first | (with_reducible assumption) | ((with_reducible apply MX.P.sp_is_less); (focus with_reducible assumption); (focus with_reducible assumption); (focus with_reducible assumption); (focus with_reducible assumption); (·omega)))
namespace MX.P
open PySem L2 MX
noncomputable def iR(s w lo hi:Int):Int×Int:=if 0<w then(lo - s,w) else(s - hi,-w)
noncomputable def jA(s w lo hi:Int):Int×Int:=if 0<w then(hi - s,w) else(s - lo,-w)
theorem zeA(s w lo hi:Int)(S:So):Lg [.int s,.int w,.int lo,.int hi] S=some (.tup [rD (iR s w lo hi),rD (jA s w lo hi)],S):=by
 by_cases h:0<w
 .have e1:iR s w lo hi=(lo - s,w):=if_pos h;have e2:jA s w lo hi=(hi - s,w):=if_pos h;rw[e1,e2];apply bK
  .wtm_at "?b"
   unfold Ld;wtm_at "?a"
  .wtm_at "?c"
  .rfl
 .have e1:iR s w lo hi=(s - hi,-w):=if_neg h;have e2:jA s w lo hi=(s - lo,-w):=if_neg h;rw[e1,e2];apply bK
  .wtm_at "?b"
   unfold Ld;wtm_at "?a"
  .wtm_at "?c"
  .rfl
def fX(a b:Int×Int):Prop:=a.1*b.2<b.1*a.2
instance (a b:Int×Int):Decidable (fX a b):=by unfold fX;infer_instance
noncomputable def lD:Option (Int×Int)->D
 |none => .non
 |some p=>rD p
noncomputable def qu(w:Int)(a e:Int×Int):Int×Int:=if fX a e then e else a
noncomputable def rR(a:Option (Int×Int))(l:Int×Int):Int×Int:=match a with
 |none=>l
 |some m=>if fX l m then l else m
theorem zi6{σ0 σ1:D}{f:Int×Int}{l:D}{s lo hi:Int}{t:Option D}{S:So}(h1:lo<=s)(h2:s<=hi):
 qe [some σ0,some σ1,some (rD f),some l,some (.int s),some (.int 0),some (.int lo),some (.int hi),t] S=some (.ct,[some σ0,some σ1,some (rD f),some l,some (.int s),some (.int 0),some (.int lo),some (.int hi),t],S):=by
 unfold qe zZ;wtm_at "?a"
theorem zi4{σ0 σ1:D}{f:Int×Int}{l:D}{s lo hi:Int}{t:Option D}{S:So}(h:s<lo\/hi<s):
 qe [some σ0,some σ1,some (rD f),some l,some (.int s),some (.int 0),some (.int lo),some (.int hi),t] S=some (.rt .non,[some σ0,some σ1,some (rD f),some l,some (.int s),some (.int 0),some (.int lo),some (.int hi),t],S):=by
 unfold qe zZ;by_cases h1:s<lo
 .wtm_at "?a"
 .have h2:hi<s:=by omega
  wtm_at "?a"
theorem P0{k:Nat}{s w lo hi:Int}(hs:Bd k s)(hw:Bd k w)(hl:Bd k lo)(hh:Bd k hi):Bd (k+1) (iR s w lo hi).1/\Bd (k+1) (iR s w lo hi).2/\Bd (k+1) (jA s w lo hi).1/\Bd (k+1) (jA s w lo hi).2:=by
 unfold iR jA;have a1:=(hl.sub hs).le (show max k k+1<=k+1 by omega);have a2:=(hh.sub hs).le (show max k k+1<=k+1 by omega);have a3:=(hs.sub hh).le (show max k k+1<=k+1 by omega);have a4:=(hs.sub hl).le (show max k k+1<=k+1 by omega);have a5:=hw.le (show k<=k+1 by omega);split
 .exact⟨a1,a5,a2,a5⟩
 .exact⟨a3,a5.neg,a4,a5.neg⟩
def Fj(w:Int)(a e:Int×Int):qu w a e=a\/qu w a e=e:=by unfold qu;split<;>simp
theorem JP(a:Option (Int×Int))(l:Int×Int):rR a l=l\/∃m,a=some m/\rR a l=m:=by
 unfold rR;split
 .exact .inl rfl
 .split
  .exact .inl rfl
  .exact .inr ⟨_,rfl,rfl⟩
theorem zi5{k:Nat}{σ0 σ1:D}{f:Int×Int}{l:Option (Int×Int)}{s w lo hi:Int}{t:Option D}{S:So}(hw:w≠0)(bs:Bd k s)(bw:Bd k w)(bl:Bd k lo)(bh:Bd k hi)(hk:k<=10000)(f1:Bd (k+1) f.1)(f2:Bd (k+1) f.2)(l1:∀m,l=some m->Bd (k+1) m.1/\Bd (k+1) m.2):
 ∃t',qe [some σ0,some σ1,some (rD f),some (lD l),some (.int s),some (.int w),some (.int lo),some (.int hi),t] S
  = some (.nx,[some σ0,some σ1,some (rD (qu w f (iR s w lo hi))),some (rD (rR l (jA s w lo hi))),some (.int s),some (.int w),some (.int lo),some (.int hi),t'],S):=by
 obtain⟨b1,b2,b3,b4⟩:=P0 bs bw bl bh;have tb:=zeA s w lo hi S;generalize iR s w lo hi=e at *
 generalize jA s w lo hi=g at *
 obtain⟨e1,e2⟩:=e;obtain⟨g1,g2⟩:=g;obtain⟨p1,p2⟩:=f;simp only at b1 b2 b3 b4 f1 f2;refine⟨some (.tup [R2 e1 e2,R2 g1 g2]),?_⟩;have s1:∀q:D,zZ [some σ0,some σ1,some (rD (p1,p2)),some q,some (.int s),some (.int w),some (.int lo),some (.int hi),t] S=some (.nx,[some σ0,some σ1,some (rD (p1,p2)),some q,some (.int s),some (.int w),some (.int lo),some (.int hi),t],S):=λq=>by unfold zZ;wtm_at "?a"
 have s2:∀q:D,Lr [some σ0,some σ1,some (rD (p1,p2)),some q,some (.int s),some (.int w),some (.int lo),some (.int hi),t] S=some (.nx,[some σ0,some σ1,some (rD (p1,p2)),some q,some (.int s),some (.int w),some (.int lo),some (.int hi),some (.tup [R2 e1 e2,R2 g1 g2])],S):=λq=>by unfold Lr;wtm_at "?a"
 have s3:∀q:D,Ls [some σ0,some σ1,some (rD (p1,p2)),some q,some (.int s),some (.int w),some (.int lo),some (.int hi),some (.tup [R2 e1 e2,R2 g1 g2])] S=some (.nx,[some σ0,some σ1,some (rD (qu w (p1,p2) (e1,e2))),some q,some (.int s),some (.int w),some (.int lo),some (.int hi),some (.tup [R2 e1 e2,R2 g1 g2])],S):=λq=>by
  unfold Ls qu;by_cases hc:p1*e2<e1*p2
  .rw[if_pos (show fX (p1,p2) (e1,e2) from hc)];wtm_at "?a"
  .rw[if_neg (show ¬fX (p1,p2) (e1,e2) from hc)];wtm_at "?a"
 have s4:∀q:Int×Int,Lw [some σ0,some σ1,some (rD q),some (lD l),some (.int s),some (.int w),some (.int lo),some (.int hi),some (.tup [R2 e1 e2,R2 g1 g2])] S=some (.nx,[some σ0,some σ1,some (rD q),some (rD (rR l (g1,g2))),some (.int s),some (.int w),some (.int lo),some (.int hi),some (.tup [R2 e1 e2,R2 g1 g2])],S):=λq=>by
  unfold Lw rR;cases l with
  |none =>
   show c7 _ _ _ [some σ0,some σ1,some (rD q),some D.non,some (.int s),some (.int w),some (.int lo),some (.int hi),some (.tup [R2 e1 e2,R2 g1 g2])] S=_;wtm_at "?a"
  |some m =>
   obtain⟨m1,m2⟩:=m;obtain⟨c1,c2⟩:=l1 _ rfl;simp only at c1 c2;show c7 _ _ _ [some σ0,some σ1,some (rD q),some (R2 m1 m2),some (.int s),some (.int w),some (.int lo),some (.int hi),some (.tup [R2 e1 e2,R2 g1 g2])] S=_;by_cases hc:g1*m2<m1*g2
   .simp only;rw[if_pos (show fX (g1,g2) (m1,m2) from hc)];wtm_at "?a"
   .simp only;rw[if_neg (show ¬fX (g1,g2) (m1,m2) from hc)];wtm_at "?a"
 unfold qe;exact aL (s1 _) (aV (aL (s2 _) (aV (aL (s3 _) (aV (aL (s4 _) (aV eX)))))))
noncomputable abbrev Ax:=(Int×Int)×Option (Int×Int)
noncomputable def dY(a:Ax)(s w lo hi:Int):Option Ax:=if w=0 then(if s<lo\/hi<s then none else some a) else some (qu w a.1 (iR s w lo hi),some (rR a.2 (jA s w lo hi)))
def yR(k:Nat)(a:Ax):Prop:=Bd k a.1.1/\Bd k a.1.2/\∀m,a.2=some m->Bd k m.1/\Bd k m.2
theorem xR{k:Nat}{a a':Ax}{s w lo hi:Int}(hs:Bd k s)(hw:Bd k w)(hl:Bd k lo)(hh:Bd k hi)(h:yR (k+1) a)(e:dY a s w lo hi=some a'):yR (k+1) a':=by
 obtain⟨b1,b2,b3,b4⟩:=P0 hs hw hl hh;unfold dY at e;split at e
 .split at e
  .cases e
  .cases e;exact h
 .cases e;refine⟨?_,?_,λm hm=>?_⟩
  .rcases Fj w a.1 (iR s w lo hi) with q|q<;>simp only[q]
   .exact h.1
   .exact b1
  .rcases Fj w a.1 (iR s w lo hi) with q|q<;>simp only[q]
   .exact h.2.1
   .exact b2
  .cases hm;rcases JP a.2 (jA s w lo hi) with q|⟨m,q1,q⟩<;>simp only[q]
   .exact⟨b3,b4⟩
   .exact h.2.2 m q1
def rY(ray box:D)(a:Ax)(σ:Sg):Prop:=∃j4 j5 j6 j7 j8:Option D,σ=[some ray,some box,some (rD a.1),some (lD a.2),j4,j5,j6,j7,j8]
noncomputable abbrev Cm:GF:=jm 4 (dH (aM 4) (dH (aM 5) (dH (aM 6) (dH (aM 7) jK))))
theorem J7{k:Nat}{ray box:D}{a:Ax}{σ:Sg}{s w lo hi:Int}{S:So}(hs:Bd k s)(hw:Bd k w)(hl:Bd k lo)(hh:Bd k hi)(hk:k<=10000)(hb:yR (k+1) a)(h:rY ray box a σ):
 ∃σ1,Cm (.tup [.int s,.int w,.int lo,.int hi]) σ S=some (σ1,S) /\
  match dY a s w lo hi with
  |none=>∃σ2,qe σ1 S=some (.rt .non,σ2,S)
  |some a'=>∃fl σ2,qe σ1 S=some (fl,σ2,S)/\(fl = .nx\/fl = .ct)/\rY ray box a' σ2:=by
 obtain⟨j4,j5,j6,j7,j8,rfl⟩:=h;refine⟨[some ray,some box,some (rD a.1),some (lD a.2),some (.int s),some (.int w),some (.int lo),some (.int hi),j8],rfl,?_⟩;unfold dY;by_cases h0:w=0
 .subst h0;rw[if_pos rfl];by_cases hc:s<lo\/hi<s
  .rw[if_pos hc];exact⟨_,zi4 hc⟩
  .rw[if_neg hc];exact⟨_,_,zi6 (by omega) (by omega),.inr rfl,_,_,_,_,_,rfl⟩
 .rw[if_neg h0];obtain⟨t',e⟩:=zi5 (σ0:=ray) (σ1:=box) (t:=j8) (S:=S) h0 hs hw hl hh hk hb.1 hb.2.1 hb.2.2;exact⟨_,_,e,.inl rfl,_,_,_,_,_,rfl⟩
noncomputable def gM(o d lo hi:Pt):Option ((Int×Int)×(Int×Int)) :=
 (dY ((0,1),none) o.1 d.1 lo.1 hi.1).bind λa=>(dY a o.2.1 d.2.1 lo.2.1 hi.2.1).bind λb=>(dY b o.2.2 d.2.2 lo.2.2 hi.2.2).bind λc=>match c.2 with
  |none=>none
  |some l=>if fX l c.1 then none else some (c.1,l)
noncomputable def Dq:Option ((Int×Int)×(Int×Int))->D
 |none => .non
 |some p => .tup [rD p.1,rD p.2]
def aN(k:Nat)(p:Pt):Prop:=Bd k p.1/\Bd k p.2.1/\Bd k p.2.2
def aN.le{k l:Nat}{p:Pt}(h:aN k p)(hl:k<=l):aN l p:=⟨h.1.le hl,h.2.1.le hl,h.2.2.le hl⟩
theorem nT{a b:Ax}{s w lo hi:Int}(e:dY a s w lo hi=some b)(h:a.2≠none\/w≠0):b.2≠none:=by
 unfold dY at e;split at e
 .split at e
  .cases e
  .cases e;rcases h with h|h
   .exact h
   .rename_i q _;exact absurd q h
 .cases e;simp
theorem Vc{k:Nat}{o d lo hi:Pt}(ho:aN k o)(hd:aN k d)(hl:aN k lo)(hh:aN k hi)(h0:d≠(0,0,0))(hk:k<=10000)(S:So):
 vm [.tup [pD o,pD d],.tup [pD lo,pD hi]] S=some (Dq (gM o d lo hi),S):=by
 have s1:KJ [some (.tup [pD o,pD d]),some (.tup [pD lo,pD hi]),none,none,none,none,none,none,none] S=some (.nx,[some (.tup [pD o,pD d]),some (.tup [pD lo,pD hi]),some (R2 0 1),none,none,none,none,none,none],S):=by unfold KJ;wtm_at "?a"
 have s2:KN [some (.tup [pD o,pD d]),some (.tup [pD lo,pD hi]),some (R2 0 1),none,none,none,none,none,none] S=some (.nx,[some (.tup [pD o,pD d]),some (.tup [pD lo,pD hi]),some (R2 0 1),some .non,none,none,none,none,none],S):=by unfold KN;wtm_at "?a"
 have b0:yR (k+1) ((0,1),none):=by
  refine⟨?_,?_,λm hm=>by cases hm⟩
  .unfold Bd;simp;exact Nat.pos_of_ne_zero (by simp)
  .unfold Bd;simp;
 have st0:rY (.tup [pD o,pD d]) (.tup [pD lo,pD hi]) ((0,1),none) [some (.tup [pD o,pD d]),some (.tup [pD lo,pD hi]),some (R2 0 1),some .non,none,none,none,none,none]:=⟨_,_,_,_,_,rfl⟩
 have it:qz (ak (eB aJ (aj 0) (eC (.int 0))) (ak (eB aJ (aj 0) (eC (.int 1))) (ak (eB aJ (aj 1) (eC (.int 0))) (ak (eB aJ (aj 1) (eC (.int 1))) aA)))) [some (.tup [pD o,pD d]),some (.tup [pD lo,pD hi]),some (R2 0 1),some .non,none,none,none,none,none] S=some (.zip [pD o,pD d,pD lo,pD hi],S):=by wtm_at "?j"
 have n0:di (.zip [pD o,pD d,pD lo,pD hi]) 0 S=some (some (.tup [.int o.1,.int d.1,.int lo.1,.int hi.1])):=rfl;have n1:di (.zip [pD o,pD d,pD lo,pD hi]) (0+1) S=some (some (.tup [.int o.2.1,.int d.2.1,.int lo.2.1,.int hi.2.1])):=rfl;have n2:di (.zip [pD o,pD d,pD lo,pD hi]) (0+1+1) S=some (some (.tup [.int o.2.2,.int d.2.2,.int lo.2.2,.int hi.2.2])):=rfl;have n3:di (.zip [pD o,pD d,pD lo,pD hi]) (0+1+1+1) S=some none:=rfl;obtain⟨σ1,g1,t1⟩:=J7 (S:=S) ho.1 hd.1 hl.1 hh.1 hk b0 st0;have loop:match(dY ((0,1),none) o.1 d.1 lo.1 hi.1).bind λa=>(dY a o.2.1 d.2.1 lo.2.1 hi.2.1).bind λb=>dY b o.2.2 d.2.2 lo.2.2 hi.2.2 with
  |none=>∃σ',KQ [some (.tup [pD o,pD d]),some (.tup [pD lo,pD hi]),some (R2 0 1),some .non,none,none,none,none,none] S=some (.rt .non,σ',S)
  |some c=>∃σ',KQ [some (.tup [pD o,pD d]),some (.tup [pD lo,pD hi]),some (R2 0 1),some .non,none,none,none,none,none] S=some (.nx,σ',S)/\rY (.tup [pD o,pD d]) (.tup [pD lo,pD hi]) c σ'/\yR (k+1) c/\c.2≠none:=by
  cases e1:dY ((0,1),none) o.1 d.1 lo.1 hi.1 with
  |none =>
   rw[e1] at t1;obtain⟨σ2,t1⟩:=t1;exact⟨σ2,jT it rfl (fP n0 g1 t1 p7)⟩
  |some a =>
   rw[e1] at t1;obtain⟨fl,σ2,t1,hfl,st1⟩:=t1;have b1:=xR ho.1 hd.1 hl.1 hh.1 b0 e1;obtain⟨σ3,g2,t2⟩:=J7 (S:=S) ho.2.1 hd.2.1 hl.2.1 hh.2.1 hk b1 st1;simp only[cg];cases e2:dY a o.2.1 d.2.1 lo.2.1 hi.2.1 with
   |none =>
    rw[e2] at t2;obtain⟨σ4,t2⟩:=t2;refine⟨σ4,jT it rfl (fP n0 g1 t1 ?_)⟩;rcases hfl with rfl|rfl<;>exact fP n1 g2 t2 p7
   |some b =>
    rw[e2] at t2;obtain⟨fl2,σ4,t2,Ca,st2⟩:=t2;have b2:=xR ho.2.1 hd.2.1 hl.2.1 hh.2.1 b1 e2;obtain⟨σ5,g3,t3⟩:=J7 (S:=S) ho.2.2 hd.2.2 hl.2.2 hh.2.2 hk b2 st2;simp only[cg];cases e3:dY b o.2.2 d.2.2 lo.2.2 hi.2.2 with
    |none =>
     rw[e3] at t3;obtain⟨σ6,t3⟩:=t3;refine⟨σ6,jT it rfl (fP n0 g1 t1 ?_)⟩;rcases hfl with rfl|rfl<;>refine fP n1 g2 t2 ?_<;>rcases Ca with rfl|rfl<;>exact fP n2 g3 t3 p7
    |some c =>
     rw[e3] at t3;obtain⟨Ov,σ6,t3,Oj,st3⟩:=t3;refine⟨σ6,jT it rfl (fP n0 g1 t1 ?_),st3,xR ho.2.2 hd.2.2 hl.2.2 hh.2.2 b2 e3,?_⟩
     .rcases hfl with rfl|rfl<;>refine fP n1 g2 t2 ?_<;>rcases Ca with rfl|rfl<;>refine fP n2 g3 t3 ?_<;>rcases Oj with rfl|rfl<;>exact zB (g:=Cm) (f:=qe) n3
     .by_cases q1:d.1=0
      .by_cases q2:d.2.1=0
       .have q3:d.2.2≠0:=λq3=>h0 (by show(d.1,d.2.1,d.2.2)=_;rw[q1,q2,q3]);exact nT e3 (.inr q3)
       .exact nT e3 (.inl (nT e2 (.inr q2)))
      .exact nT e3 (.inl (nT e2 (.inl (nT e1 (.inr q1)))))
 unfold gM;have eb:((dY ((0,1),none) o.1 d.1 lo.1 hi.1).bind λa=>(dY a o.2.1 d.2.1 lo.2.1 hi.2.1).bind λb=>(dY b o.2.2 d.2.2 lo.2.2 hi.2.2).bind λc=>(match c.2 with
  |none=>none
  |some l=>if fX l c.1 then none else some (c.1,l):Option ((Int×Int)×(Int×Int))))=((dY ((0,1),none) o.1 d.1 lo.1 hi.1).bind λa=>(dY a o.2.1 d.2.1 lo.2.1 hi.2.1).bind λb=>dY b o.2.2 d.2.2 lo.2.2 hi.2.2).bind λc=>(match c.2 with
  |none=>none
  |some l=>if fX l c.1 then none else some (c.1,l)):=by
  simp only[Option.bind_assoc]
 rw[eb];cases e:(dY ((0,1),none) o.1 d.1 lo.1 hi.1).bind λa=>(dY a o.2.1 d.2.1 lo.2.1 hi.2.1).bind λb=>dY b o.2.2 d.2.2 lo.2.2 hi.2.2 with
 |none =>
  rw[e] at loop;obtain⟨σ',loop⟩:=loop;apply bK
  .wtm_at "?b"
   unfold Fi;exact aL s1 (aV (aL s2 (aV (aL loop cL))))
  .wtm_at "?c"
  .rfl
 |some c =>
  rw[e] at loop;obtain⟨σ',loop,⟨j4,j5,j6,j7,j8,rfl⟩,hb,hn⟩:=loop;obtain⟨⟨f1,f2⟩,l⟩:=c;cases l with
  |none=>exact absurd rfl hn
  |some l =>
   obtain⟨l1,l2⟩:=l;obtain⟨c1,c2,c3⟩:=hb;obtain⟨c3,c4⟩:=c3 _ rfl;simp only at c1 c2 c3 c4;simp only[cg];by_cases hc:l1*f2<f1*l2
   .rw[if_pos (show fX (l1,l2) (f1,f2) from hc)];apply bK
    .wtm_at "?b"
     unfold Fi;refine aL s1 (aV (aL s2 (aV (aL loop (aV (aL (fl := .rt .non) (S1:=S) (σ1:=[some (.tup [pD o,pD d]),some (.tup [pD lo,pD hi]),some (R2 f1 f2),some (R2 l1 l2),j4,j5,j6,j7,j8]) ?_ cL))))));show zV [some (.tup [pD o,pD d]),some (.tup [pD lo,pD hi]),some (R2 f1 f2),some (R2 l1 l2),j4,j5,j6,j7,j8] S=_;unfold zV;wtm_at "?a"
    .wtm_at "?c"
    .rfl
   .rw[if_neg (show ¬fX (l1,l2) (f1,f2) from hc)];apply bK
    .wtm_at "?b"
     unfold Fi;refine aL s1 (aV (aL s2 (aV (aL loop (aV (aL (fl := .nx) (S1:=S) (σ1:=[some (.tup [pD o,pD d]),some (.tup [pD lo,pD hi]),some (R2 f1 f2),some (R2 l1 l2),j4,j5,j6,j7,j8]) ?_ (aV (aL (fl := .rt (.tup [R2 f1 f2,R2 l1 l2])) (S1:=S) (σ1:=[some (.tup [pD o,pD d]),some (.tup [pD lo,pD hi]),some (R2 f1 f2),some (R2 l1 l2),j4,j5,j6,j7,j8]) ?_ cL))))))))
     .show zV [some (.tup [pD o,pD d]),some (.tup [pD lo,pD hi]),some (R2 f1 f2),some (R2 l1 l2),j4,j5,j6,j7,j8] S=_;unfold zV;wtm_at "?a"
     .unfold Ut;wtm_at "?a"
    .wtm_at "?c"
    .rfl
end MX.P
end
section
local macro_rules | `(tactic| wtm_at "?d") => `(tactic| (with_reducible assumption))
namespace MX.P
open PySem L2 MX
structure wR(k:Nat)(p:(Int×Int)×(Int×Int)):Prop where
 f0:0<=p.1.1
 f2:0<p.1.2
 l0:0<=p.2.1
 l2:0<p.2.2
 b1:Bd k p.1.1
 b2:Bd k p.1.2
 b3:Bd k p.2.1
 b4:Bd k p.2.2
def RB{s w lo hi:Int}(h:w≠0):0<(iR s w lo hi).2/\0<(jA s w lo hi).2:=by unfold iR jA;split<;>simp<;>omega
def Gz(a:Ax):Prop:=0<=a.1.1/\0<a.1.2/\∀m,a.2=some m->0<m.2
theorem Eo{a a':Ax}{s w lo hi:Int}(h:Gz a)(e:dY a s w lo hi=some a'):Gz a':=by
 unfold dY at e;split at e
 .split at e
  .cases e
  .cases e;exact h
 .rename_i hw;cases e;obtain⟨p1,p2⟩:=RB (s:=s) (lo:=lo) (hi:=hi) hw;refine⟨?_,?_,λm hm=>?_⟩
  .simp only;unfold qu;split
   .rename_i hc;unfold fX at hc;have:=h.1;have h2:=h.2.1;have h3:0<=a.1.1*(iR s w lo hi).2:=Int.mul_nonneg this (by omega);have h4:0<(iR s w lo hi).1*a.1.2:=by omega
    exact Int.le_of_lt (Int.pos_of_mul_pos_left h4 h2)
   .exact h.1
  .rcases Fj w a.1 (iR s w lo hi) with q|q<;>simp only[q]
   .exact h.2.1
   .exact p1
  .cases hm;rcases JP a.2 (jA s w lo hi) with q|⟨m,q1,q⟩<;>simp only[q]
   .exact p2
   .exact h.2.2 m q1
def leQ(a b:Int×Int):Prop:=a.1*b.2<=b.1*a.2
def qP{a b:Int×Int}(h:¬fX b a):leQ a b:=by unfold fX at h;unfold leQ;omega
def RT{a b:Int×Int}(h:leQ a b):¬fX b a:=by unfold leQ at h;unfold fX;omega
def zmt(a:Int×Int):leQ a a:=Int.le_refl _
theorem yq{a b c:Int×Int}(ha:0<a.2)(hb:0<b.2)(hc:0<c.2)(h1:leQ a b)(h2:leQ b c):leQ a c:=by
 unfold leQ at *
 have e1:=Int.mul_le_mul_of_nonneg_right h1 (Int.le_of_lt hc);have e2:=Int.mul_le_mul_of_nonneg_right h2 (Int.le_of_lt ha);refine Int.le_of_mul_le_mul_right (a:=b.2) ?_ hb;have i1:a.1*c.2*b.2=a.1*b.2*c.2:=by grind
 have i2:c.1*a.2*b.2=c.1*b.2*a.2:=by grind
 have i3:b.1*a.2*c.2=b.1*c.2*a.2:=by grind
 omega
def zje{a b:Int×Int}(ha:0<a.2)(hb:0<b.2)(h1:leQ a b)(h2:leQ b a):dD a.1 a.2=dD b.1 b.2:=by
 unfold leQ at *
 exact Ja (by omega) (by omega) (by omega)
def zoP{a:Int×Int}(ha:0<a.2):leQ a (dD a.1 a.2)/\leQ (dD a.1 a.2) a:=by have:=U3 (a:=a.1) (b:=a.2) (by omega);unfold leQ;omega
theorem R3{k:Nat}{o d lo hi:Pt}{p:(Int×Int)×(Int×Int)}(ho:aN k o)(hd:aN k d)(hl:aN k lo)(hh:aN k hi)(e:gM o d lo hi=some p):wR (k+1) p:=by
 unfold gM at e;simp only[bf] at e;obtain⟨a,e1,b,e2,c,e3,e4⟩:=e;have b0:yR (k+1) ((0,1),none):=by
  refine⟨?_,?_,λm hm=>by cases hm⟩
  .unfold Bd;simp;exact Nat.pos_of_ne_zero (by simp)
  .unfold Bd;simp
 have p0:Gz ((0,1),none):=⟨by simp,by simp,λm hm=>by cases hm⟩
 have b3:=xR ho.2.2 hd.2.2 hl.2.2 hh.2.2 (xR ho.2.1 hd.2.1 hl.2.1 hh.2.1 (xR ho.1 hd.1 hl.1 hh.1 b0 e1) e2) e3;have p3:=Eo (Eo (Eo p0 e1) e2) e3;split at e4
 .cases e4
 .rename_i l hl';split at e4
  .cases e4
  .rename_i hc;cases e4;obtain⟨q1,q2⟩:=b3.2.2 _ hl';have q3:=p3.2.2 _ hl';have hle:=qP hc;refine⟨p3.1,p3.2.1,?_,q3,b3.1,b3.2.1,q1,q2⟩;unfold leQ at hle;have h1:0<=c.1.1*l.2:=Int.mul_nonneg p3.1 (by omega);have h2:0<=l.1*c.1.2:=by omega
   refine Int.le_of_mul_le_mul_right (a:=c.1.2) ?_ p3.2.1;simpa using h2
noncomputable def N6:Option ((Int×Int)×(Int×Int))->D
 |none => .non
 |some p=>rD (dD p.1.1 p.1.2)
theorem zgL{k:Nat}{o d lo hi:Pt}(ho:aN k o)(hd:aN k d)(hl:aN k lo)(hh:aN k hi)(h0:d≠(0,0,0))(hk:k<=7000)(S:So):
 KR [.tup [pD o,pD d],.tup [pD lo,pD hi]] S=some (N6 (gM o d lo hi),S):=by
 have hs:=Vc ho hd hl hh h0 (by omega) S;cases e:gM o d lo hi with
 |none =>
  rw[e] at hs;have hs:vm [.tup [pD o,pD d],.tup [pD lo,pD hi]] S=some (.non,S):=hs;apply bK
  .wtm_at "?b"
   unfold KH;wtm_at "?a"
  .wtm_at "?c"
  .rfl
 |some p =>
  rw[e] at hs;have ok:=R3 ho hd hl hh e;obtain⟨⟨f1,f2⟩,⟨l1,l2⟩⟩:=p;have hs:vm [.tup [pD o,pD d],.tup [pD lo,pD hi]] S=some (.tup [R2 f1 f2,R2 l1 l2],S):=hs;have t1:=z8 ok.f0 ok.f2 ok.b2 (show k+1<=8000 by omega) S;simp only at t1;apply bK
  .wtm_at "?b"
   unfold KH;wtm_at "?a"
  .wtm_at "?c"
  .rfl
theorem Yc{d:Pt}(h:d≠(0,0,0)):¬(pD d=P3 0 0 0):=λe=>by simp only[D.tup.injEq,List.cons.injEq,D.int.injEq,and_true] at e;exact h (by show(d.1,d.2.1,d.2.2)=_;rw[e.1,e.2.1,e.2.2])
theorem V4{o d:Pt}(h0:d≠(0,0,0))(S:So):FN [.tup [pD o,pD d]] S=some (.non,S):=by
 have hne:=Yc h0;apply UJ
 .wtm_at "?b"
  unfold V7;wtm_at "?a"
 .wtm_at "?c"
theorem zfD{k:Nat}{o d lo hi:Pt}(ho:aN k o)(hd:aN k d)(hl:aN k lo)(hh:aN k hi)(h0:d≠(0,0,0))(hk:k<=7000)(S:So):
 yo [.tup [pD o,pD d],.tup [.str "box",pD lo,pD hi]] S=some (N6 (gM o d lo hi),S):=by
 have hm:=zgL ho hd hl hh h0 hk S;apply bK
 .wtm_at "?b"
  unfold JN;wtm_at "?a"
 .wtm_at "?c"
 .cases gM o d lo hi<;>rfl
end MX.P
end
section
namespace MX.P
open PySem L2 MX
noncomputable def wb(a b:Pt):Pt:=(b.1 - a.1,b.2.1 - a.2.1,b.2.2 - a.2.2)
noncomputable def au(a b:Pt):Int:=a.1*b.1+a.2.1*b.2.1+a.2.2*b.2.2
noncomputable def aq(a b:Pt):Pt:=(a.2.1*b.2.2 - a.2.2*b.2.1,a.2.2*b.1 - a.1*b.2.2,a.1*b.2.1 - a.2.1*b.1)
theorem aN.wb{k l:Nat}{a b:Pt}(ha:aN k a)(hb:aN l b):aN (max k l+1) (wb a b) :=
 ⟨(hb.1.sub ha.1).le (by omega),(hb.2.1.sub ha.2.1).le (by omega),(hb.2.2.sub ha.2.2).le (by omega)⟩
theorem aN.cross{k l:Nat}{a b:Pt}(ha:aN k a)(hb:aN l b):aN (k+l+1) (aq a b) :=
 ⟨((ha.2.1.mul hb.2.2).sub (ha.2.2.mul hb.2.1)).le (by omega),((ha.2.2.mul hb.1).sub (ha.1.mul hb.2.2)).le (by omega),((ha.1.mul hb.2.1).sub (ha.2.1.mul hb.1)).le (by omega)⟩
theorem aN.dot{k l:Nat}{a b:Pt}(ha:aN k a)(hb:aN l b):Bd (k+l+2) (au a b) :=
 (((ha.1.mul hb.1).add (ha.2.1.mul hb.2.1)).add (ha.2.2.mul hb.2.2)).le (by omega)
def sp_wb(a b:Pt)(S:So):d8 [pD a,pD b] S=some (pD (wb a b),S):=Vy _ _ _ _ _ _ _
def sp_vdot{k l:Nat}{a b:Pt}(ha:aN k a)(hb:aN l b)(h:k+l<=134217728)(S:So):fO [pD a,pD b] S=some (.int (au a b),S):=Z3 ha.1 ha.2.1 ha.2.2 hb.1 hb.2.1 hb.2.2 h S
def sp_vcross{k l:Nat}{a b:Pt}(ha:aN k a)(hb:aN l b)(h:k+l<=134217728)(S:So):jz [pD a,pD b] S=some (pD (aq a b),S):=zlQ ha.1 ha.2.1 ha.2.2 hb.1 hb.2.1 hb.2.2 h S
theorem PL{a b:Pt}:pD a=pD b↔a=b:=by
 constructor
 .intro h;simp only[D.tup.injEq,List.cons.injEq,D.int.injEq,and_true] at h;exact Prod.ext h.1 (Prod.ext h.2.1 h.2.2)
 .intro h;rw[h]
def tG{a:Pt}:pD a=P3 0 0 0↔a=(0,0,0):=PL (b:=(0,0,0))
noncomputable def cZ(a b:Int):Int:=if b>a then b else a
noncomputable def dW(a b:Int):Int:=if b<a then b else a
noncomputable abbrev Tq:=Option (Int×Int)
noncomputable def Mz:Tq->D
 |none => .non
 |some p=>rD (dD p.1 p.2)
noncomputable def uT(o d a b:Pt):Tq :=
 if aq (wb o a) d=(0,0,0) then
  if cZ (au (wb o a) d) (au (wb o b) d)<0 then none else some (cZ (dW (au (wb o a) d) (au (wb o b) d)) 0,au d d)
 else none
noncomputable def mC(o d a b:Pt):Tq :=
 if aq d (wb a b)=(0,0,0) then uT o d a b
 else if au (wb o a) (aq d (wb a b))=0 then
  if au (aq (wb o a) (wb a b)) (aq d (wb a b))<0\/au (aq (wb o a) d) (aq d (wb a b))<0\/au (aq d (wb a b)) (aq d (wb a b))<au (aq (wb o a) d) (aq d (wb a b)) then none
  else some (au (aq (wb o a) (wb a b)) (aq d (wb a b)),au (aq d (wb a b)) (aq d (wb a b)))
 else none
theorem zM(x:Int):0<=x*x:=by
 by_cases h:0<=x
 .exact Int.mul_nonneg h h
 .have:=Int.mul_nonneg (show 0 <= -x by omega) (show 0 <= -x by omega)
  rwa [Int.neg_mul_neg] at this
def HX{x:Int}(h:x≠0):0<x*x:=by
 have h1:=zM x;have:x*x≠0:=λe=>by rcases Int.mul_eq_zero.mp e with e|e<;>exact h e
 omega
theorem qg{a:Pt}(h:a≠(0,0,0)):0<au a a:=by
 unfold au;have h1:=zM a.1;have h2:=zM a.2.1;have h3:=zM a.2.2;by_cases q1:a.1=0
 .by_cases q2:a.2.1=0
  .have q3:a.2.2≠0:=λq3=>h (by show(a.1,a.2.1,a.2.2)=_;rw[q1,q2,q3]);have:=HX q3;omega
  .have:=HX q2;omega
 .have:=HX q1;omega
end MX.P
local macro_rules | `(tactic| wtm_at "?d") => `(tactic| first | (with_reducible exact MX.P.sp_wb _ _ _) | ((with_reducible apply MX.P.sp_vdot); (focus with_reducible assumption); (focus with_reducible assumption); (·omega)) | ((with_reducible apply MX.P.sp_vcross); (focus with_reducible assumption); (focus with_reducible assumption); (·omega)) | (with_reducible assumption))
namespace MX.P
open PySem L2 MX
theorem zfE{k:Nat}{o d a b:Pt}(ho:aN k o)(hd:aN k d)(ha:aN k a)(hb:aN k b)(h0:d≠(0,0,0))(hk:k<=1500)(S:So):
 Lh [.tup [pD o,pD d],pD a,pD b] S=some (Mz (uT o d a b),S):=by
 have w1:=(ho.wb ha).le (show max k k+1<=k+1 by omega);have w2:=(ho.wb hb).le (show max k k+1<=k+1 by omega);have hdd:=hd.dot hd;have hpos:=qg h0;unfold uT;by_cases hc:aq (wb o a) d=(0,0,0)
 .rw[if_pos hc];have hc':pD (aq (wb o a) d)=P3 0 0 0:=tG.mpr hc;by_cases hm:cZ (au (wb o a) d) (au (wb o b) d)<0
  .rw[if_pos hm];unfold cZ at hm;apply bK
   .wtm_at "?b"
    unfold Ga;wtm_at "?a"
   .wtm_at "?c"
   .rfl
  .rw[if_neg hm];have hnn:0<=cZ (dW (au (wb o a) d) (au (wb o b) d)) 0:=by unfold cZ;split<;>omega
   have hl:=z8 hnn hpos hdd (show k+k+2<=8000 by omega) S;unfold cZ dW at hl;unfold cZ at hm;apply bK
   .wtm_at "?b"
    unfold Ga;wtm_at "?a"
   .wtm_at "?c"
   .rfl
 .rw[if_neg hc];have hc':¬pD (aq (wb o a) d)=P3 0 0 0:=λe=>hc (tG.mp e);apply bK
  .wtm_at "?b"
   unfold Ga;wtm_at "?a"
  .wtm_at "?c"
  .rfl
end MX.P
end
section
local macro_rules | `(tactic| wtm_at "?d") => `(tactic| first | (with_reducible exact MX.P.sp_wb _ _ _) | ((with_reducible apply MX.P.sp_vdot); (focus with_reducible assumption); (focus with_reducible assumption); (·omega)) | ((with_reducible apply MX.P.sp_vcross); (focus with_reducible assumption); (focus with_reducible assumption); (·omega)) | (with_reducible assumption))
namespace MX.P
open PySem L2 MX
theorem zeB{k:Nat}{o d a b:Pt}(ho:aN k o)(hd:aN k d)(ha:aN k a)(hb:aN k b)(h0:d≠(0,0,0))(hk:k<=1500)(S:So):
 Le [.tup [pD o,pD d],pD a,pD b] S=some (Mz (mC o d a b),S):=by
 have w1:=(ho.wb ha).le (show max k k+1<=k+1 by omega);have w2:=(ha.wb hb).le (show max k k+1<=k+1 by omega);have w3:=hd.cross w2;have w4:=w1.cross w2;have w5:=w1.cross hd;have hdd:=w3.dot w3;have hal:=zfE ho hd ha hb h0 hk S;unfold mC;by_cases hc:aq d (wb a b)=(0,0,0)
 .rw[if_pos hc];have hc':pD (aq d (wb a b))=P3 0 0 0:=tG.mpr hc;apply bK
  .wtm_at "?b"
   unfold vB;wtm_at "?a"
  .wtm_at "?c"
  .cases uT o d a b<;>rfl
 .rw[if_neg hc];have hpos:=qg hc;have hc':¬pD (aq d (wb a b))=P3 0 0 0:=λe=>hc (tG.mp e);by_cases hq:au (wb o a) (aq d (wb a b))=0
  .rw[if_pos hq];by_cases p1:au (aq (wb o a) (wb a b)) (aq d (wb a b))<0
   .rw[if_pos (.inl p1)];apply bK
    .wtm_at "?b"
     unfold vB;wtm_at "?a"
    .wtm_at "?c"
    .rfl
   .by_cases p2:au (aq (wb o a) d) (aq d (wb a b))<0
    .rw[if_pos (.inr (.inl p2))];apply bK
     .wtm_at "?b"
      unfold vB;wtm_at "?a"
     .wtm_at "?c"
     .rfl
    .by_cases p3:au (aq d (wb a b)) (aq d (wb a b))<au (aq (wb o a) d) (aq d (wb a b))
     .rw[if_pos (.inr (.inr p3))];apply bK
      .wtm_at "?b"
       unfold vB;wtm_at "?a"
      .wtm_at "?c"
      .rfl
     .rw[if_neg (by rintro(q|q|q);exact p1 q;exact p2 q;exact p3 q)];have hl:=z8 (show 0<=au (aq (wb o a) (wb a b)) (aq d (wb a b)) by omega) hpos hdd (show k+(k+1)+1+(k+(k+1)+1)+2<=8000 by omega) S;apply bK
      .wtm_at "?b"
       unfold vB;wtm_at "?a"
      .wtm_at "?c"
      .rfl
  .rw[if_neg hq];apply bK
   .wtm_at "?b"
    unfold vB;wtm_at "?a"
   .wtm_at "?c"
   .rfl
def oV(k:Nat)(t:Tq):Prop:=∀p,t=some p->0<=p.1/\0<p.2/\Bd k p.1/\Bd k p.2
theorem ye{k:Nat}{o d a b:Pt}(ho:aN k o)(hd:aN k d)(ha:aN k a)(hb:aN k b)(h0:d≠(0,0,0)):oV (4*k+10) (mC o d a b):=by
 have w1:=(ho.wb ha).le (show max k k+1<=k+1 by omega);have w0:=(ho.wb hb).le (show max k k+1<=k+1 by omega);have w2:=(ha.wb hb).le (show max k k+1<=k+1 by omega);have w3:=hd.cross w2;have w4:=w1.cross w2;have hdd:=w3.dot w3;have h1:=qg h0;intro p hp;unfold mC at hp;split at hp
 .unfold uT at hp;split at hp
  .split at hp
   .cases hp
   .cases hp;have a1:=w1.dot hd;have a2:=w0.dot hd;refine⟨?_,h1,?_,(hd.dot hd).le (by omega)⟩
    .simp only;unfold cZ;split<;>omega
    .simp only;have hz:Bd (4*k+10) 0:=(Bd.lit 0).le (Nat.zero_le _);have e1:=a1.le (show k+1+k+2<=4*k+10 by omega);have e2:=a2.le (show k+1+k+2<=4*k+10 by omega);unfold cZ dW;split<;>split<;>assumption
  .cases hp
 .rename_i hc;have hpos:=qg hc;split at hp
  .split at hp
   .cases hp
   .rename_i hn;cases hp;refine⟨?_,hpos,(w4.dot w3).le (by omega),hdd.le (by omega)⟩;simp only;exact Int.not_lt.mp λq=>hn (.inl q)
  .cases hp
noncomputable def m8(t:Tq):Tq:=t.map λp=>dD p.1 p.2
noncomputable def tD(t:Tq):D:=match t with
 |none => .non
 |some p=>rD p
def zpE(t:Tq):Mz t=tD (m8 t):=by cases t<;>rfl
noncomputable def pick(best new:Tq):Tq:=match new with
 |none=>best
 |some t=>match best with
  |none=>some t
  |some b=>if fX t b then some t else some b
noncomputable def nF(o d a b c:Pt):Tq:=pick (pick (pick none (m8 (mC o d a b))) (m8 (mC o d b c))) (m8 (mC o d c a))
theorem xX{k:Nat}{t:Tq}(h:oV k t):oV k (m8 t):=λp hp=>by
 unfold m8 at hp;cases t with
 |none=>cases hp
 |some q =>
  cases hp;obtain⟨h1,h2,h3,h4⟩:=h q rfl;obtain⟨b1,b2⟩:=Ej h3 h4 h2;exact⟨yx h1 h2,vz _ _,b1,b2⟩
def zJ{k:Nat}{s t:Tq}(h:oV k s)(g:oV k t):oV k (pick s t):=by
 unfold pick;split
 .exact h
 .split
  .exact g
  .split
   .exact g
   .exact h
noncomputable abbrev eL(a b c:Pt):O := .lst [.tup [pD a,pD b],.tup [pD b,pD c],.tup [pD c,pD a]]
theorem QS{n:Nat}{xs:List D}{S:So}(h:S[n]?=some (.lst xs)):sG (.lst n) S=some xs.length:=by show(match S[n]? with|some (.lst xs)=>some xs.length|some (.frz xs)=>some xs.length|_=>none)=_;rw[h]
def Q8{n i:Nat}{xs:List D}{S:So}(h:S[n]?=some (.lst xs))(hi:xs[i]?=none):di (.lst n) i S=some none:=by unfold di;simp only;rw[h];simp only;rw[hi]
theorem zhr{a b c:Pt}{S:So}(hS:WF S):vA [.tup [pD a,pD b,pD c]] S=some (.ref S.length,S++[eL a b c]):=by
 apply zF
 .wtm_at "?b"
  unfold JX;wtm_at "?a"
 .intro h;simp[D.lo] at h
 .simp
 .simp[D.lo]
 .exact hS.snoc rfl
theorem zgM{a b c:Pt}{n:Nat}{S:So}(hS:WF S)(hn:S[n]?=some (.lst [pD a,pD b,pD c])):vA [.ref n] S=some (.ref S.length,S++[eL a b c]):=by
 apply zF
 .wtm_at "?b"
  unfold JX;wtm_at "?a"
 .intro h;simp[D.lo] at h
 .simp
 .simp[D.lo]
 .exact hS.snoc rfl
theorem JR{k:Nat}{o d p q:Pt}{tr:D}{best:Tq}{x5:Option D}(ho:aN k o)(hd:aN k d)(hp:aN k p)(hq:aN k q)(h0:d≠(0,0,0))(hk:k<=1500)(hb:oV (4*k+10) best)(S:So):
 ∃y,Mj [some (.tup [pD o,pD d]),some tr,some (tD best),some (pD p),some (pD q),x5] S=some (.nx,[some (.tup [pD o,pD d]),some tr,some (tD (pick best (m8 (mC o d p q)))),some (pD p),some (pD q),y],S):=by
 have hs:=zeB ho hd hp hq h0 hk S;rw[zpE] at hs;have hb':=xX (ye ho hd hp hq h0);generalize m8 (mC o d p q)=t at *
 have s1:Mt [some (.tup [pD o,pD d]),some tr,some (tD best),some (pD p),some (pD q),x5] S=some (.nx,[some (.tup [pD o,pD d]),some tr,some (tD best),some (pD p),some (pD q),some (tD t)],S):=by unfold Mt;wtm_at "?a"
 refine⟨some (tD t),?_⟩;unfold Mj;refine aL s1 (aV (aL ?_ (aV eX)));unfold pick;cases t with
 |none =>
  show qU [some (.tup [pD o,pD d]),some tr,some (tD best),some (pD p),some (pD q),some .non] S=some (_,[some (.tup [pD o,pD d]),some tr,some (tD best),some (pD p),some (pD q),some .non],_);unfold qU;wtm_at "?a"
 |some t =>
  obtain⟨t1,t2⟩:=t;obtain⟨_,_,b1,b2⟩:=hb' _ rfl;cases best with
  |none =>
   show qU [some (.tup [pD o,pD d]),some tr,some .non,some (pD p),some (pD q),some (R2 t1 t2)] S=some (_,[some (.tup [pD o,pD d]),some tr,some (R2 t1 t2),some (pD p),some (pD q),some (R2 t1 t2)],_);unfold qU;wtm_at "?a"
  |some m =>
   obtain⟨m1,m2⟩:=m;obtain⟨_,_,c1,c2⟩:=hb _ rfl;have hless:=sp_is_less b1 b2 c1 c2 (show 4*k+10+(4*k+10)<=134217728 by omega) S;simp only at hless;by_cases hc:t1*m2<m1*t2
   .simp only;rw[if_pos (show fX (t1,t2) (m1,m2) from hc)];show qU [some (.tup [pD o,pD d]),some tr,some (R2 m1 m2),some (pD p),some (pD q),some (R2 t1 t2)] S=some (_,[some (.tup [pD o,pD d]),some tr,some (R2 t1 t2),some (pD p),some (pD q),some (R2 t1 t2)],_);unfold qU;wtm_at "?a"
   .simp only;rw[if_neg (show ¬fX (t1,t2) (m1,m2) from hc)];show qU [some (.tup [pD o,pD d]),some tr,some (R2 m1 m2),some (pD p),some (pD q),some (R2 t1 t2)] S=some (_,[some (.tup [pD o,pD d]),some tr,some (R2 m1 m2),some (pD p),some (pD q),some (R2 t1 t2)],_);unfold qU;wtm_at "?a"
theorem Vx{k:Nat}{o d a b c:Pt}(ho:aN k o)(hd:aN k d)(ha:aN k a)(hb:aN k b)(hc:aN k c)(h0:d≠(0,0,0))(hk:k<=1500)(S:So)(hS:WF S):
 yw [.tup [pD o,pD d],.tup [pD a,pD b,pD c]] S=some (tD (nF o d a b c),S):=by
 have n0:oV (4*k+10) none:=λp hp=>by cases hp
 have n1:=zJ n0 (xX (ye ho hd ha hb h0));have n2:=zJ n1 (xX (ye ho hd hb hc h0));obtain⟨y1,e1⟩:=JR (tr := .tup [pD a,pD b,pD c]) (x5:=none) ho hd ha hb h0 hk n0 (S++[eL a b c]);obtain⟨y2,e2⟩:=JR (tr := .tup [pD a,pD b,pD c]) (x5:=y1) ho hd hb hc h0 hk n1 (S++[eL a b c]);obtain⟨y3,e3⟩:=JR (tr := .tup [pD a,pD b,pD c]) (x5:=y2) ho hd hc ha h0 hk n2 (S++[eL a b c]);have hz:D.lo S.length (tD (nF o d a b c))=true:=by cases nF o d a b c<;>rfl
 have hn:(S++[eL a b c])[S.length]?=some (eL a b c):=cJ;have ed:=zhr (a:=a) (b:=b) (c:=c) hS;have it:eF (eN (aR 1 vA) (ak (aj 1) aA)) [some (.tup [pD o,pD d]),some (.tup [pD a,pD b,pD c]),some .non,none,none,none] S=some (.lst S.length,S++[eL a b c]):=by wtm_at "?j"
 have s2:Lb [some (.tup [pD o,pD d]),some (.tup [pD a,pD b,pD c]),some .non,none,none,none] S=some (.nx,[some (.tup [pD o,pD d]),some (.tup [pD a,pD b,pD c]),some (tD (nF o d a b c)),some (pD c),some (pD a),y3],S++[eL a b c]):=by unfold Lb;refine jT it (n:=3) (QS hn) ?_;exact fP (d := .tup [pD a,pD b]) (jx hn rfl) rfl e1 (kh (fP (d := .tup [pD b,pD c]) (jx hn rfl) rfl e2 (kh (fP (d := .tup [pD c,pD a]) (jx hn rfl) rfl e3 (kh (zB (Q8 hn rfl)))))))
 refine bK (σ':=[some (.tup [pD o,pD d]),some (.tup [pD a,pD b,pD c]),some (tD (nF o d a b c)),some (pD c),some (pD a),y3]) (S':=S++[eL a b c]) ?_ (by simp) hz;wtm_at "?b"
 unfold V0 Vz VB;exact aL (cN bF rfl) (aV (aL s2 (aV (aL (eG (aF rfl)) cL))))
noncomputable def cI(o w p q:Pt):Int:=au w (aq (wb o p) (wb o q))
noncomputable def bT(o w a b c:Pt):Bool:=(decide (0<=cI o w a b)&&decide (0<=cI o w b c)&&decide (0<=cI o w c a))||(decide (cI o w a b<=0)&&decide (cI o w b c<=0)&&decide (cI o w c a<=0))
theorem VF{k l:Nat}{o w a b c:Pt}(ho:aN k o)(hw:aN l w)(ha:aN k a)(hb:aN k b)(hc:aN k c)(hk:k<=10000)(hl:l<=30000)(S:So)(hS:WF S):
 qi [pD o,pD w,.tup [pD a,pD b,pD c]] S=some (.bl (bT o w a b c),S):=by
 have w1:=(ho.wb ha).le (show max k k+1<=k+1 by omega);have w2:=(ho.wb hb).le (show max k k+1<=k+1 by omega);have w3:=(ho.wb hc).le (show max k k+1<=k+1 by omega);have c1:=w1.cross w2;have c2:=w2.cross w3;have c3:=w3.cross w1;have em:jh [cI o w a b,cI o w b c,cI o w c a]=some (if cI o w c a<(if cI o w b c<cI o w a b then cI o w b c else cI o w a b) then cI o w c a else(if cI o w b c<cI o w a b then cI o w b c else cI o w a b)):=rfl;have eM:jk [cI o w a b,cI o w b c,cI o w c a]=some (if cI o w c a>(if cI o w b c>cI o w a b then cI o w b c else cI o w a b) then cI o w c a else(if cI o w b c>cI o w a b then cI o w b c else cI o w a b)):=rfl;generalize hx:(if cI o w c a<(if cI o w b c<cI o w a b then cI o w b c else cI o w a b) then cI o w c a else(if cI o w b c<cI o w a b then cI o w b c else cI o w a b))=x at em;generalize hy:(if cI o w c a>(if cI o w b c>cI o w a b then cI o w b c else cI o w a b) then cI o w c a else(if cI o w b c>cI o w a b then cI o w b c else cI o w a b))=y at eM;have e1:bT o w a b c=(decide (0<=x)||decide (y<=0)):=by unfold bT;rw[Bool.eq_iff_iff];simp only[nZ,dj,lX];subst hx hy;split<;>split<;>split<;>split<;>omega
 unfold cI at em eM;have gone:∃S1,dg (eF (aj 2)) (aM 0) cY (eN (aR 2 d8) (ak (aj 1) (ak (aj 0) aA))) [none,some 0] [some (pD o),some (pD w),some (.tup [pD a,pD b,pD c]),none,none] S=some (.ref S.length,S1)/\S1=S++[.lst [pD (wb o a),pD (wb o b),pD (wb o c)]]:=by refine⟨_,?_,rfl⟩;wtm_at "?a"
 obtain⟨S1,g1,g2⟩:=gone;have hS1:S1[S.length]?=some (.lst [pD (wb o a),pD (wb o b),pD (wb o c)]):=by rw[g2];exact cJ
 have hW1:WF S1:=by rw[g2];exact hS.snoc rfl
 have ed:=zgM hW1 hS1;have hn2:(S1++[eL (wb o a) (wb o b) (wb o c)])[S1.length]?=some (eL (wb o a) (wb o b) (wb o c)):=cJ;have sides:dg (eF (eN (aR 1 vA) (ak (aj 3) aA))) (jm 2 (dH (aM 0) (dH (aM 1) jK))) cY (eN (aR 2 fO) (ak (aj 2) (ak (eN (aR 2 jz) (ak (aj 0) (ak (aj 1) aA))) aA))) [none,none,some 1]
  [some (pD o),some (pD w),some (.tup [pD a,pD b,pD c]),some (.ref S.length),none] S1=some (.ref (S1++[eL (wb o a) (wb o b) (wb o c)]).length,S1++[eL (wb o a) (wb o b) (wb o c)]++[.lst ([au w (aq (wb o a) (wb o b)),au w (aq (wb o b) (wb o c)),au w (aq (wb o c) (wb o a))].map D.int)]):=by
  refine p6 (j := .lst S1.length) (n:=3) (S1:=S1++[eL (wb o a) (wb o b) (wb o c)]) ?_ (QS hn2) (sH rfl) rfl ?_
  .exact nJ (aZ (aK (aF rfl) aY) (cM rfl ed)) hn2
  .have one:∀(x y:Pt),aN (k+1) x->aN (k+1) y->eN (aR 2 fO) (ak (aj 2) (ak (eN (aR 2 jz) (ak (aj 0) (ak (aj 1) aA))) aA)) [some (pD x),some (pD y),some (pD w)] (S1++[eL (wb o a) (wb o b) (wb o c)])=some (.int (au w (aq x y)),S1++[eL (wb o a) (wb o b) (wb o c)]):=λx y hx hy=>by have hxy:=hx.cross hy;wtm_at "?a"
   refine nH (jx hn2 rfl) rfl nO (one _ _ w1 w2) rfl ?_;refine nH (jx hn2 rfl) rfl nO (one _ _ w2 w3) rfl ?_;refine nH (jx hn2 rfl) rfl nO (one _ _ w3 w1) rfl ?_;exact xQ (Q8 hn2 rfl)
 rw[e1];have iH:∀o1 o2:O,(S1++[o1]++[o2]).take S.length=S:=λo1 o2=>by rw[g2];simp
 by_cases hxx:0<=x
 .rw[jw hxx,Bool.true_or];apply bK
  .wtm_at "?b"
   unfold Lj;apply aL
   .exact cN g1 rfl
   .apply aV;apply aL
    .exact cN sides rfl
    .apply aV;apply aL
     .apply eG;apply u6
      .apply bC
       .apply aZ
        .wtm_at "?a"
        .exact Ii cJ em
       .wtm_at "?a"
       .wtm_at "?h"
      .apply d9
       .exact jw hxx
       .rfl
     .exact cL
  .exact iH _ _
  .rfl
 .rw[fM hxx,Bool.false_or];apply bK
  .wtm_at "?b"
   unfold Lj;apply aL
   .exact cN g1 rfl
   .apply aV;apply aL
    .exact cN sides rfl
    .apply aV;apply aL
     .apply eG;apply u6
      .apply bC
       .apply aZ
        .wtm_at "?a"
        .exact Ii cJ em
       .wtm_at "?a"
       .wtm_at "?h"
      .apply dI
       .exact fM hxx
       .apply bC
        .apply aZ
         .wtm_at "?a"
         .exact Q0 cJ eM
        .wtm_at "?a"
        .wtm_at "?h"
     .exact cL
  .exact iH _ _
  .rfl
noncomputable def uZ(o d a b c up:Pt):Tq:=if bT o up a b c=true then some (0,1) else nF o d a b c
theorem zlA{o d t up:D}{S:So}(hg:qi [o,up,t] S=some (.bl true,S)):yI [.tup [o,d],t,up] S=some (R2 0 1,S):=by
 apply bK
 .wtm_at "?b"
  unfold LR;wtm_at "?a"
 .wtm_at "?c"
 .rfl
theorem zlB{o d t up r:D}{S:So}(hg:qi [o,up,t] S=some (.bl false,S))(he:yw [.tup [o,d],t] S=some (r,S))(hr:D.lo S.length r=true):yI [.tup [o,d],t,up] S=some (r,S):=by
 apply bK
 .wtm_at "?b"
  unfold LR;apply aL
  .apply dF
   .wtm_at "?a"
   .apply dI
    .rfl
    .wtm_at "?a"
  .apply aV;apply aL
   .wtm_at "?a"
   .wtm_at "?n"
 .wtm_at "?c"
 .exact hr
def zm(n:Nat)(t:Tq):D.lo n (tD t)=true:=by cases t<;>rfl
theorem zeW{k l:Nat}{o d a b c up:Pt}(ho:aN k o)(hd:aN k d)(ha:aN k a)(hb:aN k b)(hc:aN k c)(hu:aN l up)(h0:d≠(0,0,0))(hk:k<=1500)(hl:l<=30000)(S:So)(hS:WF S):
 yI [.tup [pD o,pD d],.tup [pD a,pD b,pD c],pD up] S=some (tD (uZ o d a b c up),S):=by
 have hg:=VF ho hu ha hb hc (by omega) hl S hS;have he:=Vx ho hd ha hb hc h0 hk S hS;unfold uZ;by_cases q:bT o up a b c=true
 .rw[if_pos q];rw[q] at hg;exact zlA hg
 .rw[if_neg q];have q':bT o up a b c=false:=by simpa using q
  rw[q'] at hg;exact zlB hg he (zm _ _)
noncomputable def mG(o d a b c:Pt):Tq :=
 if aq (wb a b) (wb a c)=(0,0,0) then nF o d a b c
 else if au d (aq (wb a b) (wb a c))=0 then
  if au (wb o a) (aq (wb a b) (wb a c))=0 then uZ o d a b c (aq (wb a b) (wb a c)) else none
 else if au d (aq (wb a b) (wb a c))<0 then
  if -au (wb o a) (aq (wb a b) (wb a c))<0\/bT o d a b c=false then none else some (dD (-au (wb o a) (aq (wb a b) (wb a c))) (-au d (aq (wb a b) (wb a c))))
 else if au (wb o a) (aq (wb a b) (wb a c))<0\/bT o d a b c=false then none else some (dD (au (wb o a) (aq (wb a b) (wb a c))) (au d (aq (wb a b) (wb a c))))
theorem zlG{o d a b c up:Pt}{r:D}{S:So}(hup:up=aq (wb a b) (wb a c))(hz:up=(0,0,0)){k:Nat}(w1:aN k (wb a b))(w2:aN k (wb a c))(hk:k<=10000)(he:yw [.tup [pD o,pD d],.tup [pD a,pD b,pD c]] S=some (r,S))(hr:D.lo S.length r=true):
 nP [.tup [pD o,pD d],.tup [pD a,pD b,pD c]] S=some (r,S):=by
 have hz':pD (aq (wb a b) (wb a c))=P3 0 0 0:=tG.mpr (hup ▸ hz);apply bK
 .wtm_at "?b"
  unfold qb;wtm_at "?a"
 .wtm_at "?c"
 .exact hr
end MX.P
end
section
local macro_rules | `(tactic| wtm_at "?d") => `(tactic| (with_reducible assumption))
namespace MX.P
open PySem L2 MX
section
variable {o d a b c e1 e2 q r:D}{u:Pt}{U V:Int}{S:So}
theorem zpC(h1:d8 [a,b] S=some (e1,S))(h2:d8 [a,c] S=some (e2,S))(h3:jz [e1,e2] S=some (pD u,S))(hu:¬pD u=P3 0 0 0)(h4:d8 [o,a] S=some (q,S))(h5:fO [q,pD u] S=some (.int U,S))(h6:fO [d,pD u] S=some (.int V,S))(hV:V=0)(hU:U=0)(hr:yI [.tup [o,d],.tup [a,b,c],pD u] S=some (r,S))(hl:D.lo S.length r=true):nP [.tup [o,d],.tup [a,b,c]] S=some (r,S):=by
 apply bK
 .wtm_at "?b"
  unfold qb;wtm_at "?a"
 .wtm_at "?c"
 .exact hl
theorem znA(h1:d8 [a,b] S=some (e1,S))(h2:d8 [a,c] S=some (e2,S))(h3:jz [e1,e2] S=some (pD u,S))(hu:¬pD u=P3 0 0 0)(h4:d8 [o,a] S=some (q,S))(h5:fO [q,pD u] S=some (.int U,S))(h6:fO [d,pD u] S=some (.int V,S))(hV:V=0)(hU:¬U=0):nP [.tup [o,d],.tup [a,b,c]] S=some (.non,S):=by
 apply bK
 .wtm_at "?b"
  unfold qb;wtm_at "?a"
 .wtm_at "?c"
 .rfl
theorem zpB(h1:d8 [a,b] S=some (e1,S))(h2:d8 [a,c] S=some (e2,S))(h3:jz [e1,e2] S=some (pD u,S))(hu:¬pD u=P3 0 0 0)(h4:d8 [o,a] S=some (q,S))(h5:fO [q,pD u] S=some (.int U,S))(h6:fO [d,pD u] S=some (.int V,S))(Cj:¬V=0)(hV:V<0)(hU : -U<0):nP [.tup [o,d],.tup [a,b,c]] S=some (.non,S):=by
 apply bK
 .wtm_at "?b"
  unfold qb;wtm_at "?a"
 .wtm_at "?c"
 .rfl
theorem Zw(h1:d8 [a,b] S=some (e1,S))(h2:d8 [a,c] S=some (e2,S))(h3:jz [e1,e2] S=some (pD u,S))(hu:¬pD u=P3 0 0 0)(h4:d8 [o,a] S=some (q,S))(h5:fO [q,pD u] S=some (.int U,S))(h6:fO [d,pD u] S=some (.int V,S))(Cj:¬V=0)(hV:V<0)(hU:¬-U<0)(hg:qi [o,d,.tup [a,b,c]] S=some (.bl false,S)):nP [.tup [o,d],.tup [a,b,c]] S=some (.non,S):=by
 apply bK
 .wtm_at "?b"
  unfold qb;wtm_at "?a"
 .wtm_at "?c"
 .rfl
theorem zpA(h1:d8 [a,b] S=some (e1,S))(h2:d8 [a,c] S=some (e2,S))(h3:jz [e1,e2] S=some (pD u,S))(hu:¬pD u=P3 0 0 0)(h4:d8 [o,a] S=some (q,S))(h5:fO [q,pD u] S=some (.int U,S))(h6:fO [d,pD u] S=some (.int V,S))(Cj:¬V=0)(hV:V<0)(hU:¬-U<0)(hg:qi [o,d,.tup [a,b,c]] S=some (.bl true,S))(hq:tR [.tup [.int (-U),.int (-V)]] S=some (r,S))(hl:D.lo S.length r=true):nP [.tup [o,d],.tup [a,b,c]] S=some (r,S):=by
 apply bK
 .wtm_at "?b"
  unfold qb;wtm_at "?a"
 .wtm_at "?c"
 .exact hl
theorem Zx(h1:d8 [a,b] S=some (e1,S))(h2:d8 [a,c] S=some (e2,S))(h3:jz [e1,e2] S=some (pD u,S))(hu:¬pD u=P3 0 0 0)(h4:d8 [o,a] S=some (q,S))(h5:fO [q,pD u] S=some (.int U,S))(h6:fO [d,pD u] S=some (.int V,S))(Cj:¬V=0)(hV:¬V<0)(hU:U<0):nP [.tup [o,d],.tup [a,b,c]] S=some (.non,S):=by
 apply bK
 .wtm_at "?b"
  unfold qb;wtm_at "?a"
 .wtm_at "?c"
 .rfl
theorem Zz(h1:d8 [a,b] S=some (e1,S))(h2:d8 [a,c] S=some (e2,S))(h3:jz [e1,e2] S=some (pD u,S))(hu:¬pD u=P3 0 0 0)(h4:d8 [o,a] S=some (q,S))(h5:fO [q,pD u] S=some (.int U,S))(h6:fO [d,pD u] S=some (.int V,S))(Cj:¬V=0)(hV:¬V<0)(hU:¬U<0)(hg:qi [o,d,.tup [a,b,c]] S=some (.bl false,S)):nP [.tup [o,d],.tup [a,b,c]] S=some (.non,S):=by
 apply bK
 .wtm_at "?b"
  unfold qb;wtm_at "?a"
 .wtm_at "?c"
 .rfl
theorem Zy(h1:d8 [a,b] S=some (e1,S))(h2:d8 [a,c] S=some (e2,S))(h3:jz [e1,e2] S=some (pD u,S))(hu:¬pD u=P3 0 0 0)(h4:d8 [o,a] S=some (q,S))(h5:fO [q,pD u] S=some (.int U,S))(h6:fO [d,pD u] S=some (.int V,S))(Cj:¬V=0)(hV:¬V<0)(hU:¬U<0)(hg:qi [o,d,.tup [a,b,c]] S=some (.bl true,S))(hq:tR [.tup [.int U,.int V]] S=some (r,S))(hl:D.lo S.length r=true):nP [.tup [o,d],.tup [a,b,c]] S=some (r,S):=by
 apply bK
 .wtm_at "?b"
  unfold qb;wtm_at "?a"
 .wtm_at "?c"
 .exact hl
end
theorem zd7{k:Nat}{o d a b c:Pt}(ho:aN k o)(hd:aN k d)(ha:aN k a)(hb:aN k b)(hc:aN k c)(h0:d≠(0,0,0))(hk:k<=1500)(S:So)(hS:WF S):
 nP [.tup [pD o,pD d],.tup [pD a,pD b,pD c]] S=some (tD (mG o d a b c),S):=by
 have w1:=ha.wb hb;have w2:=ha.wb hc;have w3:=ho.wb ha;have wu:=w1.cross w2;have bU:=w3.dot wu;have bV:=hd.dot wu;have h1:=sp_wb a b S;have h2:=sp_wb a c S;have h3:=sp_vcross w1 w2 (by omega) S;have h4:=sp_wb o a S;have h5:=sp_vdot w3 wu (by omega) S;have h6:=sp_vdot hd wu (by omega) S;have hg:=VF ho hd ha hb hc (by omega) (by omega) S hS;have he:=Vx ho hd ha hb hc h0 hk S hS;have hw:=zeW ho hd ha hb hc wu h0 hk (by omega) S hS;unfold mG;generalize hu:aq (wb a b) (wb a c)=u at *
 by_cases q0:u=(0,0,0)
 .rw[if_pos q0];exact zlG hu.symm q0 w1 w2 (by omega) he (zm _ _)
 .rw[if_neg q0];have hne:¬pD u=P3 0 0 0:=λh=>q0 (tG.mp h);generalize au (wb o a) u=U at *
  generalize au d u=V at *
  by_cases v0:V=0
  .rw[if_pos v0];by_cases u0:U=0
   .rw[if_pos u0];exact zpC h1 h2 h3 hne h4 h5 h6 v0 u0 hw (zm _ _)
   .rw[if_neg u0];exact znA h1 h2 h3 hne h4 h5 h6 v0 u0
  .rw[if_neg v0];by_cases vn:V<0
   .rw[if_pos vn];by_cases un : -U<0
    .rw[if_pos (Or.inl un)];exact zpB h1 h2 h3 hne h4 h5 h6 v0 vn un
    .by_cases gg:bT o d a b c=false
     .rw[if_pos (Or.inr gg)];rw[gg] at hg;exact Zw h1 h2 h3 hne h4 h5 h6 v0 vn un hg
     .rw[if_neg (λh=>h.elim un gg)];have Oq:bT o d a b c=true:=by simpa using gg
      rw[Oq] at hg;exact zpA h1 h2 h3 hne h4 h5 h6 v0 vn un hg (z8 (by omega) (by omega) bV.neg (by omega) S) (zm S.length (some (dD (-U) (-V))))
   .rw[if_neg vn];by_cases un:U<0
    .rw[if_pos (Or.inl un)];exact Zx h1 h2 h3 hne h4 h5 h6 v0 vn un
    .by_cases gg:bT o d a b c=false
     .rw[if_pos (Or.inr gg)];rw[gg] at hg;exact Zz h1 h2 h3 hne h4 h5 h6 v0 vn un hg
     .rw[if_neg (λh=>h.elim un gg)];have Oq:bT o d a b c=true:=by simpa using gg
      rw[Oq] at hg;exact Zy h1 h2 h3 hne h4 h5 h6 v0 vn un hg (z8 (by omega) (by omega) bV (by omega) S) (zm S.length (some (dD U V)))
theorem zmQ{k:Nat}{o d a b c:Pt}(ho:aN k o)(hd:aN k d)(ha:aN k a)(hb:aN k b)(hc:aN k c)(h0:d≠(0,0,0)):oV (4*k+10) (nF o d a b c) :=
 zJ (zJ (zJ (λp hp=>by cases hp) (xX (ye ho hd ha hb h0))) (xX (ye ho hd hb hc h0))) (xX (ye ho hd hc ha h0))
theorem zpD{k:Nat}{o d a b c:Pt}(ho:aN k o)(hd:aN k d)(ha:aN k a)(hb:aN k b)(hc:aN k c)(h0:d≠(0,0,0)):oV (4*k+10) (mG o d a b c):=by
 have eb:=zmQ ho hd ha hb hc h0;have w1:=(ha.wb hb).le (show max k k+1<=k+1 by omega);have w2:=(ha.wb hc).le (show max k k+1<=k+1 by omega);have w3:=(ho.wb ha).le (show max k k+1<=k+1 by omega);have wu:=w1.cross w2;have bU:=(w3.dot wu).le (show k+1+(k+1+(k+1)+1)+2<=4*k+10 by omega);have bV:=(hd.dot wu).le (show k+(k+1+(k+1)+1)+2<=4*k+10 by omega);unfold mG uZ;intro p hp;split at hp
 .exact eb p hp
 .split at hp
  .split at hp
   .split at hp
    .cases hp;exact⟨by decide,by decide,(Bd.lit 0).le (Nat.zero_le _),(Bd.lit 1).le (show 1<=4*k+10 by omega)⟩
    .exact eb p hp
   .cases hp
  .rename_i hV;split at hp
   .rename_i hn;split at hp
    .cases hp
    .rename_i hb;cases hp;obtain⟨b1,b2⟩:=Ej bU.neg bV.neg (by omega);exact⟨yx (Int.not_lt.mp λq=>hb (.inl q)) (by omega),vz _ _,b1,b2⟩
   .rename_i hn;split at hp
    .cases hp
    .rename_i hb;cases hp;obtain⟨b1,b2⟩:=Ej bU bV (by omega);exact⟨yx (Int.not_lt.mp λq=>hb (.inl q)) (by omega),vz _ _,b1,b2⟩
theorem zfC{k:Nat}{o d a b c:Pt}(ho:aN k o)(hd:aN k d)(ha:aN k a)(hb:aN k b)(hc:aN k c)(h0:d≠(0,0,0))(hk:k<=1500)(S:So)(hS:WF S):
 yo [.tup [pD o,pD d],.tup [.str "triangle",pD a,pD b,pD c]] S=some (tD (mG o d a b c),S):=by
 have hm:=zd7 ho hd ha hb hc h0 hk S hS;apply bK
 .wtm_at "?b"
  unfold JN;have t:bG (eB (aW .Eq) (eB aJ (aj 1) (eC (.int 0))) (eC (.str "box"))) [some (.tup [pD o,pD d]),some (.tup [.str "triangle",pD a,pD b,pD c])] S=some (false,S):=by have h:=fY (bC (fa:=eB aJ (aj 1) (eC (.int 0))) (fb:=eC (.str "box")) (σ:=[some (.tup [pD o,pD d]),some (.tup [.str "triangle",pD a,pD b,pD c])]) (S:=S) (bC (aF rfl) bF (gb rfl)) bF (u9 (x := .str "triangle") (y := .str "box") rfl 1 (by decide +kernel) (by decide +kernel) (by decide)));rw[h,fM (λe=>by simp only[D.str.injEq] at e;exact absurd e (by decide +kernel))]
  refine aL (dF t (dI rfl eX)) (aV ?_);wtm_at "?a"
 .wtm_at "?c"
 .cases mG o d a b c<;>rfl
inductive Sh where
 |box (lo hi:Pt)
 |tri (a b c:Pt)
noncomputable def cR:Sh->D
 |.box lo hi => .tup [.str "box",pD lo,pD hi]
 |.tri a b c => .tup [.str "triangle",pD a,pD b,pD c]
noncomputable def Sh.pts:Sh->List Pt
 |.box lo hi=>[lo,hi]
 |.tri a b c=>[a,b,c]
structure kW(k:Nat)(s:Sh):Prop where
 bd:∀p∈s.pts,aN k p
 ord:∀lo hi,s = .box lo hi->lo.1<=hi.1/\lo.2.1<=hi.2.1/\lo.2.2<=hi.2.2
noncomputable def gP(o d:Pt):Sh->Tq
 |.box lo hi=>(gM o d lo hi).map λp=>dD p.1.1 p.1.2
 |.tri a b c=>mG o d a b c
def XS(t:Option ((Int×Int)×(Int×Int))):N6 t=tD (t.map λp=>dD p.1.1 p.1.2):=by cases t<;>rfl
theorem T8{k:Nat}{o d:Pt}{s:Sh}(ho:aN k o)(hd:aN k d)(hs:kW k s)(h0:d≠(0,0,0))(hk:k<=1500)(S:So)(hS:WF S):
 yo [.tup [pD o,pD d],cR s] S=some (tD (gP o d s),S):=by
 cases s with
 |box lo hi =>
  have:=zfD ho hd (hs.bd lo (by simp[Sh.pts])) (hs.bd hi (by simp[Sh.pts])) h0 (by omega) S;rw[XS] at this;exact this
 |tri a b c=>exact zfC ho hd (hs.bd a (by simp[Sh.pts])) (hs.bd b (by simp[Sh.pts])) (hs.bd c (by simp[Sh.pts])) h0 hk S hS
theorem Qa{k:Nat}{o d:Pt}{s:Sh}(ho:aN k o)(hd:aN k d)(hs:kW k s)(h0:d≠(0,0,0)):oV (4*k+10) (gP o d s):=by
 cases s with
 |box lo hi =>
  intro p hp;simp only[gP,aX] at hp;obtain⟨q,e,rfl⟩:=hp;have ok:=R3 ho hd (hs.bd lo (by simp[Sh.pts])) (hs.bd hi (by simp[Sh.pts])) e;have b:=Ej (k:=4*k+10) (ok.b1.le (by omega)) (ok.b2.le (by omega)) ok.f2;exact⟨yx ok.f0 ok.f2,vz _ _,b.1,b.2⟩
 |tri a b c=>exact zpD ho hd (hs.bd a (by simp[Sh.pts])) (hs.bd b (by simp[Sh.pts])) (hs.bd c (by simp[Sh.pts])) h0
theorem Ju:∀{ns:List Int} {m:Int},jh ns=some m->m∈ns:=by
 intro ns m h;cases ns with
 |nil=>cases h
 |cons a r =>
  have h':r.foldl (λx y=>if y<x then y else x) a=m:=by simpa[jh] using h
  clear h
  induction r generalizing a with
  |nil=>simp at h';subst h';simp
  |cons b r ih =>
   rw[List.foldl_cons] at h';have:=ih _ h';rcases List.mem_cons.mp this with e|e
   .rw[e];split<;>simp
   .exact cQ _ (cQ _ e)
theorem Ey:∀{ns:List Int} {m:Int},jk ns=some m->m∈ns:=by
 intro ns m h;cases ns with
 |nil=>cases h
 |cons a r =>
  have h':r.foldl (λx y=>if y>x then y else x) a=m:=by simpa[jk] using h
  clear h
  induction r generalizing a with
  |nil=>simp at h';subst h';simp
  |cons b r ih =>
   rw[List.foldl_cons] at h';have:=ih _ h';rcases List.mem_cons.mp this with e|e
   .rw[e];split<;>simp
   .exact cQ _ (cQ _ e)
theorem lW.bd{k:Nat}{pts:List Pt}{lo hi:Pt}(B:lW pts lo hi)(h:∀p∈pts,aN k p):aN k lo/\aN k hi:=by
 have m:∀{j:Int} {x:Int},(0<=j/\j<=2)->x∈pts.map (co j)->Bd k x:=λ{j x} hj hx=>by
  obtain⟨p,hp,rfl⟩:=List.mem_map.mp hx;have:=h p hp;unfold co;split
  .exact this.1
  .split
   .exact this.2.1
   .exact this.2.2
 exact⟨⟨m (by decide) (Ju B.h0),m (by decide) (Ju B.h1),m (by decide) (Ju B.h2)⟩,⟨m (by decide) (Ey B.g0),m (by decide) (Ey B.g1),m (by decide) (Ey B.g2)⟩⟩
theorem znR{k:Nat}{s:Sh}(hs:kW k s):∃lo hi,lW s.pts lo hi/\aN k lo/\aN k hi/\∀S,WF S->vo [cR s] S=some (.tup [pD lo,pD hi],S):=by
 obtain⟨lo,hi,B⟩:=Qc (pts:=s.pts) (by cases s<;>simp[Sh.pts]);refine⟨lo,hi,B,(B.bd hs.bd).1,(B.bd hs.bd).2,λS hS=>?_⟩;cases s with
 |box l h =>
  obtain⟨o1,o2,o3⟩:=hs.ord l h rfl;exact T7 (nm := "box") (pts:=[l,h]) hS (by simp) (by simp) B (VG o1 o2 o3)
 |tri a b c=>exact T7 (nm := "triangle") (pts:=[a,b,c]) hS (by simp) (by simp) B VH
inductive Tr where
 |lf (lo hi:Pt) (i:Nat)
 |nd (lo hi:Pt) (l r:Tr)
noncomputable abbrev G6(b x h:D):D := .obj "Tree" ["box", "number", "halves"] [b,x,h]
noncomputable def bD:Tr->D
 |.lf lo hi i=>G6 (.tup [pD lo,pD hi]) (.int (i:Nat)) (.tup [])
 |.nd lo hi l r=>G6 (.tup [pD lo,pD hi]) .non (.tup [bD l,bD r])
noncomputable def Tr.lo:Tr->Pt
 |.lf lo _ _=>lo
 |.nd lo _ _ _=>lo
noncomputable def Tr.hi:Tr->Pt
 |.lf _ hi _=>hi
 |.nd _ hi _ _=>hi
def qO(n:Nat):∀t:Tr,D.lo n (bD t)=true
 |.lf lo hi i=>by simp[bD,D.lo,cV]
 |.nd lo hi l r=>by simp[bD,D.lo,cV,qO n l,qO n r]
section
variable {σ σ1:Sg}{S S1 S2:So}{fe fo fv:EF}{d x:D}{C f:Str}{n:Nat}{ds:List D}{fa:AF}{φ:GN}
theorem qQ{ks:List Str}{xs:List D}(h1:fe σ S=some (.obj C ks xs,S1))(hl:ks.length=xs.length)(h2:(ks.zip xs).lookup f=some d):gH C f fe σ S=some (d,S1):=by unfold gH;rw[h1];simp only[cg];rw[if_pos ⟨trivial,hl⟩,h2];rfl
theorem Jl{fs:List (Str×D)}(h1:fe σ S=some (.ref n,S1))(h2:S1[n]?=some (.ins C fs))(h3:fs.lookup f=some d):gH C f fe σ S=some (d,S1):=by unfold gH;rw[h1];simp only[cg];rw[h2];simp only[if_true];rw[h3];rfl
theorem zE{fs:List (Str×D)}{S3:So}(h1:fv σ S=some (d,S1))(h2:fo σ S1=some (.ref n,S2))(h3:S2[n]?=some (.ins C fs))(h4:fs.length<3)(h5:S2.set n (.ins C (uM f d fs))=S3):oH C f fo fv σ S=some (.nx,σ,S3):=by unfold oH;rw[h1];simp only[cg];rw[h2];simp only[cg];rw[h3];simp only;rw[if_pos ⟨trivial,h4⟩,h5]
theorem Qg(h1:fa σ S=some (ds,S1))(hn:ds.length+1=n)(h2:φ (.ref S1.length::ds) (S1++[.ins C []])=some (.non,S2)):pI C n φ fa σ S=some (mX C S1.length S2):=by unfold pI;rw[h1];simp only[cg];unfold aR;rw[if_pos (by simpa using hn),h2];rfl
theorem zA{fs:List (Str×D)}{m:Str}{r:Option (D×So)}{ds:List D}{k:Nat}(h1:fo σ S=some (.ref k,S1))(h2:S1[k]?=some (.ins C fs))(h3:fs.lookup m=none)(h4:fa σ S1=some (ds,S2))(hn:ds.length+1=n)(h5:φ (.ref k::ds) S2=r):mq C m n φ fo fa σ S=r:=by unfold mq;rw[h1];simp only[cg];rw[h2];simp only;rw[if_pos ⟨trivial,h3⟩,h4];simp only[cg];unfold aR;rw[if_pos (by simpa using hn),h5]
theorem Rw{k:Nat}{fb:SF}{S':So}{σ':Sg}(h:fb (mQ k ds) S=some (.nx,σ',S'))(hne:¬S'.take S.length=S)(hl:S.length<=S'.length)(hw:WF S'):fnOf k fb ds S=some (.non,S'):=by unfold fnOf;rw[h];simp only;rw[if_neg hne,if_pos ⟨hl,hw⟩]
end
def Jz{S:So}{a b:O}:(S++[a]).set S.length b=S++[b]:=by simp
theorem znS{S:So}{b x h:D}(hS:WF S)(hlo:cV S.length [b,x,h]=true):yF [.ref S.length,b,x,h] (S++[.ins "Tree" []])=some (.non,S++[.ins "Tree" [("box",b),("number",x),("halves",h)]]):=by
 apply Rw
 .wtm_at "?b"
  unfold Mi;refine aL (zE (aF rfl) (aF rfl) cJ (show(0:Nat)<3 by decide) Jz) (aV ?_);refine aL (zE (aF rfl) (aF rfl) cJ (show(1:Nat)<3 by decide) Jz) (aV ?_);refine aL (zE (aF rfl) (aF rfl) cJ (show(2:Nat)<3 by decide) Jz) (aV ?_);rfl
 .intro e;have:=congrArg (λl=>l[S.length]?) e;simp at this
 .simp
 .exact hS.snoc (by
   simpa[O.lo,uM] using hlo)
theorem Tw{σ:Sg}{S S1:So}{fa:AF}{b x h:D}(h1:fa σ S=some ([b,x,h],S1))(hS:WF S1)(hlo:cV S1.length [b,x,h]=true):pI "Tree" 4 yF fa σ S=some (G6 b x h,S1):=by
 rw[Qg (n:=4) h1 rfl (znS hS hlo)];unfold mX;rw[cJ];simp only;rw[if_pos]
 .simp
 .refine⟨trivial,by simp,by simp,by simpa using hlo,?_⟩;rw[List.all_eq_true];intro o ho;have ho':o∈S1:=by simpa using ho
  exact hS o ho'
def zoX{a b c m:Int}(h:m∈[a,b,c]):[a,b,c].idxOf m<=2:=by have:=List.idxOf_lt_length_iff.mpr h;simp only[jf,uQ] at this;omega
theorem zmO{S:So}{n:Nat}{xs:List D}{ns:List Int}{m:Int}(h1:S[n]?=some (.lst xs))(h2:mK xs=some ns)(h:m∈ns):xG (.ref n) [.int m] S=some (.int (ns.idxOf m:Nat),S):=by unfold xG;simp only;rw[h1];simp only;rw[h2];simp only[cg];rw[if_pos h]
theorem zjY(lo hi:Pt):∃j:Nat,j<=2/\∀S,K5 [.tup [pD lo,pD hi]] S=some (.int (j:Nat),S):=by
 obtain⟨m,hm⟩:=DQ (ns:=[hi.1 - lo.1,hi.2.1 - lo.2.1,hi.2.2 - lo.2.2]) (by simp);have mem:=Ey hm;refine⟨_,zoX mem,λS=>?_⟩;apply bK
 .wtm_at "?b"
  unfold VR;apply aL
  .apply cN
   .wtm_at "?a"
   .wtm_at "?g"
  .apply aV;apply aL
   .apply eG;apply DG
    .wtm_at "?a"
    .exact cJ
    .apply aK
     .apply aZ
      .wtm_at "?a"
      .exact SQ cJ rfl hm
     .exact aY
    .exact zmO cJ rfl mem
   .exact cL
 .wtm_at "?c"
 .rfl
end MX.P
end
section
variable {A B C a b c d o p:MX.P.Pt}{K i k n:Nat}{S:MX.So}{X Y:Int×Int->Prop}{fe:MX.EF}{j l q u v w x y:Int}{ns:List Int}{s:MX.P.Sh}{shs:List MX.P.Sh}{src:List (Option Nat)}{t:Int×Int}{xs:List MX.D}{σ:MX.Sg}
section
namespace MX.P
open PySem L2 MX
end MX.P
local macro_rules | `(tactic| wtm_at "?d") => `(tactic| first | (with_reducible first | exact MX.P.sp_drawn _ _ _ | exact MX.P.sp_pt _ _ _) | (with_reducible assumption))
namespace MX.P
open PySem L2 MX
def Hl(h:aN k p)(j:Int):Bd k (co j p):=by unfold co;split;exact h.1;split;exact h.2.1;exact h.2.2
def co0(p:Pt):co 0 p=p.1:=rfl
def co1(p:Pt):co 1 p=p.2.1:=rfl
def co2(p:Pt):co 2 p=p.2.2:=rfl
end MX.P
local macro_rules | `(tactic| wtm_at "?d") => `(tactic| ((with_reducible apply MX.P.sp_near); (·assumption); (·assumption); (focus decide); (focus decide)))
namespace MX.P
end MX.P
end
section
local macro_rules | `(tactic| wtm_at "?d") => `(tactic| (with_reducible assumption))
namespace MX.P
open PySem L2 MX
def iJ(s w lo hi:Int)(t:Int×Int):Prop:=lo*t.2<=s*t.2+w*t.1/\s*t.2+w*t.1<=hi*t.2
def inB(o d lo hi:Pt)(t:Int×Int):Prop:=iJ o.1 d.1 lo.1 hi.1 t/\iJ o.2.1 d.2.1 lo.2.1 hi.2.1 t/\iJ o.2.2 d.2.2 lo.2.2 hi.2.2 t
instance (s w lo hi:Int) (t:Int×Int):Decidable (iJ s w lo hi t):=by unfold iJ;infer_instance
instance (o d lo hi:Pt) (t:Int×Int):Decidable (inB o d lo hi t):=by unfold inB;infer_instance
noncomputable def rQ(j:Int)(o d lo hi:Pt):List (Int×Int):=if co j d=0 then[] else[dD (co j lo - co j o) (co j d),dD (co j hi - co j o) (co j d)]
def Wy(o d lo hi:Pt)(t:Int×Int):Prop:=0<=t.1/\inB o d lo hi t
instance (o d lo hi:Pt) (t:Int×Int):Decidable (Wy o d lo hi t):=by unfold Wy;infer_instance
noncomputable abbrev cX(o d:Pt):D := .tup [pD o,pD d]
theorem zmA{s lo hi:Int}(hw:w≠0):iJ s w lo hi t↔leQ (iR s w lo hi) t/\leQ t (jA s w lo hi):=by
 unfold iJ leQ iR jA;obtain⟨t1,t2⟩:=t;split
 .simp only;constructor
  .rintro⟨h1,h2⟩;constructor<;>grind
  .rintro⟨h1,h2⟩;constructor<;>grind
 .simp only;constructor
  .rintro⟨h1,h2⟩;constructor<;>grind
  .rintro⟨h1,h2⟩;constructor<;>grind
theorem Uh{s lo hi:Int}(ht:0<t.2):iJ s 0 lo hi t↔lo<=s/\s<=hi:=by unfold iJ;simp only[Int.zero_mul,Int.add_zero];rw[Int.mul_le_mul_right ht,Int.mul_le_mul_right ht]
theorem ZJ{a e:Int×Int}(ha:0<a.2)(he:0<e.2)(ht:0<t.2):leQ (qu w a e) t↔leQ a t/\leQ e t:=by
 unfold qu;split
 .rename_i h;have:leQ a e:=by unfold fX at h;unfold leQ;omega
  exact⟨λq=>⟨yq ha he ht this q,q⟩,λq=>q.2⟩
 .rename_i h;exact⟨λq=>⟨q,yq he ha ht (qP h) q⟩,λq=>q.1⟩
theorem QL{a:Option (Int×Int)}{l:Int×Int}(ha:∀m,a=some m->0<m.2)(hl:0<l.2)(ht:0<t.2):leQ t (rR a l)↔leQ t l/\∀m,a=some m->leQ t m:=by
 unfold rR;split
 .exact⟨λq=>⟨q,λm hm=>by cases hm⟩,λq=>q.1⟩
 .rename_i m;have hm:=ha m rfl;split
  .rename_i h;have:leQ l m:=by unfold fX at h;unfold leQ;omega
   exact⟨λq=>⟨q,λn hn=>by cases hn;exact yq ht hl hm q this⟩,λq=>q.1⟩
  .rename_i h;exact⟨λq=>⟨yq ht hm hl q (qP h),λn hn=>by cases hn;exact q⟩,λq=>q.2 m rfl⟩
structure Pb(C:Int×Int->Prop)(cs:List (Int×Int))(a:Ax):Prop where
 pos:Gz a
 iff:∀t:Int×Int,0<=t.1->0<t.2->(C t↔leQ a.1 t/\∀l,a.2=some l->leQ t l)
 fm:dD a.1.1 a.1.2∈cs
 lm:∀l,a.2=some l->dD l.1 l.2∈cs
theorem zmU{lo hi:Pt}(hw:co j d≠0):dD (iR (co j o) (co j d) (co j lo) (co j hi)).1 (iR (co j o) (co j d) (co j lo) (co j hi)).2∈rQ j o d lo hi/\dD (jA (co j o) (co j d) (co j lo) (co j hi)).1 (jA (co j o) (co j d) (co j lo) (co j hi)).2∈rQ j o d lo hi:=by
 unfold rQ iR jA;rw[if_neg hw];split
 .simp
 .rename_i hn;simp only;rw[Ja (a:=co j o - co j hi) (b := -co j d) (c:=co j hi - co j o) (d:=co j d) (by omega) hw (by grind),Ja (a:=co j o - co j lo) (b := -co j d) (c:=co j lo - co j o) (d:=co j d) (by omega) hw (by grind)];simp
theorem JG{C:Int×Int->Prop}{cs:List (Int×Int)}{a:Ax}{lo hi:Pt}(h:Pb C cs a):
 match dY a (co j o) (co j d) (co j lo) (co j hi) with
 |none=>∀t:Int×Int,0<=t.1->0<t.2->¬(C t/\iJ (co j o) (co j d) (co j lo) (co j hi) t)
 |some b=>Pb (λt=>C t/\iJ (co j o) (co j d) (co j lo) (co j hi) t) (cs++rQ j o d lo hi) b:=by
 cases e:dY a (co j o) (co j d) (co j lo) (co j hi) with
 |none =>
  simp only;intro t h0 ht hc;unfold dY at e;split at e
  .rename_i hw;split at e
   .rename_i hx;have:=hc.2;rw[hw,Uh ht] at this;omega
   .cases e
  .cases e
 |some b =>
  simp only;have hp:=Eo h.pos e;unfold dY at e;split at e
  .rename_i hw;split at e
   .cases e
   .rename_i hx;cases e;refine⟨h.pos,λt h0 ht=>?_,List.mem_append_left _ h.fm,λl hl=>List.mem_append_left _ (h.lm l hl)⟩;rw[<-h.iff t h0 ht,hw,Uh ht];exact⟨λq=>q.1,λq=>⟨q,by omega,by omega⟩⟩
  .rename_i hw;cases e;obtain⟨p1,p2⟩:=RB (s:=co j o) (lo:=co j lo) (hi:=co j hi) hw;obtain⟨m1,m2⟩:=zmU (o:=o) (lo:=lo) (hi:=hi) hw;refine⟨hp,λt h0 ht=>?_,?_,λl hl=>?_⟩
   .simp only;rw[zmA hw,h.iff t h0 ht,ZJ h.pos.2.1 p1 ht];constructor
    .rintro⟨⟨q1,q2⟩,q3,q4⟩
     exact⟨⟨q1,q3⟩,λl hl=>by cases hl;exact(QL h.pos.2.2 p2 ht).mpr ⟨q4,q2⟩⟩
    .rintro⟨⟨q1,q3⟩,q⟩
     have:=(QL h.pos.2.2 p2 ht).mp (q _ rfl);exact⟨⟨q1,this.2⟩,q3,this.1⟩
   .simp only;rcases Fj (co j d) a.1 (iR (co j o) (co j d) (co j lo) (co j hi)) with q|q<;>rw[q]
    .exact List.mem_append_left _ h.fm
    .exact List.mem_append_right _ m1
   .cases hl;rcases JP a.2 (jA (co j o) (co j d) (co j lo) (co j hi)) with q|⟨m,q1,q⟩<;>rw[q]
    .exact List.mem_append_right _ m2
    .exact List.mem_append_left _ (h.lm m q1)
end MX.P
end
section
namespace MX.P
def je(k:Int)(d:Pt)(q u v w:Int)(A B C:Pt):Prop:=k*d.1=q*(u*A.1+v*B.1+w*C.1)/\k*d.2.1=q*(u*A.2.1+v*B.2.1+w*C.2.1)/\k*d.2.2=q*(u*A.2.2+v*B.2.2+w*C.2.2)
def iG(d A B C:Pt)(t:Int×Int):Prop:=∃u v w:Int,0<=u/\0<=v/\0<=w/\0<u+v+w/\je ((u+v+w)*t.1) d t.2 u v w A B C
def gC(d A B:Pt)(t:Int×Int):Prop:=∃u v:Int,0<=u/\0<=v/\0<u+v/\je ((u+v)*t.1) d t.2 u v 0 A B A
theorem je.dot{k:Int}(h:je k d q u v w A B C)(n:Pt):k*au d n=q*(u*au A n+v*au B n+w*au C n):=by
 obtain⟨h1,h2,h3⟩:=h;have e:k*au d n=(k*d.1)*n.1+(k*d.2.1)*n.2.1+(k*d.2.2)*n.2.2:=by unfold au;grind
 rw[e,h1,h2,h3];unfold au;grind
def Df{k:Int}(hk:0<k)(h:k*x=k*y):x=y:=Int.eq_of_mul_eq_mul_left (by omega) h
def pX{k:Int}(hk:0<k)(h:0=k*x):x=0:=by
 rcases Int.mul_eq_zero.mp h.symm with e|e
 .omega
 .exact e
def Inv(X:Int×Int->Prop):Prop:=∀t r:Int×Int,0<t.2->0<r.2->t.1*r.2=r.1*t.2->X t->X r
theorem Sd{s q:Int}{r:Int×Int}(ht:0<t.2)(e:t.1*r.2=r.1*t.2)(h:je (s*t.1) d t.2 u v w A B C):je (s*r.1) d r.2 u v w A B C:=by
 obtain⟨h1,h2,h3⟩:=h;have f:∀x y:Int,s*t.1*x=t.2*y->s*r.1*x=r.2*y:=λx y h=>by
  refine Df ht ?_;have e1:t.2*(s*r.1*x)=s*x*(r.1*t.2):=by grind
  have e2:t.2*(r.2*y)=r.2*(t.2*y):=by grind
  rw[e1,e2,<-e,<-h];grind
 exact⟨f _ _ h1,f _ _ h2,f _ _ h3⟩
def zG(d A B C:Pt):Inv (iG d A B C):=λt r ht _ e ⟨u,v,w,h1,h2,h3,h4,h⟩=>⟨u,v,w,h1,h2,h3,h4,Sd (q:=0) ht e h⟩
def Eg(d A B:Pt):Inv (gC d A B):=λt r ht _ e ⟨u,v,h1,h2,h4,h⟩=>⟨u,v,h1,h2,h4,Sd (q:=0) ht e h⟩
def Qo(h:gC d A B t):iG d A B C t:=by obtain⟨u,v,h1,h2,h4,c1,c2,c3⟩:=h;refine⟨u,v,0,h1,h2,by omega,by omega,?_,?_,?_⟩<;>grind
def Qp(h:gC d B C t):iG d A B C t:=by obtain⟨u,v,h1,h2,h4,c1,c2,c3⟩:=h;refine⟨0,u,v,by omega,h1,h2,by omega,?_,?_,?_⟩<;>grind
def Qq(h:gC d C A t):iG d A B C t:=by obtain⟨u,v,h1,h2,h4,c1,c2,c3⟩:=h;refine⟨v,0,u,h2,by omega,h1,by omega,?_,?_,?_⟩<;>grind
def iI(m:Tq)(X:Int×Int->Prop):Prop:=match m with
 |none=>∀t:Int×Int,0<=t.1->0<t.2->¬X t
 |some r=>0<=r.1/\0<r.2/\X r/\∀t:Int×Int,0<=t.1->0<t.2->X t->leQ r t
theorem iI.congr{m:Tq}(h:iI m X)(e:∀t:Int×Int,0<=t.1->0<t.2->(X t↔Y t)):iI m Y:=by
 unfold iI at *
 cases m with
 |none=>exact λt h1 h2 hy=>h t h1 h2 ((e t h1 h2).mpr hy)
 |some r=>exact⟨h.1,h.2.1,(e r h.1 h.2.1).mp h.2.2.1,λt h1 h2 hy=>h.2.2.2 t h1 h2 ((e t h1 h2).mpr hy)⟩
theorem Ef{a b c:Int×Int}(ha:0<a.2)(hb:0<b.2)(hc:0<c.2)(h1:leQ a b)(h2:leQ b c):leQ a c:=by
 unfold leQ at *
 have h3:=Int.mul_le_mul_of_nonneg_right h1 (show 0<=c.2 by omega);have h4:=Int.mul_le_mul_of_nonneg_right h2 (show 0<=a.2 by omega);have e1:a.1*b.2*c.2=b.2*(a.1*c.2):=by grind
 have e2:c.1*b.2*a.2=b.2*(c.1*a.2):=by grind
 have e3:b.1*a.2*c.2=b.1*c.2*a.2:=by grind
 refine Int.le_of_mul_le_mul_left (a:=b.2) ?_ hb;omega
theorem iI.pick{m n:Tq}{X Y:Int×Int->Prop}(hm:iI m X)(hn:iI n Y):iI (pick m n) (λt=>X t\/Y t):=by
 unfold MX.P.pick;cases n with
 |none =>
  refine hm.congr λt h1 h2=>⟨.inl,λh=>h.elim id λh=>absurd h (hn t h1 h2)⟩
 |some t =>
  cases m with
  |none =>
   refine hn.congr λt h1 h2=>⟨.inr,λh=>h.elim (λh=>absurd h (hm t h1 h2)) id⟩
  |some b =>
   simp only;split
   .rename_i hl;refine⟨hn.1,hn.2.1,.inr hn.2.2.1,λs h1 h2 h=>h.elim (λh=>?_) (hn.2.2.2 s h1 h2)⟩;refine Ef hn.2.1 hm.2.1 h2 ?_ (hm.2.2.2 s h1 h2 h);unfold fX at hl;unfold leQ;omega
   .rename_i hl;refine⟨hm.1,hm.2.1,.inl hm.2.2.1,λs h1 h2 h=>h.elim (hm.2.2.2 s h1 h2) (λh=>?_)⟩;refine Ef hm.2.1 hn.2.1 h2 ?_ (hn.2.2.2 s h1 h2 h);unfold fX at hl;unfold leQ;omega
theorem iI.red{m:Tq}(hi:Inv X)(hm:iI m X):iI (m8 m) X:=by
 cases m with
 |none=>exact hm
 |some r =>
  obtain⟨h1,h2,h3,h4⟩:=hm;have hp:=vz r.1 r.2;have hc:=U3 (a:=r.1) (b:=r.2) (by omega);refine⟨yx h1 h2,hp,hi r _ h2 hp hc.symm h3,λt g1 g2 g3=>Ef hp h2 g2 ?_ (h4 t g1 g2 g3)⟩;unfold leQ;show(dD r.1 r.2).1*r.2<=r.1*(dD r.1 r.2).2;omega
def uX(m:Tq):Prop:=∀r,m=some r->dD r.1 r.2=r
def EY(m:Tq):uX (m8 m):=λr hr=>by
 cases m with
 |none=>cases hr
 |some p=>cases hr;exact Kl _ _
def Jw{m n:Tq}(hm:uX m)(hn:uX n):uX (pick m n):=by
 unfold pick;split
 .exact hm
 .split
  .exact hn
  .split
   .exact hn
   .exact hm
def yg(h1:a.1=b.1)(h2:a.2.1=b.2.1)(h3:a.2.2=b.2.2):a=b:=Prod.ext h1 (Prod.ext h2 h3)
theorem lag(x d e:Pt):au (aq d e) (aq d e)*x.1=au (aq x e) (aq d e)*d.1 - au (aq x d) (aq d e)*e.1+au x (aq d e)*(aq d e).1
 /\ au (aq d e) (aq d e)*x.2.1=au (aq x e) (aq d e)*d.2.1 - au (aq x d) (aq d e)*e.2.1+au x (aq d e)*(aq d e).2.1
 /\ au (aq d e) (aq d e)*x.2.2=au (aq x e) (aq d e)*d.2.2 - au (aq x d) (aq d e)*e.2.2+au x (aq d e)*(aq d e).2.2:=by
 simp only[au,aq];refine⟨?_,?_,?_⟩<;>grind
def Xm(o a b:Pt):wb a b=((wb o b).1 - (wb o a).1,(wb o b).2.1 - (wb o a).2.1,(wb o b).2.2 - (wb o a).2.2):=by refine yg ?_ ?_ ?_<;>simp only[wb]<;>omega
noncomputable def aG(b a:Pt):Pt:=(b.1 - a.1,b.2.1 - a.2.1,b.2.2 - a.2.2)
def tE(o a b:Pt):wb a b=aG (wb o b) (wb o a):=Xm o a b
theorem Km(hq:0<t.2)(h:gC d A B t):
 au A (aq d (aG B A))=0/\∃u v:Int,0<=u/\0<=v/\0<u+v/\t.1*au (aq d (aG B A)) (aq d (aG B A))=t.2*au (aq A (aG B A)) (aq d (aG B A))
  /\ (u+v)*au (aq A d) (aq d (aG B A))=v*au (aq d (aG B A)) (aq d (aG B A)):=by
 obtain⟨u,v,h1,h2,h3,c⟩:=h;have c1:=c.dot (aq d (aG B A));have c2:=c.dot (aq (aG B A) (aq d (aG B A)));have c3:=c.dot (aq d (aq d (aG B A)));have z1:au d (aq d (aG B A))=0:=by simp only[au,aq,aG];grind
 have z2:au B (aq d (aG B A))=au A (aq d (aG B A)):=by simp only[au,aq,aG];grind
 have y1:au d (aq (aG B A) (aq d (aG B A)))=au (aq d (aG B A)) (aq d (aG B A)):=by simp only[au,aq,aG];grind
 have y2:au A (aq (aG B A) (aq d (aG B A)))=au (aq A (aG B A)) (aq d (aG B A)):=by simp only[au,aq,aG];grind
 have y3:au B (aq (aG B A) (aq d (aG B A)))=au (aq A (aG B A)) (aq d (aG B A)):=by simp only[au,aq,aG];grind
 have x1:au d (aq d (aq d (aG B A)))=0:=by simp only[au,aq,aG];grind
 have x2:au A (aq d (aq d (aG B A)))=au (aq A d) (aq d (aG B A)):=by simp only[au,aq,aG];grind
 have x3:au B (aq d (aq d (aG B A)))=au (aq A d) (aq d (aG B A)) - au (aq d (aG B A)) (aq d (aG B A)):=by simp only[au,aq,aG];grind
 rw[z1,z2] at c1;rw[y1,y2,y3] at c2;rw[x1,x2,x3] at c3;generalize au (aq d (aG B A)) (aq d (aG B A))=N at *
 generalize au (aq A (aG B A)) (aq d (aG B A))=T at *
 generalize au (aq A d) (aq d (aG B A))=Sh at *
 generalize au A (aq d (aG B A))=Z at *
 refine⟨?_,u,v,h1,h2,h3,?_,?_⟩
 .have:0=t.2*((u+v)*Z):=by grind
  exact pX h3 (pX hq this).symm
 .refine Df h3 ?_;grind
 .have:0=t.2*((u+v)*Sh - v*N):=by grind
  have:=pX hq this;omega
theorem Qy(hz:au A (aq d (aG B A))=0)(h1:0<=au (aq A d) (aq d (aG B A)))(h2:au (aq A d) (aq d (aG B A))<=au (aq d (aG B A)) (aq d (aG B A)))(h3:0<au (aq d (aG B A)) (aq d (aG B A))):
 gC d A B (au (aq A (aG B A)) (aq d (aG B A)),au (aq d (aG B A)) (aq d (aG B A))):=by
 obtain⟨l1,l2,l3⟩:=lag A d (aG B A);rw[hz] at l1 l2 l3;generalize au (aq d (aG B A)) (aq d (aG B A))=N at *
 generalize au (aq A (aG B A)) (aq d (aG B A))=T at *
 generalize au (aq A d) (aq d (aG B A))=Sh at *
 refine⟨N - Sh,Sh,by omega,h1,by omega,?_,?_,?_⟩<;>simp only[aG] at * <;> grind
theorem Uv(hq:0<t.2)(hp:aq d (aG B A)=(0,0,0))(h:gC d A B t):aq A d=(0,0,0)/\∃u v:Int,0<=u/\0<=v/\0<u+v/\(u+v)*t.1*au d d=t.2*(u*au A d+v*au B d):=by
 obtain⟨u,v,h1,h2,h3,c⟩:=h;have p1:(aq d (aG B A)).1=0:=by rw[hp]
 have p2:(aq d (aG B A)).2.1=0:=by rw[hp]
 have p3:(aq d (aG B A)).2.2=0:=by rw[hp]
 have f:∀E:Pt,au (aq A d) E=0:=λE=>by
  have c1:=c.dot (aq d E);have z1:au d (aq d E)=0:=by simp only[au,aq];grind
  have z2:au A (aq d E)=au (aq A d) E:=by simp only[au,aq];grind
  have z3:au B (aq d E)=au (aq A d) E:=by simp only[au,aq,aG] at *;grind
  rw[z1,z2,z3] at c1;generalize au (aq A d) E=Z at *
  have:0=t.2*((u+v)*Z):=by grind
  exact pX h3 (pX hq this).symm
 refine⟨yg ?_ ?_ ?_,u,v,h1,h2,h3,?_⟩
 .have:=f (1,0,0);simp only[au] at this;show _=(0:Int);omega
 .have:=f (0,1,0);simp only[au] at this;show _=(0:Int);omega
 .have:=f (0,0,1);simp only[au] at this;show _=(0:Int);omega
 .have:=c.dot d;grind
theorem Ei{x:Pt}(h:aq x d=(0,0,0)):au d d*x.1=au x d*d.1/\au d d*x.2.1=au x d*d.2.1/\au d d*x.2.2=au x d*d.2.2:=by
 have p1:(aq x d).1=0:=by rw[h]
 have p2:(aq x d).2.1=0:=by rw[h]
 have p3:(aq x d).2.2=0:=by rw[h]
 simp only[aq,au] at *
 refine⟨?_,?_,?_⟩<;>grind
theorem QT(hp:aq d (aG B A)=(0,0,0))(h:aq A d=(0,0,0)):aq B d=(0,0,0):=by
 have p1:(aq d (aG B A)).1=0:=by rw[hp]
 have p2:(aq d (aG B A)).2.1=0:=by rw[hp]
 have p3:(aq d (aG B A)).2.2=0:=by rw[hp]
 have q1:(aq A d).1=0:=by rw[h]
 have q2:(aq A d).2.1=0:=by rw[h]
 have q3:(aq A d).2.2=0:=by rw[h]
 simp only[aq,aG] at *
 refine yg ?_ ?_ ?_<;>grind
theorem Ko(h0:d≠(0,0,0)):iI (mC o d a b) (gC d (wb o a) (wb o b)):=by
 have hD:=qg h0;unfold mC uT;rw[tE o a b];generalize wb o a=A;generalize wb o b=B;split
 .rename_i hp;split
  .rename_i hc;have la:=Ei hc;have lb:=Ei (QT hp hc);have key:∀t:Int×Int,0<t.2->gC d A B t->∃u v:Int,0<=u/\0<=v/\0<u+v/\(u+v)*t.1*au d d=t.2*(u*au A d+v*au B d):=λt hq h=>(Uv hq hp h).2;generalize au d d=N at *
   generalize au A d=x at *
   generalize au B d=y at *
   split
   .rename_i hm;intro t h1 h2 h;obtain⟨u,v,u0,v0,uv,e⟩:=key t h2 h;have hx:x<0/\y<0:=by unfold cZ at hm;split at hm<;>omega
    have e1:0<=(u+v)*t.1*N:=Int.mul_nonneg (Int.mul_nonneg (by omega) h1) (by omega);have e2:u*x+v*y<0:=by
     rcases Int.lt_or_eq_of_le u0 with q|q
     .have:=Int.mul_neg_of_pos_of_neg q hx.1;have:=Int.mul_nonpos_of_nonneg_of_nonpos v0 (show y<=0 by omega);omega
     .subst q;have:=Int.mul_neg_of_pos_of_neg (show 0<v by omega) hx.2;omega
    have:=Int.mul_neg_of_pos_of_neg h2 e2;omega
   .rename_i hm;have hm':0<=x\/0<=y:=by unfold cZ at hm;split at hm<;>omega
    have hmn:(cZ (dW x y) 0=x/\0<=x/\x<=y)\/(cZ (dW x y) 0=y/\0<=y/\y<=x)\/(cZ (dW x y) 0=0/\x<0/\0<=y)\/(cZ (dW x y) 0=0/\y<0/\0<=x):=by unfold cZ dW;split<;>split<;>omega
    have hge:0<=cZ (dW x y) 0:=by rcases hmn with h|h|h|h<;>omega
    refine⟨hge,hD,?_,λt h1 h2 h=>?_⟩
    .obtain⟨a1,a2,a3⟩:=la;obtain⟨b1,b2,b3⟩:=lb;rcases hmn with⟨e,_⟩|⟨e,_⟩|⟨e,_⟩|⟨e,_⟩<;>rw[e]
     .exact⟨1,0,by omega,by omega,by omega,by simp only;grind,by simp only;grind,by simp only;grind⟩
     .exact⟨0,1,by omega,by omega,by omega,by simp only;grind,by simp only;grind,by simp only;grind⟩
     .exact⟨y,-x,by omega,by omega,by omega,by simp only;grind,by simp only;grind,by simp only;grind⟩
     .exact⟨-y,x,by omega,by omega,by omega,by simp only;grind,by simp only;grind,by simp only;grind⟩
    .obtain⟨u,v,u0,v0,uv,e⟩:=key t h2 h;unfold leQ;simp only;have low:∀m:Int,m<=x->m<=y->m*t.2<=t.1*N:=λm m1 m2=>by
      refine Int.le_of_mul_le_mul_left (a:=u+v) ?_ uv;have g1:=Int.mul_le_mul_of_nonneg_left m1 u0;have g2:=Int.mul_le_mul_of_nonneg_left m2 v0;have g3:=Int.mul_le_mul_of_nonneg_left (show u*m+v*m<=u*x+v*y by omega) (show 0<=t.2 by omega);have e1:(u+v)*(m*t.2)=t.2*(u*m+v*m):=by grind
      have e2:(u+v)*(t.1*N)=(u+v)*t.1*N:=by grind
      omega
     rcases hmn with⟨e,_⟩|⟨e,_⟩|⟨e,_⟩|⟨e,_⟩<;>rw[e]
     .exact low _ (by omega) (by omega)
     .exact low _ (by omega) (by omega)
     .have:=Int.mul_nonneg h1 (show 0<=N by omega);omega
     .have:=Int.mul_nonneg h1 (show 0<=N by omega);omega
  .rename_i hc;exact λt h1 h2 h=>hc (Uv h2 hp h).1
 .rename_i hp;have hN:=qg hp;split
  .rename_i hz;split
   .rename_i hb;intro t h1 h2 h;obtain⟨_,u,v,u0,v0,uv,e1,e2⟩:=Km h2 h;generalize au (aq d (aG B A)) (aq d (aG B A))=N at *
    generalize au (aq A (aG B A)) (aq d (aG B A))=T at *
    generalize au (aq A d) (aq d (aG B A))=Sh at *
    rcases hb with q|q|q
    .have:=Int.mul_neg_of_pos_of_neg h2 q;have:=Int.mul_nonneg h1 (show 0<=N by omega);omega
    .have:=Int.mul_neg_of_pos_of_neg uv q;have:=Int.mul_nonneg v0 (show 0<=N by omega);omega
    .have g1:=Int.mul_lt_mul_of_pos_left q uv;have g2:=Int.mul_nonneg u0 (show 0<=N by omega);have g3:(u+v)*N=u*N+v*N:=by grind
     omega
   .rename_i hb;refine⟨Int.not_lt.mp λq=>hb (.inl q),hN,Qy hz (Int.not_lt.mp λq=>hb (.inr (.inl q))) (Int.not_lt.mp λq=>hb (.inr (.inr q))) hN,λt h1 h2 h=>?_⟩;obtain⟨_,u,v,u0,v0,uv,e1,e2⟩:=Km h2 h;unfold leQ;simp only;rw[Int.mul_comm,<-e1];omega
  .rename_i hz;exact λt h1 h2 h=>hz (Km h2 h).1
theorem zh2(h0:d≠(0,0,0)):iI (nF o d a b c) (λt=>gC d (wb o a) (wb o b) t\/gC d (wb o b) (wb o c) t\/gC d (wb o c) (wb o a) t):=by
 have n0:iI none (λ_=>False):=λ_ _ _ h=>h;have h1:=(Ko (o:=o) (a:=a) (b:=b) h0).red (Eg _ _ _);have h2:=(Ko (o:=o) (a:=b) (b:=c) h0).red (Eg _ _ _);have h3:=(Ko (o:=o) (a:=c) (b:=a) h0).red (Eg _ _ _);unfold nF;refine(((n0.pick h1).pick h2).pick h3).congr λt _ _=>?_;constructor
 .rintro(((h|h)|h)|h)
  .exact h.elim
  .exact .inl h
  .exact .inr (.inl h)
  .exact .inr (.inr h)
 .rintro(h|h|h)
  .exact .inl (.inl (.inr h))
  .exact .inl (.inr h)
  .exact .inr h
def Tt(o d a b c:Pt):uX (nF o d a b c):=Jw (Jw (Jw (λ_ h=>by cases h) (EY _)) (EY _)) (EY _)
def Jj(h:gC d A B t\/gC d B C t\/gC d C A t):iG d A B C t:=by
 rcases h with h|h|h
 .exact Qo h
 .exact Qp h
 .exact Qq h
def Mid(A B C:Pt):Prop:=∃i j:Int,0<=i/\0<=j/\0<i+j/\(i+j)*C.1=i*A.1+j*B.1/\(i+j)*C.2.1=i*A.2.1+j*B.2.1/\(i+j)*C.2.2=i*A.2.2+j*B.2.2
theorem HB(m:Mid A B C)(h:iG d A B C t):gC d A B t:=by
 obtain⟨i,j,i0,j0,ij,m1,m2,m3⟩:=m;obtain⟨u,v,w,u0,v0,w0,uvw,c1,c2,c3⟩:=h;have g1:=Int.mul_nonneg (show 0<=i+j by omega) u0;have g2:=Int.mul_nonneg (show 0<=i+j by omega) v0;have g3:=Int.mul_nonneg i0 w0;have g4:=Int.mul_nonneg j0 w0;have g5:=Int.mul_pos ij uvw;have f:∀x a b c:Int,(i+j)*c=i*a+j*b->(u+v+w)*t.1*x=t.2*(u*a+v*b+w*c)->((i+j)*u+i*w+((i+j)*v+j*w))*t.1*x=t.2*(((i+j)*u+i*w)*a+((i+j)*v+j*w)*b+0*a):=λx a b c e1 e2=>by
  have e3:((i+j)*u+i*w+((i+j)*v+j*w))*t.1*x=(i+j)*((u+v+w)*t.1*x):=by grind
  rw[e3,e2];have e4:(i+j)*(t.2*(u*a+v*b+w*c))=t.2*((i+j)*u*a+(i+j)*v*b+w*((i+j)*c)):=by grind
  rw[e4,e1];grind
 refine⟨(i+j)*u+i*w,(i+j)*v+j*w,by omega,by omega,?_,f _ _ _ _ m1 c1,f _ _ _ _ m2 c2,f _ _ _ _ m3 c3⟩;have:(i+j)*u+i*w+((i+j)*v+j*w)=(i+j)*(u+v+w):=by grind
 omega
theorem Iz(x y z:Int)(hne:¬(x=y/\y=z))(e1:(y - x)*C.1+(z - y)*A.1+(x - z)*B.1=0)(e2:(y - x)*C.2.1+(z - y)*A.2.1+(x - z)*B.2.1=0)(e3:(y - x)*C.2.2+(z - y)*A.2.2+(x - z)*B.2.2=0):Mid A B C\/Mid B C A\/Mid C A B:=by
 by_cases h1:x<=z/\z<=y
 .exact .inl ⟨y - z,z - x,by omega,by omega,by omega,by grind,by grind,by grind⟩
 .by_cases h2:y<=z/\z<=x
  .exact .inl ⟨z - y,x - z,by omega,by omega,by omega,by grind,by grind,by grind⟩
  .by_cases h3:y<=x/\x<=z
   .exact .inr (.inl ⟨z - x,x - y,by omega,by omega,by omega,by grind,by grind,by grind⟩)
   .by_cases h4:z<=x/\x<=y
    .exact .inr (.inl ⟨x - z,y - x,by omega,by omega,by omega,by grind,by grind,by grind⟩)
    .by_cases h5:z<=y/\y<=x
     .exact .inr (.inr ⟨x - y,y - z,by omega,by omega,by omega,by grind,by grind,by grind⟩)
     .exact .inr (.inr ⟨y - x,z - y,by omega,by omega,by omega,by grind,by grind,by grind⟩)
theorem zmI(h:aq (aG B A) (aG C A)=(0,0,0)):Mid A B C\/Mid B C A\/Mid C A B:=by
 have p1:(aq (aG B A) (aG C A)).1=0:=by rw[h]
 have p2:(aq (aG B A) (aG C A)).2.1=0:=by rw[h]
 have p3:(aq (aG B A) (aG C A)).2.2=0:=by rw[h]
 simp only[aq,aG] at p1 p2 p3;by_cases h1:A.1=B.1/\B.1=C.1
 .by_cases h2:A.2.1=B.2.1/\B.2.1=C.2.1
  .by_cases h3:A.2.2=B.2.2/\B.2.2=C.2.2
   .exact .inl ⟨1,0,by omega,by omega,by omega,by omega,by omega,by omega⟩
   .exact Iz A.2.2 B.2.2 C.2.2 h3 (by grind) (by grind) (by grind)
  .exact Iz A.2.1 B.2.1 C.2.1 h2 (by grind) (by grind) (by grind)
 .exact Iz A.1 B.1 C.1 h1 (by grind) (by grind) (by grind)
theorem Il(h:iG d A B C t):iG d B C A t:=by obtain⟨u,v,w,h1,h2,h3,h4,c1,c2,c3⟩:=h;refine⟨v,w,u,h2,h3,h1,by omega,?_,?_,?_⟩<;>grind
theorem Ug(hf:aq (aG B A) (aG C A)=(0,0,0))(h:iG d A B C t):gC d A B t\/gC d B C t\/gC d C A t:=by
 rcases zmI hf with m|m|m
 .exact .inl (HB m h)
 .exact .inr (.inl (HB m (Il h)))
 .exact .inr (.inr (HB m (Il (Il h))))
noncomputable def aff(f:Int×Int)(t:Int×Int):Int:=f.1*t.2+f.2*t.1
theorem Uu{f r s:Int×Int}(hr:0<r.2)(hs:0<s.2)(ht:0<t.2)(h1:leQ r s)(h2:leQ s t)(f1:0<=aff f r)(f2:0<=aff f t):0<=aff f s:=by
 unfold leQ aff at *
 by_cases hb:0<=f.2
 .have g1:=Int.mul_nonneg f1 (show 0<=s.2 by omega);have g2:=Int.mul_le_mul_of_nonneg_left h1 hb;have e:(f.1*r.2+f.2*r.1)*s.2=r.2*(f.1*s.2)+f.2*(r.1*s.2):=by grind
  have e2:r.2*(f.1*s.2+f.2*s.1)=r.2*(f.1*s.2)+f.2*(s.1*r.2):=by grind
  refine Int.le_of_mul_le_mul_left (a:=r.2) ?_ hr;omega
 .have g1:=Int.mul_nonneg f2 (show 0<=s.2 by omega);have g2:=Int.mul_le_mul_of_nonpos_left (show f.2<=0 by omega) h2;have e:(f.1*t.2+f.2*t.1)*s.2=t.2*(f.1*s.2)+f.2*(t.1*s.2):=by grind
  have e2:t.2*(f.1*s.2+f.2*s.1)=t.2*(f.1*s.2)+f.2*(s.1*t.2):=by grind
  refine Int.le_of_mul_le_mul_left (a:=t.2) ?_ ht;omega
theorem Uz{t:Int×Int}(ht0:0<=t.1)(ht:0<t.2):∀L:List (Int×Int),(∀f∈L,0<=aff f t)->(∃f∈L,f.1<0)->∃r:Int×Int,0<=r.1/\0<r.2/\leQ r t/\(∀f∈L,0<=aff f r)/\∃f∈L,f.1<0/\aff f r=0
 |[],_,h=>by obtain⟨_,h,_⟩:=h;cases h
 |f::L,ha,hn=>by
  have hf:=ha f (fG ..);have hL:∀g∈L,0<=aff g t:=λg hg=>ha g (cQ _ hg);by_cases hneg:∃g∈L,g.1<0
  .obtain⟨r,r0,r1,r2,r3,g,g1,g2,g3⟩:=Uz ht0 ht L hL hneg;by_cases hr:0<=aff f r
   .exact⟨r,r0,r1,r2,λx hx=>by rcases List.mem_cons.mp hx with e|e;exact e ▸ hr;exact r3 x e,g,cQ _ g1,g2,g3⟩
   .have hb:0<f.2:=by
     refine Int.not_le.mp λq=>hr ?_;unfold aff leQ at *
     have g1:=Int.mul_nonneg hf (show 0<=r.2 by omega);have g2:=Int.mul_le_mul_of_nonpos_left q r2;refine Int.le_of_mul_le_mul_left (a:=t.2) ?_ ht;have e:(f.1*t.2+f.2*t.1)*r.2=t.2*(f.1*r.2)+f.2*(t.1*r.2):=by grind
     have e2:t.2*(f.1*r.2+f.2*r.1)=t.2*(f.1*r.2)+f.2*(r.1*t.2):=by grind
     omega
    have hfr:f.1*r.2<0:=by unfold aff at hr;have:=Int.mul_nonneg (show 0<=f.2 by omega) r0;omega
    have Gn:f.1<0:=by refine Int.not_le.mp λq=>?_;have:=Int.mul_nonneg q (show 0<=r.2 by omega);omega
    have l1:leQ r (-f.1,f.2):=by
     unfold leQ aff at *
     simp only;have e1:r.1*f.2=f.2*r.1:=by grind
     have e2 : -f.1*r.2 = -(f.1*r.2):=by grind
     omega
    have l2:leQ (-f.1,f.2) t:=by
     unfold leQ aff at *
     simp only;have e1:t.1*f.2=f.2*t.1:=by grind
     have e2 : -f.1*t.2 = -(f.1*t.2):=by grind
     omega
    have z:aff f (-f.1,f.2)=0:=by unfold aff;simp only;grind
    refine⟨(-f.1,f.2),by simp only;omega,hb,l2,λx hx=>?_,f,fG ..,Gn,z⟩;rcases List.mem_cons.mp hx with e|e
    .rw[e,z];omega
    .exact Uu r1 hb ht l1 l2 (r3 x e) (hL x e)
  .have Gn:f.1<0:=by
    obtain⟨g,g1,g2⟩:=hn;rcases List.mem_cons.mp g1 with e|e
    .exact e ▸ g2
    .exact absurd ⟨g,e,g2⟩ hneg
   have hft:f.1*t.2<0:=Int.mul_neg_of_neg_of_pos Gn ht;have hb:0<f.2:=by refine Int.not_le.mp λq=>?_;have:=Int.mul_nonpos_of_nonpos_of_nonneg q ht0;unfold aff at hf;omega
   have l2:leQ (-f.1,f.2) t:=by
    unfold leQ aff at *
    simp only;have e1:t.1*f.2=f.2*t.1:=by grind
    have e2 : -f.1*t.2 = -(f.1*t.2):=by grind
    omega
   have l1:leQ (0,1) (-f.1,f.2):=by unfold leQ;simp only;omega
   have z:aff f (-f.1,f.2)=0:=by unfold aff;simp only;grind
   refine⟨(-f.1,f.2),by simp only;omega,hb,l2,λx hx=>?_,f,fG ..,Gn,z⟩;rcases List.mem_cons.mp hx with e|e
   .rw[e,z];omega
   .refine Uu (r:=(0,1)) (by decide) hb ht l1 l2 ?_ (hL x e);have:¬x.1<0:=λq=>hneg ⟨x,e,q⟩;unfold aff;simp only;omega
theorem iI.widen{m:Tq}(h:iI m X)(sub:∀t,X t->Y t)(dom:∀t:Int×Int,0<=t.1->0<t.2->Y t->∃r:Int×Int,0<=r.1/\0<r.2/\X r/\leQ r t):iI m Y:=by
 cases m with
 |none =>
  intro t h1 h2 hy;obtain⟨r,r1,r2,r3,_⟩:=dom t h1 h2 hy;exact h r r1 r2 r3
 |some s =>
  obtain⟨a1,a2,a3,a4⟩:=h;refine⟨a1,a2,sub _ a3,λt h1 h2 hy=>?_⟩;obtain⟨r,r1,r2,r3,r4⟩:=dom t h1 h2 hy;exact Ef a2 r2 h2 (a4 r r1 r2 r3) r4
def qT(d A B C:Pt):au d (aq A B)+au d (aq B C)+au d (aq C A)=au d (aq (aG B A) (aG C A)):=by simp only[au,aq,aG];grind
theorem Fg(n A B C:Pt):au n (aq B C)*A.1+au n (aq C A)*B.1+au n (aq A B)*C.1=au A (aq (aG B A) (aG C A))*n.1
 /\ au n (aq B C)*A.2.1+au n (aq C A)*B.2.1+au n (aq A B)*C.2.1=au A (aq (aG B A) (aG C A))*n.2.1
 /\ au n (aq B C)*A.2.2+au n (aq C A)*B.2.2+au n (aq A B)*C.2.2=au A (aq (aG B A) (aG C A))*n.2.2:=by
 simp only[au,aq,aG];refine⟨?_,?_,?_⟩<;>grind
theorem Ka(hq:0<t.2)(h:iG d A B C t):∃u v w:Int,0<=u/\0<=v/\0<=w/\0<u+v+w
 /\ t.1*au d (aq (aG B A) (aG C A))=t.2*au A (aq (aG B A) (aG C A))
 /\ (u+v+w)*au d (aq B C)=u*au d (aq (aG B A) (aG C A))
 /\ (u+v+w)*au d (aq C A)=v*au d (aq (aG B A) (aG C A))
 /\ (u+v+w)*au d (aq A B)=w*au d (aq (aG B A) (aG C A)):=by
 obtain⟨u,v,w,u0,v0,w0,hs,c⟩:=h;refine⟨u,v,w,u0,v0,w0,hs,?_⟩;have c0:=c.dot (aq (aG B A) (aG C A));have b0:au B (aq (aG B A) (aG C A))=au A (aq (aG B A) (aG C A)):=by simp only[au,aq,aG];grind
 have d0:au C (aq (aG B A) (aG C A))=au A (aq (aG B A) (aG C A)):=by simp only[au,aq,aG];grind
 rw[b0,d0] at c0;have cA:=c.dot (aq A d);have cB:=c.dot (aq B d);have cC:=c.dot (aq C d);have z:∀X:Pt,au d (aq X d)=0:=λX=>by simp only[au,aq];grind
 have y:∀X:Pt,au X (aq X d)=0:=λX=>by simp only[au,aq];grind
 have x:∀X Y:Pt,au X (aq Y d)=au d (aq X Y):=λX Y=>by simp only[au,aq];grind
 have s:∀X Y:Pt,au d (aq X Y) = - au d (aq Y X):=λX Y=>by simp only[au,aq];grind
 rw[z,y,x B A,x C A,s B A] at cA;rw[z,y,x A B,x C B,s C B] at cB;rw[z,y,x A C,x B C,s A C] at cC;have e:=qT d A B C;generalize au d (aq (aG B A) (aG C A))=V at *
 generalize au A (aq (aG B A) (aG C A))=U at *
 generalize au d (aq A B)=s1 at *
 generalize au d (aq B C)=s2 at *
 generalize au d (aq C A)=s3 at *
 have kA:w*s3 - v*s1=0:=pX hq (by grind);have kB:u*s1 - w*s2=0:=pX hq (by grind);have kC:v*s2 - u*s3=0:=pX hq (by grind);refine⟨?_,?_,?_,?_⟩
 .refine Df hs ?_;grind
 .subst e;grind
 .subst e;grind
 .subst e;grind
theorem QG(h1:0<=au d (aq A B))(h2:0<=au d (aq B C))(h3:0<=au d (aq C A))(hV:0<au d (aq (aG B A) (aG C A))):iG d A B C (au A (aq (aG B A) (aG C A)),au d (aq (aG B A) (aG C A))):=by
 obtain⟨m1,m2,m3⟩:=Fg d A B C;have e:=qT d A B C;generalize au d (aq (aG B A) (aG C A))=V at *
 generalize au A (aq (aG B A) (aG C A))=U at *
 generalize au d (aq A B)=s1 at *
 generalize au d (aq B C)=s2 at *
 generalize au d (aq C A)=s3 at *
 refine⟨s2,s3,s1,h2,h3,h1,by omega,?_,?_,?_⟩<;>simp only<;>grind
theorem RD(h1:au d (aq A B)<=0)(h2:au d (aq B C)<=0)(h3:au d (aq C A)<=0)(hV:au d (aq (aG B A) (aG C A))<0):iG d A B C (-au A (aq (aG B A) (aG C A)),-au d (aq (aG B A) (aG C A))):=by
 obtain⟨m1,m2,m3⟩:=Fg d A B C;have e:=qT d A B C;generalize au d (aq (aG B A) (aG C A))=V at *
 generalize au A (aq (aG B A) (aG C A))=U at *
 generalize au d (aq A B)=s1 at *
 generalize au d (aq B C)=s2 at *
 generalize au d (aq C A)=s3 at *
 refine⟨-s2,-s3,-s1,by omega,by omega,by omega,by omega,?_,?_,?_⟩<;>simp only<;>grind
section
variable {d A B C:Pt}
noncomputable abbrev bO(A B C:Pt):Pt:=aq (aG B A) (aG C A)
noncomputable def f1(d A B C:Pt):Int×Int:=(au (bO A B C) (aq A B),au (bO A B C) (aq (aG B A) d))
noncomputable def f2(d A B C:Pt):Int×Int:=(au (bO A B C) (aq B C),au (bO A B C) (aq (aG C B) d))
noncomputable def f3(d A B C:Pt):Int×Int:=(au (bO A B C) (aq C A),au (bO A B C) (aq (aG A C) d))
theorem XR(d A B C:Pt):(f1 d A B C).1+(f2 d A B C).1+(f3 d A B C).1=au (bO A B C) (bO A B C)/\(f1 d A B C).2+(f2 d A B C).2+(f3 d A B C).2=0:=by refine⟨qT (bO A B C) A B C,?_⟩;simp only[f1,f2,f3];generalize bO A B C=n;simp only[au,aq,aG];grind
theorem Kh{n X Y Z:Pt}{N p:Int}(c:je ((u+v+w)*p) d q u v w X Y Z)(hN:au n (aq X Y)+au n (aq Y Z)+au n (aq Z X)=N):
 (u+v+w)*(au n (aq Y Z)*q+au n (aq (aG Z Y) d)*p)=q*u*N:=by
 have c0:=c.dot (aq (aG Z Y) n);have b0:au d (aq (aG Z Y) n) = - au n (aq (aG Z Y) d):=by simp only[au,aq,aG];grind
 have b1:au X (aq (aG Z Y) n) = - au n (aq Z X) - au n (aq X Y):=by simp only[au,aq,aG];grind
 have b2:au Y (aq (aG Z Y) n)=au n (aq Y Z):=by simp only[au,aq,aG];grind
 have b3:au Z (aq (aG Z Y) n)=au n (aq Y Z):=by simp only[au,aq,aG];grind
 rw[b0,b1,b2,b3] at c0;generalize au n (aq X Y)=s1 at *
 generalize au n (aq Y Z)=s2 at *
 generalize au n (aq Z X)=s3 at *
 generalize au n (aq (aG Z Y) d)=s4 at *
 subst hN;grind
def Sq{k:Int}(c:je k d q u v w A B C):je k d q v w u B C A:=by obtain⟨c1,c2,c3⟩:=c;refine⟨?_,?_,?_⟩<;>grind
def tM{s:Int}(hs:0<s)(h:s*x=y)(hy:0<=y):0<=x:=by refine Int.le_of_mul_le_mul_left (a:=s) ?_ hs;omega
theorem zmb(hN:0<au (bO A B C) (bO A B C))(hq:0<t.2)(h:iG d A B C t):0<=aff (f1 d A B C) t/\0<=aff (f2 d A B C) t/\0<=aff (f3 d A B C) t:=by obtain⟨u,v,w,u0,v0,w0,hs,c⟩:=h;have e:au (bO A B C) (aq A B)+au (bO A B C) (aq B C)+au (bO A B C) (aq C A)=au (bO A B C) (bO A B C):=qT (bO A B C) A B C;have c':=Sq c;have c'':=Sq c';rw[show u+v+w=v+w+u by omega] at c';rw[show u+v+w=w+u+v by omega] at c'';have p2:=Kh c e;have p3:=Kh c' (N:=au (bO A B C) (bO A B C)) (n:=bO A B C) (by omega);have p1:=Kh c'' (N:=au (bO A B C) (bO A B C)) (n:=bO A B C) (by omega);have g:∀x:Int,0<=x->0<=t.2*x*au (bO A B C) (bO A B C):=λx hx=>Int.mul_nonneg (Int.mul_nonneg (by omega) hx) (by omega);exact⟨tM (by omega) p1 (g w w0),tM (by omega) p2 (g u u0),tM (by omega) p3 (g v v0)⟩
theorem RV(hN:0<au (bO A B C) (bO A B C))(hV:au d (bO A B C)=0)(hU:au A (bO A B C)=0)(hq:0<t.2):
 je ((aff (f2 d A B C) t+aff (f3 d A B C) t+aff (f1 d A B C) t)*t.1) d t.2 (aff (f2 d A B C) t) (aff (f3 d A B C) t) (aff (f1 d A B C) t) A B C/\0<aff (f2 d A B C) t+aff (f3 d A B C) t+aff (f1 d A B C) t:=by
 obtain⟨m1,m2,m3⟩:=Fg (bO A B C) A B C;obtain⟨l1,l2,l3⟩:=lag d (aG B A) (aG C A);obtain⟨s1,s2⟩:=XR d A B C;have sum:aff (f2 d A B C) t+aff (f3 d A B C) t+aff (f1 d A B C) t=au (bO A B C) (bO A B C)*t.2:=by
  unfold aff;rw[<-s1];have:((f1 d A B C).2+(f2 d A B C).2+(f3 d A B C).2)*t.1=0:=by rw[s2];grind
  grind
 rw[hU] at m1 m2 m3;rw[hV] at l1 l2 l3;have k1:au (aq d (aG C A)) (bO A B C)=(f3 d A B C).2:=by simp only[f3];generalize bO A B C=n;simp only[au,aq,aG];grind
 have k2 : - au (aq d (aG B A)) (bO A B C)=(f1 d A B C).2:=by simp only[f1];generalize bO A B C=n;simp only[au,aq,aG];grind
 rw[k1] at l1 l2 l3;have k2':au (aq d (aG B A)) (bO A B C) = -(f1 d A B C).2:=by omega
 rw[k2'] at l1 l2 l3;refine⟨?_,by rw[sum];exact Int.mul_pos hN hq⟩;rw[sum];have j1:au (bO A B C) (aq B C)=(f2 d A B C).1:=rfl;have j2:au (bO A B C) (aq C A)=(f3 d A B C).1:=rfl;have j3:au (bO A B C) (aq A B)=(f1 d A B C).1:=rfl;rw[j1,j2,j3] at m1 m2 m3;unfold aff;generalize au (bO A B C) (bO A B C)=N at *
 generalize f1 d A B C=g1 at *
 generalize f2 d A B C=g2 at *
 generalize f3 d A B C=g3 at *
 obtain⟨x1,y1⟩:=g1;obtain⟨x2,y2⟩:=g2;obtain⟨x3,y3⟩:=g3;simp only[aG] at *
 have hy:y2 = - y1 - y3:=by omega
 subst hy;have gen:∀D a b c n1 n2:Int,x2*a+x3*b+x1*c=0*n1->N*D=y3*(b - a) - -y1*(c - a)+0*n2->N*t.2*t.1*D=t.2*((x2*t.2+(-y1 - y3)*t.1)*a+(x3*t.2+y3*t.1)*b+(x1*t.2+y1*t.1)*c):=λD a b c n1 n2 e1 e2=>by
  have e3:N*t.2*t.1*D=t.2*t.1*(N*D):=by grind
  rw[e3,e2];have e4:t.2*((x2*t.2+(-y1 - y3)*t.1)*a+(x3*t.2+y3*t.1)*b+(x1*t.2+y1*t.1)*c)=t.2*(t.2*(x2*a+x3*b+x1*c)+t.1*((-y1 - y3)*a+y3*b+y1*c)):=by grind
  rw[e4,e1];grind
 exact⟨gen _ _ _ _ _ _ m1 l1,gen _ _ _ _ _ _ m2 l2,gen _ _ _ _ _ _ m3 l3⟩
end
theorem zjf(hN:0<au (bO A B C) (bO A B C))(hV:au d (bO A B C)=0)(hU:au A (bO A B C)=0)(hout:au (bO A B C) (aq A B)<0\/au (bO A B C) (aq B C)<0\/au (bO A B C) (aq C A)<0)(hp:0<=t.1)(hq:0<t.2)(h:iG d A B C t):
 ∃r:Int×Int,0<=r.1/\0<r.2/\(gC d A B r\/gC d B C r\/gC d C A r)/\leQ r t:=by
 obtain⟨a1,a2,a3⟩:=zmb hN hq h;obtain⟨r,r0,r1,r2,r3,f,hf,_,hz⟩:=Uz hp hq [f1 d A B C,f2 d A B C,f3 d A B C] (by
  intro f hf;simp only[List.mem_cons,nY,or_false] at hf;rcases hf with e|e|e<;>subst e<;>assumption) (by
  rcases hout with q|q|q
  .exact⟨f1 d A B C,by simp,q⟩
  .exact⟨f2 d A B C,by simp,q⟩
  .exact⟨f3 d A B C,by simp,q⟩)
 refine⟨r,r0,r1,?_,r2⟩;have n1:=r3 (f1 d A B C) (by simp);have n2:=r3 (f2 d A B C) (by simp);have n3:=r3 (f3 d A B C) (by simp);obtain⟨⟨c1,c2,c3⟩,hs⟩:=RV (t:=r) hN hV hU r1;simp only[List.mem_cons,nY,or_false] at hf;rcases hf with e|e|e<;>subst e
 .left;rw[hz] at c1 c2 c3 hs;generalize aff (f2 d A B C) r=x2 at *
  generalize aff (f3 d A B C) r=x3 at *
  refine⟨x2,x3,n2,n3,by omega,?_,?_,?_⟩<;>grind
 .right;left;rw[hz] at c1 c2 c3 hs;generalize aff (f1 d A B C) r=x1 at *
  generalize aff (f3 d A B C) r=x3 at *
  refine⟨x3,x1,n3,n1,by omega,?_,?_,?_⟩<;>grind
 .right;right;rw[hz] at c1 c2 c3 hs;generalize aff (f1 d A B C) r=x1 at *
  generalize aff (f2 d A B C) r=x2 at *
  refine⟨x1,x2,n1,n2,by omega,?_,?_,?_⟩<;>grind
theorem Et(o w a b c:Pt):bT o w a b c=true↔(0<=cI o w a b/\0<=cI o w b c/\0<=cI o w c a)\/(cI o w a b<=0/\cI o w b c<=0/\cI o w c a<=0):=by unfold bT;simp only[nZ,dj,lX,and_assoc]
theorem zjO(h0:d≠(0,0,0)):iI (mG o d a b c) (iG d (wb o a) (wb o b) (wb o c)):=by
 have ef:=zh2 (o:=o) (a:=a) (b:=b) (c:=c) h0;have gd:=Et o d a b c;have gn:=Et o (bO (wb o a) (wb o b) (wb o c)) a b c;unfold mG uZ;unfold cI at gd gn;rw[tE o a b,tE o a c];generalize wb o a=A at *
 generalize wb o b=B at *
 generalize wb o c=C at *
 split
 .rename_i hf;exact ef.congr λt h1 h2=>⟨Jj,Ug hf⟩
 .rename_i hf;have hN:0<au (bO A B C) (bO A B C):=qg hf;split
  .rename_i hV;split
   .rename_i hU;have sn:au (bO A B C) (aq A B)+au (bO A B C) (aq B C)+au (bO A B C) (aq C A)=au (bO A B C) (bO A B C):=qT (bO A B C) A B C;split
    .rename_i hg;refine⟨Int.le_refl _,by decide,?_,λt h1 h2 _=>by unfold leQ;simp only;omega⟩;obtain⟨c,hs⟩:=RV (d:=d) (t:=(0,1)) hN hV hU (by decide);have e1:aff (f1 d A B C) (0,1)=au (bO A B C) (aq A B):=by unfold aff f1;simp only;omega
     have e2:aff (f2 d A B C) (0,1)=au (bO A B C) (aq B C):=by unfold aff f2;simp only;omega
     have e3:aff (f3 d A B C) (0,1)=au (bO A B C) (aq C A):=by unfold aff f3;simp only;omega
     rcases gn.mp hg with g|g
     .exact⟨_,_,_,by omega,by omega,by omega,hs,c⟩
     .omega
    .rename_i hg;refine ef.widen (λt=>Jj) λt h1 h2 h=>zjf hN hV hU ?_ h1 h2 h;refine Classical.byContradiction λq=>hg (gn.mpr (.inl ?_));omega
   .rename_i hU;intro t h1 h2 h;obtain⟨_,_,_,_,_,_,_,e,_⟩:=Ka h2 h;rw[hV] at e;exact hU (pX h2 (by omega))
  .rename_i hV;have sn:=qT d A B C;split
   .rename_i Ci;have key:∀t:Int×Int,0<=t.1->0<t.2->iG d A B C t->t.1*au d (aq (aG B A) (aG C A))=t.2*au A (aq (aG B A) (aG C A))/\bT o d a b c=true:=λt h1 h2 h=>by
     obtain⟨u,v,w,u0,v0,w0,hs,e,e2,e3,e1⟩:=Ka h2 h;refine⟨e,gd.mpr (.inr ⟨?_,?_,?_⟩)⟩
     .have:=Int.mul_nonpos_of_nonneg_of_nonpos w0 (show au d (aq (aG B A) (aG C A))<=0 by omega);exact Int.le_of_mul_le_mul_left (a:=u+v+w) (by omega) hs
     .have:=Int.mul_nonpos_of_nonneg_of_nonpos u0 (show au d (aq (aG B A) (aG C A))<=0 by omega);exact Int.le_of_mul_le_mul_left (a:=u+v+w) (by omega) hs
     .have:=Int.mul_nonpos_of_nonneg_of_nonpos v0 (show au d (aq (aG B A) (aG C A))<=0 by omega);exact Int.le_of_mul_le_mul_left (a:=u+v+w) (by omega) hs
    split
    .rename_i hb;intro t h1 h2 h;obtain⟨e,g⟩:=key t h1 h2 h;rcases hb with q|q
     .have g1:=Int.mul_nonpos_of_nonneg_of_nonpos h1 (show au d (aq (aG B A) (aG C A))<=0 by omega);have g2:=Int.mul_pos h2 (show 0<au A (aq (aG B A) (aG C A)) by omega);omega
     .rw[q] at g;cases g
    .rename_i hb;have hg:bT o d a b c=true:=by
      rcases Bool.eq_false_or_eq_true (bT o d a b c) with q|q
      .exact q
      .exact absurd (.inr q) hb
     refine iI.red (m:=some (_,_)) (zG _ _ _ _) ⟨Int.not_lt.mp λq=>hb (.inl q),by simp only;omega,?_,λt h1 h2 h=>?_⟩
     .rcases gd.mp hg with g|g
      .omega
      .exact RD g.1 g.2.1 g.2.2 Ci
     .obtain⟨e,_⟩:=key t h1 h2 h;unfold leQ;simp only;rw[Int.mul_neg,Int.neg_mul];have:=Int.mul_comm t.2 (au A (aq (aG B A) (aG C A)));omega
   .rename_i Ci;have Cg:0<au d (aq (aG B A) (aG C A)):=by omega
    have key:∀t:Int×Int,0<=t.1->0<t.2->iG d A B C t->t.1*au d (aq (aG B A) (aG C A))=t.2*au A (aq (aG B A) (aG C A))/\bT o d a b c=true:=λt h1 h2 h=>by
     obtain⟨u,v,w,u0,v0,w0,hs,e,e2,e3,e1⟩:=Ka h2 h;refine⟨e,gd.mpr (.inl ⟨?_,?_,?_⟩)⟩
     .exact tM hs e1 (Int.mul_nonneg w0 (show 0<=au d (aq (aG B A) (aG C A)) by omega))
     .exact tM hs e2 (Int.mul_nonneg u0 (show 0<=au d (aq (aG B A) (aG C A)) by omega))
     .exact tM hs e3 (Int.mul_nonneg v0 (show 0<=au d (aq (aG B A) (aG C A)) by omega))
    split
    .rename_i hb;intro t h1 h2 h;obtain⟨e,g⟩:=key t h1 h2 h;rcases hb with q|q
     .have g1:=Int.mul_nonneg h1 (show 0<=au d (aq (aG B A) (aG C A)) by omega);have g2:=Int.mul_neg_of_pos_of_neg h2 q;omega
     .rw[q] at g;cases g
    .rename_i hb;have hg:bT o d a b c=true:=by
      rcases Bool.eq_false_or_eq_true (bT o d a b c) with q|q
      .exact q
      .exact absurd (.inr q) hb
     refine iI.red (m:=some (_,_)) (zG _ _ _ _) ⟨Int.not_lt.mp λq=>hb (.inl q),Cg,?_,λt h1 h2 h=>?_⟩
     .rcases gd.mp hg with g|g
      .exact QG g.1 g.2.1 g.2.2 Cg
      .omega
     .obtain⟨e,_⟩:=key t h1 h2 h;show au A (aq (aG B A) (aG C A))*t.2<=t.1*au d (aq (aG B A) (aG C A));have:=Int.mul_comm t.2 (au A (aq (aG B A) (aG C A)));omega
theorem znz(o d a b c:Pt):uX (mG o d a b c):=by
 unfold mG uZ;intro r hr;split at hr
 .exact Tt _ _ _ _ _ r hr
 .split at hr
  .split at hr
   .split at hr
    .cases hr;decide
    .exact Tt _ _ _ _ _ r hr
   .cases hr
  .split at hr
   .split at hr
    .cases hr
    .cases hr;exact Kl _ _
   .split at hr
    .cases hr
    .cases hr;exact Kl _ _
theorem Iv{s p dx h a b c:Int}(u0:0<=u)(v0:0<=v)(w0:0<=w)(hs:0<u+v+w)(hq:0<q)(e:(u+v+w)*p*dx=q*(u*(a - x)+v*(b - x)+w*(c - x)))(ha:l<=a/\a<=h)(hb:l<=b/\b<=h)(hc:l<=c/\c<=h):l*q<=x*q+dx*p/\x*q+dx*p<=h*q:=by
 have e1:(u+v+w)*(x*q+dx*p)=q*(u*a+v*b+w*c):=by grind
 have g1:=Int.mul_le_mul_of_nonneg_left ha.1 u0;have g2:=Int.mul_le_mul_of_nonneg_left hb.1 v0;have g3:=Int.mul_le_mul_of_nonneg_left hc.1 w0;have g4:=Int.mul_le_mul_of_nonneg_left ha.2 u0;have g5:=Int.mul_le_mul_of_nonneg_left hb.2 v0;have g6:=Int.mul_le_mul_of_nonneg_left hc.2 w0;have g7:=Int.mul_le_mul_of_nonneg_left (show u*l+v*l+w*l<=u*a+v*b+w*c by omega) (show 0<=q by omega);have g8:=Int.mul_le_mul_of_nonneg_left (show u*a+v*b+w*c<=u*h+v*h+w*h by omega) (show 0<=q by omega);constructor
 .refine Int.le_of_mul_le_mul_left (a:=u+v+w) ?_ hs;have:(u+v+w)*(l*q)=q*(u*l+v*l+w*l):=by grind
  omega
 .refine Int.le_of_mul_le_mul_left (a:=u+v+w) ?_ hs;have:(u+v+w)*(h*q)=q*(u*h+v*h+w*h):=by grind
  omega
end MX.P
end
section
namespace MX.P
open PySem L2 MX
theorem Fo{lo hi:Pt}(h0:d≠(0,0,0)):iI ((gM o d lo hi).map (·.1)) (inB o d lo hi):=by
 have i0:Pb (λ_=>True) [(0,1)] ((0,1),none):=by
  refine⟨⟨by simp,by simp,λm hm=>by cases hm⟩,λt h1 h2=>?_,?_,λl hl=>by cases hl⟩
  .simp only[true_iff];refine⟨?_,λl hl=>by cases hl⟩;unfold leQ;simp;omega
  .rw[Ez (by decide)];decide
 have j1:=JG (j:=0) (o:=o) (d:=d) (lo:=lo) (hi:=hi) i0;unfold gM;cases e1:dY ((0,1),none) o.1 d.1 lo.1 hi.1 with
 |none =>
  rw[show dY ((0,1),none) (co 0 o) (co 0 d) (co 0 lo) (co 0 hi)=none from e1] at j1;exact λt q1 q2 q=>j1 t q1 q2 ⟨trivial,q.1⟩
 |some a =>
  rw[show dY ((0,1),none) (co 0 o) (co 0 d) (co 0 lo) (co 0 hi)=some a from e1] at j1;have j2:=JG (j:=1) (o:=o) (d:=d) (lo:=lo) (hi:=hi) j1;simp only[cg];cases e2:dY a o.2.1 d.2.1 lo.2.1 hi.2.1 with
  |none =>
   rw[show dY a (co 1 o) (co 1 d) (co 1 lo) (co 1 hi)=none from e2] at j2;exact λt q1 q2 q=>j2 t q1 q2 ⟨⟨trivial,q.1⟩,q.2.1⟩
  |some b =>
   rw[show dY a (co 1 o) (co 1 d) (co 1 lo) (co 1 hi)=some b from e2] at j2;have j3:=JG (j:=2) (o:=o) (d:=d) (lo:=lo) (hi:=hi) j2;simp only[cg];cases e3:dY b o.2.2 d.2.2 lo.2.2 hi.2.2 with
   |none =>
    rw[show dY b (co 2 o) (co 2 d) (co 2 lo) (co 2 hi)=none from e3] at j3;exact λt q1 q2 q=>j3 t q1 q2 ⟨⟨⟨trivial,q.1⟩,q.2.1⟩,q.2.2⟩
   |some c =>
    rw[show dY b (co 2 o) (co 2 d) (co 2 lo) (co 2 hi)=some c from e3] at j3;simp only[cg];have hn:c.2≠none:=by
     by_cases q1:d.1=0
     .by_cases q2:d.2.1=0
      .have q3:d.2.2≠0:=λq3=>h0 (by show(d.1,d.2.1,d.2.2)=_;rw[q1,q2,q3]);exact nT e3 (.inr q3)
      .exact nT e3 (.inl (nT e2 (.inr q2)))
     .exact nT e3 (.inl (nT e2 (.inl (nT e1 (.inr q1)))))
    have hB:∀t:Int×Int,0<=t.1->0<t.2->(inB o d lo hi t↔leQ c.1 t/\∀l,c.2=some l->leQ t l):=λt q1 q2=>by rw[<-j3.iff t q1 q2];exact⟨λq=>⟨⟨⟨trivial,q.1⟩,q.2.1⟩,q.2.2⟩,λq=>⟨q.1.1.2,q.1.2,q.2⟩⟩
    cases hl:c.2 with
    |none=>exact absurd hl hn
    |some l =>
     simp only;have bN:=j3.pos.2.2 l hl;have wA:=j3.pos.2.1;have f0:=j3.pos.1;by_cases hc:fX l c.1
     .rw[if_pos hc];intro t q1 q2 q;have:=(hB t q1 q2).mp q;exact RT (yq wA q2 bN this.1 (this.2 l hl)) hc
     .rw[if_neg hc];have hfl:=qP hc;exact⟨f0,wA,(hB _ f0 wA).mpr ⟨zmt _,λl' hl'=>by rw[hl] at hl';cases hl';exact hfl⟩,λt q1 q2 q=>((hB t q1 q2).mp q).1⟩
theorem Ik(o d lo hi:Pt):Inv (inB o d lo hi):=λt r ht hr e h=>by
 have f:∀s w l u:Int,iJ s w l u t->iJ s w l u r:=λs w l u ⟨h1,h2⟩=>by
  have k:t.2*(s*r.2+w*r.1)=r.2*(s*t.2+w*t.1):=by
   have:t.2*(s*r.2+w*r.1)=s*(t.2*r.2)+w*(r.1*t.2):=by grind
   rw[this,<-e];grind
  have g1:=Int.mul_le_mul_of_nonneg_left h1 (show 0<=r.2 by omega);have g2:=Int.mul_le_mul_of_nonneg_left h2 (show 0<=r.2 by omega);have k1:t.2*(l*r.2)=r.2*(l*t.2):=by grind
  have k2:t.2*(u*r.2)=r.2*(u*t.2):=by grind
  exact⟨Int.le_of_mul_le_mul_left (a:=t.2) (by omega) ht,Int.le_of_mul_le_mul_left (a:=t.2) (by omega) ht⟩
 exact⟨f _ _ _ _ h.1,f _ _ _ _ h.2.1,f _ _ _ _ h.2.2⟩
end MX.P
end
section
namespace MX.P
def jb(m:Tq)(X:Int×Int->Prop):Prop:=∀r,m=some r->0<=r.1/\0<r.2/\X r
theorem jb.pick{m n:Tq}{X:Int×Int->Prop}(hm:jb m X)(hn:jb n X):jb (pick m n) X:=by
 intro r h;unfold P.pick at h;cases n with
 |none=>exact hm r h
 |some t =>
  cases m with
  |none=>exact hn r h
  |some b =>
   simp only at h;split at h
   .exact hn r h
   .exact hm r h
theorem jb.red{m:Tq}(hi:Inv X)(hm:jb m X):jb (m8 m) X:=by intro r h;obtain⟨p,e,rfl⟩:=aX.mp h;obtain⟨h1,h2,h3⟩:=hm p e;have:=zoP (a:=p) h2;unfold leQ at this;exact⟨yx h1 h2,vz _ _,hi p _ h2 (vz _ _) (by omega) h3⟩
def jb.sub{m:Tq}(hm:jb m X)(h:∀t,X t->Y t):jb m Y:=λr e=>⟨(hm r e).1,(hm r e).2.1,h _ (hm r e).2.2⟩
theorem zn3(h0:d≠(0,0,0)):jb (mC o d a b) (gC d (wb o a) (wb o b)):=by
 have hD:=qg h0;intro r h;unfold mC uT at h;rw[tE o a b] at h;generalize wb o a=A at *
 generalize wb o b=B at *
 split at h
 .rename_i hp;split at h
  .rename_i hc;have la:=Ei hc;have lb:=Ei (QT hp hc);generalize au d d=N at *
   generalize au A d=x at *
   generalize au B d=y at *
   split at h
   .cases h
   .rename_i hm;cases h;have hm':0<=x\/0<=y:=by unfold cZ at hm;split at hm<;>omega
    have hmn:(cZ (dW x y) 0=x/\0<=x/\x<=y)\/(cZ (dW x y) 0=y/\0<=y/\y<=x)\/(cZ (dW x y) 0=0/\x<0/\0<=y)\/(cZ (dW x y) 0=0/\y<0/\0<=x):=by unfold cZ dW;split<;>split<;>omega
    have hge:0<=cZ (dW x y) 0:=by rcases hmn with h|h|h|h<;>omega
    refine⟨hge,hD,?_⟩;obtain⟨a1,a2,a3⟩:=la;obtain⟨b1,b2,b3⟩:=lb;rcases hmn with⟨e,_⟩|⟨e,_⟩|⟨e,_⟩|⟨e,_⟩<;>rw[e]
    .exact⟨1,0,by omega,by omega,by omega,by simp only;grind,by simp only;grind,by simp only;grind⟩
    .exact⟨0,1,by omega,by omega,by omega,by simp only;grind,by simp only;grind,by simp only;grind⟩
    .exact⟨y,-x,by omega,by omega,by omega,by simp only;grind,by simp only;grind,by simp only;grind⟩
    .exact⟨-y,x,by omega,by omega,by omega,by simp only;grind,by simp only;grind,by simp only;grind⟩
  .cases h
 .rename_i hp;have hU:=qg hp;split at h
  .rename_i hz;split at h
   .cases h
   .rename_i hb;cases h;exact⟨by simp only;omega,hU,Qy hz (by omega) (by omega) hU⟩
  .cases h
theorem zlk(h0:d≠(0,0,0)):jb (nF o d a b c) (iG d (wb o a) (wb o b) (wb o c)):=by have s:=λx y:Pt=>jb.red (Eg d (wb o x) (wb o y)) (zn3 (o:=o) (a:=x) (b:=y) h0);exact jb.pick (jb.pick (jb.pick (λr h=>by cases h) ((s a b).sub λt=>Qo)) ((s b c).sub λt=>Qp)) ((s c a).sub λt=>Qq)
theorem zny(h0:d≠(0,0,0)):jb (mG o d a b c) (iG d (wb o a) (wb o b) (wb o c)):=by
 have ef:=zlk (o:=o) (a:=a) (b:=b) (c:=c) h0;have gd:=Et o d a b c;have gn:=Et o (bO (wb o a) (wb o b) (wb o c)) a b c;intro r h;unfold mG uZ at h;unfold cI at gd gn;rw[tE o a b,tE o a c] at h;generalize wb o a=A at *
 generalize wb o b=B at *
 generalize wb o c=C at *
 split at h
 .exact ef r h
 .rename_i hf;have hN:0<au (bO A B C) (bO A B C):=qg hf;split at h
  .split at h
   .rename_i hU;have sn:au (bO A B C) (aq A B)+au (bO A B C) (aq B C)+au (bO A B C) (aq C A)=au (bO A B C) (bO A B C):=qT (bO A B C) A B C;split at h
    .rename_i hg;cases h;refine⟨Int.le_refl _,by decide,?_⟩;obtain⟨m1,m2,m3⟩:=Fg (bO A B C) A B C;rw[show au A (aq (aG B A) (aG C A))=0 from hU] at m1 m2 m3;rcases gn.mp hg with g|g
     .exact⟨_,_,_,g.2.1,g.2.2,g.1,by omega,by simp only;grind,by simp only;grind,by simp only;grind⟩
     .omega
    .exact ef r h
   .cases h
  .rename_i hV;have sn:=qT d A B C;have go:∀P:Prop,¬(P\/bT o d a b c=false)->bT o d a b c=true:=λP hb=>by
    rcases Bool.eq_false_or_eq_true (bT o d a b c) with q|q
    .exact q
    .exact absurd (.inr q) hb
   split at h
   .rename_i Ci;split at h
    .cases h
    .rename_i hb;refine jb.red (m:=some (_,_)) (zG _ _ _ _) (λp hp=>?_) r h;cases hp;refine⟨Int.not_lt.mp λq=>hb (.inl q),by simp only;omega,?_⟩;rcases gd.mp (go _ hb) with g|g
     .omega
     .exact RD g.1 g.2.1 g.2.2 Ci
   .rename_i Ci;split at h
    .cases h
    .rename_i hb;have Cg:0<au d (aq (aG B A) (aG C A)):=by omega
     refine jb.red (m:=some (_,_)) (zG _ _ _ _) (λp hp=>?_) r h;cases hp;refine⟨Int.not_lt.mp λq=>hb (.inl q),Cg,?_⟩;rcases gd.mp (go _ hb) with g|g
     .exact QG g.1 g.2.1 g.2.2 Cg
     .omega
end MX.P
end
section
namespace MX.P
open PySem L2 MX
def kI(a b:Pt):Prop:=a.1<=b.1/\a.2.1<=b.2.1/\a.2.2<=b.2.2
theorem Jp:∀(r:List Int) (a:Int),r.foldl (λx y=>if y<x then y else x) a<=a/\∀x∈r,r.foldl (λx y=>if y<x then y else x) a<=x
 |[],a=>⟨Int.le_refl _,λ_ h=>by cases h⟩
 |b::r,a=>by
  obtain⟨h1,h2⟩:=Jp r (if b<a then b else a);rw[List.foldl_cons];have k:(if b<a then b else a)<=a/\(if b<a then b else a)<=b:=by split<;>omega
  refine⟨Int.le_trans h1 k.1,λx hx=>?_⟩;rcases List.mem_cons.mp hx with rfl|hx
  .exact Int.le_trans h1 k.2
  .exact h2 x hx
theorem Jo:∀(r:List Int) (a:Int),a<=r.foldl (λx y=>if y>x then y else x) a/\∀x∈r,x<=r.foldl (λx y=>if y>x then y else x) a
 |[],a=>⟨Int.le_refl _,λ_ h=>by cases h⟩
 |b::r,a=>by
  obtain⟨h1,h2⟩:=Jo r (if b>a then b else a);rw[List.foldl_cons];have k:a<=(if b>a then b else a)/\b<=(if b>a then b else a):=by split<;>omega
  refine⟨Int.le_trans k.1 h1,λx hx=>?_⟩;rcases List.mem_cons.mp hx with rfl|hx
  .exact Int.le_trans k.2 h1
  .exact h2 x hx
theorem IK{m:Int}(h:jh ns=some m):∀x∈ns,m<=x:=by
 cases ns with
 |nil=>cases h
 |cons a r =>
  have h':r.foldl (λx y=>if y<x then y else x) a=m:=by simpa[jh] using h
  subst h';intro x hx;rcases List.mem_cons.mp hx with rfl|hx
  .exact(Jp r _).1
  .exact(Jp r _).2 x hx
theorem Iu{m:Int}(h:jk ns=some m):∀x∈ns,x<=m:=by
 cases ns with
 |nil=>cases h
 |cons a r =>
  have h':r.foldl (λx y=>if y>x then y else x) a=m:=by simpa[jk] using h
  subst h';intro x hx;rcases List.mem_cons.mp hx with rfl|hx
  .exact(Jo r _).1
  .exact(Jo r _).2 x hx
def lW.has{pts:List Pt}{lo hi:Pt}(B:lW pts lo hi)(hp:p∈pts):kI lo p/\kI p hi :=
 ⟨⟨IK B.h0 (co 0 p) (List.mem_map_of_mem hp),IK B.h1 (co 1 p) (List.mem_map_of_mem hp),IK B.h2 (co 2 p) (List.mem_map_of_mem hp)⟩,
  ⟨Iu B.g0 (co 0 p) (List.mem_map_of_mem hp),Iu B.g1 (co 1 p) (List.mem_map_of_mem hp),Iu B.g2 (co 2 p) (List.mem_map_of_mem hp)⟩⟩
theorem S6{lo hi lo' hi':Pt}(hq:0<t.2)(h1:kI lo lo')(h2:kI hi' hi)(h:inB o d lo' hi' t):inB o d lo hi t:=by
 have f:∀s w l u l' u':Int,l<=l'->u'<=u->iJ s w l' u' t->iJ s w l u t:=λs w l u l' u' a b ⟨h1,h2⟩ =>
  ⟨Int.le_trans (Int.mul_le_mul_of_nonneg_right a (by omega)) h1,Int.le_trans h2 (Int.mul_le_mul_of_nonneg_right b (by omega))⟩
 exact⟨f _ _ _ _ _ _ h1.1 h2.1 h.1,f _ _ _ _ _ _ h1.2.1 h2.2.1 h.2.1,f _ _ _ _ _ _ h1.2.2 h2.2.2 h.2.2⟩
theorem T9{lo hi:Pt}(h0:d≠(0,0,0))(h1:0<=t.1)(h2:0<t.2)(h:inB o d lo hi t):gM o d lo hi≠none:=λe=>by have f:=Fo (o:=o) (lo:=lo) (hi:=hi) h0;rw[e] at f;exact f t h1 h2 h
theorem zjX{lo hi lo' hi':Pt}(h0:d≠(0,0,0))(h1:kI lo lo')(h2:kI hi' hi)(e:gM o d lo hi=none):gM o d lo' hi'=none:=by
 cases e':gM o d lo' hi' with
 |none=>rfl
 |some p =>
  have f:=Fo (o:=o) (lo:=lo') (hi:=hi') h0;rw[e'] at f;exact absurd e (T9 h0 f.1 f.2.1 (S6 f.2.1 h1 h2 f.2.2.1))
noncomputable def qC(o d:Pt):Sh->Int×Int->Prop
 |.box lo hi=>inB o d lo hi
 |.tri a b c=>iG d (wb o a) (wb o b) (wb o c)
def HY(o d lo hi:Pt):gP o d (.box lo hi)=m8 ((gM o d lo hi).map (·.1)):=by show(gM o d lo hi).map (λp=>dD p.1.1 p.1.2)=_;cases gM o d lo hi<;>rfl
theorem JV(h0:d≠(0,0,0))(s:Sh):iI (gP o d s) (qC o d s):=by
 cases s with
 |box lo hi=>rw[HY];exact iI.red (Ik o d lo hi) (Fo h0)
 |tri a b c=>exact zjO h0
theorem QF(h0:d≠(0,0,0))(s:Sh):jb (gP o d s) (qC o d s):=by
 cases s with
 |box lo hi =>
  rw[HY];refine jb.red (Ik o d lo hi) λr e=>?_;have f:=Fo (o:=o) (lo:=lo) (hi:=hi) h0;rw[e] at f;exact⟨f.1,f.2.1,f.2.2.1⟩
 |tri a b c=>exact zny h0
def zpG(o d:Pt)(s:Sh):uX (gP o d s):=by
 cases s with
 |box lo hi=>rw[HY];exact EY _
 |tri a b c=>exact znz o d a b c
theorem zp1{lo hi:Pt}(B:lW s.pts lo hi)(hq:0<t.2)(h:qC o d s t):inB o d lo hi t:=by
 cases s with
 |box l u=>exact S6 hq (B.has (p:=l) (by simp[Sh.pts])).1 (B.has (p:=u) (by simp[Sh.pts])).2 h
 |tri a b c =>
  obtain⟨a1,a2⟩:=B.has (p:=a) (by simp[Sh.pts]);obtain⟨b1,b2⟩:=B.has (p:=b) (by simp[Sh.pts]);obtain⟨c1,c2⟩:=B.has (p:=c) (by simp[Sh.pts]);obtain⟨u,v,w,u0,v0,w0,hs,e1,e2,e3⟩:=h;exact⟨Iv (s:=0) u0 v0 w0 hs hq e1 ⟨a1.1,a2.1⟩ ⟨b1.1,b2.1⟩ ⟨c1.1,c2.1⟩,Iv (s:=0) u0 v0 w0 hs hq e2 ⟨a1.2.1,a2.2.1⟩ ⟨b1.2.1,b2.2.1⟩ ⟨c1.2.1,c2.2.1⟩,Iv (s:=0) u0 v0 w0 hs hq e3 ⟨a1.2.2,a2.2.2⟩ ⟨b1.2.2,b2.2.2⟩ ⟨c1.2.2,c2.2.2⟩⟩
theorem znX{lo hi:Pt}(h0:d≠(0,0,0))(B:lW s.pts lo hi)(h:gP o d s≠none):gM o d lo hi≠none:=by
 cases e:gP o d s with
 |none=>exact absurd e h
 |some p =>
  obtain⟨f1,f2,f3⟩:=QF h0 s p e;exact T9 h0 f1 f2 (zp1 B f2 f3)
end MX.P
end
section
local macro_rules | `(tactic| wtm_at "?d") => `(tactic| (with_reducible assumption))
namespace MX.P
open PySem L2 MX
theorem Im{α:Type}{nx:Nat->So->Option (Option D)}{fe:EF}{S:So}{rest:Sg}(qs:List α)(enc g:α->D)(hnx:∀i:Nat,nx i S=some ((qs.map enc)[i]?))(hstep:∀q∈qs,fe (some (enc q)::rest) S=some (g q,S)):
 ∀(n i:Nat) (v:Option D) (acc:List D),i+n=qs.length->jC nx (aM 0) cY fe n i (v::rest) S acc=some (acc++(qs.drop i).map g,S)
 |0,i,v,acc,h=>by rw[xQ (by rw[hnx,jN (by simp;omega)]),List.drop_of_length_le (by omega)];simp
 |n+1,i,v,acc,h=>by
  have hi:i<qs.length:=by omega
  have e:(qs.map enc)[i]?=some (enc qs[i]):=by simp[hi]
  refine(nH (by rw[hnx,e]) (dw rfl) nO (hstep _ (List.getElem_mem hi)) rfl (Im qs enc g hnx hstep n (i+1) (some (enc qs[i])) (acc++[g qs[i]]) (by omega))).trans ?_;rw[List.drop_eq_getElem_cons hi,jq,fW];rfl
theorem zN{α:Type}{S1:So}{fi:IF}{rest:Sg}(qs:List α)(enc g:α->D)(h1:fi σ S=some (.lst n,S1))(hn:S1[n]?=some (.lst (qs.map enc)))(hl:qs.length<=1000)(hτ:ou src σ=none::rest)(hstep:∀q∈qs,fe (some (enc q)::rest) S1=some (g q,S1)):dg fi (aM 0) cY fe src σ S=some (.ref S1.length,S1++[.lst (qs.map g)]):=by
 have key:=Im (nx:=di (.lst n)) (S:=S1) (rest:=rest) (fe:=fe) qs enc g (λi=>by unfold di;simp only;rw[hn]) hstep qs.length 0 none [] (by omega);refine p6 (n:=qs.length) h1 ?_ (by rw[sizeLine_eq];omega) hτ ?_
 .show(match S1[n]? with|some (.lst xs)=>some xs.length|some (.frz xs)=>some xs.length|_=>none)=_;rw[hn];simp
 .rw[key];simp
noncomputable abbrev Lf:=Pt×Pt×Nat
noncomputable def dX(q:Lf):Tr := .lf q.1 q.2.1 q.2.2
noncomputable def Tr.leaves:Tr->List Lf
 |.lf lo hi i=>[(lo,hi,i)]
 |.nd _ _ l r=>l.leaves++r.leaves
noncomputable def rW(k:Nat):Tr->Prop
 |.lf lo hi _=>aN k lo/\aN k hi
 |.nd lo hi l r=>(aN k lo/\aN k hi)/\rW k l/\rW k r/\∀q∈l.leaves++r.leaves,kI lo q.1/\kI q.2.1 hi
def Xy{h:Nat}(hl:h<=xs.length):jP xs none (some (h:Nat))=xs.take h:=by unfold jP;rw[HT.zj9,HT.zin];simp[Nat.min_eq_left hl]
theorem zmR{h:Nat}(hl:h<=xs.length):jP xs (some (h:Nat)) none=xs.drop h:=by unfold jP;rw[HT.zj9,HT.zin,Nat.min_eq_left hl];rw[List.take_of_length_le (by simp)]
def xZ{x:Str}{G:So}(h:lJ x S=true):lJ x (S++G)=true:=by
 unfold lJ at *
 rw[List.any_append,h];rfl
theorem XQ{S1:So}{fb:EF}{src:List Nat}{ig:List D}{kz:List Int}(h1:fe σ S=some (.ref n,S1))(h2:pJ src σ=some ig)(h3:vR ig=true)(hn:S1[n]?=some (.lst xs))(hl:xs.length<64)(hk:qJ (lamF fb ig) S1 xs=some kz):
 yM fe src fb σ S=some (.ref S1.length,S1++[.lst ((jH kz).map λi=>xs.getD i .non)]):=by
 unfold yM;rw[h1];simp only[cg];rw[h2];simp only[cg];rw[if_pos h3,hn];simp only;rw[if_pos hl,hk];rfl
def S9{α:Type}{ψ:GN}{S:So}{enc:α->D}{g:α->Int}:∀{qs:List α},(∀q∈qs,ψ [enc q] S=some (.int (g q),S))->qJ ψ S (qs.map enc)=some (qs.map g)
 |[],_=>rfl
 |q::r,h=>zjs (h q (fG ..)) (S9 λy hy=>h y (cQ _ hy))
theorem zkg{α:Type}(a0:α)(qs:List α){l:List Nat}(h:l.Perm (List.range qs.length)):(l.map λi=>qs.getD i a0).Perm qs:=by
 have h1:=h.map λi=>qs.getD i a0;have h2:(List.range qs.length).map (λi=>qs.getD i a0)=qs:=by
  apply List.ext_getElem?;intro i;by_cases hi:i<qs.length
  .simp[hi]
  .rw[jN (by simp;omega),jN (by omega)]
 rw[h2] at h1;exact h1
theorem zmd{α:Type}{enc:α->D}(a0:α)(qs:List α){l:List Nat}(h:∀i∈l,i<qs.length):(l.map λi=>(qs.map enc).getD i .non)=(l.map λi=>qs.getD i a0).map enc:=by rw[List.map_map];refine List.map_congr_left λi hi=>?_;have:=h i hi;simp[List.getD_eq_getElem?_getD,this]
theorem zmY{q:Lf}{j:Nat}(hj:j<=2)(S:So):lamF (eB (aP .Add) (eB aJ (eB aJ (gH "Tree" "box" (aj 0)) (eC (.int 0))) (aj 1)) (eB aJ (eB aJ (gH "Tree" "box" (aj 0)) (eC (.int 1))) (aj 1))) [.int (j:Nat)] [bD (dX q)] S=some (.int (co j q.1+co j q.2.1),S):=by show eB _ _ _ [some (bD (dX q)),some (.int (j:Nat))] S=_;refine bC (bC (bC (qQ (d := .tup [pD q.1,pD q.2.1]) (aF rfl) rfl rfl) bF (gb (z:=pD q.1) rfl)) (aF rfl) (gb (nG (by omega) (by omega) q.1))) (bC (bC (qQ (d := .tup [pD q.1,pD q.2.1]) (aF rfl) rfl rfl) bF (gb (z:=pD q.2.1) rfl)) (aF rfl) (gb (nG (by omega) (by omega) q.2.1))) DY
theorem DP(n:Nat)(qs:List Lf):O.lo n (.lst (qs.map λq=>bD (dX q)))=true:=by show cV n _=true;rw[lz];intro x hx;obtain⟨q,_,rfl⟩:=List.mem_map.mp hx;exact qO n _
theorem DN{α:Type}(n:Nat)(qs:List α)(f:α->Pt):cV n (qs.map λq=>pD (f q))=true:=by rw[lz];intro x hx;obtain⟨p,_,rfl⟩:=List.mem_map.mp hx;simp[D.lo,cV]
theorem zoO{ys:List D}(h1:cV n xs=true)(h2:cV n ys=true):cV n (xs++ys)=true:=by
 rw[lz] at *
 intro x hx;rcases lZ.mp hx with h|h
 .exact h1 x h
 .exact h2 x h
theorem znM:∀(k:Nat) (qs:List Lf) (n:Nat) (S:So),WF S->lJ "tree_over" S=true->S[n]?=some (.lst (qs.map λq=>bD (dX q)))->1<=qs.length->qs.length<=2 ^ k->qs.length<=60->(∀q∈qs,aN K q.1/\aN K q.2.1) ->
 ∃t,jy (k+1) [.ref n] S=some (bD t,S)/\rW K t/\t.leaves.Perm qs:=by
 intro k
 induction k with
 |zero =>
  intro qs n S hS hT hn h1 h2 h60 hb;obtain⟨q,rfl⟩:=List.length_eq_one_iff.mp (show qs.length=1 by have:qs.length<=1:=h2;omega);refine⟨dX q,?_,hb q (by simp),List.Perm.refl _⟩;show sX "tree_over" 5 (nR (jy 0)) _ S=_;unfold sX;rw[if_pos hT];apply bK
  .wtm_at "?b"
   unfold nR;refine aL (dF (b:=true) (fY ?_) (d9 rfl (aL (eG (bC (aF rfl) bF (zx hn (z:=bD (dX q)) rfl))) cL))) cL;exact bC (aZ (aK (aF rfl) aY) (qR hn)) bF rfl
  .exact lY
  .exact qO _ _
 |succ k ih =>
  intro qs n S hS hT hn h1 h2 h60 hb;show ∃t,sX "tree_over" 5 (nR (jy (k+1))) _ S=_/\_;unfold sX;rw[if_pos hT];by_cases hL:qs.length=1
  .obtain⟨q,rfl⟩:=List.length_eq_one_iff.mp hL;refine⟨dX q,?_,hb q (by simp),List.Perm.refl _⟩;apply bK
   .wtm_at "?b"
    unfold nR;refine aL (dF (b:=true) (fY ?_) (d9 rfl (aL (eG (bC (aF rfl) bF (zx hn (z:=bD (dX q)) rfl))) cL))) cL;exact bC (aZ (aK (aF rfl) aY) (qR hn)) bF rfl
   .exact lY
   .exact qO _ _
  .obtain⟨lo,hi,B⟩:=Qc (pts:=qs.map (·.1)++qs.map (·.2.1)) (by
    intro e;have:=congrArg List.length e;rw[lH,dJ,dJ,uQ] at this;omega)
   have bb:aN K lo/\aN K hi:=B.bd λp hp=>by
    rcases lZ.mp hp with hp|hp
    .obtain⟨q,hq,rfl⟩:=List.mem_map.mp hp;exact(hb q hq).1
    .obtain⟨q,hq,rfl⟩:=List.mem_map.mp hp;exact(hb q hq).2
   obtain⟨j,hj,hw⟩:=zjY lo hi;have hm:qs.map (λq=>pD q.1)++qs.map (λq=>pD q.2.1)=(qs.map (·.1)++qs.map (·.2.1)).map pD:=by rw[uN,List.map_map,List.map_map];rfl
   have W1:WF (S++[.lst (qs.map λq=>pD q.1)]):=hS.snoc (DN _ _ _);have W2:WF (S++[.lst (qs.map λq=>pD q.1)]++[.lst (qs.map λq=>pD q.2.1)]):=W1.snoc (DN _ _ _);have W3:WF (S++[.lst (qs.map λq=>pD q.1)]++[.lst (qs.map λq=>pD q.2.1)]++[.lst (qs.map (λq=>pD q.1)++qs.map λq=>pD q.2.1)]):=W2.snoc (zoO (DN _ _ _) (DN _ _ _));have Cv:eN (aR 1 yt) (ak (eB (aP .Add) (dg (eF (aj 0)) (aM 0) cY (eB aJ (gH "Tree" "box" (aj 0)) (eC (.int 0))) [none]) (dg (eF (aj 0)) (aM 0) cY (eB aJ (gH "Tree" "box" (aj 0)) (eC (.int 1))) [none])) aA) [some (.ref n),none,none,none,none] S=some (.tup [pD lo,pD hi],S++[.lst (qs.map λq=>pD q.1)]++[.lst (qs.map λq=>pD q.2.1)]++[.lst (qs.map (λq=>pD q.1)++qs.map λq=>pD q.2.1)]):=by
    refine aZ (aK (bC (zN qs (λq=>bD (dX q)) (λq=>pD q.1) (nJ (aF rfl) hn) hn (by omega) rfl λq _=>?_) (zN qs (λq=>bD (dX q)) (λq=>pD q.2.1) (nJ (aF rfl) (fK hn)) (fK hn) (by omega) rfl λq _=>?_) (ZV (fK cJ) cJ ?_)) aY) (cM rfl (QC (pts:=qs.map (·.1)++qs.map (·.2.1)) W3 ?_ ?_ B))
    .exact bC (qQ (d := .tup [pD q.1,pD q.2.1]) (aF rfl) rfl rfl) bF (gb rfl)
    .exact bC (qQ (d := .tup [pD q.1,pD q.2.1]) (aF rfl) rfl rfl) bF (gb rfl)
    .simp only[dJ];rw[sizeLine_eq];omega
    .rw[<-hm];exact cJ
    .simp only[lH,dJ];omega
   have Cr:bG (eB (aW .Eq) (eN ji (ak (aj 0) aA)) (eC (.int 1))) [some (.ref n),none,none,none,none] S=some (false,S):=by have:=fY (bC (aZ (aK (aF (σ:=[some (.ref n),none,none,none,none]) (i:=0) rfl) aY) (qR hn)) (bF (d := .int 1)) xN);rw[this,fM];rw[dJ];omega
   generalize yL:S++[.lst (qs.map λq=>pD q.1)]++[.lst (qs.map λq=>pD q.2.1)]++[.lst (qs.map (λq=>pD q.1)++qs.map λq=>pD q.2.1)]=S3 at W3 Cv;have n3:S3[n]?=some (.lst (qs.map λq=>bD (dX q))):=by rw[<-yL];exact fK (fK (fK hn))
   have T3:lJ "tree_over" S3=true:=by rw[<-yL,fW,fW];exact xZ hT
   have tk3:S3.take S.length=S:=by rw[<-yL,fW,fW];simp
   have l3:S.length<=S3.length:=by rw[<-yL];simp
   have kp:=K1 (qs.map λq=>co j q.1+co j q.2.1);rw[dJ] at kp;have hlt:∀i∈jH (qs.map λq=>co j q.1+co j q.2.1),i<qs.length:=λi hi=>List.mem_range.mp (kp.mem_iff.mp hi);have pp:=zkg ((0,0,0),(0,0,0),0) qs kp;have pe:=zmd (enc:=λq=>bD (dX q)) ((0,0,0),(0,0,0),0) qs hlt;generalize hrow:(jH (qs.map λq=>co j q.1+co j q.2.1)).map (λi=>qs.getD i ((0,0,0),(0,0,0),0))=row at pp pe;have rl:row.length=qs.length:=pp.length_eq;have b4:∀q∈row,aN K q.1/\aN K q.2.1:=λq hq=>hb q (pp.mem_iff.mp hq);have W4:WF (S3++[.lst (row.map λq=>bD (dX q))]):=W3.snoc (DP _ _);have W5:WF (S3++[.lst (row.map λq=>bD (dX q))]++[.lst ((row.take (qs.length / 2)).map λq=>bD (dX q))]):=W4.snoc (DP _ _);have W6:WF (S3++[.lst (row.map λq=>bD (dX q))]++[.lst ((row.take (qs.length / 2)).map λq=>bD (dX q))]++[.lst ((row.drop (qs.length / 2)).map λq=>bD (dX q))]):=W5.snoc (DP _ _);have hp2:2 ^ (k+1)=2 ^ k+2 ^ k:=by rw[Nat.pow_succ];omega
   obtain⟨t1,e1,o1,p1⟩:=ih (row.take (qs.length / 2)) _ _ W5 (by rw[fW];exact xZ T3) cJ (by simp;omega) (by simp;omega) (by simp;omega) (λq hq=>b4 q (List.mem_of_mem_take hq));obtain⟨t2,e2,o2,p2⟩:=ih (row.drop (qs.length / 2)) _ _ W6 (by rw[fW,fW];exact xZ T3) cJ (by simp;omega) (by simp;omega) (by simp;omega) (λq hq=>b4 q (List.mem_of_mem_drop hq));have pq:(t1.leaves++t2.leaves).Perm qs:=((p1.append p2).trans (by rw[List.take_append_drop])).trans pp;refine⟨.nd lo hi t1 t2,?_,⟨bb,o1,o2,λq hq=>?_⟩,pq⟩
   .apply bK (S':=S3++[.lst (row.map λq=>bD (dX q))]++[.lst ((row.take (qs.length / 2)).map λq=>bD (dX q))]++[.lst ((row.drop (qs.length / 2)).map λq=>bD (dX q))])
    .wtm_at "?b"
     unfold nR;refine aL (dF Cr (dI rfl eX)) (aV ?_);refine aL (cN Cv (dw rfl)) (aV ?_);refine aL (cN (aZ (aK (aF rfl) aY) (cM rfl (hw S3))) (dw rfl)) (aV ?_);refine aL (cN (XQ (ig:=[.int (j:Nat)]) (aF rfl) rfl rfl n3 (by simp;omega) (S9 (g:=λq:Lf=>co j q.1+co j q.2.1) λq _=>zmY hj S3)) (dw rfl)) (aV ?_);rw[pe];have hfd:((qs.length:Int)).fdiv 2=((qs.length / 2:Nat):Int):=by rw[Int.fdiv_eq_ediv_of_nonneg _ (by decide)];rfl
     refine aL (cN (bC (aZ (aK (aF rfl) aY) (qR cJ)) bF (u5 (by decide))) (dw rfl)) (aV ?_);simp only[dJ,rl,hfd];have c1:eN (aR 1 (jy (k+1))) (ak (jV (aj 2) kZ (jR (aj 3))) aA) [some (.ref n),some (.tup [pD lo,pD hi]),some (.ref S3.length),some (.int ((qs.length / 2:Nat):Int)),some (.int (j:Nat))] (S3++[.lst (row.map λq=>bD (dX q))])=some (bD t1,S3++[.lst (row.map λq=>bD (dX q))]++[.lst ((row.take (qs.length / 2)).map λq=>bD (dX q))]):=by refine aZ (aK (xP (aF rfl) zO (zP (aF rfl)) (Hy cJ ?_)) aY) (cM rfl e1);rw[Xy (by simp[rl];omega),List.map_take]
     have c2:eN (aR 1 (jy (k+1))) (ak (jV (aj 2) (jR (aj 3)) kZ) aA) [some (.ref n),some (.tup [pD lo,pD hi]),some (.ref S3.length),some (.int ((qs.length / 2:Nat):Int)),some (.int (j:Nat))] (S3++[.lst (row.map λq=>bD (dX q))]++[.lst ((row.take (qs.length / 2)).map λq=>bD (dX q))])=some (bD t2,S3++[.lst (row.map λq=>bD (dX q))]++[.lst ((row.take (qs.length / 2)).map λq=>bD (dX q))]++[.lst ((row.drop (qs.length / 2)).map λq=>bD (dX q))]):=by refine aZ (aK (xP (aF rfl) (zP (aF rfl)) zO (Hy (fK cJ) ?_)) aY) (cM rfl e2);rw[zmR (by simp[rl];omega),List.map_drop]
     exact aL (eG (Tw (aK (aF rfl) (aK bF (aK (aZ (aK c1 (aK c2 aY)) (lN (by show 2<=sizeLine;decide))) aY))) W6 (by simp[cV,D.lo,qO]))) cL
    .rw[fW,fW,List.take_append_of_le_length l3];exact tk3
    .exact qO _ (.nd lo hi t1 t2)
   .have hq':=pq.mem_iff.mp hq;exact⟨(B.has (List.mem_append_left _ (List.mem_map_of_mem hq'))).1,(B.has (List.mem_append_right _ (List.mem_map_of_mem hq'))).2⟩
noncomputable abbrev jW(b:Pt×Pt):D := .tup [pD b.1,pD b.2]
noncomputable def gU(bs:List (Pt×Pt)):List Lf:=bs.zipIdx.map λp=>(p.1.1,p.1.2,p.2)
def mO(bs:List (Pt×Pt)):(gU bs).length=bs.length:=by simp[gU]
def Ff{bs:List (Pt×Pt)}(h:i<bs.length):(gU bs)[i]?=some (bs[i].1,bs[i].2,i):=by simp[gU,h]
theorem Uo{bs:List (Pt×Pt)}{q:Lf}(h:q∈gU bs):q.2.2<bs.length/\(q.1,q.2.1)∈bs:=by obtain⟨i,hi,e⟩:=List.mem_iff_getElem.mp h;rw[mO] at hi;have:=Ff hi;rw[gG (by rw[mO];exact hi),e] at this;cases this;exact⟨hi,List.getElem_mem hi⟩
theorem Rk{S:So}{n:Nat}{bs:List (Pt×Pt)}(hS:WF S)(hn:S[n]?=some (.lst (bs.map jW))):∀(m i:Nat) (τ:Sg) (acc:List D),τ.length=2->i+m=bs.length ->
 jC (di (.enm n)) (jm 2 (dH (aM 0) (dH (aM 1) jK))) cY (pI "Tree" 4 yF (ak (aj 1) (ak (aj 0) (ak (eN cD aA) aA)))) m i τ S acc=some (acc++((gU bs).drop i).map (λq=>bD (dX q)),S)
 |0,i,τ,acc,hτ,h=>by rw[xQ (by unfold di;simp only;rw[hn];simp;omega),List.drop_of_length_le (by rw[mO];omega)];simp
 |m+1,i,τ,acc,hτ,h=>by
  have hi:i<bs.length:=by omega
  obtain⟨a,b,rfl⟩:∃a b,τ=[a,b]:=by
   match τ,hτ with
   |[a,b],_=>exact⟨a,b,rfl⟩
  have hq:(gU bs)[i]?=some (bs[i].1,bs[i].2,i):=Ff hi;have nx:di (.enm n) i S=some (some (.tup [.int (i:Nat),jW bs[i]])):=by unfold di;simp only;rw[hn];simp[hi]
  refine(nH nx (Qi rfl (JS (dw rfl) (JS (dw rfl) Sx))) nO (Tw (aK (aF rfl) (aK (aF rfl) (aK (aZ aY (lN (by show 0<=sizeLine;exact Nat.zero_le _))) aY))) hS (by simp[cV,D.lo])) rfl (Rk hS hn m (i+1) _ _ rfl (by omega))).trans ?_;rw[List.drop_eq_getElem_cons (l:=gU bs) (i:=i) (by rw[mO];exact hi),jq,fW];have e2:(gU bs)[i]'(by rw[mO];exact hi)=(bs[i].1,bs[i].2,i):=by rw[gG (by rw[mO];exact hi)] at hq;exact Option.some.inj hq
  rw[e2];rfl
noncomputable def gk:Option Tr->D
 |none => .non
 |some t=>bD t
noncomputable def yK:Option Tr->List Lf
 |none=>[]
 |some t=>t.leaves
def YX(n:Nat)(t:Option Tr):D.lo n (gk t)=true:=by
 cases t with
 |none=>simp[gk,D.lo]
 |some t=>exact qO n t
theorem zlS{bs:List (Pt×Pt)}(hS:WF S)(hT:lJ "tree_over" S=true)(hn:S[n]?=some (.lst (bs.map jW)))(hl:bs.length<=32)(hb:∀b∈bs,aN K b.1/\aN K b.2):
 ∃t,Fq [.ref n] S=some (gk t,S)/\(∀t',t=some t'->rW K t')/\(yK t).Perm (gU bs):=by
 have e1:Lx [some (.ref n),none] S=some (.nx,[some (.ref n),some (.ref S.length)],S++[.lst ((gU bs).map λq=>bD (dX q))]):=by
  unfold Lx;refine cN (p6 (j := .enm n) (n:=bs.length) (σ1:=[none,none]) ?_ ?_ (by rw[sizeLine_eq];omega) rfl ((Rk hS hn bs.length 0 [none,none] [] rfl (by omega)).trans (by simp))) (dw rfl)
  .unfold o9;rw[aF (d := .ref n) rfl];simp only[cg];rw[hn]
  .show(match S[n]? with|some (.lst xs)=>some xs.length|_=>none)=_;rw[hn];simp
 have W1:WF (S++[.lst ((gU bs).map λq=>bD (dX q))]):=hS.snoc (DP _ _);have oU:∀b:Bool,b=decide (bs.length=0)->bG (eB (aW .Eq) (eN ji (ak (aj 1) aA)) (eC (.int 0))) [some (.ref n),some (.ref S.length)] (S++[.lst ((gU bs).map λq=>bD (dX q))])=some (b,S++[.lst ((gU bs).map λq=>bD (dX q))]):=λb hb=>by have:=fY (bC (aZ (aK (aF (σ:=[some (.ref n),some (.ref S.length)]) (i:=1) rfl) aY) (qR (cJ (S:=S) (o := .lst ((gU bs).map λq=>bD (dX q)))))) (bF (d := .int 0)) xN);rw[this,hb];congr 2;rw[dJ,mO];simp
 by_cases h0:bs.length=0
 .refine⟨none,?_,λt' e=>(by cases e),by rw[List.eq_nil_of_length_eq_zero h0];exact List.Perm.refl _⟩;apply bK
  .wtm_at "?b"
   unfold Kv;have e3:z7 [some (.ref n),some (.ref S.length)] (S++[.lst ((gU bs).map λq=>bD (dX q))])=some (.rt (gk none),[some (.ref n),some (.ref S.length)],S++[.lst ((gU bs).map λq=>bD (dX q))]):=by unfold z7;exact eG (zu (oU true (by simp[h0])) (d9 rfl bF))
   exact aL e1 (aV (aL e3 cL))
  .wtm_at "?c"
  .rfl
 .obtain⟨t,e2,o2,p2⟩:=znM (K:=K) 5 (gU bs) S.length (S++[.lst ((gU bs).map λq=>bD (dX q))]) W1 (xZ hT) cJ (by rw[mO];omega) (by rw[mO];omega) (by rw[mO];omega) (λq hq=>hb _ (Uo hq).2);refine⟨some t,?_,λt' e=>(by cases e;exact o2),p2⟩;apply bK
  .wtm_at "?b"
   unfold Kv;have e3:z7 [some (.ref n),some (.ref S.length)] (S++[.lst ((gU bs).map λq=>bD (dX q))])=some (.rt (gk (some t)),[some (.ref n),some (.ref S.length)],S++[.lst ((gU bs).map λq=>bD (dX q))]):=by unfold z7;exact eG (zu (oU false (by simp[h0])) (dI rfl (aZ (aK (aF rfl) aY) (cM rfl e2))))
   exact aL e1 (aV (aL e3 cL))
  .wtm_at "?c"
  .exact qO _ _
noncomputable def Tr.size:Tr->Nat
 |.lf _ _ _=>1
 |.nd _ _ l r=>1+l.size+r.size
noncomputable def j9(ws:List Tr):Nat:=(ws.map Tr.size).sum
def R0:∀t:Tr,1<=t.size
 |.lf _ _ _=>bZ _
 |.nd _ _ _ _=>by simp[Tr.size];omega
def T6(a b:List Tr):j9 (a++b)=j9 a+j9 b:=by simp[j9]
theorem Um(ws:List Tr):ws.length<=j9 ws:=by
 induction ws with
 |nil=>simp[j9]
 |cons t r ih =>
  have:=R0 t;simp only[j9,jq,List.sum_cons,jf] at *
  omega
noncomputable def bB(i:Nat):D := .int (i:Nat)
section
variable {K:Nat}{o d:Pt}(ho:aN K o)(hd:aN K d)(h0:d≠(0,0,0))(hK:K<=10000)
theorem zma{x:D}{S3:So}(h:S[n]?=some (.lst (xs++[x])))(h3:S.set n (.lst xs)=S3):mW (.ref n) [] S=some (x,S3):=by unfold mW;simp only;rw[h];simp[h3]
def Qz{a b c:O}(hn:n=S.length+1):(S++[a]++[b]).set n c=S++[a]++[c]:=by subst hn;rw[show S.length+1=(S++[a]).length by simp];simp
def Jd{a b c:O}(hn:n=S.length):(S++[a]++[b]).set n c=S++[c]++[b]:=by subst hn;simp
noncomputable def Dp(o d:Pt)(q:Lf):Bool:=(gM o d q.1 q.2.1).isSome
noncomputable def lg(o d:Pt)(l:List Lf):List Nat:=(l.filter (Dp o d)).map (·.2.2)
theorem zpF:∀{t:Tr},rW K t->∀q∈t.leaves,kI t.lo q.1/\kI q.2.1 t.hi
 |.lf lo hi i,_,q,hq=>by rw[List.mem_singleton.mp hq];exact⟨⟨Int.le_refl _,Int.le_refl _,Int.le_refl _⟩,Int.le_refl _,Int.le_refl _,Int.le_refl _⟩
 |.nd lo hi l r,h,q,hq=>h.2.2.2 q hq
include h0 in
theorem zlX{t:Tr}(ht:rW K t)(e:gM o d t.lo t.hi=none):lg o d t.leaves=[]:=by unfold lg;rw[List.filter_eq_nil_iff.mpr λq hq=>?_,List.map_nil];have k:=zpF ht q hq;unfold Dp;rw[zjX h0 k.1 k.2 e];simp
def RZ(a b:List Lf):lg o d (a++b)=lg o d a++lg o d b:=by simp[lg]
def RQ{m:Option ((Int×Int)×(Int×Int))}{b:Bool}(h:oF (Dq m)=b):m.isSome = !b:=by cases m<;>cases b<;>first|rfl|cases h
noncomputable abbrev Gk:TF:=bG (eB (aW .Gt) (eN ji (ak (aj 3) aA)) (eC (.int 0)))
include ho hd h0 hK in
theorem zlC:∀(N:Nat) (ws:List Tr) (fs:List Nat),j9 ws<=N->N+fs.length<=1000->(∀t∈ws,rW K t) ->
 ∃fs':List Nat,fs'.Perm (fs++lg o d (ws.flatMap Tr.leaves))/\fs'.length<=fs.length+N/\∀(S:So) (x0 p:Option D),∃p',lC Gk tQ [x0,some (.tup [pD o,pD d]),some (.ref S.length),some (.ref (S.length+1)),p] (S++[.lst (fs.map bB)]++[.lst (ws.map bD)]) =
  some (.nx,[x0,some (.tup [pD o,pD d]),some (.ref S.length),some (.ref (S.length+1)),p'],S++[.lst (fs'.map bB)]++[.lst []]):=by
 intro N
 induction N with
 |zero =>
  intro ws fs h1 h2 h3;have hw:ws=[]:=by have:=Um ws;exact List.eq_nil_of_length_eq_zero (by omega)
  subst hw;refine⟨fs,by simp[lg],by omega,λS x0 p=>⟨p,?_⟩⟩;have l2:(S++[O.lst (fs.map bB)]++[O.lst []])[S.length+1]?=some (.lst []):=by rw[show S.length+1=(S++[O.lst (fs.map bB)]).length by simp];exact cJ
  exact Jb (fY (bC (aZ (aK (aF rfl) aY) (qR l2)) bF rfl))
 |succ N ih =>
  intro ws fs h1 h2 h3;rcases List.eq_nil_or_concat ws with rfl|⟨ws',t,rfl⟩
  .refine⟨fs,by simp[lg],by omega,λS x0 p=>⟨p,?_⟩⟩;have l2:(S++[O.lst (fs.map bB)]++[O.lst []])[S.length+1]?=some (.lst []):=by rw[show S.length+1=(S++[O.lst (fs.map bB)]).length by simp];exact cJ
   exact Jb (fY (bC (aZ (aK (aF rfl) aY) (qR l2)) bF rfl))
  .rw[List.concat_eq_append] at *
   have hsz:=T6 ws' [t];have hpt:=R0 t;have ht:j9 [t]=t.size:=by simp[j9]
   have hto:=h3 t (by simp);have htl:aN K t.lo/\aN K t.hi:=by
    cases t with
    |lf lo hi i=>exact hto
    |nd lo hi l r=>exact hto.1
   have fb:∀fx:EF,∀(σ:Sg) (S:So),fx σ S=some (bD t,S)->gH "Tree" "box" fx σ S=some (.tup [pD t.lo,pD t.hi],S):=λfx σ S h=>by cases t<;>exact qQ h rfl rfl
   have turn:∀(S:So) (x0 p:Option D) (r:Fl×Sg×So) (fl:Fl) (σ2:Sg) (S2:So),tQ [x0,some (.tup [pD o,pD d]),some (.ref S.length),some (.ref (S.length+1)),p] (S++[.lst (fs.map bB)]++[.lst ((ws'++[t]).map bD)])=some (fl,σ2,S2)->(fl = .nx\/fl = .ct)->lC Gk tQ σ2 S2=some r ->
    lC Gk tQ [x0,some (.tup [pD o,pD d]),some (.ref S.length),some (.ref (S.length+1)),p] (S++[.lst (fs.map bB)]++[.lst ((ws'++[t]).map bD)])=some r:=λS x0 p r fl σ2 S2 e hf hr=>by
    have l2:(S++[O.lst (fs.map bB)]++[O.lst ((ws'++[t]).map bD)])[S.length+1]?=some (.lst ((ws'++[t]).map bD)):=by rw[show S.length+1=(S++[O.lst (fs.map bB)]).length by simp];exact cJ
    refine RX (σ1:=[]) ?_ e hf hr;have:=fY (bC (aZ (aK (aF (σ:=[x0,some (.tup [pD o,pD d]),some (.ref S.length),some (.ref (S.length+1)),p]) (i:=3) rfl) aY) (qR l2)) (bF (d := .int 0)) Hs);rw[show Gk=bG (eB (aW .Gt) (eN ji (ak (aj 3) aA)) (eC (.int 0))) from rfl,this,jw];simp
   have st1:∀(S:So) (x0 p:Option D),Ma [x0,some (.tup [pD o,pD d]),some (.ref S.length),some (.ref (S.length+1)),p] (S++[.lst (fs.map bB)]++[.lst ((ws'++[t]).map bD)])=some (.nx,[x0,some (.tup [pD o,pD d]),some (.ref S.length),some (.ref (S.length+1)),some (bD t)],S++[.lst (fs.map bB)]++[.lst (ws'.map bD)]):=λS x0 p=>by
    have l2:(S++[O.lst (fs.map bB)]++[O.lst ((ws'++[t]).map bD)])[S.length+1]?=some (.lst ((ws'++[t]).map bD)):=by rw[show S.length+1=(S++[O.lst (fs.map bB)]).length by simp];exact cJ
    unfold Ma;refine cN (x:=bD t) (S1:=S++[.lst (fs.map bB)]++[.lst (ws'.map bD)]) ?_ (dw rfl);unfold Cw;rw[aF (d := .ref (S.length+1)) rfl];simp only[cg];rw[l2];simp only;exact zma (by rw[l2,uN];rfl) (Qz rfl)
   have sp:=λS=>Vc (lo:=t.lo) (hi:=t.hi) ho hd htl.1 htl.2 h0 hK S;have st2:∀(S:So) (x0:Option D) (b:Bool),oF (Dq (gM o d t.lo t.hi))=b->bG (eB (aW .Is) (eN (aR 2 vm) (ak (aj 1) (ak (gH "Tree" "box" (aj 4)) aA))) (eC .non)) [x0,some (.tup [pD o,pD d]),some (.ref S.length),some (.ref (S.length+1)),some (bD t)] (S++[.lst (fs.map bB)]++[.lst (ws'.map bD)])=some (b,S++[.lst (fs.map bB)]++[.lst (ws'.map bD)]):=λS x0 b hb=>by rw[<-hb];exact fY (bC (aZ (aK (aF rfl) (aK (fb _ _ _ (aF rfl)) aY)) (cM rfl (sp _))) bF pZ)
   cases hsp:oF (Dq (gM o d t.lo t.hi)) with
   |true =>
    obtain⟨fs',p1,p2,p3⟩:=ih ws' fs (by omega) (by omega) (λt' h=>h3 t' (by simp[h]));refine⟨fs',?_,by omega,λS x0 p=>?_⟩
    .have hn:gM o d t.lo t.hi=none:=by have:=RQ hsp;cases q:gM o d t.lo t.hi with|none=>rfl|some _=>rw[q] at this;cases this
     rw[List.flatMap_append,RZ,List.flatMap_singleton,zlX h0 hto hn,List.append_nil];exact p1
    .obtain⟨p',e⟩:=p3 S x0 (some (bD t));refine⟨p',turn S x0 p _ .ct _ _ ?_ (.inr rfl) e⟩;unfold tQ;refine aL (st1 S x0 p) (aV (aL (fl := .ct) ?_ Jc));unfold yH;exact dF (st2 S x0 true hsp) (d9 rfl (aL Q5 Jc))
   |false =>
    cases t with
    |lf lo hi i =>
     obtain⟨fs',p1,p2,p3⟩:=ih ws' (fs++[i]) (by omega) (by simp;omega) (λt' h=>h3 t' (by simp[h]));refine⟨fs',?_,by simp at p2;omega,λS x0 p=>?_⟩
     .have hs:lg o d (Tr.leaves (.lf lo hi i))=[i]:=by have:Dp o d (lo,hi,i)=true:=RQ hsp;unfold lg Tr.leaves;rw[List.filter_cons_of_pos this];rfl
      rw[List.flatMap_append,RZ,List.flatMap_singleton,hs];rw[fW] at p1;exact p1.trans (List.Perm.append_left _ List.perm_append_comm)
     .obtain⟨p',e⟩:=p3 S x0 (some (bD (.lf lo hi i)));refine⟨p',turn S x0 p _ .nx _ _ ?_ (.inl rfl) e⟩;unfold tQ;have s2:yH [x0,some (.tup [pD o,pD d]),some (.ref S.length),some (.ref (S.length+1)),some (bD (.lf lo hi i))] (S++[.lst (fs.map bB)]++[.lst (ws'.map bD)])=some (.nx,[x0,some (.tup [pD o,pD d]),some (.ref S.length),some (.ref (S.length+1)),some (bD (.lf lo hi i))],S++[.lst (fs.map bB)]++[.lst (ws'.map bD)]):=by unfold yH;exact dF (st2 S x0 false hsp) (dI rfl eX)
      have s3:Ab [x0,some (.tup [pD o,pD d]),some (.ref S.length),some (.ref (S.length+1)),some (bD (.lf lo hi i))] (S++[.lst (fs.map bB)]++[.lst (ws'.map bD)])=some (.nx,[x0,some (.tup [pD o,pD d]),some (.ref S.length),some (.ref (S.length+1)),some (bD (.lf lo hi i))],S++[.lst ((fs++[i]).map bB)]++[.lst (ws'.map bD)]):=by unfold Ab;have l1:(S++[O.lst (fs.map bB)]++[O.lst (ws'.map bD)])[S.length]?=some (.lst (fs.map bB)):=fK cJ;rw[uN];exact dF (b:=false) (fY (bC (qQ (d:=bB i) (aF rfl) rfl rfl) bF pZ)) (dI rfl (aL (tK (DG (aF rfl) l1 (aK (qQ (d:=bB i) (aF rfl) rfl rfl) aY) (Tv l1 (by rw[dJ,sizeLine_eq];omega) (Jd rfl)))) (aV eX)))
      exact aL (st1 S x0 p) (aV (aL s2 (aV (aL s3 (aV eX)))))
    |nd lo hi l r =>
     have hsl:j9 (ws'++[l,r])<=N:=by
      have e1:=T6 ws' [l,r];have e2:j9 [l,r]=l.size+r.size:=by simp[j9]
      have e3:(Tr.nd lo hi l r).size=1+l.size+r.size:=rfl;omega
     obtain⟨fs',p1,p2,p3⟩:=ih (ws'++[l,r]) fs hsl (by omega) (λt' h=>by
      rcases lZ.mp h with h|h
      .exact h3 t' (by simp[h])
      .rcases List.mem_cons.mp h with rfl|h
       .exact hto.2.1
       .rw[List.mem_singleton.mp h];exact hto.2.2.1)
     refine⟨fs',?_,by omega,λS x0 p=>?_⟩
     .have hl:(ws'++[l,r]).flatMap Tr.leaves=(ws'++[Tr.nd lo hi l r]).flatMap Tr.leaves:=by simp[Tr.leaves]
      rw[<-hl];exact p1
     .obtain⟨p',e⟩:=p3 S x0 (some (bD (.nd lo hi l r)));refine⟨p',turn S x0 p _ .nx _ _ ?_ (.inl rfl) e⟩;unfold tQ;have s2:yH [x0,some (.tup [pD o,pD d]),some (.ref S.length),some (.ref (S.length+1)),some (bD (.nd lo hi l r))] (S++[.lst (fs.map bB)]++[.lst (ws'.map bD)])=some (.nx,[x0,some (.tup [pD o,pD d]),some (.ref S.length),some (.ref (S.length+1)),some (bD (.nd lo hi l r))],S++[.lst (fs.map bB)]++[.lst (ws'.map bD)]):=by unfold yH;exact dF (st2 S x0 false hsp) (dI rfl eX)
      have s3:Ab [x0,some (.tup [pD o,pD d]),some (.ref S.length),some (.ref (S.length+1)),some (bD (.nd lo hi l r))] (S++[.lst (fs.map bB)]++[.lst (ws'.map bD)])=some (.nx,[x0,some (.tup [pD o,pD d]),some (.ref S.length),some (.ref (S.length+1)),some (bD (.nd lo hi l r))],S++[.lst (fs.map bB)]++[.lst ((ws'++[l,r]).map bD)]):=by
       unfold Ab;have l2:(S++[O.lst (fs.map bB)]++[O.lst (ws'.map bD)])[S.length+1]?=some (.lst (ws'.map bD)):=by rw[show S.length+1=(S++[O.lst (fs.map bB)]).length by simp];exact cJ
       have hx:xJ (.ref (S.length+1)) [.tup [bD l,bD r]] (S++[.lst (fs.map bB)]++[.lst (ws'.map bD)])=some (.non,S++[.lst (fs.map bB)]++[.lst ((ws'++[l,r]).map bD)]):=by have hlw:=Um ws';unfold xJ;simp only;rw[l2];simp only;rw[if_pos (by rw[dJ,sizeLine_eq];simp;omega),Qz rfl,uN];rfl
       exact dF (b:=true) (fY (bC (qQ (d := .non) (aF rfl) rfl rfl) bF pZ)) (d9 rfl (aL (tK (DG (aF rfl) l2 (aK (qQ (d := .tup [bD l,bD r]) (aF rfl) rfl rfl) aY) hx)) (aV eX)))
      exact aL (st1 S x0 p) (aV (aL s2 (aV (aL s3 (aV eX)))))
end
def KZ:∀t:Tr,t.size+1=2*t.leaves.length
 |.lf _ _ _=>rfl
 |.nd _ _ l r=>by have h1:=KZ l;have h2:=KZ r;simp only[Tr.size,Tr.leaves,lH];omega
theorem Ir(n:Nat)(fs:List Nat):O.lo n (.lst (fs.map bB))=true:=by show cV n _=true;rw[lz];intro x hx;obtain⟨i,_,rfl⟩:=List.mem_map.mp hx;simp[bB,D.lo]
section
variable {K:Nat}{o d:Pt}(ho:aN K o)(hd:aN K d)(h0:d≠(0,0,0))
include ho hd h0 in
theorem zlR(hK:K<=10000){t:Option Tr}(ht:∀t',t=some t'->rW K t'/\t'.leaves.length<=40):
 ∃fs:List Nat,fs.Perm (lg o d (yK t))/\fs.length<=100/\∀S,WF S->FZ [gk t,cX o d] S=some (.ref S.length,S++[.lst (fs.map bB)]++[.lst []]):=by
 have hsz:j9 t.toList<=100:=by
  cases t with
  |none=>simp[j9]
  |some t' =>
   have h1:=KZ t';have h2:=(ht t' rfl).2;simp[j9];omega
 obtain⟨fs,p1,p2,p3⟩:=zlC ho hd h0 hK 100 t.toList [] hsz (by simp) (λt' h=>by
  cases t with
  |none=>simp at h
  |some t2 =>
   have:t'=t2:=by simpa using h
   subst this;exact(ht t' rfl).1)
 refine⟨fs,?_,by simpa using p2,λS hS=>?_⟩
 .have e:(t.toList.flatMap Tr.leaves)=yK t:=by cases t<;>simp[yK]
  rw[uD,e] at p1;exact p1
 .obtain⟨p',e⟩:=p3 S (some (gk t)) none;have a1:Mp [some (gk t),some (cX o d),none,none,none] S=some (.nx,[some (gk t),some (cX o d),some (.ref S.length),none,none],S++[.lst []]):=by unfold Mp;exact cN (aZ aY (vd (Nat.zero_le _))) (dw rfl)
  have a2:Mq [some (gk t),some (cX o d),some (.ref S.length),none,none] (S++[.lst []])=some (.nx,[some (gk t),some (cX o d),some (.ref S.length),some (.ref (S.length+1)),none],S++[.lst []]++[.lst (t.toList.map bD)]):=by
   unfold Mq;have hlen:(S++[O.lst []]).length=S.length+1:=by simp
   rw[<-hlen];cases t with
   |none=>exact cN (zu (b:=true) (fY (bC (aF rfl) bF pZ)) (d9 rfl (aZ aY (vd (Nat.zero_le _))))) (dw rfl)
   |some t' =>
    have hn:oF (gk (some t'))=false:=by cases t'<;>rfl
    refine cN (zu (b:=false) (fY ?_) (dI rfl (aZ (aK (aF rfl) aY) (vd (by show 1<=sizeLine;decide))))) (dw rfl);rw[<-hn];exact bC (aF rfl) bF pZ
  have a3:V5 [some (gk t),some (cX o d),some (.ref S.length),some (.ref (S.length+1)),none] (S++[.lst []]++[.lst (t.toList.map bD)])=some (.nx,[some (gk t),some (cX o d),some (.ref S.length),some (.ref (S.length+1)),p'],S++[.lst (fs.map bB)]++[.lst []]):=e;have a4:Mr [some (gk t),some (cX o d),some (.ref S.length),some (.ref (S.length+1)),p'] (S++[.lst (fs.map bB)]++[.lst []])=some (.rt (.ref S.length),[some (gk t),some (cX o d),some (.ref S.length),some (.ref (S.length+1)),p'],S++[.lst (fs.map bB)]++[.lst []]):=by unfold Mr;exact eG (aF rfl)
  refine zF (σ':=[some (gk t),some (cX o d),some (.ref S.length),some (.ref (S.length+1)),p']) ?_ ?_ (by simp) (by simp[D.lo]) ((hS.snoc (Ir _ _)).snoc rfl)
  .wtm_at "?b"
   unfold VD;exact aL a1 (aV (aL a2 (aV (aL a3 (aV (aL a4 cL))))))
  .intro h;simp[D.lo] at h
structure jc(S:So)(c:Nat)(shs:List Sh)(t:Option Tr):Prop where
 ins:S[c]?=some (.ins "Scene" [("kept",.ref (c+1)),("tree",gk t)])
 kept:S[c+1]?=some (.lst (shs.map cR))
structure uF(K:Nat)(shs:List Sh)(t:Option Tr):Prop where
 sh:∀s∈shs,kW K s
 tree:∀t',t=some t'->rW K t'/\t'.leaves.length<=40
 lf:∃g:Sh->Pt×Pt,(∀s∈shs,lW s.pts (g s).1 (g s).2)/\(yK t).Perm (gU (shs.map g))
theorem jc.app{c:Nat}{t:Option Tr}(h:jc S c shs t)(G:So):jc (S++G) c shs t:=by
 have g:∀{n:Nat} {o:O},S[n]?=some o->(S++G)[n]?=some o:=λ{n o} e=>by rw[mZ (fu.mp e).1];exact e
 exact⟨g h.ins,g h.kept⟩
noncomputable abbrev fL:=(Int×Int)×Nat
noncomputable def cH(h:fL):D := .tup [rD h.1,bB h.2]
noncomputable def eV(o d:Pt)(shs:List Sh)(i:Nat):Option fL:=(shs[i]?).bind λs=>(gP o d s).map λp=>(p,i)
noncomputable def oA(o d:Pt)(shs:List Sh):List fL:=(List.range shs.length).filterMap (eV o d shs)
theorem zkG(bs:List (Pt×Pt)):(gU bs).map (·.2.2)=List.range bs.length:=by
 apply List.ext_getElem?;intro i;by_cases h:i<bs.length
 .rw[jg,Ff h,List.getElem?_range h];rfl
 .rw[jN (by rw[dJ,mO];omega),jN (by rw[List.length_range];omega)]
theorem Rv{α β:Type}{p:α->Bool}{f:α->Nat}{h:Nat->Option β}:∀l:List α,(∀q∈l,p q=false->h (f q)=none)->((l.filter p).map f).filterMap h=(l.map f).filterMap h
 |[],_=>rfl
 |q::r,k=>by
  have ih:=Rv r λx hx=>k x (cQ _ hx);cases e:p q with
  |true=>rw[List.filter_cons_of_pos e,jq,jq,List.filterMap_cons,List.filterMap_cons,ih]
  |false=>rw[List.filter_cons_of_neg (by simp[e]),jq,List.filterMap_cons,k q (fG ..) e,ih]
include h0 in
theorem zlY{g:Sh->Pt×Pt}(hg:∀s∈shs,lW s.pts (g s).1 (g s).2):(lg o d (gU (shs.map g))).filterMap (eV o d shs)=oA o d shs:=by
 unfold lg oA;rw[Rv,zkG,dJ];intro q hq e;obtain⟨i,hi,rfl⟩:=List.getElem_of_mem hq;have hi':i<(shs.map g).length:=by rw[<-mO];exact hi
 have hi2:i<shs.length:=by simpa using hi'
 have e2:=Ff hi';rw[gG hi] at e2;have e3:=Option.some.inj e2;rw[e3] at e ⊢;simp only[List.getElem_map] at e;unfold eV;rw[gG hi2];have:gP o d shs[i]=none:=Classical.byContradiction λc=>by
  have:=znX h0 (hg _ (List.getElem_mem hi2)) c;unfold Dp at e;simp only at e;cases q:gM o d (g shs[i]).1 (g shs[i]).2 with
  |none=>exact this q
  |some _=>rw[q] at e;cases e
 show(gP o d shs[i]).map _=none;rw[this];rfl
theorem Ro(n:Nat)(hs:List fL):O.lo n (.lst (hs.map cH))=true:=by show cV n _=true;rw[lz];intro x hx;obtain⟨i,_,rfl⟩:=List.mem_map.mp hx;simp[cH,bB,D.lo,cV]
include ho hd h0 in
theorem znQ(hK:K<=1500){t:Option Tr}(ok:uF K shs t):
 ∃fs:List Nat,(fs.filterMap (eV o d shs)).Perm (oA o d shs)/\fs.length<=100/\∀S c,WF S->jc S c shs t->Gb [.ref c,cX o d] S=some (.ref S.length,S++[.lst ((fs.filterMap (eV o d shs)).map cH)]++[.lst (fs.map bB)]++[.lst []]):=by
 obtain⟨fs,p1,p2,p3⟩:=zlR ho hd h0 (by omega) ok.tree;obtain⟨g,hg,hlf⟩:=ok.lf;have p4:fs.Perm (lg o d (gU (shs.map g))):=p1.trans ((hlf.filter _).map _);have hfs:∀i∈fs,i<shs.length:=λi hi=>by obtain⟨q,hq,rfl⟩:=List.mem_map.mp (p4.mem_iff.mp hi);have:=(Uo (List.mem_filter.mp hq).1).1;simpa using this
 refine⟨fs,by rw[<-zlY h0 hg];exact p4.filterMap _,p2,λS c hS sc=>?_⟩;have hrs:=V4 (o:=o) h0 S;have a1:K7 [some (.ref c),some (cX o d),none,none,none] S=some (.nx,[some (.ref c),some (cX o d),none,none,none],S):=by unfold K7;exact tK (aZ (aK (aF rfl) aY) (cM rfl hrs))
 have a2:K8 [some (.ref c),some (cX o d),none,none,none] S=some (.nx,[some (.ref c),some (cX o d),some (.ref S.length),none,none],S++[.lst []]):=by unfold K8;exact cN (aZ aY (vd (Nat.zero_le _))) (dw rfl)
 have W1:WF (S++[.lst []]):=hS.snoc rfl;have sc1:=sc.app [.lst []];have it:eF (eN (aR 2 FZ) (ak (gH "Scene" "tree" (aj 0)) (ak (aj 1) aA))) [some (.ref c),some (cX o d),some (.ref S.length),none,none] (S++[.lst []])=some (.lst (S.length+1),S++[.lst []]++[.lst (fs.map bB)]++[.lst []]):=by
  have hlen:(S++[O.lst []]).length=S.length+1:=by simp
  rw[<-hlen];exact nJ (aZ (aK (Jl (aF rfl) sc1.ins rfl) (aK (aF rfl) aY)) (cM rfl (p3 _ W1))) (fK cJ)
 have inv:=Es (nx:=di (.lst (S.length+1))) (g:=aM 3) (f:=yE) (xs:=fs.map bB)
  (λi σ S'=>∃a b,σ=[some (.ref c),some (cX o d),some (.ref S.length),a,b]/\S'=S++[.lst (((fs.take i).filterMap (eV o d shs)).map cH)]++[.lst (fs.map bB)]++[.lst []])
  (λi σ S' ⟨a,b,_,e⟩=>by
   subst e;have l:(S++[O.lst (((fs.take i).filterMap (eV o d shs)).map cH)]++[O.lst (fs.map bB)]++[O.lst []])[S.length+1]?=some (.lst (fs.map bB)):=by rw[show S.length+1=(S++[O.lst (((fs.take i).filterMap (eV o d shs)).map cH)]).length by simp];exact fK cJ
   unfold di;simp only;rw[l])
  (λi dd σ S' hi ⟨a,b,e1,e2⟩=>?_) fs.length 0 [some (.ref c),some (cX o d),some (.ref S.length),none,none] (S++[.lst []]++[.lst (fs.map bB)]++[.lst []]) ⟨none,none,rfl,rfl⟩ (by simp)
 .obtain⟨σ',S',e,a,b,rfl,rfl⟩:=inv;rw[dJ,lY] at e;have a3:K9 [some (.ref c),some (cX o d),some (.ref S.length),none,none] (S++[.lst []])=some (.nx,[some (.ref c),some (cX o d),some (.ref S.length),a,b],S++[.lst ((fs.filterMap (eV o d shs)).map cH)]++[.lst (fs.map bB)]++[.lst []]):=by
   unfold K9;refine jT it (n:=fs.length) ?_ e;have l:(S++[O.lst []]++[O.lst (fs.map bB)]++[O.lst []])[S.length+1]?=some (.lst (fs.map bB)):=by rw[show S.length+1=(S++[O.lst []]).length by simp];exact fK cJ
   unfold sG;simp only;rw[l];simp
  have a4:La [some (.ref c),some (cX o d),some (.ref S.length),a,b] (S++[.lst ((fs.filterMap (eV o d shs)).map cH)]++[.lst (fs.map bB)]++[.lst []])=some (.rt (.ref S.length),[some (.ref c),some (cX o d),some (.ref S.length),a,b],S++[.lst ((fs.filterMap (eV o d shs)).map cH)]++[.lst (fs.map bB)]++[.lst []]):=by unfold La;exact eG (aF rfl)
  refine zF (σ':=[some (.ref c),some (cX o d),some (.ref S.length),a,b]) ?_ ?_ (by simp) (by simp[D.lo]) (((hS.snoc (Ro _ _)).snoc (Ir _ _)).snoc rfl)
  .wtm_at "?b"
   unfold Lz;exact aL a1 (aV (aL a2 (aV (aL a3 (aV (aL a4 cL))))))
  .intro h;simp[D.lo] at h
 .subst e1 e2;have hi':i<fs.length:=by have:=(fu.mp hi).1;simpa using this
  have hd':dd=bB fs[i]:=by rw[jg,gG hi'] at hi;exact(Option.some.inj hi).symm
  subst hd';have hj:=hfs fs[i] (List.getElem_mem hi');have hWS:WF (S++[.lst (((fs.take i).filterMap (eV o d shs)).map cH)]++[.lst (fs.map bB)]++[.lst []]):=((hS.snoc (Ro _ _)).snoc (Ir _ _)).snoc rfl;have Wu:jc (S++[.lst (((fs.take i).filterMap (eV o d shs)).map cH)]++[.lst (fs.map bB)]++[.lst []]) c shs t:=by rw[fW,fW];exact sc.app _
  have tm:=T8 ho hd (ok.sh _ (List.getElem_mem hj)) h0 hK _ hWS;have hix:eH (shs.map cR) ((fs[i]:Nat):Int)=some (cR shs[fs[i]]):=QK (by simp[hj]);have b1:Ms [some (.ref c),some (cX o d),some (.ref S.length),some (bB fs[i]),b] (S++[.lst (((fs.take i).filterMap (eV o d shs)).map cH)]++[.lst (fs.map bB)]++[.lst []])=some (.nx,[some (.ref c),some (cX o d),some (.ref S.length),some (bB fs[i]),some (tD (gP o d shs[fs[i]]))],S++[.lst (((fs.take i).filterMap (eV o d shs)).map cH)]++[.lst (fs.map bB)]++[.lst []]):=by unfold Ms;exact cN (aZ (aK (aF rfl) (aK (bC (Jl (aF rfl) Wu.ins rfl) (aF rfl) (zx Wu.kept hix)) aY)) (cM rfl tm)) (dw rfl)
  have tk:fs.take (i+1)=fs.take i++[fs[i]]:=by rw[List.take_add_one,gG hi'];rfl
  have hat:eV o d shs fs[i]=(gP o d shs[fs[i]]).map λp=>(p,fs[i]):=by unfold eV;rw[gG hj];rfl
  cases ht:gP o d shs[fs[i]] with
  |none =>
   rw[ht] at b1 hat
   have b2:Aa [some (.ref c),some (cX o d),some (.ref S.length),some (bB fs[i]),some (tD none)] (S++[.lst (((fs.take i).filterMap (eV o d shs)).map cH)]++[.lst (fs.map bB)]++[.lst []])=some (.nx,[some (.ref c),some (cX o d),some (.ref S.length),some (bB fs[i]),some (tD none)],S++[.lst (((fs.take i).filterMap (eV o d shs)).map cH)]++[.lst (fs.map bB)]++[.lst []]):=by unfold Aa;exact dF (b:=false) (fY (bC (aF rfl) bF zT)) (dI rfl eX)
   have b3:yE [some (.ref c),some (cX o d),some (.ref S.length),some (bB fs[i]),b] (S++[.lst (((fs.take i).filterMap (eV o d shs)).map cH)]++[.lst (fs.map bB)]++[.lst []])=some (.nx,[some (.ref c),some (cX o d),some (.ref S.length),some (bB fs[i]),some (tD none)],S++[.lst (((fs.take i).filterMap (eV o d shs)).map cH)]++[.lst (fs.map bB)]++[.lst []]):=by unfold yE;exact aL b1 (aV (aL b2 (aV eX)))
   refine⟨_,_,.nx,_,_,dw rfl,b3,.inl rfl,some (bB fs[i]),some (tD none),rfl,?_⟩
   .rw[tk,List.filterMap_append];simp[hat]
  |some p =>
   rw[ht] at b1 hat
   have b2:Aa [some (.ref c),some (cX o d),some (.ref S.length),some (bB fs[i]),some (tD (some p))] (S++[.lst (((fs.take i).filterMap (eV o d shs)).map cH)]++[.lst (fs.map bB)]++[.lst []])=some (.nx,[some (.ref c),some (cX o d),some (.ref S.length),some (bB fs[i]),some (tD (some p))],S++[.lst (((fs.take i).filterMap (eV o d shs)).map cH++[cH (p,fs[i])])]++[.lst (fs.map bB)]++[.lst []]):=by
    unfold Aa;have l1:(S++[O.lst (((fs.take i).filterMap (eV o d shs)).map cH)]++[O.lst (fs.map bB)]++[O.lst []])[S.length]?=some (.lst (((fs.take i).filterMap (eV o d shs)).map cH)):=fK (fK cJ);refine dF (b:=true) (fY (bC (aF rfl) bF zT)) (d9 rfl (aL (tK (DG (aF rfl) l1 (aK (aZ (aK (aF rfl) (aK (aF rfl) aY)) (lN (by show 2<=sizeLine;decide))) aY) (Tv l1 ?_ ?_))) (aV eX)))
    .rw[dJ,sizeLine_eq];have:=List.length_filterMap_le (eV o d shs) (fs.take i);have h2:(fs.take i).length<=100:=by simp;omega
     omega
    .rw[List.set_append_left _ _ (by simp),List.set_append_left _ _ (by simp)];simp[cH,tD]
   have b3:yE [some (.ref c),some (cX o d),some (.ref S.length),some (bB fs[i]),b] (S++[.lst (((fs.take i).filterMap (eV o d shs)).map cH)]++[.lst (fs.map bB)]++[.lst []])=some (.nx,[some (.ref c),some (cX o d),some (.ref S.length),some (bB fs[i]),some (tD (some p))],S++[.lst (((fs.take i).filterMap (eV o d shs)).map cH++[cH (p,fs[i])])]++[.lst (fs.map bB)]++[.lst []]):=by unfold yE;exact aL b1 (aV (aL b2 (aV eX)))
   refine⟨_,_,.nx,_,_,dw rfl,b3,.inl rfl,some (bB fs[i]),some (tD (some p)),rfl,?_⟩
   .rw[tk,List.filterMap_append];simp[hat]
end
open Classical in
noncomputable def mD(h b:fL):Bool:=decide (h.1.1*b.1.2<b.1.1*h.1.2)||(decide (rD h.1=rD b.1)&&decide ((h.2:Int)<(b.2:Int)))
structure Gy(k:Nat)(h:fL):Prop where
 a:Bd k h.1.1
 b:Bd k h.1.2
open Classical in
theorem zjZ{h b:fL}(h1:Gy k h)(h2:Gy k b)(hk:k+k<=134217728)(S:So):Fv [cH h,cH b] S=some (.bl (mD h b),S):=by
 have hl:=sp_is_less h1.a h1.b h2.a h2.b hk S;have t:ju (eN (aR 2 p8) (ak (eB aJ (aj 0) (eC (.int 0))) (ak (eB aJ (aj 1) (eC (.int 0))) aA))) [some (cH h),some (cH b)] S=some (decide (h.1.1*b.1.2<b.1.1*h.1.2),S) :=
  Em (aZ (aK (bC (aF rfl) bF (gb (z:=rD h.1) rfl)) (aK (bC (aF rfl) bF (gb (z:=rD b.1) rfl)) aY)) (cM rfl hl)) rfl
 apply bK (S':=S) (σ':=[some (cH h),some (cH b)])
 .wtm_at "?b"
  unfold Us;cases hb:decide (h.1.1*b.1.2<b.1.1*h.1.2) with
  |true =>
   rw[hb] at t;have:mD h b=true:=by unfold mD;rw[hb];rfl
   rw[this];exact aL (dF t (d9 rfl (aL (eG bF) cL))) cL
  |false =>
   rw[hb] at t;have e:mD h b=(decide (rD h.1=rD b.1)&&decide ((h.2:Int)<(b.2:Int))):=by unfold mD;rw[hb];rfl
   rw[e];have q:eB (aW .Eq) (eB aJ (aj 0) (eC (.int 0))) (eB aJ (aj 1) (eC (.int 0))) [some (cH h),some (cH b)] S=some (.bl (decide (rD h.1=rD b.1)),S) :=
    bC (bC (aF rfl) bF (gb (z:=rD h.1) rfl)) (bC (aF rfl) bF (gb (z:=rD b.1) rfl)) (u9 rfl 1 rfl rfl (by decide))
   have l:eB (aW .Lt) (eB aJ (aj 0) (eC (.int 1))) (eB aJ (aj 1) (eC (.int 1))) [some (cH h),some (cH b)] S=some (.bl (decide ((h.2:Int)<(b.2:Int))),S) :=
    bC (bC (aF rfl) bF (gb (z:=bB h.2) rfl)) (bC (aF rfl) bF (gb (z:=bB b.2) rfl)) Ht
   refine aL (dF t (dI rfl eX)) (aV (aL (eG (xU q ?_)) cL));cases hd:decide (rD h.1=rD b.1) with
   |true=>exact d9 rfl (by rw[l];rfl)
   |false=>exact dI rfl rfl
 .exact lY
 .rfl
noncomputable def lK:Option fL->D
 |none => .non
 |some h=>cH h
noncomputable def f9(best:Option fL)(h:fL):Option fL:=match best with
 |none=>some h
 |some b=>if mD h b=true then some h else some b
theorem xT:∀(hs:List fL) (b:Option fL) (h:fL),hs.foldl f9 b=some h->h∈hs\/b=some h
 |[],b,h,e => .inr e
 |x::r,b,h,e=>by
  rcases xT r (f9 b x) h e with q|q
  .exact .inl (cQ _ q)
  .cases b with
   |none=>simp only[f9,Option.some.injEq] at q;subst q;exact .inl (fG ..)
   |some y =>
    simp only[f9] at q;split at q
    .cases q;exact .inl (fG ..)
    .exact .inr q
def kO(h:fL):Prop:=0<h.1.2/\dD h.1.1 h.1.2=h.1
theorem zQ{h b:fL}:mD h b=true↔fX h.1 b.1\/(h.1=b.1/\h.2<b.2):=by
 have e:rD h.1=rD b.1↔h.1=b.1:=⟨λq=>by
  obtain⟨⟨x,y⟩,i⟩:=h;obtain⟨⟨z,w⟩,j⟩:=b;simp[rD] at q;simp[q.1,q.2],λq=>by rw[q]⟩
 unfold mD fX;simp only[nZ,dj,lX];exact or_congr Iff.rfl (and_congr e Int.ofNat_lt)
def Rg{a b:fL}(ha:kO a)(hb:kO b)(h1:leQ a.1 b.1)(h2:leQ b.1 a.1):a.1=b.1:=by rw[<-ha.2,<-hb.2];exact zje ha.1 hb.1 h1 h2
def kJ(x y:fL):Prop:=¬mD y x=true
theorem Qt{x y z:fL}(gx:kO x)(gy:kO y)(gz:kO z)(h1:kJ x y)(h2:kJ y z):kJ x z:=by
 unfold kJ at *
 rw[zQ] at *
 have q1:leQ x.1 y.1:=qP λc=>h1 (.inl c);have q2:leQ y.1 z.1:=qP λc=>h2 (.inl c)
 rintro(c|⟨c1,c2⟩)
 .exact RT (yq gx.1 gy.1 gz.1 q1 q2) c
 .rw[c1] at q2;have e:=Rg gx gy q1 q2;have k1:¬y.2<x.2:=λc=>h1 (.inr ⟨e.symm,c⟩);have k2:¬z.2<y.2:=λc=>h2 (.inr ⟨c1.trans e,c⟩);omega
theorem zmu{x y:fL}(gx:kO x)(gy:kO y)(h1:kJ x y)(h2:kJ y x):x=y:=by
 unfold kJ at *
 rw[zQ] at *
 have e:=Rg gx gy (qP λc=>h1 (.inl c)) (qP λc=>h2 (.inl c));have k1:¬y.2<x.2:=λc=>h1 (.inr ⟨e.symm,c⟩);have k2:¬x.2<y.2:=λc=>h2 (.inr ⟨e,c⟩);exact Prod.ext e (by omega)
theorem zoQ{x y:fL}(h:mD y x=true):kJ y x:=by
 unfold kJ;rw[zQ] at *
 unfold fX at *
 rcases h with h|⟨h1,h2⟩
 .rintro(c|⟨c,_⟩)
  .omega
  .rw[c] at h;omega
 .rintro(c|⟨_,c⟩)
  .rw[h1] at c;omega
  .omega
def Ew(x:fL):kJ x x:=by unfold kJ;rw[zQ];unfold fX;omega
theorem zq:∀(hs:List fL) (b:Option fL),(∀x∈hs,kO x)->(∀y,b=some y->kO y) ->
 (hs.foldl f9 b=none->hs=[]/\b=none)/\∀h,hs.foldl f9 b=some h->(∀x∈hs,kJ h x)/\∀y,b=some y->kJ h y
 |[],b,_,_=>⟨λe=>⟨rfl,e⟩,λh e=>⟨λx hx=>(by cases hx),λy hy=>by
  have e':b=some h:=e;rw[e'] at hy;cases hy;exact Ew _⟩⟩
 |x::r,b,g1,g2=>by
  have gx:=g1 x (fG ..);have step:∃z,f9 b x=some z/\kO z/\kJ z x/\∀y,b=some y->kJ z y:=by
   cases b with
   |none=>exact⟨x,rfl,gx,Ew _,λy hy=>by cases hy⟩
   |some y =>
    have gy:=g2 y rfl;unfold f9;by_cases hs:mD x y=true
    .simp only[if_pos hs];exact⟨x,rfl,gx,Ew _,λz hz=>by cases hz;exact zoQ hs⟩
    .simp only[if_neg hs];exact⟨y,rfl,gy,hs,λz hz=>by cases hz;exact Ew _⟩
  obtain⟨z,ez,gz,z1,z2⟩:=step;obtain⟨k1,k2⟩:=zq r (some z) (λy hy=>g1 y (cQ _ hy)) (λy hy=>by cases hy;exact gz);rw[List.foldl_cons,ez];refine⟨λe=>absurd (k1 e).2 (by simp),λh e=>?_⟩;have gh:kO h:=by
   rcases xT r (some z) h e with q|q
   .exact g1 h (cQ _ q)
   .cases q;exact gz
  obtain⟨m1,m2⟩:=k2 h e;have hz:=m2 z rfl;refine⟨λy hy=>?_,λy hy=>Qt gh gz (g2 y hy) hz (z2 y hy)⟩;rcases List.mem_cons.mp hy with rfl|hy
  .exact Qt gh gz gx hz z1
  .exact m1 y hy
theorem zjw{l1 l2:List fL}(p:l1.Perm l2)(g:∀x∈l1,kO x):l1.foldl f9 none=l2.foldl f9 none:=by
 have g':∀x∈l2,kO x:=λx hx=>g x (p.mem_iff.mpr hx);obtain⟨a1,a2⟩:=zq l1 none g (λy hy=>by cases hy);obtain⟨b1,b2⟩:=zq l2 none g' (λy hy=>by cases hy);cases e1:l1.foldl f9 none with
 |none =>
  have:=(a1 e1).1;subst this;rw[List.nil_perm.mp p];rfl
 |some h =>
  have hm:h∈l1:=by
   rcases xT l1 none h e1 with q|q
   .exact q
   .cases q
  cases e2:l2.foldl f9 none with
  |none =>
   rw[(b1 e2).1] at p;rw[List.perm_nil.mp p] at hm;cases hm
  |some k =>
   have km:k∈l2:=by
    rcases xT l2 none k e2 with q|q
    .exact q
    .cases q
   rw[zmu (g h hm) (g' k km) ((a2 h e1).1 k (p.mem_iff.mpr km)) ((b2 k e2).1 h (p.mem_iff.mp hm))]
noncomputable def sU(o d:Pt)(shs:List Sh):Option fL:=(oA o d shs).foldl f9 none
section
variable {K:Nat}{o d:Pt}(ho:aN K o)(hd:aN K d)(h0:d≠(0,0,0))
theorem Jq{h:fL}:eV o d shs i=some h↔∃s p,shs[i]?=some s/\gP o d s=some p/\h=(p,i):=by
 unfold eV;simp only[bf,aX];constructor
 .rintro⟨s,e1,p,e2,rfl⟩;exact⟨s,p,e1,e2,rfl⟩
 .rintro⟨s,p,e1,e2,rfl⟩;exact⟨s,e1,p,e2,rfl⟩
include h0 in
def Jr{h:fL}(e:eV o d shs i=some h):kO h:=by obtain⟨s,p,e1,e2,rfl⟩:=Jq.mp e;exact⟨(QF h0 s p e2).2.1,zpG o d s p e2⟩
theorem Jt{h:fL}:h∈oA o d shs↔∃s p i,shs[i]?=some s/\gP o d s=some p/\h=(p,i):=by
 unfold oA;rw[List.mem_filterMap];constructor
 .rintro⟨i,_,e⟩
  obtain⟨s,p,q⟩:=Jq.mp e;exact⟨s,p,i,q⟩
 .rintro⟨s,p,i,q⟩
  exact⟨i,List.mem_range.mpr (fu.mp q.1).1,Jq.mpr ⟨s,p,q⟩⟩
include ho hd h0 in
theorem Zo{t:Option Tr}(ok:uF K shs t){h:fL}(e:eV o d shs i=some h):Gy (4*K+10) h/\h.2=i:=by unfold eV at e;simp only[bf,aX] at e;obtain⟨s,e1,p,e2,rfl⟩:=e;have b:=Qa ho hd (ok.sh s (List.mem_of_getElem? e1)) h0 p e2;exact⟨⟨b.2.2.1,b.2.2.2⟩,rfl⟩
include ho hd h0 in
theorem Vb(hK:K<=1500){t:Option Tr}(ok:uF K shs t):
 ∀S c,WF S->jc S c shs t->Ly [.ref c,cX o d] S=some (lK (sU o d shs),S):=by
 obtain⟨fs,p1,p2,p3⟩:=znQ ho hd h0 hK ok;have hb:∀h∈fs.filterMap (eV o d shs),Gy (4*K+10) h:=λh hh=>by obtain⟨i,hi,e⟩:=List.mem_filterMap.mp hh;exact(Zo ho hd h0 ok e).1
 have hf:(fs.filterMap (eV o d shs)).foldl f9 none=sU o d shs:=zjw p1 λh hh=>by obtain⟨i,hi,e⟩:=List.mem_filterMap.mp hh;exact Jr h0 e
 generalize hhs:fs.filterMap (eV o d shs)=hs at *
 have WQ:hs.length<=100:=by rw[<-hhs];exact Nat.le_trans (List.length_filterMap_le _ _) p2
 refine λS c hS sc=>?_;rw[<-hf]
 .have hh:=p3 S c hS sc;have a1:Mf [some (.ref c),some (cX o d),none,none] S=some (.nx,[some (.ref c),some (cX o d),some .non,none],S):=by unfold Mf;exact cN bF (dw rfl)
  have l1:(S++[O.lst (hs.map cH)]++[O.lst (fs.map bB)]++[O.lst []])[S.length]?=some (.lst (hs.map cH)):=fK (fK cJ);have it:eF (mq "Scene" "hits" 2 Gb (aj 0) (ak (aj 1) aA)) [some (.ref c),some (cX o d),some .non,none] S=some (.lst S.length,S++[.lst (hs.map cH)]++[.lst (fs.map bB)]++[.lst []]) :=
   nJ (zA (aF rfl) sc.ins rfl (aK (aF rfl) aY) rfl hh) l1
  have inv:=Es (nx:=di (.lst S.length)) (g:=aM 3) (f:=yG) (xs:=hs.map cH)
   (λi σ S'=>∃a,σ=[some (.ref c),some (cX o d),some (lK ((hs.take i).foldl f9 none)),a]/\S'=S++[.lst (hs.map cH)]++[.lst (fs.map bB)]++[.lst []])
   (λi σ S' ⟨a,_,e⟩=>by subst e;unfold di;simp only;rw[l1])
   (λi dd σ S' hi ⟨a,e1,e2⟩=>?_) hs.length 0 [some (.ref c),some (cX o d),some .non,none] (S++[.lst (hs.map cH)]++[.lst (fs.map bB)]++[.lst []]) ⟨none,rfl,rfl⟩ (by simp)
  .obtain⟨σ',S',e,a,rfl,rfl⟩:=inv;rw[dJ,lY] at e;have a2:Mg [some (.ref c),some (cX o d),some .non,none] S=some (.nx,[some (.ref c),some (cX o d),some (lK (hs.foldl f9 none)),a],S++[.lst (hs.map cH)]++[.lst (fs.map bB)]++[.lst []]):=by unfold Mg;refine jT it (n:=hs.length) ?_ e;unfold sG;simp only;rw[l1];simp
   have a3:Mh [some (.ref c),some (cX o d),some (lK (hs.foldl f9 none)),a] (S++[.lst (hs.map cH)]++[.lst (fs.map bB)]++[.lst []])=some (.rt (lK (hs.foldl f9 none)),[some (.ref c),some (cX o d),some (lK (hs.foldl f9 none)),a],S++[.lst (hs.map cH)]++[.lst (fs.map bB)]++[.lst []]):=by unfold Mh;exact eG (aF rfl)
   apply bK (S':=S++[.lst (hs.map cH)]++[.lst (fs.map bB)]++[.lst []]) (σ':=[some (.ref c),some (cX o d),some (lK (hs.foldl f9 none)),a])
   .wtm_at "?b"
    unfold Li;exact aL a1 (aV (aL a2 (aV (aL a3 cL))))
   .rw[fW,fW];simp
   .cases hs.foldl f9 none<;>simp[lK,cH,bB,D.lo,cV]
  .subst e1 e2;have hi':i<hs.length:=by have:=(fu.mp hi).1;simpa using this
   have hd':dd=cH hs[i]:=by rw[jg,gG hi'] at hi;exact(Option.some.inj hi).symm
   subst hd';have tk:hs.take (i+1)=hs.take i++[hs[i]]:=by rw[List.take_add_one,gG hi'];rfl
   have fold:(hs.take (i+1)).foldl f9 none=f9 ((hs.take i).foldl f9 none) hs[i]:=by rw[tk,List.foldl_append];rfl
   have bi:=(hb hs[i] (List.getElem_mem hi'))
   cases hbest:(hs.take i).foldl f9 none with
   |none =>
    have b1:yG [some (.ref c),some (cX o d),some (lK none),some (cH hs[i])] (S++[.lst (hs.map cH)]++[.lst (fs.map bB)]++[.lst []])=some (.nx,[some (.ref c),some (cX o d),some (lK (some hs[i])),some (cH hs[i])],S++[.lst (hs.map cH)]++[.lst (fs.map bB)]++[.lst []]):=by unfold yG LQ;exact aL (dF (b:=true) (jU (b:=true) (fY (bC (aF rfl) bF pZ)) (d9 rfl rfl)) (d9 rfl (aL (cN (aF rfl) (dw rfl)) (aV eX)))) (aV eX)
    exact⟨_,_,.nx,_,_,dw rfl,b1,.inl rfl,_,by rw[fold,hbest];rfl,rfl⟩
   |some b =>
    have hbm:b∈hs:=by
     rcases xT (hs.take i) none b hbest with q|q
     .exact List.mem_of_mem_take q
     .cases q
    have ss:=zjZ bi (hb b hbm) (by omega) (S++[.lst (hs.map cH)]++[.lst (fs.map bB)]++[.lst []]);have tt:iM (bG (eB (aW .Is) (aj 2) (eC .non))) (ju (eN (aR 2 Fv) (ak (aj 3) (ak (aj 2) aA)))) [some (.ref c),some (cX o d),some (lK (some b)),some (cH hs[i])] (S++[.lst (hs.map cH)]++[.lst (fs.map bB)]++[.lst []])=some (mD hs[i] b,S++[.lst (hs.map cH)]++[.lst (fs.map bB)]++[.lst []]) :=
     jU (b:=false) (fY (bC (aF rfl) bF pZ)) (dI rfl (Em (aZ (aK (aF rfl) (aK (aF rfl) aY)) (cM rfl ss)) rfl))
    have b1:yG [some (.ref c),some (cX o d),some (lK (some b)),some (cH hs[i])] (S++[.lst (hs.map cH)]++[.lst (fs.map bB)]++[.lst []])=some (.nx,[some (.ref c),some (cX o d),some (lK (f9 (some b) hs[i])),some (cH hs[i])],S++[.lst (hs.map cH)]++[.lst (fs.map bB)]++[.lst []]):=by
     unfold yG LQ;cases hsn:mD hs[i] b with
     |true =>
      have:f9 (some b) hs[i]=some hs[i]:=by simp[f9,hsn]
      rw[this];rw[hsn] at tt;exact aL (dF tt (d9 rfl (aL (cN (aF rfl) (dw rfl)) (aV eX)))) (aV eX)
     |false =>
      have:f9 (some b) hs[i]=some b:=by simp[f9,hsn]
      rw[this];rw[hsn] at tt;exact aL (dF tt (dI rfl eX)) (aV eX)
    exact⟨_,_,.nx,_,_,dw rfl,b1,.inl rfl,_,by rw[fold,hbest],rfl⟩
end
theorem HW(n:Nat)(shs:List Sh):O.lo n (.lst (shs.map cR))=true:=by show cV n _=true;rw[lz];intro x hx;obtain⟨s,_,rfl⟩:=List.mem_map.mp hx;cases s<;>simp[cR,D.lo,cV]
theorem Qu(n:Nat)(bs:List (Pt×Pt)):O.lo n (.lst (bs.map jW))=true:=by show cV n _=true;rw[lz];intro x hx;obtain⟨s,_,rfl⟩:=List.mem_map.mp hx;simp[D.lo,cV]
theorem zlT{m:Nat}(hS:WF S)(hT:lJ "tree_over" S=true)(hm:S[m]?=some (.lst (shs.map cR)))(hl:shs.length<=32)(hk:∀s∈shs,kW K s):
 ∃(t:Option Tr) (bs:List (Pt×Pt)),uF K shs t/\FJ [.ref S.length,.ref m] (S++[.ins "Scene" []])=some (.non,S++[.ins "Scene" [("kept",.ref (S.length+1)),("tree",gk t)]]++[.lst (shs.map cR)]++[.lst (bs.map jW)]) /\
  WF (S++[.ins "Scene" [("kept",.ref (S.length+1)),("tree",gk t)]]++[.lst (shs.map cR)]++[.lst (bs.map jW)]):=by
 classical
 obtain⟨g,hg0⟩:∃g:Sh->Pt×Pt,∀s∈shs,lW s.pts (g s).1 (g s).2/\aN K (g s).1/\aN K (g s).2/\∀S,WF S->vo [cR s] S=some (jW (g s),S):=by
  have ex:∀s∈shs,∃b:Pt×Pt,lW s.pts b.1 b.2/\aN K b.1/\aN K b.2/\∀S,WF S->vo [cR s] S=some (jW b,S):=λs hs=>by obtain⟨lo,hi,b0,b1,b2,e⟩:=znR (hk s hs);exact⟨(lo,hi),b0,b1,b2,e⟩
  refine⟨λs=>if h:s∈shs then(ex s h).choose else((0,0,0),(0,0,0)),λs hs=>?_⟩;simp only[dif_pos hs];exact(ex s hs).choose_spec
 have hg:=λs hs=>(hg0 s hs).2;have wf:∀(fs:List (Str×D)) (G:So),cV (S.length+1+G.length) (fs.map (·.2))=true->(∀o∈G,O.lo (S.length+1+G.length) o=true)->WF (S++[.ins "Scene" fs]++G):=λfs G h1 h2 o ho=>by
  have hlen:(S++[O.ins "Scene" fs]++G).length=S.length+1+G.length:=by rw[lH,lH];rfl
  rw[hlen];rcases lZ.mp ho with ho|ho
  .rcases lZ.mp ho with ho|ho
   .exact O.lo_mono (by omega) (hS o ho)
   .rw[List.mem_singleton.mp ho];exact h1
  .exact h2 o ho
 have BX:(S++[O.ins "Scene" []]).length=S.length+1:=by simp
 have W2:WF (S++[.ins "Scene" [("kept",.ref (S.length+1))]]++[.lst (shs.map cR)]):=wf _ [_] (by simp[cV,D.lo]) (λo ho=>by rw[List.mem_singleton.mp ho];exact HW _ _);have W3:WF (S++[.ins "Scene" [("kept",.ref (S.length+1))]]++[.lst (shs.map cR)]++[.lst ((shs.map g).map jW)]):=W2.snoc (Qu _ _);have T3:lJ "tree_over" (S++[.ins "Scene" [("kept",.ref (S.length+1))]]++[.lst (shs.map cR)]++[.lst ((shs.map g).map jW)])=true:=by rw[fW,fW];exact xZ hT
 obtain⟨t,e1,e2,e3⟩:=zlS (K:=K) (bs:=shs.map g) W3 T3 cJ (by simpa using hl) (λb hb=>by
  obtain⟨s,hs,rfl⟩:=List.mem_map.mp hb;exact⟨(hg s hs).1,(hg s hs).2.1⟩)
 have Wf:WF (S++[.ins "Scene" [("kept",.ref (S.length+1)),("tree",gk t)]]++[.lst (shs.map cR)]++[.lst ((shs.map g).map jW)]):=by
  rw[fW _ [O.lst (shs.map cR)]];refine wf _ [_,_] ?_ λo ho=>?_
  .simp[cV,D.lo,YX]
  .rcases List.mem_cons.mp ho with rfl|ho
   .exact HW _ _
   .rw[List.mem_singleton.mp ho];exact Qu _ _
 refine⟨t,shs.map g,⟨hk,λt' e=>⟨e2 t' e,?_⟩,g,λs hs=>(hg0 s hs).1,e3⟩,?_,Wf⟩
 .have:=e3.length_eq;rw[e,mO,dJ] at this;have h2:(yK (some t')).length=t'.leaves.length:=rfl;omega
 .apply Rw (σ':=[some (.ref S.length),some (.ref m)])
  .wtm_at "?b"
   unfold Ml;have s1:oH "Scene" "kept" (aj 0) (eN qH (ak (aj 1) aA)) [some (.ref S.length),some (.ref m)] (S++[.ins "Scene" []])=some (.nx,[some (.ref S.length),some (.ref m)],S++[.ins "Scene" [("kept",.ref (S.length+1))]]++[.lst (shs.map cR)]):=by rw[<-BX];exact zE (aZ (aK (aF rfl) aY) (SM (fK hm))) (aF rfl) (fK cJ) (show(0:Nat)<3 by decide) (Jd rfl)
   have k2:(S++[O.ins "Scene" [("kept",.ref (S.length+1))]]++[O.lst (shs.map cR)])[S.length+1]?=some (.lst (shs.map cR)):=by
    have:∀x:O,(S++[x]++[O.lst (shs.map cR)])[S.length+1]?=some (.lst (shs.map cR)):=λx=>by rw[show S.length+1=(S++[x]).length by simp];exact cJ
    exact this _
   have s2:eN (aR 1 Fq) (ak (dg (eF (gH "Scene" "kept" (aj 0))) (aM 0) cY (eN (aR 1 vo) (ak (aj 0) aA)) [none]) aA) [some (.ref S.length),some (.ref m)] (S++[.ins "Scene" [("kept",.ref (S.length+1))]]++[.lst (shs.map cR)])=some (gk t,S++[.ins "Scene" [("kept",.ref (S.length+1))]]++[.lst (shs.map cR)]++[.lst ((shs.map g).map jW)]):=by rw[List.map_map] at e1 ⊢;refine aZ (aK (zN shs cR (λs=>jW (g s)) (nJ (Jl (aF rfl) (fK cJ) rfl) k2) k2 (by omega) rfl λs hs=>?_) aY) (cM rfl e1);exact aZ (aK (aF rfl) aY) (cM rfl ((hg s hs).2.2 _ W2))
   refine aL s1 (aV (aL (zE s2 (aF rfl) (fK (fK cJ)) (show(1:Nat)<3 by decide) ?_) (aV eX)));rw[List.set_append_left _ _ (by simp),Jd rfl];rfl
  .intro e;have:=congrArg (λl=>l[S.length]?) e;simp at this
  .simp
  .exact Wf
noncomputable def lq(m:Int):Pt:=(m.fmod 9 - 4,(m.fdiv 9).fmod 9 - 4,(m.fdiv 81).fmod 9 - 4)
theorem vh(m:Int):aN 5 (lq m):=by
 have f:∀x:Int,Bd 5 (x.fmod 9 - 4):=λx=>by have h1:=uO x (show(0:Int)<9 by decide);have h2:=wY x (show(0:Int)<9 by decide);unfold Bd;omega
 exact⟨f _,f _,f _⟩
def vg(m:Int)(S:So):tL [.int m] S=some (pD (lq m),S):=by
 apply bK
 .wtm_at "?b"
  unfold Ur;wtm_at "?a"
 .wtm_at "?c"
 .rfl
noncomputable def uU(ce:Int):Int:=1+ce.fmod (1*2 ^ (50:Int).toNat)
theorem Jy(ce:Int):Bd 51 (uU ce)/\0<uU ce:=by
 have h1:=uO ce (show(0:Int)<1*2 ^ (50:Int).toNat by decide);have h2:=wY ce (show(0:Int)<1*2 ^ (50:Int).toNat by decide);have e:(1:Int)*2 ^ (50:Int).toNat=1125899906842624:=by decide
 unfold uU;rw[e] at h1 h2;rw[e];unfold Bd;have:(2:Nat) ^ 51=2251799813685248:=by decide
 omega
noncomputable def iK(ce:Int)(p:Pt):Pt:=if ce.fmod 3=0 then p else(p.1*uU ce+ce.fmod 1000003,p.2.1*uU ce - ce.fmod 997,p.2.2*uU ce+5)
theorem HJ{ce:Int}(h:aN k p):aN (k+60) (iK ce p):=by
 unfold iK;split
 .exact h.le (by omega)
 .have s:=(Jy ce).1;have m1:Bd 20 (ce.fmod 1000003):=(Bd.fmod (by decide)).le (by decide);have m2:Bd 20 (ce.fmod 997):=(Bd.fmod (by decide)).le (by decide);have m3:Bd 20 5:=(Bd.lit 5).le (by decide);exact⟨((h.1.mul s).add m1).le (by omega),((h.2.1.mul s).sub m2).le (by omega),((h.2.2.mul s).add m3).le (by omega)⟩
theorem Ia(bp:aN k p)(hk:k<=100)(ce:Int)(S:So):yu [pD p,.int ce] S=some (pD (iK ce p),S):=by
 obtain⟨x,y,z⟩:=p;obtain⟨bx,qt,bz⟩:=bp;simp only at bx qt bz;have bs:Bd 51 (1+ce.fmod (1*2 ^ (50:Int).toNat)):=(Jy ce).1;by_cases h3:ce.fmod 3=0
 .unfold iK;rw[if_pos h3];apply bK
  .wtm_at "?b"
   unfold LC;wtm_at "?a"
  .wtm_at "?c"
  .rfl
 .unfold iK;rw[if_neg h3];unfold uU;apply bK
  .wtm_at "?b"
   unfold LC;wtm_at "?a"
  .wtm_at "?c"
  .rfl
theorem YB{ce:Int}{q:Pt}(h:p.1<=q.1/\p.2.1<=q.2.1/\p.2.2<=q.2.2):(iK ce p).1<=(iK ce q).1/\(iK ce p).2.1<=(iK ce q).2.1/\(iK ce p).2.2<=(iK ce q).2.2:=by
 unfold iK;split
 .exact h
 .have s:=Int.le_of_lt (Jy ce).2;have a:=Int.mul_le_mul_of_nonneg_right h.1 s;have b:=Int.mul_le_mul_of_nonneg_right h.2.1 s;have c:=Int.mul_le_mul_of_nonneg_right h.2.2 s;refine⟨?_,?_,?_⟩<;>simp only<;>omega
def lV(ns:List Int)(S:So):Prop:=S[0]?=some (.frz (ns.map .int))
def lV.app(h:lV ns S)(G:So):lV ns (S++G):=by
 unfold lV at *
 rw[mZ (fu.mp h).1];exact h
theorem zlO(hn:ns.length<=63)(k:Int):∃s:Sh,kW 8 s/\∀S,lV ns S->Ky [.ref 0,.int k] S=some (cR s,S):=by
 have bm:∀x:Int,eE (k.fmod 3) (x.fmod 2)=true:=λx=>vp (k:=2) (l:=2) ((Bd.fmod (by decide)).le (by decide)) ((Bd.fmod (by decide)).le (by decide)) (by decide);generalize hpl:k - k.fmod 3*(jJ ns 0).fmod 2=pl;generalize hmo:Dg (jJ ns (pl+1)) pl=mo;by_cases hb:(mo.fdiv 729).fmod 2=0
 .have low:=vh mo;have wd:=vh (mo.fdiv 1458);generalize hl:lq mo=lo at low;generalize hw:lq (mo.fdiv 1458)=w at wd;refine⟨.box lo (lo.1+(if w.1<0 then -w.1 else w.1),lo.2.1+(if w.2.1<0 then -w.2.1 else w.2.1).fdiv 2,lo.2.2+(if w.2.2<0 then -w.2.2 else w.2.2).fmod 3),⟨λp hp=>?_,λl h e=>?_⟩,λS hS=>?_⟩
  .simp only[Sh.pts,List.mem_cons,nY,or_false] at hp;have q1:=uO (if w.2.2<0 then -w.2.2 else w.2.2) (show(0:Int)<3 by decide);have q2:=wY (if w.2.2<0 then -w.2.2 else w.2.2) (show(0:Int)<3 by decide);have q3:(if w.2.1<0 then -w.2.1 else w.2.1).fdiv 2=(if w.2.1<0 then -w.2.1 else w.2.1) / 2:=Int.fdiv_eq_ediv_of_nonneg _ (by decide);obtain⟨l1,l2,l3⟩:=low;obtain⟨w1,w2,w3⟩:=wd;unfold Bd at l1 l2 l3 w1 w2 w3;rcases hp with rfl|rfl
   .exact aN.le (k:=5) ⟨l1,l2,l3⟩ (by decide)
   .refine⟨?_,?_,?_⟩
    .show(lo.1+(if w.1<0 then -w.1 else w.1)).natAbs<2 ^ 8;split<;>omega
    .show(lo.2.1+(if w.2.1<0 then -w.2.1 else w.2.1).fdiv 2).natAbs<2 ^ 8;rw[q3];split<;>omega
    .show(lo.2.2+(if w.2.2<0 then -w.2.2 else w.2.2).fmod 3).natAbs<2 ^ 8;omega
  .cases e;have q1:=uO (if w.2.2<0 then -w.2.2 else w.2.2) (show(0:Int)<3 by decide);have q3:(if w.2.1<0 then -w.2.1 else w.2.1).fdiv 2=(if w.2.1<0 then -w.2.1 else w.2.1) / 2:=Int.fdiv_eq_ediv_of_nonneg _ (by decide);refine⟨?_,?_,?_⟩
   .show lo.1<=lo.1+(if w.1<0 then -w.1 else w.1)
    split<;>omega
   .show lo.2.1<=lo.2.1+(if w.2.1<0 then -w.2.1 else w.2.1).fdiv 2;rw[q3];split<;>omega
   .show lo.2.2<=lo.2.2+(if w.2.2<0 then -w.2.2 else w.2.2).fmod 3;omega
  .have c0:=tH hn 0 hS;have c1:=tH hn (pl+1) hS;have d1:=sp_drawn (jJ ns (pl+1)) pl S;have s1:=vg mo S;have s2:=vg (mo.fdiv 1458) S;rw[hmo] at d1;rw[hl] at s1;rw[hw] at s2;apply bK
   .wtm_at "?b"
    unfold Kr;have b0:=bm (jJ ns 0);refine aL (fl := .nx) (σ1:=[some (.ref 0),some (.int k),some (.int (k - k.fmod 3*(jJ ns 0).fmod 2)),none,none,none]) (S1:=S) (by wtm_at "?a") (aV ?_);rw[hpl];refine aL (fl := .nx) (σ1:=[some (.ref 0),some (.int k),some (.int pl),some (.int mo),none,none]) (S1:=S) (by wtm_at "?a") (aV ?_);refine aL (fl := .nx) (σ1:=[some (.ref 0),some (.int k),some (.int pl),some (.int mo),some (pD lo),none]) (S1:=S) (by wtm_at "?a") (aV ?_);have t:bG (eB (aW .Eq) (eB (aP .Mod) (eB (aP .FloorDiv) (aj 3) (eC (.int 729))) (eC (.int 2))) (eC (.int 0))) [some (.ref 0),some (.int k),some (.int pl),some (.int mo),some (pD lo),none] S=some (decide ((mo.fdiv 729).fmod 2=0),S):=by wtm_at "?a"
    rw[jw hb] at t;refine aL (fl := .rt _) (dF t (d9 rfl (aL (fl := .nx) (σ1:=[some (.ref 0),some (.int k),some (.int pl),some (.int mo),some (pD lo),some (pD w)]) (S1:=S) (by wtm_at "?a") (aV (aL (eG (S1:=S) ?_) cL))))) cL;wtm_at "?a"
   .wtm_at "?c"
   .rfl
 .refine⟨.tri (lq mo) (lq (mo.fdiv 1458)) (lq (mo.fdiv 1062882)),⟨λp hp=>?_,λl h e=>by cases e⟩,λS hS=>?_⟩
  .simp only[Sh.pts,List.mem_cons,nY,or_false] at hp;rcases hp with rfl|rfl|rfl<;>exact(vh _).le (by decide)
  .have c0:=tH hn 0 hS;have c1:=tH hn (pl+1) hS;have d1:=sp_drawn (jJ ns (pl+1)) pl S;have s1:=vg mo S;have s2:=vg (mo.fdiv 1458) S;have s3:=vg (mo.fdiv 1062882) S;rw[hmo] at d1;apply bK
   .wtm_at "?b"
    unfold Kr;have b0:=bm (jJ ns 0);refine aL (fl := .nx) (σ1:=[some (.ref 0),some (.int k),some (.int (k - k.fmod 3*(jJ ns 0).fmod 2)),none,none,none]) (S1:=S) (by wtm_at "?a") (aV ?_);rw[hpl];refine aL (fl := .nx) (σ1:=[some (.ref 0),some (.int k),some (.int pl),some (.int mo),none,none]) (S1:=S) (by wtm_at "?a") (aV ?_);refine aL (fl := .nx) (σ1:=[some (.ref 0),some (.int k),some (.int pl),some (.int mo),some (pD (lq mo)),none]) (S1:=S) (by wtm_at "?a") (aV ?_);have t:bG (eB (aW .Eq) (eB (aP .Mod) (eB (aP .FloorDiv) (aj 3) (eC (.int 729))) (eC (.int 2))) (eC (.int 0))) [some (.ref 0),some (.int k),some (.int pl),some (.int mo),some (pD (lq mo)),none] S=some (decide ((mo.fdiv 729).fmod 2=0),S):=by wtm_at "?a"
    rw[fM hb] at t;refine aL (fl := .nx) (dF t (dI rfl eX)) (aV (aL (eG (S1:=S) ?_) cL));exact aZ (aK bF (aK (aF rfl) (aK (aZ (aK (bC (aF rfl) bF (u5 (by decide))) aY) (cM rfl s2)) (aK (aZ (aK (bC (aF rfl) bF (u5 (by decide))) aY) (cM rfl s3)) aY)))) (lN (by show 4<=sizeLine;decide))
   .wtm_at "?c"
   .rfl
theorem zmN{α:Type}{S1:So}{fi:IF}{rest:Sg}(qs:List α)(enc g:α->D)(h1:fi σ S=some (.fix (qs.map enc),S1))(hl:qs.length<=1000)(hτ:ou src σ=none::rest)(hstep:∀q∈qs,fe (some (enc q)::rest) S1=some (g q,S1)):dg fi (aM 0) cY fe src σ S=some (.ref S1.length,S1++[.lst (qs.map g)]):=by
 have key:=Im (nx:=di (.fix (qs.map enc))) (S:=S1) (rest:=rest) (fe:=fe) qs enc g (λi=>rfl) hstep qs.length 0 none [] (by omega);refine p6 (n:=qs.length) h1 ?_ (by rw[sizeLine_eq];omega) hτ ?_
 .show some (qs.map enc).length=_;simp
 .rw[key];simp
noncomputable def Sh.nm:Sh->Str
 |.box _ _ => "box"
 |.tri _ _ _ => "triangle"
def QB(s:Sh):cR s = .tup (.str s.nm::s.pts.map pD):=by cases s<;>rfl
noncomputable def Sh.by(f:Pt->Pt):Sh->Sh
 |.box lo hi => .box (f lo) (f hi)
 |.tri a b c => .tri (f a) (f b) (f c)
def Hx(f:Pt->Pt)(s:Sh):(s.by f).pts=s.pts.map f/\(s.by f).nm=s.nm:=by cases s<;>exact⟨rfl,rfl⟩
theorem zlN(hn:ns.length<=63)(k:Int):∃s:Sh,kW 70 s/\∀S,lV ns S->vy [.ref 0,.int k] S=some (cR s,S):=by
 obtain⟨s,ok,e⟩:=zlO hn k;generalize hc:jJ ns 0=ce;refine⟨s.by (iK ce),⟨λp hp=>?_,λlo hi e=>?_⟩,λS hS=>?_⟩
 .rw[(Hx _ s).1] at hp;obtain⟨q,hq,rfl⟩:=List.mem_map.mp hp;exact(HJ (ok.bd q hq)).le (by decide)
 .cases s with
  |box l h =>
   simp only[Sh.by,Sh.box.injEq] at e;obtain⟨rfl,rfl⟩:=e;exact YB (ok.ord l h rfl)
  |tri a b c=>cases e
 .have c0:=tH hn 0 hS;rw[hc] at c0;have e0:=e S hS;have hlen:s.pts.length<=10:=by cases s<;>simp[Sh.pts]
  rw[QB] at e0;rw[QB,(Hx _ s).1,(Hx _ s).2];have hlc:dg (eF (jV (aj 2) (jR (eC (.int 1))) kZ)) (aM 0) cY (eN (aR 2 yu) (ak (aj 0) (ak (eN (aR 2 oO) (ak (aj 1) (ak (eC (.int 0)) aA))) aA))) [none,some 0] [some (.ref 0),some (.int k),some (.tup (.str s.nm::s.pts.map pD))] S=some (.ref S.length,S++[.lst (s.pts.map λp=>pD (iK ce p))]):=by
   refine zmN s.pts pD (λp=>pD (iK ce p)) (Sy (xP (aF rfl) (zP bF) zO (Hz (ys:=s.pts.map pD) ?_ Er))) (by omega) rfl λp hp=>?_
   .rintro⟨e1,e2⟩
    have:HT.sIx (D.str s.nm::s.pts.map pD).length 0 (some 1)=1:=by unfold HT.sIx;simp
    omega
   .exact aZ (aK (aF rfl) (aK (aZ (aK (aF rfl) (aK bF aY)) (cM rfl c0)) aY)) (cM rfl (Ia (ok.bd p hp) (by decide) ce S))
  apply bK (S':=S++[.lst (s.pts.map λp=>pD (iK ce p))]) (σ':=[some (.ref 0),some (.int k),some (.tup (.str s.nm::s.pts.map pD))])
  .wtm_at "?b"
   unfold Vk;have Om:eH (D.str s.nm::s.pts.map pD) 0=some (D.str s.nm):=QK (j:=0) rfl;have r:=ZW (S:=S++[.lst (s.pts.map λp=>pD (iK ce p))]) (xs:=[.str s.nm]) (ys:=s.pts.map λp=>pD (iK ce p)) (by simp) (by simp;rw[sizeLine_eq];omega);rw[List.map_map];exact aL (cN (aZ (aK (aF rfl) (aK (aF rfl) aY)) (cM rfl e0)) (dw rfl)) (aV (aL (eG (bC (aZ (aK (bC (aF rfl) bF (gb Om)) aY) (lN (by show 1<=sizeLine;decide))) (aZ (aK hlc aY) (Ud cJ)) r)) cL))
  .simp
  .rw[D.lo,lz];intro x hx;rcases List.mem_cons.mp hx with rfl|hx
   .simp[D.lo]
   .obtain⟨p,_,rfl⟩:=List.mem_map.mp hx;simp[D.lo,cV]
theorem znP(hn:ns.length<=63):∃m:Nat,m<=30/\∀S,lV ns S->zW [.ref 0] S=some (.int (m:Nat),S):=by
 generalize hmo:Dg (jJ ns 0) 77=mo;have pre:∀S,lV ns S->bA (eN (aR 2 yr) (ak (eN (aR 2 oO) (ak (aj 0) (ak (eC (.int 0)) aA))) (ak (eC (.int 77)) aA))) (aM 1) [some (.ref 0),none] S=some (.nx,[some (.ref 0),some (.int mo)],S):=λS F=>by have d0:=sp_drawn (jJ ns 0) 77 S;rw[hmo] at d0;exact cN (aZ (aK (aZ (aK (aF rfl) (aK bF aY)) (cM rfl (tH hn 0 F))) (aK bF aY)) (cM rfl d0)) (dw rfl)
 have oU:∀S b,decide (mo.fmod 8=5)=b->bG (eB (aW .Eq) (eB (aP .Mod) (aj 1) (eC (.int 8))) (eC (.int 5))) [some (.ref 0),some (.int mo)] S=some (b,S):=λS b h=>by rw[<-h];exact fY (bC (bC (aF rfl) bF (Ea (by decide))) bF xN)
 by_cases h:mo.fmod 8=5
 .refine⟨30,by decide,λS F=>?_⟩;apply bK
  .wtm_at "?b"
   unfold KD;exact aL (pre S F) (aV (aL (dF (oU S true (jw h)) (d9 rfl (aL (eG bF) cL))) cL))
  .exact lY
  .rfl
 .have h1:=uO (mo.fdiv 8) (show(0:Int)<13 by decide);have h2:=wY (mo.fdiv 8) (show(0:Int)<13 by decide);refine⟨((mo.fdiv 8).fmod 13).toNat,by omega,λS F=>?_⟩;rw[Int.toNat_of_nonneg h1];apply bK
  .wtm_at "?b"
   unfold KD;exact aL (pre S F) (aV (aL (dF (oU S false (fM h)) (dI rfl eX)) (aV (aL (eG (bC (bC (aF rfl) bF (u5 (by decide))) bF (Ea (by decide)))) cL))))
  .exact lY
  .rfl
theorem zhq(ho:aN k o)(hd:aN k d)(hs:kW k s)(h0:d≠(0,0,0))(hk:k<=1500)(S:So)(hS:WF S):
 Ij [cX o d,cR s] S=some (tD (gP o d s),S):=by
 have hm:=T8 ho hd hs h0 hk S hS;have hr:=V4 (o:=o) h0 S;have hn:Ad [cR s] S=some (.non,S):=by
  apply V3;cases s with
  |box l h =>
   obtain⟨o1,o2,o3⟩:=hs.ord l h rfl;exact VG o1 o2 o3
  |tri a b c=>exact VH
 apply bK
 .wtm_at "?b"
  unfold QJ;exact aL (tK (aZ (aK (aF rfl) aY) (cM rfl hr))) (aV (aL (tK (aZ (aK (aF rfl) aY) (cM rfl hn))) (aV (aL (eG (aZ (aK (aF rfl) (aK (aF rfl) aY)) (cM rfl hm))) cL))))
 .exact lY
 .cases gP o d s<;>rfl
theorem zkH(hn:ns.length<=63):∃shs:List Sh,shs.length<=30/\(∀s∈shs,kW 70 s)/\∀(σ:Sg) (S:So),lV ns S->aj 0 σ S=some (.ref 0,S)->ou [none,some 0] σ=[none,some (.ref 0)] ->
 dg (gR (ak (eN (aR 1 zW) (ak (aj 0) aA)) aA)) (aM 0) cY (eN (aR 2 vy) (ak (aj 1) (ak (aj 0) aA))) [none,some 0] σ S=some (.ref S.length,S++[.lst (shs.map cR)]):=by
 obtain⟨m,hm,em⟩:=znP hn;have Ws:∀k:Nat,∃s:Sh,kW 70 s/\∀S,lV ns S->vy [.ref 0,.int (k:Nat)] S=some (cR s,S):=λk=>zlN hn (k:Nat);obtain⟨sh,hsh⟩:∃sh:Nat->Sh,∀k:Nat,kW 70 (sh k)/\∀S,lV ns S->vy [.ref 0,.int (k:Nat)] S=some (cR (sh k),S):=⟨λk=>(Ws k).choose,λk=>(Ws k).choose_spec⟩
 refine⟨(List.range m).map sh,by simpa using hm,λs hs=>?_,λσ S F hv hτ=>?_⟩
 .obtain⟨k,_,rfl⟩:=List.mem_map.mp hs;exact(hsh k).1
 .have lc:=p6 (σ:=σ) (S:=S) (fi:=gR (ak (eN (aR 1 zW) (ak (aj 0) aA)) aA)) (g:=aM 0) (t:=cY) (src:=[none,some 0]) (n:=m) (El (j:=(m:Int)) (aK (aZ (aK hv aY) (cM rfl (em S F))) aY) (by omega)) (by show some (gO 0 (m:Int).toNat).length=_;simp[gO]) (by rw[sizeLine_eq];omega) hτ (by rw[Int.toNat_natCast];exact Qs (fe:=eN (aR 2 vy) (ak (aj 1) (ak (aj 0) aA))) (m:=m) (rest:=[some (.ref 0)]) (λx=>cR (sh x)) (λx hx=>aZ (aK (aF rfl) (aK (aF rfl) aY)) (cM rfl ((hsh x).2 S F))));rw[lc,List.map_map];rfl
theorem zmo{m:Nat}{S0:So}{fa:AF}(hS:WF S)(hT:lJ "tree_over" S=true)(hm:S[m]?=some (.lst (shs.map cR)))(hl:shs.length<=32)(hk:∀s∈shs,kW K s)(h1:fa σ S0=some ([.ref m],S)):
 ∃t G,uF K shs t/\pI "Scene" 2 FJ fa σ S0=some (.ref S.length,S++G)/\WF (S++G)/\jc (S++G) S.length shs t:=by
 obtain⟨t,bs,ok,e,W⟩:=zlT hS hT hm hl hk;have mk:=Qg (C := "Scene") (n:=2) h1 rfl e;have WM:(S++[O.ins "Scene" [("kept",.ref (S.length+1)),("tree",gk t)]]++[O.lst (shs.map cR)]++[O.lst (bs.map jW)])[S.length]?=some (.ins "Scene" [("kept",.ref (S.length+1)),("tree",gk t)]):=fK (fK cJ);have kp3:(S++[O.ins "Scene" [("kept",.ref (S.length+1)),("tree",gk t)]]++[O.lst (shs.map cR)]++[O.lst (bs.map jW)])[S.length+1]?=some (.lst (shs.map cR)):=by refine fK ?_;generalize O.ins "Scene" [("kept",.ref (S.length+1)),("tree",gk t)]=o;rw[show S.length+1=(S++[o]).length by simp];exact cJ
 have fz:mX "Scene" S.length (S++[O.ins "Scene" [("kept",.ref (S.length+1)),("tree",gk t)]]++[O.lst (shs.map cR)]++[O.lst (bs.map jW)])=(.ref S.length,S++[O.ins "Scene" [("kept",.ref (S.length+1)),("tree",gk t)]]++[O.lst (shs.map cR)]++[O.lst (bs.map jW)]):=by unfold mX;rw[WM];simp only;rw[if_neg];intro h;have:=h.2.1;simp at this
 rw[fz] at mk;rw[fW,fW] at *
 exact⟨t,_,ok,mk,W,WM,kp3⟩
theorem zjx(h0:d≠(0,0,0))(e:sU o d shs=none):∀s∈shs,gP o d s=none:=λs hs=>by
 have k:=(zq (oA o d shs) none (λh hh=>by obtain⟨i,_,q⟩:=List.mem_filterMap.mp hh;exact Jr h0 q) (λy hy=>by cases hy)).1 e;obtain⟨i,hi,rfl⟩:=List.getElem_of_mem hs;cases q:gP o d shs[i] with
 |none=>rfl
 |some p =>
  have:(p,i)∈oA o d shs:=Jt.mpr ⟨shs[i],p,i,gG hi,q,rfl⟩;rw[k.1] at this;cases this
theorem UG(h0:d≠(0,0,0)){h:fL}(e:sU o d shs=some h):(∃s,shs[h.2]?=some s/\gP o d s=some h.1)/\∀s∈shs,∀p,gP o d s=some p->leQ h.1 p:=by
 have gd:∀x∈oA o d shs,kO x:=λh hh=>by obtain⟨i,_,q⟩:=List.mem_filterMap.mp hh;exact Jr h0 q
 have k:=(zq (oA o d shs) none gd (λy hy=>by cases hy)).2 h e;refine⟨?_,λs hs p hp=>?_⟩
 .rcases xT _ _ _ e with q|q
  .obtain⟨s,p,i,q1,q2,rfl⟩:=Jt.mp q;exact⟨s,q1,q2⟩
  .cases q
 .obtain⟨i,hi,rfl⟩:=List.getElem_of_mem hs;have m:(p,i)∈oA o d shs:=Jt.mpr ⟨shs[i],p,i,gG hi,hp,rfl⟩;have:=k.1 _ m;unfold kJ at this;rw[zQ] at this;exact qP λc=>this (.inl c)
end MX.P
end
section
namespace MX.P
open PySem L2 MX
end MX.P
local macro_rules | `(tactic| wtm_at "?d") => `(tactic| (with_reducible assumption))
local macro_rules | `(tactic| wtm_at "?m") => `(tactic| first | (with_reducible first | exact MX.P.ev_isi_tup | exact MX.P.ev_isi_int | exact MX.P.ev_isi_bool))
namespace MX.P
end MX.P
end
section
namespace MX.P
noncomputable def iY(o d:Pt)(t:Int×Int):Pt:=(o.1*t.2+d.1*t.1,o.2.1*t.2+d.2.1*t.1,o.2.2*t.2+d.2.2*t.1)
def oG(x a b q:Int):Prop:=dW a b*q<=x/\x<=cZ a b*q
noncomputable def aU(P a:Pt)(q:Int):Pt:=(P.1 - a.1*q,P.2.1 - a.2.1*q,P.2.2 - a.2.2*q)
def fZ(P:Pt)(q:Int)(a b:Pt):Prop:=(oG P.1 a.1 b.1 q/\oG P.2.1 a.2.1 b.2.1 q/\oG P.2.2 a.2.2 b.2.2 q)/\aq (aU P a q) (wb a b)=(0,0,0)
theorem IV{p o d a b:Int}(u0:0<=u)(v0:0<=v)(uv:0<u+v)(hq:0<q)(e:(u+v)*p*d=q*(u*(a - o)+v*(b - o)+0*(a - o))):oG (o*q+d*p) a b q:=by
 unfold oG;have e1:(u+v)*(o*q+d*p)=q*(u*a+v*b):=by grind
 have m1:dW a b<=a/\dW a b<=b:=by unfold dW;split<;>omega
 have m2:a<=cZ a b/\b<=cZ a b:=by unfold cZ;split<;>omega
 generalize dW a b=m at *
 generalize cZ a b=M at *
 have g1:=Int.mul_le_mul_of_nonneg_left m1.1 u0;have g2:=Int.mul_le_mul_of_nonneg_left m1.2 v0;have g3:=Int.mul_le_mul_of_nonneg_left m2.1 u0;have g4:=Int.mul_le_mul_of_nonneg_left m2.2 v0;have g5:=Int.mul_le_mul_of_nonneg_left (show u*m+v*m<=u*a+v*b by omega) (show 0<=q by omega);have g6:=Int.mul_le_mul_of_nonneg_left (show u*a+v*b<=u*M+v*M by omega) (show 0<=q by omega);constructor
 .refine Int.le_of_mul_le_mul_left (a:=u+v) ?_ uv;have:(u+v)*(m*q)=q*(u*m+v*m):=by grind
  omega
 .refine Int.le_of_mul_le_mul_left (a:=u+v) ?_ uv;have:(u+v)*(M*q)=q*(u*M+v*M):=by grind
  omega
def HS{p o d a b:Int}(e:(u+v)*p*d=q*(u*(a - o)+v*(b - o)+0*(a - o))):(u+v)*(o*q+d*p - a*q)=q*v*(b - a):=by grind
theorem X5(hq:0<t.2)(h:gC d (wb o a) (wb o b) t):fZ (iY o d t) t.2 a b:=by
 obtain⟨u,v,u0,v0,uv,c1,c2,c3⟩:=h;simp only[wb] at c1 c2 c3;refine⟨⟨IV u0 v0 uv hq c1,IV u0 v0 uv hq c2,IV u0 v0 uv hq c3⟩,?_⟩;have e1:=HS c1;have e2:=HS c2;have e3:=HS c3;simp only[iY,aU,aq,wb];have z:∀x y s r:Int,(u+v)*x=t.2*v*s->(u+v)*y=t.2*v*r->x*r - y*s=0:=λx y s r h1 h2=>by
  refine pX uv ?_;have:(u+v)*(x*r - y*s)=(u+v)*x*r - (u+v)*y*s:=by grind
  rw[this,h1,h2];grind
 refine yg ?_ ?_ ?_
 .exact z _ _ _ _ e2 e3
 .exact z _ _ _ _ e3 e1
 .exact z _ _ _ _ e1 e2
theorem HF(hq:0<t.2)(hy:y≠0)(h0:0<=x*y)(h1:x*y<=t.2*(y*y))(e1:y*(aU (iY o d t) a t.2).1=x*(wb a b).1)(e2:y*(aU (iY o d t) a t.2).2.1=x*(wb a b).2.1)(e3:y*(aU (iY o d t) a t.2).2.2=x*(wb a b).2.2):gC d (wb o a) (wb o b) t:=by
 have hyy:0<y*y:=by
  have:=zM y;have:y*y≠0:=λe=>by rcases Int.mul_eq_zero.mp e with e|e<;>exact hy e
  omega
 have hqy:=Int.mul_pos hq hyy;simp only[aU,iY,wb] at e1 e2 e3;have f:∀(o d a b:Int),y*(o*t.2+d*t.1 - a*t.2)=x*(b - a)->(t.2*(y*y) - x*y+x*y)*t.1*d=t.2*((t.2*(y*y) - x*y)*(a - o)+x*y*(b - o)+0*(a - o)):=λo d a b e=>by
  have e':y*(y*(o*t.2+d*t.1 - a*t.2))=y*(x*(b - a)):=by rw[e]
  grind
 exact⟨t.2*(y*y) - x*y,x*y,by omega,h0,by omega,f _ _ _ _ e1,f _ _ _ _ e2,f _ _ _ _ e3⟩
theorem JH{a b:Int}(h:oG x a b q):0<=(x - a*q)*(b - a)/\(x - a*q)*(b - a)<=q*((b - a)*(b - a)):=by
 obtain⟨h1,h2⟩:=h;by_cases hab:a<=b
 .have m1:dW a b=a:=by unfold dW;split<;>omega
  have m2:cZ a b=b:=by unfold cZ;split<;>omega
  rw[m1] at h1;rw[m2] at h2;have g1:=Int.mul_nonneg (show 0<=x - a*q by omega) (show 0<=b - a by omega);have g2:=Int.mul_nonneg (show 0<=b*q - x by omega) (show 0<=b - a by omega);have:(b*q - x)*(b - a)=q*((b - a)*(b - a)) - (x - a*q)*(b - a):=by grind
  omega
 .have m1:dW a b=b:=by unfold dW;split<;>omega
  have m2:cZ a b=a:=by unfold cZ;split<;>omega
  rw[m1] at h1;rw[m2] at h2;have g1:=Int.mul_nonneg (show 0<=a*q - x by omega) (show 0<=a - b by omega);have g2:=Int.mul_nonneg (show 0<=x - b*q by omega) (show 0<=a - b by omega);have e1:(a*q - x)*(a - b)=(x - a*q)*(b - a):=by grind
  have e2:(x - b*q)*(a - b)=q*((b - a)*(b - a)) - (x - a*q)*(b - a):=by grind
  omega
theorem X4(hq:0<t.2)(h:fZ (iY o d t) t.2 a b):gC d (wb o a) (wb o b) t:=by
 obtain⟨⟨b1,b2,b3⟩,hc⟩:=h;have p1:(aq (aU (iY o d t) a t.2) (wb a b)).1=0:=by rw[hc]
 have p2:(aq (aU (iY o d t) a t.2) (wb a b)).2.1=0:=by rw[hc]
 have p3:(aq (aU (iY o d t) a t.2) (wb a b)).2.2=0:=by rw[hc]
 simp only[aq] at p1 p2 p3;by_cases h1:(wb a b).1=0
 .by_cases h2:(wb a b).2.1=0
  .by_cases h3:(wb a b).2.2=0
   .-- one point
    simp only[wb] at h1 h2 h3;have z:∀x a b:Int,b - a=0->oG x a b t.2->x=a*t.2:=λx a b e hb=>by
     have:b=a:=by omega
     subst this;obtain⟨k1,k2⟩:=hb;have m1:dW b b=b:=by unfold dW;split<;>omega
     have m2:cZ b b=b:=by unfold cZ;split<;>omega
     rw[m1] at k1;rw[m2] at k2;omega
    have z1:=z _ _ _ h1 b1;have z2:=z _ _ _ h2 b2;have z3:=z _ _ _ h3 b3;simp only[iY] at z1 z2 z3;refine⟨1,0,by omega,by omega,by omega,?_,?_,?_⟩<;>simp only[wb]<;>grind
   .obtain⟨s1,s2⟩:=JH b3;exact HF (x:=(aU (iY o d t) a t.2).2.2) (y:=(wb a b).2.2) hq h3 s1 s2 (by grind) (by grind) (by grind)
  .obtain⟨s1,s2⟩:=JH b2;exact HF (x:=(aU (iY o d t) a t.2).2.1) (y:=(wb a b).2.1) hq h2 s1 s2 (by grind) (by grind) (by grind)
 .obtain⟨s1,s2⟩:=JH b1;exact HF (x:=(aU (iY o d t) a t.2).1) (y:=(wb a b).1) hq h1 s1 s2 (by grind) (by grind) (by grind)
def xO(hq:0<t.2):fZ (iY o d t) t.2 a b↔gC d (wb o a) (wb o b) t:=⟨X4 hq,X5 hq⟩
end MX.P
end
section
local macro_rules | `(tactic| wtm_at "?d") => `(tactic| (with_reducible assumption))
namespace MX.P
open PySem L2 MX
def sp_lway(a b:Pt)(S:So):yh [pD a,pD b] S=some (pD (wb a b),S):=by
 apply bK
 .wtm_at "?b"
  unfold Vg;wtm_at "?a"
 .wtm_at "?c"
 .rfl
theorem yc{l:Nat}{gs ss:List D}{i:Int}(hn:S[n]?=some (.lst gs))(e1:eH gs i=some (.int x))(e2:eH gs j=some (.int y))(e3:eH ss i=some (.int u))(e4:eH ss j=some (.int v))(bx:Bd k x)(qt:Bd k y)(bu:Bd l u)(bv:Bd l v)(hk:k+l<=134217000):
 lA [.ref n,.tup ss,.int i,.int j] S=some (.int (x*v - y*u),S):=by
 apply bK
 .wtm_at "?b"
  unfold Fw;wtm_at "?a"
 .wtm_at "?c"
 .rfl
theorem IW{P:Pt}(hP:aN k P)(ha:aN k a)(hb:aN k b)(hq:Bd k q)(hk:k<=10000)(j:Int)(h0:0<=j)(h2:j<=2)(x5 x6:Option D)(S:So):
 ∃G,Kq [some (pD P),some (.int q),some (pD a),some (pD b),some (.int j),x5,x6] S=some ((if dW (co j a) (co j b)*q<=co j P/\co j P<=cZ (co j a) (co j b)*q then .nx else .rt (.bl false)),[some (pD P),some (.int q),some (pD a),some (pD b),some (.int j),x5,x6],S++G):=by
 have a1:=nG h0 h2 P;have a2:=nG h0 h2 a;have a3:=nG h0 h2 b;have c1:=Hl hP j;have c2:=Hl ha j;have c3:=Hl hb j;generalize co j P=x at *
 generalize co j a=y at *
 generalize co j b=z at *
 have bmi:Bd k (dW y z):=by unfold dW;split<;>assumption
 have bma:Bd k (cZ y z):=by unfold cZ;split<;>assumption
 have emi:∀S:So,eN lM (ak (eN iB (ak (eB aJ (aj 2) (aj 4)) (ak (eB aJ (aj 3) (aj 4)) aA))) aA) [some (pD P),some (.int q),some (pD a),some (pD b),some (.int j),x5,x6] S=some (.int (dW y z),S++[.lst [.int y,.int z]]):=λS=>by unfold dW;wtm_at "?a"
 have ema:∀S:So,eN jQ (ak (eN iB (ak (eB aJ (aj 2) (aj 4)) (ak (eB aJ (aj 3) (aj 4)) aA))) aA) [some (pD P),some (.int q),some (pD a),some (pD b),some (.int j),x5,x6] S=some (.int (cZ y z),S++[.lst [.int y,.int z]]):=λS=>by unfold cZ;wtm_at "?a"
 have t1:bG (eB (aW .Lt) (eB aJ (aj 0) (aj 4)) (eB (aP .Mult) (eN lM (ak (eN iB (ak (eB aJ (aj 2) (aj 4)) (ak (eB aJ (aj 3) (aj 4)) aA))) aA)) (aj 1))) [some (pD P),some (.int q),some (pD a),some (pD b),some (.int j),x5,x6] S=some (decide (x<dW y z*q),S++[.lst [.int y,.int z]]) :=
  fY (bC (bC (aF rfl) (aF rfl) (gb a1)) (bC (emi S) (aF rfl) (vf (vp bmi hq (by omega)))) Ht)
 have t2:bG (eB (aW .Gt) (eB aJ (aj 0) (aj 4)) (eB (aP .Mult) (eN jQ (ak (eN iB (ak (eB aJ (aj 2) (aj 4)) (ak (eB aJ (aj 3) (aj 4)) aA))) aA)) (aj 1))) [some (pD P),some (.int q),some (pD a),some (pD b),some (.int j),x5,x6] (S++[.lst [.int y,.int z]])=some (decide (x>cZ y z*q),S++[.lst [.int y,.int z]]++[.lst [.int y,.int z]]) :=
  fY (bC (bC (aF rfl) (aF rfl) (gb a1)) (bC (ema _) (aF rfl) (vf (vp bma hq (by omega)))) Hs)
 unfold Kq VJ;by_cases p1:x<dW y z*q
 .rw[if_neg (by omega)];refine⟨[.lst [.int y,.int z]],aL (dF (jU t1 (d9 (jw p1) rfl)) (d9 rfl ?_)) cL⟩;wtm_at "?a"
 .by_cases p2:x>cZ y z*q
  .rw[if_neg (by omega)];refine⟨[.lst [.int y,.int z]]++[.lst [.int y,.int z]],?_⟩;rw[<-fW];refine aL (dF (jU t1 (dI (fM p1) t2)) (d9 (jw p2) ?_)) cL;wtm_at "?a"
  .rw[if_pos (by omega)];refine⟨[.lst [.int y,.int z]]++[.lst [.int y,.int z]],?_⟩;rw[<-fW];refine aL (dF (jU t1 (dI (fM p1) t2)) (dI (fM p2) ?_)) (aV eX);wtm_at "?a"
instance (P:Pt) (q:Int) (a b:Pt):Decidable (fZ P q a b):=by unfold fZ oG;infer_instance
theorem Qn{l:Nat}{P:Pt}(hP:aN k P)(ha:aN l a)(hq:Bd l q)(hk:2*l<=k):aN (k+1) (aU P a q):=by obtain⟨p1,p2,p3⟩:=hP;obtain⟨a1,a2,a3⟩:=ha;exact⟨(p1.sub (a1.mul hq)).le (by omega),(p2.sub (a2.mul hq)).le (by omega),(p3.sub (a3.mul hq)).le (by omega)⟩
theorem Hw{P:Pt}(hP:aN k P)(ha:aN k a)(hb:aN k b)(hq:Bd k q)(hk:k<=3000)(S:So):
 zL [pD P,.int q,pD a,pD b] S=some (.bl (decide (fZ P q a b)),S):=by
 have it:∀(S:So) (y:Option D),gR (ak (eC (.int 3)) aA) [some (pD P),some (.int q),some (pD a),some (pD b),y,none,none] S=some (.fix (gO 0 3),S):=λS y=>rfl;have sets:∀(S:So) (i:Int) (y:Option D),aM 4 (.int i) [some (pD P),some (.int q),some (pD a),some (pD b),y,none,none] S=some ([some (pD P),some (.int q),some (pD a),some (pD b),some (.int i),none,none],S):=λS i y=>rfl;obtain⟨G0,q0⟩:=IW hP ha hb hq (by omega) 0 (by decide) (by decide) none none S;obtain⟨G1,q1⟩:=IW hP ha hb hq (by omega) 1 (by decide) (by decide) none none (S++G0);obtain⟨G2,q2⟩:=IW hP ha hb hq (by omega) 2 (by decide) (by decide) none none (S++G0++G1);have n0:∀S:So,di (.fix (gO 0 3)) 0 S=some (some (.int 0)):=λ_=>rfl;have n1:∀S:So,di (.fix (gO 0 3)) (0+1) S=some (some (.int 1)):=λ_=>rfl;have n2:∀S:So,di (.fix (gO 0 3)) (0+1+1) S=some (some (.int 2)):=λ_=>rfl;have n3:∀S:So,di (.fix (gO 0 3)) (0+1+1+1) S=some none:=λ_=>rfl;by_cases h0:oG P.1 a.1 b.1 q
 .rw[if_pos (show dW (co 0 a) (co 0 b)*q<=co 0 P/\co 0 P<=cZ (co 0 a) (co 0 b)*q from h0)] at q0;by_cases h1:oG P.2.1 a.2.1 b.2.1 q
  .rw[if_pos (show dW (co 1 a) (co 1 b)*q<=co 1 P/\co 1 P<=cZ (co 1 a) (co 1 b)*q from h1)] at q1;by_cases h2:oG P.2.2 a.2.2 b.2.2 q
   .rw[if_pos (show dW (co 2 a) (co 2 b)*q<=co 2 P/\co 2 P<=cZ (co 2 a) (co 2 b)*q from h2)] at q2;have hd:decide (fZ P q a b)=decide (aq (aU P a q) (wb a b)=(0,0,0)):=by rw[Bool.eq_iff_iff,lX,lX];exact⟨λh=>h.2,λh=>⟨⟨h0,h1,h2⟩,h⟩⟩
    rw[hd];have hg:=Qn (hP.le (show k<=2*k by omega)) ha hq (bZ _);have hw:=ha.wb hb;obtain⟨g1,g2,g3⟩:=hg;obtain⟨w1,w2,w3⟩:=hw;generalize yL:S++G0++G1++G2=S3 at *
    obtain⟨p1,p2,p3⟩:=hP;obtain⟨a1,a2,a3⟩:=ha;have gl:dg (gR (ak (eC (.int 3)) aA)) (aM 0) cY (eB (aP .Sub) (eB aJ (aj 2) (aj 0)) (eB (aP .Mult) (eB aJ (aj 1) (aj 0)) (aj 3))) [none,some 2,some 0,some 1]
     [some (pD P),some (.int q),some (pD a),some (pD b),some (.int 2),none,none] S3=some (.ref S3.length,S3++[.lst [.int (aU P a q).1,.int (aU P a q).2.1,.int (aU P a q).2.2]]):=by
     unfold aU;wtm_at "?a"
    have hn:(S3++[O.lst [.int (aU P a q).1,.int (aU P a q).2.1,.int (aU P a q).2.2]])[S3.length]?=some (.lst [.int (aU P a q).1,.int (aU P a q).2.1,.int (aU P a q).2.2]):=cJ;generalize hS4:S3++[O.lst [.int (aU P a q).1,.int (aU P a q).2.1,.int (aU P a q).2.2]]=S4 at *
    have Nf:=sp_lway a b S4;have f0:=yc (i:=0) (j:=1) (ss:=[.int (wb a b).1,.int (wb a b).2.1,.int (wb a b).2.2]) hn rfl rfl rfl rfl g1 g2 w1 w2 (by omega);have f1:=yc (i:=1) (j:=2) (ss:=[.int (wb a b).1,.int (wb a b).2.1,.int (wb a b).2.2]) hn rfl rfl rfl rfl g2 g3 w2 w3 (by omega);have f2:=yc (i:=2) (j:=0) (ss:=[.int (wb a b).1,.int (wb a b).2.1,.int (wb a b).2.2]) hn rfl rfl rfl rfl g3 g1 w3 w1 (by omega);have al:dg (gR (ak (eC (.int 3)) aA)) (aM 0) cY (eB (aW .Eq) (eN (aR 4 lA) (ak (aj 1) (ak (aj 2) (ak (aj 0) (ak (eB (aP .Mod) (eB (aP .Add) (aj 0) (eC (.int 1))) (eC (.int 3))) aA))))) (eC (.int 0))) [none,some 5,some 6]
     [some (pD P),some (.int q),some (pD a),some (pD b),some (.int 2),some (.ref S3.length),some (pD (wb a b))] S4
     = some (.ref S4.length,S4++[.lst ([decide ((aq (aU P a q) (wb a b)).2.2=0),decide ((aq (aU P a q) (wb a b)).1=0),decide ((aq (aU P a q) (wb a b)).2.1=0)].map .bl)]):=by
     have one:∀(j i:Int) (x:Int),(∀S:So,eB (aP .Mod) (eB (aP .Add) (aj 0) (eC (.int 1))) (eC (.int 3)) [some (.int j),some (.ref S3.length),some (pD (wb a b))] S=some (.int i,S))->lA [.ref S3.length,pD (wb a b),.int j,.int i] S4=some (.int x,S4) ->
      eB (aW .Eq) (eN (aR 4 lA) (ak (aj 1) (ak (aj 2) (ak (aj 0) (ak (eB (aP .Mod) (eB (aP .Add) (aj 0) (eC (.int 1))) (eC (.int 3))) aA))))) (eC (.int 0)) [some (.int j),some (.ref S3.length),some (pD (wb a b))] S4=some (.bl (decide (x=0)),S4):=λj i x hm hf =>
      bC (aZ (aK (aF rfl) (aK (aF rfl) (aK (aF rfl) (aK (hm _) aY)))) (cM rfl hf)) bF xN
     refine p6 (j := .fix (gO 0 3)) (n:=3) (S1:=S4) rfl rfl (sH rfl) rfl ?_;refine nH (d := .int 0) rfl rfl nO (one 0 1 _ (λ_=>rfl) f0) rfl ?_;refine nH (d := .int 1) rfl rfl nO (one 1 2 _ (λ_=>rfl) f1) rfl ?_;refine nH (d := .int 2) rfl rfl nO (one 2 0 _ (λ_=>rfl) f2) rfl ?_;exact xQ rfl
    have eb:decide (aq (aU P a q) (wb a b)=(0,0,0))=[decide ((aq (aU P a q) (wb a b)).2.2=0),decide ((aq (aU P a q) (wb a b)).1=0),decide ((aq (aU P a q) (wb a b)).2.1=0)].all id:=by generalize aq (aU P a q) (wb a b)=c;rw[Bool.eq_iff_iff];simp only[m6,List.all_nil,id,Bool.and_true,dj,lX];exact⟨λh=>by rw[h];exact⟨rfl,rfl,rfl⟩,fun⟨x,y,z⟩=>yg y z x⟩
    rw[eb];refine bK (σ':=[some (pD P),some (.int q),some (pD a),some (pD b),some (.int 2),some (.ref S3.length),some (pD (wb a b))]) (S':=S4++[.lst ([decide ((aq (aU P a q) (wb a b)).2.2=0),decide ((aq (aU P a q) (wb a b)).1=0),decide ((aq (aU P a q) (wb a b)).2.1=0)].map .bl)]) ?_ (by rw[<-hS4,<-yL];simp) rfl;wtm_at "?b"
    unfold zK zU Ve Vf Uq;refine aL (jT (it _ _) rfl (fP (n0 _) (sets _ _ _) q0 (kh (fP (n1 _) (sets _ _ _) q1 (kh (fP (n2 _) (sets _ _ _) q2 (kh (zB (n3 _))))))))) (aV ?_);refine aL (cN gl rfl) (aV ?_);refine aL (cN (aZ (aK (aF rfl) (aK (aF rfl) aY)) (cM rfl Nf)) rfl) (aV ?_);exact aL (eG (aZ (aK al aY) (QZ cJ rfl))) cL
   .rw[if_neg (show ¬(dW (co 2 a) (co 2 b)*q<=co 2 P/\co 2 P<=cZ (co 2 a) (co 2 b)*q) from h2)] at q2;rw[fM (show ¬fZ P q a b from λh=>h2 h.1.2.2)];refine bK (σ':=[some (pD P),some (.int q),some (pD a),some (pD b),some (.int 2),none,none]) (S':=S++G0++G1++G2) ?_ (by simp) rfl;wtm_at "?b"
    unfold zK zU;exact aL (jT (it _ _) rfl (fP (n0 _) (sets _ _ _) q0 (kh (fP (n1 _) (sets _ _ _) q1 (kh (fP (n2 _) (sets _ _ _) q2 p7)))))) cL
  .rw[if_neg (show ¬(dW (co 1 a) (co 1 b)*q<=co 1 P/\co 1 P<=cZ (co 1 a) (co 1 b)*q) from h1)] at q1;rw[fM (show ¬fZ P q a b from λh=>h1 h.1.2.1)];refine bK (σ':=[some (pD P),some (.int q),some (pD a),some (pD b),some (.int 1),none,none]) (S':=S++G0++G1) ?_ (by simp) rfl;wtm_at "?b"
   unfold zK zU;exact aL (jT (it _ _) rfl (fP (n0 _) (sets _ _ _) q0 (kh (fP (n1 _) (sets _ _ _) q1 p7)))) cL
 .rw[if_neg (show ¬(dW (co 0 a) (co 0 b)*q<=co 0 P/\co 0 P<=cZ (co 0 a) (co 0 b)*q) from h0)] at q0;rw[fM (show ¬fZ P q a b from λh=>h0 h.1.1)];refine bK (σ':=[some (pD P),some (.int q),some (pD a),some (pD b),some (.int 0),none,none]) (S':=S++G0) ?_ (by simp) rfl;wtm_at "?b"
  unfold zK zU;exact aL (jT (it _ _) rfl (fP (n0 _) (sets _ _ _) q0 p7)) cL
end MX.P
end
section
local macro_rules | `(tactic| wtm_at "?d") => `(tactic| first | (with_reducible assumption) | (with_reducible first | exact MX.P.sp_pt _ _ _ | exact MX.P.sp_drawn _ _ _))
namespace MX.P
open PySem L2 MX
end MX.P
end
section
local macro_rules | `(tactic| wtm_at "?d") => `(tactic| first | (with_reducible assumption) | (with_reducible exact MX.P.sp_drawn _ _ _))
namespace MX.P
open PySem L2 MX
end MX.P
end
section
namespace MX.P
def jL(R L g:Pt)(q W x y:Int):Prop:=0<=x/\0<=y/\x+y<=W*q/\x*R.1+y*L.1=g.1*W/\x*R.2.1+y*L.2.1=g.2.1*W/\x*R.2.2+y*L.2.2=g.2.2*W
def gK(R L g:Pt)(q W x y:Int):Prop:=if W<0 then jL R L g q (0 - W) (0 - x) (0 - y) else jL R L g q W x y
noncomputable def sV(P:Pt)(q:Int)(a b c:Pt):Prop :=
 if(aq (wb a b) (wb a c)).2.2≠0 then gK (wb a b) (wb a c) (aU P a q) q (aq (wb a b) (wb a c)).2.2 (aq (aU P a q) (wb a c)).2.2 (aq (wb a b) (aU P a q)).2.2
 else if(aq (wb a b) (wb a c)).1≠0 then gK (wb a b) (wb a c) (aU P a q) q (aq (wb a b) (wb a c)).1 (aq (aU P a q) (wb a c)).1 (aq (wb a b) (aU P a q)).1
 else if(aq (wb a b) (wb a c)).2.1≠0 then gK (wb a b) (wb a c) (aU P a q) q (aq (wb a b) (wb a c)).2.1 (aq (aU P a q) (wb a c)).2.1 (aq (wb a b) (aU P a q)).2.1
 else fZ P q a b\/fZ P q b c\/fZ P q c a
theorem PJ{W:Int}(hq:0<t.2)(hW:0<W)(h:jL (wb a b) (wb a c) (aU (iY o d t) a t.2) t.2 W x y):iG d (wb o a) (wb o b) (wb o c) t:=by obtain⟨h1,h2,h3,e1,e2,e3⟩:=h;have hp:=Int.mul_pos hW hq;simp only[wb,aU,iY] at e1 e2 e3;refine⟨W*t.2 - x - y,x,y,by omega,h1,h2,by omega,?_,?_,?_⟩<;>simp only[wb]<;>grind
theorem Je{W:Int}(hq:0<t.2)(hW:W≠0)(h:gK (wb a b) (wb a c) (aU (iY o d t) a t.2) t.2 W x y):iG d (wb o a) (wb o b) (wb o c) t:=by
 unfold gK at h;split at h
 .exact PJ hq (by omega) h
 .exact PJ hq (by omega) h
theorem PK{R L g:Pt}{W s:Int}(hs:0<s)(hq:0<q)(v0:0<=v)(w0:0<=w)(vw:v+w<=s)(hW:0<W)(ex:s*x=q*v*W)(ey:s*y=q*w*W)(g1:s*g.1=q*(v*R.1+w*L.1))(g2:s*g.2.1=q*(v*R.2.1+w*L.2.1))(g3:s*g.2.2=q*(v*R.2.2+w*L.2.2)):jL R L g q W x y:=by
 have p1:=Int.mul_nonneg (Int.mul_nonneg (show 0<=q by omega) v0) (show 0<=W by omega);have p2:=Int.mul_nonneg (Int.mul_nonneg (show 0<=q by omega) w0) (show 0<=W by omega);have p3:=Int.mul_nonneg (Int.mul_nonneg (show 0<=q by omega) (show 0<=s - v - w by omega)) (show 0<=W by omega);have f:∀r l k:Int,s*k=q*(v*r+w*l)->x*r+y*l=k*W:=λr l k e=>by
  refine Df hs ?_;have e1:s*(x*r+y*l)=(s*x)*r+(s*y)*l:=by grind
  have e2:s*(k*W)=(s*k)*W:=by grind
  rw[e1,e2,ex,ey,e];grind
 refine⟨tM hs ex p1,tM hs ey p2,?_,f _ _ _ g1,f _ _ _ g2,f _ _ _ g3⟩;refine Int.le_of_mul_le_mul_left (a:=s) ?_ hs;have e1:s*(x+y)=s*x+s*y:=by grind
 have e2:q*(s - v - w)*W=s*(W*q) - q*v*W - q*w*W:=by grind
 rw[e1,ex,ey];omega
theorem Ie{R L g:Pt}{W s:Int}(hs:0<s)(hq:0<q)(v0:0<=v)(w0:0<=w)(vw:v+w<=s)(hW:W≠0)(ex:s*x=q*v*W)(ey:s*y=q*w*W)(g1:s*g.1=q*(v*R.1+w*L.1))(g2:s*g.2.1=q*(v*R.2.1+w*L.2.1))(g3:s*g.2.2=q*(v*R.2.2+w*L.2.2)):gK R L g q W x y:=by
 unfold gK;split
 .exact PK hs hq v0 w0 vw (by omega) (by grind) (by grind) g1 g2 g3
 .exact PK hs hq v0 w0 vw (by omega) ex ey g1 g2 g3
def wj{p o d a b c:Int}(e:(u+v+w)*p*d=q*(u*(a - o)+v*(b - o)+w*(c - o))):(u+v+w)*(o*q+d*p - a*q)=q*(v*(b - a)+w*(c - a)):=by grind
theorem H9{s r1 r2 l1 l2 g1 g2:Int}(e1:s*g1=q*(v*r1+w*l1))(e2:s*g2=q*(v*r2+w*l2)):
 s*(g1*l2 - g2*l1)=q*v*(r1*l2 - r2*l1)/\s*(r1*g2 - r2*g1)=q*w*(r1*l2 - r2*l1):=by
 constructor
 .have:s*(g1*l2 - g2*l1)=(s*g1)*l2 - (s*g2)*l1:=by grind
  rw[this,e1,e2];grind
 .have:s*(r1*g2 - r2*g1)=(s*g2)*r1 - (s*g1)*r2:=by grind
  rw[this,e1,e2];grind
theorem zkV(hq:0<t.2):sV (iY o d t) t.2 a b c↔iG d (wb o a) (wb o b) (wb o c) t:=by
 unfold sV;constructor
 .intro h;split at h
  .exact Je hq (by assumption) h
  .split at h
   .exact Je hq (by assumption) h
   .split at h
    .exact Je hq (by assumption) h
    .rw[xO hq,xO hq,xO hq] at h;exact Jj h
 .intro h;obtain⟨u,v,w,u0,v0,w0,hs,c1,c2,c3⟩:=id h;simp only[wb] at c1 c2 c3;have g1:=wj c1;have g2:=wj c2;have g3:=wj c3;have Wo:=H9 g1 g2;have Wn:=H9 g2 g3;have Wm:=H9 g3 g1;split
  .exact Ie hs hq v0 w0 (by omega) (by assumption) Wo.1 Wo.2 g1 g2 g3
  .split
   .exact Ie hs hq v0 w0 (by omega) (by assumption) Wn.1 Wn.2 g1 g2 g3
   .split
    .exact Ie hs hq v0 w0 (by omega) (by assumption) Wm.1 Wm.2 g1 g2 g3
    .rename_i n1 n2 n3;rw[xO hq,xO hq,xO hq];refine Ug ?_ h;rw[<-tE,<-tE];exact yg (Decidable.not_not.mp n2) (Decidable.not_not.mp n3) (Decidable.not_not.mp n1)
end MX.P
end
section
local macro_rules | `(tactic| wtm_at "?d") => `(tactic| first | (with_reducible assumption) | (with_reducible first | exact MX.P.sp_drawn _ _ _ | exact MX.P.sp_lway _ _ _ | exact MX.P.sp_time _ _ _))
namespace MX.P
open PySem L2 MX
instance (R L g:Pt) (q W x y:Int):Decidable (jL R L g q W x y):=by unfold jL;infer_instance
instance (R L g:Pt) (q W x y:Int):Decidable (gK R L g q W x y):=by unfold gK;infer_instance
instance (P:Pt) (q:Int) (a b c:Pt):Decidable (sV P q a b c):=by unfold sV;infer_instance
theorem JC{l:Nat}{gs ss:List D}{i:Int}(e1:eH gs i=some (.int x))(e2:eH gs j=some (.int y))(e3:eH ss i=some (.int u))(e4:eH ss j=some (.int v))(bx:Bd k x)(qt:Bd k y)(bu:Bd l u)(bv:Bd l v)(hk:k+l<=134217000):
 lA [.tup gs,.tup ss,.int i,.int j] S=some (.int (x*v - y*u),S):=by
 apply bK
 .wtm_at "?b"
  unfold Fw;wtm_at "?a"
 .wtm_at "?c"
 .rfl
theorem JB{l:Nat}{gs ss:List D}{i:Int}(hn:S[n]?=some (.lst ss))(e1:eH gs i=some (.int x))(e2:eH gs j=some (.int y))(e3:eH ss i=some (.int u))(e4:eH ss j=some (.int v))(bx:Bd k x)(qt:Bd k y)(bu:Bd l u)(bv:Bd l v)(hk:k+l<=134217000):
 lA [.tup gs,.ref n,.int i,.int j] S=some (.int (x*v - y*u),S):=by
 apply bK
 .wtm_at "?b"
  unfold Fw;wtm_at "?a"
 .wtm_at "?c"
 .rfl
noncomputable def Pj:SF:=(aC (c7 (iM (bG (eB (aW .Lt) (aj 12) (eC (.int 0)))) (iM (bG (eB (aW .Lt) (aj 13) (eC (.int 0)))) (bG (eB (aW .Gt) (eB (aP .Add) (aj 12) (aj 13)) (eB (aP .Mult) (aj 11) (aj 1)))))) (aC (bJ (eC (.bl false))) aQ) aQ) (aC (bA (dg (gR (ak (eC (.int 3)) aA)) (aM 0) cY (eB (aP .Add) (eB (aP .Mult) (aj 2) (eB aJ (aj 4) (aj 0))) (eB (aP .Mult) (aj 3) (eB aJ (aj 1) (aj 0)))) [none,some 7,some 12,some 13,some 6]) (aM 14)) (aC (bJ (eB (aW .Eq) (aj 14) (dg (eF (aj 8)) (aM 0) cY (eB (aP .Mult) (aj 0) (aj 1)) [none,some 11]))) aQ)))
theorem Qv(h:S[n]?=some (.lst xs))(h2:xs[i]?=none):di (.lst n) i S=some none:=by show(match S[n]? with|some (.lst xs)=>some xs[i]?|some (.frz xs)=>some xs[i]?|_=>none)=_;rw[h];exact congrArg some h2
section
variable {k n:Nat}{R L g:Pt}{q W x y:Int}{p0 p2 p3 p4 p5 p9 rG iV:Option D}{S:So}
open Classical in
theorem R5(hn:S[n]?=some (.lst [.int g.1,.int g.2.1,.int g.2.2]))(hR:aN k R)(hL:aN k L)(hg:aN k g)(bq:Bd k q)(bW:Bd k W)(bx:Bd k x)(qt:Bd k y)(hk:k<=60000000):
 ∃σ' G,Pj [p0,some (.int q),p2,p3,p4,p5,some (pD R),some (pD L),some (.ref n),p9,rG,some (.int W),some (.int x),some (.int y),iV] S=some (.rt (.bl (decide (jL R L g q W x y))),σ',S++G):=by
 obtain⟨r1,r2,r3⟩:=hR;obtain⟨l1,l2,l3⟩:=hL;obtain⟨g1,g2,g3⟩:=hg;have t1:bG (eB (aW .Lt) (aj 12) (eC (.int 0))) [p0,some (.int q),p2,p3,p4,p5,some (pD R),some (pD L),some (.ref n),p9,rG,some (.int W),some (.int x),some (.int y),iV] S=some (decide (x<0),S):=by wtm_at "?a"
 have t2:bG (eB (aW .Lt) (aj 13) (eC (.int 0))) [p0,some (.int q),p2,p3,p4,p5,some (pD R),some (pD L),some (.ref n),p9,rG,some (.int W),some (.int x),some (.int y),iV] S=some (decide (y<0),S):=by wtm_at "?a"
 have t3:bG (eB (aW .Gt) (eB (aP .Add) (aj 12) (aj 13)) (eB (aP .Mult) (aj 11) (aj 1))) [p0,some (.int q),p2,p3,p4,p5,some (pD R),some (pD L),some (.ref n),p9,rG,some (.int W),some (.int x),some (.int y),iV] S=some (decide (x+y>W*q),S):=by wtm_at "?a"
 unfold Pj;by_cases q1:x<0
 .rw[fM (show ¬jL R L g q W x y from λh=>by have:=h.1;omega)];exact⟨_,[],by rw[List.append_nil];exact aL (dF (jU t1 (d9 (jw q1) rfl)) (d9 rfl (aL (eG bF) cL))) cL⟩
 by_cases q2:y<0
 .rw[fM (show ¬jL R L g q W x y from λh=>by have:=h.2.1;omega)];exact⟨_,[],by rw[List.append_nil];exact aL (dF (jU t1 (dI (fM q1) (jU t2 (d9 (jw q2) rfl)))) (d9 rfl (aL (eG bF) cL))) cL⟩
 by_cases q3:x+y>W*q
 .rw[fM (show ¬jL R L g q W x y from λh=>by have:=h.2.2.1;omega)];exact⟨_,[],by rw[List.append_nil];exact aL (dF (jU t1 (dI (fM q1) (jU t2 (dI (fM q2) t3)))) (d9 (jw q3) (aL (eG bF) cL))) cL⟩
 have e1:dg (gR (ak (eC (.int 3)) aA)) (aM 0) cY (eB (aP .Add) (eB (aP .Mult) (aj 2) (eB aJ (aj 4) (aj 0))) (eB (aP .Mult) (aj 3) (eB aJ (aj 1) (aj 0)))) [none,some 7,some 12,some 13,some 6]
  [p0,some (.int q),p2,p3,p4,p5,some (pD R),some (pD L),some (.ref n),p9,rG,some (.int W),some (.int x),some (.int y),iV] S=some (.ref S.length,S++[.lst [.int (x*R.1+y*L.1),.int (x*R.2.1+y*L.2.1),.int (x*R.2.2+y*L.2.2)]]):=by wtm_at "?a"
 have hn':(S++[O.lst [.int (x*R.1+y*L.1),.int (x*R.2.1+y*L.2.1),.int (x*R.2.2+y*L.2.2)]])[n]?=some (.lst [.int g.1,.int g.2.1,.int g.2.2]):=fK hn;have hm:(S++[O.lst [.int (x*R.1+y*L.1),.int (x*R.2.1+y*L.2.1),.int (x*R.2.2+y*L.2.2)]])[S.length]?=some (.lst [.int (x*R.1+y*L.1),.int (x*R.2.1+y*L.2.1),.int (x*R.2.2+y*L.2.2)]):=cJ;refine⟨[p0,some (.int q),p2,p3,p4,p5,some (pD R),some (pD L),some (.ref n),p9,rG,some (.int W),some (.int x),some (.int y),some (.ref S.length)],[.lst [.int (x*R.1+y*L.1),.int (x*R.2.1+y*L.2.1),.int (x*R.2.2+y*L.2.2)]]++[.lst [.int (g.1*W),.int (g.2.1*W),.int (g.2.2*W)]],?_⟩;rw[<-fW];generalize hT:S++[O.lst [.int (x*R.1+y*L.1),.int (x*R.2.1+y*L.2.1),.int (x*R.2.2+y*L.2.2)]]=T at *
 have e2:dg (eF (aj 8)) (aM 0) cY (eB (aP .Mult) (aj 0) (aj 1)) [none,some 11]
  [p0,some (.int q),p2,p3,p4,p5,some (pD R),some (pD L),some (.ref n),p9,rG,some (.int W),some (.int x),some (.int y),some (.ref S.length)] T=some (.ref T.length,T++[.lst [.int (g.1*W),.int (g.2.1*W),.int (g.2.2*W)]]):=by
  refine p6 (σ1:=[none,some (.int W)]) (j := .lst n) (n:=3) (S1:=T) (S2:=T) (nJ (aF rfl) hn') ?_ (sH rfl) rfl ?_
  .show(match T[n]? with|some (.lst xs)=>some xs.length|some (.frz xs)=>some xs.length|_=>none)=_;rw[hn'];rfl
  .refine nH (d := .int g.1) (jx hn' rfl) rfl nO (bC (aF rfl) (aF rfl) (vf (vp g1 bW (by omega)))) rfl ?_;refine nH (d := .int g.2.1) (jx hn' rfl) rfl nO (bC (aF rfl) (aF rfl) (vf (vp g2 bW (by omega)))) rfl ?_;refine nH (d := .int g.2.2) (jx hn' rfl) rfl nO (bC (aF rfl) (aF rfl) (vf (vp g3 bW (by omega)))) rfl ?_;exact xQ (Qv hn' rfl)
 have hb:decide (jL R L g q W x y)=decide ([D.int (x*R.1+y*L.1),.int (x*R.2.1+y*L.2.1),.int (x*R.2.2+y*L.2.2)]=[D.int (g.1*W),.int (g.2.1*W),.int (g.2.2*W)]):=by
  rw[Bool.eq_iff_iff,lX,lX];unfold jL;simp only[List.cons.injEq,D.int.injEq,and_true];constructor
  .rintro⟨_,_,_,a,b,c⟩;exact⟨a,b,c⟩
  .rintro⟨a,b,c⟩;exact⟨by omega,by omega,by omega,a,b,c⟩
 rw[hb];refine aL (dF (jU t1 (dI (fM q1) (jU t2 (dI (fM q2) t3)))) (dI (fM q3) eX)) (aV (aL (cN e1 rfl) (aV (aL (eG (bC (aF rfl) e2 ?_)) cL))));refine Qh 1 (.inl (fK hm)) (.inl cJ) ?_ ?_ (by decide)
 .intro z hz;simp only[List.mem_cons,nY,or_false] at hz;rcases hz with e|e|e<;>subst e<;>rfl
 .intro z hz;simp only[List.mem_cons,nY,or_false] at hz;rcases hz with e|e|e<;>subst e<;>rfl
theorem Kc{i:Int}{rF lR lQ:Option D}(hf:lA [pD R,pD L,.int i,.int j] S=some (.int 0,S)):
 Ac [p0,some (.int q),p2,p3,p4,p5,some (pD R),some (pD L),some (.ref n),some (.int i),some (.int j),rF,lR,lQ,iV] S
  = some (.nx,[p0,some (.int q),p2,p3,p4,p5,some (pD R),some (pD L),some (.ref n),some (.int i),some (.int j),some (.int 0),lR,lQ,iV],S):=by
 unfold Ac Mu Mv;refine aL (cN (aZ (aK (aF rfl) (aK (aF rfl) (aK (aF rfl) (aK (aF rfl) aY)))) (cM rfl hf)) rfl) (aV ?_);exact aL (dF (b:=false) (S1:=S) rfl (dI rfl eX)) (aV eX)
theorem Kd{i:Int}{rF lR lQ:Option D}(hf:lA [pD R,pD L,.int i,.int j] S=some (.int W,S))(hx:lA [.ref n,pD L,.int i,.int j] S=some (.int x,S))(hy:lA [pD R,.ref n,.int i,.int j] S=some (.int y,S))(h0:W≠0)(hn:S[n]?=some (.lst [.int g.1,.int g.2.1,.int g.2.2]))(hR:aN k R)(hL:aN k L)(hg:aN k g)(bq:Bd k q)(bW:Bd k W)(bx:Bd k x)(qt:Bd k y)(hk:k<=60000000):
 ∃σ' G,Ac [p0,some (.int q),p2,p3,p4,p5,some (pD R),some (pD L),some (.ref n),some (.int i),some (.int j),rF,lR,lQ,iV] S
  = some (.rt (.bl (decide (gK R L g q W x y))),σ',S++G):=by
 have Wj:∀lR lQ,bG (eB (aW .NotEq) (aj 11) (eC (.int 0))) [p0,some (.int q),p2,p3,p4,p5,some (pD R),some (pD L),some (.ref n),some (.int i),some (.int j),some (.int W),lR,lQ,iV] S=some (true,S):=λlR lQ=>by
  have:bG (eB (aW .NotEq) (aj 11) (eC (.int 0))) [p0,some (.int q),p2,p3,p4,p5,some (pD R),some (pD L),some (.ref n),some (.int i),some (.int j),some (.int W),lR,lQ,iV] S=some (!decide (W=0),S):=by wtm_at "?a"
  rw[this,fM h0];rfl
 have Wk:bG (eB (aW .Lt) (aj 11) (eC (.int 0))) [p0,some (.int q),p2,p3,p4,p5,some (pD R),some (pD L),some (.ref n),some (.int i),some (.int j),some (.int W),some (.int x),some (.int y),iV] S=some (decide (W<0),S):=by wtm_at "?a"
 unfold Ac Mu Mv gK;by_cases hw:W<0
 .rw[show decide (if W<0 then jL R L g q (0 - W) (0 - x) (0 - y) else jL R L g q W x y)=decide (jL R L g q (0 - W) (0 - x) (0 - y)) from by congr 1;rw[if_pos hw]];obtain⟨σ',G,e⟩:=R5 (p0:=p0) (p2:=p2) (p3:=p3) (p4:=p4) (p5:=p5) (p9:=some (.int i)) (rG:=some (.int j)) (iV:=iV) (q:=q) (W:=0 - W) (x:=0 - x) (y:=0 - y) hn hR hL hg bq (by rw[Int.zero_sub];exact bW.neg) (by rw[Int.zero_sub];exact bx.neg) (by rw[Int.zero_sub];exact qt.neg) hk;refine⟨σ',G,?_⟩;refine aL (cN (aZ (aK (aF rfl) (aK (aF rfl) (aK (aF rfl) (aK (aF rfl) aY)))) (cM rfl hf)) rfl) (aV ?_);refine aL (dF (Wj _ _) (d9 rfl ?_)) cL;refine aL (cN (aZ (aK (aF rfl) (aK (aF rfl) (aK (aF rfl) (aK (aF rfl) aY)))) (cM rfl hx)) rfl) (aV ?_);refine aL (cN (aZ (aK (aF rfl) (aK (aF rfl) (aK (aF rfl) (aK (aF rfl) aY)))) (cM rfl hy)) rfl) (aV ?_);refine aL (dF Wk (d9 (jw hw) (aL (cN (aZ (ds:=[.int (0 - x),.int (0 - y),.int (0 - W)]) (S1:=S) rfl rfl) rfl) (aV eX)))) (aV ?_);exact e
 .rw[show decide (if W<0 then jL R L g q (0 - W) (0 - x) (0 - y) else jL R L g q W x y)=decide (jL R L g q W x y) from by congr 1;rw[if_neg hw]];obtain⟨σ',G,e⟩:=R5 (p0:=p0) (p2:=p2) (p3:=p3) (p4:=p4) (p5:=p5) (p9:=some (.int i)) (rG:=some (.int j)) (iV:=iV) (q:=q) (W:=W) (x:=x) (y:=y) hn hR hL hg bq bW bx qt hk;refine⟨σ',G,?_⟩;refine aL (cN (aZ (aK (aF rfl) (aK (aF rfl) (aK (aF rfl) (aK (aF rfl) aY)))) (cM rfl hf)) rfl) (aV ?_);refine aL (dF (Wj _ _) (d9 rfl ?_)) cL;refine aL (cN (aZ (aK (aF rfl) (aK (aF rfl) (aK (aF rfl) (aK (aF rfl) aY)))) (cM rfl hx)) rfl) (aV ?_);refine aL (cN (aZ (aK (aF rfl) (aK (aF rfl) (aK (aF rfl) (aK (aF rfl) aY)))) (cM rfl hy)) rfl) (aV ?_);refine aL (dF Wk (dI (fM hw) eX)) (aV ?_);exact e
end
theorem zfF{P:Pt}(hP:aN k P)(ha:aN k a)(hb:aN k b)(hc:aN k c)(hq:Bd k q)(hk:k<=3000)(S:So):
 Gd [pD P,.int q,.tup [pD a,pD b,pD c]] S=some (.bl (decide (sV P q a b c)),S):=by
 have bR:=(ha.wb hb).le (show max k k+1<=4*k+4 by omega);have bL:=(ha.wb hc).le (show max k k+1<=4*k+4 by omega);have bR':=(ha.wb hb).le (show max k k+1<=k+1 by omega);have bL':=(ha.wb hc).le (show max k k+1<=k+1 by omega);have W7:=Qn (hP.le (show k<=2*k by omega)) ha hq (bZ _);have bg:=W7.le (show 2*k+1<=4*k+4 by omega);have bq:=hq.le (show k<=4*k+4 by omega);have gl:dg (gR (ak (eC (.int 3)) aA)) (aM 0) cY (eB (aP .Sub) (eB aJ (aj 2) (aj 0)) (eB (aP .Mult) (eB aJ (aj 1) (aj 0)) (aj 3))) [none,some 3,some 0,some 1]
  [some (pD P),some (.int q),some (.tup [pD a,pD b,pD c]),some (pD a),some (pD b),some (pD c),some (pD (wb a b)),some (pD (wb a c)),none,none,none,none,none,none,none] S=some (.ref S.length,S++[.lst [.int (aU P a q).1,.int (aU P a q).2.1,.int (aU P a q).2.2]]):=by
  obtain⟨p1,p2,p3⟩:=hP;obtain⟨a1,a2,a3⟩:=ha;unfold aU;wtm_at "?a"
 have hn0:(S++[O.lst [.int (aU P a q).1,.int (aU P a q).2.1,.int (aU P a q).2.2]])[S.length]?=some (.lst [.int (aU P a q).1,.int (aU P a q).2.1,.int (aU P a q).2.2]):=cJ;have hpre:S++[O.lst [.int (aU P a q).1,.int (aU P a q).2.1,.int (aU P a q).2.2]]=S++([O.lst [.int (aU P a q).1,.int (aU P a q).2.1,.int (aU P a q).2.2]]):=rfl;have hn:(S++[O.lst [.int (aU P a q).1,.int (aU P a q).2.1,.int (aU P a q).2.2]]++[O.lst [R2 0 1,R2 1 2,R2 2 0]])[S.length]?=some (.lst [.int (aU P a q).1,.int (aU P a q).2.1,.int (aU P a q).2.2]):=fK hn0;have hm:(S++[O.lst [.int (aU P a q).1,.int (aU P a q).2.1,.int (aU P a q).2.2]]++[O.lst [R2 0 1,R2 1 2,R2 2 0]])[(S++[O.lst [.int (aU P a q).1,.int (aU P a q).2.1,.int (aU P a q).2.2]]).length]?=some (.lst [R2 0 1,R2 1 2,R2 2 0]):=cJ;have it:∀(σ:Sg) (T:So),eF (eN iB (ak (eN cD (ak (eC (.int 0)) (ak (eC (.int 1)) aA))) (ak (eN cD (ak (eC (.int 1)) (ak (eC (.int 2)) aA))) (ak (eN cD (ak (eC (.int 2)) (ak (eC (.int 0)) aA))) aA)))) σ T=some (.lst T.length,T++[O.lst [R2 0 1,R2 1 2,R2 2 0]]):=λσ T=>nJ (xs:=[R2 0 1,R2 1 2,R2 2 0]) rfl cJ;have tk:∀G:So,(S++[O.lst [.int (aU P a q).1,.int (aU P a q).2.1,.int (aU P a q).2.2]]++[O.lst [R2 0 1,R2 1 2,R2 2 0]]++G).take S.length=S:=λG=>by rw[fW,fW];simp
 have tk0:(S++[O.lst [.int (aU P a q).1,.int (aU P a q).2.1,.int (aU P a q).2.2]]++[O.lst [R2 0 1,R2 1 2,R2 2 0]]).take S.length=S:=by rw[fW];simp
 generalize hT:S++[O.lst [.int (aU P a q).1,.int (aU P a q).2.1,.int (aU P a q).2.2]]=T at *
 generalize hU:T++[O.lst [R2 0 1,R2 1 2,R2 2 0]]=U at *
 have it':∀σ:Sg,eF (eN iB (ak (eN cD (ak (eC (.int 0)) (ak (eC (.int 1)) aA))) (ak (eN cD (ak (eC (.int 1)) (ak (eC (.int 2)) aA))) (ak (eN cD (ak (eC (.int 2)) (ak (eC (.int 0)) aA))) aA)))) σ T=some (.lst T.length,U):=λσ=>by rw[<-hU];exact it σ T
 obtain⟨r1,r2,r3⟩:=id bR';obtain⟨l1,l2,l3⟩:=id bL';obtain⟨g1,g2,g3⟩:=id W7;have cnt:sG (.lst T.length) U=some 3:=by show(match U[T.length]? with|some (.lst xs)=>some xs.length|some (.frz xs)=>some xs.length|_=>none)=_;rw[hm];rfl
 have w01:=JC (S:=U) (i:=0) (j:=1) (gs:=[.int (wb a b).1,.int (wb a b).2.1,.int (wb a b).2.2]) (ss:=[.int (wb a c).1,.int (wb a c).2.1,.int (wb a c).2.2]) rfl rfl rfl rfl r1 r2 l1 l2 (by omega);have x01:=yc (i:=0) (j:=1) (ss:=[.int (wb a c).1,.int (wb a c).2.1,.int (wb a c).2.2]) hn rfl rfl rfl rfl g1 g2 l1 l2 (by omega);have y01:=JB (i:=0) (j:=1) (gs:=[.int (wb a b).1,.int (wb a b).2.1,.int (wb a b).2.2]) hn rfl rfl rfl rfl r1 r2 g1 g2 (by omega);have w12:=JC (S:=U) (i:=1) (j:=2) (gs:=[.int (wb a b).1,.int (wb a b).2.1,.int (wb a b).2.2]) (ss:=[.int (wb a c).1,.int (wb a c).2.1,.int (wb a c).2.2]) rfl rfl rfl rfl r2 r3 l2 l3 (by omega);have x12:=yc (i:=1) (j:=2) (ss:=[.int (wb a c).1,.int (wb a c).2.1,.int (wb a c).2.2]) hn rfl rfl rfl rfl g2 g3 l2 l3 (by omega);have y12:=JB (i:=1) (j:=2) (gs:=[.int (wb a b).1,.int (wb a b).2.1,.int (wb a b).2.2]) hn rfl rfl rfl rfl r2 r3 g2 g3 (by omega);have w20:=JC (S:=U) (i:=2) (j:=0) (gs:=[.int (wb a b).1,.int (wb a b).2.1,.int (wb a b).2.2]) (ss:=[.int (wb a c).1,.int (wb a c).2.1,.int (wb a c).2.2]) rfl rfl rfl rfl r3 r1 l3 l1 (by omega);have x20:=yc (i:=2) (j:=0) (ss:=[.int (wb a c).1,.int (wb a c).2.1,.int (wb a c).2.2]) hn rfl rfl rfl rfl g3 g1 l3 l1 (by omega);have y20:=JB (i:=2) (j:=0) (gs:=[.int (wb a b).1,.int (wb a b).2.1,.int (wb a b).2.2]) hn rfl rfl rfl rfl r3 r1 g3 g1 (by omega);have bd:∀{k' l':Nat} {x y u v:Int},Bd k' x->Bd k' y->Bd l' u->Bd l' v->k'<=2*k+1->l'<=2*k+1->k'+l'<=3*k+2->Bd (4*k+4) (x*v - y*u):=λhx hy hu hv h1 h2 h3=>((hx.mul hv).sub (hy.mul hu)).le (by omega);have go:∀r σ' S',S'.take S.length=S ->
  aC Wh (aC V9 aQ) [some (pD P),some (.int q),some (.tup [pD a,pD b,pD c]),some (pD a),some (pD b),some (pD c),some (pD (wb a b)),some (pD (wb a c)),some (.ref S.length),none,none,none,none,none,none] T=some (.rt (.bl r),σ',S') ->
  Gd [pD P,.int q,.tup [pD a,pD b,pD c]] S=some (.bl r,S):=λr σ' S' ht e=>by
  refine bK (σ':=σ') (S':=S') ?_ ht rfl;wtm_at "?b"
  unfold V2 Wa Wc Wd Wg;refine aL (cN (aF rfl) rfl) (aV ?_);refine aL (cN (aZ (aK (aF rfl) (aK (aF rfl) aY)) (cM rfl (sp_lway a b _))) rfl) (aV ?_);refine aL (cN (aZ (aK (aF rfl) (aK (aF rfl) aY)) (cM rfl (sp_lway a c _))) rfl) (aV ?_);exact aL (cN gl rfl) (aV e)
 unfold sV;by_cases h0:(aq (wb a b) (wb a c)).2.2=0
 .rw[show((wb a b).1*(wb a c).2.1 - (wb a b).2.1*(wb a c).1)=0 from h0] at w01;have q0:=Kc (p0:=some (pD P)) (p2:=some (.tup [pD a,pD b,pD c])) (p3:=some (pD a)) (p4:=some (pD b)) (p5:=some (pD c)) (rF:=none) (lR:=none) (lQ:=none) (iV:=none) (n:=S.length) (q:=q) w01;by_cases h1:(aq (wb a b) (wb a c)).1=0
  .rw[show((wb a b).2.1*(wb a c).2.2 - (wb a b).2.2*(wb a c).2.1)=0 from h1] at w12;have q1:=Kc (p0:=some (pD P)) (p2:=some (.tup [pD a,pD b,pD c])) (p3:=some (pD a)) (p4:=some (pD b)) (p5:=some (pD c)) (rF:=some (.int 0)) (lR:=none) (lQ:=none) (iV:=none) (n:=S.length) (q:=q) w12;by_cases h2:(aq (wb a b) (wb a c)).2.1=0
   .rw[show((wb a b).2.2*(wb a c).1 - (wb a b).1*(wb a c).2.2)=0 from h2] at w20;have q2:=Kc (p0:=some (pD P)) (p2:=some (.tup [pD a,pD b,pD c])) (p3:=some (pD a)) (p4:=some (pD b)) (p5:=some (pD c)) (rF:=some (.int 0)) (lR:=none) (lQ:=none) (iV:=none) (n:=S.length) (q:=q) w20;have o1:=Hw hP ha hb hq (by omega) U;have o2:=Hw hP hb hc hq (by omega) U;have o3:=Hw hP hc ha hq (by omega) U;rw[show decide (if(aq (wb a b) (wb a c)).2.2≠0 then gK (wb a b) (wb a c) (aU P a q) q (aq (wb a b) (wb a c)).2.2 (aq (aU P a q) (wb a c)).2.2 (aq (wb a b) (aU P a q)).2.2
     else if(aq (wb a b) (wb a c)).1≠0 then gK (wb a b) (wb a c) (aU P a q) q (aq (wb a b) (wb a c)).1 (aq (aU P a q) (wb a c)).1 (aq (wb a b) (aU P a q)).1
     else if(aq (wb a b) (wb a c)).2.1≠0 then gK (wb a b) (wb a c) (aU P a q) q (aq (wb a b) (wb a c)).2.1 (aq (aU P a q) (wb a c)).2.1 (aq (wb a b) (aU P a q)).2.1
     else fZ P q a b\/fZ P q b c\/fZ P q c a)=(decide (fZ P q a b)||(decide (fZ P q b c)||decide (fZ P q c a))) from by
      rw[Bool.eq_iff_iff];simp[h0,h1,h2]]
    refine go _ _ U tk0 (aL (jT (it' _) cnt (fP (jx hm rfl) rfl q0 (kh (fP (jx hm rfl) rfl q1 (kh (fP (jx hm rfl) rfl q2 (kh (zB (Qv hm rfl))))))))) (aV (aL (eG (u6 (aZ (aK (aF rfl) (aK (aF rfl) (aK (aF rfl) (aK (aF rfl) aY)))) (cM rfl o1)) ?_)) cL)));by_cases c1:fZ P q a b
    .rw[jw c1];exact d9 rfl rfl
    .rw[fM c1,Bool.false_or];refine dI rfl (u6 (aZ (aK (aF rfl) (aK (aF rfl) (aK (aF rfl) (aK (aF rfl) aY)))) (cM rfl o2)) ?_);by_cases c2:fZ P q b c
     .rw[jw c2];exact d9 rfl rfl
     .rw[fM c2,Bool.false_or];exact dI rfl (aZ (aK (aF rfl) (aK (aF rfl) (aK (aF rfl) (aK (aF rfl) aY)))) (cM rfl o3))
   .obtain⟨σ',G,q2⟩:=Kd (p0:=some (pD P)) (p2:=some (.tup [pD a,pD b,pD c])) (p3:=some (pD a)) (p4:=some (pD b)) (p5:=some (pD c)) (rF:=some (.int 0)) (lR:=none) (lQ:=none) (iV:=none) (q:=q) w20 x20 y20 h2 hn bR bL bg bq (bd r3 r1 l3 l1 (by omega) (by omega) (by omega)) (bd g3 g1 l3 l1 (by omega) (by omega) (by omega)) (bd r3 r1 g3 g1 (by omega) (by omega) (by omega)) (by omega);rw[show decide (if(aq (wb a b) (wb a c)).2.2≠0 then gK (wb a b) (wb a c) (aU P a q) q (aq (wb a b) (wb a c)).2.2 (aq (aU P a q) (wb a c)).2.2 (aq (wb a b) (aU P a q)).2.2
     else if(aq (wb a b) (wb a c)).1≠0 then gK (wb a b) (wb a c) (aU P a q) q (aq (wb a b) (wb a c)).1 (aq (aU P a q) (wb a c)).1 (aq (wb a b) (aU P a q)).1
     else if(aq (wb a b) (wb a c)).2.1≠0 then gK (wb a b) (wb a c) (aU P a q) q (aq (wb a b) (wb a c)).2.1 (aq (aU P a q) (wb a c)).2.1 (aq (wb a b) (aU P a q)).2.1
     else fZ P q a b\/fZ P q b c\/fZ P q c a)=decide (gK (wb a b) (wb a c) (aU P a q) q (aq (wb a b) (wb a c)).2.1 (aq (aU P a q) (wb a c)).2.1 (aq (wb a b) (aU P a q)).2.1) from by
      rw[Bool.eq_iff_iff];simp[h0,h1,h2]]
    exact go _ _ (U++G) (tk G) (aL (jT (it' _) cnt (fP (jx hm rfl) rfl q0 (kh (fP (jx hm rfl) rfl q1 (kh (fP (jx hm rfl) rfl q2 p7)))))) cL)
  .obtain⟨σ',G,q1⟩:=Kd (p0:=some (pD P)) (p2:=some (.tup [pD a,pD b,pD c])) (p3:=some (pD a)) (p4:=some (pD b)) (p5:=some (pD c)) (rF:=some (.int 0)) (lR:=none) (lQ:=none) (iV:=none) (q:=q) w12 x12 y12 h1 hn bR bL bg bq (bd r2 r3 l2 l3 (by omega) (by omega) (by omega)) (bd g2 g3 l2 l3 (by omega) (by omega) (by omega)) (bd r2 r3 g2 g3 (by omega) (by omega) (by omega)) (by omega);rw[show decide (if(aq (wb a b) (wb a c)).2.2≠0 then gK (wb a b) (wb a c) (aU P a q) q (aq (wb a b) (wb a c)).2.2 (aq (aU P a q) (wb a c)).2.2 (aq (wb a b) (aU P a q)).2.2
    else if(aq (wb a b) (wb a c)).1≠0 then gK (wb a b) (wb a c) (aU P a q) q (aq (wb a b) (wb a c)).1 (aq (aU P a q) (wb a c)).1 (aq (wb a b) (aU P a q)).1
    else if(aq (wb a b) (wb a c)).2.1≠0 then gK (wb a b) (wb a c) (aU P a q) q (aq (wb a b) (wb a c)).2.1 (aq (aU P a q) (wb a c)).2.1 (aq (wb a b) (aU P a q)).2.1
    else fZ P q a b\/fZ P q b c\/fZ P q c a)=decide (gK (wb a b) (wb a c) (aU P a q) q (aq (wb a b) (wb a c)).1 (aq (aU P a q) (wb a c)).1 (aq (wb a b) (aU P a q)).1) from by
     rw[Bool.eq_iff_iff];simp[h0,h1]]
   exact go _ _ (U++G) (tk G) (aL (jT (it' _) cnt (fP (jx hm rfl) rfl q0 (kh (fP (jx hm rfl) rfl q1 p7)))) cL)
 .obtain⟨σ',G,q0⟩:=Kd (p0:=some (pD P)) (p2:=some (.tup [pD a,pD b,pD c])) (p3:=some (pD a)) (p4:=some (pD b)) (p5:=some (pD c)) (rF:=none) (lR:=none) (lQ:=none) (iV:=none) (q:=q) w01 x01 y01 h0 hn bR bL bg bq (bd r1 r2 l1 l2 (by omega) (by omega) (by omega)) (bd g1 g2 l1 l2 (by omega) (by omega) (by omega)) (bd r1 r2 g1 g2 (by omega) (by omega) (by omega)) (by omega);rw[show decide (if(aq (wb a b) (wb a c)).2.2≠0 then gK (wb a b) (wb a c) (aU P a q) q (aq (wb a b) (wb a c)).2.2 (aq (aU P a q) (wb a c)).2.2 (aq (wb a b) (aU P a q)).2.2
   else if(aq (wb a b) (wb a c)).1≠0 then gK (wb a b) (wb a c) (aU P a q) q (aq (wb a b) (wb a c)).1 (aq (aU P a q) (wb a c)).1 (aq (wb a b) (aU P a q)).1
   else if(aq (wb a b) (wb a c)).2.1≠0 then gK (wb a b) (wb a c) (aU P a q) q (aq (wb a b) (wb a c)).2.1 (aq (aU P a q) (wb a c)).2.1 (aq (wb a b) (aU P a q)).2.1
   else fZ P q a b\/fZ P q b c\/fZ P q c a)=decide (gK (wb a b) (wb a c) (aU P a q) q (aq (wb a b) (wb a c)).2.2 (aq (aU P a q) (wb a c)).2.2 (aq (wb a b) (aU P a q)).2.2) from by
    rw[Bool.eq_iff_iff];simp[h0]]
  exact go _ _ (U++G) (tk G) (aL (jT (it' _) cnt (fP (jx hm rfl) rfl q0 p7)) cL)
end MX.P
end
section
local macro_rules | `(tactic| wtm_at "?d") => `(tactic| (with_reducible assumption))
namespace MX.P
open PySem L2 MX
def zmz(o d:Pt)(s:Sh):Inv (qC o d s):=by
 cases s with
 |box lo hi=>exact Ik o d lo hi
 |tri a b c=>exact zG d (wb o a) (wb o b) (wb o c)
def iQ(o d:Pt)(s:Sh)(l:Int):Prop:=∃p,gP o d s=some p/\p.1<=l*p.2
theorem Iw(h0:d≠(0,0,0)):iQ o d s l↔∃t:Int×Int,0<=t.1/\0<t.2/\t.1<=l*t.2/\qC o d s t:=by
 have f:=JV (o:=o) h0 s;constructor
 .rintro⟨p,e,h⟩
  rw[e] at f;exact⟨p,f.1,f.2.1,h,f.2.2.1⟩
 .rintro⟨t,t0,t1,t2,ht⟩
  cases e:gP o d s with
  |none=>rw[e] at f;exact absurd ht (f t t0 t1)
  |some p =>
   rw[e] at f;refine⟨p,e,?_⟩;have h:=f.2.2.2 t t0 t1 ht;unfold leQ at h;have k:=Int.mul_le_mul_of_nonneg_left t2 (show 0<=p.2 by have:=f.2.1;omega);have e1:t.2*p.1=p.1*t.2:=by grind
   have e2:t.2*(l*p.2)=p.2*(l*t.2):=by grind
   have e3:t.1*p.2=p.2*t.1:=by grind
   exact Int.le_of_mul_le_mul_left (a:=t.2) (by omega) t1
theorem Ji{o d h p:Int}(H:iJ o d l h (p,q)):iJ (o+d) (-d) l h (q - p,q):=by
 unfold iJ at *
 simp only at *
 have:(o+d)*q + -d*(q - p)=o*q+d*p:=by grind
 omega
theorem znY{x:Pt}(h:qC o (wb o x) s t):qC x (wb x o) s (t.2 - t.1,t.2):=by
 obtain⟨p,q⟩:=t;obtain⟨o1,o2,o3⟩:=o;obtain⟨x1,x2,x3⟩:=x;cases s with
 |box lo hi =>
  obtain⟨a,b,c⟩:=h;have a':=Ji a;have b':=Ji b;have c':=Ji c;simp only[wb] at a' b' c';refine⟨?_,?_,?_⟩
  .show iJ x1 (o1 - x1) lo.1 hi.1 (q - p,q);rw[show x1=o1+(x1 - o1) by omega,show o1 - (o1+(x1 - o1)) = -(x1 - o1) by omega];exact a'
  .show iJ x2 (o2 - x2) lo.2.1 hi.2.1 (q - p,q);rw[show x2=o2+(x2 - o2) by omega,show o2 - (o2+(x2 - o2)) = -(x2 - o2) by omega];exact b'
  .show iJ x3 (o3 - x3) lo.2.2 hi.2.2 (q - p,q);rw[show x3=o3+(x3 - o3) by omega,show o3 - (o3+(x3 - o3)) = -(x3 - o3) by omega];exact c'
 |tri a b c =>
  obtain⟨u,v,w,u0,v0,w0,hs,c1,c2,c3⟩:=h;refine⟨u,v,w,u0,v0,w0,hs,?_,?_,?_⟩
  .simp only[wb] at c1 ⊢;grind
  .simp only[wb] at c2 ⊢;grind
  .simp only[wb] at c3 ⊢;grind
def Hv(h:wb a b≠(0,0,0)):wb b a≠(0,0,0):=λe=>h (by
 obtain⟨a1,a2,a3⟩:=a;obtain⟨b1,b2,b3⟩:=b;simp only[wb,Prod.mk.injEq] at *
 omega)
def Xl(h:wb a b=(0,0,0)):a=b:=by
 obtain⟨a1,a2,a3⟩:=a;obtain⟨b1,b2,b3⟩:=b;simp only[wb,Prod.mk.injEq] at *
 omega
def znv(a:Pt):wb a a=(0,0,0):=by obtain⟨a1,a2,a3⟩:=a;simp only[wb,Prod.mk.injEq];omega
theorem Tz{x:Pt}(h:wb o x≠(0,0,0))(m:iQ o (wb o x) s 1):iQ x (wb x o) s 1:=by obtain⟨t,t0,t1,t2,ht⟩:=(Iw h).mp m;exact(Iw (Hv h)).mpr ⟨(t.2 - t.1,t.2),by simp only;omega,t1,by simp only;omega,znY ht⟩
def RL{x:Pt}(h:wb o x≠(0,0,0)):iQ o (wb o x) s 1↔iQ x (wb x o) s 1:=⟨Tz h,Tz (Hv h)⟩
theorem RM(h0:d≠(0,0,0)):iQ o d s 0↔qC o d s (0,1):=by
 rw[Iw h0];constructor
 .rintro⟨t,t0,t1,t2,ht⟩
  refine zmz o d s t (0,1) t1 (by decide) ?_ ht;have:t.1=0:=by omega
  rw[this];simp
 .exact λh=>⟨(0,1),by decide,by decide,by decide,h⟩
noncomputable def qD(p:Pt):Sh->Prop
 |.box lo hi=>kI lo p/\kI p hi
 |.tri a b c=>sV p 1 a b c
theorem Tc:qC o d s (0,1)↔qD o s:=by
 cases s with
 |box lo hi =>
  show inB o d lo hi (0,1)↔_;unfold inB iJ qD kI;simp only[Int.mul_one,Int.mul_zero,Int.add_zero];constructor
  .rintro⟨⟨a,b⟩,⟨c,d⟩,e,f⟩;exact⟨⟨a,c,e⟩,b,d,f⟩
  .rintro⟨⟨a,c,e⟩,b,d,f⟩;exact⟨⟨a,b⟩,⟨c,d⟩,e,f⟩
 |tri a b c =>
  have:=zkV (o:=o) (d:=d) (a:=a) (b:=b) (c:=c) (t:=(0,1)) (by decide);have e:iY o d (0,1)=o:=by obtain⟨o1,o2,o3⟩:=o;simp[iY]
  rw[e] at this;exact this.symm
open Classical in
noncomputable def mJ(o x:Pt)(shs:List Sh):Bool:=if wb o x=(0,0,0) then decide (∀s∈shs,¬iQ o (1,0,0) s 0) else decide (∀s∈shs,¬iQ o (wb o x) s 1)
def zk1(h0:d≠(0,0,0))(e:sU o d shs=none):∀s∈shs,¬iQ o d s l:=λs hs ⟨p,q,_⟩=>by rw[zjx h0 e s hs] at q;cases q
theorem zk0(h0:d≠(0,0,0)){h:fL}(e:sU o d shs=some h):l*h.1.2<h.1.1↔∀s∈shs,¬iQ o d s l:=by
 obtain⟨⟨s,h1,h2⟩,h3⟩:=UG h0 e;have f:=JV (o:=o) h0 s;rw[h2] at f;constructor
 .rintro q s' hs' ⟨p,e',hp⟩
  have k:=h3 s' hs' p e';have f':=JV (o:=o) h0 s';rw[e'] at f';unfold leQ at k;have k1:=Int.mul_le_mul_of_nonneg_left hp (show 0<=h.1.2 by have:=f.2.1;omega);have k2:=Int.mul_lt_mul_of_pos_left q f'.2.1;have e1:h.1.2*(l*p.2)=p.2*(l*h.1.2):=by grind
  have e2:h.1.1*p.2=p.2*h.1.1:=by grind
  have e3:p.1*h.1.2=h.1.2*p.1:=by grind
  omega
 .intro q;exact Int.not_le.mp λc=>q s (List.mem_of_getElem? h1) ⟨h.1,h2,c⟩
section
variable {K:Nat}{o x:Pt}(ho:aN K o)(hx:aN K x)
open Classical in
include ho hx in
theorem RK(hK:K<=1000){t:Option Tr}(ok:uF (K+1) shs t)(S:So)(c:Nat)(hS:WF S)(sc:jc S c shs t):Fy [.ref c,pD o,pD x] S=some (.bl (mJ o x shs),S):=by
 have hw:=Vy o.1 o.2.1 o.2.2 x.1 x.2.1 x.2.2 S;have hw':d8 [pD o,pD x] S=some (pD (wb o x),S):=hw;have bw:=(ho.wb hx).le (show max K K+1<=K+1 by omega);have key:∀(d:Pt) (l:Int),d≠(0,0,0)->aN (K+1) d->Bd 1 l ->
  qp (eB (aW .Is) (aj 5) (eC .non)) (eN (aR 2 p8) (ak (aj 4) (ak (eB aJ (aj 5) (eC (.int 0))) aA))) [some (.ref c),some (pD o),some (pD x),some (pD d),some (R2 l 1),some (lK (sU o d shs))] S=some (.bl (decide (∀s∈shs,¬iQ o d s l)),S):=λd l h0 bd bl=>by
  cases e:sU o d shs with
  |none =>
   rw[jw (zk1 h0 e)];exact u6 (b:=true) (bC (aF rfl) bF pZ) (d9 rfl rfl)
  |some h =>
   obtain⟨⟨s,h1,h2⟩,_⟩:=UG h0 e;have b:=Qa (ho.le (show K<=K+1 by omega)) bd (ok.sh s (List.mem_of_getElem? h1)) h0 h.1 h2;have hl:=sp_is_less bl (Bd.lit 1) b.2.2.1 b.2.2.2 (by omega) S;have ee:decide (l*h.1.2<h.1.1*1)=decide (∀s∈shs,¬iQ o d s l):=by rw[Int.mul_one];exact decide_eq_decide.mpr (zk0 h0 e)
   rw[ee] at hl;exact u6 (b:=false) (bC (aF rfl) bF pZ) (dI rfl (aZ (aK (aF rfl) (aK (bC (aF rfl) bF (gb (z:=rD h.1) rfl)) aY)) (cM rfl hl)))
 have oU:∀b,decide (pD (wb o x)=P3 0 0 0)=b->bG (eB (aW .Eq) (aj 3) (eN cD (ak (eC (.int 0)) (ak (eC (.int 0)) (ak (eC (.int 0)) aA))))) [some (.ref c),some (pD o),some (pD x),some (pD (wb o x)),some (R2 1 1),none] S=some (b,S):=λb h=>by rw[<-h];exact fY (bC (aF rfl) (aZ (aK bF (aK bF (aK bF aY))) (lN (by show 3<=sizeLine;decide))) (u9 rfl 1 rfl rfl (by decide)))
 have b1:Bd (K+1) 1:=(Bd.lit 1).le (show 1<=K+1 by omega);have b0:Bd (K+1) 0:=(Bd.lit 0).le (Nat.zero_le _);by_cases h:wb o x=(0,0,0)
 .have fr:=Vb (K:=K+1) (o:=o) (d:=(1,0,0)) (ho.le (by omega)) ⟨b1,b0,b0⟩ (by decide) (by omega) ok S c hS sc;have k:=key (1,0,0) 0 (by decide) ⟨b1,b0,b0⟩ ((Bd.lit 0).le (Nat.zero_le _));have e:mJ o x shs=decide (∀s∈shs,¬iQ o (1,0,0) s 0):=if_pos h;rw[e];apply bK
  .wtm_at "?b"
   unfold Fx;refine aL (cN (aZ (aK (aF rfl) (aK (aF rfl) aY)) (cM rfl hw')) (dw rfl)) (aV (aL (cN (aZ (aK bF (aK bF aY)) (lN (by show 2<=sizeLine;decide))) (dw rfl)) (aV ?_)));refine aL (dF (oU true (jw (tG.mpr h))) (d9 rfl (aL (cN (aZ (aK bF (aK bF (aK bF aY))) (lN (by show 3<=sizeLine;decide))) (dw rfl)) (aV (aL (cN (aZ (aK bF (aK bF aY)) (lN (by show 2<=sizeLine;decide))) (dw rfl)) (aV eX)))))) (aV ?_);refine aL (cN (zA (aF rfl) sc.ins rfl (aK (aZ (aK (aF rfl) (aK (aF rfl) aY)) (lN (by show 2<=sizeLine;decide))) aY) rfl fr) (dw rfl)) (aV ?_);exact aL (eG k) cL
  .exact lY
  .rfl
 .have fr:=Vb (K:=K+1) (o:=o) (d:=wb o x) (ho.le (by omega)) bw h (by omega) ok S c hS sc;have k:=key (wb o x) 1 h bw (Bd.lit 1);have e:mJ o x shs=decide (∀s∈shs,¬iQ o (wb o x) s 1):=if_neg h;rw[e];apply bK
  .wtm_at "?b"
   unfold Fx;refine aL (cN (aZ (aK (aF rfl) (aK (aF rfl) aY)) (cM rfl hw')) (dw rfl)) (aV (aL (cN (aZ (aK bF (aK bF aY)) (lN (by show 2<=sizeLine;decide))) (dw rfl)) (aV ?_)));refine aL (dF (oU false (fM λq=>h (tG.mp q))) (dI rfl eX)) (aV ?_);refine aL (cN (zA (aF rfl) sc.ins rfl (aK (aZ (aK (aF rfl) (aK (aF rfl) aY)) (lN (by show 2<=sizeLine;decide))) aY) rfl fr) (dw rfl)) (aV ?_);exact aL (eG k) cL
  .exact lY
  .rfl
end
end MX.P
end
end
section
local macro_rules | `(tactic| wtm_at "?d") => `(tactic| (with_reducible assumption))
namespace MX.P
open PySem L2 MX
theorem Qf{S:So}{n:Nat}{bs:List Bool}(h1:S[n]?=some (.lst (bs.map .bl))):uI [.ref n] S=some (.bl (bs.any id),S):=by unfold uI;simp only;rw[h1];simp only;rw[Vh];rfl
def Zq:o8 "bool" "bool" = some true:=by decide +kernel
theorem zle{b:Bool}{S:So}:uJ [.bl b,.ty "bool"] S=some (.bl true,S):=by show((some "bool").bind λt=>(o8 t "bool").map λb=>(D.bl b,S))=_;simp only[cg,Zq,pN]
open Classical in
theorem zi7{K:Nat}{o x:Pt}{s:Sh}(ho:aN K o)(hx:aN K x)(hs:kW (K+1) s)(h0:wb o x≠(0,0,0))(hK:K<=1000)(S:So)(hS:WF S):K3 [pD o,pD x,cR s] S=some (.bl (decide (iQ o (wb o x) s 1)),S):=by
 have hw:=sp_lway o x S;have bw:=(ho.wb hx).le (show max K K+1<=K+1 by omega);have hm:=zhq (ho.le (show K<=K+1 by omega)) bw hs h0 (by omega) S hS;have e:∀m,gP o (wb o x) s=m->m7 (eB (aW .IsNot) (aj 3) (eC .non)) (eB (aW .LtE) (eB aJ (aj 3) (eC (.int 0))) (eB aJ (aj 3) (eC (.int 1)))) [some (pD o),some (pD x),some (cR s),some (tD m)] S=some (.bl (decide (iQ o (wb o x) s 1)),S):=λm hm=>by
  cases m with
  |none =>
   rw[fM (fun⟨p,q,_⟩=>by rw[hm] at q;cases q)];exact xU (b:=false) (bC (aF rfl) bF zT) (dI rfl rfl)
  |some p =>
   have ee:decide (iQ o (wb o x) s 1)=decide (p.1<=p.2):=decide_eq_decide.mpr ⟨fun⟨q,e,h⟩=>by
    rw[hm] at e;cases e;rw[Int.one_mul] at h;exact h,λh=>⟨p,hm,by rw[Int.one_mul];exact h⟩⟩
   rw[ee];exact xU (b:=true) (bC (aF rfl) bF zT) (d9 rfl (bC (bC (aF rfl) bF (gb (z := .int p.1) rfl)) (bC (aF rfl) bF (gb (z := .int p.2) rfl)) DK))
 apply bK
 .wtm_at "?b"
  unfold VL;exact aL (cN (aZ (aK (aZ (aK (aF rfl) (aK (aZ (aK (aF rfl) (aK (aF rfl) aY)) (cM rfl hw)) aY)) (lN (by show 2<=sizeLine;decide))) (aK (aF rfl) aY)) (cM rfl hm)) (dw rfl)) (aV (aL (eG (e _ rfl)) cL))
 .exact lY
 .rfl
noncomputable abbrev WR:EF:=m7 (eB (aW .LtE) (eB aJ (eB aJ (aj 2) (eC (.int 1))) (aj 0)) (eB aJ (aj 1) (aj 0))) (eB (aW .LtE) (eB aJ (aj 1) (aj 0)) (eB aJ (eB aJ (aj 2) (eC (.int 2))) (aj 0)))
theorem zoY{p lo hi:Pt}{S:So}(x:Nat)(hx:x<3):WR [some (.int (x:Nat)),some (pD p),some (.tup [.str "box",pD lo,pD hi])] S=some (.bl (decide (co x lo<=co x p)&&decide (co x p<=co x hi)),S):=by
 have h1:eB (aW .LtE) (eB aJ (eB aJ (aj 2) (eC (.int 1))) (aj 0)) (eB aJ (aj 1) (aj 0)) [some (.int (x:Nat)),some (pD p),some (.tup [.str "box",pD lo,pD hi])] S=some (.bl (decide (co x lo<=co x p)),S) :=
  bC (bC (bC (aF rfl) bF (gb (z:=pD lo) rfl)) (aF rfl) (gb (nG (by omega) (by omega) lo))) (bC (aF rfl) (aF rfl) (gb (nG (by omega) (by omega) p))) DK
 have h2:eB (aW .LtE) (eB aJ (aj 1) (aj 0)) (eB aJ (eB aJ (aj 2) (eC (.int 2))) (aj 0)) [some (.int (x:Nat)),some (pD p),some (.tup [.str "box",pD lo,pD hi])] S=some (.bl (decide (co x p<=co x hi)),S) :=
  bC (bC (aF rfl) (aF rfl) (gb (nG (by omega) (by omega) p))) (bC (bC (aF rfl) bF (gb (z:=pD hi) rfl)) (aF rfl) (gb (nG (by omega) (by omega) hi))) DK
 cases hb:decide (co x lo<=co x p) with
 |true=>rw[hb] at h1;exact xU h1 (d9 rfl (by rw[h2];rfl))
 |false=>rw[hb] at h1;exact xU h1 (dI rfl rfl)
open Classical in
theorem zlP{K:Nat}{p:Pt}{s:Sh}(hp:aN K p)(hs:kW K s)(hK:K<=1000)(h1:1<=K)(S:So):Kw [pD p,cR s] S=some (.bl (decide (qD p s)),S):=by
 cases s with
 |box lo hi =>
  have lc:=p6 (σ:=[some (pD p),some (.tup [.str "box",pD lo,pD hi])]) (S:=S) (fi:=gR (ak (eC (.int 3)) aA)) (g:=aM 0) (t:=cY) (src:=[none,some 0,some 1]) (n:=3) (El (j:=3) (aK bF aY) (by omega)) rfl (by rw[sizeLine_eq];omega) rfl (Qs (fe:=WR) (m:=3) (rest:=[some (pD p),some (.tup [.str "box",pD lo,pD hi])]) (λx=>D.bl (decide (co x lo<=co x p)&&decide (co x p<=co x hi))) (λx hx=>zoY x hx));have e:decide (qD p (.box lo hi))=(((List.range 3).map λx:Nat=>(decide (co x lo<=co x p)&&decide (co x p<=co x hi)))).all id:=by rw[Bool.eq_iff_iff,decide_eq_true_iff];show(kI lo p/\kI p hi)↔(((decide (lo.1<=p.1)&&decide (p.1<=hi.1))&&((decide (lo.2.1<=p.2.1)&&decide (p.2.1<=hi.2.1))&&((decide (lo.2.2<=p.2.2)&&decide (p.2.2<=hi.2.2))&&true))))=true;simp only[lX,dj,kI,and_true];omega
  rw[e];have t:bG (eB (aW .Eq) (eB aJ (aj 1) (eC (.int 0))) (eC (.str "box"))) [some (pD p),some (.tup [.str "box",pD lo,pD hi])] S=some (true,S):=by have h:=fY (bC (fa:=eB aJ (aj 1) (eC (.int 0))) (fb:=eC (.str "box")) (σ:=[some (pD p),some (.tup [.str "box",pD lo,pD hi])]) (S:=S) (bC (aF rfl) bF (gb rfl)) bF (u9 (x := .str "box") (y := .str "box") rfl 1 (by decide +kernel) (by decide +kernel) (by decide)));rw[h,jw rfl]
  apply bK
  .wtm_at "?b"
   unfold Kp;exact aL (dF t (d9 rfl (aL (eG (aZ (aK lc aY) (Xz (bs:=(List.range 3).map λx:Nat=>(decide (co x lo<=co x p)&&decide (co x p<=co x hi))) (by rw[List.map_map];exact cJ)))) cL))) cL
  .simp
  .rfl
 |tri a b c =>
  have hi:=zfF hp (hs.bd a (by simp[Sh.pts])) (hs.bd b (by simp[Sh.pts])) (hs.bd c (by simp[Sh.pts])) ((Bd.lit 1).le (show 1<=K by omega)) (by omega) S;have t:bG (eB (aW .Eq) (eB aJ (aj 1) (eC (.int 0))) (eC (.str "box"))) [some (pD p),some (.tup [.str "triangle",pD a,pD b,pD c])] S=some (false,S):=by have h:=fY (bC (fa:=eB aJ (aj 1) (eC (.int 0))) (fb:=eC (.str "box")) (σ:=[some (pD p),some (.tup [.str "triangle",pD a,pD b,pD c])]) (S:=S) (bC (aF rfl) bF (gb rfl)) bF (u9 (x := .str "triangle") (y := .str "box") rfl 1 (by decide +kernel) (by decide +kernel) (by decide)));rw[h,fM (λe=>by simp only[D.str.injEq] at e;exact absurd e (by decide +kernel))]
  apply bK
  .wtm_at "?b"
   unfold Kp;have sl:rJ (.tup [.str "triangle",pD a,pD b,pD c]) (some 1) none S=some (.tup [pD a,pD b,pD c],S):=rfl;have ee:decide (sV p 1 a b c)=decide (qD p (.tri a b c)):=decide_eq_decide.mpr Iff.rfl;rw[<-ee];exact aL (dF t (dI rfl eX)) (aV (aL (eG (aZ (aK (aF rfl) (aK bF (aK (xP (aF rfl) (zP bF) zO sl) aY))) (cM rfl hi))) cL))
  .exact lY
  .rfl
end MX.P
namespace MX.K18
open PySem PySem.Spec L2 MX MX.P
noncomputable abbrev loc(k m c:D)(a4 a5 a6 a7 a8 a9:Option D):Sg:=[some (.ref 0),some k,some m,some c,a4,a5,a6,a7,a8,a9]
theorem XC{b:Bool}{n m:Nat}{S:So}(h1:S[n]?=some (.lst [.bl b,.bl b]))(h2:S[m]?=some (.lst [.bl b,.bl b])):aW .NotEq (.ref n) (.ref m) S=some (.bl false,S):=by
 have e:∀k,S[k]?=some (.lst [.bl b,.bl b])->dO S 24 (.ref k)=some (.list [.bool b,.bool b]):=λk h=>by unfold dO;rw[h];rfl
 show(lF S (.ref n) (.ref m)).map _=_;unfold lF;rw[e n h1,e m h2];simp only[cg];have sh:SeqAt.shaped (.list [.bool b,.bool b])=true:=by cases b<;>decide +kernel
 have eq:PyData.eqv (.list [.bool b,.bool b]) (.list [.bool b,.bool b])=true:=by cases b<;>decide +kernel
 rw[if_pos ⟨sh,sh⟩,eq];rfl
theorem zlF{k:D}{m c:Nat}{shs:List Sh}{t:Option Tr}{o x:Pt}{b:Bool}{S:So}{a4 a5 a9:Option D}(hS:WF S)(sc:jc S c shs t)(ok:uF 101 shs t)(ho:aN 100 o)(hx:aN 100 x)(h1:mJ o x shs=b)(h2:mJ x o shs=b):
 ∃O4,aC FQ (aC FT aQ) (loc k (.ref m) (.ref c) a4 a5 (some (pD o)) (some (pD x)) (some (.bl b)) a9) S=some (.nx,loc k (.ref m) (.ref c) a4 a5 (some (pD o)) (some (pD x)) (some (.bl b)) O4,S++[.lst [.bl b,.bl b]]++[.lst [.bl b,.bl b]]):=by
 have f1:=RK ho hx (by omega) ok S c hS sc;have f2:=RK hx ho (by omega) ok S c hS sc;rw[h1] at f1;rw[h2] at f2;refine⟨some (.ref S.length),?_⟩;have hn0:∀T:So,(T++[O.lst [.bl b,.bl b]]++[O.lst [.bl b,.bl b]])[T.length]?=some (.lst [.bl b,.bl b]):=λT=>fK cJ;have hn1:(S++[O.lst [.bl b,.bl b]]++[O.lst [.bl b,.bl b]])[(S++[O.lst [.bl b,.bl b]]).length]?=some (.lst [.bl b,.bl b]):=cJ;have ne:=XC (S:=S++[O.lst [.bl b,.bl b]]++[O.lst [.bl b,.bl b]]) (hn0 S) hn1;have s6:FQ (loc k (.ref m) (.ref c) a4 a5 (some (pD o)) (some (pD x)) (some (.bl b)) a9) S=some (.nx,loc k (.ref m) (.ref c) a4 a5 (some (pD o)) (some (pD x)) (some (.bl b)) (some (.ref S.length)),S++[.lst [.bl b,.bl b]]):=by unfold FQ;exact cN (aZ (aK (zA (aF rfl) sc.ins rfl (aK (aF rfl) (aK (aF rfl) aY)) rfl f1) (aK (zA (aF rfl) sc.ins rfl (aK (aF rfl) (aK (aF rfl) aY)) rfl f2) aY)) (vd (by show 2<=sizeLine;decide))) (dw rfl)
 have s7:FT (loc k (.ref m) (.ref c) a4 a5 (some (pD o)) (some (pD x)) (some (.bl b)) (some (.ref S.length))) (S++[.lst [.bl b,.bl b]])=some (.nx,loc k (.ref m) (.ref c) a4 a5 (some (pD o)) (some (pD x)) (some (.bl b)) (some (.ref S.length)),S++[.lst [.bl b,.bl b]]++[.lst [.bl b,.bl b]]):=by
  unfold FT;refine dF (b:=false) (jU (b:=false) (fY (bC (aF rfl) (aZ (aK (aF rfl) (aK (aF rfl) aY)) (vd (by show 2<=sizeLine;decide))) ne)) (dI rfl ?_)) (dI rfl eX);have i0:∀j:Int,j=0\/j=1->pW (ju (eN uJ (ak (eB aJ (aj 9) (eC (.int j))) (ak (eC (.ty "bool")) aA)))) (loc k (.ref m) (.ref c) a4 a5 (some (pD o)) (some (pD x)) (some (.bl b)) (some (.ref S.length))) (S++[O.lst [.bl b,.bl b]]++[O.lst [.bl b,.bl b]])=some (false,S++[O.lst [.bl b,.bl b]]++[O.lst [.bl b,.bl b]]):=λj hj =>
   Rq (b:=true) (Em (aZ (aK (bC (aF rfl) bF (zx (z := .bl b) (hn0 S) (by rcases hj with rfl|rfl<;>rfl))) (aK bF aY)) zle) rfl)
  exact jU (b:=false) (i0 0 (.inl rfl)) (dI rfl (i0 1 (.inr rfl)))
 exact aL s6 (aV (aL s7 (aV eX)))
theorem Jf{α:Type}{P:α->Prop}{i1:∀a,Decidable (P a)}{l:List α}{i2:Decidable (∀s∈l,¬P s)}:(!(l.map λs=>decide (P s)).any id)=decide (∀s∈l,¬P s):=by rw[Bool.eq_iff_iff,decide_eq_true_iff];simp
theorem zmv:∀ns:List Int,ns.length<=63->∃σ' gF,Td (mQ 10 [.ref 0]) [.frz (ns.map D.int),.tbl "tree_over"]=some (.rt (.bl true),σ',gF):=by
 classical
 intro ns hn;have F0:lV ns [.frz (ns.map D.int),.tbl "tree_over"]:=rfl;have T0:lJ "tree_over" [.frz (ns.map D.int),.tbl "tree_over"]=true:=by unfold lJ;simp[O.isT]
 have W0:WF [.frz (ns.map D.int),.tbl "tree_over"]:=by
  intro o ho;rcases List.mem_cons.mp ho with rfl|ho
  .show cV _ _=true;rw[lz];intro x hx;obtain⟨z,_,rfl⟩:=List.mem_map.mp hx;simp[D.lo]
  .rw[List.mem_singleton.mp ho];rfl
 generalize hS0:([.frz (ns.map D.int),.tbl "tree_over"]:So)=S0 at *
 have st0:mQ 10 [.ref 0]=[some (.ref 0),none,none,none,none,none,none,none,none,none]:=rfl;rw[st0];obtain⟨shs,hl,hk,lc⟩:=zkH hn;have e1:=lc [some (.ref 0),none,none,none,none,none,none,none,none,none] S0 F0 rfl rfl;have W1:WF (S0++[.lst (shs.map cR)]):=W0.snoc (HW _ _);have hk':∀s∈shs,kW 101 s:=λs hs=>⟨λp hp=>((hk s hs).bd p hp).le (by omega),(hk s hs).2⟩
 obtain⟨t,G,ok,mk,W2,sc⟩:=zmo (K:=101) (S:=S0++[.lst (shs.map cR)]) (S0:=S0++[.lst (shs.map cR)]) (σ:=[some (.ref 0),none,some (.ref S0.length),none,none,none,none,none,none,none]) (fa:=ak (aj 2) aA) W1 (xZ T0) cJ (by omega) hk' (aK (aF rfl) aY);have Wt:(S0++[O.lst (shs.map cR)]++G)[S0.length]?=some (.lst (shs.map cR)):=by rw[mZ (by simp)];exact cJ
 have F2:lV ns (S0++[O.lst (shs.map cR)]++G):=(F0.app _).app _;generalize hc:(S0++[O.lst (shs.map cR)]).length=c at *
 generalize hm:S0.length=m at *
 generalize hS2:S0++[O.lst (shs.map cR)]++G=S2 at *
 have inv:=Es (nx:=di (.fix (gO 0 4))) (g:=aM 1) (f:=Ku) (xs:=gO 0 4)
  (λj σ S'=>∃k a4 a5 a6 a7 a8 a9 G',σ=[some (.ref 0),k,some (.ref m),some (.ref c),a4,a5,a6,a7,a8,a9]/\S'=S2++G'/\WF S')
  (λj σ S' _=>rfl)
  (λj dd σ S' hj ⟨k,a4,a5,a6,a7,a8,a9,G',e1,e2,hW⟩=>?_) 4 0 [some (.ref 0),none,some (.ref m),some (.ref c),none,none,none,none,none,none] S2 ⟨none,none,none,none,none,none,none,[],rfl,by simp,W2⟩ (by simp[gO])
 .obtain⟨σ',S',e,k,a4,a5,a6,a7,a8,a9,G',rfl,rfl,hW⟩:=inv;apply Exists.intro;apply Exists.intro;refine aL (cN e1 (dw rfl)) (aV (aL (cN mk (dw rfl)) (aV ?_)));refine aL (fl := .nx) (jT (n:=4) (El (j:=4) (aK bF aY) (by omega)) rfl e) (aV ?_);exact aL (eG bF) cL
 .subst e1;have hj':j<4:=by have:=(fu.mp hj).1;simpa[gO] using this
  have hd':dd = .int (j:Nat):=by rw[J6,if_pos hj'] at hj;have:=(Option.some.inj hj).symm;rw[this];congr 1;omega
  subst hd';have sc':jc S' c shs t:=by rw[e2];exact sc.app _
  have F':lV ns S':=by rw[e2];exact F2.app _
  have sh':S'[m]?=some (.lst (shs.map cR)):=by rw[e2,mZ (fu.mp Wt).1];exact Wt
  have c0:=tH hn 0 F';have ck:=tH hn (40+(j:Int)) F';generalize hce:jJ ns 0=ce at c0;generalize jJ ns (40+(j:Int))=cj at ck;have dk:=sp_drawn cj (j:Int) S';generalize Dg cj (j:Int)=mo at dk;have p1:=Ia (vh mo) (by decide) ce S';have b1:aN 100 (iK ce (lq mo)):=(HJ (vh mo)).le (by omega);have q1:=vg mo S';have p2:=Ia (vh (mo.fdiv 729)) (by decide) ce S';have b2:aN 100 (iK ce (lq (mo.fdiv 729))):=(HJ (vh (mo.fdiv 729))).le (by omega);have q2:=vg (mo.fdiv 729) S';generalize iK ce (lq mo)=o at p1 b1;generalize iK ce (lq (mo.fdiv 729))=x at p2 b2;generalize lq mo=u1 at p1 q1;generalize lq (mo.fdiv 729)=u2 at p2 q2;have s1:Lk (loc (.int (j:Nat)) (.ref m) (.ref c) a4 a5 a6 a7 a8 a9) S'=some (.nx,loc (.int (j:Nat)) (.ref m) (.ref c) (some (.int cj)) a5 a6 a7 a8 a9,S'):=by unfold Lk;exact cN (aZ (aK (aF rfl) (aK (bC bF (aF rfl) DY) aY)) (cM rfl ck)) (dw rfl)
  have s2:Ln (loc (.int (j:Nat)) (.ref m) (.ref c) (some (.int cj)) a5 a6 a7 a8 a9) S'=some (.nx,loc (.int (j:Nat)) (.ref m) (.ref c) (some (.int cj)) (some (.int mo)) a6 a7 a8 a9,S'):=by unfold Ln;exact cN (aZ (aK (aF rfl) (aK (aF rfl) aY)) (cM rfl dk)) (dw rfl)
  have s3:Lp (loc (.int (j:Nat)) (.ref m) (.ref c) (some (.int cj)) (some (.int mo)) a6 a7 a8 a9) S'=some (.nx,loc (.int (j:Nat)) (.ref m) (.ref c) (some (.int cj)) (some (.int mo)) (some (pD o)) a7 a8 a9,S'):=by unfold Lp;exact cN (aZ (aK (aZ (aK (aF rfl) aY) (cM rfl q1)) (aK (aZ (aK (aF rfl) (aK bF aY)) (cM rfl c0)) aY)) (cM rfl p1)) (dw rfl)
  have s4:Lq (loc (.int (j:Nat)) (.ref m) (.ref c) (some (.int cj)) (some (.int mo)) (some (pD o)) a7 a8 a9) S'=some (.nx,loc (.int (j:Nat)) (.ref m) (.ref c) (some (.int cj)) (some (.int mo)) (some (pD o)) (some (pD x)) a8 a9,S'):=by unfold Lq;exact cN (aZ (aK (aZ (aK (bC (aF rfl) bF (u5 (by decide))) aY) (cM rfl q2)) (aK (aZ (aK (aF rfl) (aK bF aY)) (cM rfl c0)) aY)) (cM rfl p2)) (dw rfl)
  have oU:∀b:Bool,(decide ((j:Int)=3)||decide (pD o=pD x))=b->iM (bG (eB (aW .Eq) (aj 1) (eC (.int 3)))) (bG (eB (aW .Eq) (aj 6) (aj 7))) (loc (.int (j:Nat)) (.ref m) (.ref c) (some (.int cj)) (some (.int mo)) (some (pD o)) (some (pD x)) a8 a9) S'=some (b,S'):=λb hb=>by
   have t1:bG (eB (aW .Eq) (aj 1) (eC (.int 3))) (loc (.int (j:Nat)) (.ref m) (.ref c) (some (.int cj)) (some (.int mo)) (some (pD o)) (some (pD x)) a8 a9) S'=some (decide ((j:Int)=3),S'):=fY (bC (aF rfl) bF xN);have t2:bG (eB (aW .Eq) (aj 6) (aj 7)) (loc (.int (j:Nat)) (.ref m) (.ref c) (some (.int cj)) (some (.int mo)) (some (pD o)) (some (pD x)) a8 a9) S'=some (decide (pD o=pD x),S'):=fY (bC (aF rfl) (aF rfl) (u9 rfl 1 rfl rfl (by decide)));cases h3:decide ((j:Int)=3) with
   |true=>rw[h3] at t1 hb;rw[<-hb];exact jU t1 (d9 rfl rfl)
   |false=>rw[h3] at t1 hb;rw[<-hb];exact jU t1 (dI rfl (by rw[t2];rfl))
  have fin:∀(y:Pt) (b:Bool) (bs:List Bool),aN 100 y->mJ o y shs=b->mJ y o shs=b ->
   FP (loc (.int (j:Nat)) (.ref m) (.ref c) (some (.int cj)) (some (.int mo)) (some (pD o)) (some (pD x)) a8 a9) S'=some (.nx,loc (.int (j:Nat)) (.ref m) (.ref c) (some (.int cj)) (some (.int mo)) (some (pD o)) (some (pD y)) (some (.bl b)) a9,S'++[.lst (bs.map .bl)]) ->
   ∃σ1 S1 fl σ2 S2',aM 1 (.int (j:Nat)) [some (.ref 0),k,some (.ref m),some (.ref c),a4,a5,a6,a7,a8,a9] S'=some (σ1,S1)/\Ku σ1 S1=some (fl,σ2,S2')/\(fl = .nx\/fl = .ct)/\∃k a4 a5 a6 a7 a8 a9 G',σ2=[some (.ref 0),k,some (.ref m),some (.ref c),a4,a5,a6,a7,a8,a9]/\S2'=S2++G'/\WF S2':=λy b bs qt h1 h2 s5=>by
   have N7:∀(n:Nat) (bs:List Bool),O.lo n (.lst (bs.map .bl))=true:=λn bs=>by show cV _ _=true;rw[lz];intro z hz;obtain⟨w,_,rfl⟩:=List.mem_map.mp hz;rfl
   have Wb:WF (S'++[.lst (bs.map .bl)]):=hW.snoc (N7 _ _);obtain⟨O4,s6⟩:=zlF (k := .int (j:Nat)) (m:=m) (a4:=some (.int cj)) (a5:=some (.int mo)) (a9:=a9) Wb (sc'.app _) ok b1 qt h1 h2;refine⟨_,_,.nx,loc (.int (j:Nat)) (.ref m) (.ref c) (some (.int cj)) (some (.int mo)) (some (pD o)) (some (pD y)) (some (.bl b)) O4,S'++[.lst (bs.map .bl)]++[.lst [.bl b,.bl b]]++[.lst [.bl b,.bl b]],dw rfl,?_,.inl rfl,_,_,_,_,_,_,_,G'++[.lst (bs.map .bl)]++[.lst [.bl b,.bl b]]++[.lst [.bl b,.bl b]],rfl,?_,?_⟩
   .exact aL s1 (aV (aL s2 (aV (aL s3 (aV (aL s4 (aV (aL s5 (aV s6)))))))))
   .rw[e2];simp only[fW]
   .exact(Wb.snoc (N7 _ [b,b])).snoc (N7 _ [b,b])
  by_cases hq:(j:Int)=3\/o=x
  .have hb:(decide ((j:Int)=3)||decide (pD o=pD x))=true:=by
    rw[nZ,decide_eq_true_iff,decide_eq_true_iff];rcases hq with h|h
    .exact .inl h
    .exact .inr (by rw[h])
   have fr:mJ o o shs=(!(shs.map λs=>decide (qD o s)).any id):=by unfold mJ;rw[if_pos (znv o),Jf (i2:=Classical.propDecidable _),decide_eq_decide];exact⟨λh s hs c=>h s hs ((RM (by decide)).mpr (Tc.mpr c)),λh s hs c=>h s hs (Tc.mp ((RM (by decide)).mp c))⟩
   refine fin o _ (shs.map λs=>decide (qD o s)) b1 fr fr ?_;unfold FP;refine dF (oU true hb) (d9 rfl (aL (cN (Jk (aZ (aK (zN shs cR (λs => .bl (decide (qD o s))) (nJ (aF rfl) sh') sh' (by omega) rfl λs hs=>?_) aY) (Qf (bs:=shs.map λs=>decide (qD o s)) (by rw[List.map_map];exact cJ)))) (dw rfl)) (aV (aL (cN (aF rfl) (dw rfl)) (aV ?_)))))
   .exact aZ (aK (aF rfl) (aK (aF rfl) aY)) (cM rfl (zlP (b1.le (by omega)) (hk' s hs) (by omega) (by omega) S'))
   .rw[List.map_map];rfl
  .have hb:(decide ((j:Int)=3)||decide (pD o=pD x))=false:=by rw[Bool.or_eq_false_iff,decide_eq_false_iff_not,decide_eq_false_iff_not];exact⟨λh=>hq (.inl h),λh=>hq (.inr (PL.mp h))⟩
   have h0:wb o x≠(0,0,0):=λh=>hq (.inr (Xl h));have fr:mJ o x shs=(!(shs.map λs=>decide (iQ o (wb o x) s 1)).any id):=by unfold mJ;rw[if_neg h0,Jf]
   have fr2:mJ x o shs=(!(shs.map λs=>decide (iQ o (wb o x) s 1)).any id):=by unfold mJ;rw[if_neg (Hv h0),Jf (i2:=Classical.propDecidable _),decide_eq_decide];exact⟨λh s hs c=>h s hs ((RL h0).mp c),λh s hs c=>h s hs ((RL h0).mpr c)⟩
   refine fin x _ (shs.map λs=>decide (iQ o (wb o x) s 1)) b2 fr fr2 ?_;unfold FP;refine dF (oU false hb) (dI rfl (aL (cN (Jk (aZ (aK (zN shs cR (λs => .bl (decide (iQ o (wb o x) s 1))) (nJ (aF rfl) sh') sh' (by omega) rfl λs hs=>?_) aY) (Qf (bs:=shs.map λs=>decide (iQ o (wb o x) s 1)) (by rw[List.map_map];exact cJ)))) (dw rfl)) (aV ?_)))
   .exact aZ (aK (aF rfl) (aK (aF rfl) (aK (aF rfl) aY))) (cM rfl (zi7 b1 b2 (hk' s hs) h0 (by omega) S' hW))
   .rw[List.map_map];rfl
end MX.K18
end
section
namespace MX
open PySem PySem.Spec PySem.W PyProof.Rows L2
theorem Vq:∀(os:List Obj) (b a:Nat) (o:Obj),b<=a->os[a - b]?=some o->qI a o=true->(qK os b).lookup a=some o
 |[],_,_,_,_,e,_=>by simp at e
 |o'::r,b,a,o,hb,e,hk=>by
  unfold qK;by_cases hab:a=b
  .subst hab;rw[Nat.sub_self] at e;have:o'=o:=by simpa using e
   subst this;rw[hk];simp[List.lookup]
  .have e':(qK r (Nat.succ b)).lookup a=some o:=by
    refine Vq r (Nat.succ b) a o (by omega) ?_ hk;have:a - b=(a - Nat.succ b)+1:=by omega
    rw[this,List.getElem?_cons_succ] at e;exact e
   cases qI b o' with
   |false=>exact e'
   |true =>
    simp only[cond_true,jF];have:(a==b)=false:=by simpa using hab
    rw[this];exact e'
theorem UL{h:Heap}{a:Addr}{o:Obj}(e:h.objs.toList[a]?=some o)(hk:qI a o=true):(gW h).lookup a=some o:=Vq _ 0 a o (Nat.zero_le _) (by rw[Nat.sub_zero];exact e) hk
theorem zmT{h:Heap}{cd:Value}{x:Str}(e:GK h.objs.toList cd x=true):codeIn (gW h) cd x=true:=by
 unfold GK at e;split at e
 .rename_i c;split at e
  .rename_i o ho;obtain⟨oc,od,dt,sl⟩:=o;simp only at e;split at e
   .rename_i vs;split at e
    .cases e
    .rename_i hc;have l:(gW h).lookup c=some ⟨oc,od,.fields vs,sl⟩:=UL ho (by
      unfold qI;cases oc<;>first | rfl | exact absurd rfl hc)
     show(match(gW h).lookup c with|some ⟨_,_,.fields vs,_⟩=>(match vs.toList with|_ :: .str n _::_=>n==x|_=>false)|_=>false)=true;rw[l];exact e
   .cases e
  .cases e
 .cases e
theorem eO.of_seenH{h:Heap}{x:Str}{st:Stmt}(e:Hg (gW h) h.objs.toList x=some (dA st,dB st,dS st,true)):eO (gW h) x st:=by
 rw[Ho,Hq,Hr] at e;unfold Hg at e;split at e
 .rename_i f a;split at e
  .rename_i o ho;obtain⟨oc,od,dt,osl⟩:=o;simp only at e;split at e
   .rename_i n q ps b sc g kV doc pm an cd ct bn;split at e
    .cases e
    .rename_i hc;simp only[Option.some.injEq,Prod.mk.injEq,dj,beq_iff_eq] at e;obtain⟨e1,e2,e3,e4,e5,e6,e7,e8⟩:=e;have e6:=Nat.eq_of_beq_eq_true e6;have e7:=Nat.eq_of_beq_eq_true e7;subst e1 e2 e3 e4 e5 e6 e7;have l:=UL ho (by
      unfold qI;cases oc<;>first | rfl | exact absurd rfl hc)
     exact eO.mk' a l (zmT e8) (by
      show(match(gW h).lookup f with|some ⟨_,_,.func _,_⟩=>true|some ⟨_,_,.cls _,_⟩=>specialIn (gW h) (.ref f) "__call__" == some (some (.builtin "type.__call__"))|_=>false)=true;rw[l])
   .cases e
  .cases e
 .cases e
theorem gQ.of_seen{K:FgA}{C m:Str}{st:Stmt}(h:Dv K C m=some (dA st,dB st,dS st,true)):gQ K C m st:=by
 rw[Ho,Hq,Hr] at h;unfold Dv at h;split at h
 .rename_i f a;split at h
  .rename_i oc od n q ps b sc g kV doc pm an cd ct bn osl l;simp only[Option.some.injEq,Prod.mk.injEq,dj,beq_iff_eq] at h;obtain⟨e1,e2,e3,e4,e5,e6,e7,e8,e9,e10⟩:=h;have e6:=Nat.eq_of_beq_eq_true e6;have e7:=Nat.eq_of_beq_eq_true e7;subst e1 e2 e3 e4 e5 e6 e7;exact⟨f,_,⟨a,e10,e9⟩,Qm l e8 e9⟩
  .cases h
 .cases h
theorem zlH{K:FgA}{x:Str}{st:Stmt}{c Pt:Addr}(D:xg K x st c)(e:codeHdIn K c Pt=true):Pt=lu K x:=by
 obtain⟨f,fd,a,F,hc⟩:=D;obtain⟨oc,od,kV,doc,pm,an,cdv,ct,osl,rfl,l,_⟩:=F.ex;have hc':cdv = .ref c:=hc;subst hc';unfold lu;rw[a];simp only[l];unfold codeHdIn at e;split at e
 .rename_i od2 vs osl2 hk;simp only[dj] at e;obtain⟨⟨⟨⟨⟨e1,e2⟩,e3⟩,e4⟩,e5⟩,e6⟩:=e;split at e1
  .rename_i P' h11;have hP:P'=Pt:=beq_iff_eq.mp e1;subst hP;show P'=match K.lookup c with|some ⟨_,_,.fields vs,_⟩=>(match(vs[11]?:Option Value) with|some (.ref P)=>P|_=>0)|_=>0
   rw[hk];simp only[h11]
  .cases e1
 .cases e
noncomputable def ztE(xb:FgA->Bool)(ms:List (Str×Str×Stmt))(ds:List (Str×Stmt))(blt:List Str)(x:Str)(st:Stmt):Hook where
 α:=((List (Option (Arguments×List Stmt×Scope×Bool))×List (Option (Option Value)))×Option (Arguments×List Stmt×Scope×Bool)×(Option Obj×Bool))×(List (Option (Arguments×List Stmt×Scope×Bool))×Bool)
 obs:=mV xb ms ds blt x
 val:=λ_=>oR ms ds blt st
 says:=λ_ h=>∃K:FgA,K.In h/\(((∀y∈ds,eO K y.1 y.2)/\∀y∈blt,nsIn K mainGlobals y=some none)/\(∀y∈ms,gQ K y.1 y.2.1 y.2.2)/\xb K=true)/\∃c Pt:Addr,xg K x st c/\codeHdIn K c Pt=true/\K.lookup Pt=none/\h.get? Pt=some (tabObj #[])
 of:=λ_ s e0=>let e:=(Prod.mk.inj e0).1;⟨gW s.heap,zk2 _,⟨⟨λy hy=>eO.of_seenH (List.map_inj_left.mp (Prod.mk.inj (Prod.mk.inj e).1).1 y hy),List.map_inj_left.mp (Prod.mk.inj (Prod.mk.inj e).1).2⟩,
  λy hy=>gQ.of_seen (List.map_inj_left.mp (Prod.mk.inj (Prod.mk.inj e0).2).1 y hy),(Prod.mk.inj (Prod.mk.inj e0).2).2⟩,
  zhD (eO.of_seen (Prod.mk.inj (Prod.mk.inj e).2).1) (Prod.mk.inj (Prod.mk.inj e).2).2⟩
 keeps:=λ_ _ _ ⟨K,a,b,c,Pt,z1,z2,z3,z4⟩ k=>⟨K,a.keeps k,b,c,Pt,z1,z2,z3,k _ _ z4⟩
theorem zjI{xb:FgA->Bool}{ms:List (Str×Str×Stmt)}{l:PySem.W.OpenLaw}{q:Program}{loose:List Str}{XP:(Str->Option Value)->Heap->Prop}{d:DefRec}{x y:Str}{k:Nat}{ds:List (Str×Stmt)}{blt:List Str}{st:Stmt}(hn:l.most=some 63)(hdf:d.params.defaults=[])(hr:bI k callerA)(F:∀(w:World) (mg:Str->Option Value) (fa:Addr) (h:Heap) (K:FgA) (c:Addr),K.In h->h.Ns mainGlobals mg->mg d.name=some (.ref fa)->(∀y∈ds,eO K y.1 y.2)->(∀y∈blt,nsIn K mainGlobals y=some none)->(∀y∈ms,gQ K y.1 y.2.1 y.2.2)->xb K=true->xg K y st c ->
  (∀h:Heap,K.In h->CodeHd h c (lu K y)) ->
  ∃(fd:FuncData),(∀(s:Shared) (u:Value),BindsTo s fd ⟨[u],[]⟩ [(x,u)])/\∀base:Heap,Mod K mg base->CodeHd base c (lu K y)->BM base mg->cW l.prog w K mg base iu k fa fd [x] (zf K 63 (lu K y))):
 PySem.W.WalkO q loose XP (ztE xb ms ds blt y st).says l.row.toRowW d [] (λf vs=>PySem.call f vs):=by
 refine Xa.zh6 hn hdf λw s₀ s₁ mg mb fa o pm cd doc a vs ns G Y ho hd hcd hmg hobj hints hlen hg=>?_;obtain⟨K,KX,⟨⟨hD,hB⟩,hM,hX⟩,c0,Pt,z1,z2,z3,z4⟩:=Y;have ePt:=zlH z1 z2;subst ePt;have hC:∀h:Heap,K.In h->CodeHd h c0 (lu K y):=λh X=>codeHd_of_K X z2;obtain⟨fd,hb,hF⟩:=F w mg fa _ K c0 KX G.T.g hmg hD hB hM hX z1 hC;have hbm:BM s₁.heap mg:=by obtain⟨bm,ob,b1,b2,b3,b4,b5,b6⟩:=G.T.bmain;exact⟨bm,ob,b1,b2,b3,b4,b5,b6⟩
 exact zkM KX G.T.g G.T.b G.T.builtins G.T.nolimit hg hobj hints hlen hr z4 z3 (hC _ KX) hbm hF hb
section
variable {P:Program}{w:World}{K:FgA}{mg:Str->Option Value}{base h:Heap}{C:Str}{fs:List Str}
theorem xY(e:sE K C fs=true):jX K (cU K C)/\makesIn K (cU K C)=true/\keepIn K (.ref (cU K C))=true/\nsIn K mainGlobals C=some (some (.ref (cU K C)))/\∀f∈fs,d7 K (cU K C) f:=by unfold sE at e;simp only[dj,beq_iff_eq,List.all_eq_true] at e;obtain⟨⟨a,b,c,d⟩,⟨x,y,z⟩,f⟩:=e;exact⟨⟨a,b,c,d⟩,x,y,z,f⟩
def JL(e:sE K C fs=true):jX K (cU K C):=(xY e).1
def QR(KX:K.In h)(G:h.Ns mainGlobals mg)(e:sE K C fs=true):mg C=some (.ref (cU K C)):=mg_of KX G (xY e).2.2.2.1
theorem PB{st:Stmt}(M:gQ K C "__init__" st)(e:sE K C fs=true)(hq:C ++ "." ++ "__init__" = C ++ ".__init__"):∃f fd,Mk K (cU K C) f/\nW K "__init__" (C ++ ".__init__") st f fd:=by obtain⟨f,fd,m,F⟩:=M;rw[hq] at F;exact⟨f,fd,⟨(xY e).2.1,m.at_,m.fn,(xY e).2.2.1⟩,F⟩
theorem znF{x y:Str}(KX:K.In h)(G:h.Ns mainGlobals mg)(e:vI K x y=true):∃t,mg x=some (.str y t):=by
 unfold vI at e;split at e
 .rename_i z t q;have:z=y:=by simpa using e
  subst this;exact⟨t,mg_of KX G q⟩
 .cases e
theorem Xw{fl:List (Str×Str)}{gl:List (Str×Str)}(KX:K.In h)(G:h.Ns mainGlobals mg)(hf:∀y∈fl,∃fs,sE K y.2 fs=true/\y.1∈fs)(hg:∀y∈gl,vI K y.1 y.2=true):fD P w K mg base 0 { flds:=fl,gls:=gl } :=
 ⟨λf C e=>by
  obtain⟨fs,h1,h2⟩:=hf _ (iy e);exact⟨(xY h1).1,(xY h1).2.2.2.2 _ h2⟩,λ_ _ _ _ h=>(nomatch h),λ_ _ _ h=>(nomatch h),λx y e=>znF KX G (hg _ (iy e))⟩
theorem zkN{x p y:Str}{st:Stmt}{k m n:Nat}{fns:List (Str×Nat×GN)}{blt:List Str}{E:CE}{fb:SF}{fa c:Addr}(KX:K.In h)(G:h.Ns mainGlobals mg)(fQ:∀y∈blt,mg y=none)(hfa:mg x=some (.ref fa))(hD:eO K x st)(hb0:pR x st [p])(S:nq (gJ (bM st).names) [p] (bM st))(hu:(bM st).names.all (λy=>decide ((bM st).names.lookup y.1=some y.2))=true)(hn:(gJ (bM st).names).length=n)(hb:jD m (n8 st fns blt E) (iC st)=some fb)(hs:∀base:Heap,Mod K mg base->CodeHd base c (lu K y)->BM base mg->b8 P w K mg base k fns/\fD P w K mg base k E)(hφ:∀ns:List Int,ns.length<=63->∃σ' gF,fb (mQ n [.ref 0]) [.frz (ns.map D.int),.tbl y]=some (.rt (.bl true),σ',gF)):
 ∃fd:FuncData,(∀(s:Shared) (v:Value),BindsTo s fd ⟨[v],[]⟩ [(p,v)])/\∀base:Heap,Mod K mg base->CodeHd base c (lu K y)->BM base mg->cW P w K mg base iu (k+1) fa fd [p] (zf K 63 (lu K y)):=by
 obtain⟨f,fd,a,F⟩:=hD;have e:=hfa.symm.trans (PySem.W.mg_of KX G a);cases e;refine⟨fd,λs v=>?_,λbase hM hC hB=>zkL F S hu (hs base hM hC hB).1 fQ (hs base hM hC hB).2 rfl hb λns hl=>?_⟩
 .obtain⟨oc,od,kV,doc,pm,an,cdv,ct,osl,rfl,lk,hcd⟩:=F.ex;exact .of_eq (hb0 kV doc pm an cdv ct [v] rfl)
 .have e0:oM (gJ (bM st).names) [D.ref 0]=mQ n [D.ref 0]:=by unfold oM mQ;rw[hn]
  rw[e0];exact hφ ns hl
end
theorem zmC{l:PySem.W.OpenLaw}{q:Program}{loose:List Str}{d:DefRec}{H:Hook}{N:Nat}(Ba:l.wellSaid=true)(left:LeftO l.prog q loose (λ_=>true) H.obs H.val N)(hdef:defOf q l.name=some (d,[]))(hp:l.prog.theDef l.name=some (d.params,d.body,d.scope))(hk:kwWritten? d.params.kwonlyargs d.params.kw_defaults=some [])(ok:(chainsOk q&&opensWell l.prog&&(frees l.row.toRowW&&l.row.within.isEmpty))=true)(hb:l.prog.bare)(hw:l.row.toRowW.promised)(call:PySem.W.WalkO q loose (λ_ _=>True) H.says l.row.toRowW d [] λf vs=>PySem.call f vs):l.Holds:=by
 refine holds_law Ba λsaid=>?_;refine holds_open (r:=l.row) (Xt:=λ_=>true) (XP:=λ_ _=>True) left H.of H.keeps ?_ ?_ hdef hp hk ?_ ?_ said ok hb hw call
 .exact λ_ _=>trivial
 .exact λ_ _ _ _ _=>trivial
 .exact λs _=>recFacts_of (R:=[]) rfl
 .show(!l.row.writes||true)=true;exact Bool.or_true _
end MX
end
section
local macro_rules | `(tactic| wtm_at "sc") => `(tactic| exact ⟨rfl, rfl, rfl, by decide +kernel, by kernel_rfl, by decide +kernel, by decide +kernel⟩)
local macro_rules | `(tactic| wtm_at "nf") => `(tactic| exact ⟨by first | exact MX.zuZ λ_ _ _ _ _ _ _ => rfl | exact MX.bind2 λ_ _ _ _ _ _ _ _ => rfl | exact MX.bind3 λ_ _ _ _ _ _ _ _ _ => rfl | exact MX.bind4 λ_ _ _ _ _ _ _ _ _ _ => rfl, by wtm_at "sc", by decide +kernel, by kernel_rfl, by kernel_rfl⟩)
namespace MX.K18
open PySem PySem.Spec PySem.W PyProof.Rows L2 MX MX.P
noncomputable abbrev LF:=List (Str×Nat×GN)
noncomputable abbrev F0:LF:=[]
noncomputable abbrev E0:CE:={ flds:=[("kept", "Scene"),("tree", "Scene"),("box", "Tree"),("number", "Tree"),("halves", "Tree")],gls:=[] }
section
variable {w:World}{K:FgA}{mg:Str->Option Value}{base h:Heap}{k n:Nat}{x:Str}{F:LF}{E:CE}{fb:SF}
noncomputable abbrev AA(w:World)(K:FgA)(mg:Str->Option Value)(base:Heap)(k:Nat)(F:LF)(E:CE):Prop:=b8 PG w K mg base k F/\fD PG w K mg base k E
theorem nf(st:Stmt)(ps:List Str)(a:AA w K mg base k F E)(b:K.In h/\h.Ns mainGlobals mg/\∀y∈blt,mg y=none)(hD:eO K x st)(p:pR x st ps/\nq (gJ (bM st).names) ps (bM st)/\(bM st).names.all (λy=>decide ((bM st).names.lookup y.1=some y.2))=true/\(gJ (bM st).names).length=n/\jD 40 (n8 st F blt E) (iC st)=some fb):AA w K mg base (k+1) ((x,ps.length,fnOf n fb)::F) E :=
 ⟨zmH a.1 a.2 b.1 b.2.1 b.2.2 hD p.1 p.2.1 p.2.2.1 p.2.2.2.1 p.2.2.2.2,a.2.mono (Nat.le_succ k)⟩
theorem nt{c:Addr}(a:AA w K mg base k F E)(b:K.In h/\h.Ns mainGlobals mg/\∀y∈blt,mg y=none)(hD:xg K "tree_over" (top 37) c)(hC:CodeHd base c (lu K "tree_over"))(hB:BM base mg)(hb:jD 40 (vU 40 (top 37) F blt E "leaf") (iC (top 37))=some fb:=by kernel_rfl):AA w K mg base (k+4) (("tree_over",1,sX "tree_over" 5 fb)::F) E :=
 ⟨zmG (ps:=["leaves"]) a.1 a.2 b.1 b.2.1 b.2.2 hD hC hB (zuZ λ_ _ _ _ _ _ _=>rfl) (by exact⟨rfl,rfl,rfl,by decide +kernel,by kernel_rfl,by decide +kernel,by decide +kernel⟩) (by decide +kernel) (λ_ _ _ _ _ _ _ _ _=>rfl) (by kernel_rfl) hb,a.2.mono (Nat.le_add_right k 4)⟩
end
noncomputable abbrev F1:LF:=("_law_drawn",2,yr)::F0
noncomputable abbrev F2:LF:=("_law_cell",2,oO)::F1
noncomputable abbrev F3:LF:=("_law_many",1,zW)::F2
noncomputable abbrev F4:LF:=("_law_spot",1,tL)::F3
noncomputable abbrev F5:LF:=("_law_plain",2,Ky)::F4
noncomputable abbrev F6:LF:=("_law_put",2,yu)::F5
noncomputable abbrev F7:LF:=("_law_shape",2,vy)::F6
noncomputable abbrev E1:CE:={ E0 with mks:=("Tree",4,yF)::E0.mks }
noncomputable abbrev F8:LF:=("numbers_at",2,Fp)::F7
noncomputable abbrev F9:LF:=("box_around",1,yt)::F8
noncomputable abbrev F10:LF:=("widest_place",1,K5)::F9
noncomputable abbrev F11:LF:=("tree_over",1,λ_ _=>none)::F10
noncomputable abbrev F12:LF:=("tree_over",1,jy 1)::F11
noncomputable abbrev F13:LF:=("tree_over",1,jy 2)::F12
noncomputable abbrev F14:LF:=("tree_over",1,jy 3)::F13
noncomputable abbrev F15:LF:=("tree_over",1,jy 4)::F14
noncomputable abbrev F16:LF:=("tree_over",1,jy 5)::F15
noncomputable abbrev F17:LF:=("tree_over",1,jy 6)::F16
noncomputable abbrev F18:LF:=("tree_about",1,Fq)::F17
noncomputable abbrev F19:LF:=("are_in_order",2,K4)::F18
noncomputable abbrev F20:LF:=("is_shape",1,yj)::F19
noncomputable abbrev F21:LF:=("refuse_no_shape",1,Ad)::F20
noncomputable abbrev F22:LF:=("bounds",1,vo)::F21
noncomputable abbrev E2:CE:={ E1 with mks:=("Scene",2,FJ)::E1.mks }
noncomputable abbrev F23:LF:=("_law_way",2,yh)::F22
noncomputable abbrev F24:LF:=("_law_flat",4,lA)::F23
noncomputable abbrev F25:LF:=("_law_on",4,zL)::F24
noncomputable abbrev F26:LF:=("_law_in_triangle",3,Gd)::F25
noncomputable abbrev F27:LF:=("_law_holds",2,Kw)::F26
noncomputable abbrev F28:LF:=("refuse_standing",1,FN)::F27
noncomputable abbrev F29:LF:=("times_between",4,Lg)::F28
noncomputable abbrev F30:LF:=("is_less",2,p8)::F29
noncomputable abbrev F31:LF:=("span_in",2,vm)::F30
noncomputable abbrev F32:LF:=("common_divisor",2,Fz)::F31
noncomputable abbrev F33:LF:=("lowest_terms",1,tR)::F32
noncomputable abbrev F34:LF:=("meets_box",2,KR)::F33
noncomputable abbrev F35:LF:=("cross",2,jz)::F34
noncomputable abbrev F36:LF:=("way_between",2,d8)::F35
noncomputable abbrev F37:LF:=("edges_of",1,vA)::F36
noncomputable abbrev F38:LF:=("dot",2,fO)::F37
noncomputable abbrev F39:LF:=("meets_along",3,Lh)::F38
noncomputable abbrev F40:LF:=("meets_segment",3,Le)::F39
noncomputable abbrev F41:LF:=("meets_edges",2,yw)::F40
noncomputable abbrev F42:LF:=("goes_through",3,qi)::F41
noncomputable abbrev F43:LF:=("meets_within_plane",3,yI)::F42
noncomputable abbrev F44:LF:=("meets_triangle",2,nP)::F43
noncomputable abbrev F45:LF:=("time_at",2,yo)::F44
noncomputable abbrev F46:LF:=("meets",2,Ij)::F45
noncomputable abbrev F47:LF:=("_law_touches",3,K3)::F46
noncomputable abbrev F48:LF:=("numbers_along",2,FZ)::F47
noncomputable abbrev E3:CE:={ E2 with mths:=("hits", "Scene",2,Gb)::E2.mths }
noncomputable abbrev F49:LF:=("is_sooner",2,Fv)::F48
noncomputable abbrev E4:CE:={ E3 with mths:=("first", "Scene",2,Ly)::E3.mths }
noncomputable abbrev E5:CE:={ E4 with mths:=("is_free", "Scene",3,Fy)::E4.mths }
theorem call:WalkO seen loose (λ_ _=>True) (ztE xb ms defs blt "tree_over" (top 37)).says PySem.Challenge.rw_firsthit_k18_whole_free_between.row.toRowW lawRec [] λf vs=>PySem.call f vs:=by
 refine zjI (k:=74) (x := "_law_script") rfl rfl ⟨rfl,by decide,by decide⟩ ?F
 case F =>
  intro w mg fa h K c KX G hmg hD hB0 hM hX z hC0;have H:∀i (h:i<defs.length),eO K (defs[i]).1 (defs[i]).2:=λi h=>hD _ (List.getElem_mem h);have M:∀i (h:i<ms.length),gQ K (ms[i]).1 (ms[i]).2.1 (ms[i]).2.2:=λi h=>hM _ (List.getElem_mem h);have hb:=zmZ KX G hB0;unfold xb at hX;simp only[dj] at hX;obtain⟨iD,dZ⟩:=hX;refine zkN (m:=40) (n:=10) (fb:=Td) (y := "tree_over") (fns:=F49) (E:=E5) (k:=73) KX G hb hmg (H 42 (by decide)) (show pR "law" (top 57) ["_law_script"] from zuZ λ_ _ _ _ _ _ _=>rfl) (by wtm_at "sc") (by decide +kernel) (by kernel_rfl) (by kernel_rfl) (λbase hMd hC hB=>?_) zmv
  .have e0:fD PG w K mg base 0 E0:=Xw KX G (λy hy=>by
    simp only[List.mem_cons,nY,or_false] at hy;rcases hy with rfl|rfl|rfl|rfl|rfl
    .exact⟨_,dZ,by decide⟩
    .exact⟨_,dZ,by decide⟩
    .exact⟨_,iD,by decide⟩
    .exact⟨_,iD,by decide⟩
    .exact⟨_,iD,by decide⟩) (λy hy=>by
    cases hy)
   have b:K.In h/\h.Ns mainGlobals mg/\∀y∈blt,mg y=none:=⟨KX,G,hb⟩
   have a:AA w K mg base 0 F0 E0:=⟨b8.nil,e0⟩
   have a:AA w K mg base 1 F1 E0:=nf (top 45) ["_law_cell_here", "_law_k"] a b (H 0 (by decide)) (by wtm_at "nf");have a:AA w K mg base 2 F2 E0:=nf (top 44) ["_law_script", "_law_k"] a b (H 1 (by decide)) (by wtm_at "nf");have a:AA w K mg base 3 F3 E0:=nf (top 50) ["_law_script"] a b (H 2 (by decide)) (by wtm_at "nf");have a:AA w K mg base 4 F4 E0:=nf (top 46) ["_law_more"] a b (H 3 (by decide)) (by wtm_at "nf");have a:AA w K mg base 5 F5 E0:=nf (top 48) ["_law_script", "_law_k"] a b (H 4 (by decide)) (by wtm_at "nf");have a:AA w K mg base 6 F6 E0:=nf (top 47) ["_law_point", "_law_cell_here"] a b (H 5 (by decide)) (by wtm_at "nf");have a:AA w K mg base 7 F7 E0:=nf (top 49) ["_law_script", "_law_k"] a b (H 6 (by decide)) (by wtm_at "nf");have a:AA w K mg base 9 F7 E1:=⟨a.1.mono (by decide),RN (C := "Tree") (st:=qm 35 0) (ps:=["self", "box", "number", "halves"]) (n:=4) (fb:=Mi) (m:=40) a.1 a.2 hb (QR KX G iD) (PB (M 0 (by decide)) iD (by decide)) (λ_ _ _ _ _ _ us hl=>match us,hl with|[_,_,_,_],_=>rfl) (by wtm_at "sc") (by decide +kernel) (by kernel_rfl) (by kernel_rfl)⟩
   have a:AA w K mg base 10 F8 E1:=nf (top 13) ["points", "place"] a b (H 7 (by decide)) (by wtm_at "nf");have a:AA w K mg base 11 F9 E1:=nf (top 14) ["points"] a b (H 8 (by decide)) (by wtm_at "nf");have a:AA w K mg base 12 F10 E1:=nf (top 36) ["box"] a b (H 9 (by decide)) (by wtm_at "nf");have a:AA w K mg base 12 F11 E1:=⟨zmF (ps:=["leaves"]) a.1 KX G (let ⟨f,fd,a,F,_⟩:=z;⟨f,fd,a,F⟩) (zuZ λ_ _ _ _ _ _ _=>rfl),a.2⟩
   have a:AA w K mg base 16 F12 E1:=nt (fb:=nR (jy 0)) a b z hC hB;have a:AA w K mg base 20 F13 E1:=nt (fb:=nR (jy 1)) a b z hC hB;have a:AA w K mg base 24 F14 E1:=nt (fb:=nR (jy 2)) a b z hC hB;have a:AA w K mg base 28 F15 E1:=nt (fb:=nR (jy 3)) a b z hC hB;have a:AA w K mg base 32 F16 E1:=nt (fb:=nR (jy 4)) a b z hC hB;have a:AA w K mg base 36 F17 E1:=nt (fb:=nR (jy 5)) a b z hC hB;have a:AA w K mg base 37 F18 E1:=nf (top 38) ["boxes"] a b (H 10 (by decide)) (by wtm_at "nf");have a:AA w K mg base 38 F19 E1:=nf (top 28) ["low", "high"] a b (H 11 (by decide)) (by wtm_at "nf");have a:AA w K mg base 39 F20 E1:=nf (top 29) ["shape"] a b (H 12 (by decide)) (by wtm_at "nf");have a:AA w K mg base 40 F21 E1:=nf (top 30) ["shape"] a b (H 13 (by decide)) (by wtm_at "nf");have a:AA w K mg base 41 F22 E1:=nf (top 33) ["shape"] a b (H 14 (by decide)) (by wtm_at "nf");have a:AA w K mg base 43 F22 E2:=⟨a.1.mono (by decide),RN (C := "Scene") (st:=qm 42 0) (ps:=["self", "shapes"]) (n:=2) (fb:=Ml) (m:=40) a.1 a.2 hb (QR KX G dZ) (PB (M 1 (by decide)) dZ (by decide)) (λ_ _ _ _ _ _ us hl=>match us,hl with|[_,_],_=>rfl) (by wtm_at "sc") (by decide +kernel) (by kernel_rfl) (by kernel_rfl)⟩
   have a:AA w K mg base 44 F23 E2:=nf (top 51) ["_law_one", "_law_other"] a b (H 15 (by decide)) (by wtm_at "nf");have a:AA w K mg base 45 F24 E2:=nf (top 52) ["_law_one", "_law_other", "_law_i", "_law_j"] a b (H 16 (by decide)) (by wtm_at "nf");have a:AA w K mg base 46 F25 E2:=nf (top 53) ["_law_point", "_law_under", "_law_one", "_law_other"] a b (H 17 (by decide)) (by wtm_at "nf");have a:AA w K mg base 47 F26 E2:=nf (top 54) ["_law_point", "_law_under", "_law_corners"] a b (H 18 (by decide)) (by wtm_at "nf");have a:AA w K mg base 48 F27 E2:=nf (top 55) ["_law_point", "_law_shape_here"] a b (H 19 (by decide)) (by wtm_at "nf");have a:AA w K mg base 49 F28 E2:=nf (top 27) ["ray"] a b (H 20 (by decide)) (by wtm_at "nf");have a:AA w K mg base 50 F29 E2:=nf (top 15) ["start", "step", "low", "high"] a b (H 21 (by decide)) (by wtm_at "nf");have a:AA w K mg base 51 F30 E2:=nf (top 8) ["one", "other"] a b (H 22 (by decide)) (by wtm_at "nf");have a:AA w K mg base 52 F31 E2:=nf (top 16) ["ray", "box"] a b (H 23 (by decide)) (by wtm_at "nf");have a:AA w K mg base 53 F32 E2:=nf (top 6) ["one", "other"] a b (H 24 (by decide)) (by wtm_at "nf");have a:AA w K mg base 54 F33 E2:=nf (top 7) ["ratio"] a b (H 25 (by decide)) (by wtm_at "nf");have a:AA w K mg base 55 F34 E2:=nf (top 17) ["ray", "box"] a b (H 26 (by decide)) (by wtm_at "nf");have a:AA w K mg base 56 F35 E2:=nf (top 11) ["one", "other"] a b (H 27 (by decide)) (by wtm_at "nf");have a:AA w K mg base 57 F36 E2:=nf (top 9) ["one", "other"] a b (H 28 (by decide)) (by wtm_at "nf");have a:AA w K mg base 58 F37 E2:=nf (top 19) ["triangle"] a b (H 29 (by decide)) (by wtm_at "nf");have a:AA w K mg base 59 F38 E2:=nf (top 10) ["one", "other"] a b (H 30 (by decide)) (by wtm_at "nf");have a:AA w K mg base 60 F39 E2:=nf (top 20) ["ray", "one", "other"] a b (H 31 (by decide)) (by wtm_at "nf");have a:AA w K mg base 61 F40 E2:=nf (top 21) ["ray", "one", "other"] a b (H 32 (by decide)) (by wtm_at "nf");have a:AA w K mg base 62 F41 E2:=nf (top 22) ["ray", "triangle"] a b (H 33 (by decide)) (by wtm_at "nf");have a:AA w K mg base 63 F42 E2:=nf (top 23) ["start", "way", "triangle"] a b (H 34 (by decide)) (by wtm_at "nf");have a:AA w K mg base 64 F43 E2:=nf (top 24) ["ray", "triangle", "upright"] a b (H 35 (by decide)) (by wtm_at "nf");have a:AA w K mg base 65 F44 E2:=nf (top 25) ["ray", "triangle"] a b (H 36 (by decide)) (by wtm_at "nf");have a:AA w K mg base 66 F45 E2:=nf (top 31) ["ray", "shape"] a b (H 37 (by decide)) (by wtm_at "nf");have a:AA w K mg base 67 F46 E2:=nf (top 32) ["ray", "shape"] a b (H 38 (by decide)) (by wtm_at "nf");have a:AA w K mg base 68 F47 E2:=nf (top 56) ["_law_one", "_law_other", "_law_shape_here"] a b (H 39 (by decide)) (by wtm_at "nf");have a:AA w K mg base 69 F48 E2:=nf (top 39) ["tree", "ray"] a b (H 40 (by decide)) (by wtm_at "nf");have a:AA w K mg base 70 F48 E3:=⟨a.1.mono (by decide),Kg (C := "Scene") (x := "hits") (st:=qm 42 6) (ps:=["self", "ray"]) (n:=5) (fb:=Lz) (m:=40) a.1 a.2 (JL dZ) hb (M 2 (by decide)) (λ_ _ _ _ _ _ us hl=>match us,hl with|[_,_],_=>rfl) (by wtm_at "sc") (by decide +kernel) (by kernel_rfl) (by kernel_rfl)⟩
   have a:AA w K mg base 71 F49 E3:=nf (top 41) ["one", "other"] a b (H 41 (by decide)) (by wtm_at "nf");have a:AA w K mg base 72 F49 E4:=⟨a.1.mono (by decide),Kg (C := "Scene") (x := "first") (st:=qm 42 7) (ps:=["self", "ray"]) (n:=4) (fb:=Li) (m:=40) a.1 a.2 (JL dZ) hb (M 3 (by decide)) (λ_ _ _ _ _ _ us hl=>match us,hl with|[_,_],_=>rfl) (by wtm_at "sc") (by decide +kernel) (by kernel_rfl) (by kernel_rfl)⟩
   have a:AA w K mg base 73 F49 E5:=⟨a.1.mono (by decide),Kg (C := "Scene") (x := "is_free") (st:=qm 42 9) (ps:=["self", "one", "other"]) (n:=6) (fb:=Fx) (m:=40) a.1 a.2 (JL dZ) hb (M 4 (by decide)) (λ_ _ _ _ _ _ us hl=>match us,hl with|[_,_,_],_=>rfl) (by wtm_at "sc") (by decide +kernel) (by kernel_rfl) (by kernel_rfl)⟩
   exact a
end MX.K18
theorem PySem.Challenge.cw_firsthit_k18_whole_free_between_holds : PySem.Challenge.rw_firsthit_k18_whole_free_between.Holds := by
 exact MX.zmC (H:=MX.ztE MX.K18.xb MX.K18.ms MX.K18.defs MX.K18.blt "tree_over" (MX.K18.top 37)) (q:=MX.K18.seen) (d:=MX.K18.lawRec) MX.K18.p1 MX.K18.left MX.K18.p2 MX.K18.p3 MX.K18.p4 MX.K18.p5 MX.K18.p6 (by w_witness2) MX.K18.call
#print axioms PySem.Challenge.cw_firsthit_k18_whole_free_between_holds
end
