import PyProof.Rows.All
import Wide.All
import OpenK.AllK
import Wide.FinOn
import PyProof.EqAt
import PyProof.EqKinds
import PyProof.TupleCall
import PyProof.DictRoadsH
import PyProof.DictItems
import KE.KIsAll
import KE.KSortKey
import PyProof.EnumFor
import PyProof.EnumMake
import PyProof.EnumStmt
import PyProof.Rows.FinIter
import PyProof.Rows.SeqMore2
import PyProof.Rows.SortPure
import PyProof.Rows.SortRuns
import PyProof.Rows.StrWeight2
import Open.Pieces
import PySem.Challenge.RW_firsthit_k20_whole_views
abbrev dN:=@List.getElem?_eq_some_iff
abbrev cM:=@List.mem_cons_of_mem
abbrev fL:=@List.mem_cons_self
abbrev dj:=@Nat.lt_of_lt_of_le
abbrev c7:=@PySem.Heap.get?_push_of_some
abbrev fQ:=@Bool.false_ne_true
abbrev vR:=@Nat.le_of_ble_eq_true
abbrev gD:=@PySem.mem_of_lookup
abbrev cR:=@Bool.and_eq_true
abbrev cg:=@Option.bind_some
abbrev cQ:=@List.length_map
abbrev dH:=@List.size_toArray
abbrev gQ:=@List.length_append
abbrev fD:=@List.append_assoc
abbrev eV:=@List.getElem?_map
abbrev lq:=@Int.fmod_nonneg_of_pos
abbrev lg:=@Int.fmod_lt_of_pos
abbrev gF:=@Nat.lt_irrefl
abbrev jK:=@List.mem_append
abbrev iG:=@List.length_cons
abbrev oF:=@List.map_append
abbrev jW:=@List.getElem?_append_left
abbrev tW:=@List.getElem?_append_right
abbrev fZ:=@PySem.Heap.get?_push_size
abbrev Bw:=@Nat.lt_of_le_of_lt
abbrev aN:=@PySem.wpAny_bind
abbrev bW:=@PySem.wpAny_pure
abbrev jm:=@PySem.wpAny_mono
abbrev cj:=@PySem.Heap.lt_size
abbrev bR:=@Nat.le_refl
abbrev kZ:=@List.all_cons
abbrev dO:=@List.getElem?_eq_getElem
abbrev vU:=@List.length_nil
abbrev qT:=@List.length_take
abbrev lW:=@Option.map_some
abbrev qR:=@Bool.or_eq_true
abbrev tV:=@Nat.le_of_lt
abbrev dw:=@Nat.ne_of_lt
abbrev lu:=@List.take_length
abbrev pH:=@List.mem_nil_iff
abbrev vW:=@decide_eq_true_eq
abbrev iZ:=@List.lookup_cons
abbrev iM:=@List.map_cons
abbrev vV:=@List.nil_append
abbrev iK:=@List.getElem?_eq_none
theorem aU {α β:Type _} {f:α→β} {x:Option α} {b:β}:x.map f=some b↔∃ a,x=some a∧f a=b:=Option.map_eq_some_iff
theorem bA {α β:Type _} {f:α→Option β} {x:Option α} {b:β}:x.bind f=some b↔∃ a,x=some a∧f a=some b:=Option.bind_eq_some_iff
noncomputable section
set_option Elab.async false
set_option linter.all false
set_option maxRecDepth 100000
set_option maxHeartbeats 0
section
namespace MX
open PySem PySem.Spec PySem.W PyProof.Rows
def pP (a:Addr) (o:Obj):Bool:=match o.data with
 | .freed=>false
 | .dict _ _=>true
 | _=>match o.cls with
  | .none=>Nat.beq a 3
  | _=>true
def pU:List Obj->Addr->PySem.W.Frag
 | [],_=>[]
 | o::r,a=>bif pP a o then (a,o)::pU r (Nat.succ a) else pU r (Nat.succ a)
def gj (h:Heap):PySem.W.Frag:=pU h.objs.toList 0
def wB (K:PySem.W.Frag) (x:Str):Option (Arguments×List Stmt×Scope×Bool):=match nsIn K mainGlobals x with
 | some (some (.ref f))=>match K.lookup f with
  | some ⟨_,_,.func ⟨n,q,ps,.stmts b,sc,g,[],.none,_,_,_,_,cd,_,bn⟩,_⟩=>some (ps,b,sc,n==x&&(q==x&&(Nat.beq g mainGlobals&&(Nat.beq bn builtinsNs&&(codeIn K cd x&&keepIn K (.ref f))))))
  | _=>none
 | _=>none
def yj (K:PySem.W.Frag) (h:Heap) (x:Str):Option Obj×Bool:=match nsIn K mainGlobals x with
 | some (some (.ref f))=>match K.lookup f with
  | some ⟨_,_,.func F,_⟩=>match F.code with
   | .ref c=>match K.lookup c with
    | some ⟨_,_,.fields vs,_⟩=>match (vs[11]?:Option Value) with
     | some (.ref P)=>(h.get? P,codeHdIn K c P&&(K.lookup P).isNone)
     | _=>(none,false)
    | _=>(none,false)
   | _=>(none,false)
  | _=>(none,false)
 | _=>(none,false)
def dA (s:Stmt):Arguments:=match s with
 | .FunctionDef _ a _ _ _ _ _ _ _ _=>a
 | _=>{ posonlyargs:=[],args:=[],vararg:=none,kwonlyargs:=[],kw_defaults:=[],kwarg:=none,defaults:=[] }
def dB (s:Stmt):List Stmt:=match s with
 | .FunctionDef _ _ b _ _ _ _ _ _ _=>b
 | _=>[]
def dS (s:Stmt):Scope:=match s with
 | .FunctionDef _ _ _ _ _ _ c _ _ _=>c
 | _=>{ kind := .function,names:=[],isGenerator:=false,isCoroutine:=false }
def vy (s:Stmt):Pos:=match s with
 | .FunctionDef _ _ _ _ _ _ _ _ _ p=>p
 | _=>⟨0,0,0,0⟩
def Mw (ds:List (Str×Stmt)) (blt:List Str) (s:Shared):List (Option (Arguments×List Stmt×Scope×Bool))×List (Option (Option Value)):=(ds.map λy=>wB (gj s.heap) y.1,blt.map λy=>nsIn (gj s.heap) mainGlobals y)
def q9 (ds:List (Str×Stmt)) (blt:List Str):List (Option (Arguments×List Stmt×Scope×Bool))×List (Option (Option Value)):=(ds.map λy=>some (dA y.2,dB y.2,dS y.2,true),blt.map λ_=>some none)
def Mv (ds:List (Str×Stmt)) (blt:List Str) (x:Str) (s:Shared):(List (Option (Arguments×List Stmt×Scope×Bool))×List (Option (Option Value)))×Option (Arguments×List Stmt×Scope×Bool)×(Option Obj×Bool):=(Mw ds blt s,wB (gj s.heap) x,yj (gj s.heap) s.heap x)
def uF (ds:List (Str×Stmt)) (blt:List Str) (st:Stmt):(List (Option (Arguments×List Stmt×Scope×Bool))×List (Option (Option Value)))×Option (Arguments×List Stmt×Scope×Bool)×(Option Obj×Bool):=(q9 ds blt,some (dA st,dB st,dS st,true),(some (tabObj #[]),true))
abbrev rY:List Value:=[.type "ValueError",.type "Exception",.type "BaseException",.type "object"]
def wn:Nat->Str
 | 0 => "NoRay"
 | 1 => "NoShape"
 | 2 => "NotClosed"
 | _ => "BadRow"
def n8 (K:PySem.W.Frag) (D:Addr):Bool :=
 (findIn K (.ref D) "__getattribute__" == some (some (.builtin "BaseException.__getattribute__"))&&(findIn K (.ref D) "__getattr__" == some none&&mroIn K D (.type "BaseException")==some true))&&((clsIn K D).isSome&&(findIn K (.ref D) "__class__" == some (some (.builtin "object.__class__")) &&
  (specialIn K (.builtin "object.__class__") "__get__" == some (some (.builtin "getset_descriptor.__get__"))&&(takesIn K (.builtin "object.__class__")==some true&&mroIn K D (.type "object")==some true))))
def cL (K:PySem.W.Frag) (x:Str):Addr:=match nsIn K mainGlobals x with
 | some (some (.ref a))=>a
 | _=>0
def kj (K:PySem.W.Frag) (x:Str):Addr:=match nsIn K mainGlobals x with
 | some (some (.ref f))=>match K.lookup f with
  | some ⟨_,_,.func F,_⟩=>match F.code with
   | .ref c=>match K.lookup c with
    | some ⟨_,_,.fields vs,_⟩=>match (vs[11]?:Option Value) with
     | some (.ref P)=>P
     | _=>0
    | _=>0
   | _=>0
  | _=>0
 | _=>0
def vp (K:PySem.W.Frag) (i:Nat):Bool:=(n8 K (cL K (wn i))&&excIn K (cL K (wn i)) rY "ValueError.__new__")&&(mroIn K (cL K (wn i)) (.ref (cL K "HitError"))==some true &&
 (kitOne K (.ref (cL K (wn i))) (.ref (cL K "HitError"))==some true&&(kitOne K (.ref (cL K (wn i))) (.type "ValueError")==some true &&
  ((List.range 4).all (λj=>kitOne K (.ref (cL K (wn i))) (.ref (cL K (wn j)))==some (decide (i=j)))&&nsIn K mainGlobals (wn i)==some (some (.ref (cL K (wn i))))))))
def Nq (K:PySem.W.Frag):Bool:=(List.range 4).all (vp K)&&((nsIn K mainGlobals "HitError" == some (some (.ref (cL K "HitError")))&&excIn K (cL K "HitError") rY "ValueError.__new__")&&(nsIn K mainGlobals "isinstance" == some none&&nsIn K mainGlobals "ValueError" == some none))
def nG (K:PySem.W.Frag) (D:Addr):Bool:=findIn K (.ref D) "__str__" == some (some (.builtin "BaseException.__str__"))&&mroIn K D (.type "BaseException")==some true
def excB2 (K:PySem.W.Frag):Bool:=Nq K&&(List.range 4).all λi=>keepIn K (.ref (cL K (wn i)))&&nG K (cL K (wn i))
def obsX (xb:PySem.W.Frag->Bool) (ds:List (Str×Stmt)) (blt:List Str) (x:Str) (s:Shared):((List (Option (Arguments×List Stmt×Scope×Bool))×List (Option (Option Value)))×Option (Arguments×List Stmt×Scope×Bool)×(Option Obj×Bool))×Bool:=(Mv ds blt x s,xb (gj s.heap))
def valX (ds:List (Str×Stmt)) (blt:List Str) (st:Stmt):((List (Option (Arguments×List Stmt×Scope×Bool))×List (Option (Option Value)))×Option (Arguments×List Stmt×Scope×Bool)×(Option Obj×Bool))×Bool:=(uF ds blt st,true)
end MX
end
section
namespace MX
open PySem PySem.Spec PySem.W PyProof.Rows
def Cm (K:PySem.W.Frag) (C m:Str):Option (Arguments×List Stmt×Scope×Bool):=match findIn K (.ref (cL K C)) m with
 | some (some (.ref f))=>match K.lookup f with
  | some ⟨_,_,.func ⟨n,q,ps,.stmts b,sc,g,[],.none,_,_,_,_,cd,_,bn⟩,_⟩=>some (ps,b,sc,n==m&&(q==C ++ "." ++ m&&(Nat.beq g mainGlobals&&(Nat.beq bn builtinsNs&&(codeIn K cd (C ++ "." ++ m)&&(keepIn K (.ref f)&&isFn K (.ref f)))))))
  | _=>none
 | _=>none
def qU (K:PySem.W.Frag) (C:Str) (fs:List Str):Bool:=(plainGet K (cL K C) Str.empty&&(hasDictIn K (cL K C)&&(plainOver K (cL K C)&&findIn K (.ref (cL K C)) "__setattr__" == some (some (.builtin "object.__setattr__"))))) &&
 ((makesIn K (cL K C)&&(keepIn K (.ref (cL K C))&&nsIn K mainGlobals C==some (some (.ref (cL K C)))))&&fs.all λf=>findIn K (.ref (cL K C)) f==some none)
def qt (K:PySem.W.Frag) (x y:Str):Bool:=match nsIn K mainGlobals x with
 | some (some (.str z _))=>z==y
 | _=>false
def Gk (os:List Obj) (cd:Value) (x:Str):Bool:=match cd with
 | .ref c=>(match os[c]? with
  | some o=>(match o.data with
   | .fields vs=>(match o.cls with
    | .none=>false
    | _=>(match vs.toList with | _ :: .str n _::_=>n==x | _=>false))
   | _=>false)
  | none=>false)
 | _=>false
def GD (K:PySem.W.Frag) (os:List Obj) (x:Str):Option (Arguments×List Stmt×Scope×Bool):=match nsIn K mainGlobals x with
 | some (some (.ref f))=>match os[f]? with
  | some o=>match o.data with
   | .func ⟨n,q,ps,.stmts b,sc,g,[],.none,_,_,_,_,cd,_,bn⟩=>(match o.cls with
    | .none=>none
    | _=>some (ps,b,sc,n==x&&(q==x&&(Nat.beq g mainGlobals&&(Nat.beq bn builtinsNs&&Gk os cd x)))))
   | _=>none
  | none=>none
 | _=>none
def pM (ds:List (Str×Stmt)) (blt:List Str) (s:Shared):List (Option (Arguments×List Stmt×Scope×Bool))×List (Option (Option Value)):=(ds.map λy=>GD (gj s.heap) s.heap.objs.toList y.1,blt.map λy=>nsIn (gj s.heap) mainGlobals y)
def lQ (xb:PySem.W.Frag->Bool) (ms:List (Str×Str×Stmt)) (ds:List (Str×Stmt)) (blt:List Str) (x:Str) (s:Shared):((List (Option (Arguments×List Stmt×Scope×Bool))×List (Option (Option Value)))×Option (Arguments×List Stmt×Scope×Bool)×(Option Obj×Bool))×(List (Option (Arguments×List Stmt×Scope×Bool))×Bool) :=
 ((pM ds blt s,wB (gj s.heap) x,yj (gj s.heap) s.heap x),(ms.map λy=>Cm (gj s.heap) y.1 y.2.1,xb (gj s.heap)))
def nA (ms:List (Str×Str×Stmt)) (ds:List (Str×Stmt)) (blt:List Str) (st:Stmt):((List (Option (Arguments×List Stmt×Scope×Bool))×List (Option (Option Value)))×Option (Arguments×List Stmt×Scope×Bool)×(Option Obj×Bool))×(List (Option (Arguments×List Stmt×Scope×Bool))×Bool) :=
 (uF ds blt st,(ms.map λy=>some (dA y.2.2,dB y.2.2,dS y.2.2,true),true))
def uQ (xb:PySem.W.Frag->Bool) (ms:List (Str×Str×Stmt)) (x:Str) (s:Shared):(Option (Arguments×List Stmt×Scope×Bool)×(Option Obj×Bool))×(List (Option (Arguments×List Stmt×Scope×Bool))×Bool) :=
 ((wB (gj s.heap) x,yj (gj s.heap) s.heap x),(ms.map λy=>Cm (gj s.heap) y.1 y.2.1,xb (gj s.heap)))
def uG (ms:List (Str×Str×Stmt)) (st:Stmt):(Option (Arguments×List Stmt×Scope×Bool)×(Option Obj×Bool))×(List (Option (Arguments×List Stmt×Scope×Bool))×Bool) :=
 ((some (dA st,dB st,dS st,true),(some (tabObj #[]),true)),(ms.map λy=>some (dA y.2.2,dB y.2.2,dS y.2.2,true),true))
theorem Af {p q:Program} {loose:List Str} {xb:PySem.W.Frag->Bool} {ms:List (Str×Str×Stmt)} {ds:List (Str×Stmt)} {blt:List Str} {x:Str} {st:Stmt} {N:Nat} (a:LeftO p q loose (λ_=>true) (λ_=>()) (λ_=>()) N)
 (b:∀ w,(openEnds treeTable p w N).map (pM ds blt)=some (q9 ds blt)) (c:∀ w,(openEnds treeTable p w N).map (uQ xb ms x)=some (uG ms st)):LeftO p q loose (λ_=>true) (lQ xb ms ds blt x) (λ_=>nA ms ds blt st) N:=by
 intro w
 obtain ⟨s,e,h1⟩:=aU.mp (a w)
 obtain ⟨s2,e2,h2⟩:=aU.mp (b w)
 obtain ⟨s3,e3,h3⟩:=aU.mp (c w)
 rw [e] at e2 e3
 cases e2
 cases e3
 rw [e]
 have g1:=(Prod.mk.inj h1).1
 have g3:=Prod.mk.inj (Prod.mk.inj h3).1
 have g4:=Prod.mk.inj (Prod.mk.inj h3).2
 show some (_,lQ xb ms ds blt x s)=_
 unfold lQ nA uF
 rw [g1,show pM ds blt s=q9 ds blt from h2,g3.1,g3.2,g4.1,g4.2]
theorem Ae {p q:Program} {loose:List Str} {xb:PySem.W.Frag->Bool} {ms:List (Str×Str×Stmt)} {d1 d2:List (Str×Stmt)} {blt:List Str} {x:Str} {st:Stmt} {N:Nat} (a:LeftO p q loose (λ_=>true) (λ_=>()) (λ_=>()) N)
 (b1:∀ w,(openEnds treeTable p w N).map (pM d1 blt)=some (q9 d1 blt)) (b2:∀ w,(openEnds treeTable p w N).map (pM d2 [])=some (q9 d2 [])) (c:∀ w,(openEnds treeTable p w N).map (uQ xb ms x)=some (uG ms st)):LeftO p q loose (λ_=>true) (lQ xb ms (d1++d2) blt x) (λ_=>nA ms (d1++d2) blt st) N:=by
 refine Af a (λw=>?_) c
 obtain ⟨s,e,h1⟩:=aU.mp (b1 w)
 obtain ⟨s2,e2,h2⟩:=aU.mp (b2 w)
 rw [e] at e2
 cases e2
 rw [e]
 have g1:=Prod.mk.inj h1
 have g2:=Prod.mk.inj h2
 show some (pM (d1++d2) blt s)=_
 unfold pM q9
 rw [oF,oF,g1.1,g2.1,g1.2]
end MX
end
section
namespace MX
open PySem PySem.Spec PySem.W PyProof.Rows
noncomputable def tQ1:List Obj->BT->Nat->Option (BT×Nat)
 |[],T,n=>some (T,n)
 |o::r,T,n=>match((T.ins n o).get n).isSome with
  |true=>tQ1 r (T.ins n o) (n+1)
  |false=>none
theorem tQ2{v:Life}:∀{l:List Obj}{T:BT}{n:Nat}{T':BT}{n':Nat}{a:Array Obj},absHeap T n v=⟨a,v⟩->tQ1 l T n=some (T',n')->absHeap T' n' v=⟨a++l.toArray,v⟩
 |[],T,n,T',n',a,e,h=>by cases h;rw[e];simp
 |o::r,T,n,T',n',a,e,h=>by
  unfold tQ1 at h;split at h
  . rename_i g;have e2:absHeap (T.ins n o) (n+1) v=⟨a.push o,v⟩:=by rw[absHeap_ins g,e];rfl
    rw[tQ2 e2 h];simp
  . cases h
noncomputable def tQ3(p:Program)(w:World)(m:Nat)(z:Option Value):Nat->SharedT->Thread->Option SharedT
 |0,_,_=>none
 |n+1,s,t=>match through t with
  |true=>some s
  |false=>match stepOk m z t with
   |false=>none
   |true=>match stepT (denote treeTable) p w s t with
    |some (s',t')=>tQ3 p w m z n s' t'
    |none=>none
theorem tQ4{p:Program}{w:World}{m:Nat}{z:Option Value}:∀{n:Nat}{s s':SharedT}{t:Thread},tQ3 p w m z n s t=some s'->topRun treeTable p w m z n s.abs t=some s'.abs
 |0,_,_,_,h=>by cases h
 |n+1,s,s',t,h=>by
  unfold tQ3 at h;unfold topRun;cases ht:through t with
  |true=>rw[ht] at h;cases h;rfl
  |false=>
   rw[ht] at h;cases hk:stepOk m z t with
   |false=>rw[hk] at h;cases h
   |true=>
    rw[hk] at h;cases hs:stepT (denote treeTable) p w s t with
    |none=>rw[hs] at h;cases h
    |some r=>obtain⟨s₂,t₂⟩:=r;rw[hs] at h;rw[stepT_spec hs];exact tQ4 h
noncomputable def tQ5(p:Program)(w:World)(N:Nat)(os:OsState):Option SharedT:=let b:=boot_heap w.params;match b.isNs mainGlobals with
 |false=>none
 |true=>(tQ1 b.objs.toList .nil 0).bind λx=>(tQ3 p w b.objs.size (b.nsMap mainGlobals "__annotations__") N ⟨x.1,x.2,b.life,#[],boot_drawn,boot_toks,os⟩ (topStub p)).bind λs=>match staticsOk (importedModules p.main.body) b s.abs.heap&&namesBound p s.abs.heap&&gensDone s.abs&&laidKept b s.abs.heap with
  |true=>some s
  |false=>none
theorem tQ6{p:Program}{w:World}{N:Nat}{α:Type}{look:Shared->α}{a:α}(e:opening p=plainProg p.main.scope.names)(hN:Nat.ble 600 N=true)(f:∀s,fenceModules? p s=some s)(h:∀os,(tQ5 p w N os).map (λs=>look s.abs)=some a):(openEnds treeTable p w N).map look=some a:=by
 obtain⟨⟨hp,gs,d,k,os⟩,e1,e2⟩:=Option.map_eq_some_iff.mp (boot_open e hN f w);obtain⟨rfl,rfl,rfl,rfl⟩:hp=boot_heap w.params∧gs=#[]∧d=boot_drawn∧k=boot_toks:=by simpa using e2
 obtain⟨s,h1,h2⟩:=Option.map_eq_some_iff.mp (h os);unfold tQ5 at h1;dsimp only at h1;split at h1
 . cases h1
 . rename_i hns;obtain⟨⟨T,n⟩,h3,h4⟩:=Option.bind_eq_some_iff.mp h1;obtain⟨s₂,h5,h6⟩:=Option.bind_eq_some_iff.mp h4;split at h6
   . rename_i hst;cases h6;have z:absHeap T n (boot_heap w.params).life=boot_heap w.params:=by have:=tQ2 (v:=(boot_heap w.params).life) (a:=#[]) rfl h3;rw[this];simp
     have r:=tQ4 h5;rw[show SharedT.abs ⟨T,n,(boot_heap w.params).life,#[],boot_drawn,boot_toks,os⟩=⟨boot_heap w.params,#[],boot_drawn,boot_toks,os⟩ by unfold SharedT.abs;dsimp only;rw[z]] at r
     unfold openEnds;rw[e1];show((topFrom treeTable p w N _)).map look=_;unfold topFrom;dsimp only;rw[hns,r];show(match(_:Bool) with|true=>some s.abs|false=>none).map look=_;rw[hst];exact congrArg some h2
   . cases h6
end MX
end
section
namespace MX.K20
open PySem PySem.Spec PySem.W PyProof.Rows MX
abbrev PP:Program:=PySem.Challenge.pw_firsthit_k20_whole_views
abbrev PG:Program:=PySem.Challenge.rw_firsthit_k20_whole_views.prog
def top (i:Nat):Stmt:=PP.main.body.getD i (.Pass ⟨0,0,0,0⟩)
def sO (i j:Nat):Stmt:=match top i with
 | .ClassDef _ _ _ b _ _ _ _ _ _ _=>b.getD j (.Pass ⟨0,0,0,0⟩)
 | _ => .Pass ⟨0,0,0,0⟩
def blt:List Str:=["len", "abs", "min", "max", "isinstance", "all", "any", "sum", "sorted", "tuple", "list", "range", "zip", "int", "bool", "str", "enumerate"]
def nm (s:Stmt):Str:=match s with
 | .FunctionDef n _ _ _ _ _ _ _ _ _=>n
 | _ => ""
def ix1:List Nat:=[52,53,22,23,44,46,37,38,39,41,54,56,55,57,58,59,36,24,17,25,47,15,16]
def ix2:List Nat:=[26,20,18,28,19,29,30,31,32,33,34,40,49,62,4,3,5,6,60,7,8,9,61,63]
def Gm:List (Str×Stmt):=ix1.map λi=>(nm (top i),top i)
def Gn:List (Str×Stmt):=ix2.map λi=>(nm (top i),top i)
abbrev defs:List (Str×Stmt):=Gm++Gn
def ms:List (Str×Str×Stmt):=[("Tree", "__init__",sO 43 0),("Scene", "__init__",sO 50 0),("Scene", "hits",sO 50 6),("Scene", "first",sO 50 7)]
def xb (K:Frag):Bool:=qU K "Tree" ["box", "number", "halves"]&&qU K "Scene" ["kept", "tree"]&&qt K "SIGNS" "0123456789abcdefghijklmnopqrstuvwxyz"
def seen:Program:=view PP [63]
def loose:List Str:=(["_wall", "moved", "number_met", "row_seen", "seen", "sign_for", "row_drawn", "drawn", "HitError", "NoRay", "NoShape", "common_divisor", "lowest_terms", "is_less", "way_between", "dot", "cross", "numbers_at", "box_around", "times_between", "span_in", "meets_box", "edges_of", "meets_along", "meets_segment", "meets_edges", "goes_through", "meets_within_plane", "meets_triangle", "refuse_standing", "are_in_order", "is_shape", "refuse_no_shape", "time_at", "bounds", "Tree", "widest_place", "tree_over", "tree_about", "numbers_along", "is_sooner", "Scene", "_law_cell", "_law_drawn", "_law_spot", "_law_put", "_law_plain", "_law_shape", "_law_ray", "_law_far", "_law_row", "_law_text", "_law_seen", "SIGNS"]:List String).map Str.ofString
def lawRec:DefRec:=⟨"law",dA (top 63),dB (top 63),dS (top 63),vy (top 63)⟩
theorem tQ7:opening PP=plainProg PP.main.scope.names:=by kernel_rfl
theorem tQ8:∀s,fenceModules? PP s=some s:=by intro s;kernel_rfl
theorem Ad:LeftO PP seen loose (λ_=>true) (λ_=>()) (λ_=>()) 6144:=λw=>tQ6 tQ7 rfl tQ8 λos=>by kernel_rfl
theorem uV:∀ w,(openEnds treeTable PP w 6144).map (pM Gm blt)=some (q9 Gm blt):=λw=>tQ6 tQ7 rfl tQ8 λos=>by kernel_rfl
theorem uU:∀ w,(openEnds treeTable PP w 6144).map (pM Gn [])=some (q9 Gn []):=λw=>tQ6 tQ7 rfl tQ8 λos=>by kernel_rfl
theorem Ac:∀ w,(openEnds treeTable PP w 6144).map (uQ xb ms "tree_over")=some (uG ms (top 45)):=λw=>tQ6 tQ7 rfl tQ8 λos=>by kernel_rfl
abbrev LW:=PySem.Challenge.rw_firsthit_k20_whole_views
def p1:LW.wellSaid=true:=by kernel_rfl
def p2:defOf seen LW.name=some (lawRec,[]):=by kernel_rfl
def p3:LW.prog.theDef LW.name=some (lawRec.params,lawRec.body,lawRec.scope):=by kernel_rfl
def p4:kwWritten? lawRec.params.kwonlyargs lawRec.params.kw_defaults=some []:=by kernel_rfl
def p5:(chainsOk seen&&opensWell LW.prog&&(frees LW.row.toRowW&&LW.row.within.isEmpty))=true:=by kernel_rfl
def p6:LW.prog.bare:=⟨rfl,rfl,rfl,rfl,rfl,by decide +kernel⟩
theorem left:LeftO PP seen loose (λ_=>true) (lQ xb ms defs blt "tree_over") (λ_=>nA ms defs blt (top 45)) 6144:=Ae Ad uV uU Ac
end MX.K20
end
section
namespace L2
open PySem PySem.Spec PyProof.Rows
abbrev Key:=Sum Int Str
def sS:Key->Value->Bool
 | .inl k,v=>Value.isInt k v
 | .inr x,v=>Value.isStrOf x v
def MJ (w:World):Key->Int
 | .inl k=>hashInt k
 | .inr x=>hashStr w x
theorem qi:∀ {k:Key} {v:Value},sS k v=true->(∃ i t,k=Sum.inl i/\v=Value.int i t)\/(∃ x t,k=Sum.inr x/\v=Value.str x t)
 | .inl i,v,h=>by
  obtain ⟨t,e⟩:=Value.isInt_shape (k:=i) (v:=v) h
  exact .inl ⟨i,t,rfl,e⟩
 | .inr x,v,h=>by
  obtain ⟨t,e⟩:=Value.isStrOf_shape (x:=x) (v:=v) h
  exact .inr ⟨x,t,rfl,e⟩
theorem W7 (a b:Int):decide ((Sum.inl a:Key)=Sum.inl b)=(a==b):=by
 by_cases e:a=b
 ·subst e;simp
 ·have h:¬ (Sum.inl a:Key)=Sum.inl b:=λq=>e (Sum.inl.inj q)
  rw [decide_eq_false h]
  exact (beq_eq_false_iff_ne.mpr e).symm
theorem Xa (a b:Str):decide ((Sum.inr a:Key)=Sum.inr b)=decide (a=b):=by
 by_cases e:a=b
 ·subst e;simp
 ·have h:¬ (Sum.inr a:Key)=Sum.inr b:=λq=>e (Sum.inr.inj q)
  rw [decide_eq_false h,decide_eq_false e]
theorem W8 (a:Int) (b:Str):decide ((Sum.inl a:Key)=Sum.inr b)=false:=decide_eq_false (λq=>nomatch q)
theorem W9 (a:Str) (b:Int):decide ((Sum.inr a:Key)=Sum.inl b)=false:=decide_eq_false (λq=>nomatch q)
def GK (prog:Program) (w:World):PySem.KeyKind prog w Key where
 is:=sS
 hash:=MJ w
 inj:=λv a b ha hb=>by
  rcases qi ha with ⟨i,t,rfl,rfl⟩ | ⟨x,t,rfl,rfl⟩
  ·rcases qi hb with ⟨j,u,rfl,e⟩ | ⟨y,u,rfl,e⟩
   ·injection e with e1 _;rw [e1]
   ·exact nomatch e
  ·rcases qi hb with ⟨j,u,rfl,e⟩ | ⟨y,u,rfl,e⟩
   ·exact nomatch e
   ·injection e with e1 _;rw [e1]
 byValue:=λk v h=>by
  rcases qi h with ⟨i,t,rfl,rfl⟩ | ⟨x,t,rfl,rfl⟩<;>rfl
 pyHash:=λhv h=>by
  rcases qi hv with ⟨i,t,rfl,rfl⟩ | ⟨x,t,rfl,rfl⟩
  ·exact wpAny_pyHash_int h
  ·exact wpAny_pyHash_str h
 eqBool:=λhu hv h=>by
  rcases qi hu with ⟨i,t,rfl,rfl⟩ | ⟨x,t,rfl,rfl⟩
  ·rcases qi hv with ⟨j,u,rfl,rfl⟩ | ⟨y,u,rfl,rfl⟩
   ·rw [W7] at h;exact wpAny_eqBool_int h
   ·rw [W8] at h;exact SeqAt.EqAt.int_str i t y u _ _ _ _ h
  ·rcases qi hv with ⟨j,u,rfl,rfl⟩ | ⟨y,u,rfl,rfl⟩
   ·rw [W9] at h;exact SeqAt.EqAt.str_int x t j u _ _ _ _ h
   ·rw [Xa] at h;exact wpAny_eqBool_str h
 «strs»:=λk x t v h=>by
  rcases qi h with ⟨i,u,rfl,e⟩ | ⟨y,u,rfl,e⟩
  ·exact nomatch e
  ·injection e with e1 _
   subst e1
   cases v<;>rfl
inductive V where
 | non | bl (b:Bool) | int (i:Int) | str (x:Str) | byt (b:Array UInt8) | flt (b:UInt64) | ref (a:Addr) | ty (n:String)
 deriving DecidableEq
def RelV:V->Value->Prop
 | .non,u=>u=Value.none
 | .bl b,u=>u=Value.bool b
 | .int i,u=>∃ t,u=Value.int i t
 | .str x,u=>∃ t,u=Value.str x t
 | .byt b,u=>∃ t,u=Value.bytes b t
 | .flt b,u=>∃ t,u=Value.float b t
 | .ref a,u=>u=Value.ref a
 | .ty n,u=>u=Value.type n
abbrev Vals:List V->List Value->Prop:=Paired RelV
theorem Vals.length {xs:List V} {us:List Value} (r:Vals xs us):xs.length=us.length:=Paired.length r
theorem Vals.get:∀ {xs:List V} {us:List Value} {i:Nat} {x:V},Vals xs us->xs[i]?=some x->∃ u,us[i]?=some u/\RelV x u
 | _,_,_,_,.nil,e=>by simp at e
 | _,_,0,_,.cons r _,e=>by simp at e;subst e;exact ⟨_,rfl,r⟩
 | _,_,i+1,x,.cons _ t,e=>by
  obtain ⟨u,h1,h2⟩:=Vals.get (i:=i) (x:=x) t (by simpa using e)
  exact ⟨u,by simpa using h1,h2⟩
theorem Vals.append:∀ {xs ys:List V} {us ws:List Value},Vals xs us->Vals ys ws->Vals (xs++ys) (us++ws)
 | _,_,_,_,.nil,s=>s
 | _,_,_,_,.cons r t,s => .cons r (Vals.append t s)
theorem Vals.take:∀ {xs:List V} {us:List Value} (n:Nat),Vals xs us->Vals (xs.take n) (us.take n)
 | _,_,0,_ => .nil
 | _,_,_+1,.nil => .nil
 | _,_,n+1,.cons r t => .cons r (Vals.take n t)
theorem Vals.drop:∀ {xs:List V} {us:List Value} (n:Nat),Vals xs us->Vals (xs.drop n) (us.drop n)
 | _,_,0,r=>r
 | _,_,_+1,.nil => .nil
 | _,_,n+1,.cons _ t=>Vals.drop n t
theorem Vals.none_of:∀ {xs:List V} {us:List Value} {i:Nat},Vals xs us->xs[i]?=none->us[i]?=none:=λ{xs us i} r e=>by
 have h1:=r.length
 have h2:xs.length<=i:=List.getElem?_eq_none_iff.mp e
 exact List.getElem?_eq_none_iff.mpr (by omega)
def iD:Option V->Option Value->Prop
 | some v,some u=>RelV v u
 | none,none=>True
 | _,_=>False
def KV {κ:Type}:List (κ×V)->List (κ×Value)->Prop:=Paired λ(p:κ×V) (q:κ×Value)=>p.1=q.1/\RelV p.2 q.2
def kV:Key->V
 | .inl i => .int i
 | .inr x => .str x
inductive HO where
 | lst (xs:List V)
 | tup (xs:List V)
 | dK (kvs:List (Key×V)) | dT (kvs:List (List Key×V))
 | set (S:Int->Bool) (n:Nat)
 | ins (C dx:Addr) (fs:List (Str×V))
 | own (x:Addr)
 | xd (fs:List (Str×V))
 | met (f x:Addr)
 | rng (lo hi:Int)
 | frz (o:Obj) (u:HO)
 | tbl (ps:Array Value)
 | ext (φ:Heap->Prop)
abbrev Hp:=Addr->Option HO
def upd (H:Hp) (a:Addr) (o:HO):Hp:=λb=>if b=a then some o else H b
theorem eO {H:Hp} {a:Addr} {o:HO}:upd H a o a=some o:=by unfold upd;rw [if_pos rfl]
theorem bY {H:Hp} {a b:Addr} {o:HO} (h:b≠a):upd H a o b=H b:=by unfold upd;rw [if_neg h]
theorem Cp {H:Hp} {a b:Addr} {o u:HO} (h:H a=some o) (h':H b=some u) (d:o≠u):a≠b:=by
 intro e;subst e;rw [h] at h';exact d (Option.some.inj h')
theorem fU {H:Hp} {a b:Addr} {o:HO} (h:H a=some o) (h':H b=none):a≠b:=by
 intro e;subst e;rw [h] at h';cases h'
section
variable (P:Program) (w:World)
def bO (H:Hp) (h:Heap) (a:Addr):HO->Prop
 | .lst xs=>xs.length<=sizeLine/\∃ (its:List Value) (n:Nat),Vals xs its/\h.get? a=some { cls := .type "list",data := .seq its.toArray n }
 | .tup xs=>xs.length<=sizeLine/\∃ its:List Value,Vals xs its/\IsTup h a its.toArray
 | .dK kvs=>kvs.length<=sizeLine/\(a==sysModules)=false/\∃ vs,KV kvs vs/\h.DictOf (GK P w) a vs
 | .dT kvs=>kvs.length<=sizeLine/\(a==sysModules)=false/\∃ xs:List (List Key×Addr×Value),
  Paired (λ(p:List Key×V) (q:List Key×Addr×Value)=>p.1=q.1/\H q.2.1=some (.tup (p.1.map kV))/\RelV p.2 q.2.2) kvs xs /\
  ∃ o es ep,h.get? a=some o/\o.ExactDict/\o.data = .dict es ep/\es.toList=xs.map (entryOfKey (tupleKind (GK P w)))/\(xs.map (·.1)).Nodup
 | .set S n=>h.SetOf (intKind P w) a S n
 | .ins C dx fs=>H dx=some (.own a)/\fs.length<=1000/\dx≠a/\h.get? a=some (PySem.W.instObj C dx) /\
  ∃ mA,h.Ns1 dx mA/\(∀ f,iD (fs.lookup f) (mA f))/\PySem.Within mA (fs.map (·.1))
 | .own _=>∃ o,h.get? a=some o
 | .xd fs=>∃ mA,h.Ns1 a mA/\∀ f,iD (fs.lookup f) (mA f)
 | .rng lo hi=>∃ t u v,h.get? a=some { cls := .type "range",data := .fields #[.int lo t,.int hi u,.int 1 v] }
 | .frz o u=>h.get? a=some o/\bO H h a u
 | .tbl ps=>h.get? a=some { cls := .none,data := .fields ps }/\TriplesOk ps.toList/\∀ pos cv,codeAmong pos ps.toList=some cv->∃ c q oc vs t,cv=Value.ref c/\H c=some (.own a)/\h.get? c=some oc/\oc.data = .fields vs/\vs[1]?=some (.str q t)
 | .met f x=>h.get? a=some (PySem.W.methodObj (.ref f) (.ref x))
 | .ext φ=>φ h/\(∃ o,h.get? a=some o)/\∀ h1 h2:Heap,φ h1->(∀ o,h1.get? a=some o->h2.get? a=some o)->φ h2
def fP (H:Hp) (h:Heap):Prop:=∀ a o,H a=some o->bO P w H h a o
end
section
variable {P:Program} {w:World} {H H':Hp} {h h':Heap} {a:Addr} {o:HO}
theorem bO.lt (x:bO P w H h a o):a<h.objs.size:=by
 cases o with
 | lst xs=>obtain ⟨_,_,_,_,e⟩:=x;exact cj e
 | tup xs=>obtain ⟨_,_,_,p⟩:=x;exact p.lt
 | dK kvs=>obtain ⟨_,_,_,_,o,_,_,e,_⟩:=x;exact cj e
 | dT kvs=>obtain ⟨_,_,_,_,o,_,_,e,_⟩:=x;exact cj e
 | set S n=>obtain ⟨o,_,_,_,e,_⟩:=x;exact cj e
 | ins C dx fs=>obtain ⟨_,_,_,e,_⟩:=x;exact cj e
 | own y=>obtain ⟨_,e⟩:=x;exact cj e
 | xd fs=>obtain ⟨_,⟨_,_,_,e,_⟩,_⟩:=x;exact cj e
 | rng lo hi=>obtain ⟨_,_,_,e⟩:=x;exact cj e
 | frz ob u=>obtain ⟨e,_⟩:=x;exact cj e
 | tbl ps=>exact cj x.1
 | met f y=>exact cj (show h.get? a=some _ from x)
 | ext φ=>obtain ⟨_,⟨_,e⟩,_⟩:=x;exact cj e
theorem Paired.mapP {α β:Type} {F G:α->β->Prop}:∀ {l₁:List α} {l₂:List β},Paired F l₁ l₂->(∀ a b,F a b->G a b)->Paired G l₁ l₂
 | _,_,.nil,_ => .nil
 | _,_,.cons r t,f => .cons (f _ _ r) (Paired.mapP t f)
theorem bO.stay (x:bO P w H h a o) (k:∀ b u,(b=a\/H b=some (.own a))->h.get? b=some u->h'.get? b=some u)
 (ho:∀ b,H b=some (.own a)->H' b=some (.own a)) (ht:∀ b xs,H b=some (.tup xs)->H' b=some (.tup xs)):bO P w H' h' a o:=by
 induction o with
 | lst xs=>obtain ⟨z,its,n,r,e⟩:=x;exact ⟨z,its,n,r,k _ _ (.inl rfl) e⟩
 | tup xs=>obtain ⟨z,its,r,ob,e,c⟩:=x;exact ⟨z,its,r,ob,k _ _ (.inl rfl) e,c⟩
 | dK kvs=>obtain ⟨z,y,vs,r,ob,es,ep,e,c⟩:=x;exact ⟨z,y,vs,r,ob,es,ep,k _ _ (.inl rfl) e,c⟩
 | dT kvs =>
  obtain ⟨z,y,xs,r,ob,es,ep,e,c⟩:=x
  exact ⟨z,y,xs,Paired.mapP r λp q z=>⟨z.1,ht _ _ z.2.1,z.2.2⟩,ob,es,ep,k _ _ (.inl rfl) e,c⟩
 | set S n=>obtain ⟨ob,es,ep,t,e,c⟩:=x;exact ⟨ob,es,ep,t,k _ _ (.inl rfl) e,c⟩
 | ins C dx fs =>
  obtain ⟨d,z,ne,e,mA,⟨od,es,ep,e2,c⟩,r⟩:=x
  exact ⟨ho _ d,z,ne,k _ _ (.inl rfl) e,mA,⟨od,es,ep,k _ _ (.inr d) e2,c⟩,r⟩
 | own y=>obtain ⟨ob,e⟩:=x;exact ⟨ob,k _ _ (.inl rfl) e⟩
 | xd fs=>obtain ⟨mA,⟨od,es,ep,e,c⟩,r⟩:=x;exact ⟨mA,⟨od,es,ep,k _ _ (.inl rfl) e,c⟩,r⟩
 | rng lo hi=>obtain ⟨t,u,v,e⟩:=x;exact ⟨t,u,v,k _ _ (.inl rfl) e⟩
 | frz ob u ih=>obtain ⟨e,q⟩:=x;exact ⟨k _ _ (.inl rfl) e,ih q⟩
 | tbl ps =>
  obtain ⟨e,h1,h2⟩:=x
  refine ⟨k a _ (.inl rfl) e,h1,λpos cv q=>?_⟩
  obtain ⟨c,q,oc,vs,t,e1,e2,e3,e4⟩:=h2 pos cv q
  exact ⟨c,q,oc,vs,t,e1,ho _ e2,k _ _ (.inr e2) e3,e4⟩
 | met f y =>
  have e:h.get? a=some (PySem.W.methodObj (.ref f) (.ref y)):=x
  show h'.get? a=some (PySem.W.methodObj (.ref f) (.ref y))
  exact k a _ (.inl rfl) e
 | ext φ=>obtain ⟨p,⟨o,e⟩,st⟩:=x;exact ⟨st _ _ p λo q=>k _ _ (.inl rfl) q,⟨o,k _ _ (.inl rfl) e⟩,st⟩
theorem fP.lt (x:fP P w H h) (e:H a=some o):a<h.objs.size:=(x a o e).lt
theorem fP.fresh (x:fP P w H h) (e:h.objs.size<=a):H a=none:=by
 cases q:H a with
 | none=>rfl
 | some u=>exact absurd (dj (x.lt q) e) (gF _)
theorem fP.kept (x:fP P w H h) (k:∀ b u,h.get? b=some u->h'.get? b=some u):fP P w H h':=λa o e =>
 (x a o e).stay (λb u _ q=>k b u q) (λ_ q=>q) λ_ _ q=>q
theorem fP.laid (x:fP P w H h) (k:∀ b u,h.get? b=some u->h'.get? b=some u) (hp:h.objs.size<=a) (new:bO P w (upd H a o) h' a o):fP P w (upd H a o) h':=λb u e=>by
 have hn:=x.fresh hp
 by_cases hb:b=a
 ·subst hb;rw [eO] at e;cases e;exact new
 ·rw [bY hb] at e
  exact (x b u e).stay (λc v _ q=>k c v q) (λc q=>by rw [bY (fU q hn)];exact q) λc xs q=>by rw [bY (fU q hn)];exact q
end
def Rd (H:Hp) (a:Addr) (u:HO):Prop:=H a=some u\/∃ o,H a=some (.frz o u)
theorem Rd.ok {P:Program} {w:World} {H:Hp} {h:Heap} {a:Addr} {u:HO} (r:Rd H a u) (x:fP P w H h):bO P w H h a u:=by
 rcases r with r | ⟨o,r⟩
 ·exact x a u r
 ·obtain ⟨_,q⟩:=x a _ r
  exact q
def FZ:Option HO->Prop
 | some (.lst _)=>True
 | some (.dK _)=>True
 | some (.dT _)=>True
 | some (.set _ _)=>True
 | some (.ins _ _ _)=>True
 | some (.ext _)=>True
 | _=>False
section
variable {P:Program} {w:World} {H:Hp} {h h':Heap} {x e:Addr} {o':HO}
theorem fP.write (ok:fP P w H h) (mu:FZ (H x)) (he:e=x\/H e=some (.own x)) (k:∀ b u,b≠e->h.get? b=some u->h'.get? b=some u) (heo:∃ u,h'.get? e=some u)
 (new:bO P w (upd H x o') h' x o'):fP P w (upd H x o') h':=λb u q=>by
 have z8:∀ c y,H c=some (.own y)->c≠x:=λc y r z=>by subst z;rw [r] at mu;exact mu
 have Mx:∀ c xs,H c=some (.tup xs)->c≠x:=λc xs r z=>by subst z;rw [r] at mu;exact mu
 by_cases hb:b=x
 ·subst hb;rw [eO] at q;cases q;exact new
 ·rw [bY hb] at q
  by_cases hbe:b=e
  ·have q':H b=some (.own x):=by
    rcases he with z | z
    ·exact absurd (hbe.trans z) hb
    ·rw [hbe];exact z
   rw [q] at q';cases q'
   obtain ⟨v,hv⟩:=heo
   exact ⟨v,by rw [hbe];exact hv⟩
  ·refine (ok b u q).stay (λc v hc r=>k c v ?_ r) (λc r=>by rw [bY (z8 c b r)];exact r) λc xs r=>by rw [bY (Mx c xs r)];exact r
   rcases hc with rfl | hc
   ·exact hbe
   ·rintro rfl
    rcases he with z | z
    ·exact z8 c b hc z
    ·rw [hc] at z;cases z;exact hb rfl
end
structure Un (fs ex:List Addr) (H H':Hp) (h h':Heap):Prop where
 keep:∀ b o,h.get? b=some o->H b=none->b∉fs->b∉ex->h'.get? b=some o
 slot:∀ b o,h.get? b=some o->H b=none->b∈fs->b∉ex->∃ sl,h'.get? b=some { o with slots:=sl }
 free:∀ b o,h.get? b=some o->H b=none->b∉ex->H' b=none
 there:∀ b o,h.get? b=some o->b∉ex->∃ o',h'.get? b=some o'
 tups:∀ b xs,H b=some (.tup xs)->H' b=some (.tup xs)
 frzs:∀ b o u,H b=some (.frz o u)->H' b=some (.frz o u)
 tbls:∀ b ps,H b=some (.tbl ps)->∃ more,H' b=some (.tbl (ps++more))
section
variable {fs fs' ex ex':List Addr} {H H1 H2:Hp} {h h1 h2 h':Heap} {a x e:Addr} {o:HO}
theorem Un.any (u:Un fs ex H H1 h h1) {b:Addr} {ob:Obj} (q:h.get? b=some ob) (n:H b=none) (hx:b∉ex):∃ sl,h1.get? b=some { ob with slots:=sl }:=by
 by_cases hb:b∈fs
 ·exact u.slot b ob q n hb hx
 ·exact ⟨ob.slots,u.keep b ob q n hb hx⟩
theorem Un.kept (k:∀ b u,h.get? b=some u->h'.get? b=some u):Un fs ex H H h h' :=
 ⟨λb ob q _ _ _=>k b ob q,λb ob q _ _ _=>⟨ob.slots,k b ob q⟩,λ_ _ _ n _=>n,λb ob q _=>⟨ob,k b ob q⟩,λ_ _ q=>q,λ_ _ _ q=>q,λ_ ps q=>⟨#[],by rw [q];simp⟩⟩
theorem Un.refl:Un fs ex H H h h:=Un.kept λ_ _ q=>q
theorem Un.laid (k:∀ b u,h.get? b=some u->h'.get? b=some u) (hp:h.objs.size<=a) (hn:H a=none):Un fs ex H (upd H a o) h h' where
 keep:=λb u q _ _ _=>k b u q
 slot:=λb u q _ _ _=>⟨u.slots,k b u q⟩
 free:=λb u q n _=>by rw [bY (dw (dj (cj q) hp))];exact n
 there:=λb u q _=>⟨u,k b u q⟩
 tups:=λb xs q=>by rw [bY (fU q hn)];exact q
 frzs:=λb u xs q=>by rw [bY (fU q hn)];exact q
 tbls:=λb ps q=>⟨#[],by rw [bY (fU q hn),q];simp⟩
theorem Un.write (mu:FZ (H x)) (he:e=x\/H e=some (.own x)) (k:∀ b u,b≠e->h.get? b=some u->h'.get? b=some u) (heo:∃ u,h'.get? e=some u):Un fs ex H (upd H x o) h h':=by
 have hx:∀ b,H b=none->b≠x:=λb n z=>by subst z;rw [n] at mu;exact mu
 have hb:∀ b,H b=none->b≠e:=λb n z=>by
  subst z
  rcases he with r | r
  ·exact hx b n r
  ·rw [n] at r;cases r
 have hm:∀ b u,H b=some u->¬ FZ (some u)->b≠x:=λb u q nm z=>by subst z;rw [q] at mu;exact nm mu
 refine ⟨λb u q n _ _=>k b u (hb b n) q,λb u q n _ _=>⟨u.slots,k b u (hb b n) q⟩,λb u q n _=>by rw [bY (hx b n)];exact n,λb u q _=>?_,
  λb xs q=>by rw [bY (hm b _ q λz=>z)];exact q,λb u xs q=>by rw [bY (hm b _ q λz=>z)];exact q,λb ps q=>⟨#[],by rw [bY (hm b _ q λz=>z),q];simp⟩⟩
 by_cases hbe:b=e
 ·subst hbe;exact heo
 ·exact ⟨u,k b u hbe q⟩
end
def xK (h:Heap) (H:Hp):List Addr:=(List.range h.objs.size).filter λa=>(H a).isSome
def mK (h:Heap) (H:Hp):Heap:=PySem.W.hideAll h (xK h H)
theorem zki (h:Heap) (H:Hp):(mK h H).objs.size=h.objs.size:=PySem.W.hideAll_size _ _
theorem zlI {h:Heap} {H:Hp} {b:Addr} {o:Obj} (e:h.get? b=some o) (n:H b=none):(mK h H).get? b=some o :=
 PySem.W.hideAll_get _ e λhm=>by
  have q:(H b).isSome=true:=(List.mem_filter.mp hm).2
  rw [n] at q;simp at q
theorem ZV {h:Heap} {H:Hp} {b:Addr} {o:Obj} (e:(mK h H).get? b=some o):h.get? b=some o/\H b=none:=by
 have e':h.get? b=some o:=PySem.W.of_hideAll (xK h H) e
 refine ⟨e',?_⟩
 cases q:H b with
 | none=>rfl
 | some x =>
  have hm:b∈xK h H:=List.mem_filter.mpr ⟨List.mem_range.mpr (cj e'),by simp [q]⟩
  have z:(mK h H).get? b=none:=PySem.W.hideAll_none (xK h H) hm
  rw [z] at e;cases e
structure Mod (K:PySem.W.Frag) (mg:Str->Option Value) (base:Heap):Prop where
 kin:K.In base
 glob:base.Ns mainGlobals mg
 blt:∃ mb,base.Ns builtinsNs mb/\∀ x:Str,x ≠ "__name__" -> mb x=bootBuiltins x
 nolimit:base.NoLimit
structure Cx where
 prog:Program
 w:World
 K:PySem.W.Frag
 mg:Str->Option Value
 base:Heap
 A:Around
 N:List Str
 s₀:Shared
 H₀:Hp
 env:Env
 outer:List Env
 stack:List Env
 ex:List Addr
 fn:Str->Bool
 calm:Bool
 pn:List (Addr×Obj)
 xe:Value->Shared->Prop
def frs (l:List Env):List Addr:=l.filterMap (·.frame)
abbrev Cx.fs (X:Cx):List Addr:=frs X.outer
def FW (sc:Scope) (x:Str):Prop:=sc.names.lookup x=some .local\/sc.names.lookup x=some .cell\/sc.names.lookup x=some .free
def Loc (sc:Scope) (x:Str):Prop:=sc.names.lookup x=some .local\/sc.names.lookup x=some .cell
def Look (env:Env) (h:Heap) (m:Str->Option Value) (x:Str) (u:Value):Prop :=
 (env.kindOf x=some .local/\m x=some u)\/((env.kindOf x=some .cell\/env.kindOf x=some .free)/\∃ c,env.cells.lookup x=some c/\h.IsCell c (some u))
structure Cx.Ok (X:Cx):Prop where
 mod:Mod X.K X.mg X.base
 kind:X.env.scope.kind = .function
 glob:X.env.globals=mainGlobals
 blt:X.env.builtins=builtinsNs
 above:X.s₀.heap.objs.size<=X.env.locals
 inj:∀ x y c,X.env.cells.lookup x=some c->X.env.cells.lookup y=some c->x=y
 has:∀ x,(X.env.kindOf x=some .cell\/X.env.kindOf x=some .free)->∃ c,X.env.cells.lookup x=some c
 cab:∀ x c,X.fn x=true->X.env.cells.lookup x=some c->X.s₀.heap.objs.size<=c
 hd:X.calm=true->X.A.handled=none
 frames:X.A.frames=some X.stack
 stk:X.stack=X.outer\/(X.stack=X.env::X.outer/\X.env.frame=some X.env.locals)
 exf:∀ b∈X.ex,b≠X.env.locals/\∀ x c,X.env.cells.lookup x=some c->c≠b
 bs:∀ b o,X.base.get? b=some o->X.s₀.heap.get? b=some o/\X.H₀ b=none
 bsz:X.base.objs.size<=X.s₀.heap.objs.size
 noex:∀ b o,X.base.get? b=some o->b∉X.ex
 exfs:∀ b∈X.ex,b∉X.fs
 funs:X.s₀.heap.FunFrames X.base X.outer
 frf:∀ b∈X.fs,X.H₀ b=none
structure Inv (X:Cx) (pins:List (Addr×Obj)) (σ:List (Option V)) (H:Hp) (s:Shared):Prop where
 ok:X.Ok
 os:s.os=X.s₀.os
 bare:AllBare s.gens
 base:Un X.fs X.ex X.H₀ H X.s₀.heap s.heap
 loc:∃ m,s.heap.Ns X.env.locals m/\∀ (i:Nat) (x:Str) (v:V),X.N[i]?=some x->σ[i]?=some (some v)->FW X.env.scope x->∃ u,RelV v u/\Look X.env s.heap m x u
 cell:∀ x c,X.env.cells.lookup x=some c->∃ v,s.heap.IsCell c v
 free:H X.env.locals=none
 freeC:∀ x c,X.env.cells.lookup x=some c->H c=none
 pin:∀ p∈X.pn++pins,s.heap.get? p.1=some p.2/\H p.1=none/\p.1≠X.env.locals/\p.1∉X.fs/\∀ v,p.2.data ≠ .cell v
 hok:fP X.prog X.w H s.heap
 len:σ.length=X.N.length
section
variable {X:Cx} {pins:List (Addr×Obj)} {σ:List (Option V)} {H H':Hp} {s:Shared} {h':Heap}
theorem Cx.Ok.nofr (ok:X.Ok) {b:Addr} {o:Obj} (e:X.base.get? b=some o):b∉X.fs:=λhb=>by
 have:=(ok.funs.mem hb).1
 rw [e] at this;cases this
theorem Inv.bs (I:Inv X pins σ H s):∀ b o,X.base.get? b=some o->s.heap.get? b=some o/\H b=none:=λb o e =>
 ⟨I.base.keep b o (I.ok.bs b o e).1 (I.ok.bs b o e).2 (I.ok.nofr e) (I.ok.noex b o e),I.base.free b o (I.ok.bs b o e).1 (I.ok.bs b o e).2 (I.ok.noex b o e)⟩
theorem Inv.bk (I:Inv X pins σ H s):∀ b o,X.base.get? b=some o->s.heap.get? b=some o:=λb o e=>(I.bs b o e).1
theorem Inv.mod (I:Inv X pins σ H s):Mod X.K X.mg X.base:=I.ok.mod
theorem Inv.kIn (I:Inv X pins σ H s):X.K.In s.heap:=I.ok.mod.kin.keeps I.bk
theorem Inv.lt (I:Inv X pins σ H s):X.env.locals<s.heap.objs.size:=let ⟨_,hn,_⟩:=I.loc;hn.lt
theorem Inv.sz (I:Inv X pins σ H s):X.s₀.heap.objs.size<=s.heap.objs.size:=Nat.le_trans I.ok.above (tV I.lt)
theorem Inv.nofs (I:Inv X pins σ H s) {a:Addr} (h:s.heap.objs.size<=a):a∉X.fs:=λhb=>by
 obtain ⟨_,o,ho,_⟩:=I.ok.funs.mem hb
 exact absurd (dj (cj ho) (Nat.le_trans I.sz h)) (gF _)
theorem Inv.cne (I:Inv X pins σ H s):∀ x c,X.env.cells.lookup x=some c->c≠X.env.locals:=λx c e z=>by
 obtain ⟨v,o,ho,hd⟩:=I.cell x c e
 obtain ⟨m,⟨o',es,ep,ho',hd',_⟩,_⟩:=I.loc
 rw [z,ho'] at ho;cases ho;rw [hd'] at hd;cases hd
theorem Inv.funs (I:Inv X pins σ H s):s.heap.FunFrames X.base X.outer:=by
 have all:∀ (l:List Env),(∀ b∈frs l,b∈X.fs)->X.s₀.heap.FunFrames X.base l->s.heap.FunFrames X.base l:=by
  intro l
  induction l with
  | nil=>intro _ _;trivial
  | cons env r ih =>
   intro hs hl
   obtain ⟨hk,⟨L,o,hf,hn,ho,hd⟩,hr⟩:=hl
   have hL:L∈X.fs:=hs L (by unfold frs;rw [List.filterMap_cons,hf];exact fL)
   obtain ⟨sl,e⟩:=I.base.slot L o ho (I.ok.frf L hL) hL λz=>I.ok.exfs L z hL
   exact ⟨hk,⟨L,_,hf,hn,e,hd⟩,ih (λb hb=>hs b (by unfold frs;rw [List.filterMap_cons,hf];exact cM _ hb)) hr⟩
 exact all X.outer (λ_ hb=>hb) I.ok.funs
theorem Inv.stack (I:Inv X pins σ H s):s.heap.FunFrames X.base X.stack:=by
 rcases I.ok.stk with e | ⟨e,hf⟩
 ·rw [e];exact I.funs
 ·rw [e]
  obtain ⟨m,hn,_⟩:=I.loc
  refine .cons (by rw [I.ok.kind];decide) hf hn ?_ I.funs
  exact Heap.get?_none_of_le (Nat.le_trans I.ok.bsz I.ok.above)
theorem Inv.stkSub (I:Inv X pins σ H s):∀ b∈frs X.stack,b∈X.env.locals::X.fs:=λb hb=>by
 rcases I.ok.stk with e | ⟨e,hf⟩
 ·rw [e] at hb;exact cM _ hb
 ·rw [e] at hb
  unfold frs at hb
  rw [List.filterMap_cons,hf] at hb
  exact hb
theorem Inv.stkFree (I:Inv X pins σ H s):∀ b∈frs X.stack,H b=none:=λb hb=>by
 rcases List.mem_cons.mp (I.stkSub b hb) with e | hb
 ·rw [e];exact I.free
 ·obtain ⟨_,o,ho,_⟩:=I.ok.funs.mem hb
  exact I.base.free b o ho (I.ok.frf b hb) λz=>I.ok.exfs b z hb
theorem Inv.step {g':Array GenState} {t':Nat} {d':Drawn} {ch:List Addr} (I:Inv X pins σ H s)
 (hch:∀ b∈ch,(b∈X.ex\/X.s₀.heap.objs.size<=b)/\b≠X.env.locals/\(∀ x c,X.env.cells.lookup x=some c->c≠b)/\∀ p∈X.pn++pins,p.1≠b)
 (keep:∀ b o,b≠X.env.locals->b∉X.fs->b∉ch->s.heap.get? b=some o->H b=none->h'.get? b=some o)
 (slot:∀ b o,b≠X.env.locals->b∈X.fs->b∉ch->s.heap.get? b=some o->H b=none->∃ sl,h'.get? b=some { o with slots:=sl }) (free:∀ b o,b∉ch->s.heap.get? b=some o->H b=none->H' b=none)
 (there:∀ b o,b∉ch->s.heap.get? b=some o->∃ o',h'.get? b=some o')
 (tups:∀ b xs,H b=some (.tup xs)->H' b=some (.tup xs)) (frzs:∀ b o u,H b=some (.frz o u)->H' b=some (.frz o u)) (tbls:∀ b ps,H b=some (.tbl ps)->∃ more,H' b=some (.tbl (ps++more)))
 (ns:∀ m,s.heap.Ns X.env.locals m->h'.Ns X.env.locals m) (hok:fP X.prog X.w H' h') (hg:AllBare g') :
 Inv X pins σ H' { s with heap:=h',gens:=g',drawn:=d',toks:=t' }:=by
 have U3:∀ b o,X.s₀.heap.get? b=some o->b≠X.env.locals:=λb o e=>dw (dj (cj e) I.ok.above)
 have sJ:∀ b o,X.s₀.heap.get? b=some o->b∉X.ex->b∉ch:=λb o e hx hb=>by
  rcases (hch b hb).1 with z | z
  ·exact hx z
  ·exact absurd (dj (cj e) z) (gF _)
 have cellK:∀ x c,X.env.cells.lookup x=some c->∀ v,s.heap.IsCell c v->h'.IsCell c v:=λx c e v ⟨o,ho,hd⟩=>by
  have nO:c∉ch:=λz=>(hch c z).2.2.1 x c e rfl
  by_cases hc:c∈X.fs
  ·obtain ⟨sl,q⟩:=slot c o (I.cne x c e) hc nO ho (I.freeC x c e)
   exact ⟨_,q,hd⟩
  ·exact ⟨o,keep c o (I.cne x c e) hc nO ho (I.freeC x c e),hd⟩
 refine ⟨I.ok,I.os,hg,⟨λb o e n hb hx=>?_,λb o e n hb hx=>?_,λb o e n hx=>?_,λb o e hx=>?_,λb xs e=>tups b xs (I.base.tups b xs e),λb o xs e=>frzs b o xs (I.base.frzs b o xs e),λb ps e=>?_⟩,?_,λx c e=>?_,?_,λx c e=>?_,λp hp=>?_,hok,I.len⟩
 ·exact keep b o (U3 b o e) hb (sJ b o e hx) (I.base.keep b o e n hb hx) (I.base.free b o e n hx)
 ·obtain ⟨sl,e1⟩:=I.base.slot b o e n hb hx
  obtain ⟨sl',e2⟩:=slot b _ (U3 b o e) hb (sJ b o e hx) e1 (I.base.free b o e n hx)
  exact ⟨sl',e2⟩
 ·obtain ⟨o',e1⟩:=I.base.there b o e hx
  exact free b o' (sJ b o e hx) e1 (I.base.free b o e n hx)
 ·obtain ⟨o',e1⟩:=I.base.there b o e hx
  exact there b o' (sJ b o e hx) e1
 ·obtain ⟨m1,e1⟩:=I.base.tbls b ps e
  obtain ⟨m2,e2⟩:=tbls b _ e1
  exact ⟨m1++m2,by rw [e2,Array.append_assoc]⟩
 ·obtain ⟨m,hn,hl⟩:=I.loc
  refine ⟨m,ns m hn,λi x v e1 e2 e3=>?_⟩
  obtain ⟨u,r,l⟩:=hl i x v e1 e2 e3
  refine ⟨u,r,?_⟩
  rcases l with l | ⟨k,c,e,z⟩
  ·exact .inl l
  ·exact .inr ⟨k,c,e,cellK x c e _ z⟩
 ·obtain ⟨v,z⟩:=I.cell x c e
  exact ⟨v,cellK x c e v z⟩
 ·obtain ⟨m,⟨o,_,_,ho,_⟩,_⟩:=I.loc
  exact free _ o (λz=>(hch _ z).2.1 rfl) ho I.free
 ·obtain ⟨v,o,ho,hd⟩:=I.cell x c e
  exact free c o (λz=>(hch c z).2.2.1 x c e rfl) ho (I.freeC x c e)
 ·obtain ⟨e,n,ne,nf,d⟩:=I.pin p hp
  have nO:p.1∉ch:=λz=>(hch p.1 z).2.2.2 p hp rfl
  exact ⟨keep p.1 p.2 ne nf nO e n,free p.1 p.2 nO e n,ne,nf,d⟩
theorem Inv.un {t':Nat} (I:Inv X pins σ H s) (u:Un X.fs [] H H' s.heap h') (hok:fP X.prog X.w H' h'):Inv X pins σ H' { s with heap:=h',toks:=t' }:=by
 obtain ⟨m,⟨o,es,ep,ho,r⟩,_⟩:=id I.loc
 obtain ⟨sl,hL⟩:=u.any ho I.free (by simp)
 exact I.step (g':=s.gens) (d':=s.drawn) (ch:=[]) (λ_ z=>nomatch z) (λb o _ hb _ e n=>u.keep b o e n hb (by simp)) (λb o _ hb _ e n=>u.slot b o e n hb (by simp)) (λb o _ e n=>u.free b o e n (by simp)) (λb o _ e=>u.there b o e (by simp)) u.tups u.frzs u.tbls (λm' hm=>by
  obtain ⟨o',es',ep',ho',r'⟩:=hm
  rw [ho] at ho';cases ho'
  exact ⟨_,es',ep',hL,r'⟩) hok I.bare
theorem Inv.call {g':Array GenState} {t':Nat} {d':Drawn} {ch:List Addr} (I:Inv X pins σ H s) (u:Un (frs X.stack) ch H H' s.heap h') (hok:fP X.prog X.w H' h') (hg:AllBare g')
 (hch:∀ b∈ch,(b∈X.ex\/X.s₀.heap.objs.size<=b)/\b≠X.env.locals/\(∀ x c,X.env.cells.lookup x=some c->c≠b)/\∀ p∈X.pn++pins,p.1≠b) :
 Inv X pins σ H' { s with heap:=h',gens:=g',drawn:=d',toks:=t' }:=by
 obtain ⟨m,⟨o,es,ep,ho,r⟩,_⟩:=id I.loc
 obtain ⟨sl,hL⟩:=u.any ho I.free λz=>(hch _ z).2.1 rfl
 exact I.step (ch:=ch) hch (λb o hL hb hc e n=>u.keep b o e n (λz=>(List.mem_cons.mp (I.stkSub b z)).elim hL hb) hc) (λb o _ _ hc e n=>u.any e n hc) (λb o hc e n=>u.free b o e n hc) (λb o hc e=>u.there b o e hc) u.tups u.frzs u.tbls (λm' hm=>by
  obtain ⟨o',es',ep',ho',r'⟩:=hm
  rw [ho] at ho';cases ho'
  exact ⟨_,es',ep',hL,r'⟩) hok hg
theorem Inv.turned {t':Nat} {it:Addr} (I:Inv X pins σ H s) (k:∀ b o,b≠it->s.heap.get? b=some o->h'.get? b=some o) (hn:H it=none) (hL:it≠X.env.locals)
 (h1:it∈X.ex\/X.s₀.heap.objs.size<=it) (h2:∀ x c,X.env.cells.lookup x=some c->c≠it) (h3:∀ p∈X.pn++pins,p.1≠it):Inv X pins σ H { s with heap:=h',toks:=t' }:=by
 have UW:∀ b u,H b=some u->b≠it:=λb u e z=>by rw [z,hn] at e;cases e
 refine I.step (g':=s.gens) (d':=s.drawn) (ch:=[it]) (λb hb=>?_) (λb o _ _ hc e _=>k b o (λz=>hc (by simp [z])) e) (λb o _ _ hc e _=>⟨o.slots,k b o (λz=>hc (by simp [z])) e⟩) (λ_ _ _ _ n=>n)
  (λb o hc e=>⟨o,k b o (λz=>hc (by simp [z])) e⟩) (λ_ _ e=>e) (λ_ _ _ e=>e) (λb ps e=>⟨#[],by rw [e];simp⟩) (λm hm=>?_) (λb u e=>?_) I.bare
 ·have e:b=it:=by simpa using hb
  subst e
  exact ⟨h1,hL,h2,h3⟩
 ·obtain ⟨o,es,ep,ho,r⟩:=hm
  exact ⟨o,es,ep,k _ o (Ne.symm hL) ho,r⟩
 ·refine (I.hok b u e).stay (λc v hc q=>k c v ?_ q) (λ_ q=>q) λ_ _ q=>q
  rcases hc with z | z
  ·rw [z];exact UW b u e
  ·exact UW c _ z
theorem Inv.tok (I:Inv X pins σ H s) (t:Nat):Inv X pins σ H { s with toks:=t }:=I.un (h':=s.heap) (t':=t) Un.refl I.hok
theorem Inv.kept {t':Nat} (I:Inv X pins σ H s) (k:∀ b u,s.heap.get? b=some u->h'.get? b=some u):Inv X pins σ H { s with heap:=h',toks:=t' }:=I.un (Un.kept k) (I.hok.kept k)
theorem Inv.laid {a:Addr} {o:HO} {t':Nat} (I:Inv X pins σ H s) (k:∀ b u,s.heap.get? b=some u->h'.get? b=some u) (hp:s.heap.objs.size<=a) (new:bO X.prog X.w (upd H a o) h' a o) :
 Inv X pins σ (upd H a o) { s with heap:=h',toks:=t' }:=I.un (Un.laid k hp (I.hok.fresh hp)) (I.hok.laid k hp new)
theorem Inv.write {x e:Addr} {o:HO} {t':Nat} (I:Inv X pins σ H s) (mu:FZ (H x)) (he:e=x\/H e=some (.own x)) (k:∀ b u,b≠e->s.heap.get? b=some u->h'.get? b=some u) (heo:∃ u,h'.get? e=some u)
 (new:bO X.prog X.w (upd H x o) h' x o):Inv X pins σ (upd H x o) { s with heap:=h',toks:=t' }:=I.un (Un.write mu he k heo) (I.hok.write mu he k heo new)
theorem Inv.pins_of {sI:List (Addr×Obj)} (I:Inv X pins σ H s) (h:∀ p∈sI,s.heap.get? p.1=some p.2/\H p.1=none/\p.1≠X.env.locals/\p.1∉X.fs/\∀ v,p.2.data ≠ .cell v):Inv X sI σ H s :=
 ⟨I.ok,I.os,I.bare,I.base,I.loc,I.cell,I.free,I.freeC,λp hp=>(jK.mp hp).elim (λz=>I.pin p (List.mem_append_left _ z)) (h p),I.hok,I.len⟩
theorem Rp {N:List Str} (hN:N.Nodup) {i j:Nat} {x:Str} (a:N[i]?=some x) (b:N[j]?=some x):i=j:=by
 obtain ⟨h1,e1⟩:=dN.mp a
 obtain ⟨h2,e2⟩:=dN.mp b
 exact (List.getElem_inj hN).mp (e1.trans e2.symm)
theorem zji {M:Model} {A:Around} {E:Value->Shared->Prop} {i:Nat} {x:Str} {v:V} {u:Value} {Q:Unit->Shared->Prop} (I:Inv X pins σ H s) (hN:X.N.Nodup) (hi:X.N[i]?=some x) (hx:Loc X.env.scope x) (r:RelV v u)
 (h:∀ s',Inv X pins (σ.set i (some v)) H s'->(∃ a,Heap.SameBut a s.heap s'.heap/\(a=X.env.locals\/X.env.cells.lookup x=some a))->Q () s') (hf:X.fn x=true\/X.env.scope.names.lookup x=some .local:=by first | exact .inl rfl | exact .inr rfl | assumption):wpAny M A (storeName X.env x u) Q E s:=by
 obtain ⟨m,hn,hl⟩:=id I.loc
 have hcls:(X.env.scope.kind == .class||(X.env.scope.kind == .module&&X.env.locals != X.env.globals))=false:=by rw [I.ok.kind];rfl
 have hiσ:i<σ.length:=by rw [I.len];exact (dN.mp hi).1
 have cne:=I.cne
 have tracked:∀ {a:Addr} {h':Heap},(∃ o,s.heap.get? a=some o/\H a=none)->Heap.SameBut a s.heap h'->fP X.prog X.w H h':=λ{a h'} ha hs b ob e=>by
  obtain ⟨_,_,hfree⟩:=ha
  refine (I.hok b ob e).stay (λc w' hc q=>(hs.2 c ?_).trans q) (λ_ q=>q) λ_ _ q=>q
  rintro rfl
  rcases hc with rfl | hc
  ·rw [hfree] at e;cases e
  ·rw [hfree] at hc;cases hc
 rcases hx with hk | hk
 ·refine wpAny_storeName_local hk hn (λh' hn' hs=>?_) hcls
  obtain ⟨oL,_,_,hoL,_⟩:=id hn
  refine h _ ⟨I.ok,I.os,I.bare,⟨λb o e n hb hx=>?_,λb o e n hb hx=>?_,I.base.free,λb o e hx=>?_,I.base.tups,I.base.frzs,I.base.tbls⟩,⟨_,hn',λj y v' e1 e2 e3=>?_⟩,λy c e=>?_,I.free,I.freeC,λp hp=>?_,tracked ⟨oL,hoL,I.free⟩ hs,by simpa using I.len⟩ ⟨_,hs,.inl rfl⟩
  ·exact (hs.2 b (dw (dj (cj e) I.ok.above))).trans (I.base.keep b o e n hb hx)
  ·obtain ⟨sl,e1⟩:=I.base.slot b o e n hb hx
   exact ⟨sl,(hs.2 b (dw (dj (cj e) I.ok.above))).trans e1⟩
  ·obtain ⟨o',e1⟩:=I.base.there b o e hx
   exact ⟨o',(hs.2 b (dw (dj (cj e) I.ok.above))).trans e1⟩
  ·by_cases hj:j=i
   ·subst hj
    rw [hi] at e1;cases e1
    rw [List.getElem?_set_self hiσ] at e2
    cases e2
    exact ⟨u,r,.inl ⟨hk,by simp⟩⟩
   ·rw [List.getElem?_set_ne (Ne.symm hj)] at e2
    obtain ⟨u',r',q⟩:=hl j y v' e1 e2 e3
    refine ⟨u',r',?_⟩
    rcases q with ⟨k,e⟩ | ⟨k,c,e,z⟩
    ·refine .inl ⟨k,?_⟩
     have:y≠x:=λe=>hj (Rp hN e1 (e ▸ hi))
     simp [this,e]
    ·exact .inr ⟨k,c,e,z.sameBut hs (cne y c e)⟩
  ·obtain ⟨w',z⟩:=I.cell y c e
   exact ⟨w',z.sameBut hs (cne y c e)⟩
  ·obtain ⟨e,n,ne,nf,d⟩:=I.pin p hp
   exact ⟨(hs.2 p.1 ne).trans e,n,ne,nf,d⟩
 ·have hfn:X.fn x=true:=by
   rcases hf with z | z
   ·exact z
   ·rw [z] at hk;cases hk
  obtain ⟨c,hc⟩:=I.ok.has x (.inl hk)
  obtain ⟨w',z⟩:=I.cell x c hc
  refine wpAny_storeName_cell I.ok.kind hk hc z (λh' hc' hs=>?_)
  obtain ⟨oc,hoc,M8⟩:=id z
  refine h { s with heap:=h' } ⟨I.ok,I.os,I.bare,⟨λb o e n hb hx=>?_,λb o e n hb hx=>?_,I.base.free,λb o e hx=>?_,I.base.tups,I.base.frzs,I.base.tbls⟩,⟨m,hn.sameBut hs (Ne.symm (cne x c hc)),λj y v' e1 e2 e3=>?_⟩,λy c' e=>?_,I.free,I.freeC,λp hp=>?_,tracked ⟨oc,hoc,I.freeC x c hc⟩ hs,by simpa using I.len⟩ ⟨c,hs,.inr hc⟩
  ·exact (hs.2 b (dw (dj (cj e) (I.ok.cab x c hfn hc)))).trans (I.base.keep b o e n hb hx)
  ·obtain ⟨sl,e1⟩:=I.base.slot b o e n hb hx
   exact ⟨sl,(hs.2 b (dw (dj (cj e) (I.ok.cab x c hfn hc)))).trans e1⟩
  ·obtain ⟨o',e1⟩:=I.base.there b o e hx
   exact ⟨o',(hs.2 b (dw (dj (cj e) (I.ok.cab x c hfn hc)))).trans e1⟩
  ·by_cases hj:j=i
   ·subst hj
    rw [hi] at e1;cases e1
    rw [List.getElem?_set_self hiσ] at e2
    cases e2
    exact ⟨u,r,.inr ⟨.inl hk,c,hc,hc'⟩⟩
   ·rw [List.getElem?_set_ne (Ne.symm hj)] at e2
    obtain ⟨u',r',q⟩:=hl j y v' e1 e2 e3
    refine ⟨u',r',?_⟩
    rcases q with q | ⟨k,c',e,z'⟩
    ·exact .inl q
    ·refine .inr ⟨k,c',e,z'.sameBut hs ?_⟩
     rintro rfl
     exact hj (Rp hN e1 (I.ok.inj _ _ _ e hc ▸ hi))
  ·by_cases hcc:c'=c
   ·subst hcc;exact ⟨_,hc'⟩
   ·obtain ⟨w2,z2⟩:=I.cell y c' e
    exact ⟨w2,z2.sameBut hs hcc⟩
  ·obtain ⟨e,n,ne,nf,d⟩:=I.pin p hp
   refine ⟨(hs.2 p.1 ?_).trans e,n,ne,nf,d⟩
   intro q
   rw [q,hoc] at e
   have q':oc=p.2:=Option.some.inj e
   exact d w' (by rw [<-q'];exact M8)
theorem Jb {M:Model} {A:Around} {E:Value->Shared->Prop} {i:Nat} {x:Str} {v:V} {u:Value} {Q:Unit->Shared->Prop} (I:Inv X pins σ H s) (hN:X.N.Nodup) (hi:X.N[i]?=some x) (hx:Loc X.env.scope x) (r:RelV v u)
 (h:∀ s',Inv X pins (σ.set i (some v)) H s'->Q () s') (hf:X.fn x=true\/X.env.scope.names.lookup x=some .local:=by first | exact .inl rfl | exact .inr rfl | assumption):wpAny M A (storeName X.env x u) Q E s :=
 zji I hN hi hx r (λs' I' _=>h s' I') hf
theorem Inv.call' {s':Shared} {ch:List Addr} (I:Inv X pins σ H s) (ho:s'.os=s.os) (u:Un (frs X.stack) ch H H' s.heap s'.heap) (hok:fP X.prog X.w H' s'.heap) (hg:AllBare s'.gens)
 (hch:∀ b∈ch,(b∈X.ex\/X.s₀.heap.objs.size<=b)/\b≠X.env.locals/\(∀ x c,X.env.cells.lookup x=some c->c≠b)/\∀ p∈X.pn++pins,p.1≠b):Inv X pins σ H' s':=by
 obtain ⟨h',g',d',t',o'⟩:=s'
 have e:o'=s.os:=ho
 subst e
 exact I.call (g':=g') (t':=t') (d':=d') u hok hg hch
end
abbrev XK:=Value->Option Addr->Hp->Prop
abbrev St:=List (Option V)
abbrev VK:=V->Hp->Prop
abbrev TE:=St->Hp->VK->Prop
abbrev TT:=St->Hp->(Bool->Hp->Prop)->Prop
abbrev TA:=St->Hp->(List V->Hp->Prop)->Prop
structure tQ where
 nx:St->Hp->Prop
 rt:VK
 bk:St->Hp->Prop:=λ_ _=>False
 ct:St->Hp->Prop:=λ_ _=>False
abbrev TS:=tQ->St->Hp->Prop
def EP (X:Cx) (pins:List (Addr×Obj)) (σ:St) (Q:VK) (u:Value) (s':Shared):Prop:=∃ v H',Inv X pins σ H' s'/\RelV v u/\Q v H'
def TP (X:Cx) (pins:List (Addr×Obj)) (σ:St) (Q:Bool->Hp->Prop) (b:Bool) (s':Shared):Prop:=∃ H',Inv X pins σ H' s'/\Q b H'
def AP (X:Cx) (pins:List (Addr×Obj)) (σ:St) (Q:List V->Hp->Prop) (us:List Value) (s':Shared):Prop:=∃ vs H',Inv X pins σ H' s'/\Vals vs us/\Q vs H'
def SP (X:Cx) (pins:List (Addr×Obj)) (D:tQ) (f:Flow) (s':Shared):Prop :=
 match f with
 | .next=>∃ σ' H',Inv X pins σ' H' s'/\D.nx σ' H'
 | .brk=>∃ σ' H',Inv X pins σ' H' s'/\D.bk σ' H'
 | .cont=>∃ σ' H',Inv X pins σ' H' s'/\D.ct σ' H'
 | .ret u=>∃ v σ' H',Inv X pins σ' H' s'/\RelV v u/\D.rt v H'
def PE (X:Cx) (e:Expr) (t:TE):Prop :=
 ∀ (pins:List (Addr×Obj)) (s:Shared) (σ:St) (H:Hp) (Q:VK),Inv X pins σ H s->t σ H Q->wpAny (model X.prog X.w) X.A (eval e X.env) (EP X pins σ Q) X.xe s
def PT (X:Cx) (e:Expr) (t:TT):Prop :=
 ∀ (pins:List (Addr×Obj)) (s:Shared) (σ:St) (H:Hp) (Q:Bool->Hp->Prop),Inv X pins σ H s->t σ H Q->wpAny (model X.prog X.w) X.A (isTrue e X.env (eval e X.env)) (TP X pins σ Q) X.xe s
def PW (X:Cx) (e:Expr) (t:TT):Prop :=
 ∀ (whole:Sem Value) (pins:List (Addr×Obj)) (s:Shared) (σ:St) (H:Hp) (Q:Bool->Hp->Prop),Inv X pins σ H s->t σ H Q->wpAny (model X.prog X.w) X.A (isTrue e X.env whole) (TP X pins σ Q) X.xe s
theorem PW.pt {X:Cx} {e:Expr} {t:TT} (h:PW X e t):PT X e t:=h _
def PA (X:Cx) (es:List Expr) (t:TA):Prop :=
 ∀ (pos:Pos) (pins:List (Addr×Obj)) (s:Shared) (σ:St) (H:Hp) (Q:List V->Hp->Prop),Inv X pins σ H s->t σ H Q->wpAny (model X.prog X.w) X.A (spliced (backTo pos (starEach es X.env))) (AP X pins σ Q) X.xe s
def PS (X:Cx) (st:Stmt) (t:TS):Prop :=
 ∀ (pins:List (Addr×Obj)) (s:Shared) (σ:St) (H:Hp) (D:tQ),Inv X pins σ H s->t D σ H->wpAny (model X.prog X.w) X.A (exec st X.env) (SP X pins D) X.xe s
def jl (X:Cx) (st:List Stmt) (t:TS):Prop :=
 ∀ (pins:List (Addr×Obj)) (s:Shared) (σ:St) (H:Hp) (D:tQ),Inv X pins σ H s->t D σ H->wpAny (model X.prog X.w) X.A (execs st X.env) (SP X pins D) X.xe s
theorem bL {α:Type} {t:Sem α} {Q Q':α->Shared->Prop} {M:Model} {A:Around} {E:Value->Shared->Prop} {s:Shared} (h:wpAny M A t Q E s) (hQ:∀ a s,Q a s->Q' a s):wpAny M A t Q' E s:=jm h hQ λ_ _ x=>x
section
variable {X:Cx}
def Lh (i:Nat):TE:=λσ H Q=>∃ v,σ[i]?=some (some v)/\Q v H
def tC (v:V):TE:=λ_ H Q=>Q v H
theorem Ws {i:Nat} {x:Str} {pos:Pos} (hN:X.N[i]?=some x) (hv:FW X.env.scope x) (hd:(x==("__debug__" : Str))=false:=by decide) (hcd:(x==("__classdict__" : Str))=false:=by decide):PE X (.Name x pos) (Lh i):=by
 intro pins s σ H Q I h
 obtain ⟨v,e,h⟩:=h
 obtain ⟨m,hn,hl⟩:=I.loc
 obtain ⟨u,r,l⟩:=hl i x v hN e hv
 have fin:EP X pins σ Q u s:=⟨v,H,I,r,h⟩
 rcases l with ⟨hk,hm⟩ | ⟨hk,c,hc,hcell⟩
 ·exact wpAny_Name (wpAny_loadName_local I.ok.kind hk hn hm fin) hd
 ·rcases hk with hk | hk
  ·exact wpAny_Name (wpAny_loadName_cell I.ok.kind hk hc hcell fin) hd
  ·exact wpAny_Name (wpAny_loadName_free I.ok.kind hk hc hcell fin hcd) hd
theorem Wl {i j pos}:PE X (.Constant (.int i) j pos) (tC (.int i)):=λ_ _ _ H _ I h=>wpAny_Constant_int ⟨.int i,H,I.tok _,⟨_,rfl⟩,h⟩
theorem Wg {b j pos}:PE X (.Constant (.bool b) j pos) (tC (.bl b)):=λ_ _ _ H _ I h=>Constant_bool ⟨.bl b,H,I,rfl,h⟩
theorem Wn {j pos}:PE X (.Constant .none j pos) (tC .non):=λ_ _ _ H _ I h=>Constant_none ⟨.non,H,I,rfl,h⟩
theorem Pa {x j pos}:PE X (.Constant (.str x) j pos) (tC (.str x)):=λ_ _ _ H _ I h=>Calls.Constant_str ⟨.str x,H,I.tok _,⟨_,rfl⟩,h⟩
def Gl (X:Cx) (x:Str):Prop:=X.env.kindOf x=some .globalImplicit
theorem HB {E:Value->Shared->Prop} {pins:List (Addr×Obj)} {s:Shared} {σ:St} {H:Hp} {x:Str} {u:Value} {pos:Pos} {Q:Value->Shared->Prop} (I:Inv X pins σ H s) (hg:Gl X x) (hm:X.mg x=some u) (h:Q u s)
 (hd:(x==("__debug__" : Str))=false:=by decide):wpAny (model X.prog X.w) X.A (eval (.Name x pos) X.env) Q E s :=
 Calls.Name_function_global I.ok.kind hg (Calls.loadGlobal_global (by rw [I.ok.glob];exact I.mod.glob.keeps I.bk) hm h) hd
theorem rG {E:Value->Shared->Prop} {pins:List (Addr×Obj)} {s:Shared} {σ:St} {H:Hp} {x:Str} {u:Value} {pos:Pos} {Q:Value->Shared->Prop} (I:Inv X pins σ H s) (hg:Gl X x) (hm:X.mg x=none) (hv:bootBuiltins x=some u) (h:Q u s)
 (hn:x ≠ "__name__" := by decide) (hd:(x==("__debug__" : Str))=false:=by decide):wpAny (model X.prog X.w) X.A (eval (.Name x pos) X.env) Q E s:=by
 obtain ⟨mb,h1,h2⟩:=I.mod.blt
 exact Calls.Name_function_global I.ok.kind hg (Calls.loadGlobal_builtin (by rw [I.ok.glob];exact I.mod.glob.keeps I.bk) hm (by rw [I.ok.blt];exact h1.keeps I.bk) ((h2 x hn).trans hv) h) hd
theorem Zg {x:Str} {v:V} {u:Value} {pos:Pos} (hg:Gl X x) (hm:X.mg x=none) (hv:bootBuiltins x=some u) (r:RelV v u) (hn:x ≠ "__name__" := by decide) (hd:(x==("__debug__" : Str))=false:=by decide):PE X (.Name x pos) (tC v) :=
 λ_ _ _ H _ I h=>rG I hg hm hv ⟨v,H,I,r,h⟩ hn hd
variable {a b:Expr} {ta tb:TE} {pos:Pos}
variable {tA Fo:TT} {rest:List Expr}
def Lz (t u:TT):TT:=λσ H Q=>t σ H λc H1=>if c=true then u σ H1 Q else Q false H1
def tOr (t u:TT):TT:=λσ H Q=>t σ H λc H1=>if c=true then Q true H1 else u σ H1 Q
def Lp (t:TT):TT:=λσ H Q=>t σ H λc H1=>Q (!c) H1
theorem zm6 (ha:PT X a tA):PW X (.BoolOp .And [a] pos) tA:=by
 intro wh pins s σ H Q I h
 refine isTrue_and (bL (ha pins s σ H Q I h) λc s1 e=>?_)
 cases c with
 | true=>exact isTrue_and_nil e
 | false=>exact e
theorem WQ (ha:PT X a tA):PW X (.BoolOp .Or [a] pos) tA:=by
 intro wh pins s σ H Q I h
 refine isTrue_or (bL (ha pins s σ H Q I h) λc s1 e=>?_)
 cases c with
 | false=>exact isTrue_or_nil e
 | true=>exact e
theorem WN (ha:PT X a tA) (hb:PW X (.BoolOp .And (b::rest) pos) Fo):PW X (.BoolOp .And (a::b::rest) pos) (Lz tA Fo):=by
 intro wh pins s σ H Q I h
 refine isTrue_and (bL (ha pins s σ H _ I h) λc s1 ⟨H1,I1,q1⟩=>?_)
 cases c with
 | true=>exact hb wh pins s1 σ H1 Q I1 q1
 | false=>exact ⟨H1,I1,q1⟩
theorem Vp (ha:PT X a tA) (hb:PW X (.BoolOp .Or (b::rest) pos) Fo):PW X (.BoolOp .Or (a::b::rest) pos) (tOr tA Fo):=by
 intro wh pins s σ H Q I h
 refine isTrue_or (bL (ha pins s σ H _ I h) λc s1 ⟨H1,I1,q1⟩=>?_)
 cases c with
 | true=>exact ⟨H1,I1,q1⟩
 | false=>exact hb wh pins s1 σ H1 Q I1 q1
theorem WL (ha:PT X a tA):PT X (.UnaryOp .Not a pos) (Lp tA):=by
 intro pins s σ H Q I h
 exact isTrue_not (ha pins s σ H (λc H1=>Q (!c) H1) I h)
def zG (ta tb:TE):TE:=λσ H Q=>ta σ H λx H1=>∃ c,x = .bl c/\if c=true then tb σ H1 Q else Q (.bl false) H1
def Ln (ta tb:TE):TE:=λσ H Q=>ta σ H λx H1=>∃ c,x = .bl c/\if c=true then Q (.bl true) H1 else tb σ H1 Q
def zq (ta:TE):TE:=λσ H Q=>ta σ H λx H1=>∃ c,x = .bl c/\Q (.bl (!c)) H1
theorem Wq {op} {t:TE} (h:PE X a t):PE X (.BoolOp op [a] pos) t:=λpins s σ H Q I hw=>BoolOp_one (h pins s σ H Q I hw)
theorem Xq (ha:PE X a ta) (hb:PE X (.BoolOp .And (b::rest) pos) tb):PE X (.BoolOp .And (a::b::rest) pos) (zG ta tb):=by
 intro pins s σ H Q I h
 refine BoolOp_and (bL (ha pins s σ H _ I h) λv s1 ⟨x,H1,I1,r1,q1⟩=>?_)
 obtain ⟨c,rfl,q1⟩:=q1
 cases r1
 refine wpAny_truthy_bool ?_
 cases c with
 | true=>exact hb pins s1 σ H1 Q I1 q1
 | false=>exact ⟨.bl false,H1,I1,rfl,q1⟩
theorem Wk (ha:PE X a ta) (hb:PE X (.BoolOp .Or (b::rest) pos) tb):PE X (.BoolOp .Or (a::b::rest) pos) (Ln ta tb):=by
 intro pins s σ H Q I h
 refine BoolOp_or (bL (ha pins s σ H _ I h) λv s1 ⟨x,H1,I1,r1,q1⟩=>?_)
 obtain ⟨c,rfl,q1⟩:=q1
 cases r1
 refine wpAny_truthy_bool ?_
 cases c with
 | false=>exact hb pins s1 σ H1 Q I1 q1
 | true=>exact ⟨.bl true,H1,I1,rfl,q1⟩
theorem Wo (ha:PE X a ta):PE X (.UnaryOp .Not a pos) (zq ta):=by
 intro pins s σ H Q I h
 refine UnaryOp_ (bL (ha pins s σ H _ I h) λv s1 ⟨x,H1,I1,r1,q1⟩=>?_)
 obtain ⟨c,rfl,q1⟩:=q1
 cases r1
 exact not_of (wpAny_truthy_bool ⟨.bl (!c),H1,I1,rfl,q1⟩)
def tIf (t:TT) (ta tb:TE):TE:=λσ H Q=>t σ H λc H1=>if c=true then ta σ H1 Q else tb σ H1 Q
theorem zlt {c:Expr} (hc:PT X c tA) (ha:PE X a ta) (hb:PE X b tb):PE X (.IfExp c a b pos) (tIf tA ta tb):=by
 intro pins s σ H Q I h
 refine wpAny_IfExp (bL (hc pins s σ H _ I h) λd s1 ⟨H1,I1,q1⟩=>?_)
 cases d with
 | true=>exact ha pins s1 σ H1 Q I1 q1
 | false=>exact hb pins s1 σ H1 Q I1 q1
end
def dh (K:PySem.W.Frag) (H:Hp) (a:Addr) (xs:List V):Prop :=
 Rd H a (.lst xs) \/
  ∃ (o:Obj) (its:Array Value) (n:Nat),K.lookup a=some o/\o.cls = .type "list" /\ o.dict=none/\o.data = .seq its n/\its.size<=sizeLine/\Vals xs its.toList
def dF (K:PySem.W.Frag) (H:Hp) (a:Addr) (xs:List V):Prop :=
 Rd H a (.tup xs) \/
  ∃ (o:Obj) (its:Array Value) (n:Nat),K.lookup a=some o/\o.cls = .type "tuple" /\ o.data = .seq its n/\its.size<=sizeLine/\Vals xs its.toList
def NP:Value->Option V
 | .none=>some .non
 | .bool b=>some (.bl b)
 | .int i _=>some (.int i)
 | .str x _=>some (.str x)
 | .bytes b _=>some (.byt b)
 | .float b _=>some (.flt b)
 | .ref a=>some (.ref a)
 | .type n=>some (.ty n)
 | _=>none
theorem RelV.abs {x:V} {u:Value} (r:RelV x u):NP u=some x:=by
 cases x with
 | non=>cases r;rfl
 | bl _=>cases r;rfl
 | int _=>obtain ⟨t,rfl⟩:=r;rfl
 | str _=>obtain ⟨t,rfl⟩:=r;rfl
 | byt _=>obtain ⟨t,rfl⟩:=r;rfl
 | flt _=>obtain ⟨t,rfl⟩:=r;rfl
 | ref _=>cases r;rfl
 | ty _=>cases r;rfl
theorem RelV.inj {x y:V} {u:Value} (r:RelV x u) (q:RelV y u):x=y:=Option.some.inj (r.abs.symm.trans q.abs)
theorem Vals.inj:∀ {xs ys:List V} {us:List Value},Vals xs us->Vals ys us->xs=ys
 | _,_,_,.nil,.nil=>rfl
 | _,_,_,.cons r t,.cons r' t'=>by rw [r.inj r',Vals.inj t t']
section
variable {X:Cx} {pins:List (Addr×Obj)} {σ:St} {H:Hp} {s:Shared} {a:Addr} {xs ys:List V}
theorem dh.of {K:PySem.W.Frag} (h:H a=some (.lst xs)):dh K H a xs := .inl (.inl h)
theorem dF.of {K:PySem.W.Frag} (h:H a=some (.tup xs)):dF K H a xs := .inl (.inl h)
theorem Inv.list (I:Inv X pins σ H s) (h:dh X.K H a xs):∃ its:List Value,Vals xs its/\PlainL s.heap a its.toArray/\xs.length<=sizeLine:=by
 rcases h with h | ⟨o,its,n,hk,hc,hd,hs,hz,r⟩
 ·obtain ⟨z,its,n,r,e⟩:=h.ok I.hok
  exact ⟨its,r,⟨_,n,e,rfl,rfl,rfl⟩,z⟩
 ·refine ⟨its.toList,r,⟨o,n,I.kIn a o hk,hc,hd,by simpa using hs⟩,?_⟩
  have e:=r.length
  simp only [Array.length_toList] at e
  omega
theorem Inv.tuple (I:Inv X pins σ H s) (h:dF X.K H a xs):∃ its:List Value,Vals xs its/\IsTup s.heap a its.toArray/\xs.length<=sizeLine:=by
 rcases h with h | ⟨o,its,n,hk,hc,hs,hz,r⟩
 ·obtain ⟨z,its,r,p⟩:=h.ok I.hok
  exact ⟨its,r,p,z⟩
 ·refine ⟨its.toList,r,⟨o,I.kIn a o hk,hc,n,by simpa using hs⟩,?_⟩
  have e:=r.length
  simp only [Array.length_toList] at e
  omega
theorem Inv.list_inj (I:Inv X pins σ H s) (h:dh X.K H a xs) (h':dh X.K H a ys):xs=ys:=by
 obtain ⟨its,r,⟨o,n,e,_,_,d⟩,_⟩:=I.list h
 obtain ⟨its',r',⟨o',n',e',_,_,d'⟩,_⟩:=I.list h'
 rw [e] at e';cases e'
 rw [d] at d'
 injection d' with d1 _
 have:its=its':=by simpa using congrArg Array.toList d1
 subst this
 exact r.inj r'
theorem Inv.tuple_inj (I:Inv X pins σ H s) (h:dF X.K H a xs) (h':dF X.K H a ys):xs=ys:=by
 obtain ⟨its,r,⟨o,e,_,n,d⟩,_⟩:=I.tuple h
 obtain ⟨its',r',⟨o',e',_,n',d'⟩,_⟩:=I.tuple h'
 rw [e] at e';cases e'
 rw [d] at d'
 injection d' with d1 _
 have:its=its':=by simpa using congrArg Array.toList d1
 subst this
 exact r.inj r'
end
abbrev Cx.wish (X:Cx) (E:Value->Shared->Prop):Cx:={ X with xe:=E }
abbrev Cx.nox (X:Cx):Cx:=X.wish λ_ _=>False
theorem Cx.Ok.wish {X:Cx} (ok:X.Ok) (E:Value->Shared->Prop):(X.wish E).Ok :=
 ⟨ok.mod,ok.kind,ok.glob,ok.blt,ok.above,ok.inj,ok.has,ok.cab,ok.hd,ok.frames,ok.stk,ok.exf,ok.bs,ok.bsz,ok.noex,ok.exfs,ok.funs,ok.frf⟩
theorem Cx.Ok.unwish {X:Cx} {E:Value->Shared->Prop} (ok:(X.wish E).Ok):X.Ok :=
 ⟨ok.mod,ok.kind,ok.glob,ok.blt,ok.above,ok.inj,ok.has,ok.cab,ok.hd,ok.frames,ok.stk,ok.exf,ok.bs,ok.bsz,ok.noex,ok.exfs,ok.funs,ok.frf⟩
section
variable {X:Cx} {pins:List (Addr×Obj)} {σ:St} {H:Hp} {s:Shared} {E:Value->Shared->Prop}
theorem Inv.wish (I:Inv X pins σ H s) (E:Value->Shared->Prop):Inv (X.wish E) pins σ H s:=⟨I.ok.wish E,I.os,I.bare,I.base,I.loc,I.cell,I.free,I.freeC,I.pin,I.hok,I.len⟩
theorem Inv.unwish (I:Inv (X.wish E) pins σ H s):Inv X pins σ H s:=⟨I.ok.unwish,I.os,I.bare,I.base,I.loc,I.cell,I.free,I.freeC,I.pin,I.hok,I.len⟩
theorem SP.unwish {D:tQ} {f:Flow} {s':Shared} (h:SP (X.wish E) pins D f s'):SP X pins D f s':=by
 cases f with
 | next=>obtain ⟨σ',H',I,q⟩:=h;exact ⟨σ',H',I.unwish,q⟩
 | brk=>obtain ⟨σ',H',I,q⟩:=h;exact ⟨σ',H',I.unwish,q⟩
 | cont=>obtain ⟨σ',H',I,q⟩:=h;exact ⟨σ',H',I.unwish,q⟩
 | ret u=>obtain ⟨v,σ',H',I,r,q⟩:=h;exact ⟨v,σ',H',I.unwish,r,q⟩
theorem PE.nox {e:Expr} {t:TE} (h:PE X.nox e t):PE X e t:=λpins s σ H Q I hw =>
 jm (h pins s σ H Q (I.wish _) hw) (λ_ _ ⟨v,H',I',r,q⟩=>⟨v,H',I'.unwish,r,q⟩) λ_ _ z=>False.elim z
theorem jl.nox {st:List Stmt} {t:TS} (h:jl X.nox st t):jl X st t:=λpins s σ H D I hw =>
 jm (h pins s σ H D (I.wish _) hw) (λ_ _ q=>q.unwish) λ_ _ z=>False.elim z
end
section
variable {X:Cx} {st:Stmt} {rest:List Stmt} {t u:TS} {e:Expr} {te:TE} {pos:Pos}
def Gz:TS:=λD σ H=>D.nx σ H
def Lj (t u:TS):TS:=λD σ H=>t { D with nx:=u D } σ H
theorem Zx:jl X [] Gz:=λ_ _ σ H _ I h=>wpAny_execs_nil ⟨σ,H,I,h⟩
theorem zlj (h1:PS X st t) (h2:jl X rest u):jl X (st::rest) (Lj t u):=by
 intro pins s σ H D I h
 refine wpAny_execs_cons (bL (h1 pins s σ H { D with nx:=u D } I h) λf s1 q=>?_)
 cases f with
 | next =>
  obtain ⟨σ',H',I',q⟩:=q
  exact h2 pins s1 σ' H' D I' q
 | ret v=>exact q
 | brk=>exact q
 | cont=>exact q
def uJ:TS:=λD σ H=>D.bk σ H
def zA:TS:=λD σ H=>D.ct σ H
theorem Zv:PS X (.Pass pos) Gz:=λ_ _ σ H _ I h=>wpAny_Pass ⟨σ,H,I,h⟩
theorem zlm:PS X (.Break pos) uJ:=λ_ _ σ H _ I h=>wpAny_Break ⟨σ,H,I,h⟩
theorem zhk:PS X (.Continue pos) zA:=λ_ _ σ H _ I h=>wpAny_Continue ⟨σ,H,I,h⟩
theorem Inv.quiet {pins:List (Addr×Obj)} {σ:St} {H:Hp} {s:Shared} (I:Inv X pins σ H s):interactive X.env=false:=by simp [interactive,I.ok.kind]
theorem Wx {x j pos pos'}:PS X (.Expr (.Constant (.str x) j pos) pos') Gz:=λ_ s σ H _ I h=>wpAny_Expr (Calls.Constant_str (show SP X _ _ .next { s with toks:=s.toks+1 } from ⟨σ,H,I.tok _,h⟩)) I.quiet
def zy (te:TE):TS:=λD σ H=>te σ H λ_ H1=>D.nx σ H1
theorem Zu (he:PE X e te) (hs:swapsWith e none pos.line X.env=pure false:=by rfl):PS X (.Expr e pos) (zy te):=by
 intro pins s σ H D I h
 exact wpAny_Expr_any (bL (he pins s σ H _ I h) λv s1 ⟨x,H1,I1,r1,q1⟩=>⟨σ,H1,I1,q1⟩) I.quiet hs
def Lk (te:TE):TS:=λD σ H=>te σ H D.rt
theorem WD (he:PE X e te):PS X (.Return (some e) pos) (Lk te):=by
 intro pins s σ H D I h
 exact wpAny_Return_some (bL (he pins s σ H _ I h) λv s1 ⟨x,H1,I1,r1,q1⟩=>⟨x,σ,H1,I1,r1,q1⟩)
def zm:TS:=λD _ H=>D.rt .non H
theorem Zw:PS X (.Return none pos) zm:=λ_ _ σ H _ I h=>wpAny_Return_none ⟨.non,σ,H,I,rfl,h⟩
def Ls (c:TT) (t u:TS):TS:=λD σ H=>c σ H λb H1=>if b=true then t D σ H1 else u D σ H1
theorem Vo {c:Expr} {a b:List Stmt} {tc:TT} (hc:PT X c tc) (ha:jl X a t) (hb:jl X b u):PS X (.If c a b pos) (Ls tc t u):=by
 intro pins s σ H D I h
 refine wpAny_If (bL (hc pins s σ H _ I h) λd s1 ⟨H1,I1,q1⟩=>?_)
 cases d with
 | true=>exact ha pins s1 σ H1 D I1 q1
 | false=>exact hb pins s1 σ H1 D I1 q1
end
abbrev TG:=V->St->Hp->(St->Hp->Prop)->Prop
abbrev pB:=List V->St->Hp->(St->Hp->Prop)->Prop
def PG (X:Cx) (target:Expr) (t:TG):Prop :=
 ∀ (pins:List (Addr×Obj)) (s:Shared) (σ:St) (H:Hp) (v:V) (u:Value) (Q:St->Hp->Prop),Inv X pins σ H s->RelV v u->t v σ H Q ->
  wpAny (model X.prog X.w) X.A (assign target X.env u) (λ_ s'=>∃ σ' H',Inv X pins σ' H' s'/\Q σ' H') X.xe s
def xO (X:Cx) (ts:List Expr) (t:pB):Prop :=
 ∀ (pins:List (Addr×Obj)) (s:Shared) (σ:St) (H:Hp) (vs:List V) (us:List Value) (Q:St->Hp->Prop),Inv X pins σ H s->Vals vs us->t vs σ H Q ->
  wpAny (model X.prog X.w) X.A (assignInOrder ((assignEach ts X.env).map (·.2)) us) (λ_ s'=>∃ σ' H',Inv X pins σ' H' s'/\Q σ' H') X.xe s
section
variable {X:Cx} {pos:Pos}
def sY (i:Nat):TG:=λv σ H Q=>Q (σ.set i (some v)) H
theorem Zm {i:Nat} {x:Str} (hN:X.N.Nodup) (hi:X.N[i]?=some x) (hx:Loc X.env.scope x) (hf:X.fn x=true\/X.env.scope.names.lookup x=some .local:=by first | exact .inl rfl | exact .inr rfl | assumption):PG X (.Name x pos) (sY i):=by
 intro pins s σ H v u Q I r h
 exact wpAny_assign_Name (Jb I hN hi hx r (λs' I'=>⟨_,H,I',h⟩) hf)
def Nj:pB:=λvs σ H Q=>vs=[]/\Q σ H
def Bb (t:TG) (u:pB):pB:=λvs σ H Q=>∃ v r,vs=v::r/\t v σ H λσ' H'=>u r σ' H' Q
theorem Zo:xO X [] Nj:=by
 intro pins s σ H vs us Q I r h
 obtain ⟨e,h⟩:=h
 subst e
 cases r
 exact assignInOrder_nil ⟨σ,H,I,h⟩
theorem zlq {e:Expr} {es:List Expr} {t:TG} {u:pB} (h1:PG X e t) (h2:xO X es u)
 (hs:(assignEach (e::es) X.env).map (·.2)=assign e X.env::(assignEach es X.env).map (·.2):=by rfl):xO X (e::es) (Bb t u):=by
 intro pins s σ H vs us Q I r h
 obtain ⟨v,vr,e1,h⟩:=h
 subst e1
 cases r with
 | cons r rr =>
  rw [hs]
  refine assignInOrder_cons (bL (h1 pins s σ H _ _ _ I r h) λ_ s1 ⟨σ1,H1,I1,q1⟩=>?_)
  exact h2 pins s1 σ1 H1 _ _ Q I1 rr q1
def cu (K:PySem.W.Frag) (n:Nat) (t:pB):TG:=λv σ H Q=>∃ a xs,v = .ref a/\dF K H a xs/\xs.length=n/\t xs σ H Q
theorem Wt {es:List Expr} {k:Nat} {t:pB} {n:Nat} (hc:X.calm=true) (h:xO X es t)
 (hn:(assignEach es X.env).length=n:=by rfl) (hst:(assignEach es X.env).findIdx? (·.1)=none:=by rfl):PG X (.Tuple es k pos) (cu X.K n t):=by
 intro pins s σ H v u Q I r hw
 obtain ⟨a,xs,e1,hq,hl,hw⟩:=hw
 subst e1
 cases r
 obtain ⟨its,rv,ht,hz⟩:=I.tuple hq
 refine assign_Tuple_tuple (I.ok.hd hc) ht (by simp [hn,<-hl,rv.length]) hst λh' hx=>?_
 have I1:Inv X pins σ H { s with heap:=h' }:=I.kept (t':=s.toks) λb o e=>hx b o (dw (cj e)) e
 exact h pins _ σ H xs _ Q I1 (by simpa using rv) hw
def zF (te:TE) (g:TG):TS:=λD σ H=>te σ H λx H1=>g x σ H1 D.nx
theorem Ww {tg e:Expr} {te:TE} {g:TG} (he:PE X e te) (hg:PG X tg g) (hs:swapsWithSole [tg] e pos.line X.env=pure false:=by rfl) (hw:swappedStores [tg] e X.env=pure none:=by rfl)
 (h1:(assignEach [tg] X.env).map (·.2)=[assign tg X.env]:=by rfl):PS X (.Assign [tg] e pos) (zF te g):=by
 intro pins s σ H D I h
 refine wpAny_Assign_stores (bL (he pins s σ H _ I h) λv s1 ⟨x,H1,I1,r1,q1⟩=>?_) hs hw
 rw [h1]
 exact bL (hg pins s1 σ H1 x v _ I1 r1 q1) λ_ s2 q=>q
theorem WK {i:Nat} {x:Str} {e:Expr} {te:TE} {pos':Pos} (hN:X.N.Nodup) (hi:X.N[i]?=some x) (hx:Loc X.env.scope x) (he:PE X e te) (hs:swapsWith e (some (.Name x pos')) pos.line X.env=pure false:=by rfl) (hf:X.fn x=true\/X.env.scope.names.lookup x=some .local:=by first | exact .inl rfl | exact .inr rfl | assumption) :
 PS X (.Assign [.Name x pos'] e pos) (zF te (sY i)):=by
 intro pins s σ H D I h
 refine wpAny_Assign_Name (bL (he pins s σ H _ I h) λv s1 ⟨y,H1,I1,r1,q1⟩=>?_) hs
 exact Jb I1 hN hi hx r1 (λs2 I2=>⟨_,H1,I2,q1⟩) hf
end
section
variable {X:Cx} {pos:Pos}
def uI (c:TT) (tb:TS):TS:=λD σ H=>∃ W:Nat->St->Hp->Prop,(∃ m,W m σ H)/\∀ m σ H,W m σ H ->
 c σ H λb H1=>if b=true then ∃ N:St->Hp->Prop,(∀ σ' H',N σ' H'->∃ m',m'<m/\W m' σ' H')/\tb { D with nx:=N,ct:=N,bk:=D.nx } σ H1 else D.nx σ H1
theorem zlk {c:Expr} {body:List Stmt} {tc:TT} {tb:TS} (hp:PassesOwn (model X.prog X.w) X.A X.env X.xe) (hc:PT X c tc) (hb:jl X body tb):PS X (.While c body [] pos) (uI tc tb):=by
 intro pins s σ H D I h
 obtain ⟨W,⟨m0,w0⟩,turn⟩:=h
 refine wpAny_While (codeAny_whileLoop (λn s'=>∃ σ' H',Inv X pins σ' H' s'/\W n σ' H') ?_ m0 ⟨σ,H,I,w0⟩)
 rintro n s1 ⟨σ1,H1,I1,w1⟩
 refine wpAny_passesOwn hp (bL (hc pins s1 σ1 H1 _ I1 (turn n σ1 H1 w1)) λb s2 ⟨H2,I2,q2⟩=>?_)
 cases b with
 | true =>
  obtain ⟨N,hN,q2⟩:=q2
  rw [if_pos rfl]
  refine wpAny_passesOwn hp (bL (hb pins s2 σ1 H2 _ I2 q2) λf s3 q3=>?_)
  cases f with
  | next =>
   obtain ⟨σ3,H3,I3,n3⟩:=q3
   obtain ⟨m',hm,w3⟩:=hN σ3 H3 n3
   exact ⟨m',hm,σ3,H3,I3,w3⟩
  | cont =>
   obtain ⟨σ3,H3,I3,n3⟩:=q3
   obtain ⟨m',hm,w3⟩:=hN σ3 H3 n3
   exact ⟨m',hm,σ3,H3,I3,w3⟩
  | brk=>exact q3
  | ret v=>exact q3
 | false =>
  rw [if_neg fQ]
  exact wpAny_execs_nil ⟨σ1,H2,I2,q2⟩
end
structure It where
 go:Nat->Hp->Prop
 yld:Nat->Hp->V->Hp->Prop
 stop:Nat->Hp->Prop
def jA (X:Cx) (pins:List (Addr×Obj)) (H:Hp) (b:Addr):Prop :=
 H b=none/\b≠X.env.locals/\b∉X.fs/\(b∈X.ex\/X.s₀.heap.objs.size<=b)/\(∀ x c,X.env.cells.lookup x=some c->c≠b)/\∀ p∈X.pn++pins,p.1≠b
theorem Inv.fpOk {X:Cx} {pins:List (Addr×Obj)} {σ:St} {H H':Hp} {s:Shared} {b:Addr} (I:Inv X pins σ H s) (hb:s.heap.objs.size<=b) (hn:H' b=none):jA X pins H' b:=by
 refine ⟨hn,Nat.ne_of_gt (dj I.lt hb),I.nofs hb,.inr (Nat.le_trans I.sz hb),λx c e z=>?_,λp hp z=>?_⟩
 ·obtain ⟨v,q⟩:=I.cell x c e
  exact absurd (dj q.lt (by rw [z];exact hb)) (gF _)
 ·exact absurd (dj (cj (I.pin p hp).1) (by rw [z];exact hb)) (gF _)
structure tR (P:Program) (w:World) (K:PySem.W.Frag) (tg:Expr) (J:It) (fp:List Addr) (it:Addr) (tn:Nat->Heap->Prop):Prop where
 mem:it∈fp
 obj:∀ i h,tn i h->∀ b∈fp,∃ o,h.get? b=some o/\∀ v,o.data ≠ .cell v
 keep:∀ i h h',tn i h->(∀ b∈fp,∀ o,h.get? b=some o->h'.get? b=some o)->tn i h'
 item:∀ (X:Cx),X.prog=P->X.w=w->X.K=K->X.calm=true->∀ (i:Nat) (pins:List (Addr×Obj)) (s:Shared) (σ:St) (H:Hp) (E:Value->Shared->Prop),Inv X pins σ H s->(∀ b∈fp,jA X pins H b)->tn i s.heap->J.go i H ->
  wpAny (model P w) X.A (pyNext (.ref it)) (λr s1=>∃ u,r=some u /\
   wpAny (model P w) X.A (letOwnedTupleGo tg (.ref it) u) (λ_ s2=>∃ x H',Inv X pins σ H' s2/\RelV x u/\J.yld i H x H'/\tn (i+1) s2.heap/\∀ b∈fp,H' b=none) E s1) E s
 done:∀ (X:Cx),X.prog=P->X.w=w->X.K=K->X.calm=true->∀ (i:Nat) (pins:List (Addr×Obj)) (s:Shared) (σ:St) (H:Hp) (E:Value->Shared->Prop),Inv X pins σ H s->(∀ b∈fp,jA X pins H b)->tn i s.heap->J.stop i H ->
  wpAny (model P w) X.A (pyNext (.ref it)) (λr s1=>r=none/\Inv X pins σ H s1) E s
 self:∀ (A:Around) (i:Nat) (s:Shared) (Q:Value->Shared->Prop) (E:Value->Shared->Prop),tn i s.heap->Q (.ref it) s->wpAny (model P w) A (pyIter (.ref it)) Q E s
abbrev TI:=St->Hp->(It->Hp->Prop)->Prop
def PIE (X:Cx) (pins:List (Addr×Obj)) (σ:St) (tg:Expr) (R:It->Hp->Prop) (itv:Value) (s2:Shared):Prop :=
 ∃ (it:Addr) (fp:List Addr) (tn:Nat->Heap->Prop) (J:It) (H':Hp),itv = .ref it/\Inv X pins σ H' s2/\tR X.prog X.w X.K tg J fp it tn/\tn 0 s2.heap/\(∀ b∈fp,jA X pins H' b)/\R J H'
def PI (X:Cx) (tg iter:Expr) (wi:TI):Prop :=
 ∀ (pins:List (Addr×Obj)) (s:Shared) (σ:St) (H:Hp) (R:It->Hp->Prop),Inv X pins σ H s->wi σ H R ->
  wpAny (model X.prog X.w) X.A (eval iter X.env) (λv s1=>wpAny (model X.prog X.w) X.A (pyIter v) (PIE X pins σ tg R) X.xe s1) X.xe s
theorem GX {M:Model} {A:Around} {E:Value->Shared->Prop} {s:Shared} {tg:Expr} {it:Addr} {u:Value} {o:Obj} {n:String} {vs:Array Value} {Q:Unit->Shared->Prop} (ho:s.heap.get? it=some o) (hc:o.cls = .type n) (hd:o.data = .fields vs)
 (hn:["enumerate", "zip", "dict_itemiterator", "dict_reverseitemiterator", "odict_iterator", "itertools.zip_longest", "itertools.pairwise"].contains n=false) (hQ:Q () s):wpAny M A (letOwnedTupleGo tg (.ref it) u) Q E s:=by
 unfold letOwnedTupleGo
 cases tg<;>first
  | exact bW hQ
  | (cases u<;>first
   | exact bW hQ
   | (refine aN (wpAny_load ho ?_)
      rw [hc,hd]
      show wpAny M A (if (["enumerate", "zip", "dict_itemiterator", "dict_reverseitemiterator", "odict_iterator", "itertools.zip_longest", "itertools.pairwise"].contains n&&vs[0]?==some (rawInt _))=true then _ else _) Q E s
      rw [if_neg (by intro h;rw [hn,Bool.false_and] at h;cases h)]
      exact bW hQ))
def xP (K:PySem.W.Frag) (a:Addr):It :=
 ⟨λi H=>∃ xs x,dh K H a xs/\xs[i]?=some x,λi H x H'=>H'=H/\∀ xs,dh K H a xs->xs[i]?=some x,λi H=>∃ xs,dh K H a xs/\xs.length<=i⟩
def N5 (K:PySem.W.Frag) (a:Addr):It :=
 ⟨λi H=>∃ xs x,dF K H a xs/\xs[i]?=some x,λi H x H'=>H'=H/\∀ xs,dF K H a xs->xs[i]?=some x,λi H=>∃ xs,dF K H a xs/\xs.length<=i⟩
def Bs (lo:Int) (n:Nat):It:=⟨λi _=>i<n,λi H x H'=>H'=H/\x = .int (lo+i),λi _=>n<=i⟩
theorem zjd {P:Program} {w:World} {K:PySem.W.Frag} {tg:Expr} (a it:Addr):tR P w K tg (xP K a) [it] it (λi h=>h.IsListIter it a i) where
 mem:=by simp
 obj:=λi h st b hb=>by
  have e:b=it:=by simpa using hb
  subst e
  obtain ⟨o,e,c,d⟩:=st
  exact ⟨o,e,λv z=>by rw [d] at z;cases z⟩
 keep:=λi h h' st k=>st.at λo e=>k it (by simp) o e
 item:=by
  intro X hP hw hK hc i pins s σ H E I hf st hg
  subst hP hw hK
  obtain ⟨xs,x,hq,hx⟩:=hg
  obtain ⟨its,rv,p,hz⟩:=I.list hq
  obtain ⟨u,hu,ru⟩:=rv.get hx
  obtain ⟨f0,f1,f2,f3,f4,f5⟩:=hf it (by simp)
  refine wpAny_pyNext_list_item st p.isList (x:=u) (by simpa using hu) λh' st' sb=>?_
  have I1:Inv X pins σ H { s with heap:=h' }:=I.turned (t':=s.toks) (λb o hb e=>(sb.2 b hb).trans e) f0 f1 f3 f4 f5
  obtain ⟨o,e,c,d⟩:=id st'
  exact ⟨u,rfl,GX (s:={ s with heap:=h' }) e c d (by decide) ⟨x,H,I1,ru,⟨rfl,λys hy=>by rw [I.list_inj hy hq];exact hx⟩,st',λb hb=>(hf b hb).1⟩⟩
 done:=by
  intro X hP hw hK hc i pins s σ H E I hf st hg
  subst hP hw hK
  obtain ⟨xs,hq,hx⟩:=hg
  obtain ⟨its,rv,p,hz⟩:=I.list hq
  obtain ⟨f0,f1,f2,f3,f4,f5⟩:=hf it (by simp)
  have hl:=rv.length
  exact wpAny_pyNext_list_end (I.ok.hd hc) st p.isList (by simp;omega) λh' eb=>⟨rfl,I.turned (t':=s.toks) (λb o hb e=>eb b o hb e) f0 f1 f3 f4 f5⟩
 self:=λ_ _ _ _ _ st h=>wpAny_pyIter_listiter st h
theorem ziz {P:Program} {w:World} {K:PySem.W.Frag} {tg:Expr} (a it:Addr):tR P w K tg (N5 K a) [it] it (λi h=>h.IsTupleIter it a i) where
 mem:=by simp
 obj:=λi h st b hb=>by
  have e:b=it:=by simpa using hb
  subst e
  obtain ⟨o,e,c,d⟩:=st
  exact ⟨o,e,λv z=>by rw [d] at z;cases z⟩
 keep:=λi h h' st k=>st.at λo e=>k it (by simp) o e
 item:=by
  intro X hP hw hK hc i pins s σ H E I hf st hg
  subst hP hw hK
  obtain ⟨xs,x,hq,hx⟩:=hg
  obtain ⟨its,rv,p,hz⟩:=I.tuple hq
  obtain ⟨u,hu,ru⟩:=rv.get hx
  obtain ⟨f0,f1,f2,f3,f4,f5⟩:=hf it (by simp)
  refine wpAny_pyNext_tuple_item st (show s.heap.IsTuple a its.toArray from p) (x:=u) (by simpa using hu) λh' st' sb=>?_
  have I1:Inv X pins σ H { s with heap:=h' }:=I.turned (t':=s.toks) (λb o hb e=>(sb.2 b hb).trans e) f0 f1 f3 f4 f5
  obtain ⟨o,e,c,d⟩:=id st'
  exact ⟨u,rfl,GX (s:={ s with heap:=h' }) e c d (by decide) ⟨x,H,I1,ru,⟨rfl,λys hy=>by rw [I.tuple_inj hy hq];exact hx⟩,st',λb hb=>(hf b hb).1⟩⟩
 done:=by
  intro X hP hw hK hc i pins s σ H E I hf st hg
  subst hP hw hK
  obtain ⟨xs,hq,hx⟩:=hg
  obtain ⟨its,rv,p,hz⟩:=I.tuple hq
  obtain ⟨f0,f1,f2,f3,f4,f5⟩:=hf it (by simp)
  have hl:=rv.length
  exact wpAny_pyNext_tuple_end (I.ok.hd hc) st (show s.heap.IsTuple a its.toArray from p) (by simp;omega) λh' eb=>⟨rfl,I.turned (t':=s.toks) (λb o hb e=>eb b o hb e) f0 f1 f3 f4 f5⟩
 self:=λ_ _ _ _ _ st h=>wpAny_pyIter_tupleiter st h
theorem ziA {P:Program} {w:World} {K:PySem.W.Frag} {tg:Expr} (it:Addr) (lo:Int) (n:Nat):tR P w K tg (Bs lo n) [it] it (λi h=>IsRangeIter h it (lo+(i:Nat)*1) ((n:Int) - (i:Nat)) 1) where
 mem:=by simp
 obj:=λi h st b hb=>by
  have e:b=it:=by simpa using hb
  subst e
  exact ⟨_,st,λv z=>by
   have z':Data.fields _=Data.cell v:=z
   cases z'⟩
 keep:=λi h h' st k=>k it (by simp) _ st
 item:=by
  intro X hP hw hK hc i pins s σ H E I hf st hg
  subst hP hw hK
  obtain ⟨f0,f1,f2,f3,f4,f5⟩:=hf it (by simp)
  have W:=Walks.range (prog:=X.prog) (w:=X.w) (I.ok.hd hc) it lo 1 n
  refine W.item i s _ _ hg st λv h' tk hv st' kk=>?_
  obtain ⟨t,rfl⟩:=hv
  have I1:Inv X pins σ H { s with heap:=h',toks:=tk }:=I.turned (λb o hb e=>kk b o (by simpa using hb) e) f0 f1 f3 f4 f5
  refine ⟨_,rfl,GX (s:={ s with heap:=h',toks:=tk }) (n := "range_iterator") st' rfl rfl (by decide) ⟨.int (lo+i),H,I1,⟨t,?_⟩,⟨rfl,rfl⟩,st',λb hb=>(hf b hb).1⟩⟩
  rw [Int.mul_one]
 done:=by
  intro X hP hw hK hc i pins s σ H E I hf st hg
  subst hP hw hK
  obtain ⟨f0,f1,f2,f3,f4,f5⟩:=hf it (by simp)
  exact wpAny_pyNext_range_end (I.ok.hd hc) st (by have:n<=i:=hg;omega) λh' eb=>⟨rfl,I.turned (t':=s.toks) (λb o hb e=>eb b o hb e) f0 f1 f3 f4 f5⟩
 self:=λ_ _ _ _ _ st h=>wpAny_pyIter_rangeiter st h
section
variable {X:Cx} {tg:Expr}
def Al (K:PySem.W.Frag) (tl:TE):TI:=λσ H R=>tl σ H λx H1=>∃ a,x = .ref a/\(∃ xs,dh K H1 a xs)/\R (xP K a) H1
def MN (K:PySem.W.Frag) (tl:TE):TI:=λσ H R=>tl σ H λx H1=>∃ a,x = .ref a/\(∃ xs,dF K H1 a xs)/\R (N5 K a) H1
theorem Zq {l:Expr} {tl:TE} (hl:PE X l tl):PI X tg l (Al X.K tl):=by
 intro pins s σ H R I h
 refine bL (hl pins s σ H _ I h) λv s1 ⟨x,H1,I1,r1,q1⟩=>?_
 obtain ⟨a,e,⟨xs,hq⟩,q⟩:=q1
 subst e
 cases r1
 obtain ⟨its,rv,p,hz⟩:=I1.list hq
 refine wpAny_pyIter_list p.isList ?_
 refine ⟨s1.heap.objs.size,[s1.heap.objs.size],_,_,H1,rfl,I1.kept (t':=s1.toks) λb o e=>c7 _ e,zjd a _,⟨_,fZ _ rfl,rfl,rfl⟩,λb hb=>?_,q⟩
 have e:b=s1.heap.objs.size:=by simpa using hb
 subst e
 exact I1.fpOk (bR _) (I1.hok.fresh (bR _))
theorem Wu {l:Expr} {tl:TE} (hl:PE X l tl):PI X tg l (MN X.K tl):=by
 intro pins s σ H R I h
 refine bL (hl pins s σ H _ I h) λv s1 ⟨x,H1,I1,r1,q1⟩=>?_
 obtain ⟨a,e,⟨xs,hq⟩,q⟩:=q1
 subst e
 cases r1
 obtain ⟨its,rv,p,hz⟩:=I1.tuple hq
 refine wpAny_pyIter_tuple (show s1.heap.IsTuple a its.toArray from p) ?_
 refine ⟨s1.heap.objs.size,[s1.heap.objs.size],_,_,H1,rfl,I1.kept (t':=s1.toks) λb o e=>c7 _ e,ziz a _,⟨_,fZ _ rfl,rfl,rfl⟩,λb hb=>?_,q⟩
 have e:b=s1.heap.objs.size:=by simpa using hb
 subst e
 exact I1.fpOk (bR _) (I1.hok.fresh (bR _))
theorem Rq {pins:List (Addr×Obj)} {σ:St} {H:Hp} {s:Shared} {R:It->Hp->Prop} {E:Value->Shared->Prop} {lo hi:Int} {t u v:Tok} {tk:Nat} (I:Inv X pins σ H s) (h1 : -(2 ^ 62)<=lo) (h2:lo<2 ^ 62) (h3 : -(2 ^ 62)<=hi) (h4:hi<2 ^ 62)
 (q:R (Bs lo (hi - lo).toNat) H):wpAny (model X.prog X.w) X.A (pyIter (.ref s.heap.objs.size)) (PIE X pins σ tg R) E { s with heap:=s.heap.push { cls := .type "range",data := .fields #[.int lo t,.int hi u,.int 1 v] },toks:=tk }:=by
 refine wpAny_pyIter_range (IsRange.new ..) (small_one h1 h2 h3 h4) ?_
 have I1:Inv X pins σ H { s with heap:=s.heap.push { cls := .type "range",data := .fields #[.int lo t,.int hi u,.int 1 v] },toks:=tk }:=I.kept λb o e=>c7 _ e
 refine ⟨(s.heap.push { cls := .type "range",data := .fields #[.int lo t,.int hi u,.int 1 v] }).objs.size,[(s.heap.push { cls := .type "range",data := .fields #[.int lo t,.int hi u,.int 1 v] }).objs.size],_,_,H,rfl,
  I1.kept (t':=tk) λb o e=>c7 _ e,ziA _ lo (hi - lo).toNat,?_,λb hb=>?_,q⟩
 ·have e1:lo+((0:Nat):Int)*1=lo:=by simp
  have e2:(((hi - lo).toNat:Nat):Int) - ((0:Nat):Int)=Builtin.Range.rangeSize lo hi 1:=by rw [rangeSize_one];split<;>omega
  show IsRangeIter _ _ (lo+((0:Nat):Int)*1) ((((hi - lo).toNat:Nat):Int) - ((0:Nat):Int)) 1
  rw [e1,e2]
  exact fZ _ rfl
 ·have e:b=(s.heap.push { cls := .type "range",data := .fields #[.int lo t,.int hi u,.int 1 v] }).objs.size:=by simpa using hb
  subst e
  exact I1.fpOk (bR _) (I1.hok.fresh (bR _))
def Ak (ta:TA):TI:=λσ H R=>ta σ H λvs H1=>∃ j:Int,vs=[.int j] /\ -(2 ^ 62)<=j/\j<2 ^ 62/\R (Bs 0 j.toNat) H1
def Aj (ta:TA):TI:=λσ H R=>ta σ H λvs H1=>∃ i j:Int,vs=[.int i,.int j]/\(-(2 ^ 62)<=i/\i<2 ^ 62 /\ -(2 ^ 62)<=j/\j<2 ^ 62)/\R (Bs i (j - i).toNat) H1
theorem zjH {a:Expr} {ta:TA} {p pos:Pos} (hg:Gl X "range") (hm:X.mg "range" = none) (ha:PA X [a] ta) (hs:starEach [a] X.env=[(false,eval a X.env)]:=by rfl):PI X tg (.Call (.Name "range" p) [a] [] pos) (Ak ta):=by
 intro pins s σ H R I h
 refine Call_ (rG I hg hm boot_range (PyProof.Rows.callWith_type1 (bL (ha pos pins s σ H _ I h) λus s1 ⟨vs,H1,I1,r1,q1⟩=>?_) hs rfl))
 obtain ⟨j,e,q1,q2,q⟩:=q1
 subst e
 cases r1 with
 | cons r rr =>
  cases rr
  obtain ⟨t,rfl⟩:=r
  exact call_range_1 (Rq I1 (by omega) (by omega) q1 q2 (by simpa using q))
theorem zjG {a b:Expr} {ta:TA} {p pos:Pos} (hg:Gl X "range") (hm:X.mg "range" = none) (ha:PA X [a,b] ta) (hs:starEach [a,b] X.env=[(false,eval a X.env),(false,eval b X.env)]:=by rfl) (hs2:starEach [b] X.env=[(false,eval b X.env)]:=by rfl) :
 PI X tg (.Call (.Name "range" p) [a,b] [] pos) (Aj ta):=by
 intro pins s σ H R I h
 refine Call_ (rG I hg hm boot_range (PyProof.Rows.callWith_type1 (bL (ha pos pins s σ H _ I h) λus s1 ⟨vs,H1,I1,r1,q1⟩=>?_) (by rw [hs,hs2]) (by rw [hs2];rfl)))
 obtain ⟨i,j,e,⟨q1,q2,q3,q4⟩,q⟩:=q1
 subst e
 cases r1 with
 | cons r rr =>
  cases rr with
  | cons r' rr =>
   cases rr
   obtain ⟨t,rfl⟩:=r
   obtain ⟨t',rfl⟩:=r'
   exact call_range_2 (Rq I1 q1 q2 q3 q4 q)
def Lw (wi:TI) (g:TG) (tb:TS):TS:=λD σ H=>wi σ H λJ H1=>∃ W:Nat->Nat->St->Hp->Prop,(∃ m,W 0 m σ H1)/\∀ i m σ H,W i m σ H ->
 (J.stop i H/\D.nx σ H)\/(J.go i H/\∃ N:St->Hp->Prop,(∀ σ' H',N σ' H'->∃ m',m'<m/\W (i+1) m' σ' H')/\∀ x H',J.yld i H x H'->g x σ H' λσ2 H2=>tb { D with nx:=N,ct:=N,bk:=D.nx } σ2 H2)
def yg (fp:List Addr) (h:Heap):List (Addr×Obj):=fp.filterMap λb=>(h.get? b).map λo=>(b,o)
theorem Jl {fp:List Addr} {h:Heap} {b:Addr} {o:Obj} (hb:b∈fp) (e:h.get? b=some o):(b,o)∈yg fp h:=List.mem_filterMap.mpr ⟨b,hb,by rw [e];rfl⟩
theorem zjK {fp:List Addr} {h:Heap} {p:Addr×Obj} (hp:p∈yg fp h):p.1∈fp/\h.get? p.1=some p.2:=by
 obtain ⟨b,hb,e⟩:=List.mem_filterMap.mp hp
 cases q:h.get? b with
 | none=>rw [q] at e;cases e
 | some o =>
  rw [q] at e
  have e':(b,o)=p:=Option.some.inj e
  subst e'
  exact ⟨hb,q⟩
theorem Inv.pinned {pins:List (Addr×Obj)} {σ:St} {H:Hp} {s:Shared} {fp:List Addr} (I:Inv X pins σ H s) (hf:∀ b∈fp,jA X pins H b) (ho:∀ b∈fp,∃ o,s.heap.get? b=some o/\∀ v,o.data ≠ .cell v):Inv X (pins++yg fp s.heap) σ H s :=
 I.pins_of λp hp=>(jK.mp hp).elim (λz=>I.pin p (List.mem_append_right _ z)) λz=>by
  obtain ⟨hb,e⟩:=zjK z
  obtain ⟨f0,f1,f2,_⟩:=hf p.1 hb
  obtain ⟨o,e',d⟩:=ho p.1 hb
  rw [e] at e';cases e'
  exact ⟨e,f0,f1,f2,d⟩
theorem Inv.unpinned {pins pl:List (Addr×Obj)} {σ:St} {H:Hp} {s:Shared} (I:Inv X (pins++pl) σ H s):Inv X pins σ H s:=I.pins_of λp hp=>I.pin p (List.mem_append_right _ (List.mem_append_left _ hp))
theorem Wz {iter:Expr} {body:List Stmt} {wi:TI} {g:TG} {tb:TS} {pos:Pos} (hp:PassesOwn (model X.prog X.w) X.A X.env X.xe) (hc:X.calm=true) (hi:PI X tg iter wi) (hg:PG X tg g) (hb:jl X body tb)
 (hs:∀ x,foldedSetIterable iter X.env x=pure x:=by intro _;rfl):PS X (.For tg iter body [] pos) (Lw wi g tb):=by
 intro pins s σ H D I h
 refine wpAny_For (bL (hi pins s σ H _ I h) λv s1 h1=>bL h1 λitv s2 h2=>?_) hs
 obtain ⟨it,fp,tn,J,H2,e,I2,T,st2,f2,W,⟨m0,w0⟩,turn⟩:=h2
 subst e
 have stat:∀ {H':Hp},(∀ b∈fp,H' b=none)->∀ b∈fp,jA X pins H' b:=λhn b hb=>⟨hn b hb,(f2 b hb).2⟩
 refine codeAny_forLoop_any (λn s'=>∃ i σ' H',Inv X pins σ' H' s'/\tn i s'.heap/\(∀ b∈fp,H' b=none)/\W i n σ' H') ?_ m0 ⟨0,σ,H2,I2,st2,λb hb=>(f2 b hb).1,w0⟩
 rintro n s3 ⟨i,σ3,H3,I3,st3,FN,w3⟩
 rcases turn i n σ3 H3 w3 with ⟨stop,qn⟩ | ⟨go,N,hN,step⟩
 ·refine wpAny_passesOwn hp (bL (T.done X rfl rfl rfl hc i pins s3 σ3 H3 X.xe I3 (stat FN) st3 stop) λr s4 ⟨hr,I4⟩=>?_)
  subst hr
  exact wpAny_execs_nil ⟨σ3,H3,I4,qn⟩
 ·refine wpAny_passesOwn hp (bL (T.item X rfl rfl rfl hc i pins s3 σ3 H3 X.xe I3 (stat FN) st3 go) λr s4 ⟨u,hr,h4⟩=>?_)
  subst hr
  refine wpAny_passesOwn hp (bL h4 λ_ s5 ⟨x,H5,I5,r5,y5,uK,Nk⟩=>?_)
  have N7:=I5.pinned (stat Nk) (T.obj _ _ uK)
  refine wpAny_passesOwn hp (bL (hg _ s5 σ3 H5 x u _ N7 r5 (step x H5 y5)) λ_ s6 ⟨σ6,H6,I6,q6⟩=>?_)
  refine wpAny_passesOwn hp (bL (hb _ s6 σ6 H6 _ I6 q6) λf s7 q7=>?_)
  have again:∀ {σ7:St} {H7:Hp},Inv X (pins++yg fp s5.heap) σ7 H7 s7->N σ7 H7->∃ m,m<n/\∃ i σ' H',Inv X pins σ' H' s7/\tn i s7.heap/\(∀ b∈fp,H' b=none)/\W i m σ' H':=λ{σ7 H7} I7 n7=>by
   obtain ⟨m',hm,w7⟩:=hN σ7 H7 n7
   refine ⟨m',hm,i+1,σ7,H7,I7.unpinned,T.keep _ _ _ uK λb hb o e=>(I7.pin (b,o) (List.mem_append_right _ (List.mem_append_right _ (Jl hb e)))).1,λb hb=>?_,w7⟩
   obtain ⟨o,e,d⟩:=T.obj _ _ uK b hb
   exact (I7.pin (b,o) (List.mem_append_right _ (List.mem_append_right _ (Jl hb e)))).2.1
  cases f with
  | next=>obtain ⟨σ7,H7,I7,n7⟩:=q7;exact again I7 n7
  | cont=>obtain ⟨σ7,H7,I7,n7⟩:=q7;exact again I7 n7
  | brk=>obtain ⟨σ7,H7,I7,q7⟩:=q7;exact ⟨σ7,H7,I7.unpinned,q7⟩
  | ret v=>obtain ⟨x7,σ7,H7,I7,r7,q7⟩:=q7;exact ⟨x7,σ7,H7,I7.unpinned,r7,q7⟩
end
abbrev R2:=V->V->Hp->VK->Prop
def eH (X:Cx) (f:Value->Value->Sem Value) (r:R2):Prop :=
 ∀ (pins:List (Addr×Obj)) (s:Shared) (σ:St) (H:Hp) (x y:V) (v u:Value) (Q:VK),Inv X pins σ H s->RelV x v->RelV y u->r x y H Q ->
  wpAny (model X.prog X.w) X.A (f v u) (EP X pins σ Q) X.xe s
def NQ (X:Cx) (f:Value->Sem Value) (r:V->Hp->VK->Prop):Prop :=
 ∀ (pins:List (Addr×Obj)) (s:Shared) (σ:St) (H:Hp) (x:V) (v:Value) (Q:VK),Inv X pins σ H s->RelV x v->r x H Q ->
  wpAny (model X.prog X.w) X.A (f v) (EP X pins σ Q) X.xe s
def gG (X:Cx) (f:Value) (r:List V->Hp->VK->Prop):Prop :=
 ∀ (pins:List (Addr×Obj)) (s:Shared) (σ:St) (H:Hp) (xs:List V) (us:List Value) (Q:VK),Inv X pins σ H s->Vals xs us->r xs H Q ->
  wpAny (model X.prog X.w) X.A (call f us) (EP X pins σ Q) X.xe s
def NT (X:Cx) (r:V->Hp->(Bool->Hp->Prop)->Prop):Prop :=
 ∀ (pins:List (Addr×Obj)) (s:Shared) (σ:St) (H:Hp) (x:V) (v:Value) (Q:Bool->Hp->Prop),Inv X pins σ H s->RelV x v->r x H Q ->
  wpAny (model X.prog X.w) X.A (truthy v) (TP X pins σ Q) X.xe s
def Fj (r:R2) (ta tb:TE):TE:=λσ H Q=>ta σ H λx H1=>tb σ H1 λy H2=>r x y H2 Q
def tUn (r:V->Hp->VK->Prop) (ta:TE):TE:=λσ H Q=>ta σ H λx H1=>r x H1 Q
def rI (C:Int->Int->Prop) (g:Int->Int->V):R2:=λx y H Q=>∃ i j,x = .int i/\y = .int j/\C i j/\Q (g i j) H
def o8 (g:Int->Int->V):R2:=λx y H Q=>∃ i j,x = .int i/\y = .int j/\Q (g i j) H
def rU (g:Int->V):V->Hp->VK->Prop:=λx H Q=>∃ i,x = .int i/\Q (g i) H
section
variable {X:Cx} {a b c:Expr} {ta tb tc:TE} {pos:Pos}
theorem vH (ha:PE X a ta) (hb:PE X b tb) {pins:List (Addr×Obj)} {s:Shared} {σ:St} {H:Hp} {R:V->V->Hp->Prop} (I:Inv X pins σ H s)
 (h:ta σ H λx H1=>tb σ H1 λy H2=>R x y H2) {Q:Value->Shared->Prop} {f:Value->Value->Sem Value}
 (hf:∀ v u s2 x y H2,Inv X pins σ H2 s2->RelV x v->RelV y u->R x y H2->wpAny (model X.prog X.w) X.A (f v u) Q X.xe s2) :
 wpAny (model X.prog X.w) X.A (eval a X.env) (λv s₁=>wpAny (model X.prog X.w) X.A (eval b X.env) (λu s₂=>wpAny (model X.prog X.w) X.A (f v u) Q X.xe s₂) X.xe s₁) X.xe s:=by
 refine bL (ha pins s σ H _ I h) λv s1 ⟨x,H1,I1,r1,q1⟩=>?_
 refine bL (hb pins s1 σ H1 _ I1 q1) λu s2 ⟨y,H2,I2,r2,q2⟩=>?_
 exact hf v u s2 x y H2 I2 r1 r2 q2
theorem Wj {op:Operator} {r:R2} (ho:eH X (binaryOp op) r) (ha:PE X a ta) (hb:PE X b tb):PE X (.BinOp a op b pos) (Fj r ta tb):=by
 intro pins s σ H Q I h
 exact wpAny_BinOp (vH ha hb I h λv u s2 x y H2 I2 rx ry q=>ho pins s2 σ H2 x y v u Q I2 rx ry q)
theorem Vn {op:UnaryOp} {r:V->Hp->VK->Prop} (ho:NQ X (unaryOp op) r) (ha:PE X a ta):PE X (.UnaryOp op a pos) (tUn r ta):=by
 intro pins s σ H Q I h
 exact UnaryOp_ (bL (ha pins s σ H _ I h) λv s1 ⟨x,H1,I1,r1,q1⟩=>ho pins s1 σ H1 x v Q I1 r1 q1)
theorem zZ {f:Value->Value->Sem Value} {C:Int->Int->Prop} {g:Int->Int->Int}
 (rule:∀ (i j:Int) (t u:Tok) (s:Shared) (Q:Value->Shared->Prop) (E:Value->Shared->Prop),C i j->Q (.int (g i j) s.toks) { s with toks:=s.toks+1 }->wpAny (model X.prog X.w) X.A (f (.int i t) (.int j u)) Q E s) :
 eH X f (rI C λi j => .int (g i j)):=by
 intro pins s σ H x y v u Q I rx ry h
 obtain ⟨i,j,rfl,rfl,hc,q⟩:=h
 obtain ⟨t,rfl⟩:=rx
 obtain ⟨t',rfl⟩:=ry
 exact rule i j t t' s _ _ hc ⟨.int (g i j),H,I.tok _,⟨_,rfl⟩,q⟩
theorem zY {f:Value->Value->Sem Value} {g:Int->Int->Int}
 (rule:∀ (i j:Int) (t u:Tok) (s:Shared) (Q:Value->Shared->Prop) (E:Value->Shared->Prop),Q (.int (g i j) s.toks) { s with toks:=s.toks+1 }->wpAny (model X.prog X.w) X.A (f (.int i t) (.int j u)) Q E s) :
 eH X f (o8 λi j => .int (g i j)):=by
 intro pins s σ H x y v u Q I rx ry h
 obtain ⟨i,j,rfl,rfl,q⟩:=h
 obtain ⟨t,rfl⟩:=rx
 obtain ⟨t',rfl⟩:=ry
 exact rule i j t t' s _ _ ⟨.int (g i j),H,I.tok _,⟨_,rfl⟩,q⟩
theorem lO {f:Value->Value->Sem Value} {g:Int->Int->Bool}
 (rule:∀ (i j:Int) (t u:Tok) (s:Shared) (Q:Value->Shared->Prop) (E:Value->Shared->Prop),Q (.bool (g i j)) s->wpAny (model X.prog X.w) X.A (f (.int i t) (.int j u)) Q E s) :
 eH X f (o8 λi j => .bl (g i j)):=by
 intro pins s σ H x y v u Q I rx ry h
 obtain ⟨i,j,rfl,rfl,q⟩:=h
 obtain ⟨t,rfl⟩:=rx
 obtain ⟨t',rfl⟩:=ry
 exact rule i j t t' s _ _ ⟨.bl (g i j),H,I,rfl,q⟩
def Bu (i j:Int):Prop:=0<=j/\j<=1000000/\i.natAbs<2 ^ 64
theorem Xj:eH X (binaryOp .Add) (o8 λi j => .int (i+j)):=zY λ_ _ _ _ _ _ _ q=>add_int q
theorem Xo:eH X (binaryOp .Sub) (o8 λi j => .int (i - j)):=zY λ_ _ _ _ _ _ _ q=>sub_int q
theorem Z2:eH X (binaryOp .Mod) (rI (λ_ j=>j≠0) λi j => .int (i.fmod j)):=zZ λ_ _ _ _ _ _ _ hc q=>mod_int' hc q
theorem Xm:eH X (binaryOp .Pow) (rI Bu λi j => .int (i ^ j.toNat)):=zZ λ_ _ _ _ _ _ _ hc q=>pow_int_small hc.1 hc.2.1 hc.2.2 q
theorem Xn:eH X (binaryOp .LShift) (rI Bu λi j => .int (i*2 ^ j.toNat)):=zZ λ_ _ _ _ _ _ _ hc q=>lshift_int_small hc.1 hc.2.1 hc.2.2 q
theorem unI {f:Value->Sem Value} {g:Int->Int}
 (rule:∀ (i:Int) (t:Tok) (s:Shared) (Q:Value->Shared->Prop) (E:Value->Shared->Prop),Q (.int (g i) s.toks) { s with toks:=s.toks+1 }->wpAny (model X.prog X.w) X.A (f (.int i t)) Q E s) :
 NQ X f (rU λi => .int (g i)):=by
 intro pins s σ H x v Q I rx h
 obtain ⟨i,rfl,q⟩:=h
 obtain ⟨t,rfl⟩:=rx
 exact rule i t s _ _ ⟨.int (g i),H,I.tok _,⟨_,rfl⟩,q⟩
theorem X7:NQ X (unaryOp .USub) (rU λi => .int (-i)):=unI λ_ _ _ _ _ q=>neg_int q
end
section
variable {X:Cx} {a b c:Expr} {ta tb tc:TE} {pos:Pos}
theorem CG {pins:List (Addr×Obj)} {σ:St} {H:Hp} {s:Shared} {Q:VK} {k k':Bool} (I:Inv X pins σ H s) (q:Q (.bl k) H) (e:k=k'):EP X pins σ Q (.bool k') s:=by
 subst e
 exact ⟨.bl k,H,I,rfl,q⟩
theorem Wb:eH X (compareOp .Lt) (o8 λi j => .bl (decide (i<j))):=lO λ_ _ _ _ _ _ _ q=>lt_int q
theorem Wa:eH X (compareOp .LtE) (o8 λi j => .bl (decide (i<=j))):=lO λ_ _ _ _ _ _ _ q=>le_int q
theorem V9:eH X (compareOp .Gt) (o8 λi j => .bl (decide (j<i))):=lO λ_ _ _ _ _ _ _ q=>gt_int q
theorem V8:eH X (compareOp .GtE) (o8 λi j => .bl (decide (j<=i))):=lO λ_ _ _ _ _ _ _ q=>ge_int q
theorem Xl:eH X (compareOp .Is) (λx y H Q=>y = .non/\Q (.bl (decide (x = .non))) H):=by
 intro pins s σ H x y v u Q I rx ry h
 obtain ⟨rfl,q⟩:=h
 cases ry
 refine is_none_gen (CG I q ?_)
 cases x<;>first
  | (cases rx;rfl)
  | (obtain ⟨t,rfl⟩:=rx;rfl)
theorem Z4:eH X (compareOp .IsNot) (λx y H Q=>y = .non/\Q (.bl (!decide (x = .non))) H):=by
 intro pins s σ H x y v u Q I rx ry h
 obtain ⟨rfl,q⟩:=h
 cases ry
 refine isnot_none_gen (CG I q ?_)
 cases x<;>first
  | (cases rx;rfl)
  | (obtain ⟨t,rfl⟩:=rx;rfl)
theorem Od (b:Expr) {op:CmpOp} (h:op ≠ .In:=by decide) (h2:op ≠ .NotIn:=by decide):behindInMarks op b=false:=by
 have e1:(op==CmpOp.In)=false:=by cases op<;>first | rfl | exact absurd rfl h
 have e2:(op==CmpOp.NotIn)=false:=by cases op<;>first | rfl | exact absurd rfl h2
 cases b<;>simp [behindInMarks,e1,e2]
theorem Zi {op:CmpOp} {r:R2} (ho:eH X (compareOp op) r) (ha:PE X a ta) (hb:PE X b tb) (hm:behindInMarks op b=false):PE X (.Compare a [op] [b] pos) (Fj r ta tb):=by
 intro pins s σ H Q I h
 exact wpAny_Compare1 (vH ha hb I h λv u s2 x y H2 I2 rx ry q=>ho pins s2 σ H2 x y v u Q I2 rx ry q) hm
def zj (t:TE):TT:=λσ H Q=>t σ H λx H'=>∃ k,x = .bl k/\Q k H'
theorem zm9 {op:CmpOp} {r:R2} (ho:eH X (compareOp op) r) (ha:PE X a ta) (hb:PE X b tb) (hm:behindInMarks op b=false):PT X (.Compare a [op] [b] pos) (zj (Fj r ta tb)):=by
 intro pins s σ H Q I h
 refine wpAny_isTrue_Compare1 (bL (ha pins s σ H _ I h) λv s1 ⟨x,H1,I1,r1,q1⟩=>bL (hb pins s1 σ H1 _ I1 q1) λu s2 ⟨y,H2,I2,r2,q2⟩ =>
  bL (ho pins s2 σ H2 x y v u _ I2 r1 r2 q2) λc s3 ⟨z,H3,I3,r3,k,e,q3⟩=>?_) hm
 subst e
 cases r3
 exact wpAny_truthy_bool ⟨H3,I3,q3⟩
def vK (K:PySem.W.Frag) (x:V) (H:Hp) (k:Bool):Prop :=
 match x with
 | .non=>k=false
 | .bl b=>k=b
 | .int i=>k=(i != 0)
 | .str y=>y.length<=sizeLine/\k=((y.length:Int) != 0)
 | .byt y=>y.size<=sizeLine/\k=((y.size:Int) != 0)
 | .ref p=>(∃ xs,dh K H p xs/\k = !xs.isEmpty)\/(∃ xs,dF K H p xs/\k = !xs.isEmpty)\/∃ kvs,H p=some (.dK kvs)/\k = !kvs.isEmpty
 | _=>False
theorem ziZ {κ:Type} {kvs:List (κ×V)} {vs:List (κ×Value)} (r:KV kvs vs):(!vs.isEmpty) = !kvs.isEmpty:=by
 cases r<;>rfl
theorem TJ {xs:List V} {its:List Value} (r:Vals xs its):(!its.toArray.isEmpty) = !xs.isEmpty:=by
 cases r<;>simp
theorem v7:(sizeLine:Nat)<2 ^ 63:=by rw [sizeLine_eq];decide
theorem X5:NT X (λx H Q=>∃ k,vK X.K x H k/\Q k H):=by
 intro pins s σ H x v Q I rx h
 obtain ⟨k,e,q⟩:=h
 have hl:=v7
 have hs:sizeLine=16777216:=sizeLine_eq
 cases x with
 | non =>
  cases rx
  have e':k=false:=e
  subst e'
  exact truthy_none ⟨H,I,q⟩
 | bl b =>
  cases rx
  have e':k=b:=e
  subst e'
  exact wpAny_truthy_bool ⟨H,I,q⟩
 | int i =>
  obtain ⟨t,rfl⟩:=rx
  have e':k=(i != 0):=e
  subst e'
  exact PySem.P.truthy_int ⟨H,I,q⟩
 | str y =>
  obtain ⟨t,rfl⟩:=rx
  obtain ⟨hy,e'⟩:y.length<=sizeLine/\k=((y.length:Int) != 0):=e
  subst e'
  exact PySem.P.truthy_str (by omega) ⟨H,I.tok _,q⟩
 | byt y =>
  obtain ⟨t,rfl⟩:=rx
  obtain ⟨hy,e'⟩:y.size<=sizeLine/\k=((y.size:Int) != 0):=e
  subst e'
  exact PySem.W.truthy_bytes (by omega) ⟨H,I.tok _,q⟩
 | ref p =>
  cases rx
  have e':(∃ xs,dh X.K H p xs/\k = !xs.isEmpty)\/(∃ xs,dF X.K H p xs/\k = !xs.isEmpty)\/∃ kvs,H p=some (.dK kvs)/\k = !kvs.isEmpty:=e
  rcases e' with ⟨xs,hx,e'⟩ | ⟨xs,hx,e'⟩ | ⟨kvs,hx,e'⟩
  ·subst e'
   obtain ⟨its,r,pl,hz⟩:=I.list hx
   have hlen:=r.length
   exact wpAny_truthy_list pl.isList (by simp only [dH];omega) ⟨H,I.tok _,by rw [TJ r];exact q⟩
  ·subst e'
   obtain ⟨its,r,pl,hz⟩:=I.tuple hx
   have hlen:=r.length
   exact truthy_tuple pl (by simp only [dH];omega) ⟨H,I.tok _,by rw [TJ r];exact q⟩
  ·subst e'
   obtain ⟨hz,hS,vs,r,m⟩:kvs.length<=sizeLine/\(p==sysModules)=false/\∃ vs,KV kvs vs/\s.heap.DictOf (GK X.prog X.w) p vs:=I.hok p _ hx
   have hlen:kvs.length=vs.length:=Paired.length r
   exact wpAny_truthy_dict hS m (by omega) ⟨H,I.tok _,by rw [ziZ r];exact q⟩
 | _=>exact (show False from e).elim
theorem zli (ha:PE X a ta) (he:∀ whole,isTrue a X.env whole=(do let v <-whole;standAt a.pos;holding [v] (truthy v))) :
 PT X a (λσ H Q=>ta σ H λx H'=>∃ k,vK X.K x H' k/\Q k H'):=by
 intro pins s σ H Q I h
 exact isTrue_plain (bL (ha pins s σ H _ I h) λv s1 ⟨x,H1,I1,r1,q1⟩=>X5 pins s1 σ H1 x v Q I1 r1 q1) (he _)
theorem ziN:eH X (binaryOp .Add) (λx y H Q=>∃ i j,x = .str i/\y = .str j/\i.length+j.length<=sizeLine/\Q (.str (i++j)) H):=by
 intro pins s σ H x y v u Q I rx ry h
 obtain ⟨i,j,rfl,rfl,hz,q⟩:=h
 obtain ⟨t,rfl⟩:=rx
 obtain ⟨t',rfl⟩:=ry
 exact add_str (λt' tk=>⟨.str (i++j),H,I.tok _,⟨_,rfl⟩,q⟩) hz
theorem oX {x:V} {us:List Value} (r:Vals [x] us):∃ u,us=[u]/\RelV x u:=by
 cases r with
 | cons r1 r2=>cases r2;exact ⟨_,rfl,r1⟩
theorem Gs {x y:V} {us:List Value} (r:Vals [x,y] us):∃ u w',us=[u,w']/\RelV x u/\RelV y w':=by
 cases r with
 | cons r1 r2 =>
  cases r2 with
  | cons r3 r4=>cases r4;exact ⟨_,_,rfl,r1,r3⟩
theorem zlU:gG X (.builtin "abs") (λxs H Q=>∃ i,xs=[.int i]/\Q (.int (if i<0 then -i else i)) H):=by
 intro pins s σ H xs us Q I r h
 obtain ⟨i,rfl,q⟩:=h
 obtain ⟨u,rfl,t,rfl⟩:=oX r
 exact call_abs_int λu tk=>⟨.int (if i<0 then -i else i),H,I.tok _,⟨_,rfl⟩,q⟩
theorem zkI (hc:X.calm=true):gG X (.builtin "max") (λxs H Q=>∃ i j,xs=[.int i,.int j]/\Q (.int (if j>i then j else i)) H):=by
 intro pins s σ H xs us Q I r h
 obtain ⟨i,j,rfl,q⟩:=h
 obtain ⟨u,w',rfl,⟨t,rfl⟩,⟨t',rfl⟩⟩:=Gs r
 refine max_two_ints (I.ok.hd hc) λh' tk k=>⟨_,H,I.kept k,?_,q⟩
 by_cases hj:j>i
 ·rw [if_pos hj,if_pos hj];exact ⟨_,rfl⟩
 ·rw [if_neg hj,if_neg hj];exact ⟨_,rfl⟩
theorem zkH (hc:X.calm=true):gG X (.builtin "min") (λxs H Q=>∃ i j,xs=[.int i,.int j]/\Q (.int (if j<i then j else i)) H):=by
 intro pins s σ H xs us Q I r h
 obtain ⟨i,j,rfl,q⟩:=h
 obtain ⟨u,w',rfl,⟨t,rfl⟩,⟨t',rfl⟩⟩:=Gs r
 refine min_two_ints (I.ok.hd hc) λh' tk k=>⟨_,H,I.kept k,?_,q⟩
 by_cases hj:j<i
 ·rw [if_pos hj,if_pos hj];exact ⟨_,rfl⟩
 ·rw [if_neg hj,if_neg hj];exact ⟨_,rfl⟩
end
structure jU (h:Heap) (x dx C:Addr) (mA:Str->Option Value):Prop where
 obj:h.get? x=some (PySem.W.instObj C dx)
 ns:h.Ns1 dx mA
 ne:dx≠x
theorem zjZ {h:Heap} {dx:Addr} {mA:Str->Option Value} (n:h.Ns1 dx mA):∃ od,h.get? dx=some od/\∀ name,PySem.W.lookIn name od=some (mA name):=by
 obtain ⟨o,es,ep,ho,hd,hk,_,hm⟩:=n
 refine ⟨o,ho,λname=>?_⟩
 have e:=hm name
 unfold nsFind findBy at e
 rw [<-Array.find?_toList] at e
 unfold PySem.W.lookIn
 rw [hd]
 dsimp only
 split
 ·rename_i y q
  rw [q] at e
  exact congrArg some e
 ·rename_i q
  rw [q] at e
  have a:es.toList.any (·.refKey)=false:=by
   rw [List.any_eq_false]
   intro y hy
   obtain ⟨z,t,hkey⟩:=hk y (Array.mem_toList_iff.mp hy)
   simp [DictEntry.refKey,hkey]
  have a':¬ es.toList.any (·.refKey)=true:=by rw [a];exact fQ
  rw [if_neg a']
  exact congrArg some e
theorem jU.look {h:Heap} {x dx C:Addr} {mA:Str->Option Value} (I:jU h x dx C mA):∃ od,PySem.W.InstAt h x (PySem.W.instObj C dx) C (some od)/\∀ name,PySem.W.lookIn name od=some (mA name) :=
 let ⟨od,ho,hl⟩:=zjZ I.ns
 ⟨od,⟨I.obj,rfl,rfl,ho⟩,hl⟩
section
variable {prog:Program} {w:World} {A:Around} {E:Value->Shared->Prop} {s:Shared} {K:PySem.W.Frag} {x dx C f:Addr} {mA:Str->Option Value} {name:Str} {v:Value}
theorem ZC {expr:Bool} {Q:Value->Shared->Prop} (X:K.In s.heap) (I:jU s.heap x dx C mA) (hg:PySem.W.plainGet K C name=true) (hh:PySem.W.hasDictIn K C=true)
 (ha:PySem.W.findIn K (.ref C) name=some none) (hv:mA name=some v) (hv':PySem.W.handedIn v=true) (h:Q v { s with toks:=s.toks+1 }) :
 wpAny (model prog w) A (getAttr (.ref x) name expr) Q E s:=by
 obtain ⟨od,J,hl⟩:=I.look
 exact PySem.W.get_value X J (PySem.W.plainGet_of hg).1 (PySem.W.findObj_own hh ha rfl (by rw [hl,hv])) hv' h
theorem zlK {pl:Sem Bool} {Q:Value×List Value->Shared->Prop} (X:K.In s.heap) (I:jU s.heap x dx C mA) (hg:PySem.W.plainGet K C name=true)
 (hf:PySem.W.findIn K (.ref C) name=some (some (.ref f))) (ht:PySem.W.isFn K (.ref f)=true) (hv:mA name=none) (h:Q (.ref f,[.ref x]) s) :
 wpAny (model prog w) A (getMethod (.ref x) name pl) Q E s:=by
 obtain ⟨od,J,hl⟩:=I.look
 exact PySem.W.method_fn X J (PySem.W.plainGet_of hg).1 (PySem.W.plainGet_of hg).2 hf (beq_iff_eq.mp ht) (by show (PySem.W.lookIn name od).map (·.isSome)=some false;rw [hl,hv];rfl) h
theorem zmX {ns:List Str} {Q:Unit->Shared->Prop} (X:K.In s.heap) (I:jU s.heap x dx C mA)
 (hs:PySem.W.findIn K (.ref C) "__setattr__" = some (some (.builtin "object.__setattr__"))) (hp:PySem.W.plainOver K C=true) (ht:PySem.W.takerIn K C name=some none) (hh:PySem.W.hasDictIn K C=true)
 (hw:PySem.Within mA ns) (hsz:ns.length<=sizeLine)
 (h:∀ h',jU h' x dx C (λy=>if y=name then some v else mA y)->Heap.SameBut dx s.heap h'->Q () { s with heap:=h',toks:=s.toks+2 }) :
 wpAny (model prog w) A (setAttr (.ref x) name v) Q E s:=by
 obtain ⟨od,J,hl⟩:=I.look
 refine PySem.W.set_plain X J hs (PySem.W.osa_open (s:={ s with toks:=s.toks+1 }) (r:=none) X J hp ht λb=>?_)
 obtain ⟨cd,hc,hd'⟩:=PySem.W.any_some hh
 have hx:s.heap.get? x=some ⟨.ref C,some dx,.plain,#[]⟩:=I.obj
 refine aN (bW (aN (aN (wpAny_loadPart hx (aN (PySem.W.Looks.here (s:={ s with toks:=s.toks+1 }) (PySem.W.looks_clsIn X hc) ?_))))))
 rw [hd']
 refine bW (a:=some dx) (aN (bW (aN ?_)))
 refine wpAny_nsSet1 (s:={ s with toks:=s.toks+1 }) I.ns λh' hn2 hs2=>?_
 obtain ⟨oD,esD,epD,hoD,hdD,hcD⟩:=hn2.count (PySem.Within.cons name v hw)
 refine aN (wpAny_lookBehind hoD (by rw [hdD];exact pastItsLine_dict (Nat.le_trans hcD (by rw [iG];omega))) ?_)
 exact bW (h _ ⟨(hs2.2 _ (Ne.symm I.ne)).trans I.obj,hn2,I.ne⟩ hs2)
theorem zlB {R:Result->Shared->Prop} {vs:List Value} {kw:List (Str×Value)} (X:K.In s.heap) (hm:PySem.W.makesIn K C=true)
 (hi:PySem.W.findIn K (.ref C) "__init__" = some (some (.ref f))) (hf:PySem.W.typeIn K (.ref f)=some (.type "function"))
 (h:codeAny (model prog w) (A.under (.builtin "type.__call__" ⟨.ref C::vs,kw⟩)) (.call (.ref f) ⟨.ref (s.heap.objs.size+1)::vs,kw⟩) (PySem.W.InitBack (s.heap.objs.size+1) R)
  { s with heap:=(s.heap.push PySem.W.emptyDict).push (PySem.W.instObj C s.heap.objs.size) }) :
 codeAny (model prog w) A (.call (.ref C) ⟨vs,kw⟩) R s:=by
 obtain ⟨hh,g,d,t,os⟩:=s
 exact PySem.W.make_core (PySem.W.makes_of X hm) (PySem.W.looks_findIn X hi) (λself=>PySem.W.bind_fn X self hf) (.inl rfl) h
end
def iR (f:Str) (v:V):List (Str×V)->List (Str×V)
 | []=>[(f,v)]
 | (g,x)::r=>if g=f then (g,v)::r else (g,x)::iR f v r
theorem Uc (f g:Str) (v:V):∀ fs:List (Str×V),(iR f v fs).lookup g=if g=f then some v else fs.lookup g
 | []=>by
  show List.lookup g [(f,v)]=_
  by_cases h:g=f
  ·have hb:(g==f)=true:=beq_iff_eq.mpr h
   simp only [List.lookup,hb,if_pos h]
  ·have hb:(g==f)=false:=beq_eq_false_iff_ne.mpr h
   simp only [List.lookup,hb,if_neg h]
 | (k,x)::r=>by
   have ih:=Uc f g v r
   rw [show iR f v ((k,x)::r)=(if k=f then (k,v)::r else (k,x)::iR f v r) from rfl]
   by_cases hk:k=f
   ·rw [if_pos hk]
    by_cases h:g=k
    ·have hb:(g==k)=true:=beq_iff_eq.mpr h
     simp only [List.lookup,hb,if_pos (h.trans hk)]
    ·have hb:(g==k)=false:=beq_eq_false_iff_ne.mpr h
     simp only [List.lookup,hb,if_neg (λe:g=f=>h (e.trans hk.symm))]
   ·rw [if_neg hk]
    by_cases h:g=k
    ·have hb:(g==k)=true:=beq_iff_eq.mpr h
     simp only [List.lookup,hb,if_neg (λe:g=f=>hk (h.symm.trans e))]
    ·have hb:(g==k)=false:=beq_eq_false_iff_ne.mpr h
     simp only [List.lookup,hb]
     exact ih
theorem Jr (f:Str) (v:V):∀ fs:List (Str×V),f∈(iR f v fs).map (·.1)/\∀ g,g∈fs.map (·.1)->g∈(iR f v fs).map (·.1)
 | []=>⟨by simp [iR],λg h=>by simp at h⟩
 | (k,x)::r=>by
   obtain ⟨i1,i2⟩:=Jr f v r
   rw [show iR f v ((k,x)::r)=(if k=f then (k,v)::r else (k,x)::iR f v r) from rfl]
   by_cases hk:k=f
   ·rw [if_pos hk]
    subst hk
    exact ⟨by simp,λg h=>by simpa using h⟩
   ·rw [if_neg hk]
    refine ⟨?_,λg h=>?_⟩
    ·rw [iM]
     exact cM _ i1
    ·rw [iM] at h ⊢
     rcases List.mem_cons.mp h with e | e
     ·exact List.mem_cons.mpr (.inl e)
     ·exact cM _ (i2 g e)
theorem Ub (f:Str) (v:V):∀ fs:List (Str×V),(iR f v fs).length<=fs.length+1
 | []=>by simp [iR]
 | (k,x)::r=>by
   have ih:=Ub f v r
   rw [show iR f v ((k,x)::r)=(if k=f then (k,v)::r else (k,x)::iR f v r) from rfl]
   by_cases hk:k=f
   ·rw [if_pos hk,iG,iG];omega
   ·rw [if_neg hk,iG,iG];omega
theorem iD.some_of {v:V} {o:Option Value} (r:iD (some v) o):∃ u,o=some u/\RelV v u:=by
 cases o with
 | none=>exact (show False from r).elim
 | some u=>exact ⟨u,rfl,r⟩
theorem iD.none_of {o:Option Value} (r:iD none o):o=none:=by
 cases o with
 | none=>rfl
 | some u=>exact (show False from r).elim
theorem zkj {v:V} {u:Value} (r:RelV v u):PySem.W.handedIn u=true:=by
 cases v with
 | non=>cases (show u=Value.none from r);rfl
 | bl b=>cases (show u=Value.bool b from r);rfl
 | int i=>obtain ⟨t,e⟩:=(show ∃ t,u=Value.int i t from r);cases e;rfl
 | str x=>obtain ⟨t,e⟩:=(show ∃ t,u=Value.str x t from r);cases e;rfl
 | byt b=>obtain ⟨t,e⟩:=(show ∃ t,u=Value.bytes b t from r);cases e;rfl
 | flt b=>obtain ⟨t,e⟩:=(show ∃ t,u=Value.float b t from r);cases e;rfl
 | ref a=>cases (show u=Value.ref a from r);rfl
 | ty n=>cases (show u=Value.type n from r);rfl
section
variable {P:Program} {w:World} {H H':Hp} {h h':Heap} {a C dx:Addr} {fs fs':List (Str×V)}
theorem Dg (hok:fP P w H h) (e:H a=some (.ins C dx fs)):∃ mA,jU h a dx C mA/\(∀ f,iD (fs.lookup f) (mA f))/\PySem.Within mA (fs.map (·.1))/\fs.length<=1000/\H dx=some (.own a):=by
 obtain ⟨d,z,ne,ob,mA,n,r,q⟩:=(show bO P w H h a (.ins C dx fs) from hok a _ e)
 exact ⟨mA,⟨ob,n,ne⟩,r,q,z,d⟩
end
structure jz (K:PySem.W.Frag) (C:Addr):Prop where
 pg:PySem.W.plainGet K C Str.empty=true
 hd:PySem.W.hasDictIn K C=true
 po:PySem.W.plainOver K C=true
 sa:PySem.W.findIn K (.ref C) "__setattr__" = some (some (.builtin "object.__setattr__"))
theorem jz.get {K:PySem.W.Frag} {C:Addr} (c:jz K C) (f:Str):PySem.W.plainGet K C f=true:=c.pg
def dI (K:PySem.W.Frag) (C:Addr) (f:Str):Prop:=PySem.W.findIn K (.ref C) f=some none
theorem dI.taker {K:PySem.W.Frag} {C:Addr} {f:Str} (n:dI K C f):PySem.W.takerIn K C f=some none:=by
 unfold PySem.W.takerIn
 rw [show PySem.W.findIn K (.ref C) f=some none from n]
 rfl
structure Meth (K:PySem.W.Frag) (C:Addr) (m:Str) (f:Addr):Prop where
 at_:PySem.W.findIn K (.ref C) m=some (some (.ref f))
 fn:PySem.W.isFn K (.ref f)=true
 kp:PySem.W.keepIn K (.ref f)=true
section
variable {X:Cx} {pins:List (Addr×Obj)} {σ:St} {H:Hp} {s:Shared} {a C dx:Addr} {fs:List (Str×V)} {f:Str} {v:V} {A:Around} {E:Value->Shared->Prop}
theorem zi0 {b:Bool} {Q:Value->Shared->Prop} (I:Inv X pins σ H s) (e:H a=some (.ins C dx fs)) (c:jz X.K C) (n:dI X.K C f) (l:fs.lookup f=some v)
 (h:∀ u s',Inv X pins σ H s'->RelV v u->Q u s'):wpAny (model X.prog X.w) A (getAttr (.ref a) f b) Q E s:=by
 obtain ⟨mA,O,r,_,_,_⟩:=Dg I.hok e
 obtain ⟨u,hu,ru⟩:=iD.some_of (v:=v) (o:=mA f) (by rw [<-l];exact r f)
 exact ZC I.kIn O (c.get f) c.hd n hu (zkj ru) (h u _ (I.tok _) ru)
theorem Tz {m:Str} {g:Addr} {pl:Sem Bool} {Q:Value×List Value->Shared->Prop} (I:Inv X pins σ H s) (e:H a=some (.ins C dx fs)) (c:jz X.K C) (k:Meth X.K C m g) (l:fs.lookup m=none)
 (h:Q (.ref g,[.ref a]) s):wpAny (model X.prog X.w) A (getMethod (.ref a) m pl) Q E s:=by
 obtain ⟨mA,O,r,_,_,_⟩:=Dg I.hok e
 have hn:mA m=none:=iD.none_of (by rw [<-l];exact r m)
 exact zlK I.kIn O (c.get m) k.at_ k.fn hn h
theorem ziK {y:V} {u:Value} {Q:Unit->Shared->Prop} (I:Inv X pins σ H s) (e:H a=some (.ins C dx fs)) (c:jz X.K C) (n:dI X.K C f) (hl:fs.length<1000) (ry:RelV y u)
 (h:∀ s',Inv X pins σ (upd H a (.ins C dx (iR f y fs))) s'->Q () s'):wpAny (model X.prog X.w) A (setAttr (.ref a) f u) Q E s:=by
 obtain ⟨mA,O,r,wi,_,ho⟩:=Dg I.hok e
 have hz:(fs.map (·.1)).length<=sizeLine:=by rw [cQ,sizeLine_eq];omega
 refine zmX I.kIn O c.sa c.po n.taker c.hd wi hz λh' O' sb=>h _ ?_
 have hd:∃ o,h'.get? dx=some o:=let ⟨o,_,_,e',_⟩:=O'.ns;⟨o,e'⟩
 refine I.write (x:=a) (e:=dx) (by rw [e];exact True.intro) (.inr ho) (λb q hb z=>(sb.2 b hb).trans z) hd ?_
 refine ⟨by rw [bY O.ne];exact ho,?_,O.ne,O'.obj,_,O'.ns,λg=>?_,λg hg=>?_⟩
 ·have:=Ub f y fs;omega
 ·show iD ((iR f y fs).lookup g) (if g=f then some u else mA g)
  rw [Uc]
  by_cases q:g=f
  ·rw [if_pos q,if_pos q];exact ry
  ·rw [if_neg q,if_neg q];exact r g
 ·by_cases q:g=f
  ·rw [q];exact (Jr f y fs).1
  ·refine (Jr f y fs).2 g (wi g λz=>hg ?_)
   show (if g=f then some u else mA g)=none
   rw [if_neg q];exact z
theorem Inv.made (I:Inv X pins σ H s):Inv X pins σ (upd (upd H s.heap.objs.size (.own (s.heap.objs.size+1))) (s.heap.objs.size+1) (.ins C s.heap.objs.size []))
 { s with heap:=(s.heap.push PySem.W.emptyDict).push (PySem.W.instObj C s.heap.objs.size) }:=by
 have e1:(s.heap.push PySem.W.emptyDict).get? s.heap.objs.size=some PySem.W.emptyDict:=fZ s.heap rfl
 have e2:((s.heap.push PySem.W.emptyDict).push (PySem.W.instObj C s.heap.objs.size)).get? (s.heap.objs.size+1)=some (PySem.W.instObj C s.heap.objs.size):=by
  have:=fZ (s.heap.push PySem.W.emptyDict) (o:=PySem.W.instObj C s.heap.objs.size) rfl
  rwa [Heap.size_push] at this
 have e3:(s.heap.push PySem.W.emptyDict).Ns s.heap.objs.size (λ_=>none):=⟨PySem.W.emptyDict,#[],_,e1,rfl,(λe he=>absurd he (by simp)),λ_=>rfl⟩
 have I1:=I.laid (a:=s.heap.objs.size) (o := .own (s.heap.objs.size+1)) (h':=s.heap.push PySem.W.emptyDict) (t':=s.toks) (λb u q=>c7 _ q) (bR _) ⟨_,e1⟩
 refine I1.laid (a:=s.heap.objs.size+1) (o := .ins C s.heap.objs.size []) (t':=s.toks) (λb u q=>c7 _ q) (Nat.le_of_eq (Heap.size_push _ _)) ?_
 have ne:s.heap.objs.size≠s.heap.objs.size+1:=dw (Nat.lt_succ_self _)
 refine ⟨by rw [bY ne,eO],Nat.zero_le _,ne,e2,λ_=>none,(Heap.Ns1.of_empty e3).at λo q=>c7 _ q,λ_=>True.intro,λy hy=>absurd rfl hy⟩
theorem X8 {prog:Program} {w:World} {env:Env} {e:Expr} {f:Str} {pos:Pos} {s:Shared} {Q:Value->Shared->Prop} (hb:attributeBase e f env (eval e env)=eval e env)
 (h:wpAny (model prog w) A (eval e env) (λo s₁=>wpAny (model prog w) A (getAttr o f true) Q E s₁) E s):wpAny (model prog w) A (eval (.Attribute e f pos) env) Q E s :=
 Attribute_any_ h (by rw [arm_eval_Attribute,hb])
end
def Lx (K:PySem.W.Frag) (ta:TE) (f:Str):TE:=λσ H Q=>ta σ H λx H1=>∃ a C dx fs v,x = .ref a/\H1 a=some (.ins C dx fs)/\jz K C/\dI K C f/\fs.lookup f=some v/\Q v H1
def Ma (K:PySem.W.Frag) (ta tv:TE) (f:Str):TS:=λD σ H=>tv σ H λy H1=>ta σ H1 λx H2=>∃ a C dx fs,x = .ref a/\H2 a=some (.ins C dx fs)/\jz K C/\dI K C f/\fs.length<1000 /\
 D.nx σ (upd H2 a (.ins C dx (iR f y fs)))
section
variable {X:Cx} {o e value:Expr} {f:Str} {pos pos' tpos:Pos} {ta tv:TE}
theorem Xu (he:PE X e ta) (hb:attributeBase e f X.env (eval e X.env)=eval e X.env):PE X (.Attribute e f pos) (Lx X.K ta f):=by
 intro pins s σ H Q I h
 refine X8 hb (bL (he pins s σ H _ I h) λu s1 ⟨x,H1,I1,rx,a,C,dx,fs,v,ex,ea,c,n,l,q⟩=>?_)
 subst ex
 obtain rfl:u=Value.ref a:=rx
 exact zi0 I1 ea c n l λu' s2 I2 ru=>⟨v,H1,I2,ru,q⟩
theorem Wy (ha:PE X o ta) (hv:PE X value tv) (hs:swapsWith value (some (.Attribute o f pos')) pos.line X.env=pure false):PS X (.Assign [.Attribute o f pos'] value pos) (Ma X.K ta tv f):=by
 intro pins s σ H D I h
 refine plainObj_wpAny_Assign_Attribute (bL (hv pins s σ H _ I h) λu s1 ⟨y,H1,I1,ry,q⟩=>bL (ha pins s1 σ H1 _ I1 q) λov s2 ⟨x,H2,I2,rx,a,C,dx,fs,ex,ea,c,n,l,q2⟩=>?_) hs
 subst ex
 obtain rfl:ov=Value.ref a:=rx
 exact ziK I2 ea c n l ry λs3 I3=>⟨σ,_,I3,q2⟩
end
section
variable {X:Cx} {pins:List (Addr×Obj)} {σ:St} {H:Hp} {s:Shared} {A:Around} {E:Value->Shared->Prop} {Q:Value->Shared->Prop} {c:Value} {b:Bool}
inductive lz (K:PySem.W.Frag) (H:Hp):V->Value->Prop where
 | non:lz K H .non (.type "NoneType")
 | bl (x:Bool):lz K H (.bl x) (.type "bool")
 | int (i:Int):lz K H (.int i) (.type "int")
 | str (x:Str):lz K H (.str x) (.type "str")
 | flt (x:UInt64):lz K H (.flt x) (.type "float")
 | lst {a:Addr} {xs:List V} (e:H a=some (.lst xs)):lz K H (.ref a) (.type "list")
 | frz {a:Addr} {o:Obj} {xs:List V} (e:H a=some (.frz o (.lst xs))):lz K H (.ref a) (.type "list")
 | tup {a:Addr} {xs:List V} (e:H a=some (.tup xs)):lz K H (.ref a) (.type "tuple")
 | dK {a:Addr} {kvs:List (Key×V)} (e:H a=some (.dK kvs)):lz K H (.ref a) (.type "dict")
 | dT {a:Addr} {kvs:List (List Key×V)} (e:H a=some (.dT kvs)):lz K H (.ref a) (.type "dict")
 | ins {a C dx:Addr} {fs:List (Str×V)} (e:H a=some (.ins C dx fs)) (cl:jz K C) (ha:PySem.W.findIn K (.ref C) "__class__" = some (some (.builtin "object.__class__")))
  (hn:PySem.W.specialIn K (.builtin "object.__class__") "__get__" = some (some (.builtin "getset_descriptor.__get__"))) (htk:PySem.W.takesIn K (.builtin "object.__class__")=some true)
  (hm:PySem.W.mroIn K C (.type "object")=some true):lz K H (.ref a) (.ref C)
theorem zkd {x:V} {u t:Value} (I:Inv X pins σ H s) (rx:RelV x u) (ty:lz X.K H x t) (e:PySem.W.kitOne X.K t c=some b) (h:∀ tk,Q (.bool b) { s with toks:=tk }) :
 wpAny (model X.prog X.w) A (call (.builtin "isinstance") [u,c]) Q E s:=by
 cases ty with
 | non=>cases (show u=Value.none from rx);exact PySem.W.kia_one PySem.W.kitx_none I.kIn True.intro e (λz=>nomatch z) h
 | bl y=>cases (show u=Value.bool y from rx);exact PySem.W.kia_one PySem.W.kitx_bool I.kIn True.intro e (λz=>nomatch z) h
 | int i=>obtain ⟨t,q⟩:=(show ∃ t,u=Value.int i t from rx);cases q;exact PySem.W.kia_one PySem.W.kitx_int I.kIn True.intro e (λz=>nomatch z) h
 | str y=>obtain ⟨t,q⟩:=(show ∃ t,u=Value.str y t from rx);cases q;exact PySem.W.kia_one PySem.W.kitx_str I.kIn True.intro e (λz=>nomatch z) h
 | flt y=>obtain ⟨t,q⟩:=(show ∃ t,u=Value.float y t from rx);cases q;exact PySem.W.kia_one PySem.W.kitx_float I.kIn True.intro e (λz=>nomatch z) h
 | @lst a xs ea =>
  cases (show u=Value.ref a from rx)
  obtain ⟨_,_,n,_,h1⟩:=(show bO X.prog X.w H s.heap a (.lst xs) from I.hok a _ ea)
  exact PySem.W.kia_one PySem.W.kitx_list I.kIn ⟨_,h1,rfl⟩ e (λz=>nomatch z) h
 | @frz a ob xs ea =>
  cases (show u=Value.ref a from rx)
  obtain ⟨_,_,_,n,_,h1⟩:=(show bO X.prog X.w H s.heap a (.frz ob (.lst xs)) from I.hok a _ ea)
  exact PySem.W.kia_one PySem.W.kitx_list I.kIn ⟨_,h1,rfl⟩ e (λz=>nomatch z) h
 | @tup a xs ea =>
  cases (show u=Value.ref a from rx)
  obtain ⟨_,_,_,p⟩:=(show bO X.prog X.w H s.heap a (.tup xs) from I.hok a _ ea)
  obtain ⟨o,h1,h2,_⟩:=p
  exact PySem.W.kia_one PySem.W.kitx_tuple I.kIn ⟨o,h1,h2⟩ e (λz=>nomatch z) h
 | @dK a kvs ea =>
  cases (show u=Value.ref a from rx)
  obtain ⟨_,_,vs,_,p⟩:=(show bO X.prog X.w H s.heap a (.dK kvs) from I.hok a _ ea)
  obtain ⟨o,es,ep,h1,h2,_⟩:=p
  exact PySem.W.kia_one PySem.W.kitx_dict I.kIn ⟨o,h1,h2.1⟩ e (λz=>nomatch z) h
 | @dT a kvs ea =>
  cases (show u=Value.ref a from rx)
  obtain ⟨_,_,xs,_,o,es,ep,h1,h2,_⟩:=(show bO X.prog X.w H s.heap a (.dT kvs) from I.hok a _ ea)
  exact PySem.W.kia_one PySem.W.kitx_dict I.kIn ⟨o,h1,h2.1⟩ e (λz=>nomatch z) h
 | @ins a C dx fs ea cl ha hn htk hm =>
  cases (show u=Value.ref a from rx)
  obtain ⟨mA,O,_⟩:=Dg I.hok ea
  obtain ⟨od,J,_⟩:=O.look
  exact PySem.W.kia_one (PySem.W.kitx_own (cl.get _) cl.hd ha hn htk hm) I.kIn J e (λz=>nomatch z) h
end
structure bG (k:Nat) (A:Around):Prop where
 hd:A.handled=none
 dp:A.depth+3*k+5<recursionLimit
 un:A.units+16*k+200<cLine
theorem bG.mono {j k:Nat} {A:Around} (r:bG k A) (h:j<=k):bG j A:=⟨r.hd,by have:=r.dp;omega,by have:=r.un;omega⟩
theorem bG.deeper {k:Nat} {A:Around} (r:bG (k+1) A) (env:Env):bG k (A.deeper env) :=
 ⟨r.hd,by have:=r.dp;show A.depth+1+3*k+5<_;omega,by have:=r.un;show A.units+3+16*k+200<_;omega⟩
theorem bG.in1 {k:Nat} {A:Around} (r:bG (k+1) A):bG k A.in1 :=
 ⟨r.hd,by have:=r.dp;show A.depth+3*k+5<_;omega,by have:=r.un;show A.units+1+16*k+200<_;omega⟩
theorem ziU {A:Around} {C:Addr} {us:List Value} {kw:List (Str×Value)}:(A.under (.builtin "type.__call__" ⟨.ref C::us,kw⟩)).depth=A.depth+1:=by
 first | rfl | simp [Around.under,Code.weight,Code.isCreation,Code.isGuard,Code.isCaller,Code.frames,Code.isFrame,guardIds]
theorem ziT {A:Around} {C:Addr} {us:List Value} {kw:List (Str×Value)}:(A.under (.builtin "type.__call__" ⟨.ref C::us,kw⟩)).units=A.units+1:=by
 first | rfl | simp [Around.under,Code.cUnits,Code.frames,Code.isFrame]
theorem bG.make {k:Nat} {A:Around} (r:bG (k+1) A) (C:Addr) (us:List Value) (kw:List (Str×Value)):bG k (A.under (.builtin "type.__call__" ⟨.ref C::us,kw⟩)) :=
 ⟨r.hd,by have:=r.dp;rw [ziU];omega,by have:=r.un;rw [ziT];omega⟩
theorem bG.depth {k:Nat} {A:Around} (r:bG k A):A.depth<recursionLimit:=by have:=r.dp;omega
theorem bG.units {k:Nat} {A:Around} (r:bG k A):A.units+64<cLine:=by have:=r.un;omega
def zu:TA:=λ_ H Q=>Q [] H
def zB (ta:TE) (tr:TA):TA:=λσ H Q=>ta σ H λx H1=>tr σ H1 λxs H2=>Q (x::xs) H2
section
variable {X:Cx} {e:Expr} {es:List Expr} {te:TE} {t:TA} {pos:Pos}
theorem Xp:PA X [] zu:=λ_ _ _ _ H Q I h=>Calls.spliced_nil ⟨[],H,I,.nil,h⟩
theorem Zf (ha:PE X e te) (hr:PA X es t) (hs:starEach (e::es) X.env=(false,eval e X.env)::starEach es X.env:=by rfl):PA X (e::es) (zB te t):=by
 intro pos pins s σ H Q I h
 rw [hs]
 show wpAny _ _ (spliced ((false,eval e X.env)::backTo pos (starEach es X.env))) _ _ s
 refine Calls.spliced_cons (bL (ha pins s σ H _ I h) λu s1 ⟨x,H1,I1,r1,q1⟩=>?_)
 exact bL (hr pos pins s1 σ H1 _ I1 q1) λus s2 ⟨xs,H2,I2,r2,q2⟩=>⟨x::xs,H2,I2,.cons r1 r2,q2⟩
def Li (t:TA):TE:=λσ H Q=>t σ H λxs H1=>xs.length<=sizeLine/\∀ p,H1 p=none->Q (.ref p) (upd H1 p (.tup xs))
def Lq (t:TA):TE:=λσ H Q=>t σ H λxs H1=>xs.length<=sizeLine/\∀ p,H1 p=none->Q (.ref p) (upd H1 p (.lst xs))
theorem Wr {x1} (h:PA X es t):PE X (.Tuple es x1 pos) (Li t):=by
 intro pins s σ H Q I hq
 refine wpAny_Tuple_spliced (bL (h pos pins s σ H _ I hq) λus s1 ⟨xs,H1,I1,r,z,q⟩=>⟨by rw [<-r.length];exact z,?_⟩)
 have hf:H1 s1.heap.objs.size=none:=I1.hok.fresh (bR _)
 refine ⟨.ref s1.heap.objs.size,upd H1 s1.heap.objs.size (.tup xs),I1.laid (t':=s1.toks) (λb u e=>c7 _ e) (bR _) ?_,rfl,q _ hf⟩
 exact ⟨z,us,r,⟨_,fZ _ rfl,rfl,_,rfl⟩⟩
theorem Wm (h:PA X es t):PE X (.List es pos) (Lq t):=by
 intro pins s σ H Q I hq
 refine wpAny_List_spliced (bL (h pos pins s σ H _ I hq) λus s1 ⟨xs,H1,I1,r,z,q⟩=>⟨by rw [<-r.length];exact z,?_⟩)
 have hf:H1 s1.heap.objs.size=none:=I1.hok.fresh (bR _)
 refine ⟨.ref s1.heap.objs.size,upd H1 s1.heap.objs.size (.lst xs),I1.laid (t':=s1.toks) (λb u e=>c7 _ e) (bR _) ?_,rfl,q _ hf⟩
 exact ⟨z,us,0,r,fZ _ rfl⟩
end
abbrev Sp:=List V->Hp->VK->XK->Prop
abbrev pG:=List Env->Hp->Shared->XK->Value->Shared->Prop
structure iY (P:Program) (w:World) (K:PySem.W.Frag) (mg:Str->Option Value) (base:Heap) (A:Around) (outer:List Env) (s:Shared) (H:Hp):Prop where
 frames:A.frames=some outer
 mod:Mod K mg base
 bs:∀ b o,base.get? b=some o->s.heap.get? b=some o/\H b=none
 bsz:base.objs.size<=s.heap.objs.size
 funs:s.heap.FunFrames base outer
 frf:∀ b∈frs outer,H b=none
 hok:fP P w H s.heap
 bare:AllBare s.gens
def CE (outer:List Env) (P:Program) (w:World) (H:Hp) (s:Shared) (Q:VK) (u:Value) (s':Shared):Prop :=
 ∃ v H',s'.os=s.os/\AllBare s'.gens/\Un (frs outer) [] H H' s.heap s'.heap/\fP P w H' s'.heap/\RelV v u/\Q v H'
def CR (CX:pG) (outer:List Env) (P:Program) (w:World) (H:Hp) (s:Shared) (Q:VK) (E:XK) (r:Result) (s':Shared):Prop :=
 match r with
 | .ok (.ret u)=>CE outer P w H s Q u s'
 | .ok _=>False
 | .error e=>CX outer H s E e s'
structure cN (P:Program) (w:World) (K:PySem.W.Frag) (mg:Str->Option Value) (base:Heap) (CX:pG) (k:Nat) (f:Addr) (fd:FuncData) (ps:List Str) (sp:Sp):Prop where
 len:∀ vs H Q E,sp vs H Q E->vs.length=ps.length
 run:∀ (A:Around) (outer:List Env) (s:Shared) (H:Hp) (args:Args) (us:List Value) (vs:List V) (Q:VK) (E:XK),bG k A->iY P w K mg base A outer s H->BindsTo s fd args (ps.zip us)->Vals vs us->sp vs H Q E ->
  codeAny (model P w) A (.call (.ref f) args) (CR CX outer P w H s Q E) s
theorem cN.mono {P:Program} {w:World} {K:PySem.W.Frag} {mg:Str->Option Value} {base:Heap} {CX:pG} {j k:Nat} {f:Addr} {fd:FuncData} {ps:List Str} {sp:Sp} (F:cN P w K mg base CX j f fd ps sp) (h:j<=k) :
 cN P w K mg base CX k f fd ps sp:=⟨F.len,λA outer s H args us vs Q E hr=>F.run A outer s H args us vs Q E (hr.mono h)⟩
theorem iY.make {P:Program} {w:World} {K:PySem.W.Frag} {mg:Str->Option Value} {base:Heap} {A:Around} {outer:List Env} {s:Shared} {H:Hp} (e:iY P w K mg base A outer s H) (C:Addr) (us:List Value) (kw:List (Str×Value)) :
 iY P w K mg base (A.under (.builtin "type.__call__" ⟨.ref C::us,kw⟩)) outer s H:=⟨by first | exact e.frames | (simpa [Around.under,Code.envs,Code.isFrame,pushEnvs] using e.frames),e.mod,e.bs,e.bsz,e.funs,e.frf,e.hok,e.bare⟩
section
variable {X:Cx} {pins:List (Addr×Obj)} {σ:St} {H:Hp} {s s':Shared}
theorem Inv.env0 (I:Inv X pins σ H s):iY X.prog X.w X.K X.mg X.base X.A X.stack s H :=
 ⟨I.ok.frames,I.ok.mod,I.bs,Nat.le_trans I.ok.bsz I.sz,I.stack,I.stkFree,I.hok,I.bare⟩
theorem Inv.after {Q:VK} {u:Value} (I:Inv X pins σ H s) (h:CE X.stack X.prog X.w H s Q u s'):EP X pins σ Q u s':=by
 obtain ⟨v,H',os,bare,un,hok,r,q⟩:=h
 obtain ⟨hh,g,d,t,os'⟩:=s'
 obtain rfl:os'=s.os:=os
 exact ⟨v,H',I.call (h':=hh) (g':=g) (d':=d) (t':=t) (ch:=[]) un hok bare (λb z=>absurd z (by simp)),r,q⟩
end
def zE (sp:Sp) (iy:List V) (E:XK) (t:TA):TE:=λσ H Q=>t σ H λvs H1=>sp (vs++iy) H1 Q E
def su (C:Addr) (m:Str) (sp:Sp) (iy:List V) (E:XK) (ta:TE) (t:TA):TE:=λσ H Q=>ta σ H λx H1=>∃ a dx fs,x = .ref a/\H1 a=some (.ins C dx fs)/\fs.lookup m=none /\
 t σ H1 λvs H2=>sp (x::(vs++iy)) H2 Q E
def zx (C:Addr) (sp:Sp) (iy:List V) (E:XK) (t:TA):TE:=λσ H Q=>t σ H λvs H1=>∀ x dx,H1 x=none->H1 dx=none->dx≠x ->
 sp (.ref x::(vs++iy)) (upd (upd H1 dx (.own x)) x (.ins C dx [])) (λv H2=>v = .non/\Q (.ref x) H2) E
def Binds (K:PySem.W.Frag) (fd:FuncData) (ps:List Str) (ds:List Value):Prop :=
 ∀ (s:Shared) (us:List Value),K.In s.heap->(us++ds).length=ps.length->BindsTo s fd ⟨us,[]⟩ (ps.zip (us++ds))
theorem Binds.all {K:PySem.W.Frag} {fd:FuncData} {ps:List Str} (h:∀ us:List Value,us.length=ps.length->bindArgs fd ⟨us,[]⟩=pure (ps.zip us)):Binds K fd ps []:=λs us _ hl=>by
 rw [List.append_nil] at hl ⊢
 exact .of_eq (h us hl)
def t7 (CX:pG) (X:Cx) (E:XK):Prop:=∀ (pins:List (Addr×Obj)) (σ:St) (H:Hp) (s:Shared) (e:Value) (s':Shared),Inv X pins σ H s->CX X.stack H s E e s'->X.xe e s'
section
variable {X:Cx} {CX:pG} {k:Nat} {f C:Addr} {fd:FuncData} {ps:List Str} {sp:Sp} {iy:List V} {ds:List Value} {E:XK} {x m:Str} {p pos apos:Pos} {e o:Expr} {es:List Expr} {ta:TE} {t:TA}
theorem Hh {pins:List (Addr×Obj)} {σ:St} {H:Hp} {s:Shared} {Q:VK} {us:List Value} {vs:List V} (F:cN X.prog X.w X.K X.mg X.base CX k f fd ps sp) (hr:bG k X.A) (hb:Binds X.K fd ps ds) (hd:Vals iy ds) (hx:t7 CX X E)
 (I:Inv X pins σ H s) (r:Vals vs us) (h:sp (vs++iy) H Q E):wpAny (model X.prog X.w) X.A (call (.ref f) us) (EP X pins σ Q) X.xe s:=by
 have r2:Vals (vs++iy) (us++ds):=r.append hd
 have hl:(us++ds).length=ps.length:=by rw [<-r2.length];exact F.len _ _ _ _ h
 refine wpAny_call (codeAny_mono (F.run X.A X.stack s H ⟨us,[]⟩ (us++ds) (vs++iy) Q E hr I.env0 (hb s us I.kIn hl) r2 h) λr s' hq=>?_)
 cases r with
 | error e=>exact hx pins σ H s e s' I hq
 | ok fl =>
  cases fl with
  | ret u=>exact I.after hq
  | next=>exact False.elim hq
  | brk=>exact False.elim hq
  | cont=>exact False.elim hq
theorem Zh (F:cN X.prog X.w X.K X.mg X.base CX k f fd ps sp) (hr:bG k X.A) (hg:Gl X x) (hm:X.mg x=some (.ref f)) (hk:PySem.W.keepIn X.K (.ref f)=true) (hb:Binds X.K fd ps ds) (hd:Vals iy ds) (hx:t7 CX X E)
 (ha:PA X (e::es) t) (hdb:(x==("__debug__" : Str))=false:=by decide) (he:starEach (e::es) X.env=(false,eval e X.env)::starEach es X.env:=by rfl) (hpl:(backTo pos (starEach es X.env)).any (·.1)=false:=by rfl) :
 PE X (.Call (.Name x p) (e::es) [] pos) (zE sp iy E t):=by
 intro pins s σ H Q I h
 refine wpAny_Call_Name_kw (HB I hg hm ?_ hdb)
 refine PySem.W.callWith_K (h₀:=X.base) I.ok.mod.kin hk (bL (ha pos pins s σ H _ I h) λus s1 ⟨vs,H1,I1,r,q⟩=>⟨I1.kIn,?_⟩) he hpl
 exact Hh F hr hb hd hx I1 r q
theorem Zk {pl:Sem Bool} (he:PE X o ta) (c:jz X.K C) (hm:Meth X.K C m f) (F:cN X.prog X.w X.K X.mg X.base CX k f fd ps sp) (hr:bG k X.A) (hb:Binds X.K fd ps ds) (hd:Vals iy ds) (hx:t7 CX X E) (ha:PA X (e::es) t)
 (hst:starEach (e::es) X.env=(false,eval e X.env)::starEach es X.env:=by rfl) (hpl:(backTo pos (starEach es X.env)).any (·.1)=false:=by rfl)
 (ht:eval (.Call (.Attribute o m apos) (e::es) [] pos) X.env=(do
  let ov <-eval o X.env
  standAt apos.atName
  let (f,first) <-holding [ov] (getMethod ov m pl)
  callWith pos f first (backTo pos (starEach (e::es) X.env)) (backToKw pos (keywordEach [] X.env))):=by rfl) :
 PE X (.Call (.Attribute o m apos) (e::es) [] pos) (su C m sp iy E ta t):=by
 intro pins s σ H Q I h
 refine PySem.W.methodCall_KW (pl:=pl) (bL (he pins s σ H _ I h) λu s1 ⟨x,H1,I1,rx,a,dx,fs,ex,ea,l,q⟩=>?_) ht
 subst ex
 obtain rfl:u=Value.ref a:=rx
 refine Tz I1 ea c hm l ?_
 refine PySem.W.callWith_K (first:=[.ref a]) (h₀:=X.base) I.ok.mod.kin hm.kp (bL (ha pos pins s1 σ H1 _ I1 q) λus s2 ⟨vs,H2,I2,r,q2⟩=>⟨I2.kIn,?_⟩) hst hpl
 exact Hh (us := .ref a::us) (vs := .ref a::vs) F hr hb hd hx I2 (.cons rfl r) q2
theorem zls {pl:Sem Bool} (he:PE X o ta) (c:jz X.K C) (hm:Meth X.K C m f) (F:cN X.prog X.w X.K X.mg X.base CX k f fd ps sp) (hr:bG k X.A) (hb:Binds X.K fd ps ds) (hd:Vals iy ds) (hx:t7 CX X E)
 (ht:eval (.Call (.Attribute o m apos) [] [] pos) X.env=(do
  let ov <-eval o X.env
  standAt apos.atName
  let (f,first) <-holding [ov] (getMethod ov m pl)
  callWith pos f first (backTo pos (starEach [] X.env)) (backToKw pos (keywordEach [] X.env))):=by rfl) :
 PE X (.Call (.Attribute o m apos) [] [] pos) (su C m sp iy E ta zu):=by
 intro pins s σ H Q I h
 refine PySem.W.methodCall_KW (pl:=pl) (bL (he pins s σ H _ I h) λu s1 ⟨x,H1,I1,rx,a,dx,fs,ex,ea,l,q⟩=>?_) ht
 subst ex
 obtain rfl:u=Value.ref a:=rx
 refine Tz I1 ea c hm l ?_
 exact PySem.W.callWith_K0 (first:=[.ref a]) I1.kIn hm.kp (Hh (us:=[.ref a]) (vs:=[.ref a]) F hr hb hd hx I1 (.cons rfl .nil) q)
structure Mk (K:PySem.W.Frag) (C f:Addr):Prop where
 makes:PySem.W.makesIn K C=true
 init:PySem.W.findIn K (.ref C) "__init__" = some (some (.ref f))
 fn:PySem.W.isFn K (.ref f)=true
 kp:PySem.W.keepIn K (.ref C)=true
theorem zlh {pins:List (Addr×Obj)} {σ:St} {H:Hp} {s:Shared} {Q:VK} {us:List Value} {vs:List V} (M:Mk X.K C f) (F:cN X.prog X.w X.K X.mg X.base CX k f fd ps sp) (hr:bG (k+1) X.A) (hb:Binds X.K fd ps ds) (hd:Vals iy ds)
 (hx:t7 CX X E) (I:Inv X pins σ H s) (r:Vals vs us)
 (h:∀ x dx,H x=none->H dx=none->dx≠x->sp (.ref x::(vs++iy)) (upd (upd H dx (.own x)) x (.ins C dx [])) (λv H2=>v = .non/\Q (.ref x) H2) E) :
 wpAny (model X.prog X.w) X.A (call (.ref C) us) (EP X pins σ Q) X.xe s:=by
 have hq:=h (s.heap.objs.size+1) s.heap.objs.size (I.hok.fresh (Nat.le_succ _)) (I.hok.fresh (bR _)) (dw (Nat.lt_succ_self _))
 have I2:=Inv.made (C:=C) I
 have r2:Vals (V.ref (s.heap.objs.size+1)::(vs++iy)) (Value.ref (s.heap.objs.size+1)::(us++ds)) := .cons rfl (r.append hd)
 have hl:(Value.ref (s.heap.objs.size+1)::us++ds).length=ps.length:=by
  have e:=r2.length
  rw [F.len _ _ _ _ hq] at e
  exact e.symm
 refine wpAny_call (zlB (f:=f) I.kIn M.makes M.init (beq_iff_eq.mp M.fn) (codeAny_mono (F.run _ X.stack _ _ ⟨Value.ref (s.heap.objs.size+1)::us,[]⟩ (Value.ref (s.heap.objs.size+1)::(us++ds)) _ _ E (hr.make C us [])
  (I2.env0.make C us []) (hb _ (Value.ref (s.heap.objs.size+1)::us) I2.kIn hl) r2 hq) λr s' hq'=>?_))
 cases r with
 | error e=>exact hx pins σ _ _ e s' I2 hq'
 | ok fl =>
  cases fl with
  | ret u =>
   obtain ⟨v,H',I3,rv,ev,q3⟩:=I2.after hq'
   subst ev
   exact ⟨rv,⟨V.ref (s.heap.objs.size+1),H',I3,rfl,q3⟩⟩
  | next=>exact False.elim hq'
  | brk=>exact False.elim hq'
  | cont=>exact False.elim hq'
theorem Zj (M:Mk X.K C f) (F:cN X.prog X.w X.K X.mg X.base CX k f fd ps sp) (hr:bG (k+1) X.A) (hg:Gl X x) (hm:X.mg x=some (.ref C)) (hb:Binds X.K fd ps ds) (hd:Vals iy ds) (hx:t7 CX X E)
 (ha:PA X (e::es) t) (hdb:(x==("__debug__" : Str))=false:=by decide) (he:starEach (e::es) X.env=(false,eval e X.env)::starEach es X.env:=by rfl) (hpl:(backTo pos (starEach es X.env)).any (·.1)=false:=by rfl) :
 PE X (.Call (.Name x p) (e::es) [] pos) (zx C sp iy E t):=by
 intro pins s σ H Q I h
 refine wpAny_Call_Name_kw (HB I hg hm ?_ hdb)
 refine PySem.W.callWith_K (h₀:=X.base) I.ok.mod.kin M.kp (bL (ha pos pins s σ H _ I h) λus s1 ⟨vs,H1,I1,r,q⟩=>⟨I1.kIn,?_⟩) he hpl
 exact zlh M F hr hb hd hx I1 r q
end
section
variable {X:Cx} {CX:pG} {k:Nat} {f C:Addr} {fd:FuncData} {ps ks:List Str} {sp:Sp} {E:XK} {x m:Str} {p pos apos kpos:Pos} {e o:Expr} {es:List Expr} {kws:List Keyword} {te ta:TE} {t tk:TA} {nm:Option Str}
variable {g:List Value->List Value->List Value} {gV:List V->List V->List V}
end
structure mR (N P:List Str) (sc:Scope):Prop where
 kind:sc.kind = .function
 co:sc.isCoroutine=false
 gen:sc.isGenerator=false
 nd:N.Nodup
 pre:N.take P.length=P
 par:∀ x∈P,sc.names.lookup x=some .local\/sc.names.lookup x=some .cell
 nofree:∀ y∈sc.names,y.2 ≠ .free
theorem RV {kindOf:Str->Option NameKind} {x:Str}:∀ {binds:List (Str×Value)} {m:Str->Option Value},(∀ v,(x,v)∉binds)->bindL kindOf binds m x=m x
 | [],_,_=>rfl
 | (n,v)::r,m,h=>by
   unfold bindL
   rw [RV λw hw=>h w (cM _ hw)]
   split
   ·have:x≠n:=by rintro rfl;exact h v fL
    simp [this]
   ·rfl
theorem RQ {kindOf:Str->Option NameKind} {x:Str}:∀ {binds:List (Str×Value)} {m:Str->Option Value},(∀ v,(x,v)∉binds)->bindC kindOf binds m x=m x
 | [],_,_=>rfl
 | (n,v)::r,m,h=>by
   unfold bindC
   rw [RQ λw hw=>h w (cM _ hw)]
   split
   ·rfl
   ·have:x≠n:=by rintro rfl;exact h v fL
    simp [this]
theorem RT {kindOf:Str->Option NameKind} {x:Str} {v:Value}:∀ {P:List Str} {vs:List Value} {i:Nat} {m:Str->Option Value},P.Nodup->P[i]?=some x->vs[i]?=some v->kindOf x=some .local ->
 bindL kindOf (P.zip vs) m x=some v
 | [],_,_,_,_,h,_,_=>by simp at h
 | _::_,[],_,_,_,_,h,_=>by simp at h
 | p::P,w::vs,0,m,nd,h1,h2,hk=>by
  simp at h1 h2;subst h1;subst h2
  show bindL kindOf ((p,w)::P.zip vs) m p=_
  unfold bindL
  rw [RV λv hv=>(List.nodup_cons.mp nd).1 (List.of_mem_zip hv).1,if_pos hk]
  simp
 | p::P,w::vs,i+1,m,nd,h1,h2,hk=>by
  show bindL kindOf ((p,w)::P.zip vs) m x=_
  unfold bindL
  exact RT (i:=i) (List.nodup_cons.mp nd).2 (by simpa using h1) (by simpa using h2) hk
theorem RP {kindOf:Str->Option NameKind} {x:Str} {v:Value}:∀ {P:List Str} {vs:List Value} {i:Nat} {m:Str->Option Value},P.Nodup->P[i]?=some x->vs[i]?=some v->kindOf x≠some .local ->
 bindC kindOf (P.zip vs) m x=some v
 | [],_,_,_,_,h,_,_=>by simp at h
 | _::_,[],_,_,_,_,h,_=>by simp at h
 | p::P,w::vs,0,m,nd,h1,h2,hk=>by
  simp at h1 h2;subst h1;subst h2
  show bindC kindOf ((p,w)::P.zip vs) m p=_
  unfold bindC
  rw [RQ λv hv=>(List.nodup_cons.mp nd).1 (List.of_mem_zip hv).1,if_neg hk]
  simp
 | p::P,w::vs,i+1,m,nd,h1,h2,hk=>by
  show bindC kindOf ((p,w)::P.zip vs) m x=_
  unfold bindC
  exact RP (i:=i) (List.nodup_cons.mp nd).2 (by simpa using h1) (by simpa using h2) hk
def start (N:List Str) (vs:List V):St:=vs.map some++List.replicate (N.length - vs.length) none
def oH (CX:pG) (P:Program) (w:World) (K:PySem.W.Frag) (mg:Str->Option Value) (base:Heap) (N:List Str) (qual:Str) (scope:Scope) (f:Addr) (cd:Value) (A:Around) (outer:List Env) (s:Shared) (H:Hp) (E:XK):Cx where
 prog:=P
 w:=w
 K:=K
 mg:=mg
 base:=base
 A:=A.deeper (envOfC qual scope s.heap.objs.size f cd)
 N:=N
 s₀:=s
 H₀:=H
 env:=envOfC qual scope s.heap.objs.size f cd
 outer:=outer
 stack:=envOfC qual scope s.heap.objs.size f cd::outer
 ex:=[]
 calm:=true
 fn:=λ_=>true
 pn:=[]
 xe:=λe s'=>wpAny (model P w) (A.deeper (envOfC qual scope s.heap.objs.size f cd)) (leaving (envOfC qual scope s.heap.objs.size f cd) e) (λ_ s''=>CX outer H s E e s'') (λe' s''=>CX outer H s E e' s'') s'
theorem QL {sc:Scope} {n:Nat} {x:Str} (h:sc.names.lookup x=some .cell):∃ c,(cellsFrom n sc.names []).lookup x=some c:=by
 have q:=PySem.W.cellsFrom_some sc.names n [] (.inl h)
 exact Option.isSome_iff_exists.mp q
theorem zkg {CX:pG} {P:Program} {w:World} {K:PySem.W.Frag} {mg:Str->Option Value} {base:Heap} {N ps:List Str} {qual:Str} {scope:Scope} {f:Addr} {cd:Value} {A:Around} {outer:List Env} {s s1:Shared} {H:Hp} {E:XK} {us:List Value} {vs:List V}
 (S:mR N ps scope) (hd:A.handled=none) (e0:iY P w K mg base A outer s H) (hl:vs.length=ps.length) (r:Vals vs us)
 (x:InCallC s s.heap.objs.size (bindL (envOfC qual scope s.heap.objs.size f cd).kindOf (ps.zip us) λ_=>none) (cellsFrom (s.heap.objs.size+1) scope.names []) (bindC (envOfC qual scope s.heap.objs.size f cd).kindOf (ps.zip us) λ_=>none) s1) :
 Inv (oH CX P w K mg base N qual scope f cd A outer s H E) [] (start N vs) H s1:=by
 have hpl:ps.length<=N.length:=by have:=congrArg List.length S.pre;rw [qT] at this;omega
 obtain ⟨h1,tk,rfl,hk⟩:=x.done
 have qC:∀ b:Addr,b∉(oH CX P w K mg base N qual scope f cd A outer s H E).ex:=λb z=>absurd (show b∈([]:List Addr) from z) (by simp)
 refine ⟨⟨e0.mod,S.kind,rfl,rfl,bR _,λy z c h1 h2=>?_,λy hy=>?_,λy c _ h=>?_,λ_=>hd,Around.frames_deeper e0.frames,.inr ⟨rfl,rfl⟩,λb z=>absurd z (qC b),e0.bs,e0.bsz,λb _ _=>qC b,λb z=>absurd z (qC b),e0.funs,e0.frf⟩,
  rfl,e0.bare,Un.kept hk,⟨_,x.toInCall.ns,λi y v h1 h2 h3=>?_⟩,λy c h=>⟨_,x.cell y c h⟩,e0.hok.fresh (bR _),λy c h=>?_,λp hp=>absurd (show p∈([]:List (Addr×Obj)) from hp) (by simp),e0.hok.kept hk,?_⟩
 ·exact name_of_addr x.apart (gD h1) (gD h2)
 ·have hy:scope.names.lookup y=some .cell\/scope.names.lookup y=some .free:=hy
  rcases hy with hy | hy
  ·exact QL hy
  ·exact absurd rfl (S.nofree _ (gD hy))
 ·exact tV (x.above y c (gD h))
 ·have hi:i<vs.length:=by
   unfold start at h2
   by_cases hi:i<vs.length
   ·exact hi
   ·rw [tW (by simpa using hi)] at h2
    rw [List.getElem?_replicate] at h2
    split at h2<;>cases h2
  have ha:vs[i]?=some v:=by
   unfold start at h2
   rw [jW (by simpa using hi),eV] at h2
   cases e:vs[i]? with
   | none=>rw [e] at h2;cases h2
   | some a=>rw [e] at h2;cases h2;rfl
  obtain ⟨u,hu,rv⟩:=r.get ha
  have hp:ps[i]?=some y:=by
   rw [<-S.pre,List.getElem?_take_of_lt (by omega)];exact h1
  have U4:ps.Nodup:=by rw [<-S.pre];exact S.nd.sublist (List.take_sublist _ _)
  refine ⟨u,rv,?_⟩
  rcases S.par y (List.mem_of_getElem? hp) with k | k
  ·exact .inl ⟨k,RT U4 hp hu k⟩
  ·obtain ⟨c,e⟩:=QL (n:=s.heap.objs.size+1) k
   refine .inr ⟨.inl k,c,e,?_⟩
   have q:=x.cell y c e
   rw [RP U4 hp hu (by show scope.names.lookup y≠_;rw [k];decide)] at q
   exact q
 ·exact e0.hok.fresh (tV (x.above y c (gD h)))
 ·unfold start
  show _=N.length
  rw [gQ,cQ,List.length_replicate]
  omega
theorem Oq {CX:pG} {P:Program} {w:World} {K:PySem.W.Frag} {mg:Str->Option Value} {base:Heap} {k:Nat} {f:Addr} {name qual:Str} {params:Arguments} {body:List Stmt} {scope:Scope} {dV kV doc pm cdv ct oc:Value} {an od:Option Addr}
 {osl:Array (Option Value)} {N ps:List Str} {sp:Sp} (lk:K.lookup f=some ⟨oc,od,.func (PySem.W.fnOf name qual params body scope dV kV doc pm an cdv ct),osl⟩) (hcd:PySem.W.codeIn K cdv qual=true) (S:mR N ps scope)
 (len:∀ vs H Q E,sp vs H Q E->vs.length=ps.length)
 (hbody:∀ (A:Around) (outer:List Env) (s:Shared) (H:Hp) (vs:List V) (Q:VK) (E:XK),bG k (A.deeper (envOfC qual scope s.heap.objs.size f cdv))->sp vs H Q E ->
  ∃ t,jl (oH CX P w K mg base N qual scope f cdv A outer s H E) body t/\t { nx:=λ_ H'=>Q .non H',rt:=Q } (start N vs) H) :
 cN P w K mg base CX (k+1) f (PySem.W.fnOf name qual params body scope dV kV doc pm an cdv ct) ps sp:=by
 refine ⟨len,λA outer s H args us vs Q E hr e0 hb r hsp=>?_⟩
 have hl:=len _ _ _ _ hsp
 have KX:K.In s.heap:=e0.mod.kin.keeps λb o e=>(e0.bs b o e).1
 have lim:s.heap.NoLimit:=e0.mod.nolimit.keeps λb o e=>(e0.bs b o e).1
 have hkind:∀ y∈ps.zip us,scope.names.lookup y.1=some .local\/(scope.names.lookup y.1=some .cell/\((cellsFrom (s.heap.objs.size+1) scope.names []).lookup y.1).isSome=true):=λ⟨n,v⟩ hy=>by
  rcases S.par n (List.of_mem_zip hy).1 with q | q
  ·exact .inl q
  ·exact .inr ⟨q,PySem.W.cellsFrom_some _ _ _ (.inl q)⟩
 refine codeAny_call_function hr.depth (KX _ _ lk) rfl S.co S.gen rfl (PySem.W.codeRec_of KX hcd) (hb _ _ _ _ ?_)
 refine wpAny_newFunctionEnv_cells S.kind hkind λenv he s1 x=>?_
 subst he
 refine ⟨lim.keeps x.toInCall.keep,codeAny_func ?_⟩
 obtain ⟨t,ht,hq⟩:=hbody A outer s H vs Q E (hr.deeper _) hsp
 have I:Inv (oH CX P w K mg base N qual scope f cdv A outer s H E) [] (start N vs) H s1:=zkg S hr.hd e0 hl r x
 refine jm (ht [] s1 (start N vs) H _ I hq) (λfl s' hs=>?_) λe s' hs=>hs
 have fin:∀ {σ':St} {H':Hp} {v:V} {u:Value},Inv (oH CX P w K mg base N qual scope f cdv A outer s H E) [] σ' H' s'->RelV v u->Q v H'->CE outer P w H s Q u s' :=
  λ{σ' H' v u} J rv q=>⟨v,H',J.os,J.bare,J.base,J.hok,rv,q⟩
 cases fl with
 | ret u =>
  obtain ⟨v,σ',H',J,rv,q⟩:=hs
  exact fin J rv q
 | next =>
  obtain ⟨σ',H',J,q⟩:=hs
  exact fin (v:=V.non) (u:=Value.none) J rfl q
 | brk =>
  obtain ⟨_,_,_,q⟩:=hs
  exact False.elim q
 | cont =>
  obtain ⟨_,_,_,q⟩:=hs
  exact False.elim q
section
variable {X:Cx} {x:Str} {p pos:Pos} {e:Expr} {es:List Expr} {t:TA} {id T:String} {r:List V->Hp->VK->Prop}
def Us (r:List V->Hp->VK->Prop) (t:TA):TE:=λσ H Q=>t σ H λvs H1=>r vs H1 Q
theorem zlu (hc:gG X (.builtin id) r) (hg:Gl X x) (hm:X.mg x=none) (hv:bootBuiltins x=some (.builtin id)) (ha:PA X (e::es) t) (hn:x ≠ "__name__" := by decide) (hdb:(x==("__debug__" : Str))=false:=by decide)
 (he:starEach (e::es) X.env=(false,eval e X.env)::starEach es X.env:=by rfl) (hpl:(backTo pos (starEach es X.env)).any (·.1)=false:=by rfl):PE X (.Call (.Name x p) (e::es) [] pos) (Us r t):=by
 intro pins s σ H Q I h
 refine wpAny_Call_Name_kw (rG I hg hm hv ?_ hn hdb)
 exact PyProof.Rows.callWith_builtin1 (bL (ha pos pins s σ H _ I h) λus s1 ⟨vs,H1,I1,r1,q1⟩=>hc pins s1 σ H1 vs us Q I1 r1 q1) he hpl
theorem zjI (hc:gG X (.type T) r) (hg:Gl X x) (hm:X.mg x=none) (hv:bootBuiltins x=some (.type T)) (ha:PA X (e::es) t) (hn:x ≠ "__name__" := by decide) (hdb:(x==("__debug__" : Str))=false:=by decide)
 (he:starEach (e::es) X.env=(false,eval e X.env)::starEach es X.env:=by rfl) (hpl:(backTo pos (starEach es X.env)).any (·.1)=false:=by rfl):PE X (.Call (.Name x p) (e::es) [] pos) (Us r t):=by
 intro pins s σ H Q I h
 refine wpAny_Call_Name_kw (rG I hg hm hv ?_ hn hdb)
 exact PyProof.Rows.callWith_type1 (bL (ha pos pins s σ H _ I h) λus s1 ⟨vs,H1,I1,r1,q1⟩=>hc pins s1 σ H1 vs us Q I1 r1 q1) he hpl
end
end L2
namespace HT
open PySem PyProof.Rows
section
open PySem.SeqAt
open PySem.AutoSeq1 (wpAny_loadPart')
open PySem.MeetsSeq PySem.MeetsSeq2 PySem.MeetsSeq3
end
section
variable {prog:Program} {w:World} {A:Around} {E:Value->Shared->Prop} {s:Shared}
theorem zoi {t b:Addr} {vs ws:List Value} {Q:Value->Shared->Prop} (ht:IsTup s.heap t vs.toArray) (hb:IsTup s.heap b ws.toArray) (hv:vs≠[])
 (h1:ws=[]->Q (.ref t) s) (h2:ws≠[]->Q (.ref s.heap.objs.size) { s with heap:=s.heap.push { cls := .type "tuple",data := .seq (vs++ws).toArray } })
 (hsz:vs.length+ws.length<=sizeLine):wpAny (model prog w) A (binaryOp .Add (.ref t) (.ref b)) Q E s:=by
 obtain ⟨⟨cls,dd,data,sl⟩,ho,hc,n,hd⟩:=id ht
 obtain ⟨⟨cls2,dd2,data2,sl2⟩,ho2,hc2,n2,hd2⟩:=id hb
 simp only at hc hd hc2 hd2
 subst hc hd hc2 hd2
 have e:vs.toArray++ws.toArray=(vs++ws).toArray:=by simp
 by_cases hw:ws=[]
 ·exact concat_meets ⟨_,ho,rfl⟩ ⟨_,ho2,rfl⟩ noFill_tuple_add seq_tuple_add PySem.F.slot_tuple_add PySem.F.entry_tuple_add (PySem.F.args_tuple_add_2 _ _)
   (tuple_addW1 t b vs.toArray ws.toArray n n2 dd dd2 sl sl2 (by simpa using hv) (by simp [hw])) ⟨ho,ho2,h1 hw⟩
 ·refine concat_meets ⟨_,ho,rfl⟩ ⟨_,ho2,rfl⟩ noFill_tuple_add seq_tuple_add PySem.F.slot_tuple_add PySem.F.entry_tuple_add (PySem.F.args_tuple_add_2 _ _)
   (tuple_addW2 t b vs.toArray ws.toArray n n2 dd dd2 sl sl2 (by simpa using hv) (by simpa using hw) (by rw [dH,dH];exact hsz)) ⟨ho,ho2,?_⟩
  rw [e]
  exact h2 hw
def sIx (n d:Nat):Option Int->Nat
 | none=>d
 | some v=>if v<0 then (v+(n:Int)).toNat else min v.toNat n
theorem zhY (n d:Nat):sIx n d none=d:=rfl
theorem zjx (n d k:Nat):sIx n d (some (k:Int))=min k n:=by
 show (if (k:Int)<0 then ((k:Int)+(n:Int)).toNat else min (k:Int).toNat n)=min k n
 rw [if_neg (by omega),Int.toNat_natCast]
theorem WT (n d:Nat) (hd:d<=n) (o:Option Int):sIx n d o<=n:=by
 cases o with
 | none=>exact hd
 | some v =>
  show (if v<0 then (v+(n:Int)).toNat else min v.toNat n)<=n
  by_cases hv:v<0
  ·rw [if_pos hv];omega
  ·rw [if_neg hv];exact Nat.min_le_right _ _
theorem Qd (v:Int) (n d:Nat):(if v<0 then max (v+(n:Int)) 0 else min v (n:Int))=((sIx n d (some v):Nat):Int):=by
 show (if v<0 then max (v+(n:Int)) 0 else min v (n:Int))=(((if v<0 then (v+(n:Int)).toNat else min v.toNat n):Nat):Int)
 by_cases hv:v<0
 ·simp only [if_pos hv];omega
 ·simp only [if_neg hv];omega
theorem zi9 (lo hi:Option Int) (n:Nat):Builtin.Slice.sliceAdjust lo hi 1 (n:Int)=(((sIx n 0 lo:Nat):Int),((sIx n n hi:Nat):Int)):=by
 have h1:¬ ((1:Int)<0):=by omega
 unfold Builtin.Slice.sliceAdjust
 simp only [h1,if_false]
 refine Prod.ext ?_ ?_
 ·cases lo with
  | none=>rfl
  | some v=>exact Qd v n 0
 ·cases hi with
  | none=>rfl
  | some v=>exact Qd v n n
theorem ziM (i j:Nat):Builtin.Slice.slicePlaces (i:Int) (j:Int) 1=j - i:=by
 unfold Builtin.Slice.slicePlaces
 have h1:(1:Int)>0:=by omega
 simp only [h1,if_true,Int.ediv_one]
 split<;>omega
theorem SN {v:Value} {o:Option Int} {Q:Option Int->Shared->Prop} (p:IsPart v o) (h:Q o s):wpAny (model prog w) A (Builtin.Slice.slicePartIndex v) Q E s:=by
 cases p with
 | none=>exact slicePart_none h
 | int i t=>exact slicePart_int h
theorem zc7 {sl:Addr} {vl vu:Value} {lo hi:Option Int} {n:Nat} {Q:Int×Int×Nat->Shared->Prop} (hs:s.heap.IsSliceOf sl vl vu .none) (pl:IsPart vl lo) (pu:IsPart vu hi)
 (h:Q (((sIx n 0 lo:Nat):Int),1,sIx n n hi - sIx n 0 lo) s):wpAny (model prog w) A (Builtin.Slice.sliceApplied (.ref sl) (pure (n:Int))) Q E s:=by
 obtain ⟨os,hos,hcs,hds⟩:=id hs
 unfold Builtin.Slice.sliceApplied Builtin.Slice.sliceFields
 refine aN (aN (wpAny_field hos hds (x:=vl) rfl (aN (wpAny_field hos hds (x:=vu) rfl (aN (wpAny_field hos hds (x := .none) rfl (bW ?_)))))))
 refine aN (slicePart_none ?_)
 show wpAny _ _ (if ((1:Int)==0)=true then _ else _) _ _ s
 rw [if_neg (by decide)]
 refine aN (SN pl (aN (SN pu (aN (bW ?_)))))
 show wpAny _ _ (match Builtin.Slice.sliceAdjust lo hi 1 (n:Int) with | (lo,hi)=>pure (lo,(1:Int),Builtin.Slice.slicePlaces lo hi 1)) _ _ s
 rw [zi9 lo hi n]
 show wpAny _ _ (pure (((sIx n 0 lo:Nat):Int),(1:Int),Builtin.Slice.slicePlaces ((sIx n 0 lo:Nat):Int) ((sIx n n hi:Nat):Int) 1)) _ _ s
 rw [ziM]
 exact bW h
theorem zlo (xs:Array Value) (i k:Nat):((List.range k).filterMap λ(m:Nat)=>xs[((i:Int)+(m:Int)*1).toNat]?).toArray=((xs.toList.drop i).take k).toArray:=by
 have e:(λ(m:Nat)=>xs[((i:Int)+(m:Int)*1).toNat]?)=λm=>xs[i+m]?:=by
  funext m
  have:((i:Int)+(m:Int)*1).toNat=i+m:=by omega
  rw [this]
 rw [e]
 have:=pick_run xs i k
 rw [List.filterMap_map] at this
 have e2:((λx=>xs[x]?) ∘ λx=>i+x)=λm=>xs[i+m]?:=rfl
 rw [e2] at this
 rw [this]
theorem zeg {t sl:Addr} {items:Array Value} {vl vu:Value} {lo hi:Option Int} {Q:Value->Shared->Prop} (ht:IsTup s.heap t items) (hs:s.heap.IsSliceOf sl vl vu .none) (pl:IsPart vl lo) (pu:IsPart vu hi)
 (hw:¬ (sIx items.size 0 lo=0/\sIx items.size items.size hi=items.size))
 (h:Q (.ref s.heap.objs.size) { s with heap:=s.heap.push { cls := .type "tuple",data := .seq ((items.toList.drop (sIx items.size 0 lo)).take (sIx items.size items.size hi - sIx items.size 0 lo)).toArray } })
 (hsz:items.size<=sizeLine):wpAny (model prog w) A (getItem (.ref t) (.ref sl)) Q E s:=by
 have gO:sizeOk (.seq ((items.toList.drop (sIx items.size 0 lo)).take (sIx items.size items.size hi - sIx items.size 0 lo)).toArray):=by
  show ((items.toList.drop (sIx items.size 0 lo)).take (sIx items.size items.size hi - sIx items.size 0 lo)).toArray.size<=sizeLine
  rw [dH,qT,List.length_drop,Array.length_toList]
  omega
 have hj:sIx items.size items.size hi<=items.size:=WT _ _ (bR _) hi
 obtain ⟨os,hos,hcs,hds⟩:=id hs
 have hTs:s.TypeIs (.ref sl) "slice" := ⟨os,hos,hcs⟩
 unfold getItem
 try with_reducible refine wpAny_holding ?_
 first | refine aN (bW ?_) | skip
 refine aN (wpAny_sequenceKey ht.typeIs (by decide) ?_)
 refine aN (wpAny_callSpecial?_slot (name:=Str.ofString "__getitem__") ht.typeIs PyProof.Rows.slot_tuple_getitem
  (wpAny_call_entry PyProof.Rows.slot_tuple_getitem ht.typeIs entry_tuple_getitem ?_ (args_tuple_getitem _ _)))
 show wpAny _ _ (Builtin.Tuple.tupleItemsOf (.ref t) >>= _) _ _ s
 refine aN (tupleItemsOf_ ht ?_)
 refine aN (wpAny_typeOf hTs ?_)
 rw [if_pos (by decide)]
 refine aN (zc7 hs pl pu ?_)
 have hno:¬ ((((sIx items.size 0 lo:Nat):Int)==0&&(1:Int)==1&&(sIx items.size items.size hi - sIx items.size 0 lo)==items.size)=true):=by
  intro q
  rw [cR,cR] at q
  have q1:((sIx items.size 0 lo:Nat):Int)=0:=eq_of_beq q.1.1
  have q2:sIx items.size items.size hi - sIx items.size 0 lo=items.size:=eq_of_beq q.2
  exact hw ⟨by omega,by omega⟩
 show wpAny _ _ (if (((sIx items.size 0 lo:Nat):Int)==0&&(1:Int)==1&&(sIx items.size items.size hi - sIx items.size 0 lo)==items.size)=true then _ else _) _ _ s
 rw [if_neg hno,zlo]
 first
  | exact aN (m:=Builtin.Tuple.tupleExact _) (wpAny_newObj_type (bW ⟨_,rfl,bW h⟩) gO)
  | exact aN (m:=Builtin.Tuple.tupleExact _) (wpAny_newObj_type (aN (bW (bW ⟨_,rfl,bW h⟩))) gO)
  | exact aN (aN (m:=Builtin.Tuple.tupleExact _) (wpAny_newObj_type (bW (bW ⟨_,rfl,bW h⟩)) gO))
  | exact aN (aN (m:=Builtin.Tuple.tupleExact _) (wpAny_newObj_type (bW ⟨_,rfl,bW h⟩) gO))
end
end HT
namespace L2
open PySem PySem.Spec PyProof.Rows
abbrev TO:=St->Hp->(Option Int->Hp->Prop)->Prop
def PO (X:Cx) (e:Option Expr) (t:TO):Prop :=
 ∀ (pins:List (Addr×Obj)) (s:Shared) (σ:St) (H:Hp) (Q:Option Int->Hp->Prop),Inv X pins σ H s->t σ H Q ->
  wpAny (model X.prog X.w) X.A (evalPart e X.env) (λu s'=>∃ o H',Inv X pins σ H' s'/\IsPart u o/\Q o H') X.xe s
def qp:TO:=λ_ H Q=>Q none H
def zp (t:TE):TO:=λσ H Q=>t σ H λx H1=>∃ i,x = .int i/\Q (some i) H1
section
variable {X:Cx} {e:Expr} {te:TE} {lo hi:Option Expr} {tl th:TO} {pos p2:Pos}
theorem Zr:PO X none qp:=by
 intro pins s σ H Q I h
 rw [evalPart_none]
 exact bW ⟨none,H,I,.none,h⟩
theorem Zt (h:PE X e te):PO X (some e) (zp te):=by
 intro pins s σ H Q I hw
 rw [evalPart_some]
 refine bL (h pins s σ H _ I hw) λu s1 ⟨x,H1,I1,r1,q1⟩=>?_
 obtain ⟨i,rfl,q⟩:=q1
 obtain ⟨t,rfl⟩:=r1
 exact ⟨some i,H1,I1,.int i t,q⟩
def pC (X:Cx) (r:V->Option Int->Option Int->Hp->VK->Prop):Prop :=
 ∀ (pins:List (Addr×Obj)) (s:Shared) (σ:St) (H:Hp) (x:V) (v vl vu:Value) (lo hi:Option Int) (sl:Addr) (Q:VK),Inv X pins σ H s->RelV x v->s.heap.IsSliceOf sl vl vu .none->IsPart vl lo->IsPart vu hi->r x lo hi H Q ->
  ∃ T id,typeLookup (.type T) "__getitem__" = pure (some (.builtin id))/\s.TypeIs v T/\wpAny (model X.prog X.w) X.A (getItem v (.ref sl)) (EP X pins σ Q) X.xe s
theorem pC.or {r r':V->Option Int->Option Int->Hp->VK->Prop} (h:pC X r) (h':pC X r'):pC X (λx lo hi H Q=>r x lo hi H Q\/r' x lo hi H Q):=by
 intro pins s σ H x v vl vu lo hi sl Q I rx hs pl pu q
 rcases q with q | q
 ·exact h pins s σ H x v vl vu lo hi sl Q I rx hs pl pu q
 ·exact h' pins s σ H x v vl vu lo hi sl Q I rx hs pl pu q
def tSl (r:V->Option Int->Option Int->Hp->VK->Prop) (te:TE) (tl th:TO):TE:=λσ H Q=>te σ H λx H1=>tl σ H1 λl H2=>th σ H2 λu H3=>r x l u H3 Q
theorem zlr {r:V->Option Int->Option Int->Hp->VK->Prop} (hr:pC X r) (he:PE X e te) (hl:PO X lo tl) (hu:PO X hi th):PE X (.Subscript e (.Slice lo hi none p2) pos) (tSl r te tl th):=by
 intro pins s σ H Q I h
 refine Subscript_ (bL (he pins s σ H _ I h) λv s1 ⟨x,H1,I1,r1,q1⟩=>?_)
 refine wpAny_Slice (bL (hl pins s1 σ H1 _ I1 q1) λvl s2 ⟨l,H2,I2,pl,q2⟩=>bL (hu pins s2 σ H2 _ I2 q2) λvu s3 ⟨u,H3,I3,pu,q3⟩=>?_)
 rw [evalPart_none]
 refine bW ?_
 have I4:Inv X pins σ H3 { s3 with heap:=s3.heap.push { cls := .type "slice",data := .fields #[vl,vu,.none] } }:=I3.kept (t':=s3.toks) λb ob q=>c7 _ q
 obtain ⟨T,id,hT,ht,hg⟩:=hr pins { s3 with heap:=s3.heap.push { cls := .type "slice",data := .fields #[vl,vu,.none] } } σ H3 x v vl vu l u s3.heap.objs.size Q I4 r1 (Heap.IsSliceOf.new ..) pl pu q3
 show wpAny (model X.prog X.w) X.A (subscriptTail e (.Slice lo hi none p2) v (.ref s3.heap.objs.size)) (EP X pins σ Q) X.xe { s3 with heap:=s3.heap.push { cls := .type "slice",data := .fields #[vl,vu,.none] } }
 exact tail_any (ops:=[.ref s3.heap.objs.size,v]) ht hT hg (by with_unfolding_all rfl)
def pK (xs:List V) (lo hi:Option Int):List V:=(xs.drop (HT.sIx xs.length 0 lo)).take (HT.sIx xs.length xs.length hi - HT.sIx xs.length 0 lo)
theorem Tg (xs:List V) (lo hi:Option Int):(pK xs lo hi).length<=xs.length:=by
 unfold pK
 rw [qT,List.length_drop]
 omega
def zV (K:PySem.W.Frag):V->Option Int->Option Int->Hp->VK->Prop:=λx lo hi H Q=>∃ a xs,x = .ref a/\dF K H a xs /\
 ¬ (HT.sIx xs.length 0 lo=0/\HT.sIx xs.length xs.length hi=xs.length)/\∀ p,H p=none->Q (.ref p) (upd H p (.tup (pK xs lo hi)))
theorem Yt:pC X (zV X.K):=by
 intro pins s σ H x v vl vu lo hi sl Q I rx hs pl pu h
 obtain ⟨a,xs,rfl,hx,hw,q⟩:=h
 cases rx
 obtain ⟨its,r,ht,hz⟩:=I.tuple hx
 have hlen:its.toArray.size=xs.length:=by rw [dH];exact r.length.symm
 refine ⟨"tuple",_,PyProof.Rows.slot_tuple_getitem.lookup,ht.typeIs,?_⟩
 refine HT.zeg ht hs pl pu (by rw [hlen];exact hw) ?_ (by rw [hlen];exact hz)
 rw [hlen]
 refine ⟨.ref s.heap.objs.size,_,I.laid (t':=s.toks) (o := .tup (pK xs lo hi)) (λb ob q=>c7 _ q) (bR _) ?_,rfl,q _ (I.hok.fresh (bR _))⟩
 exact ⟨Nat.le_trans (Tg xs lo hi) hz,_,(r.drop (HT.sIx xs.length 0 lo)).take (HT.sIx xs.length xs.length hi - HT.sIx xs.length 0 lo),IsTup.new _ _⟩
def zX (K:PySem.W.Frag):R2:=λx y H Q=>∃ a b xs ys,x = .ref a/\y = .ref b/\dF K H a xs/\dF K H b ys/\xs≠[]/\xs.length+ys.length<=sizeLine /\
 (ys=[]->Q (.ref a) H)/\(ys≠[]->∀ p,H p=none->Q (.ref p) (upd H p (.tup (xs++ys))))
theorem Vals.nil_iff {xs:List V} {us:List Value} (r:Vals xs us):us=[]↔xs=[]:=by
 cases r with
 | nil=>simp
 | cons _ _=>simp
theorem Z0:eH X (binaryOp .Add) (zX X.K):=by
 intro pins s σ H x y v u Q I rx ry h
 obtain ⟨a,b,xs,ys,rfl,rfl,ha,hb,hx,hz,q1,q2⟩:=h
 cases rx
 cases ry
 obtain ⟨its,r1,p1,_⟩:=I.tuple ha
 obtain ⟨its2,r2,p2,_⟩:=I.tuple hb
 refine HT.zoi p1 p2 (λz=>hx (r1.nil_iff.mp z)) (λz=>⟨.ref a,H,I,rfl,q1 (r2.nil_iff.mp z)⟩) (λz=>?_) (by rw [<-r1.length,<-r2.length];exact hz)
 refine ⟨.ref s.heap.objs.size,_,I.laid (t':=s.toks) (o := .tup (xs++ys)) (λb ob q=>c7 _ q) (bR _) ?_,rfl,q2 (λw=>z (r2.nil_iff.mpr w)) _ (I.hok.fresh (bR _))⟩
 exact ⟨by rw [gQ];exact hz,_,r1.append r2,IsTup.new _ _⟩
end
def qF (n:Nat) (i:Int):Option Nat:=if 0<=i then (if i<n then some i.toNat else none) else if -(n:Int)<=i then some (i+n).toNat else none
def fj {α:Type} (xs:List α) (i:Int):Option α:=(qF xs.length i).bind λj=>xs[j]?
theorem ZM {n:Nat} {i:Int} {j:Nat} (h:qF n i=some j):seqIndex? i n=some j/\j<n /\ -(n:Int)<=i/\i<n:=by
 unfold qF at h
 by_cases h0:0<=i
 ·rw [if_pos h0] at h
  by_cases h1:i<n
  ·rw [if_pos h1] at h
   have e:i.toNat=j:=Option.some.inj h
   exact ⟨by rw [seqIndex_of h0 h1,e],by omega,by omega,h1⟩
  ·rw [if_neg h1] at h;cases h
 ·rw [if_neg h0] at h
  by_cases h1 : -(n:Int)<=i
  ·rw [if_pos h1] at h
   have e:(i+n).toNat=j:=Option.some.inj h
   exact ⟨by rw [seqIndex_neg (by omega) h1,e],by omega,h1,by omega⟩
  ·rw [if_neg h1] at h;cases h
theorem H9 {α:Type} {xs:List α} {i:Int} {v:α} (h:fj xs i=some v):∃ j,seqIndex? i xs.length=some j/\xs[j]?=some v/\j<xs.length /\ -(xs.length:Int)<=i/\i<xs.length:=by
 unfold fj at h
 cases e:qF xs.length i with
 | none=>rw [e] at h;cases h
 | some j =>
  rw [e] at h
  obtain ⟨h1,h2,h3,h4⟩:=ZM e
  exact ⟨j,h1,h,h2,h3,h4⟩
theorem yC {α:Type} {xs:List α} {j:Nat} {v:α} (h:xs[j]?=some v):fj xs (j:Int)=some v:=by
 have hj:j<xs.length:=(dN.mp h).1
 have e:qF xs.length (j:Int)=some j:=by
  unfold qF
  rw [if_pos (by omega),if_pos (by omega)];simp
 unfold fj;rw [e];exact h
def GJ (b:Expr):Prop:=∀ o i,subscripted b false o i=operate [o,i] (getItem o i)
def Br (X:Cx) (r:R2):Prop :=
 ∀ (value slice:Expr) (pins:List (Addr×Obj)) (s:Shared) (σ:St) (H:Hp) (x y:V) (v u:Value) (Q:VK),Inv X pins σ H s->RelV x v->RelV y u->r x y H Q ->
  subscripted slice false v u=operate [v,u] (getItem v u)->wpAny (model X.prog X.w) X.A (subscriptTail value slice v u) (EP X pins σ Q) X.xe s
def pF (X:Cx) (id:String) (r:V->List V->Hp->VK->Prop):Prop :=
 ∀ (pins:List (Addr×Obj)) (s:Shared) (σ:St) (H:Hp) (x:V) (xs:List V) (v:Value) (us:List Value) (Q:VK),Inv X pins σ H s->RelV x v->Vals xs us->r x xs H Q ->
  wpAny (model X.prog X.w) X.A (call (.builtin id) (v::us)) (EP X pins σ Q) X.xe s
section
variable {X:Cx} {a b:Expr} {ta tb:TE} {pos:Pos}
theorem Wh {r:R2} (hr:Br X r) (ha:PE X a ta) (hb:PE X b tb) (hs:GJ b):PE X (.Subscript a b pos) (Fj r ta tb):=by
 intro pins s σ H Q I h
 exact Subscript_ (vH ha hb I h λv u s2 x y H2 I2 rx ry q=>hr a b pins s2 σ H2 x y v u Q I2 rx ry q (hs _ _))
def Mp (K:PySem.W.Frag):R2:=λx y H Q=>∃ p xs i v,x = .ref p/\y = .int i/\dh K H p xs/\fj xs i=some v/\Q v H
def Mj (K:PySem.W.Frag):R2:=λx y H Q=>∃ p xs i v,x = .ref p/\y = .int i/\dF K H p xs/\fj xs i=some v/\Q v H
def Ml:R2:=λx y H Q=>∃ z i c,x = .str z/\y = .int i/\z.length<=sizeLine/\fj z.cps.toList i=some c/\Q (.str ⟨#[c]⟩) H
theorem Qc:Br X (Mp X.K):=by
 intro value slice pins s σ H x y v u Q I rx ry h hs
 obtain ⟨p,xs,i,z,rfl,rfl,hq,he,q⟩:=h
 cases rx
 obtain ⟨t,rfl⟩:=ry
 obtain ⟨its,r,pl,hz⟩:=I.list hq
 obtain ⟨j,h1,h2,h3,h4,h5⟩:=H9 he
 obtain ⟨w,ew,dX⟩:=r.get h2
 have hl:=r.length
 have hn:=v7
 have fin:EP X pins σ Q w s:=⟨z,H,I,dX,q⟩
 by_cases h0:0<=i
 ·have hj:i.toNat=j:=by
   rw [seqIndex_of h0 h5] at h1
   exact Option.some.inj h1
  exact item_listR pl.isList h0 (by omega) (by rw [hj];simpa using ew) fin hs
 ·have hj:(i+(its.toArray.size:Int)).toNat=j:=by
   rw [seqIndex_neg (by omega) h4] at h1
   rw [dH,<-hl]
   exact Option.some.inj h1
  exact subscriptTail_builtinR (x:=w) pl.isList.typeIs slot_list_getitem.lookup
   (wpAny_getItem_list_neg (Q:=λr s'=>r=w/\EP X pins σ Q r s') pl.isList (by omega) (by rw [dH]<;>omega) (by omega) (by rw [hj];simpa using ew) ⟨rfl,fin⟩) hs
theorem XF:Br X (Mj X.K):=by
 intro value slice pins s σ H x y v u Q I rx ry h hs
 obtain ⟨p,xs,i,z,rfl,rfl,hq,he,q⟩:=h
 cases rx
 obtain ⟨t,rfl⟩:=ry
 obtain ⟨its,r,pl,hz⟩:=I.tuple hq
 obtain ⟨j,h1,h2,h3,h4,h5⟩:=H9 he
 obtain ⟨w,ew,dX⟩:=r.get h2
 have hl:=r.length
 have hn:=v7
 have fin:EP X pins σ Q w s:=⟨z,H,I,dX,q⟩
 exact subscriptTail_builtinR (x:=w) pl.typeIs slot_tuple_getitem.lookup
  (getItem_tuple (j:=j) (Q:=λr s'=>r=w/\EP X pins σ Q r s') pl (by omega) (by omega) (by rw [dH,<-hl];exact h1) (by simpa using ew) ⟨rfl,fin⟩) hs
theorem XD:Br X Ml:=by
 intro value slice pins s σ H x y v u Q I rx ry h hs
 obtain ⟨z,i,c,rfl,rfl,hz,he,q⟩:=h
 obtain ⟨t,rfl⟩:=rx
 obtain ⟨t',rfl⟩:=ry
 obtain ⟨j,h1,h2,h3,h4,h5⟩:=H9 he
 have hl:z.cps.toList.length=z.length:=by simp [Str.length]
 rw [hl] at h1 h4 h5
 have hn:=v7
 exact tail_any (typeIs_str s z t) slot_str_getitem.lookup (getItem_str (c:=c) (by
  have e1:decide (i < -(2 ^ 63:Int))=false:=decide_eq_false (by omega)
  have e2:decide (i ≥ 2 ^ 63)=false:=decide_eq_false (by omega)
  rw [e1,e2,Bool.or_false]) (by rw [h1];simpa using h2) ⟨.str ⟨#[c]⟩,H,I.tok _,⟨_,rfl⟩,q⟩) hs
theorem zgq (lo hi:Option Int) (n:Nat):(sliceBounds lo hi none n).1=((HT.sIx n 0 lo:Nat):Int)/\(sliceBounds lo hi none n).2.1=((HT.sIx n n hi:Nat):Int)/\(sliceBounds lo hi none n).2.2=1:=by
 refine ⟨?_,?_,rfl⟩
 ·cases lo with
  | none=>simp [sliceBounds,HT.sIx]
  | some i =>
   simp only [sliceBounds,HT.sIx,Option.getD_none,show (1:Int)>0 by decide,if_true]
   by_cases h:i<0
   ·simp only [h,if_true]<;>omega
   ·simp only [h,if_false]<;>omega
 ·cases hi with
  | none=>simp [sliceBounds,HT.sIx]
  | some i =>
   simp only [sliceBounds,HT.sIx,Option.getD_none,show (1:Int)>0 by decide,if_true]
   by_cases h:i<0
   ·simp only [h,if_true]<;>omega
   ·simp only [h,if_false]<;>omega
theorem zfT (its:List Value) (lo hi:Option Int):slicePick its.toArray lo hi none=((its.drop (HT.sIx its.length 0 lo)).take (HT.sIx its.length its.length hi - HT.sIx its.length 0 lo)).toArray:=by
 obtain ⟨h1,h2,h3⟩:=zgq lo hi its.toArray.size
 unfold slicePick
 rw [h1,h2,h3]
 simp only [sliceRange_one,pick_run,dH]<;>rfl
def zW (K:PySem.W.Frag):V->Option Int->Option Int->Hp->VK->Prop:=λx lo hi H Q=>∃ a xs,x = .ref a/\dh K H a xs/\∀ p,H p=none->Q (.ref p) (upd H p (.lst (pK xs lo hi)))
theorem zmQ:pC X (zW X.K):=by
 intro pins s σ H x v vl vu lo hi sl Q I rx hs pl pu h
 obtain ⟨a,xs,rfl,hx,q⟩:=h
 cases rx
 obtain ⟨its,r,ht,hz⟩:=I.list hx
 have hlen:=r.length
 refine ⟨"list",_,slot_list_getitem.lookup,ht.isList.typeIs,?_⟩
 refine wpAny_getItem_list_slice ht.isList hs pl pu .none (by simp) ?_ (by rw [dH]<;>omega)
 rw [zfT,<-hlen]
 refine ⟨.ref s.heap.objs.size,_,I.laid (t':=s.toks) (o := .lst (pK xs lo hi)) (λb ob q=>c7 _ q) (bR _) ?_,rfl,q _ (I.hok.fresh (bR _))⟩
 exact ⟨Nat.le_trans (Tg xs lo hi) hz,_,0,(r.drop (HT.sIx xs.length 0 lo)).take (HT.sIx xs.length xs.length hi - HT.sIx xs.length 0 lo),fZ _ rfl⟩
theorem TV:gG X (.builtin "len") (λxs H Q=>∃ p ys,xs=[.ref p]/\(dh X.K H p ys\/dF X.K H p ys)/\Q (.int ys.length) H):=by
 intro pins s σ H xs us Q I r h
 obtain ⟨p,ys,rfl,hq,q⟩:=h
 obtain ⟨u,rfl,rx⟩:=oX r
 cases rx
 have hn:=v7
 rcases hq with hq | hq
 ·obtain ⟨its,r',pl,hz⟩:=I.list hq
  have hlen:=r'.length
  exact Calls.call_len_list pl.isList (by simp only [dH]<;>omega) ⟨.int ys.length,H,I.tok _,⟨s.toks+1,by rw [dH,hlen]⟩,q⟩
 ·obtain ⟨its,r',pl,hz⟩:=I.tuple hq
  have hlen:=r'.length
  exact len_tuple pl (by simp only [dH]<;>omega) ⟨.int ys.length,H,I.tok _,⟨s.toks+1,by rw [dH,hlen]⟩,q⟩
theorem zgR:gG X (.builtin "len") (λxs H Q=>∃ z,xs=[.str z]/\z.length<=sizeLine/\Q (.int z.length) H):=by
 intro pins s σ H xs us Q I r h
 obtain ⟨z,rfl,hz,q⟩:=h
 obtain ⟨u,rfl,t,rfl⟩:=oX r
 have hn:=v7
 exact len_str (by omega) ⟨.int z.length,H,I.tok _,⟨_,rfl⟩,q⟩
theorem TX:gG X (.type "list") (λxs H Q=>∃ p ys,xs=[.ref p]/\(dh X.K H p ys\/dF X.K H p ys)/\∀ l,H l=none->Q (.ref l) (upd H l (.lst ys))):=by
 intro pins s σ H xs us Q I r h
 obtain ⟨p,ys,rfl,hq,q⟩:=h
 obtain ⟨u,rfl,rx⟩:=oX r
 cases rx
 have fin:∀ (its:List Value),Vals ys its->ys.length<=sizeLine->∀ (h':Heap) (c':Nat),(∀ b o',s.heap.get? b=some o'->h'.get? b=some o') ->
  h'.get? s.heap.objs.size=some { cls := .type "list",dict:=none,data := .seq its.toArray c',slots:=#[] }->EP X pins σ Q (.ref s.heap.objs.size) { s with heap:=h' }:=λits r' hz h' c' kp e =>
  ⟨.ref s.heap.objs.size,_,I.laid (t':=s.toks) kp (bR _) (show bO X.prog X.w _ h' _ (.lst ys) from ⟨hz,its,c',r',e⟩),rfl,q _ (I.hok.fresh (bR _))⟩
 rcases hq with hq | hq
 ·obtain ⟨its,r',pl,hz⟩:=I.list hq
  have hlen:=r'.length
  obtain ⟨o,ho,hc,n,hd⟩:=pl.isList
  exact call_list_seq p (.inl rfl) ho hc hd (λh' c' kp e=>fin its r' hz h' c' kp e) (by simp only [dH]<;>omega)
 ·obtain ⟨its,r',pl,hz⟩:=I.tuple hq
  have hlen:=r'.length
  obtain ⟨o,ho,hc,n,hd⟩:=pl
  exact call_list_seq p (.inr rfl) ho hc hd (λh' c' kp e=>fin its r' hz h' c' kp e) (by simp only [dH]<;>omega)
theorem Uk:gG X (.type "tuple") (λxs H Q=>∃ p ys,xs=[.ref p]/\((dh X.K H p ys/\∀ l,H l=none->Q (.ref l) (upd H l (.tup ys)))\/(dF X.K H p ys/\Q (.ref p) H))):=by
 intro pins s σ H xs us Q I r h
 obtain ⟨p,ys,rfl,h⟩:=h
 obtain ⟨u,rfl,rx⟩:=oX r
 cases rx
 rcases h with ⟨hq,q⟩ | ⟨hq,q⟩
 ·obtain ⟨its,r',pl,hz⟩:=I.list hq
  have hlen:=r'.length
  refine call_tuple_list pl.isList (λh' kp=>?_) (by simp only [dH]<;>omega)
  have I1:Inv X pins σ H { s with heap:=h' }:=I.kept (t':=s.toks) kp
  have I2:Inv X pins σ (upd H h'.objs.size (.tup ys)) { s with heap:=h'.push { cls := .type "tuple",data := .seq its.toArray } } :=
   I1.laid (t':=s.toks) (λb o e=>c7 _ e) (bR _) (show bO X.prog X.w _ _ _ (.tup ys) from ⟨hz,its,r',IsTup.new _ _⟩)
  exact ⟨.ref h'.objs.size,_,I2,rfl,q _ (I1.hok.fresh (bR _))⟩
 ·obtain ⟨its,r',pl,hz⟩:=I.tuple hq
  exact call_tuple_same pl ⟨.ref p,H,I,rfl,q⟩
def Le (K:PySem.W.Frag) (T:String) (x:V) (H:Hp):Prop:=match x with
 | .str _=>T = "str"
 | .int _=>T = "int"
 | .ref p=>(T = "list" /\ ∃ xs,dh K H p xs)\/(T = "tuple" /\ ∃ o,K.lookup p=some o/\o.cls = .type "tuple" /\ o.dict=none) \/
  (T = "dict" /\ ((∃ kvs,H p=some (.dK kvs))\/∃ kvs,H p=some (.dT kvs)))\/(T = "set" /\ ∃ S n,H p=some (.set S n))
 | _=>False
theorem Pz {pins:List (Addr×Obj)} {σ:St} {H:Hp} {s:Shared} {T:String} {x:V} {v:Value} (I:Inv X pins σ H s) (r:RelV x v) (ty:Le X.K T x H) :
 s.TypeIs v T/\∀ a,v = .ref a->∃ ob,s.heap.get? a=some ob/\ob.dict=none:=by
 cases x with
 | str z =>
  obtain ⟨t,rfl⟩:=r
  cases (show T = "str" from ty)
  exact ⟨typeIs_str s z t,λ_ e=>nomatch e⟩
 | int i =>
  obtain ⟨t,rfl⟩:=r
  cases (show T = "int" from ty)
  exact ⟨typeIs_int s i t,λ_ e=>nomatch e⟩
 | ref p =>
  cases r
  rcases ty with ⟨rfl,xs,hq⟩ | ⟨rfl,o,hk,hc,hd⟩ | ⟨rfl,hk⟩ | ⟨rfl,S,n,hk⟩
  ·obtain ⟨its,_,pl,_⟩:=I.list hq
   refine ⟨pl.isList.typeIs,λa e=>?_⟩
   cases e
   obtain ⟨o,n,e,c,hd,_⟩:=pl
   exact ⟨o,e,hd⟩
  ·refine ⟨⟨o,I.kIn p o hk,hc⟩,λa e=>?_⟩
   cases e
   exact ⟨o,I.kIn _ o hk,hd⟩
  ·have z:∃ o,s.heap.get? p=some o/\o.ExactDict:=by
    rcases hk with ⟨kvs,hk⟩ | ⟨kvs,hk⟩
    ·obtain ⟨_,_,_,_,o,_,_,e,ex,_⟩:=I.hok p _ hk
     exact ⟨o,e,ex⟩
    ·obtain ⟨_,_,_,_,o,_,_,e,ex,_⟩:=I.hok p _ hk
     exact ⟨o,e,ex⟩
   obtain ⟨o,e,ex⟩:=z
   refine ⟨⟨o,e,ex.1⟩,λa e2=>?_⟩
   cases e2
   exact ⟨o,e,ex.2.1⟩
  ·obtain ⟨o,_,_,_,e,ex,_⟩:=I.hok p _ hk
   refine ⟨⟨o,e,ex.1⟩,λa e2=>?_⟩
   cases e2
   exact ⟨o,e,ex.2.1⟩
 | _=>exact False.elim ty
def Ly (K:PySem.W.Frag) (T:String) (r:V->List V->Hp->VK->Prop) (to:TE):TE:=λσ H Q=>to σ H λx H1=>Le K T x H1/\r x [] H1 Q
def tBM (K:PySem.W.Frag) (T:String) (r:V->List V->Hp->VK->Prop) (to:TE) (t:TA):TE:=λσ H Q=>to σ H λx H1=>Le K T x H1/\t σ H1 λxs H2=>r x xs H2 Q
variable {o e:Expr} {es:List Expr} {to:TE} {t:TA} {name:Str} {apos cpos:Pos} {T id:String} {r:V->List V->Hp->VK->Prop}
theorem Xr (pa:PlainAttrs T) (slot:Slot T name id) (hty:typeOf (.builtin id)=pure (.type "method_descriptor")) (hm:pF X id r) (ho:PE X o to)
 (hbase:attributeBase o name X.env (eval o X.env)=eval o X.env:=by rfl) (hline:(apos.endLine==cpos.line)=true:=by rfl):PE X (.Call (.Attribute o name apos) [] [] cpos) (Ly X.K T r to):=by
 intro pins s σ H Q I h
 refine wpAny_Call_method0_late hbase hline (bL (ho pins s σ H _ I h) λv s1 ⟨x,H1,I1,r1,ty,q1⟩=>?_)
 obtain ⟨h1,h2⟩:=Pz I1 r1 ty
 exact ⟨T,id,pa,slot,hty,h1,h2,Calls.callWith_builtin rfl (PySem.evalArgs_none (hm pins s1 σ H1 x [] v [] Q I1 r1 .nil q1))⟩
theorem Om (pa:PlainAttrs T) (slot:Slot T name id) (hty:typeOf (.builtin id)=pure (.type "method_descriptor")) (hm:pF X id r) (ho:PE X o to) (ha:PA X (e::es) t)
 (hbase:attributeBase o name X.env (eval o X.env)=eval o X.env:=by rfl)
 (hfew:((backTo cpos (starEach (e::es) X.env)).all (λx => !x.1)&&(backToKw cpos (keywordEach [] X.env)).all (λx=>x.1.isSome)
  && decide ((e::es).length+([]:List Keyword).length+(if ([]:List Keyword).isEmpty then 0 else 1)<30))=true:=by rfl)
 (hline:(apos.endLine==cpos.line)=true:=by rfl) (hs:starEach (e::es) X.env=(false,eval e X.env)::starEach es X.env:=by rfl) (hplain:(backTo cpos (starEach es X.env)).any (·.1)=false:=by rfl) :
 PE X (.Call (.Attribute o name apos) (e::es) [] cpos) (tBM X.K T r to t):=by
 intro pins s σ H Q I h
 refine wpAny_Call_method_late hbase hfew hline rfl (bL (ho pins s σ H _ I h) λv s1 ⟨x,H1,I1,r1,ty,q1⟩=>?_)
 obtain ⟨h1,h2⟩:=Pz I1 r1 ty
 refine ⟨T,id,pa,slot,hty,h1,h2,?_⟩
 have hA:=ha cpos pins s1 σ H1 _ I1 q1
 rw [hs] at hA ⊢
 refine Calls.callWith_builtin (by show (false||(backTo cpos (starEach es X.env)).any (·.1))=false;rw [hplain]<;>rfl) (Calls.evalArgs_plain ?_)
 exact bL hA λus s2 ⟨vs,H2,I2,r2,q2⟩=>hm pins s2 σ H2 x vs v us Q I2 r1 r2 q2
end
def Ga (X:Cx) (id:String) (r:V->List V->Hp->VK->Prop):Prop :=
 ∀ (pins:List (Addr×Obj)) (s:Shared) (σ:St) (H:Hp) (x:V) (xs:List V) (v:Value) (us:List Value) (Q:VK),Inv X pins σ H s->RelV x v->Vals xs us->r x xs H Q ->
  wpAny (model X.prog X.w) X.A (call (.builtin id) (v::us)) (EP X pins σ Q) X.xe s
theorem Vals.one:∀ {x:V} {us:List Value},Vals [x] us->∃ u,us=[u]/\RelV x u
 | _,_,.cons r .nil=>⟨_,rfl,r⟩
theorem Vals.zero:∀ {us:List Value},Vals [] us->us=[]
 | _,.nil=>rfl
theorem Vals.dropLast {xs:List V} {us:List Value} (h:Vals xs us):Vals xs.dropLast us.dropLast:=by
 induction h with
 | nil=>exact .nil
 | cons r t ih =>
  cases t with
  | nil=>exact .nil
  | cons q t'=>exact .cons r ih
theorem Vals.eraseIdx:∀ {xs:List V} {us:List Value} (i:Nat),Vals xs us->Vals (xs.eraseIdx i) (us.eraseIdx i)
 | _,_,_,.nil => .nil
 | _,_,0,.cons _ t=>t
 | _,_,i+1,.cons r t => .cons r (Vals.eraseIdx i t)
theorem zi2 {α:Type} (l:List α):l.eraseIdx (l.length - 1)=l.dropLast:=by
 induction l with
 | nil=>rfl
 | cons a r ih =>
  cases r with
  | nil=>rfl
  | cons b r =>
   have e:(a::b::r).length - 1=((b::r).length - 1)+1:=by
    have h1:(a::b::r).length=r.length+2:=rfl
    have h2:(b::r).length=r.length+1:=rfl
    omega
   rw [e,List.eraseIdx_cons_succ,ih]
   all_goals rfl
theorem R8 {α:Type}:∀ (l:List α) (i:Nat),(l.eraseIdx i).length<=l.length
 | [],_=>bR _
 | _::_,0=>Nat.le_succ _
 | _::r,i+1=>Nat.succ_le_succ (R8 r i)
section
variable {X:Cx} {pins:List (Addr×Obj)} {σ:St} {H:Hp} {s:Shared} {l b:Addr} {xs ys zs:List V}
theorem Inv.lset {its its':List Value} {n:Nat} {f:Array Value->Array Value} {t':Nat} (I:Inv X pins σ H s) (hH:H l=some (.lst xs))
 (e:s.heap.get? l=some { cls := .type "list",data := .seq its.toArray n }) (hf:f its.toArray=its'.toArray) (hv:Vals ys its') (hz:ys.length<=sizeLine) :
 Inv X pins σ (upd H l (.lst ys)) { s with heap:=s.heap.update l (Obj.mapSeq f),toks:=t' }:=by
 have q:=PySem.IsL.update e f
 rw [hf] at q
 refine I.write (x:=l) (e:=l) (by rw [hH];exact trivial) (.inl rfl) (λb' u hb hu=>(Heap.get?_update_other s.heap (Obj.mapSeq f) (Ne.symm hb)).trans hu) ⟨_,q⟩ ?_
 exact ⟨hz,its',_,hv,q⟩
theorem Inv.lnew {its:List Value} {t':Nat} (I:Inv X pins σ H s) (hv:Vals ys its) (hz:ys.length<=sizeLine) :
 Inv X pins σ (upd H s.heap.objs.size (.lst ys)) { s with heap:=s.heap.push { cls := .type "list",data := .seq its.toArray },toks:=t' } :=
 I.laid (λ_ _ q=>c7 _ q) (bR _) ⟨hz,its,0,hv,fZ _ rfl⟩
theorem Inv.fresh (I:Inv X pins σ H s):H s.heap.objs.size=none:=I.hok.fresh (bR _)
theorem Inv.lstM (I:Inv X pins σ H s) (hH:H l=some (.lst xs)):xs.length<=sizeLine/\∃ (its:List Value) (n:Nat),Vals xs its/\xs.length=its.length/\s.heap.get? l=some { cls := .type "list",data := .seq its.toArray n }:=by
 obtain ⟨z,its,n,r,e⟩:=I.hok l _ hH
 exact ⟨z,its,n,r,r.length,e⟩
theorem Og {n:Nat} (h:n<=sizeLine):Builtin.List.listTooLong n=false:=by
 unfold Builtin.List.listTooLong
 exact decide_eq_false (by omega)
end
section
variable {X:Cx}
def qy:V->List V->Hp->VK->Prop:=λx vs H Q=>∃ l xs y,x = .ref l/\vs=[y]/\H l=some (.lst xs)/\xs.length<sizeLine/\Q .non (upd H l (.lst (xs++[y])))
theorem zjQ:Ga X "list.append" qy:=by
 intro pins s σ H x vs v us Q I rx rv h
 obtain ⟨l,xs,y,rfl,rfl,hH,hz,q⟩:=h
 cases rx
 obtain ⟨u,rfl,ru⟩:=rv.one
 obtain ⟨z,its,n,r,hl,e⟩:=I.lstM hH
 refine call_meets F.slot_list_append ⟨_,e,rfl⟩ F.entry_list_append (F.args_list_append_2 _ _) (PySem.list_append l its.toArray n u (by rw [dH];omega)) ⟨e,?_⟩
 refine ⟨.non,_,I.lset (its':=its++[u]) hH e (by simp) (r.append (.cons ru .nil)) ?_,rfl,q⟩
 rw [gQ,List.length_singleton]
 omega
def qx:V->List V->Hp->VK->Prop:=λx vs H Q=>∃ l b xs zs,x = .ref l/\vs=[.ref b]/\H l=some (.lst xs)/\H b=some (.lst zs)/\xs.length+zs.length<=sizeLine/\Q .non (upd H l (.lst (xs++zs)))
theorem zjP:Ga X "list.extend" qx:=by
 intro pins s σ H x vs v us Q I rx rv h
 obtain ⟨l,b,xs,zs,rfl,rfl,hH,hB,hz,q⟩:=h
 cases rx
 obtain ⟨u,rfl,ru⟩:=rv.one
 cases ru
 obtain ⟨z,its,n,r,hl,e⟩:=I.lstM hH
 obtain ⟨z2,its2,n2,r2,hl2,e2⟩:=I.lstM hB
 have hsz:its.toArray.size+its2.toArray.size<=sizeLine:=by rw [dH,dH];omega
 have nU:¬ (!its.toArray.isEmpty&&Builtin.List.listTooLong (its.toArray.size+its2.toArray.size))=true:=by
  rw [Og hsz,Bool.and_false]
  exact fQ
 refine call_meets F.slot_list_extend ⟨_,e,rfl⟩ F.entry_list_extend (F.args_list_extend_2 _ _)
  (AutoSeq1.list_extend_list_list_0 l its.toArray n b its2.toArray n2 nU (by rw [dH];omega) (by omega)) ⟨e,e2,?_⟩
 refine ⟨.non,_,I.lset (its':=its++its2) hH e (by simp) (r.append r2) ?_,rfl,q⟩
 rw [gQ]
 omega
def Mi:V->List V->Hp->VK->Prop:=λx vs H Q=>∃ l xs y,x = .ref l/\vs=[]/\H l=some (.lst xs)/\xs[xs.length - 1]?=some y/\Q y (upd H l (.lst xs.dropLast))
theorem Xf:Ga X "list.pop" Mi:=by
 intro pins s σ H x vs v us Q I rx rv h
 obtain ⟨l,xs,y,rfl,rfl,hH,hy,q⟩:=h
 cases rx
 have hus:=rv.zero
 subst hus
 obtain ⟨z,its,n,r,hl,e⟩:=I.lstM hH
 obtain ⟨u,hu,ru⟩:=r.get hy
 have hy':its.toArray[its.toArray.size - 1]?=some u:=by
  show its.toArray[its.length - 1]?=some u
  rw [<-Array.getElem?_toList,<-hl]
  exact hu
 refine call_meets F.slot_list_pop ⟨_,e,rfl⟩ F.entry_list_pop (F.args_list_pop_1 _) (MeetsSeq.list_pop_last l its.toArray n u hy' (by rw [dH];omega)) ⟨e,?_⟩
 refine ⟨y,_,I.lset (its':=its.dropLast) hH e ?_ r.dropLast ?_,ru,q⟩
 ·show its.toArray.eraseIdxIfInBounds (its.toArray.size - 1)=its.dropLast.toArray
  rw [dH,List.eraseIdxIfInBounds_toArray,zi2]
 ·rw [List.length_dropLast]
  omega
def uO:V->List V->Hp->VK->Prop:=λx vs H Q=>∃ l xs i k y,x = .ref l/\vs=[.int i]/\H l=some (.lst xs) /\ -(2 ^ 63)<=i/\i<2 ^ 63/\seqIndex? i xs.length=some k/\xs[k]?=some y/\Q y (upd H l (.lst (xs.eraseIdx k)))
theorem zly:Ga X "list.pop" uO:=by
 intro pins s σ H x vs v us Q I rx rv h
 obtain ⟨l,xs,i,k,y,rfl,rfl,hH,h1,h2,hk,hy,q⟩:=h
 cases rx
 obtain ⟨u,rfl,ru⟩:=rv.one
 obtain ⟨t,rfl⟩:=ru
 obtain ⟨z,its,n,r,hl,e⟩:=I.lstM hH
 obtain ⟨w,hw,dX⟩:=r.get hy
 refine call_meets F.slot_list_pop ⟨_,e,rfl⟩ F.entry_list_pop (F.args_list_pop_2 _ _)
  (MeetsSeq.list_pop_at l its.toArray n i t k w (fitsIndex_both h1 h2) (by rw [dH,<-hl];exact hk) (by rw [<-Array.getElem?_toList];exact hw) (by rw [dH];omega)) ⟨e,?_⟩
 refine ⟨y,_,I.lset (its':=its.eraseIdx k) hH e ?_ (r.eraseIdx k) ?_,dX,q⟩
 ·show its.toArray.eraseIdxIfInBounds k=(its.eraseIdx k).toArray
  rw [List.eraseIdxIfInBounds_toArray]
 ·have:=R8 xs k
  omega
def Mq:R2:=λx y H Q=>∃ l b xs zs,x = .ref l/\y = .ref b/\H l=some (.lst xs)/\H b=some (.lst zs)/\xs.length+zs.length<=sizeLine/\∀ p,H p=none->Q (.ref p) (upd H p (.lst (xs++zs)))
theorem Xk:eH X (binaryOp .Add) Mq:=by
 intro pins s σ H x y v u Q I rx ry h
 obtain ⟨l,b,xs,zs,rfl,rfl,hH,hB,hz,q⟩:=h
 cases rx
 cases ry
 obtain ⟨z,its,n,r,hl,e⟩:=I.lstM hH
 obtain ⟨z2,its2,n2,r2,hl2,e2⟩:=I.lstM hB
 refine PySem.P.add_list e e2 ?_ (by rw [dH,dH];omega)
 have ea:its.toArray++its2.toArray=(its++its2).toArray:=by simp
 rw [ea]
 exact ⟨.ref _,_,I.lnew (t':=s.toks) (r.append r2) (by rw [gQ];omega),rfl,q _ I.fresh⟩
end
section
variable {prog:Program} {w:World} {A:Around} {E:Value->Shared->Prop} {s:Shared}
end
section
variable {X:Cx}
end
end L2
namespace Vm
open PySem PySem.W PySem.Calls PyProof.Rows
theorem ze5 {P:Params} {h:Heap}:∀ (ns:List Int) (vs:List Value),WellAll P h vs (ns.map WData.int)->IntsAre vs ns:=by
 intro ns
 induction ns with
 | nil =>
  intro vs w
  rw [List.map_nil] at w
  cases w
  exact .nil
 | cons n ns ih =>
  intro vs w
  rw [iM] at w
  cases w with
  | cons a b =>
   cases a
   exact .cons _ _ (ih _ b)
theorem zjw {l:OpenLaw} {n:Nat} (hn:l.most=some n) {P:Params} {h:Heap} {args:List WData} {vals:List Value}
 (hpre:l.row.toRowW.claim.pre args=true) (hwl:WellAll P h vals args) :
 ∃ a vs ns,vals=[Value.ref a]/\args=[WData.list (ns.map WData.int)]/\h.get? a=some { cls := .type "list",data := .seq vs.toArray }/\IntsAre vs ns/\ns.length<=n:=by
 have hsh:WShape.hasAll [] args [.list .int]=true:=(pre_splitW hpre).1
 have hc:l.pre.holds [] { args:=args }=true:=(pre_splitW hpre).2
 obtain ⟨d,r,rfl,h1,h2⟩:=hasAllW_cons hsh
 obtain rfl:=hasAllW_nil h2
 obtain ⟨xs,rfl,h3⟩:=hasW_list h1
 obtain ⟨ns,rfl⟩:=items_int h3
 have hlen:ns.length<=n:=by
  unfold OpenLaw.pre at hc
  have h4:(WTm.not (.lt (.lit (.int (n:Int))) (.len (.arg 0)))).holds [] { args:=[.list (ns.map .int)] }=true:=by
   have h4:=(holds_andW hc).1
   rw [hn] at h4
   exact h4
  have h5:=condW_of h4 (w_not (w_lt w_lit (w_len_list (w_arg rfl))))
  rw [cQ] at h5
  refine Nat.le_of_not_lt λq=>?_
  have q':(n:Int)<((ns.length:Nat):Int):=by omega
  first
   | (rw [decide_eq_true q'] at h5;exact absurd h5 (by decide))
   | (simp at h5;omega)
 cases hwl with
 | cons w1 w2 =>
  cases w2
  cases w1 with
  | list ho hall=>exact ⟨_,_,ns,rfl,rfl,ho,ze5 ns _ hall,hlen⟩
theorem zjB (l:OpenLaw) (args:List WData):l.row.toRowW.claim.post args (.bool true) args=true :=
 postW_of (r:=l.row.toRowW) (X:=(true==true))
  (show WShape.has [] (.bool true) .bool=true by first | rfl | decide | simp [WShape.has,WShape.arms,WShape.armsAll])
  (show (WTm.eq .res (.lit (.bool true))).value [] { args:=args,res:=some (.bool true),after:=args }=some (.bool (true==true)) from w_eq_bool (w_res rfl) w_lit) rfl
theorem zhD {l:OpenLaw} {n:Nat} {q:Program} {loose:List Str} {XP:(Str->Option Value)->Heap->Prop} {YP:World->Heap->Prop} {d:DefRec}
 (hn:l.most=some n) (hdf:d.params.defaults=[])
 (call:∀ (w:World) (s₀ s₁:Shared) (mg mb:Str->Option Value) (fa:Addr) (o:Obj) (pm cd doc:Value) (a:Addr) (vs:List Value) (ns:List Int),
  Ground q loose [] XP w s₀ mg mb s₁.heap->YP w s₁.heap ->
  s₁.heap.get? fa=some o->o.data = .func (docDef d.name d.params d.body d.scope pm cd doc)->s₁.heap.CodeRec cd d.name->mg d.name=some (.ref fa) ->
  s₁.heap.get? a=some { cls := .type "list",data := .seq vs.toArray }->IntsAre vs ns->ns.length<=n->s₁.gens=#[] ->
  codeAny (model l.prog w) callerA (.call (.ref fa) ⟨[.ref a],[]⟩) (λr s'=>r = .ok (.ret (.bool true))/\OldK s₁.heap s'.heap/\s'.os=s₁.os/\AllBare s'.gens) s₁) :
 WalkO q loose XP YP l.row.toRowW d [] (λf vs=>PySem.call f vs):=by
 intro w s₀ s₁ mg mb G Y fa o pm cd doc dV kV ho hd hcd hD hmg hg args vals as hpre hlay hrd hwl hlo
 obtain rfl:dV = .none:=Dflts.none hD hdf
 obtain rfl:kV = .none:=Dflts.noKw hD
 obtain ⟨a,vs,ns,rfl,rfl,hobj,hints,hlen⟩:=zjw hn hpre hwl
 refine enter_call (codeAny_mono (call w s₀ s₁ mg mb fa o pm cd doc a vs ns G Y ho (fd_plain hd) hcd hmg hobj hints hlen hg) λr s' hq=>?_)
 obtain ⟨rfl,h2,h3,h4⟩:=hq
 exact ⟨.inl ⟨.bool true,.bool true,[],rfl,λ_=>rfl,.bool true,zjB l _,λ_=>⟨List.Pairwise.nil,λ_ hm=>(nomatch hm)⟩⟩,h2,h3,h4⟩
section
variable {prog:Program} {w:World} {A:Around} {E:Value->Shared->Prop} {s:Shared} {K:Frag}
end
end Vm
namespace L2
open PySem PySem.Spec PyProof.Rows
theorem RK:∀ {vs:List Value} {ns:List Int},IntsAre vs ns->Vals (ns.map V.int) vs
 | _,_,.nil => .nil
 | _,_,.cons n t h => .cons ⟨t,rfl⟩ (RK h)
def jZ (s:Stmt):Arguments:=match s with
 | .FunctionDef _ a _ _ _ _ _ _ _ _=>a
 | _=>{ posonlyargs:=[],args:=[],vararg:=none,kwonlyargs:=[],kw_defaults:=[],kwarg:=none,defaults:=[] }
def gW (s:Stmt):List Stmt:=match s with
 | .FunctionDef _ _ b _ _ _ _ _ _ _=>b
 | _=>[]
def bM (s:Stmt):Scope:=match s with
 | .FunctionDef _ _ _ _ _ _ sc _ _ _=>sc
 | _=>{ kind := .function,names:=[],isGenerator:=false,isCoroutine:=false }
abbrev gP:pG:=λ_ _ _ _ _ _=>False
abbrev E0:XK:=λ_ _ _=>False
theorem Ca {X:Cx}:t7 gP X E0:=λ_ _ _ _ _ _ _ h=>h.elim
structure mJ (K:PySem.W.Frag) (x qual:Str) (st:Stmt) (f:Addr) (fd:FuncData):Prop where
 ex:∃ (oc:Value) (od:Option Addr) (kV doc pm:Value) (an:Option Addr) (cdv ct:Value) (osl:Array (Option Value)),
  fd=PySem.W.fnOf x qual (jZ st) (gW st) (bM st) .none kV doc pm an cdv ct/\K.lookup f=some ⟨oc,od,.func fd,osl⟩/\PySem.W.codeIn K cdv qual=true
 kp:PySem.W.keepIn K (.ref f)=true
section
variable {P:Program} {w:World} {K:PySem.W.Frag} {mg:Str->Option Value} {base:Heap}
theorem mJ.ok {x qual:Str} {st:Stmt} {f:Addr} {fd:FuncData} {N ps:List Str} {k:Nat} {sp:Sp} (F:mJ K x qual st f fd) (S:mR N ps (bM st)) (len:∀ vs H Q E,sp vs H Q E->vs.length=ps.length)
 (hbody:∀ (cdv:Value) (A:Around) (outer:List Env) (s:Shared) (H:Hp) (vs:List V) (Q:VK) (E:XK),bG k (A.deeper (envOfC qual (bM st) s.heap.objs.size f cdv))->sp vs H Q E ->
  ∃ t,jl (oH gP P w K mg base N qual (bM st) f cdv A outer s H E).nox (gW st) t/\t { nx:=λ_ H'=>Q .non H',rt:=Q } (start N vs) H):cN P w K mg base gP (k+1) f fd ps sp:=by
 obtain ⟨oc,od,kV,doc,pm,an,cdv,ct,osl,rfl,lk,hcd⟩:=F.ex
 refine Oq lk hcd S len λA outer s H vs Q E hr hsp=>?_
 obtain ⟨t,h,q⟩:=hbody cdv A outer s H vs Q E hr hsp
 exact ⟨t,h.nox,q⟩
theorem mJ.binds {x qual:Str} {st:Stmt} {f:Addr} {fd:FuncData} {ps:List Str} (F:mJ K x qual st f fd)
 (h:∀ (kV doc pm:Value) (an:Option Addr) (cdv ct:Value) (us:List Value),us.length=ps.length->bindArgs (PySem.W.fnOf x qual (jZ st) (gW st) (bM st) .none kV doc pm an cdv ct) ⟨us,[]⟩=pure (ps.zip us)):Binds K fd ps []:=by
 obtain ⟨oc,od,kV,doc,pm,an,cdv,ct,osl,rfl,lk,hcd⟩:=F.ex
 exact .all (h kV doc pm an cdv ct)
theorem O5 {x qual:Str} {st:Stmt} {f:Addr} {oc:Value} {od an:Option Addr} {osl:Array (Option Value)} {kV doc pm cdv ct:Value} (l:K.lookup f=some ⟨oc,od,.func (PySem.W.fnOf x qual (jZ st) (gW st) (bM st) .none kV doc pm an cdv ct),osl⟩)
 (c:PySem.W.codeIn K cdv qual=true) (k:PySem.W.keepIn K (.ref f)=true):mJ K x qual st f (PySem.W.fnOf x qual (jZ st) (gW st) (bM st) .none kV doc pm an cdv ct):=⟨⟨oc,od,kV,doc,pm,an,cdv,ct,osl,rfl,l,c⟩,k⟩
end
section
variable {X:Cx}
end
def Same (H H':Hp):Prop:=∀ b o,H b=some o->H' b=some o
theorem Same.refl (H:Hp):Same H H:=λ_ _ h=>h
end L2
end
section
namespace MX
open PySem PySem.Spec PyProof.Rows L2
abbrev NK:=List (List Int)
def Aw (k:NK):Int:=reduceHash (Builtin.Tuple.tupleHashOf (k.map λks=>reduceHash (Builtin.Tuple.tupleHashOf (ks.map hashInt))))
def Nu (x:NK×Addr×Value):DictEntry:=⟨Aw x.1,.ref x.2.1,x.2.2⟩
def N6 (h:Heap) (d:Addr) (xs:List (NK×Addr×Value)):Prop:=∃ o es,h.get? d=some o/\o.ExactDict/\o.data = .dict es xs.length/\es.toList=xs.map Nu/\(xs.map (·.1)).Nodup
def Nx (a:Addr) (xs:List (NK×Addr×Value)):HO := .ext λh=>(a==sysModules)=false/\xs.length<=sizeLine/\N6 h a xs
def qP (K:PySem.W.Frag) (H:Hp) (k:NK) (b:Addr):Prop:=∃ bs:List Addr,dF K H b (bs.map V.ref)/\Paired (λ(ks:List Int) (c:Addr)=>dF K H c (ks.map V.int)) k bs
theorem qP.mono {K:PySem.W.Frag} {H H':Hp} {k:NK} {b:Addr} (t:∀ a vs,dF K H a vs->dF K H' a vs) (h:qP K H k b):qP K H' k b:=by
 obtain ⟨bs,h1,h2⟩:=h
 refine ⟨bs,t _ _ h1,?_⟩
 clear h1
 induction h2 with
 | nil=>exact .nil
 | cons hc _ ih=>exact .cons (t _ _ hc) ih
inductive DR (K:PySem.W.Frag) (H:Hp):List (NK×Int)->List (NK×Addr×Value)->Prop
 | nil:DR K H [] []
 | cons {k:NK} {i:Int} {b:Addr} {t:Tok} {xs:List (NK×Int)} {ys:List (NK×Addr×Value)}:qP K H k b->DR K H xs ys->DR K H ((k,i)::xs) ((k,b,.int i t)::ys)
section
variable {K:PySem.W.Frag} {H H':Hp} {xs:List (NK×Int)} {ys:List (NK×Addr×Value)}
theorem DR.mono (t:∀ a vs,dF K H a vs->dF K H' a vs) (h:DR K H xs ys):DR K H' xs ys:=by
 induction h with
 | nil=>exact .nil
 | cons hc _ ih=>exact .cons (hc.mono t) ih
end
section
variable {X:Cx} {pins:List (Addr×Obj)} {σ:L2.St} {H:Hp} {s:Shared}
end
section
variable {X:Cx} {pins:List (Addr×Obj)} {σ:L2.St} {H:Hp} {s:Shared}
end
end MX
end
section
namespace MX
open PySem PySem.Spec PyProof.Rows L2
section
variable {prog:Program} {w:World} {A:Around} {E:Value->Shared->Prop} {t:Shared}
end
section
variable {X:Cx} {pins:List (Addr×Obj)} {σ:L2.St} {H:Hp} {s:Shared}
end
section
variable {prog:Program} {w:World} {A:Around} {E:Value->Shared->Prop}
theorem Oz {it l:Addr} {us:Array Value} (ne:l≠it):∀ (n i:Nat) (t:Shared) (Q:List Value->Shared->Prop),t.heap.IsListIter it l i->t.heap.IsList l us->i+n<=us.size ->
 (∀ h',h'.IsListIter it l (i+n)->Heap.SameBut it t.heap h'->Q ((us.toList.drop i).take n) { t with heap:=h' })->wpAny (model prog w) A (draw (.ref it) n) Q E t
 | 0,i,t,Q,g,_,_,q=>by
  show wpAny _ _ (pure []) Q E t
  exact bW (by simpa using q t.heap g (Heap.SameBut.refl ..))
 | n+1,i,t,Q,g,gl,le,q=>by
  have lt:i<us.size:=by omega
  show wpAny _ _ (pyNext (.ref it) >>= _) Q E t
  refine aN (wpAny_pyNext_list_item g gl (x:=us[i]) (by simp [lt]) λk₁ g₁ s₁=>?_)
  have gl₁:k₁.IsList l us:=let ⟨o,e,r⟩:=gl;⟨o,s₁.extBut _ _ ne e,r⟩
  refine aN (wpAny_holding (Oz ne n (i+1) _ _ g₁ gl₁ (by omega) λk₂ g₂ s₂=>bW ?_))
  have e:us.toList.drop i=us[i]::us.toList.drop (i+1):=by simp [List.drop_eq_getElem_cons,lt]
  have z:=q k₂ (by rw [show i+(n+1)=i+1+n by omega];exact g₂) (s₁.trans s₂)
  rw [e,List.take_succ_cons] at z
  exact z
theorem zkT {l:Addr} {us:Array Value} {t:Shared} {Q:List Value->Shared->Prop} (hh:A.handled=none) (gl:t.heap.IsList l us)
 (q:∀ h',Heap.ExtBut t.heap.objs.size t.heap h'->Q us.toList { t with heap:=h' }):wpAny (model prog w) A (unpackItems (.ref l) us.size none) Q E t:=by
 have ne:l≠t.heap.objs.size:=by obtain ⟨o,e,_⟩:=gl;exact dw (cj e)
 have gp:∀ o,(t.heap.push o).IsList l us:=λo=>let ⟨u,e,r⟩:=gl;⟨u,c7 _ e,r⟩
 unfold unpackItems notIterableAtAll
 refine aN (aN (wpAny_specialOf gl.typeIs slot_list_iter.lookup (bW ?_)))
 simp only [Bool.false_eq_true,if_false]
 refine aN (wpAny_holding (wpAny_pyIter_list gl (aN (wpAny_holding (Oz ne us.size 0 _ _ ⟨_,fZ _ rfl,rfl,rfl⟩ (gp _) (by omega) λk₁ g₁ s₁=>?_)))))
 rw [show List.take us.size (List.drop 0 us.toList)=us.toList by rw [List.drop_zero];exact List.take_of_length_le (by simp),if_neg (by simp)]
 have gl₁:k₁.IsList l us:=let ⟨o,e,r⟩:=gp _;⟨o,s₁.extBut _ _ ne e,r⟩
 refine aN (wpAny_holding (wpAny_pyNext_list_end hh g₁ gl₁ (by simp) λk₂ e₂=>?_))
 simp only [Option.isSome_none,Bool.false_eq_true,if_false]
 exact bW (q k₂ λc o hc e=>e₂ c o hc (s₁.extBut c o hc (c7 _ e)))
end
def Az (K:PySem.W.Frag) (n:Nat) (t:pB):TG:=λv σ H Q=>∃ a xs,v = .ref a/\dh K H a xs/\xs.length=n/\t xs σ H Q
theorem Zn {X:Cx} {pos:Pos} {es:List Expr} {k:Nat} {t:pB} {n:Nat} (hc:X.calm=true) (h:xO X es t) (hn:(assignEach es X.env).length=n) (hst:(assignEach es X.env).findIdx? (·.1)=none):PG X (.Tuple es k pos) (Az X.K n t):=by
 intro pins s σ H v u Q I r hw
 obtain ⟨a,xs,rfl,hq,hl,hw⟩:=hw
 cases r
 obtain ⟨its,rv,ht,hz⟩:=I.list hq
 rw [arm_assign_Tuple]
 refine aN (wpAny_standAt ?_)
 unfold unpack
 have el:(assignEach es X.env).length=its.toArray.size:=by simp [hn,<-hl,rv.length]
 rw [el,hst]
 refine aN (wpAny_holding (zkT (I.ok.hd hc) ht.isList λh' hx=>?_))
 have I1:Inv X pins σ H { s with heap:=h' }:=I.kept (t':=s.toks) λb o e=>hx b o (dw (cj e)) e
 exact h pins _ σ H xs _ Q I1 (by simpa using rv) hw
theorem PG.or {X:Cx} {e:Expr} {t t':TG} (h:PG X e t) (h':PG X e t'):PG X e (λv σ H Q=>t v σ H Q\/t' v σ H Q):=λpins s σ H v u Q I r q=>by
 rcases q with q | q
 ·exact h pins s σ H v u Q I r q
 ·exact h' pins s σ H v u Q I r q
end MX
end
section
namespace MZ
open PySem PySem.Spec PyProof.Rows L2
structure Sub where
 it:Addr
 src:Addr
 tup:Bool
def bZ (h:Heap) (p:Sub) (k:Nat):Prop:=if p.tup=true then h.IsTupleIter p.it p.src k else h.IsListIter p.it p.src k
def SrcAt (h:Heap) (p:Sub) (items:List Value):Prop:=if p.tup=true then h.IsTuple p.src items.toArray else h.IsList p.src items.toArray
theorem bZ.at {h h':Heap} {p:Sub} {k:Nat} (x:bZ h p k) (f:∀ o,h.get? p.it=some o->h'.get? p.it=some o):bZ h' p k:=by
 unfold bZ at x ⊢
 split
 ·rename_i hp;rw [if_pos hp] at x;obtain ⟨o,e,r⟩:=x;exact ⟨o,f o e,r⟩
 ·rename_i hp;rw [if_neg hp] at x;obtain ⟨o,e,r⟩:=x;exact ⟨o,f o e,r⟩
theorem SrcAt.at {h h':Heap} {p:Sub} {xs:List Value} (x:SrcAt h p xs) (f:∀ o,h.get? p.src=some o->h'.get? p.src=some o):SrcAt h' p xs:=by
 unfold SrcAt at x ⊢
 split
 ·rename_i hp;rw [if_pos hp] at x;obtain ⟨o,e,r⟩:=x;exact ⟨o,f o e,r⟩
 ·rename_i hp;rw [if_neg hp] at x;obtain ⟨o,e,r⟩:=x;exact ⟨o,f o e,r⟩
theorem bZ.obj {h:Heap} {p:Sub} {k:Nat} (x:bZ h p k):∃ o,h.get? p.it=some o/\∀ v,o.data ≠ .cell v:=by
 unfold bZ at x
 split at x
 ·obtain ⟨o,e,_,d⟩:=x;exact ⟨o,e,λv z=>by rw [d] at z;cases z⟩
 ·obtain ⟨o,e,_,d⟩:=x;exact ⟨o,e,λv z=>by rw [d] at z;cases z⟩
section
variable {prog:Program} {w:World} {A:Around} {E:Value->Shared->Prop} {s:Shared}
theorem zee {it t:Addr} {i:Nat} {items} {x:Value} {Q:Value->Shared->Prop} (hit:s.heap.IsTupleIter it t i)
 (ht:s.heap.IsTuple t items) (hx:items[i]?=some x)
 (hQ:∀ h',h'.IsTupleIter it t (i+1)->Heap.SameBut it s.heap h'->Q x { s with heap:=h' }) :
 wpAny (model prog w) A (Builtin.SmallTypes.nextOf (.ref it)) Q E s:=by
 obtain ⟨o,ho,hc,hd⟩:=id hit
 obtain ⟨ol,hol,_,nl,hdl⟩:=ht
 unfold Builtin.SmallTypes.nextOf
 refine aN (wpAny_callSpecial?_slot (name:=Str.ofString "__next__") hit.typeIs F.slot_tuple_iterator_next
  (wpAny_call_entry F.slot_tuple_iterator_next hit.typeIs F.entry_tuple_iterator_next ?_ (F.args_tuple_iterator_next_1 _)))
 show wpAny _ _ (field (.ref it) 0 >>= _) _ _ s
 refine aN (wpAny_field ho hd (x := .ref t) rfl ?_)
 show wpAny _ _ (if (Value.ref t==Value.none)=true then _ else _) _ _ s
 rw [if_neg (show ¬ ((Value.ref t==Value.none)=true) from fQ)]
 show wpAny _ _ (field (.ref it) 1 >>= _) _ _ s
 refine aN (wpAny_field ho hd (x := .int i 0) rfl ?_)
 show wpAny _ _ (seqItems? (.ref t) >>= _) _ _ s
 refine aN (wpAny_seqItems hol hdl ?_)
 simp only [Int.toNat_natCast,hx]
 refine aN (wpAny_setField ho hd (by simp) (bW ⟨x,rfl,bW (hQ _ ?_ (Heap.SameBut.update ..))⟩))
 exact ⟨_,Heap.get?_update_self _ ho (Obj.isFreed_of_fields (Obj.data_mapFields hd _)),(Obj.cls_mapFields ..).trans hc,by
  rw [Obj.data_mapFields hd];simp [rawInt]⟩
theorem zeC {it t:Addr} {i:Nat} {items} {Q:Value->Shared->Prop} (hh:A.handled=none)
 (hit:s.heap.IsTupleIter it t i) (ht:s.heap.IsTuple t items) (hx:items[i]?=none)
 (hE:∀ h' e,Heap.ExtBut it s.heap h'->(∃ o,h'.get? e=some o/\o.cls = .type "StopIteration")->E (.ref e) { s with heap:=h' }) :
 wpAny (model prog w) A (Builtin.SmallTypes.nextOf (.ref it)) Q E s:=by
 obtain ⟨o,ho,hc,hd⟩:=id hit
 obtain ⟨ol,hol,_,nl,hdl⟩:=ht
 unfold Builtin.SmallTypes.nextOf
 refine aN (wpAny_callSpecial?_slot (name:=Str.ofString "__next__") hit.typeIs F.slot_tuple_iterator_next
  (wpAny_call_entry F.slot_tuple_iterator_next hit.typeIs F.entry_tuple_iterator_next ?_ (F.args_tuple_iterator_next_1 _)))
 show wpAny _ _ (field (.ref it) 0 >>= _) _ _ s
 refine aN (wpAny_field ho hd (x := .ref t) rfl ?_)
 show wpAny _ _ (if (Value.ref t==Value.none)=true then _ else _) _ _ s
 rw [if_neg (show ¬ ((Value.ref t==Value.none)=true) from fQ)]
 show wpAny _ _ (field (.ref it) 1 >>= _) _ _ s
 refine aN (wpAny_field ho hd (x := .int i 0) rfl ?_)
 show wpAny _ _ (seqItems? (.ref t) >>= _) _ _ s
 refine aN (wpAny_seqItems hol hdl ?_)
 simp only [Int.toNat_natCast,hx]
 refine aN (wpAny_rule (aN (wpAny_setField ho hd (by simp) ?_)))
 show wpAny _ _ (newExc (.type "StopIteration") [] >>= _) _ _ _
 refine aN ?_
 simp only [newExc,newTuple]
 refine aN (wpAny_newObj_type ?_ (by size_fits))
 refine aN (m:=firstArgMember _ _) (wpAny_of_eq (a:=Value.none) (by first | rfl | (simp only [firstArgMember];rfl)) ?_)
 refine wpAny_newObj_type ?_ (by size_fits)
 simp only [raiseNew]
 refine aN (wpAny_handled ?_)
 first | rw [show A.in1.handled=none from hh] | rw [hh]
 refine aN (bW (wpAny_throw ?_))
 exact hE _ _ (((Heap.SameBut.update ..).extBut.push _).push _) ⟨_,fZ _ rfl,rfl⟩
theorem Rh {p:Sub} {xs:List Value} {k:Nat} {x:Value} {Q:Value->Shared->Prop} (hi:bZ s.heap p k) (hs:SrcAt s.heap p xs) (hx:xs[k]?=some x)
 (hQ:∀ h',bZ h' p (k+1)->Heap.SameBut p.it s.heap h'->Q x { s with heap:=h' }):wpAny (model prog w) A (Builtin.SmallTypes.nextOf (.ref p.it)) Q E s:=by
 by_cases hp:p.tup=true
 ·unfold bZ SrcAt at *
  rw [if_pos hp] at hi hs
  exact zee hi hs (by simpa using hx) λh' a b=>hQ h' (by rw [if_pos hp];exact a) b
 ·unfold bZ SrcAt at *
  rw [if_neg hp] at hi hs
  exact wpAny_nextOf_list_item hi hs (by simpa using hx) λh' a b=>hQ h' (by rw [if_neg hp];exact a) b
theorem zmy {p:Sub} {xs:List Value} {k:Nat} {Q:Value->Shared->Prop} (hh:A.handled=none) (hi:bZ s.heap p k) (hs:SrcAt s.heap p xs) (hx:xs[k]?=none)
 (hE:∀ h' e,Heap.ExtBut p.it s.heap h'->(∃ o,h'.get? e=some o/\o.cls = .type "StopIteration")->E (.ref e) { s with heap:=h' }) :
 wpAny (model prog w) A (Builtin.SmallTypes.nextOf (.ref p.it)) Q E s:=by
 by_cases hp:p.tup=true
 ·unfold bZ SrcAt at *
  rw [if_pos hp] at hi hs
  exact zeC hh hi hs (by simpa using hx) hE
 ·unfold bZ SrcAt at *
  rw [if_neg hp] at hi hs
  exact wpAny_nextOf_list_end hh hi hs (by simpa using hx) hE
end
abbrev cV (xs:List Value):Obj:={ cls := .type "tuple",data := .seq xs.toArray }
structure vX (z TI TO:Addr) (ps:List Sub):Prop where
 TIz:TI≠z
 TOz:TO≠z
 TITO:TI≠TO
 iz:∀ p∈ps,p.it≠z
 iTI:∀ p∈ps,p.it≠TI
 iTO:∀ p∈ps,p.it≠TO
 sz:∀ p∈ps,p.src≠z
 sTO:∀ p∈ps,p.src≠TO
 si:∀ p∈ps,∀ q∈ps,p.src≠q.it
 nd:(ps.map (·.it)).Nodup
section
variable {prog:Program} {w:World} {A:Around} {E:Value->Shared->Prop} {s:Shared}
theorem Qs {T:Addr} {ys:List Value} {k:Nat} {x:Value} {Q:Unit->Shared->Prop} (hT:s.heap.get? T=some (cV ys)) (hz:ys.length<=sizeLine)
 (h:∀ h',h'.get? T=some (cV (ys.set k x))->Heap.SameBut T s.heap h'->Q () { s with heap:=h' }) :
 wpAny (model prog w) A (updateSeq T (·.setIfInBounds k x)) Q E s:=by
 refine wpAny_updateSeq hT rfl (h _ ?_ (Heap.SameBut.update ..)) (by rw [dH];exact hz) (by simp;omega)
 rw [Heap.get?_update_self _ hT rfl]
 simp [Obj.mapSeq,cV]
theorem zmW {α:Type} (a b:List α) (y x:α):(a++y::b).set a.length x=a++x::b:=by
 rw [List.set_append_right _ _ (bR _)];simp
theorem zkP {z TI TO:Addr} {ps:List Sub} {xss:List (List Value)} {row ys:List Value} {k:Nat} {Q:Value->Shared->Prop} (D:vX z TI TO ps) (hne:ps≠[]) (hps:ps.length<=100)
 (hz:IsZip s.heap z TI TO .none) (hTI:s.heap.get? TI=some (cV (ps.map λp=>Value.ref p.it))) (hTO:s.heap.get? TO=some (cV ys)) (hy:ys.length=ps.length)
 (hl:xss.length=ps.length) (hr:row.length=ps.length) (hi:∀ p∈ps,bZ s.heap p k) (hs:∀ (j:Nat) p xs,ps[j]?=some p->xss[j]?=some xs->SrcAt s.heap p xs)
 (hx:∀ (j:Nat) xs x,xss[j]?=some xs->row[j]?=some x->xs[k]?=some x)
 (hQ:∀ h',IsZip h' z TI TO (rawInt s.heap.objs.size)->h'.get? TO=some (cV row)->(∀ p∈ps,bZ h' p (k+1))->h'.get? s.heap.objs.size=some (cV row)->h'.objs.size=s.heap.objs.size+1 ->
  (∀ c o,c≠z->c≠TO->(∀ p∈ps,c≠p.it)->s.heap.get? c=some o->h'.get? c=some o)->Q (.ref s.heap.objs.size) { s with heap:=h' }) :
 wpAny (model prog w) A (Builtin.«zip.__next__» ⟨[.ref z],[]⟩) (λfin s'=>∃ v,fin = .done (.ret v)/\Q v s') E s:=by
 have line:(100:Nat)<=sizeLine:=by decide
 show wpAny _ _ (field (.ref z) 2 >>= _) _ _ _
 refine aN (wpAny_field hz rfl (x := .bool false) rfl ?_)
 show wpAny _ _ (field (.ref z) 3 >>= _) _ _ _
 refine aN (wpAny_field hz rfl (x := .ref TI) rfl ?_)
 refine aN (wpAny_seqItems hTI rfl ?_)
 have hemp:((ps.map λp=>Value.ref p.it).toArray.isEmpty)=false:=by
  cases ps with
  | nil=>exact absurd rfl hne
  | cons _ _=>simp
 show wpAny _ _ (if ((ps.map λp=>Value.ref p.it).toArray.isEmpty)=true then _ else _) _ _ _
 rw [if_neg (by rw [hemp];exact fQ)]
 show wpAny _ _ (Builtin.SmallTypes.ownedTupleIsFree (.ref z) >>= _) _ _ _
 refine aN ?_
 unfold Builtin.SmallTypes.ownedTupleIsFree
 refine aN (wpAny_field hz rfl (x := .none) rfl (bW ?_))
 simp only [if_true]
 refine aN (wpAny_rule ?_)
 refine aN (wpAny_field hz rfl (x := .ref TO) rfl ?_)
 refine aN (wpAny_setField_rec hz (by simp) λh₁ hz₁ hs₁=>?_)
 replace hz₁:IsZip h₁ z TI TO .ellipsis:=hz₁
 refine aN ?_
 refine wpAny_forIn_list _
  (λrest b s'=>b.1=none/\∃ j h,s'={ s with heap:=h }/\rest=((ps.drop j).map λp=>Value.ref p.it).zipIdx j/\j<=ps.length/\IsZip h z TI TO .ellipsis/\h.get? TO=some (cV (row.take j++ys.drop j))/\h.objs.size=s.heap.objs.size /\
   (∀ (i:Nat) p,ps[i]?=some p->bZ h p (if i<j then k+1 else k))/\∀ c o,c≠z->c≠TO->(∀ p∈ps,c≠p.it)->s.heap.get? c=some o->h.get? c=some o) _ ?_ ?_ _ _ ?_
 ·rintro ⟨v,kk⟩ rest b s' ⟨hb,j,h,rfl,hrest,hj,z1,t1,Fp,i1,k1⟩
  have hjl:j<ps.length:=by
   refine Nat.lt_of_le_of_ne hj λe=>?_
   rw [e] at hrest;simp at hrest
  obtain ⟨p,hp⟩:∃ p,ps[j]?=some p:=⟨ps[j],by simp [hjl]⟩
  have hpm:p∈ps:=List.mem_of_getElem? hp
  have hdrop:ps.drop j=p::ps.drop (j+1):=by
   obtain ⟨h1,h2⟩:=dN.mp hp
   rw [<-h2];exact List.drop_eq_getElem_cons h1
  rw [hdrop,iM,List.zipIdx_cons] at hrest
  injection hrest with e1 e2
  obtain ⟨e3,e4⟩:=Prod.mk.inj e1
  subst e3
  replace e4:=e4.symm
  subst e4
  obtain ⟨xs,hxs⟩:∃ xs,xss[j]?=some xs:=⟨xss[j]'(by omega),by simp⟩
  obtain ⟨x,U7⟩:∃ x,row[j]?=some x:=⟨row[j]'(by omega),by simp⟩
  obtain ⟨y,hyr⟩:∃ y,ys[j]?=some y:=⟨ys[j]'(by omega),by simp⟩
  have hit:bZ h p k:=by have:=i1 j p hp;rw [if_neg (gF _)] at this;exact this
  have fW:SrcAt h p xs:=(hs j p xs hp hxs).at λo e=>k1 _ o (D.sz p hpm) (D.sTO p hpm) (λq hq=>D.si p hpm q hq) e
  have hcur:row.take j++ys.drop j=row.take j++y::ys.drop (j+1):=by
   obtain ⟨h1,h2⟩:=dN.mp hyr
   rw [List.drop_eq_getElem_cons h1,h2]
  have hlj:(row.take j).length=j:=by rw [qT];omega
  obtain ⟨b1,b2⟩:=b
  have hb':b1=none:=hb
  subst hb'
  refine aN (wpAny_onRaise ?_)
  show wpAny _ _ (Builtin.SmallTypes.nextOf (.ref p.it) >>= _) _ _ _
  refine aN (Rh hit fW (hx j xs x hxs U7) λh₂ it₂ sb₂=>bW ?_)
  have t2:h₂.get? TO=some (cV (row.take j++ys.drop j)):=sb₂.extBut _ _ (D.iTO p hpm).symm t1
  refine aN (wpAny_seqItems t2 rfl ?_)
  refine aN (Qs (s:={ s with heap:=h₂ }) (k:=j) t2 (by rw [gQ,qT,List.length_drop];omega) λh₃ t3 sb₃=>?_)
  refine aN (wpAny_letGo (bW ?_))
  refine ⟨rfl,j+1,h₃,rfl,e2,hjl,?_,?_,?_,λi q hq=>?_,λc o c1 c2 c3 e=>?_⟩
  ·exact sb₃.extBut _ _ D.TOz.symm (sb₂.extBut _ _ (D.iz p hpm).symm z1)
  ·rw [t3,hcur]
   have:(row.take j++y::ys.drop (j+1)).set j x=row.take (j+1)++ys.drop (j+1):=by
    have e:row.take (j+1)=row.take j++[x]:=by
     obtain ⟨h1,h2⟩:=dN.mp U7
     rw [<-h2];simp
    have:=zmW (row.take j) (ys.drop (j+1)) y x
    rw [hlj] at this
    rw [this,e,fD];rfl
   rw [this]
  ·rw [sb₃.1,sb₂.1,Fp]
  ·have M5:q∈ps:=List.mem_of_getElem? hq
   have k3:∀ o,h₂.get? q.it=some o->h₃.get? q.it=some o:=λo e=>sb₃.extBut _ _ (D.iTO q M5) e
   by_cases hij:i=j
   ·subst hij
    rw [hp] at hq;cases hq
    rw [if_pos (Nat.lt_succ_self _)]
    exact it₂.at k3
   ·have hne':q.it≠p.it:=λz=>hij (by
     obtain ⟨a1,a2⟩:=dN.mp hq
     obtain ⟨b1,b2⟩:=dN.mp hp
     refine (List.getElem_inj (xs:=ps.map (·.it)) (i:=i) (j:=j) (h₀:=by simpa using a1) (h₁:=by simpa using b1) D.nd).mp ?_
     simp [a2,b2,z])
    have:=i1 i q hq
    have e:(if i<j+1 then k+1 else k)=(if i<j then k+1 else k):=by
     by_cases h1:i<j
     ·rw [if_pos h1,if_pos (by omega)]
     ·rw [if_neg h1,if_neg (by omega)]
    rw [e]
    exact (this.at λo e=>sb₂.extBut _ _ hne' e).at k3
  ·exact sb₃.extBut _ _ c2 (sb₂.extBut _ _ (c3 p hpm) (k1 c o c1 c2 c3 e))
 ·rintro ⟨b1,b2⟩ s' ⟨hb,j,h,rfl,hrest,hj,z1,t1,Fp,i1,k1⟩
  have hb':b1=none:=hb
  subst hb'
  have hjl:j=ps.length:=by
   refine Nat.le_antisymm hj (Nat.le_of_not_lt λhlt=>?_)
   have hd:ps.drop j≠[]:=by
    intro e
    have:=congrArg List.length e
    rw [List.length_drop] at this;simp at this;omega
   cases q:ps.drop j with
   | nil=>exact hd q
   | cons a r=>rw [q] at hrest;simp at hrest
  subst hjl
  have Ut:h.get? TO=some (cV row):=by
   rw [t1,List.take_of_length_le (by omega),List.drop_of_length_le (by omega),List.append_nil]
  show wpAny _ _ (seqItems? (.ref TO) >>= _) _ _ _
  refine aN (wpAny_seqItems Ut rfl ?_)
  refine aN (wpAny_newTuple ?_ (by simp;omega))
  have hzlt:z<h.objs.size:=cj z1
  show wpAny _ _ (Builtin.SmallTypes.ownedTupleHandOut (.ref z) (.ref h.objs.size) >>= _) _ _ _
  refine aN ?_
  unfold Builtin.SmallTypes.ownedTupleHandOut
  have hz₆:IsZip (h.push { cls := .type "tuple",data := .seq row.toArray.toList.toArray }) z TI TO .ellipsis:=c7 _ z1
  refine aN (wpAny_setField_rec hz₆ (by simp) λh₇ hz₇ hs₇=>?_)
  replace hz₇:IsZip h₇ z TI TO (rawInt h.objs.size):=hz₇
  refine wpAny_setField_rec hz₇ (by simp) λh₈ hz₈ hs₈=>?_
  replace hz₈:IsZip h₈ z TI TO (rawInt h.objs.size):=hz₈
  have up:∀ c o,c≠z->h.get? c=some o->h₈.get? c=some o:=λc o c1 e=>hs₈.extBut _ _ c1 (hs₇.extBut _ _ c1 (c7 _ e))
  have hT₈:h₈.get? h.objs.size=some (cV row):=hs₈.extBut _ _ (Nat.ne_of_gt hzlt) (hs₇.extBut _ _ (Nat.ne_of_gt hzlt) (by simpa [cV] using fZ h (o:=cV row) rfl))
  have hz8:h₈.objs.size=h.objs.size+1:=by rw [hs₈.1,hs₇.1,Heap.size_push]
  rw [Fp] at hz₈ hT₈ hz8
  refine bW ⟨_,rfl,?_⟩
  show Q (.ref h.objs.size) _
  rw [Fp]
  refine hQ h₈ hz₈ (up _ _ D.TOz Ut) (λp hp=>?_) hT₈ hz8 λc o c1 c2 c3 e=>up c o c1 (k1 c o c1 c2 c3 e)
  obtain ⟨i,hil,e⟩:=List.mem_iff_getElem.mp hp
  have:=i1 i p (by rw [dN];exact ⟨hil,e⟩)
  rw [if_pos hil] at this
  exact this.at λo e=>up _ o (D.iz p hp) e
 ·refine ⟨rfl,0,h₁,rfl,rfl,Nat.zero_le _,hz₁,by simpa using hs₁.extBut _ _ D.TOz hTO,hs₁.1,λi p hp=>?_,λc o c1 c2 c3 e=>hs₁.extBut _ _ c1 e⟩
  have hpm:=List.mem_of_getElem? hp
  rw [if_neg (Nat.not_lt_zero _)]
  exact (hi p hpm).at λo e=>hs₁.extBut _ _ (D.iz p hpm) e
theorem zmq {z TI TO:Addr} {ps:List Sub} {xss:List (List Value)} {ys:List Value} {k j₀:Nat} {Q:Fin->Shared->Prop} (hh:A.handled=none) (D:vX z TI TO ps) (hne:ps≠[]) (hps:ps.length<=100)
 (hz:IsZip s.heap z TI TO .none) (hTI:s.heap.get? TI=some (cV (ps.map λp=>Value.ref p.it))) (hTO:s.heap.get? TO=some (cV ys)) (hy:ys.length=ps.length)
 (hl:xss.length=ps.length) (hi:∀ p∈ps,bZ s.heap p k) (hs:∀ (j:Nat) p xs,ps[j]?=some p->xss[j]?=some xs->SrcAt s.heap p xs)
 (hj₀:j₀<ps.length) (u9:∀ (j:Nat) xs,j<j₀->xss[j]?=some xs->∃ x,xs[k]?=some x) (hend:∀ xs,xss[j₀]?=some xs->xs[k]?=none)
 (hE:∀ h' e,(∀ c o,c≠z->c≠TO->(∀ p∈ps,c≠p.it)->s.heap.get? c=some o->h'.get? c=some o)->(∃ o,h'.get? e=some o/\o.cls = .type "StopIteration")->E (.ref e) { s with heap:=h' }) :
 wpAny (model prog w) A (Builtin.«zip.__next__» ⟨[.ref z],[]⟩) Q E s:=by
 have line:(100:Nat)<=sizeLine:=by decide
 show wpAny _ _ (field (.ref z) 2 >>= _) _ _ _
 refine aN (wpAny_field hz rfl (x := .bool false) rfl ?_)
 show wpAny _ _ (field (.ref z) 3 >>= _) _ _ _
 refine aN (wpAny_field hz rfl (x := .ref TI) rfl ?_)
 refine aN (wpAny_seqItems hTI rfl ?_)
 have hemp:((ps.map λp=>Value.ref p.it).toArray.isEmpty)=false:=by
  cases ps with
  | nil=>exact absurd rfl hne
  | cons _ _=>simp
 show wpAny _ _ (if ((ps.map λp=>Value.ref p.it).toArray.isEmpty)=true then _ else _) _ _ _
 rw [if_neg (by rw [hemp];exact fQ)]
 show wpAny _ _ (Builtin.SmallTypes.ownedTupleIsFree (.ref z) >>= _) _ _ _
 refine aN ?_
 unfold Builtin.SmallTypes.ownedTupleIsFree
 refine aN (wpAny_field hz rfl (x := .none) rfl (bW ?_))
 simp only [if_true]
 refine aN (wpAny_rule ?_)
 refine aN (wpAny_field hz rfl (x := .ref TO) rfl ?_)
 refine aN (wpAny_setField_rec hz (by simp) λh₁ hz₁ hs₁=>?_)
 replace hz₁:IsZip h₁ z TI TO .ellipsis:=hz₁
 refine aN ?_
 refine wpAny_forIn_list _
  (λrest b s'=>b.1=none/\∃ j h cur,s'={ s with heap:=h }/\rest=((ps.drop j).map λp=>Value.ref p.it).zipIdx j/\j<=j₀/\IsZip h z TI TO .ellipsis/\h.get? TO=some (cV cur)/\cur.length=ps.length /\
   (∀ (i:Nat) p,ps[i]?=some p->j<=i->bZ h p k)/\∀ c o,c≠z->c≠TO->(∀ p∈ps,c≠p.it)->s.heap.get? c=some o->h.get? c=some o) _ ?_ ?_ _ _ ?_
 ·rintro ⟨v,kk⟩ rest b s' ⟨hb,j,h,cur,rfl,hrest,hj,z1,t1,c1',i1,k1⟩
  have hjl:j<ps.length:=Bw hj hj₀
  obtain ⟨p,hp⟩:∃ p,ps[j]?=some p:=⟨ps[j],by simp [hjl]⟩
  have hpm:p∈ps:=List.mem_of_getElem? hp
  have hdrop:ps.drop j=p::ps.drop (j+1):=by
   obtain ⟨h1,h2⟩:=dN.mp hp
   rw [<-h2];exact List.drop_eq_getElem_cons h1
  rw [hdrop,iM,List.zipIdx_cons] at hrest
  injection hrest with e1 e2
  obtain ⟨e3,e4⟩:=Prod.mk.inj e1
  subst e3
  replace e4:=e4.symm
  subst e4
  obtain ⟨xs,hxs⟩:∃ xs,xss[j]?=some xs:=⟨xss[j]'(by omega),by simp⟩
  have hit:bZ h p k:=i1 j p hp (bR _)
  have fW:SrcAt h p xs:=(hs j p xs hp hxs).at λo e=>k1 _ o (D.sz p hpm) (D.sTO p hpm) (λq hq=>D.si p hpm q hq) e
  obtain ⟨b1,b2⟩:=b
  have hb':b1=none:=hb
  subst hb'
  by_cases hj0:j=j₀
  ·subst hj0
   refine aN (wpAny_onRaise ?_)
   show wpAny _ _ (Builtin.SmallTypes.nextOf (.ref p.it) >>= _) _ _ _
   refine aN (zmy hh hit fW (hend xs hxs) λh₂ e sb₂ he=>?_)
   obtain ⟨oe,hoe,hce⟩:=he
   have hz₂:IsZip h₂ z TI TO .ellipsis:=sb₂ _ _ (D.iz p hpm).symm z1
   have hez:e≠z:=λx=>by subst x;rw [hz₂] at hoe;cases hoe;simp at hce
   exact wpAny_setField_rec hz₂ (by simp) λh₃ _ hs₃=>hE h₃ e (λc o c1 c2 c3 x=>hs₃.extBut _ _ c1 (sb₂ _ _ (c3 p hpm) (k1 c o c1 c2 c3 x))) ⟨oe,hs₃.extBut _ _ hez hoe,hce⟩
  ·obtain ⟨x,hx⟩:=u9 j xs (by omega) hxs
   refine aN (wpAny_onRaise ?_)
   show wpAny _ _ (Builtin.SmallTypes.nextOf (.ref p.it) >>= _) _ _ _
   refine aN (Rh hit fW hx λh₂ it₂ sb₂=>bW ?_)
   have t2:h₂.get? TO=some (cV cur):=sb₂.extBut _ _ (D.iTO p hpm).symm t1
   refine aN (wpAny_seqItems t2 rfl ?_)
   refine aN (Qs (s:={ s with heap:=h₂ }) (k:=j) t2 (by omega) λh₃ t3 sb₃=>?_)
   refine aN (wpAny_letGo (bW ?_))
   refine ⟨rfl,j+1,h₃,_,rfl,e2,by omega,?_,t3,by simpa using c1',λi q hq hiq=>?_,λc o c1 c2 c3 e=>?_⟩
   ·exact sb₃.extBut _ _ D.TOz.symm (sb₂.extBut _ _ (D.iz p hpm).symm z1)
   ·have M5:q∈ps:=List.mem_of_getElem? hq
    have hne':q.it≠p.it:=λz=>(show i≠j by omega) (by
     obtain ⟨a1,a2⟩:=dN.mp hq
     obtain ⟨b1,b2⟩:=dN.mp hp
     refine (List.getElem_inj (xs:=ps.map (·.it)) (i:=i) (j:=j) (h₀:=by simpa using a1) (h₁:=by simpa using b1) D.nd).mp ?_
     simp [a2,b2,z])
    exact ((i1 i q hq (by omega)).at λo e=>sb₂.extBut _ _ hne' e).at λo e=>sb₃.extBut _ _ (D.iTO q M5) e
   ·exact sb₃.extBut _ _ c2 (sb₂.extBut _ _ (c3 p hpm) (k1 c o c1 c2 c3 e))
 ·rintro b s' ⟨hb,j,h,cur,rfl,hrest,hj,_⟩
  exfalso
  have hd:ps.drop j≠[]:=by
   intro e
   have:=congrArg List.length e
   rw [List.length_drop] at this;simp at this;omega
  cases q:ps.drop j with
  | nil=>exact hd q
  | cons a r=>rw [q] at hrest;simp at hrest
 ·refine ⟨rfl,0,h₁,ys,rfl,rfl,Nat.zero_le _,hz₁,hs₁.extBut _ _ D.TOz hTO,hy,λi p hp _=>?_,λc o c1 c2 c3 e=>hs₁.extBut _ _ c1 e⟩
  have hpm:=List.mem_of_getElem? hp
  exact (hi p hpm).at λo e=>hs₁.extBut _ _ (D.iz p hpm) e
theorem zjO {z TI TO:Addr} {ps:List Sub} {xss:List (List Value)} {row ys:List Value} {k:Nat} {Q:Option Value->Shared->Prop} (D:vX z TI TO ps) (hne:ps≠[]) (hps:ps.length<=100)
 (hz:IsZip s.heap z TI TO .none) (hTI:s.heap.get? TI=some (cV (ps.map λp=>Value.ref p.it))) (hTO:s.heap.get? TO=some (cV ys)) (hy:ys.length=ps.length)
 (hl:xss.length=ps.length) (hr:row.length=ps.length) (hi:∀ p∈ps,bZ s.heap p k) (hs:∀ (j:Nat) p xs,ps[j]?=some p->xss[j]?=some xs->SrcAt s.heap p xs)
 (hx:∀ (j:Nat) xs x,xss[j]?=some xs->row[j]?=some x->xs[k]?=some x)
 (hQ:∀ h',IsZip h' z TI TO (rawInt s.heap.objs.size)->h'.get? TO=some (cV row)->(∀ p∈ps,bZ h' p (k+1))->h'.get? s.heap.objs.size=some (cV row)->h'.objs.size=s.heap.objs.size+1 ->
  (∀ c o,c≠z->c≠TO->(∀ p∈ps,c≠p.it)->s.heap.get? c=some o->h'.get? c=some o)->Q (some (.ref s.heap.objs.size)) { s with heap:=h' }) :
 wpAny (model prog w) A (pyNext (.ref z)) Q E s:=by
 have hT:s.TypeIs (.ref z) "zip" := ⟨_,hz,rfl⟩
 unfold pyNext
 exact aN (wpAny_attempt (wpAny_callSpecial?_slot (name:=Str.ofString "__next__") hT F.slot_zip_next
  (wpAny_call_entry F.slot_zip_next hT F.entry_zip_next
   (zkP D hne hps hz hTI hTO hy hl hr hi hs hx λh' a1 a2 a3 a4 a5 a6=>bW (hQ h' a1 a2 a3 a4 a5 a6)) (F.args_zip_next_1 _))))
theorem zlw {z TI TO:Addr} {ps:List Sub} {xss:List (List Value)} {ys:List Value} {k j₀:Nat} {Q:Option Value->Shared->Prop} (hh:A.handled=none) (D:vX z TI TO ps) (hne:ps≠[]) (hps:ps.length<=100)
 (hz:IsZip s.heap z TI TO .none) (hTI:s.heap.get? TI=some (cV (ps.map λp=>Value.ref p.it))) (hTO:s.heap.get? TO=some (cV ys)) (hy:ys.length=ps.length)
 (hl:xss.length=ps.length) (hi:∀ p∈ps,bZ s.heap p k) (hs:∀ (j:Nat) p xs,ps[j]?=some p->xss[j]?=some xs->SrcAt s.heap p xs)
 (hj₀:j₀<ps.length) (u9:∀ (j:Nat) xs,j<j₀->xss[j]?=some xs->∃ x,xs[k]?=some x) (hend:∀ xs,xss[j₀]?=some xs->xs[k]?=none)
 (hQ:∀ h',(∀ c o,c≠z->c≠TO->(∀ p∈ps,c≠p.it)->s.heap.get? c=some o->h'.get? c=some o)->Q none { s with heap:=h' }) :
 wpAny (model prog w) A (pyNext (.ref z)) Q E s:=by
 have hT:s.TypeIs (.ref z) "zip" := ⟨_,hz,rfl⟩
 unfold pyNext
 refine aN (wpAny_attempt (wpAny_callSpecial?_slot (name:=Str.ofString "__next__") hT F.slot_zip_next
  (wpAny_call_entry F.slot_zip_next hT F.entry_zip_next (zmq hh D hne hps hz hTI hTO hy hl hi hs hj₀ u9 hend λh' e hk he=>?_) (F.args_zip_next_1 _))))
 obtain ⟨o,ho,hc⟩:=he
 refine aN (wpAny_isInstance (T := "StopIteration") (b:=true) ⟨o,ho,hc⟩ isSubtype_stop ?_)
 exact bW (hQ _ hk)
def dD (n:Nat):List (Addr×Bool)->List Sub
 | []=>[]
 | (a,t)::r=>⟨n,a,t⟩::dD (n+1) r
def d7 (h:Heap) (p:Addr×Bool):Prop:=if p.2=true then ∃ xs,h.IsTuple p.1 xs else ∃ xs,h.IsList p.1 xs
theorem d7.keeps {h h':Heap} {p:Addr×Bool} (x:d7 h p) (f:∀ b o,h.get? b=some o->h'.get? b=some o):d7 h' p:=by
 unfold d7 at x ⊢
 split
 ·rename_i hp;rw [if_pos hp] at x;obtain ⟨xs,o,e,r⟩:=x;exact ⟨xs,o,f _ o e,r⟩
 ·rename_i hp;rw [if_neg hp] at x;obtain ⟨xs,o,e,r⟩:=x;exact ⟨xs,o,f _ o e,r⟩
theorem zlF {p:Addr×Bool} {Q:Value->Shared->Prop} (hp:d7 s.heap p) (h:∀ h',(∀ b o,s.heap.get? b=some o->h'.get? b=some o)->h'.objs.size=s.heap.objs.size+1->bZ h' ⟨s.heap.objs.size,p.1,p.2⟩ 0->Q (.ref s.heap.objs.size) { s with heap:=h' }) :
 wpAny (model prog w) A (pyIter (.ref p.1)) Q E s:=by
 unfold d7 at hp
 by_cases ht:p.2=true
 ·rw [if_pos ht] at hp
  obtain ⟨xs,hx⟩:=hp
  refine wpAny_pyIter_tuple hx (h _ (λb o e=>c7 _ e) (Heap.size_push ..) ?_)
  unfold bZ;rw [if_pos ht]
  exact ⟨_,fZ _ rfl,rfl,rfl⟩
 ·rw [if_neg ht] at hp
  obtain ⟨xs,hx⟩:=hp
  refine wpAny_pyIter_list hx (h _ (λb o e=>c7 _ e) (Heap.size_push ..) ?_)
  unfold bZ;rw [if_neg ht]
  exact ⟨_,fZ _ rfl,rfl,rfl⟩
theorem CW:∀ (n:Nat) (l:List (Addr×Bool)) (p:Sub),p∈dD n l->n<=p.it/\p.it<n+l.length/\(p.src,p.tup)∈l
 | _,[],p,h=>by cases h
 | n,(a,t)::r,p,h=>by
  rcases List.mem_cons.mp h with rfl | h
  ·exact ⟨bR _,by simp,fL⟩
  ·obtain ⟨h1,h2,h3⟩:=CW (n+1) r p h
   exact ⟨Nat.le_of_succ_le h1,dj h2 (by rw [iG];omega),cM _ h3⟩
theorem Jc:∀ (n:Nat) (l:List (Addr×Bool)),(dD n l).length=l.length
 | _,[]=>rfl
 | n,_::r=>by simp [dD,Jc (n+1) r]
theorem Qp:∀ (n:Nat) (l:List (Addr×Bool)),((dD n l).map (·.it)).Nodup
 | _,[]=>List.nodup_nil
 | n,(a,t)::r=>by
  rw [dD,iM,List.nodup_cons]
  refine ⟨λhm=>?_,Qp (n+1) r⟩
  obtain ⟨p,hp,e⟩:=List.mem_map.mp hm
  have:=(CW (n+1) r p hp).1
  have e':p.it=n:=e
  rw [e'] at this
  exact absurd this (Nat.not_succ_le_self n)
theorem Jp:∀ (n:Nat) (l:List (Addr×Bool)) (p:Addr×Bool),dD n (l++[p])=dD n l++[⟨n+l.length,p.1,p.2⟩]
 | n,[],(a,t)=>rfl
 | n,(b,u)::r,p=>by
  rw [List.cons_append,dD,dD,Jp (n+1) r p,List.cons_append]
  have:n+1+r.length=n+(r.length+1):=by omega
  simp [this]
theorem ziY {l:List (Addr×Bool)} {Q:List Value->Shared->Prop} (hl:∀ p∈l,d7 s.heap p)
 (h:∀ h',(∀ b o,s.heap.get? b=some o->h'.get? b=some o)->h'.objs.size=s.heap.objs.size+l.length->(∀ p∈dD s.heap.objs.size l,bZ h' p 0)->Q ((dD s.heap.objs.size l).map λp=>Value.ref p.it) { s with heap:=h' }) :
 wpAny (model prog w) A (Builtin.SmallTypes.iterAll (l.map λp=>Value.ref p.1)) Q E s:=by
 unfold Builtin.SmallTypes.iterAll
 refine aN ?_
 refine wpAny_forIn_list _ (λrest its s'=>∃ d r h',l=d++r/\rest=r.map (λp=>Value.ref p.1)/\its=((dD s.heap.objs.size d).map λp=>Value.ref p.it).toArray/\s'={ s with heap:=h' } /\
  (∀ b o,s.heap.get? b=some o->h'.get? b=some o)/\h'.objs.size=s.heap.objs.size+d.length/\∀ p∈dD s.heap.objs.size d,bZ h' p 0) _ ?_ ?_ _ _ ?_
 ·rintro x rest its s' ⟨d,r,h',rfl,hr,rfl,rfl,k1,z1,i1⟩
  cases r with
  | nil=>cases hr
  | cons p r =>
   rw [iM] at hr
   injection hr with e1 e2
   subst e1
   refine aN (wpAny_holding (zlF (s:={ s with heap:=h' }) ((hl p (by simp)).keeps k1) λh2 k2 z2 i2=>bW ?_))
   refine ⟨d++[p],r,h2,by simp,e2,?_,rfl,λb o e=>k2 b o (k1 b o e),by rw [z2];simp;show h'.objs.size+1=_;omega,λq hq=>?_⟩
   ·rw [Jp,oF]
    simp [z1]
   ·rw [Jp] at hq
    rcases jK.mp hq with hq | hq
    ·exact (i1 q hq).at λo e=>k2 _ o e
    ·have e:q=⟨s.heap.objs.size+d.length,p.1,p.2⟩:=by simpa using hq
     subst e
     have:({ s with heap:=h' }:Shared).heap.objs.size=s.heap.objs.size+d.length:=z1
     rw [<-this];exact i2
 ·rintro its s' ⟨d,r,h',rfl,hr,rfl,rfl,k1,z1,i1⟩
  cases r with
  | cons p r=>cases hr
  | nil =>
   rw [List.append_nil] at *
   exact bW (by simpa using h h' k1 z1 i1)
 ·exact ⟨[],l,s.heap,rfl,rfl,rfl,rfl,λ_ _ e=>e,rfl,λp hp=>by cases hp⟩
theorem zjX {l:List (Addr×Bool)} (hl:l.length<=100) :
 Meets (Builtin.«zip.__new__» ⟨.type "zip" :: l.map (λp=>Value.ref p.1),[]⟩) (λ_ R s=>(∀ p∈l,d7 s.heap p) /\
  ∀ h',IsZip h' (s.heap.objs.size+l.length+2) (s.heap.objs.size+l.length) (s.heap.objs.size+l.length+1) .none->h'.get? (s.heap.objs.size+l.length)=some (cV ((dD s.heap.objs.size l).map λp=>Value.ref p.it)) ->
   h'.get? (s.heap.objs.size+l.length+1)=some (cV ((dD s.heap.objs.size l).map λ_=>Value.none))->(∀ p∈dD s.heap.objs.size l,bZ h' p 0)->h'.objs.size=s.heap.objs.size+l.length+3 ->
   (∀ b o,s.heap.get? b=some o->h'.get? b=some o)->R (.ok (.ret (.ref (s.heap.objs.size+l.length+2)))) { s with heap:=h' }) :=
 .of_wp λprog w A R s h=>by
  obtain ⟨hl1,h⟩:=h
  have line:(100:Nat)<=sizeLine:=by decide
  have hsl:=Jc s.heap.objs.size l
  unfold Builtin.«zip.__new__»
  refine aN ?_
  unfold Builtin.SmallTypes.newClass
  show wpAny _ _ (isType (.type "zip") >>= _) _ _ _
  refine aN (wpAny_of_eq (a:=true) rfl ?_)
  show wpAny _ _ (isSubtype (.type "zip") (.type "zip") >>= _) _ _ _
  refine aN (wpAny_of_eq (a:=true) sub_zip ?_)
  refine bW ?_
  show wpAny _ _ (Builtin.SmallTypes.iterAll (l.map λp=>Value.ref p.1) >>= _) _ _ _
  refine aN (ziY hl1 λh1 k1 z1 i1=>?_)
  show wpAny _ _ (newTuple ((dD s.heap.objs.size l).map λp=>Value.ref p.it) >>= _) _ _ _
  refine aN (wpAny_newTuple ?_ (by rw [cQ];omega))
  refine aN (wpAny_newTuple ?_ (by simp only [cQ];omega))
  refine aN ?_
  unfold Builtin.SmallTypes.newRecord
  refine wpAny_newObj_type ?_ (by first | trivial | (show (_:Nat)<=_;simp;decide) | size_fits)
  refine bW ⟨_,rfl,?_⟩
  have z2:(h1.push (cV ((dD s.heap.objs.size l).map λp=>Value.ref p.it))).objs.size=s.heap.objs.size+l.length+1:=by rw [Heap.size_push,z1]
  have z3:((h1.push (cV ((dD s.heap.objs.size l).map λp=>Value.ref p.it))).push (cV (((dD s.heap.objs.size l).map λp=>Value.ref p.it).map λ_=>Value.none))).objs.size=s.heap.objs.size+l.length+2:=by rw [Heap.size_push,z2]
  have g1:∀ o,((h1.push (cV ((dD s.heap.objs.size l).map λp=>Value.ref p.it))).push (cV (((dD s.heap.objs.size l).map λp=>Value.ref p.it).map λ_=>Value.none)) |>.push o).get? (s.heap.objs.size+l.length)=some (cV ((dD s.heap.objs.size l).map λp=>Value.ref p.it)):=λo=>by
   rw [<-z1];exact c7 _ (c7 _ (fZ _ rfl))
  have g2:∀ o,((h1.push (cV ((dD s.heap.objs.size l).map λp=>Value.ref p.it))).push (cV (((dD s.heap.objs.size l).map λp=>Value.ref p.it).map λ_=>Value.none)) |>.push o).get? (s.heap.objs.size+l.length+1)=some (cV ((dD s.heap.objs.size l).map λ_=>Value.none)):=λo=>by
   rw [<-z2]
   have:=c7 o (fZ (h1.push (cV ((dD s.heap.objs.size l).map λp=>Value.ref p.it))) (o:=cV (((dD s.heap.objs.size l).map λp=>Value.ref p.it).map λ_=>Value.none)) rfl)
   rw [List.map_map] at this ⊢
   exact this
  have g3:((h1.push (cV ((dD s.heap.objs.size l).map λp=>Value.ref p.it))).push (cV (((dD s.heap.objs.size l).map λp=>Value.ref p.it).map λ_=>Value.none)) |>.push { cls := .type "zip",dict:=none,data := .fields #[.none,.bool false,.bool false,.ref (s.heap.objs.size+l.length),.ref (s.heap.objs.size+l.length+1)],slots:=#[] }).get? (s.heap.objs.size+l.length+2)=some { cls := .type "zip",dict:=none,data := .fields #[.none,.bool false,.bool false,.ref (s.heap.objs.size+l.length),.ref (s.heap.objs.size+l.length+1)],slots:=#[] }:=by
   rw [<-z3];exact fZ _ rfl
  have fin:=h _ g3 (g1 _) (g2 _) (λp hp=>(i1 p hp).at λo e=>c7 _ (c7 _ (c7 _ e))) (by rw [Heap.size_push,z3]) λb o e=>c7 _ (c7 _ (c7 _ (k1 b o e)))
  show R (.ok (.ret (.ref ((h1.push (cV ((dD s.heap.objs.size l).map λp=>Value.ref p.it))).push (cV (((dD s.heap.objs.size l).map λp=>Value.ref p.it).map λ_=>Value.none))).objs.size))) { s with heap:=((h1.push (cV ((dD s.heap.objs.size l).map λp=>Value.ref p.it))).push (cV (((dD s.heap.objs.size l).map λp=>Value.ref p.it).map λ_=>Value.none))).push { cls := .type "zip",dict:=none,data := .fields #[.none,.bool false,.bool false,.ref h1.objs.size,.ref (h1.push (cV ((dD s.heap.objs.size l).map λp=>Value.ref p.it))).objs.size],slots:=#[] } }
  rw [z3,z2,z1]
  exact fin
end
end MZ
end
section
namespace MZ
open PySem PySem.Spec PyProof.Rows L2
def rowAt {α:Type}:List (List α)->Nat->Option (List α)
 | [],_=>some []
 | xs::r,i=>(xs[i]?).bind λx=>(rowAt r i).map (x::·)
theorem Rx {α:Type}:∀ {xss:List (List α)} {i:Nat} {row:List α},rowAt xss i=some row->row.length=xss.length
 | [],_,_,h=>by cases h;rfl
 | xs::r,i,row,h=>by
  simp only [rowAt,bA,aU] at h
  obtain ⟨x,_,r',e,rfl⟩:=h
  simp [Rx e]
theorem Rw {α:Type}:∀ {xss:List (List α)} {i j:Nat} {row:List α} {xs:List α} {x:α},rowAt xss i=some row->xss[j]?=some xs->row[j]?=some x->xs[i]?=some x
 | [],_,_,_,_,_,_,h,_=>by simp at h
 | ys::r,i,0,row,xs,x,h,h1,h2=>by
  simp only [rowAt,bA,aU] at h
  obtain ⟨y,e1,r',e,rfl⟩:=h
  simp at h1 h2;subst h1;subst h2;exact e1
 | ys::r,i,j+1,row,xs,x,h,h1,h2=>by
  simp only [rowAt,bA,aU] at h
  obtain ⟨y,e1,r',e,rfl⟩:=h
  exact Rw e (by simpa using h1) (by simpa using h2)
theorem Sy {α:Type}:∀ {xss:List (List α)} {i:Nat},rowAt xss i=none->∃ j,j<xss.length/\(∀ (k:Nat) xs,k<j->xss[k]?=some xs->∃ x,xs[i]?=some x)/\∀ xs,xss[j]?=some xs->xs[i]?=none
 | [],_,h=>by cases h
 | ys::r,i,h=>by
  cases e:ys[i]? with
  | none=>exact ⟨0,by simp,λk xs hk=>absurd hk (Nat.not_lt_zero _),λxs hx=>by simp at hx;subst hx;exact e⟩
  | some y =>
   have h':rowAt r i=none:=by
    cases q:rowAt r i with
    | none=>rfl
    | some z=>simp [rowAt,e,q] at h
   obtain ⟨j,h1,h2,h3⟩:=Sy h'
   refine ⟨j+1,by simp;omega,λk xs hk hx=>?_,λxs hx=>h3 xs (by simpa using hx)⟩
   cases k with
   | zero=>simp at hx;subst hx;exact ⟨y,e⟩
   | succ k=>exact h2 k xs (by omega) (by simpa using hx)
inductive SrcsR (K:PySem.W.Frag) (H:Hp):List (Addr×Bool)->List (List V)->Prop
 | nil:SrcsR K H [] []
 | tup {a:Addr} {xs:List V} {l:List (Addr×Bool)} {r:List (List V)}:dF K H a xs->SrcsR K H l r->SrcsR K H ((a,true)::l) (xs::r)
 | lst {a:Addr} {xs:List V} {l:List (Addr×Bool)} {r:List (List V)}:dh K H a xs->SrcsR K H l r->SrcsR K H ((a,false)::l) (xs::r)
def Itz (K:PySem.W.Frag) (srcs:List (Addr×Bool)):It :=
 ⟨λi H=>∃ xss row,SrcsR K H srcs xss/\rowAt xss i=some row,
  λi H x H'=>∃ p row,x = .ref p/\H p=none/\H'=upd H p (.tup row)/\∀ xss,SrcsR K H srcs xss->rowAt xss i=some row,
  λi H=>∃ xss,SrcsR K H srcs xss/\rowAt xss i=none⟩
section
variable {X:Cx} {pins:List (Addr×Obj)} {σ:L2.St} {H:Hp} {s:Shared}
theorem Ja (I:Inv X pins σ H s):∀ {l:List (Addr×Bool)} {r r':List (List V)},SrcsR X.K H l r->SrcsR X.K H l r'->r=r'
 | _,_,_,.nil,.nil=>rfl
 | _,_,_,.tup h t,.tup h' t'=>by rw [I.tuple_inj h h',Ja I t t']
 | _,_,_,.lst h t,.lst h' t'=>by rw [I.list_inj h h',Ja I t t']
theorem Ds (I:Inv X pins σ H s):∀ {l:List (Addr×Bool)} {r:List (List V)},SrcsR X.K H l r->∃ us:List (List Value),us.length=l.length /\
 (∀ (j:Nat) p u,l[j]?=some p->us[j]?=some u->SrcAt s.heap ⟨0,p.1,p.2⟩ u)/\(∀ (i:Nat) row,rowAt r i=some row->∃ iu,rowAt us i=some iu/\Vals row iu)/\∀ (i:Nat),rowAt r i=none->rowAt us i=none
 | _,_,.nil=>⟨[],rfl,λj p u h=>by simp at h,λi row h=>by cases h;exact ⟨[],rfl,.nil⟩,λi h=>by cases h⟩
 | _,_,@SrcsR.tup _ _ a xs l r h t=>by
  obtain ⟨us,h1,h2,h3,h4⟩:=Ds I t
  obtain ⟨its,rv,ht,hz⟩:=I.tuple h
  refine ⟨its::us,by simp [h1],λj p u e1 e2=>?_,λi row e=>?_,λi e=>?_⟩
  ·cases j with
   | zero=>simp at e1 e2;subst e1;subst e2;unfold SrcAt;rw [if_pos rfl];exact ht
   | succ j=>exact h2 j p u (by simpa using e1) (by simpa using e2)
  ·simp only [rowAt,bA,aU] at e
   obtain ⟨x,e1,r',e2,rfl⟩:=e
   obtain ⟨w,ew,dX⟩:=rv.get e1
   obtain ⟨ur,e3,r3⟩:=h3 i r' e2
   exact ⟨w::ur,by simp [rowAt,ew,e3],.cons dX r3⟩
  ·cases q:xs[i]? with
   | none=>simp [rowAt,rv.none_of q]
   | some x =>
    have e':rowAt r i=none:=by
     cases q2:rowAt r i with
     | none=>rfl
     | some z=>simp [rowAt,q,q2] at e
    obtain ⟨w,ew,_⟩:=rv.get q
    simp [rowAt,ew,h4 i e']
 | _,_,@SrcsR.lst _ _ a xs l r h t=>by
  obtain ⟨us,h1,h2,h3,h4⟩:=Ds I t
  obtain ⟨its,rv,ht,hz⟩:=I.list h
  refine ⟨its::us,by simp [h1],λj p u e1 e2=>?_,λi row e=>?_,λi e=>?_⟩
  ·cases j with
   | zero=>simp at e1 e2;subst e1;subst e2;unfold SrcAt;rw [if_neg fQ];exact ht.isList
   | succ j=>exact h2 j p u (by simpa using e1) (by simpa using e2)
  ·simp only [rowAt,bA,aU] at e
   obtain ⟨x,e1,r',e2,rfl⟩:=e
   obtain ⟨w,ew,dX⟩:=rv.get e1
   obtain ⟨ur,e3,r3⟩:=h3 i r' e2
   exact ⟨w::ur,by simp [rowAt,ew,e3],.cons dX r3⟩
  ·cases q:xs[i]? with
   | none=>simp [rowAt,rv.none_of q]
   | some x =>
    have e':rowAt r i=none:=by
     cases q2:rowAt r i with
     | none=>rfl
     | some z=>simp [rowAt,q,q2] at e
    obtain ⟨w,ew,_⟩:=rv.get q
    simp [rowAt,ew,h4 i e']
theorem QC {a:Addr} {u:HO} (h:Rd H a u):∃ o,H a=some o:=by
 rcases h with h | ⟨o,h⟩
 ·exact ⟨_,h⟩
 ·exact ⟨_,h⟩
theorem k_ne (I:Inv X pins σ H s) {a b:Addr} {o:Obj} (hk:X.K.lookup a=some o) (hf:jA X pins H b):a≠b:=by
 rintro rfl
 have hb:=I.ok.mod.kin a o hk
 rcases hf.2.2.2.1 with z | z
 ·exact I.ok.noex a o hb z
 ·exact absurd (dj (dj (cj hb) I.ok.bsz) z) (gF _)
theorem rH (I:Inv X pins σ H s) {b:Addr} (hf:jA X pins H b):∀ {l:List (Addr×Bool)} {r:List (List V)},SrcsR X.K H l r->∀ p∈l,p.1≠b
 | _,_,.nil,p,hp=>by cases hp
 | _,_,.tup h t,p,hp=>by
  rcases List.mem_cons.mp hp with rfl | hp
  ·rcases h with h | ⟨o,_,_,hk,_⟩
   ·obtain ⟨o,e⟩:=QC h
    exact fU e hf.1
   ·exact k_ne I hk hf
  ·exact rH I hf t p hp
 | _,_,.lst h t,p,hp=>by
  rcases List.mem_cons.mp hp with rfl | hp
  ·rcases h with h | ⟨o,_,_,hk,_⟩
   ·obtain ⟨o,e⟩:=QC h
    exact fU e hf.1
   ·exact k_ne I hk hf
  ·exact rH I hf t p hp
theorem Ik (I:Inv X pins σ H s):∀ {l:List (Addr×Bool)} {r:List (List V)},SrcsR X.K H l r->∀ p∈l,d7 s.heap p
 | _,_,.nil,p,hp=>by cases hp
 | _,_,.tup h t,p,hp=>by
  rcases List.mem_cons.mp hp with rfl | hp
  ·obtain ⟨its,_,ht,_⟩:=I.tuple h
   unfold d7;rw [if_pos rfl];exact ⟨_,ht⟩
  ·exact Ik I t p hp
 | _,_,.lst h t,p,hp=>by
  rcases List.mem_cons.mp hp with rfl | hp
  ·obtain ⟨its,_,ht,_⟩:=I.list h
   unfold d7;rw [if_neg fQ];exact ⟨_,ht.isList⟩
  ·exact Ik I t p hp
theorem Inv.turnedN {t':Nat} {h':Heap} {ch:List Addr} (I:Inv X pins σ H s) (k:∀ b o,b∉ch->s.heap.get? b=some o->h'.get? b=some o) (hf:∀ b∈ch,jA X pins H b):Inv X pins σ H { s with heap:=h',toks:=t' }:=by
 have nO:∀ b u,H b=some u->b∉ch:=λb u e hb=>by rw [(hf b hb).1] at e;cases e
 refine I.step (g':=s.gens) (d':=s.drawn) (ch:=ch) (λb hb=>⟨(hf b hb).2.2.2.1,(hf b hb).2.1,(hf b hb).2.2.2.2.1,(hf b hb).2.2.2.2.2⟩) (λb o _ _ hc e _=>k b o hc e) (λb o _ _ hc e _=>⟨o.slots,k b o hc e⟩) (λ_ _ _ _ n=>n)
  (λb o hc e=>⟨o,k b o hc e⟩) (λ_ _ e=>e) (λ_ _ _ e=>e) (λb ps e=>⟨#[],by rw [e];simp⟩) (λm hm=>?_) (λb u e=>?_) I.bare
 ·obtain ⟨o,es,ep,ho,r⟩:=hm
  exact ⟨o,es,ep,k _ o (λhb=>(hf _ hb).2.1 rfl) ho,r⟩
 ·refine (I.hok b u e).stay (λc v hc q=>k c v ?_ q) (λ_ q=>q) λ_ _ q=>q
  rcases hc with rfl | hc
  ·exact nO _ _ e
  ·exact nO _ _ hc
theorem Inv.turnedT {t':Nat} {h':Heap} {ch:List Addr} {row:List V} {iu:List Value} (I:Inv X pins σ H s) (k:∀ b o,b∉ch->s.heap.get? b=some o->h'.get? b=some o) (hf:∀ b∈ch,jA X pins H b)
 (ht:h'.get? s.heap.objs.size=some (cV iu)) (rv:Vals row iu) (hz:row.length<=sizeLine):Inv X pins σ (upd H s.heap.objs.size (.tup row)) { s with heap:=h',toks:=t' }:=by
 have nO:∀ b u,H b=some u->b∉ch:=λb u e hb=>by rw [(hf b hb).1] at e;cases e
 have hn:H s.heap.objs.size=none:=I.hok.fresh (bR _)
 have old:∀ b o,s.heap.get? b=some o->b≠s.heap.objs.size:=λb o e=>dw (cj e)
 refine I.step (g':=s.gens) (d':=s.drawn) (ch:=ch) (λb hb=>⟨(hf b hb).2.2.2.1,(hf b hb).2.1,(hf b hb).2.2.2.2.1,(hf b hb).2.2.2.2.2⟩) (λb o _ _ hc e _=>k b o hc e) (λb o _ _ hc e _=>⟨o.slots,k b o hc e⟩)
  (λb o _ e n=>by rw [bY (old b o e)];exact n)
  (λb o hc e=>⟨o,k b o hc e⟩) (λb xs e=>by rw [bY (fU e hn)];exact e) (λb o u e=>by rw [bY (fU e hn)];exact e) (λb ps e=>⟨#[],by rw [bY (fU e hn),e];simp⟩) (λm hm=>?_) (λb u e=>?_) I.bare
 ·obtain ⟨o,es,ep,ho,r⟩:=hm
  exact ⟨o,es,ep,k _ o (λhb=>(hf _ hb).2.1 rfl) ho,r⟩
 ·by_cases hb:b=s.heap.objs.size
  ·subst hb
   rw [eO] at e;cases e
   exact ⟨hz,iu,rv,⟨_,ht,rfl,_,rfl⟩⟩
  ·rw [bY hb] at e
   refine (I.hok b u e).stay (λc v hc q=>k c v ?_ q) (λc q=>by rw [bY (fU q hn)];exact q) λc xs q=>by rw [bY (fU q hn)];exact q
   rcases hc with rfl | hc
   ·exact nO _ _ e
   ·exact nO _ _ hc
end
structure vQ (z TI TO:Addr) (ps:List Sub):Prop where
 TIz:TI≠z
 TOz:TO≠z
 TITO:TI≠TO
 iz:∀ p∈ps,p.it≠z
 iTI:∀ p∈ps,p.it≠TI
 iTO:∀ p∈ps,p.it≠TO
 nd:(ps.map (·.it)).Nodup
theorem zkU {P:Program} {w:World} {K:PySem.W.Frag} {es:List Expr} {kk:Nat} {tp:Pos} {z TI TO:Addr} {ps:List Sub} {srcs:List (Addr×Bool)} (D:vQ z TI TO ps) (fW:ps.map (λp=>(p.src,p.tup))=srcs) (hne:ps≠[]) (hps:ps.length<=100) :
 tR P w K (.Tuple es kk tp) (Itz K srcs) (z::TI::TO::ps.map (·.it)) z (λi h=>IsZip h z TI TO .none/\h.get? TI=some (cV (ps.map λp=>Value.ref p.it))/\(∃ ys,h.get? TO=some (cV ys)/\ys.length=ps.length)/\∀ p∈ps,bZ h p i) where
 mem:=fL
 obj:=λi h ⟨h1,h2,⟨ys,h3,_⟩,h4⟩ b hb=>by
  rcases List.mem_cons.mp hb with rfl | hb
  ·exact ⟨_,h1,λv z=>by cases z⟩
  rcases List.mem_cons.mp hb with rfl | hb
  ·exact ⟨_,h2,λv z=>by cases z⟩
  rcases List.mem_cons.mp hb with rfl | hb
  ·exact ⟨_,h3,λv z=>by cases z⟩
  obtain ⟨p,hp,rfl⟩:=List.mem_map.mp hb
  exact (h4 p hp).obj
 keep:=λi h h' ⟨h1,h2,⟨ys,h3,h3'⟩,h4⟩ k=>by
  refine ⟨k z fL _ h1,k TI (by simp) _ h2,⟨ys,k TO (by simp) _ h3,h3'⟩,λp hp=>(h4 p hp).at λo e=>k _ ?_ o e⟩
  exact cM _ (cM _ (cM _ (List.mem_map.mpr ⟨p,hp,rfl⟩)))
 item:=by
  intro X hP hw hK hc i pins s σ H E I hf st hg
  subst hP hw hK
  obtain ⟨h1,h2,⟨ys,h3,h3'⟩,h4⟩:=st
  obtain ⟨xss,row,hS,hrow⟩:=hg
  obtain ⟨us,u1,u2,u3,u4⟩:=Ds I hS
  obtain ⟨iu,e1,rv⟩:=u3 i row hrow
  have hlen:srcs.length=ps.length:=by rw [<-fW,cQ]
  have fz:=hf z fL
  have Bc:=hf TO (by simp)
  have fit:∀ p∈ps,jA X pins H p.it:=λp hp=>hf _ (cM _ (cM _ (cM _ (List.mem_map.mpr ⟨p,hp,rfl⟩))))
  have sm:∀ p∈ps,(p.src,p.tup)∈srcs:=λp hp=>by rw [<-fW];exact List.mem_map.mpr ⟨p,hp,rfl⟩
  have DD:vX z TI TO ps:=⟨D.TIz,D.TOz,D.TITO,D.iz,D.iTI,D.iTO,λp hp=>rH I fz hS _ (sm p hp),λp hp=>rH I Bc hS _ (sm p hp),λp hp q hq=>rH I (fit q hq) hS _ (sm p hp),D.nd⟩
  have ul:us.length=ps.length:=by rw [u1,hlen]
  have hrl:iu.length=ps.length:=by rw [Rx e1,ul]
  have hat:∀ (j:Nat) p xs,ps[j]?=some p->us[j]?=some xs->SrcAt s.heap p xs:=λj p xs hp hx=>by
   have hj:srcs[j]?=some (p.src,p.tup):=by rw [<-fW,eV,hp];rfl
   exact u2 j _ xs hj hx
  refine zjO DD hne hps h1 h2 h3 h3' ul hrl h4 hat (λj xs x hx hr=>Rw e1 hx hr) λh' a1 a2 a3 a4 a5 a6=>?_
  refine ⟨_,rfl,wpAny_letOwnedTupleGo_zip (s:={ s with heap:=h' }) a1 λh'' b1 b2=>?_⟩
  have Ng:s.heap.objs.size≠z:=Nat.ne_of_gt (cj h1)
  have kp:∀ c o,c∉(z::TO::ps.map (·.it))->s.heap.get? c=some o->h''.get? c=some o:=λc o hc e=>by
   have c1:c≠z:=λq=>hc (by simp [q])
   have c2:c≠TO:=λq=>hc (by simp [q])
   have c3:∀ p∈ps,c≠p.it:=λp hp q=>hc (cM _ (cM _ (List.mem_map.mpr ⟨p,hp,q.symm⟩)))
   exact b2.extBut _ _ c1 (a6 c o c1 c2 c3 e)
  have fch:∀ b∈z::TO::ps.map (·.it),jA X pins H b:=λb hb=>by
   rcases List.mem_cons.mp hb with rfl | hb
   ·exact fz
   rcases List.mem_cons.mp hb with rfl | hb
   ·exact Bc
   exact hf b (cM _ (cM _ (cM _ hb)))
  have line:(100:Nat)<=sizeLine:=by decide
  have I1:Inv X pins σ (upd H s.heap.objs.size (.tup row)) { s with heap:=h'' }:=Inv.turnedT (t':=s.toks) I kp fch (b2.extBut _ _ Ng a4) rv (by rw [rv.length,hrl];omega)
  refine ⟨.ref s.heap.objs.size,_,I1,rfl,⟨s.heap.objs.size,row,rfl,I.hok.fresh (bR _),rfl,λxss' h=>by rw [Ja I h hS];exact hrow⟩,⟨b1,?_,⟨iu,b2.extBut _ _ D.TOz a2,hrl⟩,λp hp=>(a3 p hp).at λo e=>b2.extBut _ _ (D.iz p hp) e⟩,λb hb=>?_⟩
  ·exact b2.extBut _ _ D.TIz (a6 _ _ D.TIz D.TITO (λp hp=>(D.iTI p hp).symm) h2)
  ·have hlt:b<s.heap.objs.size:=by
    rcases List.mem_cons.mp hb with rfl | hb
    ·exact cj h1
    rcases List.mem_cons.mp hb with rfl | hb
    ·exact cj h2
    rcases List.mem_cons.mp hb with rfl | hb
    ·exact cj h3
    obtain ⟨p,hp,rfl⟩:=List.mem_map.mp hb
    obtain ⟨o,e,_⟩:=(h4 p hp).obj
    exact cj e
   rw [bY (dw hlt)]
   exact (hf b hb).1
 done:=by
  intro X hP hw hK hc i pins s σ H E I hf st hg
  subst hP hw hK
  obtain ⟨h1,h2,⟨ys,h3,h3'⟩,h4⟩:=st
  obtain ⟨xss,hS,hrow⟩:=hg
  obtain ⟨us,u1,u2,u3,u4⟩:=Ds I hS
  have e1:=u4 i hrow
  obtain ⟨j₀,j1,j2,j3⟩:=Sy e1
  have hlen:srcs.length=ps.length:=by rw [<-fW,cQ]
  have fz:=hf z fL
  have Bc:=hf TO (by simp)
  have fit:∀ p∈ps,jA X pins H p.it:=λp hp=>hf _ (cM _ (cM _ (cM _ (List.mem_map.mpr ⟨p,hp,rfl⟩))))
  have sm:∀ p∈ps,(p.src,p.tup)∈srcs:=λp hp=>by rw [<-fW];exact List.mem_map.mpr ⟨p,hp,rfl⟩
  have DD:vX z TI TO ps:=⟨D.TIz,D.TOz,D.TITO,D.iz,D.iTI,D.iTO,λp hp=>rH I fz hS _ (sm p hp),λp hp=>rH I Bc hS _ (sm p hp),λp hp q hq=>rH I (fit q hq) hS _ (sm p hp),D.nd⟩
  have ul:us.length=ps.length:=by rw [u1,hlen]
  have hat:∀ (j:Nat) p xs,ps[j]?=some p->us[j]?=some xs->SrcAt s.heap p xs:=λj p xs hp hx=>by
   have hj:srcs[j]?=some (p.src,p.tup):=by rw [<-fW,eV,hp];rfl
   exact u2 j _ xs hj hx
  refine zlw (I.ok.hd hc) DD hne hps h1 h2 h3 h3' ul h4 hat (by omega) j2 j3 λh' a6=>⟨rfl,?_⟩
  refine Inv.turnedN (t':=s.toks) (ch:=z::TO::ps.map (·.it)) I (λc o hc e=>a6 c o (λq=>hc (by simp [q])) (λq=>hc (by simp [q])) (λp hp q=>hc (cM _ (cM _ (List.mem_map.mpr ⟨p,hp,q.symm⟩)))) e) λb hb=>?_
  rcases List.mem_cons.mp hb with rfl | hb
  ·exact fz
  rcases List.mem_cons.mp hb with rfl | hb
  ·exact Bc
  exact hf b (cM _ (cM _ (cM _ hb)))
 self:=λ_ _ _ _ _ st h=>wpAny_pyIter_zip st.1 h
theorem zlW:bootBuiltins "zip" = some (.type "zip"):=by decide +kernel
theorem arity (l:List Value) (h2:2<=l.length) (h4:l.length<=4):checkTypeCall "zip" ⟨l,[]⟩=pure ()/\checkBuiltinCall "zip.__new__" ⟨.type "zip" :: l,[]⟩=pure ()/\∀ obj,argsOk "object.__init__" ⟨obj::l,[]⟩:=by
 have ao:∀ (k:List Value),k.length<=5->k≠[]->argsOk "object.__init__" ⟨k,[]⟩:=λk hk hn=>by
  unfold argsOk
  rw [signature?_of (id := "object.__init__") (n:=['_','_','t','i','n','i','_','_']) (o:=['t','c','e','j','b','o']) (by kernel_rfl) F.owner_object]
  rcases k with _ | ⟨k1,_ | ⟨k2,_ | ⟨k3,_ | ⟨k4,_ | ⟨k5,_ | ⟨k6,r⟩⟩⟩⟩⟩⟩
  ·exact absurd rfl hn
  ·kernel_rfl
  ·kernel_rfl
  ·kernel_rfl
  ·kernel_rfl
  ·kernel_rfl
  ·exact absurd hk (by simp only [iG];omega)
 rcases l with _ | ⟨a,_ | ⟨b,_ | ⟨c,_ | ⟨d,_ | ⟨e,r⟩⟩⟩⟩⟩
 ·exact absurd h2 (by simp only [vU];omega)
 ·exact absurd h2 (by simp only [iG,vU];omega)
 ·exact ⟨by kernel_rfl,by kernel_rfl,λo=>ao _ (by simp) (by simp)⟩
 ·exact ⟨by kernel_rfl,by kernel_rfl,λo=>ao _ (by simp) (by simp)⟩
 ·exact ⟨by kernel_rfl,by kernel_rfl,λo=>ao _ (by simp) (by simp)⟩
 ·exact absurd h4 (by simp only [iG];omega)
def Ai (K:PySem.W.Frag) (ta:TA):TI:=λσ H R=>ta σ H λvs H1=>∃ srcs:List (Addr×Bool),vs=srcs.map (λp=>V.ref p.1)/\2<=srcs.length/\srcs.length<=4/\(∃ xss,SrcsR K H1 srcs xss)/\R (Itz K srcs) H1
theorem RM:∀ {l:List (Addr×Bool)} {us:List Value},Vals (l.map λp=>V.ref p.1) us->us=l.map λp=>Value.ref p.1
 | [],_,.nil=>rfl
 | _::_,_,.cons r t=>by cases r;rw [RM t];rfl
theorem zpq {X:Cx} {es ts:List Expr} {kk:Nat} {tp p pos:Pos} {ta:TA} {e:Expr} (hg:Gl X "zip") (hm:X.mg "zip" = none) (ha:PA X (e::es) ta) (hst:starEach (e::es) X.env=(false,eval e X.env)::starEach es X.env)
 (hpl:(backTo pos (starEach es X.env)).any (·.1)=false):PI X (.Tuple ts kk tp) (.Call (.Name "zip" p) (e::es) [] pos) (Ai X.K ta):=by
 intro pins s σ H R I h
 refine Call_ (rG I hg hm zlW (PyProof.Rows.callWith_type1 (bL (ha pos pins s σ H _ I h) λus s1 ⟨vs,H1,I1,r1,q1⟩=>?_) hst hpl))
 obtain ⟨srcs,e0,h2,h4,⟨xss,hS⟩,q⟩:=q1
 subst e0
 have eu:=RM r1
 subst eu
 obtain ⟨c1,c2,c3⟩:=arity (srcs.map λp=>Value.ref p.1) (by simpa using h2) (by simpa using h4)
 refine callType_new F.called_zip (by decide) c1 c2 c3 F.entry_zip_new (zjX (l:=srcs) (by omega)) ⟨Ik I1 hS,λh' z1 z2 z3 z4 z5 z6=>?_⟩
 show _/\_
 refine ⟨⟨_,z1,rfl⟩,?_⟩
 refine wpAny_pyIter_zip (s:={ s1 with heap:=h' }) z1 ?_
 have I2:Inv X pins σ H1 { s1 with heap:=h' }:=I1.kept (t':=s1.toks) z6
 have hl:(dD s1.heap.objs.size srcs).length=srcs.length:=Jc _ _
 have hmap:∀ (n:Nat) (l:List (Addr×Bool)),(dD n l).map (λp=>(p.src,p.tup))=l:=λn l=>by
  induction l generalizing n with
  | nil=>rfl
  | cons a r ih=>obtain ⟨a,t⟩:=a;rw [dD,iM,ih]
 have lt:∀ p∈dD s1.heap.objs.size srcs,s1.heap.objs.size<=p.it/\p.it<s1.heap.objs.size+srcs.length:=λp hp=>⟨(CW _ _ p hp).1,(CW _ _ p hp).2.1⟩
 refine ⟨_,_,_,_,H1,rfl,I2,zkU (K:=X.K) (srcs:=srcs) (ps:=dD s1.heap.objs.size srcs) (z:=s1.heap.objs.size+srcs.length+2) (TI:=s1.heap.objs.size+srcs.length) (TO:=s1.heap.objs.size+srcs.length+1)
  ⟨dw (by omega),dw (by omega),dw (by omega),λp hp=>dw (dj (lt p hp).2 (by omega)),λp hp=>dw (lt p hp).2,λp hp=>dw (dj (lt p hp).2 (by omega)),Qp _ _⟩ (hmap _ _) (λz=>by rw [z] at hl;simp at hl;omega) (by omega),⟨z1,z2,⟨_,z3,by simp⟩,z4⟩,λb hb=>?_,q⟩
 have hge:s1.heap.objs.size<=b:=by
  rcases List.mem_cons.mp hb with rfl | hb
  ·omega
  rcases List.mem_cons.mp hb with rfl | hb
  ·omega
  rcases List.mem_cons.mp hb with rfl | hb
  ·omega
  obtain ⟨p,hp,rfl⟩:=List.mem_map.mp hb
  exact (lt p hp).1
 exact I1.fpOk hge (I1.hok.fresh hge)
end MZ
end
section
namespace MX
open PySem PySem.Spec PyProof.Rows L2
inductive D where
 | non | bl (b:Bool) | int (i:Int) | str (x:Str) | tup (xs:List D) | ref (n:Nat)
 | ty (n:String) | adr (a:Addr)
 | obj (C:Str) (ks:List Str) (xs:List D)
inductive O where
 | lst (xs:List D)
 | frz (xs:List D)
 | ins (C:Str) (fs:List (Str×D))
 | dct (xs:List (NK×Int))
 | tbl (x:Str)
abbrev Sg:=List (Option D)
abbrev So:=List O
mutual
inductive Rep (K:PySem.W.Frag) (H:Hp) (α:List Addr):D->V->Prop
 | non:Rep K H α .non .non
 | bl (b:Bool):Rep K H α (.bl b) (.bl b)
 | int (i:Int):Rep K H α (.int i) (.int i)
 | str (x:Str):Rep K H α (.str x) (.str x)
 | tup {a:Addr} {ds:List D} {vs:List V}:dF K H a vs->aF K H α ds vs->Rep K H α (.tup ds) (.ref a)
 | ref {n:Nat} {a:Addr}:α[n]?=some a->Rep K H α (.ref n) (.ref a)
 | ty (n:String):Rep K H α (.ty n) (.ty n)
 | adr (a:Addr):Rep K H α (.adr a) (.ref a)
 | obj {a:Addr} {C:Str} {dx:Addr} {gs:List (Str×V)} {ks:List Str} {ds:List D} {vs:List V}:H a=some (.ins (cL K C) dx gs)->3<=gs.length->gs.map (·.1)=ks->gs.map (·.2)=vs->aF K H α ds vs->Rep K H α (.obj C ks ds) (.ref a)
inductive aF (K:PySem.W.Frag) (H:Hp) (α:List Addr):List D->List V->Prop
 | nil:aF K H α [] []
 | cons {d:D} {v:V} {ds:List D} {vs:List V}:Rep K H α d v->aF K H α ds vs->aF K H α (d::ds) (v::vs)
end
structure Ext (K:PySem.W.Frag) (H:Hp) (α:List Addr) (H':Hp) (α':List Addr):Prop where
 tups:∀ a vs,dF K H a vs->dF K H' a vs
 pre:∀ (n:Nat) a,α[n]?=some a->α'[n]?=some a
 insts:∀ a c dx gs,3<=gs.length->H a=some (.ins c dx gs)->H' a=some (.ins c dx gs)
section
variable {K:PySem.W.Frag} {H H' Vk:Hp} {α α' α'':List Addr}
theorem Ext.refl:Ext K H α H α:=⟨λ_ _ h=>h,λ_ _ h=>h,λ_ _ _ _ _ h=>h⟩
theorem Ext.trans (a:Ext K H α H' α') (b:Ext K H' α' Vk α''):Ext K H α Vk α'':=⟨λc vs h=>b.tups c vs (a.tups c vs h),λn c h=>b.pre n c (a.pre n c h),λx c d g l h=>b.insts x c d g l (a.insts x c d g l h)⟩
mutual
theorem Rep.mono (e:Ext K H α H' α'):∀ {d:D} {v:V},Rep K H α d v->Rep K H' α' d v
 | _,_,.non => .non
 | _,_,.bl b => .bl b
 | _,_,.int i => .int i
 | _,_,.str x => .str x
 | _,_,.tup h r => .tup (e.tups _ _ h) (aF.mono e r)
 | _,_,.ref h => .ref (e.pre _ _ h)
 | _,_,.ty n => .ty n
 | _,_,.adr a => .adr a
 | _,_,.obj h l k v r => .obj (e.insts _ _ _ _ l h) l k v (aF.mono e r)
theorem aF.mono (e:Ext K H α H' α'):∀ {ds:List D} {vs:List V},aF K H α ds vs->aF K H' α' ds vs
 | _,_,.nil => .nil
 | _,_,.cons h r => .cons (Rep.mono e h) (aF.mono e r)
end
theorem aF.length:∀ {ds:List D} {vs:List V},aF K H α ds vs->ds.length=vs.length
 | _,_,.nil=>rfl
 | _,_,.cons _ r=>by simp [aF.length r]
theorem aF.get:∀ {ds:List D} {vs:List V} {i:Nat} {d:D},aF K H α ds vs->ds[i]?=some d->∃ v,vs[i]?=some v/\Rep K H α d v
 | _,_,_,_,.nil,e=>by simp at e
 | _,_,0,_,.cons h _,e=>by simp at e;subst e;exact ⟨_,rfl,h⟩
 | _,_,i+1,_,.cons _ r,e=>by
  obtain ⟨v,h1,h2⟩:=aF.get (i:=i) r (by simpa using e)
  exact ⟨v,by simpa using h1,h2⟩
theorem aF.getV:∀ {ds:List D} {vs:List V} {i:Nat} {v:V},aF K H α ds vs->vs[i]?=some v->∃ d,ds[i]?=some d/\Rep K H α d v
 | _,_,_,_,.nil,e=>by simp at e
 | _,_,0,_,.cons h _,e=>by simp at e;subst e;exact ⟨_,rfl,h⟩
 | _,_,i+1,_,.cons _ r,e=>by
  obtain ⟨v,h1,h2⟩:=aF.getV (i:=i) r (by simpa using e)
  exact ⟨v,by simpa using h1,h2⟩
theorem aF.append:∀ {ds es:List D} {vs ws:List V},aF K H α ds vs->aF K H α es ws->aF K H α (ds++es) (vs++ws)
 | _,_,_,_,.nil,s=>s
 | _,_,_,_,.cons h r,s => .cons h (aF.append r s)
theorem aF.take:∀ {ds:List D} {vs:List V} (n:Nat),aF K H α ds vs->aF K H α (ds.take n) (vs.take n)
 | _,_,0,_=>by simp;exact .nil
 | _,_,_+1,.nil => .nil
 | _,_,n+1,.cons h r => .cons h (aF.take n r)
theorem aF.drop:∀ {ds:List D} {vs:List V} (n:Nat),aF K H α ds vs->aF K H α (ds.drop n) (vs.drop n)
 | _,_,0,r=>by simpa using r
 | _,_,_+1,.nil => .nil
 | _,_,n+1,.cons h r=>by simpa using aF.drop n r
theorem Same.tups (s:Same H H'):∀ a vs,dF K H a vs->dF K H' a vs:=λa vs h=>by
 rcases h with (h | ⟨o,h⟩) | h
 ·exact .inl (.inl (s _ _ h))
 ·exact .inl (.inr ⟨o,s _ _ h⟩)
 ·exact .inr h
theorem Same.ext (s:Same H H'):Ext K H α H' α:=⟨Same.tups s,λ_ _ h=>h,λ_ _ _ _ _ h=>s _ _ h⟩
theorem kJ {p:Addr} {o:HO} (h:H p=none):Same H (upd H p o):=λb u e=>by rw [bY (fU e h)];exact e
def qQ (K:PySem.W.Frag) (H:Hp) (a:Addr) (xs:List V):Prop :=
 (∃ o,H a=some (.frz o (.lst xs))) \/
  ∃ (o:Obj) (its:Array Value) (n:Nat),K.lookup a=some o/\o.cls = .type "list" /\ o.dict=none/\o.data = .seq its n/\its.size<=sizeLine/\Vals xs its.toList
theorem qQ.sq {a:Addr} {xs:List V} (h:qQ K H a xs):dh K H a xs:=by
 rcases h with h | h
 ·exact .inl (.inr h)
 ·exact .inr h
theorem qQ.same {a:Addr} {xs:List V} (s:Same H H') (h:qQ K H a xs):qQ K H' a xs:=by
 rcases h with ⟨o,h⟩ | h
 ·exact .inl ⟨o,s _ _ h⟩
 ·exact .inr h
def O.own:O->Bool
 | .frz _=>false
 | _=>true
def fK (K:PySem.W.Frag) (H:Hp) (α:List Addr) (a:Addr):O->Prop
 | .lst ds=>∃ vs,H a=some (.lst vs)/\aF K H α ds vs
 | .frz ds=>∃ vs,qQ K H a vs/\aF K H α ds vs
 | .ins C fs=>∃ dx gs,H a=some (.ins (cL K C) dx gs)/\fs.map (·.1)=gs.map (·.1)/\aF K H α (fs.map (·.2)) (gs.map (·.2))
 | .dct xs=>∃ ys,H a=some (Nx a ys)/\DR K H xs ys
 | .tbl x=>a=kj K x/\∃ ps,H a=some (.tbl ps)
structure au (K:PySem.W.Frag) (H:Hp) (α:List Addr) (S:So):Prop where
 len:α.length=S.length
 nd:∀ (n m:Nat) o o' a,S[n]?=some o->S[m]?=some o'->O.own o=true->O.own o'=true->α[n]?=some a->α[m]?=some a->n=m
 obj:∀ (n:Nat) o a,S[n]?=some o->α[n]?=some a->fK K H α a o
def bF (K:PySem.W.Frag) (H:Hp) (α:List Addr) (σd:Sg) (σ:L2.St):Prop :=
 σd.length=σ.length/\∀ (i:Nat) d,σd[i]?=some (some d)->∃ v,σ[i]?=some (some v)/\Rep K H α d v
theorem bF.mono {σd:Sg} {σ:L2.St} (e:Ext K H α H' α') (h:bF K H α σd σ):bF K H' α' σd σ :=
 ⟨h.1,λi d q=>let ⟨v,h1,h2⟩:=h.2 i d q;⟨v,h1,h2.mono e⟩⟩
theorem bF.set {σd:Sg} {σ:L2.St} {d:D} {v:V} (h:bF K H α σd σ) (r:Rep K H α d v) (i:Nat):bF K H α (σd.set i (some d)) (σ.set i (some v)):=by
 refine ⟨by simpa using h.1,λj e q=>?_⟩
 by_cases hj:j=i
 ·subst hj
  by_cases hlt:j<σd.length
  ·rw [List.getElem?_set_self hlt] at q
   cases q
   exact ⟨v,by rw [List.getElem?_set_self (by rw [<-h.1];exact hlt)],r⟩
  ·rw [iK (by simpa using hlt)] at q;cases q
 ·rw [List.getElem?_set_ne (Ne.symm hj)] at q
  obtain ⟨u,h1,h2⟩:=h.2 j e q
  exact ⟨u,by rw [List.getElem?_set_ne (Ne.symm hj)];exact h1,h2⟩
theorem fK.mono {a:Addr} {o:O} (s:Same H H') (e:Ext K H α H' α') (h:fK K H α a o):fK K H' α' a o:=by
 cases o with
 | lst ds=>obtain ⟨vs,h1,h2⟩:=h;exact ⟨vs,s _ _ h1,h2.mono e⟩
 | frz ds=>obtain ⟨vs,h1,h2⟩:=h;exact ⟨vs,qQ.same s h1,h2.mono e⟩
 | ins C fs=>obtain ⟨dx,gs,h1,h2,h3⟩:=h;exact ⟨dx,gs,s _ _ h1,h2,h3.mono e⟩
 | dct xs=>obtain ⟨ys,h1,h2⟩:=h;exact ⟨ys,s _ _ h1,h2.mono e.tups⟩
 | tbl x=>obtain ⟨h0,ps,h1⟩:=h;exact ⟨h0,ps,s _ _ h1⟩
theorem au.mono {S:So} (s:Same H H') (h:au K H α S):au K H' α S :=
 ⟨h.len,h.nd,λn o a h1 h2=>(h.obj n o a h1 h2).mono s (Same.ext s)⟩
theorem fK.some {a:Addr} {o:O} (h:fK K H α a o) (w:O.own o=true):∃ u,H a=some u:=by
 cases o with
 | lst ds=>obtain ⟨vs,h1,_⟩:=h;exact ⟨_,h1⟩
 | frz ds=>cases w
 | ins C fs=>obtain ⟨dx,gs,h1,_⟩:=h;exact ⟨_,h1⟩
 | dct xs=>obtain ⟨ys,h1,_⟩:=h;exact ⟨_,h1⟩
 | tbl x=>obtain ⟨_,ps,h1⟩:=h;exact ⟨_,h1⟩
theorem getElem?ou {α:Type} {l:List α} {x y:α} {n:Nat} (h:(l++[x])[n]?=some y):l[n]?=some y\/(n=l.length/\y=x):=by
 by_cases hn:n<l.length
 ·rw [jW hn] at h;exact .inl h
 ·rw [tW (by omega)] at h
  by_cases h0:n - l.length=0
  ·rw [h0] at h;simp at h;exact .inr ⟨by omega,h.symm⟩
  ·rw [iK (by simp;omega)] at h;cases h
theorem au.snoc {S:So} {p:Addr} {o:O} {u:HO} (h:au K H α S) (hp:H p=none) (ho:∀ α',Ext K H α (upd H p u) α'->fK K (upd H p u) α' p o) :
 au K (upd H p u) (α++[p]) (S++[o])/\Ext K H α (upd H p u) (α++[p]):=by
 have s:Same H (upd H p u):=kJ hp
 have e:Ext K H α (upd H p u) (α++[p]):=⟨Same.tups s,λn a q=>by rw [jW (dN.mp q).1];exact q,λ_ _ _ _ _ h=>s _ _ h⟩
 have old:∀ {n:Nat} {o':O} {a:Addr},S[n]?=some o'->(α++[p])[n]?=some a->α[n]?=some a:=λ{n o' a} h1 h2=>by
  have hn:n<α.length:=by rw [h.len];exact (dN.mp h1).1
  rw [jW hn] at h2
  exact h2
 have nP:(α++[p])[S.length]?=some p:=by rw [<-h.len];simp
 have apart:∀ {n:Nat} {o':O},S[n]?=some o'->O.own o'=true->¬ (α++[p])[n]?=some p:=λ{n o'} h1 w h2=>by
  obtain ⟨u,z⟩:=(h.obj n o' p h1 (old h1 h2)).some w
  rw [hp] at z;cases z
 refine ⟨⟨by simp [h.len],λn m o1 o2 a h1 h2 w1 w2 a1 a2=>?_,λn o' a h1 h2=>?_⟩,e⟩
 ·rcases getElem?ou h1 with q1 | ⟨e1,e2⟩<;>rcases getElem?ou h2 with q2 | ⟨e3,e4⟩
  ·exact h.nd n m o1 o2 a q1 q2 w1 w2 (old q1 a1) (old q2 a2)
  ·rw [e3,nP] at a2;cases a2
   exact absurd a1 (apart q1 w1)
  ·rw [e1,nP] at a1;cases a1
   exact absurd a2 (apart q2 w2)
  ·rw [e1,e3]
 ·rcases getElem?ou h1 with h1 | ⟨rfl,rfl⟩
  ·exact (h.obj n o' a h1 (old h1 h2)).mono s e
  ·rw [nP] at h2;cases h2
   exact ho _ e
theorem au.put' {S:So} {n:Nat} {a:Addr} {o₀ o:O} {u₀ u:HO} (h:au K H α S) (hn:S[n]?=some o₀) (w₀:O.own o₀=true) (w:O.own o=true) (ha:α[n]?=some a) (hv:H a=some u₀)
 (nt:∀ ws,HO.tup ws≠u₀) (nf:∀ ob x,HO.frz ob x≠u₀) (ni:∀ c dx gs,3<=gs.length->HO.ins c dx gs≠u₀)
 (ho:Ext K H α (upd H a u) α->fK K (upd H a u) α a o):au K (upd H a u) α (S.set n o)/\Ext K H α (upd H a u) α:=by
 have e:Ext K H α (upd H a u) α:=⟨λb ws q=>by
  rcases q with (q | ⟨o,q⟩) | q
  ·exact .inl (.inl (by rw [bY (Cp q hv (nt _))];exact q))
  ·exact .inl (.inr ⟨o,by rw [bY (Cp q hv (nf _ _))];exact q⟩)
  ·exact .inr q,λ_ _ q=>q,λb c dx gs l q=>by rw [bY (Cp q hv (ni _ _ _ l))];exact q⟩
 have hlt:n<S.length:=(dN.mp hn).1
 have at':∀ {m:Nat} {o':O},(S.set n o)[m]?=some o'->(m=n/\o'=o)\/(m≠n/\S[m]?=some o'):=λ{m o'} h1=>by
  by_cases hm:m=n
  ·subst hm
   rw [List.getElem?_set_self hlt] at h1
   exact .inl ⟨rfl,(Option.some.inj h1).symm⟩
  ·rw [List.getElem?_set_ne (Ne.symm hm)] at h1
   exact .inr ⟨hm,h1⟩
 refine ⟨⟨by simpa using h.len,λm k o1 o2 b h1 h2 w1 w2 b1 b2=>?_,λm o' b h1 h2=>?_⟩,e⟩
 ·rcases at' h1 with ⟨e1,e2⟩ | ⟨n1,q1⟩<;>rcases at' h2 with ⟨e3,e4⟩ | ⟨n2,q2⟩
  ·rw [e1,e3]
  ·rw [e1] at b1 ⊢
   exact h.nd _ _ o₀ o2 b hn q2 w₀ w2 b1 b2
  ·rw [e3] at b2 ⊢
   exact h.nd _ _ o1 o₀ b q1 hn w1 w₀ b1 b2
  ·exact h.nd _ _ o1 o2 b q1 q2 w1 w2 b1 b2
 ·rcases at' h1 with ⟨rfl,rfl⟩ | ⟨hm,h1⟩
  ·rw [ha] at h2;cases h2
   exact ho e
  ·have q:=h.obj m o' b h1 h2
   have hba:O.own o'=true->b≠a:=λw' z=>hm (by subst z;exact h.nd m n o' o₀ b h1 hn w' w₀ h2 ha)
   cases o' with
   | lst ds=>obtain ⟨ws,q1,q2⟩:=q;exact ⟨ws,by rw [bY (hba rfl)];exact q1,q2.mono e⟩
   | frz ds =>
    obtain ⟨ws,q1,q2⟩:=q
    refine ⟨ws,?_,q2.mono e⟩
    rcases q1 with ⟨ob,q1⟩ | q1
    ·exact .inl ⟨ob,by rw [bY (Cp q1 hv (nf _ _))];exact q1⟩
    ·exact .inr q1
   | ins C fs=>obtain ⟨dx,gs,q1,q2,q3⟩:=q;exact ⟨dx,gs,by rw [bY (hba rfl)];exact q1,q2,q3.mono e⟩
   | dct xs=>obtain ⟨ys,q1,q2⟩:=q;exact ⟨ys,by rw [bY (hba rfl)];exact q1,q2.mono e.tups⟩
   | tbl x=>obtain ⟨q0,ps,q1⟩:=q;exact ⟨q0,ps,by rw [bY (hba rfl)];exact q1⟩
theorem au.put {S:So} {n:Nat} {a:Addr} {o₀ o:O} {u₀ u:HO} (h:au K H α S) (hn:S[n]?=some o₀) (w₀:O.own o₀=true) (w:O.own o=true) (ha:α[n]?=some a) (hv:H a=some u₀)
 (hu:(∃ vs,u₀ = .lst vs)\/∃ f,u₀ = .ext f)
 (ho:Ext K H α (upd H a u) α->fK K (upd H a u) α a o):au K (upd H a u) α (S.set n o)/\Ext K H α (upd H a u) α :=
 h.put' hn w₀ w ha hv (λws z=>by rcases hu with ⟨vs,e⟩ | ⟨f,e⟩<;>(rw [e] at z;cases z)) (λob x z=>by rcases hu with ⟨vs,e⟩ | ⟨f,e⟩<;>(rw [e] at z;cases z)) (λc dx gs _ z=>by rcases hu with ⟨vs,e⟩ | ⟨f,e⟩<;>(rw [e] at z;cases z)) ho
end
mutual
def D.lo (n:Nat):D->Bool
 | .tup xs=>cA n xs
 | .obj _ _ xs=>cA n xs
 | .ref m=>decide (m<n)
 | _=>true
def cA (n:Nat):List D->Bool
 | []=>true
 | d::ds=>D.lo n d&&cA n ds
end
def O.lo (n:Nat):O->Bool
 | .lst xs=>cA n xs
 | .frz xs=>cA n xs
 | .ins _ fs=>cA n (fs.map (·.2))
 | .dct _=>true
 | .tbl _=>true
section
variable {K:PySem.W.Frag} {H:Hp} {α β:List Addr}
mutual
theorem Rep.lo:∀ {d:D} {v:V},Rep K H α d v->D.lo α.length d=true
 | _,_,.non=>by simp [D.lo]
 | _,_,.bl _=>by simp [D.lo]
 | _,_,.int _=>by simp [D.lo]
 | _,_,.str _=>by simp [D.lo]
 | _,_,.tup _ r=>by rw [D.lo];exact aF.lo r
 | _,_,.ref h=>by rw [D.lo];exact decide_eq_true (dN.mp h).1
 | _,_,.ty _=>by simp [D.lo]
 | _,_,.adr _=>by simp [D.lo]
 | _,_,.obj _ _ _ _ r=>by rw [D.lo];exact aF.lo r
theorem aF.lo:∀ {ds:List D} {vs:List V},aF K H α ds vs->cA α.length ds=true
 | _,_,.nil=>by simp [cA]
 | _,_,.cons h r=>by rw [cA,Rep.lo h,aF.lo r];rfl
end
mutual
theorem Rep.cut (n:Nat):∀ {d:D} {v:V},Rep K H α d v->D.lo n d=true->Rep K H (α.take n) d v
 | _,_,.non,_ => .non
 | _,_,.bl b,_ => .bl b
 | _,_,.int i,_ => .int i
 | _,_,.str x,_ => .str x
 | _,_,.tup h r,b => .tup h (aF.cut n r (by rw [D.lo] at b;exact b))
 | _,_,.ref h,b => .ref (by
  rw [D.lo] at b
  rw [List.getElem?_take_of_lt (of_decide_eq_true b)];exact h)
 | _,_,.ty n,_ => .ty n
 | _,_,.adr a,_ => .adr a
 | _,_,.obj h l k v r,b => .obj h l k v (aF.cut n r (by rw [D.lo] at b;exact b))
theorem aF.cut (n:Nat):∀ {ds:List D} {vs:List V},aF K H α ds vs->cA n ds=true->aF K H (α.take n) ds vs
 | _,_,.nil,_ => .nil
 | _,_,.cons h r,b=>by
  rw [cA,cR] at b
  exact .cons (Rep.cut n h b.1) (aF.cut n r b.2)
end
theorem fK.lo {a:Addr} {o:O} (h:fK K H α a o):O.lo α.length o=true:=by
 cases o with
 | lst ds=>obtain ⟨_,_,r⟩:=h;exact r.lo
 | frz ds=>obtain ⟨_,_,r⟩:=h;exact r.lo
 | ins C fs=>obtain ⟨_,_,_,_,r⟩:=h;exact r.lo
 | dct xs=>rfl
 | tbl x=>rfl
theorem fK.cut {a:Addr} {o:O} (n:Nat) (h:fK K H α a o) (b:O.lo n o=true):fK K H (α.take n) a o:=by
 cases o with
 | lst ds=>obtain ⟨vs,h1,r⟩:=h;exact ⟨vs,h1,r.cut n b⟩
 | frz ds=>obtain ⟨vs,h1,r⟩:=h;exact ⟨vs,h1,r.cut n b⟩
 | ins C fs=>obtain ⟨dx,gs,h1,h2,r⟩:=h;exact ⟨dx,gs,h1,h2,r.cut n b⟩
 | dct xs=>exact h
 | tbl x=>exact h
def WF (S:So):Prop:=∀ o∈S,O.lo S.length o=true
theorem au.wf {S:So} (h:au K H α S):WF S:=λo ho=>by
 obtain ⟨n,hn,e⟩:=List.mem_iff_getElem.mp ho
 have hn':n<α.length:=by rw [h.len];exact hn
 have:=(h.obj n o α[n] (by rw [dN];exact ⟨hn,e⟩) (by simp)).lo
 rw [h.len] at this
 exact this
theorem au.cut {S:So} (h:au K H α S) (n:Nat) (b:∀ o∈S.take n,O.lo n o=true):au K H (α.take n) (S.take n):=by
 have lt:∀ {m:Nat} {o:O},(S.take n)[m]?=some o->m<n:=λ{m o} h1=>by
  have:=(dN.mp h1).1
  simp at this;omega
 refine ⟨by simp [h.len],λm k o1 o2 a h1 h2 w1 w2 a1 a2=>?_,λm o a h1 h2=>?_⟩
 ·have l1:=lt h1
  have l2:=lt h2
  rw [List.getElem?_take_of_lt l1] at h1 a1
  rw [List.getElem?_take_of_lt l2] at h2 a2
  exact h.nd m k o1 o2 a h1 h2 w1 w2 a1 a2
 have hm:m<n:=by
  have:=(dN.mp h1).1
  simp at this;omega
 have b1:=b o (List.mem_of_getElem? h1)
 rw [List.getElem?_take_of_lt hm] at h1 h2
 exact (h.obj m o a h1 h2).cut n b1
end
def kD (k:NK):D := .tup (k.map λks => .tup (ks.map .int))
section
variable {K:PySem.W.Frag} {H:Hp} {α:List Addr}
theorem Ru:∀ l:List Int,aF K H α (l.map .int) (l.map V.int)
 | [] => .nil
 | i::l => .cons (.int i) (Ru l)
end
end MX
end
section
namespace MX
open PySem PySem.Spec PyProof.Rows L2
open Builtin.Int (intBits)
abbrev EF:=Sg->So->Option (D×So)
def Kt (K:PySem.W.Frag) (H:Hp) (α:List Addr) (z:D) (S':So) (Q:VK):Prop :=
 ∀ w H' α',au K H' α' S'->Ext K H α H' α'->Rep K H' α' z w->Q w H'
def uN (K:PySem.W.Frag) (f:EF):TE:=λσ H Q=>∃ σd S α z S',bF K H α σd σ/\au K H α S/\f σd S=some (z,S')/\Kt K H α z S' Q
def SE (X:Cx) (e:Expr) (f:EF):Prop:=PE X e (uN X.K f)
theorem PE.imp {X:Cx} {e:Expr} {t t':TE} (h:PE X e t) (k:∀ σ H Q,t' σ H Q->t σ H Q):PE X e t':=λpins s σ H Q I q=>h pins s σ H Q I (k σ H Q q)
abbrev G2:=D->D->So->Option (D×So)
abbrev GN:=List D->So->Option (D×So)
def mL (K:PySem.W.Frag) (g:G2):R2:=λv u H Q=>∃ S α x y z S',au K H α S/\Rep K H α x v/\Rep K H α y u/\g x y S=some (z,S')/\Kt K H α z S' Q
def iW (K:PySem.W.Frag) (g:GN):List V->Hp->VK->Prop:=λvs H Q=>∃ S α ds z S',au K H α S/\aF K H α ds vs/\g ds S=some (z,S')/\Kt K H α z S' Q
theorem Kt.same {K:PySem.W.Frag} {H:Hp} {α:List Addr} {z:D} {S:So} {Q:VK} {w:V} (k:Kt K H α z S Q) (s:au K H α S) (r:Rep K H α z w):Q w H:=k w H α s Ext.refl r
theorem Kt.new {K:PySem.W.Frag} {H H':Hp} {α:List Addr} {z:D} {S:So} {Q:VK} {w:V} (k:Kt K H α z S Q) (s:au K H α S) (m:Same H H') (r:Rep K H' α z w):Q w H':=k w H' α (s.mono m) (Same.ext m) r
theorem Kt.trans {K:PySem.W.Frag} {H H1:Hp} {α α1:List Addr} {z:D} {S':So} {Q:VK} (k:Kt K H α z S' Q) (e:Ext K H α H1 α1):Kt K H1 α1 z S' Q:=λw H' α' s x r=>k w H' α' s (e.trans x) r
def bI (i j:Int):Bool:=decide (intBits i<=64)||decide (intBits j<=64)||decide (intBits i+intBits j<=134217728)
theorem bI.ok {i j:Int} (h:bI i j=true):IntMulOk i j:=by
 unfold bI at h
 rw [qR,qR] at h
 rcases h with (h | h) | h
 ·exact .of_left (of_decide_eq_true h)
 ·exact .of_right (of_decide_eq_true h)
 ·exact IntMulOk.of_le (bR _) (bR _) (of_decide_eq_true h)
def dZ (j:Int):Bool:=decide (j≠0)&&decide (intBits j<=8000)
theorem dZ.ok {i j:Int} (h:dZ j=true):j≠0/\Builtin.divisionGoesByPylong i j=false:=by
 unfold dZ at h
 rw [cR] at h
 have h1:j≠0:=of_decide_eq_true h.1
 have h2:intBits j<=8000:=of_decide_eq_true h.2
 refine ⟨h1,PyProof.noPylong_of_log2 ?_⟩
 have hb:(j==0)=false:=by simpa using h1
 unfold Builtin.Int.intBits at h2
 rw [hb] at h2
 simp only [Bool.false_eq_true,if_false] at h2
 omega
section
variable {X:Cx}
theorem Z3:eH X (binaryOp .Mult) (rI (λi j=>bI i j=true) λi j => .int (i*j)):=zZ λ_ _ _ _ _ _ _ hc q=>mul_int q (bI.ok hc)
theorem Z1:eH X (binaryOp .FloorDiv) (rI (λ_ j=>dZ j=true) λi j => .int (i.fdiv j)):=zZ λ_ _ _ _ _ _ _ hc q=>floordiv_int (dZ.ok (i:=0) hc).1 q (.inl (dZ.ok hc).2)
end
def nZ:G2
 | .int i,.int j,S=>some (.int (i+j),S)
 | .str a,.str b,S=>if a.length+b.length<=sizeLine then some (.str (a++b),S) else none
 | .tup xs,.tup ys,S=>if xs≠[]/\xs.length+ys.length<=sizeLine then some (.tup (xs++ys),S) else none
 | .ref n,.ref m,S=>match S[n]?,S[m]? with
  | some (.lst xs),some (.lst ys)=>if xs.length+ys.length<=sizeLine then some (.ref S.length,S++[.lst (xs++ys)]) else none
  | _,_=>none
 | _,_,_=>none
def vf:G2
 | .int i,.int j,S=>some (.int (i - j),S)
 | _,_,_=>none
def qH:G2
 | .int i,.int j,S=>if bI i j=true then some (.int (i*j),S) else none
 | _,_,_=>none
def qK:G2
 | .int i,.int j,S=>if dZ j=true then some (.int (i.fdiv j),S) else none
 | _,_,_=>none
def qI:G2
 | .int i,.int j,S=>if j≠0 then some (.int (i.fmod j),S) else none
 | _,_,_=>none
def qG:G2
 | .int i,.int j,S=>if 0<=j/\j<=1000000/\i.natAbs<2 ^ 64 then some (.int (i*2 ^ j.toNat),S) else none
 | _,_,_=>none
def vg:G2
 | .int i,.int j,S=>if 0<=j/\j<=1000000/\i.natAbs<2 ^ 64 then some (.int (i ^ j.toNat),S) else none
 | _,_,_=>none
def aH:Operator->G2
 | .Add=>nZ
 | .Sub=>vf
 | .Mult=>qH
 | .FloorDiv=>qK
 | .Mod=>qI
 | .LShift=>qG
 | .Pow=>vg
 | _=>λ_ _ _=>none
section
variable {X:Cx}
theorem Z5:eH X (binaryOp .Add) (mL X.K nZ):=by
 intro pins s σ H v u vv uu Q I rv ru h
 obtain ⟨S,α,x,y,z,S',hs,rx,ry,hg,k⟩:=h
 unfold nZ at hg
 split at hg
 ·cases hg;cases rx;cases ry
  exact Xj pins s σ H _ _ _ _ Q I rv ru ⟨_,_,rfl,rfl,k.same hs (.int _)⟩
 ·split at hg
  ·rename_i hl
   cases hg;cases rx;cases ry
   exact ziN pins s σ H _ _ _ _ Q I rv ru ⟨_,_,rfl,rfl,hl,k.same hs (.str _)⟩
  ·cases hg
 ·split at hg
  ·rename_i hl
   cases hg
   cases rx with
   | tup h1 r1 =>
    cases ry with
    | tup h2 r2 =>
     refine Z0 pins s σ H _ _ _ _ Q I rv ru ⟨_,_,_,_,rfl,rfl,h1,h2,?_,?_,?_,?_⟩
     ·intro e;subst e;cases r1;exact hl.1 rfl
     ·rw [<-r1.length,<-r2.length];exact hl.2
     ·intro e;subst e;cases r2
      exact k.same hs (.tup h1 (by rw [List.append_nil];exact r1))
     ·intro _ p hp
      exact k.new hs (kJ hp) (.tup (dF.of eO) ((r1.append r2).mono (Same.ext (kJ hp))))
  ·cases hg
 ·split at hg
  ·rename_i n m xs ys e1 e2
   split at hg
   ·rename_i hl
    cases hg
    cases rx with
    | ref a1 =>
     cases ry with
     | ref a2 =>
      obtain ⟨vs,h1,r1⟩:=hs.obj _ _ _ e1 a1
      obtain ⟨ws,h2,r2⟩:=hs.obj _ _ _ e2 a2
      refine Xk pins s σ H _ _ _ _ Q I rv ru ⟨_,_,_,_,rfl,rfl,h1,h2,by rw [<-r1.length,<-r2.length];exact hl,λp hp=>?_⟩
      obtain ⟨s',e'⟩:=hs.snoc (p:=p) (o := .lst (xs++ys)) (u := .lst (vs++ws)) hp λα' e=>⟨_,eO,(r1.append r2).mono e⟩
      exact k _ _ _ s' e' (.ref (by rw [<-hs.len];simp))
   ·cases hg
  ·cases hg
 ·cases hg
theorem Zd:eH X (binaryOp .Sub) (mL X.K vf):=by
 intro pins s σ H v u vv uu Q I rv ru h
 obtain ⟨S,α,x,y,z,S',hs,rx,ry,hg,k⟩:=h
 unfold vf at hg
 split at hg
 ·cases hg;cases rx;cases ry
  exact Xo pins s σ H _ _ _ _ Q I rv ru ⟨_,_,rfl,rfl,k.same hs (.int _)⟩
 ·cases hg
theorem Y8:eH X (binaryOp .Mult) (mL X.K qH):=by
 intro pins s σ H v u vv uu Q I rv ru h
 obtain ⟨S,α,x,y,z,S',hs,rx,ry,hg,k⟩:=h
 unfold qH at hg
 split at hg
 ·split at hg
  ·rename_i hc
   cases hg;cases rx;cases ry
   exact Z3 pins s σ H _ _ _ _ Q I rv ru ⟨_,_,rfl,rfl,hc,k.same hs (.int _)⟩
  ·cases hg
 ·cases hg
theorem Z7:eH X (binaryOp .FloorDiv) (mL X.K qK):=by
 intro pins s σ H v u vv uu Q I rv ru h
 obtain ⟨S,α,x,y,z,S',hs,rx,ry,hg,k⟩:=h
 unfold qK at hg
 split at hg
 ·split at hg
  ·rename_i hc
   cases hg;cases rx;cases ry
   exact Z1 pins s σ H _ _ _ _ Q I rv ru ⟨_,_,rfl,rfl,hc,k.same hs (.int _)⟩
  ·cases hg
 ·cases hg
theorem Y7:eH X (binaryOp .Mod) (mL X.K qI):=by
 intro pins s σ H v u vv uu Q I rv ru h
 obtain ⟨S,α,x,y,z,S',hs,rx,ry,hg,k⟩:=h
 unfold qI at hg
 split at hg
 ·split at hg
  ·rename_i hc
   cases hg;cases rx;cases ry
   exact Z2 pins s σ H _ _ _ _ Q I rv ru ⟨_,_,rfl,rfl,hc,k.same hs (.int _)⟩
  ·cases hg
 ·cases hg
theorem Zc:eH X (binaryOp .LShift) (mL X.K qG):=by
 intro pins s σ H v u vv uu Q I rv ru h
 obtain ⟨S,α,x,y,z,S',hs,rx,ry,hg,k⟩:=h
 unfold qG at hg
 split at hg
 ·split at hg
  ·rename_i hc
   cases hg;cases rx;cases ry
   exact Xn pins s σ H _ _ _ _ Q I rv ru ⟨_,_,rfl,rfl,hc,k.same hs (.int _)⟩
  ·cases hg
 ·cases hg
theorem Zb:eH X (binaryOp .Pow) (mL X.K vg):=by
 intro pins s σ H v u vv uu Q I rv ru h
 obtain ⟨S,α,x,y,z,S',hs,rx,ry,hg,k⟩:=h
 unfold vg at hg
 split at hg
 ·split at hg
  ·rename_i hc
   cases hg;cases rx;cases ry
   exact Xm pins s σ H _ _ _ _ Q I rv ru ⟨_,_,rfl,rfl,hc,k.same hs (.int _)⟩
  ·cases hg
 ·cases hg
theorem Z6:∀ op:Operator,eH X (binaryOp op) (mL X.K (aH op)):=by
 intro op
 cases op
 case Add=>exact Z5
 case Sub=>exact Zd
 case Mult=>exact Y8
 case FloorDiv=>exact Z7
 case Mod=>exact Y7
 case LShift=>exact Zc
 case Pow=>exact Zb
 all_goals
  intro pins s σ H v u vv uu Q I rv ru h
  obtain ⟨S,α,x,y,z,S',hs,rx,ry,hg,k⟩:=h
  exact absurd hg (by simp [aH])
end
def lE (f:D->Option PyData):List D->Option (List PyData)
 | []=>some []
 | d::ds=>(f d).bind λp=>(lE f ds).map λps=>p::ps
def cZ (S:So):Nat->D->Option PyData
 | 0,_=>none
 | _+1,.non=>some .none
 | _+1,.bl b=>some (.bool b)
 | _+1,.int i=>some (.int i)
 | _+1,.str x=>some (.str x)
 | n+1,.tup ds=>(lE (cZ S n) ds).map .tuple
 | n+1,.ref m=>match S[m]? with
  | some (.lst ds)=>(lE (cZ S n) ds).map .list
  | some (.frz ds)=>(lE (cZ S n) ds).map .list
  | _=>none
 | _+1,_=>none
theorem Te {X:Cx} {s:Shared} {H:Hp} {α:List Addr} {f:D->Option PyData} (hf:∀ d v u p,Rep X.K H α d v->RelV v u->f d=some p->∃ as,Reads s.heap u p as) :
 ∀ ds vs us ps,aF X.K H α ds vs->Vals vs us->lE f ds=some ps->∃ as,ReadsAll s.heap us ps as
 | _,_,_,_,.nil,.nil,e=>by simp [lE] at e;subst e;exact ⟨_,.nil⟩
 | _,_,_,_,.cons r rr,.cons rv rvs,e=>by
  simp only [lE,bA,aU] at e
  obtain ⟨p,e1,ps,e2,rfl⟩:=e
  obtain ⟨as,ra⟩:=hf _ _ _ _ r rv e1
  obtain ⟨bs,rb⟩:=Te hf _ _ _ _ rr rvs e2
  exact ⟨_,.cons ra rb⟩
theorem yK {X:Cx} {pins:List (Addr×Obj)} {s:Shared} {σ:L2.St} {H:Hp} {α:List Addr} {S:So} (I:Inv X pins σ H s) (hs:au X.K H α S):∀ (n:Nat) d v u p,Rep X.K H α d v->RelV v u->cZ S n d=some p->∃ as,Reads s.heap u p as
 | 0,d,v,u,p,_,_,e=>by simp [cZ] at e
 | n+1,d,v,u,p,r,rv,e=>by
  have ih:=Te (X:=X) (s:=s) (yK I hs n)
  cases r with
  | non=>cases rv;simp [cZ] at e;subst e;exact ⟨_,.none⟩
  | bl b=>cases rv;simp [cZ] at e;subst e;exact ⟨_,.bool b⟩
  | int i=>obtain ⟨t,rfl⟩:=rv;simp [cZ] at e;subst e;exact ⟨_,.int i t⟩
  | str x=>obtain ⟨t,rfl⟩:=rv;simp [cZ] at e;subst e;exact ⟨_,.str x t⟩
  | tup h r =>
   cases rv
   simp only [cZ,aU] at e
   obtain ⟨ps,e1,rfl⟩:=e
   obtain ⟨its,r',⟨o,ho,hc,m,hd⟩,_⟩:=I.tuple h
   obtain ⟨as,ra⟩:=ih _ _ _ _ r r' e1
   exact ⟨_,.tuple ho hc hd (by simpa using ra)⟩
  | @ref m a h =>
   cases rv
   simp only [cZ] at e
   cases hm:S[m]? with
   | none=>rw [hm] at e;simp at e
   | some o =>
    rw [hm] at e
    have hob:=hs.obj _ _ _ hm h
    cases o with
    | lst ds =>
     simp only [aU] at e
     obtain ⟨ps,e1,rfl⟩:=e
     obtain ⟨vs,h1,r⟩:=hob
     obtain ⟨its,r',⟨o,m,ho,hc,hdd,hd⟩,_⟩:=I.list (dh.of (K:=X.K) h1)
     obtain ⟨as,ra⟩:=ih _ _ _ _ r r' e1
     exact ⟨_,.list ho hc hd (by simpa using ra)⟩
    | frz ds =>
     simp only [aU] at e
     obtain ⟨ps,e1,rfl⟩:=e
     obtain ⟨vs,h1,r⟩:=hob
     obtain ⟨its,r',⟨o,m,ho,hc,hdd,hd⟩,_⟩:=I.list h1.sq
     obtain ⟨as,ra⟩:=ih _ _ _ _ r r' e1
     exact ⟨_,.list ho hc hd (by simpa using ra)⟩
    | ins C fs=>simp at e
    | dct xs=>simp at e
    | tbl x=>simp at e
  | ty n=>simp [cZ] at e
  | adr a=>simp [cZ] at e
  | obj _ _ _ _ _=>simp [cZ] at e
def jx (S:So) (x y:D):Option Bool:=(cZ S 24 x).bind λp=>(cZ S 24 y).bind λq=>if SeqAt.shaped p=true/\SeqAt.shaped q=true then some (PyData.eqv p q) else none
def oV:D->Bool
 | .non=>true
 | _=>false
def bf:CmpOp->G2
 | .Lt,.int i,.int j,S=>some (.bl (decide (i<j)),S)
 | .LtE,.int i,.int j,S=>some (.bl (decide (i<=j)),S)
 | .Gt,.int i,.int j,S=>some (.bl (decide (j<i)),S)
 | .GtE,.int i,.int j,S=>some (.bl (decide (j<=i)),S)
 | .Eq,.int i,.int j,S=>some (.bl (decide (i=j)),S)
 | .NotEq,.int i,.int j,S=>some (.bl (!decide (i=j)),S)
 | .Eq,x,y,S=>(jx S x y).map λb=>(.bl b,S)
 | .NotEq,x,y,S=>(jx S x y).map λb=>(.bl (!b),S)
 | .Is,x,.non,S=>some (.bl (oV x),S)
 | .IsNot,x,.non,S=>some (.bl (!oV x),S)
 | .Is,.bl a,.bl b,S=>some (.bl (a==b),S)
 | .IsNot,.bl a,.bl b,S=>some (.bl (!(a==b)),S)
 | _,_,_,_=>none
theorem Qj {K:PySem.W.Frag} {H:Hp} {α:List Addr} {x:D} {v:V} (r:Rep K H α x v):decide (v = .non)=oV x:=by
 cases r<;>simp [oV]
section
variable {X:Cx}
theorem Y6:eH X (compareOp .Eq) (o8 λi j => .bl (decide (i=j))):=lO λ_ _ _ _ _ _ _ q=>eq_int (by rw [Bool.beq_eq_decide_eq];exact q)
theorem Za:eH X (compareOp .NotEq) (o8 λi j => .bl (!decide (i=j))):=lO λ_ _ _ _ _ _ _ q=>ne_int (by rw [bne,Bool.beq_eq_decide_eq];exact q)
theorem Y5 {pins:List (Addr×Obj)} {s:Shared} {σ:L2.St} {H:Hp} {v u:V} {vv uu:Value} {Q:VK} {S:So} {α:List Addr} {x y:D} {b:Bool} (hu:X.A.units+64<cLine) (I:Inv X pins σ H s) (rv:RelV v vv) (ru:RelV u uu)
 (hs:au X.K H α S) (rx:Rep X.K H α x v) (ry:Rep X.K H α y u) (hg:jx S x y=some b) (k:Q (.bl b) H):wpAny (model X.prog X.w) X.A (compareOp .Eq vv uu) (EP X pins σ Q) X.xe s:=by
 unfold jx at hg
 simp only [bA] at hg
 obtain ⟨p,e1,q,e2,hg⟩:=hg
 split at hg
 ·rename_i hc
  obtain ⟨as,ra⟩:=yK I hs 24 _ _ _ _ rx rv e1
  obtain ⟨bs,rb⟩:=yK I hs 24 _ _ _ _ ry ru e2
  cases hg
  exact SeqAt.compareEq_shaped ra rb hc.1 hc.2 hu ⟨.bl _,H,I,rfl,k⟩
 ·cases hg
theorem Y9 {pins:List (Addr×Obj)} {s:Shared} {σ:L2.St} {H:Hp} {v u:V} {vv uu:Value} {Q:VK} {S:So} {α:List Addr} {x y:D} {b:Bool} (hu:X.A.units+64<cLine) (I:Inv X pins σ H s) (rv:RelV v vv) (ru:RelV u uu)
 (hs:au X.K H α S) (rx:Rep X.K H α x v) (ry:Rep X.K H α y u) (hg:jx S x y=some b) (k:Q (.bl (!b)) H):wpAny (model X.prog X.w) X.A (compareOp .NotEq vv uu) (EP X pins σ Q) X.xe s:=by
 unfold jx at hg
 simp only [bA] at hg
 obtain ⟨p,e1,q,e2,hg⟩:=hg
 split at hg
 ·rename_i hc
  obtain ⟨as,ra⟩:=yK I hs 24 _ _ _ _ rx rv e1
  obtain ⟨bs,rb⟩:=yK I hs 24 _ _ _ _ ry ru e2
  cases hg
  exact SeqAt.compareNe_shaped ra rb hc.1 hc.2 hu ⟨.bl _,H,I,rfl,k⟩
 ·cases hg
theorem Qy (hu:X.A.units+64<cLine):∀ op:CmpOp,eH X (compareOp op) (mL X.K (bf op)):=by
 intro op pins s σ H v u vv uu Q I rv ru h
 obtain ⟨S,α,x,y,z,S',hs,rx,ry,hg,k⟩:=h
 unfold bf at hg
 split at hg
 ·cases hg;cases rx;cases ry
  exact Wb pins s σ H _ _ _ _ Q I rv ru ⟨_,_,rfl,rfl,k.same hs (.bl _)⟩
 ·cases hg;cases rx;cases ry
  exact Wa pins s σ H _ _ _ _ Q I rv ru ⟨_,_,rfl,rfl,k.same hs (.bl _)⟩
 ·cases hg;cases rx;cases ry
  exact V9 pins s σ H _ _ _ _ Q I rv ru ⟨_,_,rfl,rfl,k.same hs (.bl _)⟩
 ·cases hg;cases rx;cases ry
  exact V8 pins s σ H _ _ _ _ Q I rv ru ⟨_,_,rfl,rfl,k.same hs (.bl _)⟩
 ·cases hg;cases rx;cases ry
  exact Y6 pins s σ H _ _ _ _ Q I rv ru ⟨_,_,rfl,rfl,k.same hs (.bl _)⟩
 ·cases hg;cases rx;cases ry
  exact Za pins s σ H _ _ _ _ Q I rv ru ⟨_,_,rfl,rfl,k.same hs (.bl _)⟩
 ·simp only [aU] at hg
  obtain ⟨b,e,hg⟩:=hg
  cases hg
  exact Y5 hu I rv ru hs rx ry e (k.same hs (.bl _))
 ·simp only [aU] at hg
  obtain ⟨b,e,hg⟩:=hg
  cases hg
  exact Y9 hu I rv ru hs rx ry e (k.same hs (.bl _))
 ·cases hg;cases ry
  exact Xl pins s σ H _ _ _ _ Q I rv ru ⟨rfl,by rw [Qj rx];exact k.same hs (.bl _)⟩
 ·cases hg;cases ry
  refine Z4 pins s σ H _ _ _ _ Q I rv ru ⟨rfl,?_⟩
  rw [Qj rx]
  exact k.same hs (.bl _)
 ·cases hg;cases rx;cases ry;cases rv;cases ru
  exact is_bool (CG I (k.same hs (.bl _)) rfl)
 ·cases hg;cases rx;cases ry;cases rv;cases ru
  exact isnot_bool (CG I (k.same hs (.bl _)) rfl)
 ·cases hg
end
def aM:G2
 | .tup xs,.int i,S=>(fj xs i).map λz=>(z,S)
 | .ref n,.int i,S=>match S[n]? with
  | some (.lst xs)=>(fj xs i).map λz=>(z,S)
  | some (.frz xs)=>(fj xs i).map λz=>(z,S)
  | _=>none
 | .str z,.int i,S=>if z.length<=sizeLine then (fj z.cps.toList i).map λc=>(.str ⟨#[c]⟩,S) else none
 | _,_,_=>none
theorem Ia {K:PySem.W.Frag} {H:Hp} {α:List Addr} {ds:List D} {vs:List V} {i:Int} {z:D} (r:aF K H α ds vs) (h:fj ds i=some z):∃ w,fj vs i=some w/\Rep K H α z w:=by
 unfold fj at h ⊢
 rw [<-r.length]
 cases e:qF ds.length i with
 | none=>rw [e] at h;simp at h
 | some j =>
  rw [e] at h
  exact r.get h
theorem ixs {X:Cx}:Br X (mL X.K aM):=by
 intro value slice pins s σ H v u vv uu Q I rv ru h hsub
 obtain ⟨S,α,x,y,z,S',hs,rx,ry,hg,k⟩:=h
 unfold aM at hg
 split at hg
 ·simp only [aU] at hg
  obtain ⟨b,e,hg⟩:=hg
  cases hg;cases ry
  cases rx with
  | tup h r =>
   obtain ⟨w,e',dX⟩:=Ia r e
   exact XF value slice pins s σ H _ _ _ _ Q I rv ru ⟨_,_,_,_,rfl,rfl,h,e',k.same hs dX⟩ hsub
 ·cases ry
  cases rx with
  | ref h =>
   rename_i n i a
   cases hm:S[n]? with
   | none=>rw [hm] at hg;simp at hg
   | some o =>
    rw [hm] at hg
    have hob:=hs.obj _ _ _ hm h
    cases o with
    | lst ds =>
     simp only [aU] at hg
     obtain ⟨b,e,hg⟩:=hg
     cases hg
     obtain ⟨vs,h1,r⟩:=hob
     obtain ⟨w,e',dX⟩:=Ia r e
     exact Qc value slice pins s σ H _ _ _ _ Q I rv ru ⟨_,_,_,_,rfl,rfl,dh.of h1,e',k.same hs dX⟩ hsub
    | frz ds =>
     simp only [aU] at hg
     obtain ⟨b,e,hg⟩:=hg
     cases hg
     obtain ⟨vs,h1,r⟩:=hob
     obtain ⟨w,e',dX⟩:=Ia r e
     exact Qc value slice pins s σ H _ _ _ _ Q I rv ru ⟨_,_,_,_,rfl,rfl,h1.sq,e',k.same hs dX⟩ hsub
    | ins C fs=>simp at hg
    | dct xs=>simp at hg
    | tbl x=>simp at hg
 ·split at hg
  ·rename_i hl
   simp only [aU] at hg
   obtain ⟨b,e,hg⟩:=hg
   cases hg;cases rx;cases ry
   exact XD value slice pins s σ H _ _ _ _ Q I rv ru ⟨_,_,_,rfl,rfl,hl,e,k.same hs (.str _)⟩ hsub
  ·cases hg
 ·cases hg
end MX
end
section
namespace MX
open PySem PySem.Spec PyProof.Rows L2
theorem Di (names:List (Str×NameKind)):∀ (n:Nat) (acc:List (Str×Addr)),cellsFrom n names acc=cellsFrom n names []++acc:=by
 induction names with
 | nil=>intro n acc;simp [cellsFrom]
 | cons p r ih =>
  intro n acc
  obtain ⟨x,k⟩:=p
  unfold cellsFrom
  split
  ·rw [ih,ih _ [(x,n)],fD];rfl
  ·exact ih n acc
theorem Cr {names:List (Str×NameKind)}:∀ {n:Nat} {x:Str} {c:Addr},(x,c)∈cellsFrom n names []->n<=c/\(x,NameKind.cell)∈names:=by
 induction names with
 | nil=>intro n x c h;simp [cellsFrom] at h
 | cons p r ih =>
  intro n x c h
  obtain ⟨y,k⟩:=p
  unfold cellsFrom at h
  split at h
  ·rename_i hk
   rw [Di,jK] at h
   rcases h with h | h
   ·have:=ih h
    exact ⟨by omega,cM _ this.2⟩
   ·have e:(x,c)=(y,n):=by simpa using h
    cases e
    have:k=NameKind.cell:=by simpa using hk
    subst this
    exact ⟨bR _,fL⟩
  ·have:=ih h
   exact ⟨this.1,cM _ this.2⟩
theorem Ff {α:Type} (x:Str):∀ (l r:List (Str×α)),(l++r).lookup x=(l.lookup x).or (r.lookup x)
 | [],r=>by simp
 | (k,v)::l,r=>by
   rw [List.cons_append,iZ,iZ]
   cases x==k with
   | true=>rfl
   | false=>exact Ff x l r
theorem Io {names:List (Str×NameKind)} {n:Nat} {acc:List (Str×Addr)} {x:Str} {c:Addr} (h:(cellsFrom n names acc).lookup x=some c) :
 ((cellsFrom n names []).lookup x=some c)\/((cellsFrom n names []).lookup x=none/\acc.lookup x=some c):=by
 rw [Di,Ff] at h
 cases e:(cellsFrom n names []).lookup x with
 | some d=>rw [e] at h;exact .inl h
 | none=>rw [e] at h;exact .inr ⟨rfl,h⟩
theorem Ii {env:Env} (f:Str×NameKind->List (Str×Addr)->Sem (ForInStep (List (Str×Addr))))
 (hf:∀ name kind cs,f (name,kind) cs=if (kind==NameKind.free)=true then (do let a <-cellOf env name;pure (.yield ((name,a)::cs))) else pure (.yield cs)) :
 ∀ (names:List (Str×NameKind)) (acc:List (Str×Addr)),(∀ y∈names,y.2 = .free->∃ c,env.cells.lookup y.1=some c)->∃ cl,forIn names acc f=pure cl /\
  (∀ x c,cl.lookup x=some c->acc.lookup x=some c\/((x,NameKind.free)∈names/\env.cells.lookup x=some c))/\∀ x,((x,NameKind.free)∈names\/∃ c,acc.lookup x=some c)->∃ c,cl.lookup x=some c
 | [],acc,_=>⟨acc,by rw [List.forIn_nil],λx c h => .inl h,λx h=>by
  rcases h with h | h
  ·cases h
  ·exact h⟩
 | (y,k)::r,acc,h=>by
   by_cases hk:k=NameKind.free
   ·subst hk
    obtain ⟨c,hc⟩:=h (y,.free) fL rfl
    obtain ⟨cl,e,h1,h2⟩:=Ii f hf r ((y,c)::acc) λz hz=>h z (cM _ hz)
    refine ⟨cl,?_,λx d hx=>?_,λx hx=>h2 x ?_⟩
    ·rw [List.forIn_cons,hf]
     have e1:cellOf env y=pure c:=by unfold cellOf;rw [hc]
     simp only [beq_self_eq_true,if_true,e1,pure_bind]
     exact e
    ·rcases h1 x d hx with q | ⟨q1,q2⟩
     ·rw [iZ] at q
      cases hb:x==y with
      | true =>
       rw [hb] at q;cases q
       obtain rfl:x=y:=by simpa using hb
       exact .inr ⟨fL,hc⟩
      | false=>rw [hb] at q;exact .inl q
     ·exact .inr ⟨cM _ q1,q2⟩
    ·rcases hx with hx | ⟨d,hx⟩
     ·rcases List.mem_cons.mp hx with q | q
      ·cases q
       exact .inr ⟨c,by simp⟩
      ·exact .inl q
     ·cases hb:x==y with
      | true=>exact .inr ⟨c,by rw [iZ,hb]⟩
      | false=>exact .inr ⟨d,by rw [iZ,hb];exact hx⟩
   ·have hb:(k==NameKind.free)=false:=by simpa using hk
    obtain ⟨cl,e,h1,h2⟩:=Ii f hf r acc λz hz=>h z (cM _ hz)
    refine ⟨cl,?_,λx d hx=>?_,λx hx=>h2 x ?_⟩
    ·rw [List.forIn_cons,hf,hb]
     simp only [Bool.false_eq_true,if_false,pure_bind]
     exact e
    ·rcases h1 x d hx with q | ⟨q1,q2⟩
     ·exact .inl q
     ·exact .inr ⟨cM _ q1,q2⟩
    ·rcases hx with hx | hx
     ·rcases List.mem_cons.mp hx with q | q
      ·cases q;exact absurd rfl hk
      ·exact .inl q
     ·exact .inr hx
theorem Yg {scope:Scope} {env:Env} (h:∀ y∈scope.names,y.2 = .free->∃ c,env.cells.lookup y.1=some c):∃ cl,closureFor scope env=pure cl /\
 (∀ x c,cl.lookup x=some c->(x,NameKind.free)∈scope.names/\env.cells.lookup x=some c)/\∀ x,(x,NameKind.free)∈scope.names->∃ c,cl.lookup x=some c:=by
 obtain ⟨cl,e,h1,h2⟩:=Ii (env:=env) (λx cs=>if (x.2==NameKind.free)=true then (do let a <-cellOf env x.1;pure (.yield ((x.1,a)::cs))) else pure (.yield cs)) (λ_ _ _=>rfl) scope.names [] h
 refine ⟨cl,?_,λx c q=>?_,λx q=>h2 x (.inl q)⟩
 ·unfold closureFor
  show (forIn scope.names [] _ >>= λcs=>pure cs)=_
  rw [show (forIn scope.names ([]:List (Str×Addr)) _:Sem (List (Str×Addr)))=_ from e]
  rfl
 ·rcases h1 x c q with z | z
  ·simp at z
  ·exact z
theorem JT {env:Env}:∀ {names:List (Str×NameKind)} {x:Str},
 (names.map λ(n,k)=>if (k==NameKind.free&&env.scope.kind == .function&&env.kindOf n==some .cell) then (n,NameKind.cell) else (n,k)).lookup x =
  (names.lookup x).map λk=>if (k==NameKind.free&&env.scope.kind == .function&&env.kindOf x==some .cell) then NameKind.cell else k
 | [],_=>rfl
 | (n,k)::r,x=>by
   have ih:=@JT env r x
   show List.lookup x ((if (k==NameKind.free&&env.scope.kind == .function&&env.kindOf n==some .cell)=true then (n,NameKind.cell) else (n,k))::_)=_
   cases hx:x==n with
   | true =>
    obtain rfl:x=n:=by simpa using hx
    by_cases hc:(k==NameKind.free&&env.scope.kind == .function&&env.kindOf x==some .cell)=true
    ·rw [if_pos hc];simp only [iZ,hx,lW,if_pos hc]
    ·rw [if_neg hc];simp only [iZ,hx,lW,if_neg hc]
   | false =>
    by_cases hc:(k==NameKind.free&&env.scope.kind == .function&&env.kindOf n==some .cell)=true
    ·rw [if_pos hc];simp only [iZ,hx];exact ih
    ·rw [if_neg hc];simp only [iZ,hx];exact ih
theorem ziy {M:Model} {A:Around} {E:Value->Shared->Prop} {s:Shared} {scope:Scope} {globals:Addr} {cl:List (Str×Addr)} {qual:Str} {env:Env} {Q:Env->Shared->Prop}
 (h:Q { scope:=scope,locals:=s.heap.objs.size,globals:=globals,cells:=cellsFrom (s.heap.objs.size+1) scope.names cl,qual:=qual,func:=none,code:=env.code,frame:=env.frame,builtins:=env.builtins }
  { s with heap:=pushCells (s.heap.push { cls := .type "dict",data := .dict #[] }) scope.names }) :
 wpAny M A (newFunctionEnv scope globals cl [] qual none .none (some env)) Q E s:=by
 simp only [newFunctionEnv,Option.isSome_some,if_true]
 refine aN (wpAny_alloc ?_)
 refine aN (wpAny_layCells _ (λname kind cells=>by cases hkc:kind==NameKind.cell<;>simp [hkc]) _ _ _ _ ?_)
 rw [show ({ s with heap:=s.heap.push { cls := .type "dict",data := .dict #[] } }:Shared).heap.objs.size=s.heap.objs.size+1 from Heap.size_push ..]
 rw [List.forIn_nil]
 exact aN (bW (bW h))
structure pW (X:Cx) (scope:Scope) (N':List Str) (src:List (Option Nat)):Prop where
 kind:scope.kind = .function
 uniq:∀ y∈scope.names,scope.names.lookup y.1=some y.2
 free:∀ y∈scope.names,y.2 = .free->(X.env.kindOf y.1=some .cell\/X.env.kindOf y.1=some .free)
 len:src.length=N'.length
 src:∀ (j i:Nat) x,N'[j]?=some x->src[j]?=some (some i)->X.N[i]?=some x/\scope.names.lookup x=some .free
def lC (src:List (Option Nat)) (σ:L2.St):L2.St:=src.map λo=>o.bind λi=>(σ[i]?).join
def pX (X:Cx) (scope:Scope) (N':List Str) (cl:List (Str×Addr)) (s₂:Shared) (H₂:Hp) (fp:List Addr):Cx where
 prog:=X.prog
 w:=X.w
 K:=X.K
 mg:=X.mg
 base:=X.base
 A:=X.A
 N:=N'
 s₀:=s₂
 H₀:=H₂
 env:={ scope:=relabel scope X.env,locals:=s₂.heap.objs.size+1,globals:=X.env.globals,cells:=cellsFrom (s₂.heap.objs.size+1+1) scope.names cl,qual:=X.env.qual,func:=none,code:=X.env.code,frame:=X.env.frame,builtins:=X.env.builtins }
 outer:=X.stack
 stack:=X.stack
 ex:=fp
 fn:=λx=>decide (scope.names.lookup x=some .cell)
 calm:=X.calm
 pn:=[]
 xe:=λ_ _=>False
structure mV (X:Cx) (scope:Scope) (N':List Str) (Y:Cx):Prop where
 prog:Y.prog=X.prog
 w:Y.w=X.w
 K:Y.K=X.K
 mg:Y.mg=X.mg
 base:Y.base=X.base
 A:Y.A=X.A
 N:Y.N=N'
 sc:Y.env.scope=relabel scope X.env
 calm:Y.calm=X.calm
 fn:∀ x,scope.names.lookup x=some .cell->Y.fn x=true
section
variable {X:Cx} {pins:List (Addr×Obj)} {σ:L2.St} {H:Hp} {s:Shared} {scope:Scope} {N':List Str} {src:List (Option Nat)} {cl:List (Str×Addr)} {fp:List Addr}
theorem zkf:mV X scope N' (pX X scope N' cl s H fp):=⟨rfl,rfl,rfl,rfl,rfl,rfl,rfl,rfl,rfl,λx h=>decide_eq_true h⟩
theorem zlG (I:Inv X pins σ H s) (hf:∀ b∈fp,jA X pins H b) (hfe:∀ b∈fp,∃ o,s.heap.get? b=some o) (ok:pW X scope N' src)
 (h1:∀ x c,cl.lookup x=some c->(x,NameKind.free)∈scope.names/\X.env.cells.lookup x=some c) (h2:∀ x,(x,NameKind.free)∈scope.names->∃ c,cl.lookup x=some c) {l:Obj} :
 Inv (pX X scope N' cl s H fp) [] (lC src σ) H { s with heap:=pushCells ((s.heap.push l).push { cls := .type "dict",data := .dict #[] }) scope.names }:=by
 have hC:((s.heap.push l).objs.size)=s.heap.objs.size+1:=Heap.size_push ..
 have keep:∀ b o,s.heap.get? b=some o->(pushCells ((s.heap.push l).push { cls := .type "dict",data := .dict #[] }) scope.names).get? b=some o:=λb o e =>
  pushCells_keeps _ _ b o (c7 _ (c7 _ e))
 have Ms:=cellsFrom_ok scope.names ((s.heap.push l).push { cls := .type "dict",data := .dict #[] }) (s.heap.objs.size+1+1) [] ⟨λ_ _ hm=>(nomatch hm),List.Pairwise.nil⟩ (by rw [Heap.size_push,hC];exact bR _)
 rw [Heap.size_push,hC] at Ms
 have cells:∀ x c,(pX X scope N' cl s H fp).env.cells.lookup x=some c->((cellsFrom (s.heap.objs.size+1+1) scope.names []).lookup x=some c/\s.heap.objs.size+1+1<=c/\(x,NameKind.cell)∈scope.names)\/(X.env.cells.lookup x=some c/\(x,NameKind.free)∈scope.names):=λx c e=>by
  rcases Io e with z | ⟨_,z⟩
  ·have:=Cr (gD z)
   exact .inl ⟨z,this.1,this.2⟩
  ·exact .inr ⟨(h1 x c z).2,(h1 x c z).1⟩
 have z7:∀ x c,X.env.cells.lookup x=some c->c<s.heap.objs.size:=λx c e=>by
  obtain ⟨v,q⟩:=I.cell x c e
  exact q.lt
 have rel:∀ x,(pX X scope N' cl s H fp).env.kindOf x=(scope.names.lookup x).map λk=>if (k==NameKind.free&&X.env.scope.kind == .function&&X.env.kindOf x==some .cell) then NameKind.cell else k:=λx=>JT
 have vh:∀ b∈fp,b<s.heap.objs.size:=λb hb=>by
  obtain ⟨o,e⟩:=hfe b hb
  exact cj e
 have cap:∀ x y c,(pX X scope N' cl s H fp).env.cells.lookup x=some c->(pX X scope N' cl s H fp).env.cells.lookup y=some c->x=y:=λx y c ex ey=>by
  rcases cells x c ex with ⟨z1,l1,m1⟩ | ⟨z1,m1⟩<;>rcases cells y c ey with ⟨z2,l2,m2⟩ | ⟨z2,m2⟩
  ·exact name_of_addr Ms.apart (gD z1) (gD z2)
  ·exact absurd (dj (z7 y c z2) (Nat.le_trans (Nat.le_add_right _ 2) l1)) (gF _)
  ·exact absurd (dj (z7 x c z1) (Nat.le_trans (Nat.le_add_right _ 2) l2)) (gF _)
  ·exact I.ok.inj x y c z1 z2
 have Aq:(pushCells ((s.heap.push l).push { cls := .type "dict",data := .dict #[] }) scope.names).Ns (s.heap.objs.size+1) (λ_=>none):=by
  have q:((s.heap.push l).push { cls := .type "dict",data := .dict #[] }).Ns (s.heap.push l).objs.size (λ_=>none):=Heap.Ns.new (s.heap.push l) (.type "dict")
  rw [hC] at q
  exact q.keeps (pushCells_keeps _ _)
 refine ⟨⟨I.ok.mod,ok.kind,I.ok.glob,I.ok.blt,Nat.le_succ _,cap,λx hx=>?_,λx c hx e=>?_,I.ok.hd,I.ok.frames,.inl rfl,λb hb=>?_,I.bs,Nat.le_trans I.ok.bsz I.sz,λb o e hb=>?_,λb hb=>?_,I.stack,I.stkFree⟩,
  rfl,I.bare,Un.kept keep,⟨_,Aq,λi x v e1 e2 e3=>?_⟩,λx c e=>?_,I.hok.fresh (Nat.le_succ _),λx c e=>?_,λp hp=>absurd (show p∈([]:List (Addr×Obj)) from hp) (by simp),I.hok.kept keep,?_⟩
 ·-- has
  rw [rel] at hx
  have hk:scope.names.lookup x=some .cell\/scope.names.lookup x=some .free:=by
   cases q:scope.names.lookup x with
   | none=>rw [q] at hx;simp at hx
   | some k =>
    rw [q] at hx
    simp only [lW,Option.some.injEq] at hx
    by_cases hk:k = .free
    ·exact .inr (by rw [hk])
    ·have hb:(k==NameKind.free)=false:=by simpa using hk
     simp only [hb,Bool.false_and,Bool.false_eq_true,if_false] at hx
     rcases hx with hx | hx
     ·exact .inl (by rw [hx])
     ·exact absurd hx hk
  show ∃ c,(cellsFrom (s.heap.objs.size+1+1) scope.names cl).lookup x=some c
  rw [Di,Ff]
  rcases hk with hk | hk
  ·obtain ⟨c,hc⟩:=Option.isSome_iff_exists.mp (PySem.W.cellsFrom_some scope.names (s.heap.objs.size+1+1) [] (.inl hk))
   exact ⟨c,by rw [hc];rfl⟩
  ·obtain ⟨c,hc⟩:=h2 x (gD hk)
   cases q:(cellsFrom (s.heap.objs.size+1+1) scope.names []).lookup x with
   | some d=>exact ⟨d,rfl⟩
   | none=>exact ⟨c,hc⟩
 ·-- cab
  have hx':scope.names.lookup x=some .cell:=of_decide_eq_true hx
  rcases cells x c e with ⟨_,l1,_⟩ | ⟨_,m1⟩
  ·show s.heap.objs.size<=c;omega
  ·rw [ok.uniq _ m1] at hx';cases hx'
 ·-- exf
  refine ⟨?_,λx c e z=>?_⟩
  ·exact dw (Nat.lt_succ_of_lt (vh b hb))
  ·subst z
   rcases cells x c e with ⟨_,l1,_⟩ | ⟨z1,_⟩
   ·exact absurd (dj (vh c hb) (Nat.le_trans (Nat.le_add_right _ 2) l1)) (gF _)
   ·exact (hf c hb).2.2.2.2.1 x c z1 rfl
 ·-- noex
  obtain ⟨_,_,_,q,_⟩:=hf b hb
  rcases q with q | q
  ·exact I.ok.noex b o e q
  ·exact absurd (dj (dj (cj e) I.ok.bsz) q) (gF _)
 ·-- exfs
  intro z
  obtain ⟨_,f1,f2,_⟩:=hf b hb
  exact (List.mem_cons.mp (I.stkSub b z)).elim f1 f2
 ·-- loc
  have e1':N'[i]?=some x:=e1
  obtain ⟨j,hj,hv⟩:∃ j,src[i]?=some (some j)/\σ[j]?=some (some v):=by
   unfold lC at e2
   rw [eV] at e2
   cases q:src[i]? with
   | none=>rw [q] at e2;simp at e2
   | some o =>
    rw [q] at e2
    cases o with
    | none=>simp at e2
    | some j =>
     refine ⟨j,rfl,?_⟩
     simp only [lW,cg,Option.some.injEq] at e2
     cases q2:σ[j]? with
     | none=>rw [q2] at e2;simp at e2
     | some o2=>rw [q2] at e2;simp at e2;rw [e2]
  obtain ⟨hN,hfr⟩:=ok.src i j x e1' hj
  have hm:=gD hfr
  have hk:=ok.free _ hm rfl
  obtain ⟨m,hn,hl⟩:=I.loc
  obtain ⟨u,ru,lk⟩:=hl j x v hN hv (by rcases hk with hk | hk;exact .inr (.inl hk);exact .inr (.inr hk))
  refine ⟨u,ru,.inr ⟨?_,?_⟩⟩
  ·rw [rel,hfr]
   simp only [lW]
   split
   ·exact .inl rfl
   ·exact .inr rfl
  ·rcases lk with ⟨q,_⟩ | ⟨_,c,hc,hcell⟩
   ·rcases hk with hk | hk<;>(rw [q] at hk;cases hk)
   ·refine ⟨c,?_,hcell.keeps keep⟩
    show (cellsFrom (s.heap.objs.size+1+1) scope.names cl).lookup x=some c
    rw [Di,Ff]
    have hnone:(cellsFrom (s.heap.objs.size+1+1) scope.names []).lookup x=none:=by
     cases q:(cellsFrom (s.heap.objs.size+1+1) scope.names []).lookup x with
     | none=>rfl
     | some d =>
      have:=ok.uniq _ (Cr (gD q)).2
      rw [hfr] at this;cases this
    rw [hnone]
    obtain ⟨c',hc'⟩:=h2 x hm
    have:=(h1 x c' hc').2
    rw [hc] at this;cases this
    exact hc'
 ·-- cell
  rcases cells x c e with ⟨z1,_,_⟩ | ⟨z1,_⟩
  ·exact ⟨none,(Ms.empty x c (gD z1)).1⟩
  ·obtain ⟨v,q⟩:=I.cell x c z1
   exact ⟨v,q.keeps keep⟩
 ·-- freeC
  rcases cells x c e with ⟨_,l1,_⟩ | ⟨z1,_⟩
  ·exact I.hok.fresh (by omega)
  ·exact I.freeC x c z1
 ·-- len
  show (lC src σ).length=N'.length
  unfold lC
  rw [cQ];exact ok.len
end
theorem zhB {prog:Program} {w:World} {A:Around} {R:Result->Shared->Prop} {s:Shared} {elt target iter:Expr} {ifs:List Expr} {scope:Scope} {pos:Pos} {it acc:Value} {env:Env} (I:Nat->Shared->Prop)
 (turn:∀ n s,I n s->wpAny (model prog w) A (pyNext it) (λr s₁=>match r with
  | none=>R (.ok .next) s₁
  | some v=>wpAny (model prog w) A (letOwnedTupleGo target it v) (λ_ s₀=>wpAny (model prog w) A (assign target env v) (λ_ s₂ =>
   wpAny (model prog w) A (forIn ifs true λc r=>if r=true then do let ok <-isTrue c env (eval c env);pure (ForInStep.yield ok) else pure (ForInStep.yield r)) (λok s₃ =>
    if ok=true then wpAny (model prog w) A (eval elt env) (λx s₄ =>
     wpAny (model prog w) A (call (.builtin "list.append") [acc,x]) (λ_ s₅=>∃ m,m<n/\I m s₅) (λ_ _=>False) s₄) (λ_ _=>False) s₃
    else ∃ m,m<n/\I m s₃) (λ_ _=>False) s₂) (λ_ _=>False) s₀) (λ_ _=>False) s₁) (λ_ _=>False) s)
 (n:Nat) (h:I n s) :
 codeAny (model prog w) A (.compLoop (.ListComp elt [⟨target,iter,ifs,0⟩] scope pos) 0 it acc env) R s:=by
 refine codeAny_loop rfl I (λn s hI=>?_) n h
 show wpAny _ A ((compTurn (.ListComp elt [⟨target,iter,ifs,0⟩] scope pos) 0 it acc env).onRaise (λx=>do noteFrame x env;theTreesLotGoes x)) _ _ s
 refine wpAny_noted ?_
 rw [compTurn_list]
 refine aN (wpAny_standAt (aN (jm (turn n s hI) (λr s₁ h₁=>?_) λ_ _ h'=>h'.elim)))
 cases r with
 | none=>exact bW h₁
 | some v =>
  refine aN (jm h₁ (λ_ s₀ h₀=>?_) λ_ _ h'=>h'.elim)
  refine aN (jm h₀ (λ_ s₂ h₂=>aN (jm h₂ (λok s₃ h₃=>?_) λ_ _ h'=>h'.elim)) λ_ _ h'=>h'.elim)
  cases ok with
  | false=>exact bW ⟨rfl,h₃⟩
  | true =>
   exact aN (aN (jm h₃ (λx s₄ h₄=>aN (jm h₄ (λ_ s₅ h₅=>bW (bW ⟨rfl,h₅⟩)) λ_ _ h'=>h'.elim)) λ_ _ h'=>h'.elim))
def vN (X:Cx) (ifs:List Expr) (t:TT):Prop :=
 ∀ (pins:List (Addr×Obj)) (s:Shared) (σ:L2.St) (H:Hp) (Q:Bool->Hp->Prop),Inv X pins σ H s->t σ H Q ->
  wpAny (model X.prog X.w) X.A (forIn ifs true λc r=>if r=true then do let ok <-isTrue c X.env (eval c X.env);pure (ForInStep.yield ok) else pure (ForInStep.yield r)) (TP X pins σ Q) X.xe s
theorem zm8 {X:Cx}:vN X [] (λ_ H Q=>Q true H):=λ_ _ _ H _ I h=>wpAny_tests_nil ⟨H,I,h⟩
theorem zm7 {X:Cx} {c:Expr} {t:TT} (h:PT X c t):vN X [c] t:=λpins s σ H Q I q=>wpAny_tests_one (h pins s σ H Q I q)
def Gb (J:It) (g:TG) (tt:TT) (te:TE) (Fin:List V->Hp->Prop) (W:Nat->Nat->List V->L2.St->Hp->Prop):Prop :=
 ∀ i m ys τ H,W i m ys τ H->(J.stop i H/\Fin ys H)\/(J.go i H/\ys.length<sizeLine/\∀ x H',J.yld i H x H'->g x τ H' λτ2 H2=>tt τ2 H2 λb H3 =>
  if b=true then te τ2 H3 λy H4=>∃ m',m'<m/\W (i+1) m' (ys++[y]) τ2 H4 else ∃ m',m'<m/\W (i+1) m' ys τ2 H3)
theorem fP.track {P:Program} {w:World} {H:Hp} {h:Heap} {a:Addr} {o:HO} (x:fP P w H h) (hn:H a=none) (new:bO P w (upd H a o) h a o):fP P w (upd H a o) h:=λb u e=>by
 by_cases hb:b=a
 ·subst hb;rw [eO] at e;cases e;exact new
 ·rw [bY hb] at e
  exact (x b u e).stay (λc v _ q=>q) (λc q=>by rw [bY (fU q hn)];exact q) λc xs q=>by rw [bY (fU q hn)];exact q
theorem Un.track {fs ex:List Addr} {H H':Hp} {h h':Heap} {a:Addr} {o:HO} (u:Un fs ex H H' h h') (hn:H' a=none) (ha:h.get? a=none):Un fs ex H (upd H' a o) h h' where
 keep:=u.keep
 slot:=u.slot
 free:=λb ob q n hx=>by
  rw [bY (λz=>by rw [z,ha] at q;cases q)]
  exact u.free b ob q n hx
 there:=u.there
 tups:=λb xs q=>by rw [bY (fU (u.tups b xs q) hn)];exact u.tups b xs q
 frzs:=λb ob xs q=>by rw [bY (fU (u.frzs b ob xs q) hn)];exact u.frzs b ob xs q
 tbls:=λb ps q=>by
  obtain ⟨m,e⟩:=u.tbls b ps q
  exact ⟨m,by rw [bY (fU e hn)];exact e⟩
theorem RZ {X:Cx} {pins:List (Addr×Obj)} {σ:L2.St} {H:Hp} {s:Shared} {scope:Scope} {N':List Str} {src:List (Option Nat)} {cl:List (Str×Addr)} {fp:List Addr} {elt tg iter:Expr} {ifs:List Expr} {pos:Pos}
 {J:It} {it:Addr} {tn:Nat->Heap->Prop} {g:TG} {tt:TT} {te:TE} {Fin:List V->Hp->Prop} {W:Nat->Nat->List V->L2.St->Hp->Prop} {RR:Value->Addr->Result->Shared->Prop} {E:Value->Shared->Prop}
 (hc:X.calm=true) (ok:pW X scope N' src) (I:Inv X pins σ H s) (T:tR X.prog X.w X.K tg J fp it tn) (st:tn 0 s.heap) (hf:∀ b∈fp,jA X pins H b)
 (h1:∀ x c,cl.lookup x=some c->(x,NameKind.free)∈scope.names/\X.env.cells.lookup x=some c) (h2:∀ x,(x,NameKind.free)∈scope.names->∃ c,cl.lookup x=some c)
 (hY:∀ Y,mV X scope N' Y->PG Y tg g/\vN Y ifs tt/\PE Y elt te)
 (w0:∃ m,W 0 m [] (lC src σ) H) (turn:Gb J g tt te Fin W)
 (hRR:∀ ys H' s' oC m,H' s.heap.objs.size=none->LCg.NsObj oC m->Inv X (pins++[(s.heap.objs.size+1,oC)]) σ (upd H' s.heap.objs.size (.lst ys)) s'->Fin ys H'->RR (.ref s.heap.objs.size) (s.heap.objs.size+1) (.ok .next) s') :
 wpAny (model X.prog X.w) X.A (newList []) (λacc s₃=>wpAny (model X.prog X.w) X.A (newFunctionEnv scope X.env.globals cl [] X.env.qual none .none (some X.env)) (λcenv s₄ =>
  codeAny (model X.prog X.w) X.A (.compStart (.ListComp elt [⟨tg,iter,ifs,0⟩] scope pos) 0 (.ref it) acc { cenv with scope:=relabel scope X.env }) (RR acc cenv.locals) s₄) E s₃) E s:=by
 have hfe:∀ b∈fp,∃ o,s.heap.get? b=some o:=λb hb=>by
  obtain ⟨o,e,_⟩:=T.obj _ _ st b hb
  exact ⟨o,e⟩
 refine wpAny_newObj_type (ziy ?_)
 have hC:(s.heap.push { cls := .type "list",dict:=none,data := .seq ([]:List Value).toArray }).objs.size=s.heap.objs.size+1:=Heap.size_push ..
 dsimp only
 rw [hC]
 have I0:Inv (pX X scope N' cl s H fp) [] (lC src σ) H { s with heap:=pushCells ((s.heap.push { cls := .type "list",dict:=none,data := .seq ([]:List Value).toArray }).push { cls := .type "dict",data := .dict #[] }) scope.names } :=
  zlG I hf hfe ok h1 h2
 have uW:mV X scope N' (pX X scope N' cl s H fp):=zkf
 obtain ⟨hg,ht,he⟩:=hY _ uW
 generalize vd:pX X scope N' cl s H fp=Y at I0 uW hg ht he
 have eP:Y.prog=X.prog:=uW.prog
 have ew:Y.w=X.w:=uW.w
 have eA:Y.A=X.A:=uW.A
 have eK:Y.K=X.K:=uW.K
 have sZ:Y.calm=true:=uW.calm.trans hc
 have qL:Y.env={ scope:=relabel scope X.env,locals:=s.heap.objs.size+1,globals:=X.env.globals,cells:=cellsFrom (s.heap.objs.size+1+1) scope.names cl,qual:=X.env.qual,func:=none,code:=X.env.code,frame:=X.env.frame,builtins:=X.env.builtins }:=by rw [<-vd];rfl
 have exe:Y.xe=λ_ _=>False:=by rw [<-vd];rfl
 have FP:Y.fs=frs X.stack:=by rw [<-vd];rfl
 have Ve:Y.ex=fp:=by rw [<-vd];rfl
 have Nr:Y.s₀=s:=by rw [<-vd];rfl
 have eH0:Y.H₀=H:=by rw [<-vd];rfl
 have Nt:Y.pn=[]:=by rw [<-vd];rfl
 have eL:Y.env.locals=s.heap.objs.size+1:=by rw [qL]
 rw [<-qL]
 have vh:∀ b∈fp,b<s.heap.objs.size:=λb hb=>by
  obtain ⟨o,e⟩:=hfe b hb
  exact cj e
 have hD:∀ (τ:L2.St) (H':Hp) (s':Shared) (pn:List (Addr×Obj)),Inv Y pn τ H' s'->∀ x c,Y.env.cells.lookup x=some c->c≠s.heap.objs.size:=λτ H' s' pn J' x c e z=>by
  have e':=e
  rw [qL] at e'
  rcases Io e' with q | ⟨_,q⟩
  ·have:=(Cr (gD q)).1
   rw [z] at this
   exact absurd (dj (Nat.lt_succ_self _) (Nat.le_trans (Nat.le_succ _) this)) (gF _)
  ·obtain ⟨v,q'⟩:=I.cell x c (h1 x c q).2
   have:=q'.lt
   rw [z] at this
   exact absurd this (gF _)
 have stat:∀ {H':Hp} {pn:List (Addr×Obj)},(∀ b∈fp,H' b=none)->(∀ p∈pn,p.1=s.heap.objs.size)->∀ b∈fp,jA Y pn H' b:=λ{H' pn} hn hp b hb=>by
  refine ⟨hn b hb,?_,?_,.inl (by rw [Ve];exact hb),λx c e z=>?_,λp hm z=>?_⟩
  ·rw [eL];exact dw (Nat.lt_succ_of_lt (vh b hb))
  ·rw [FP]
   intro z
   exact (List.mem_cons.mp (I.stkSub b z)).elim (hf b hb).2.1 (hf b hb).2.2.1
  ·subst z
   rw [qL] at e
   rcases Io e with q | ⟨_,q⟩
   ·have:=(Cr (gD q)).1
    exact absurd (dj (vh c hb) (Nat.le_trans (Nat.le_add_right _ 2) this)) (gF _)
   ·exact (hf c hb).2.2.2.2.1 x c (h1 x c q).2 rfl
  ·rw [Nt,vV] at hm
   have e1:=hp p hm
   rw [e1] at z
   have:=vh b hb
   rw [<-z] at this
   exact absurd this (gF _)
 obtain ⟨m0,w0⟩:=w0
 have loop:∀ s₃:Shared,s₃={ s with heap:=pushCells ((s.heap.push { cls := .type "list",dict:=none,data := .seq ([]:List Value).toArray }).push { cls := .type "dict",data := .dict #[] }) scope.names } ->
  codeAny (model X.prog X.w) X.A (.compLoop (.ListComp elt [⟨tg,iter,ifs,0⟩] scope pos) 0 (.ref it) (.ref s.heap.objs.size) Y.env) (RR (.ref s.heap.objs.size) (s.heap.objs.size+1)) s₃:=by
  rintro s₃ rfl
  refine zhB (λn s'=>∃ i ys τ H' its k,Inv Y [(s.heap.objs.size,{ cls := .type "list",data := .seq (List.toArray its) k })] τ H' s'/\Vals ys its/\ys.length<=sizeLine/\tn i s'.heap/\(∀ b∈fp,H' b=none)/\W i n ys τ H') ?_ m0 ?_
  ·rintro n s3 ⟨i,ys,τ,H3,its,k,I3,rv,hlen,st3,FN,w3⟩
   have Vb:=stat FN (pn:=[(s.heap.objs.size,{ cls := .type "list",data := .seq (List.toArray its) k })]) (by simp)
   rcases turn i n ys τ H3 w3 with ⟨stop,fin⟩ | ⟨go,hlt,step⟩
   ·have q:=T.done Y eP ew eK sZ i _ s3 τ H3 (λ_ _=>False) I3 Vb st3 stop
    rw [eA] at q
    refine bL q λr s4 ⟨hr,I4⟩=>?_
    subst hr
    obtain ⟨oD,nD,_⟩:=I4.pin (s.heap.objs.size,{ cls := .type "list",data := .seq (List.toArray its) k }) (by rw [Nt];simp)
    obtain ⟨m,hn,_⟩:=I4.loc
    rw [eL] at hn
    obtain ⟨oC,heC,hoC⟩:=LCg.ns_obj hn
    have un:=I4.base
    rw [FP,Ve,eH0,Nr] at un
    have hfresh:s.heap.get? s.heap.objs.size=none:=by
     cases q:s.heap.get? s.heap.objs.size with
     | none=>rfl
     | some o=>exact absurd (cj q) (gF _)
    have hok:=I4.hok
    rw [eP,ew] at hok
    have hCn:H3 (s.heap.objs.size+1)=none:=by have:=I4.free;rw [eL] at this;exact this
    have I5:Inv X pins σ (upd H3 s.heap.objs.size (.lst ys)) s4:=by
     refine I.call' (ch:=fp) (by have:=I4.os;rw [Nr] at this;exact this) (Un.track un nD hfresh) (fP.track hok nD ⟨hlen,its,k,rv,oD⟩) I4.bare λb hb=>?_
     exact ⟨(hf b hb).2.2.2.1,(hf b hb).2.1,(hf b hb).2.2.2.2.1,(hf b hb).2.2.2.2.2⟩
    refine hRR ys H3 s4 oC m nD hoC ?_ fin
    refine I5.pins_of λp hp=>?_
    rcases jK.mp hp with z | z
    ·exact I5.pin p (List.mem_append_right _ z)
    ·have e:p=(s.heap.objs.size+1,oC):=by simpa using z
     subst e
     have fo:=I.fpOk (b:=s.heap.objs.size+1) (H':=upd H3 s.heap.objs.size (.lst ys)) (Nat.le_succ _) (by rw [bY (Nat.ne_of_gt (Nat.lt_succ_self _))];exact hCn)
     obtain ⟨es,ep,hd,_⟩:=hoC
     exact ⟨heC,fo.1,fo.2.1,fo.2.2.1,λv z=>by rw [hd] at z;cases z⟩
   ·have q:=T.item Y eP ew eK sZ i _ s3 τ H3 (λ_ _=>False) I3 Vb st3 go
    rw [eA] at q
    refine bL q λr s4 ⟨u,hr,h4⟩=>?_
    subst hr
    refine bL h4 λ_ s5 ⟨x,H5,I5,r5,y5,uK,Nk⟩=>?_
    have fo5:=stat Nk (pn:=[(s.heap.objs.size,{ cls := .type "list",data := .seq (List.toArray its) k })]) (by simp)
    have N7:=I5.pinned fo5 (T.obj _ _ uK)
    have q:=hg _ s5 τ H5 x u _ N7 r5 (step x H5 y5)
    rw [eP,ew,eA,exe] at q
    refine bL q λ_ s6 ⟨τ6,H6,I6,q6⟩=>?_
    have q:=ht _ s6 τ6 H6 _ I6 q6
    rw [eP,ew,eA,exe] at q
    refine bL q λb s7 ⟨H7,I7,q7⟩=>?_
    have after:∀ {τ8:L2.St} {H8:Hp} {s8:Shared},Inv Y ([(s.heap.objs.size,{ cls := .type "list",data := .seq (List.toArray its) k })]++yg fp s5.heap) τ8 H8 s8 ->
     tn (i+1) s8.heap/\(∀ b∈fp,H8 b=none)/\s8.heap.get? s.heap.objs.size=some { cls := .type "list",data := .seq (List.toArray its) k }/\H8 s.heap.objs.size=none:=λ{τ8 H8 s8} I8=>by
     have pi:∀ b∈fp,∀ o,s5.heap.get? b=some o->s8.heap.get? b=some o/\H8 b=none:=λb hb o e=>by
      have:=I8.pin (b,o) (List.mem_append_right _ (List.mem_append_right _ (Jl hb e)))
      exact ⟨this.1,this.2.1⟩
     have pd:=I8.pin (s.heap.objs.size,{ cls := .type "list",data := .seq (List.toArray its) k }) (List.mem_append_right _ (List.mem_append_left _ (by simp)))
     refine ⟨T.keep _ _ _ uK λb hb o e=>(pi b hb o e).1,λb hb=>?_,pd.1,pd.2.1⟩
     obtain ⟨o,e,d⟩:=T.obj _ _ uK b hb
     exact (pi b hb o e).2
    cases b with
    | false =>
     rw [if_neg fQ]
     rw [if_neg fQ] at q7
     obtain ⟨m',hm,w7⟩:=q7
     obtain ⟨a1,a2,_,_⟩:=after I7
     exact ⟨m',hm,i+1,ys,τ6,H7,its,k,I7.unpinned,rv,hlen,a1,a2,w7⟩
    | true =>
     rw [if_pos rfl]
     rw [if_pos rfl] at q7
     have q:=he _ s7 τ6 H7 _ I7 q7
     rw [eP,ew,eA,exe] at q
     refine bL q λv s8 ⟨y,H8,I8,r8,m',hm,w8⟩=>?_
     obtain ⟨a1,a2,aD,nD⟩:=after I8
     refine append_at (hsz:=by rw [dH,<-rv.length];exact hlen) aD λh9 Uy e9=>?_
     have hne:s.heap.objs.size≠Y.env.locals:=by rw [eL];exact dw (Nat.lt_succ_self _)
     have I8':Inv Y [] τ6 H8 s8:=I8.pins_of λp hp=>absurd hp (by simp)
     have I9:Inv Y [] τ6 H8 { s8 with heap:=h9 }:=I8'.turned (t':=s8.toks) (λb o hb e=>Uy.extBut b o hb e) nD hne (.inr (by rw [Nr];exact bR _)) (λx c e=>hD _ _ _ _ I8 x c e) (by rw [Nt];simp)
     have I10:Inv Y [(s.heap.objs.size,{ cls := .type "list",data := .seq (List.toArray (its++[v])) (k+1) })] τ6 H8 { s8 with heap:=h9 }:=I9.pins_of λp hp=>by
      have e:p=(s.heap.objs.size,{ cls := .type "list",data := .seq (List.toArray (its++[v])) (k+1) }):=by simpa using hp
      subst e
      refine ⟨by rw [<-List.push_toArray];exact e9,nD,hne,?_,λv z=>by cases z⟩
      rw [FP]
      intro z
      rcases List.mem_cons.mp (I.stkSub _ z) with z | z
      ·exact absurd I.lt (by rw [<-z];exact gF _)
      ·exact I.nofs (bR _) z
     refine ⟨m',hm,i+1,ys++[y],τ6,H8,its++[v],k+1,I10,rv.append (.cons r8 .nil),by rw [gQ];exact hlt,?_,a2,w8⟩
     exact T.keep _ _ _ a1 λb hb o e=>Uy.extBut b o (dw (vh b hb)) e
  ·refine ⟨0,[],lC src σ,H,[],0,?_,.nil,Nat.zero_le _,?_,λb hb=>(hf b hb).1,w0⟩
   ·refine I0.pins_of λp hp=>?_
    have e:p=(s.heap.objs.size,{ cls := .type "list",data := .seq (List.toArray []) 0 }):=by simpa using hp
    subst e
    refine ⟨pushCells_keeps _ _ _ _ (c7 _ (fZ _ rfl)),I.hok.fresh (bR _),by rw [eL];exact dw (Nat.lt_succ_self _),?_,λv z=>by cases z⟩
    rw [FP]
    intro z
    rcases List.mem_cons.mp (I.stkSub _ z) with z | z
    ·exact absurd I.lt (by rw [<-z];exact gF _)
    ·exact I.nofs (bR _) z
   ·exact T.keep _ _ _ st λb hb o e=>pushCells_keeps _ _ _ _ (c7 _ (c7 _ e))
 exact codeAny_compStart_list (loop _ rfl) (T.self _ 0 _ _ _ (T.keep _ _ _ st λb hb o e=>pushCells_keeps _ _ _ _ (c7 _ (c7 _ e))) (loop _ rfl))
def tLc (wi:TI) (g:TG) (tt:TT) (te:TE) (src:List (Option Nat)):TE:=λσ H Q=>wi σ H λJ H1=>∃ W,(∃ m,W 0 m [] (lC src σ) H1) /\
 Gb J g tt te (λys H'=>∀ p,H' p=none->Q (.ref p) (upd H' p (.lst ys))) W
section
variable {X:Cx} {elt tg iter:Expr} {ifs:List Expr} {scope:Scope} {pos:Pos} {N':List Str} {src:List (Option Nat)} {wi:TI} {g:TG} {tt:TT} {te:TE}
theorem QF (ok:pW X scope N' src) {pins:List (Addr×Obj)} {σ:L2.St} {H:Hp} {s:Shared} (I:Inv X pins σ H s):∃ cl,closureFor scope X.env=pure cl /\
 (∀ x c,cl.lookup x=some c->(x,NameKind.free)∈scope.names/\X.env.cells.lookup x=some c)/\∀ x,(x,NameKind.free)∈scope.names->∃ c,cl.lookup x=some c :=
 Yg (scope:=scope) (env:=X.env) λy hy e=>I.ok.has y.1 (ok.free y hy e)
theorem Wi (hc:X.calm=true) (ok:pW X scope N' src) (hi:PI X tg iter wi) (hY:∀ Y,mV X scope N' Y->PG Y tg g/\vN Y ifs tt/\PE Y elt te)
 (hs:∀ x,foldedSetIterable iter X.env x=pure x):PE X (.ListComp elt [⟨tg,iter,ifs,0⟩] scope pos) (tLc wi g tt te src):=by
 intro pins s σ H Q I h
 obtain ⟨cl,hclos,h1,h2⟩:=QF ok I
 rw [eval_ListComp]
 refine wpAny_comprehension_free (use:=none) rfl hs hclos ok.kind (λy hy e=>by rw [ok.uniq y hy,e]) ?_
 refine bL (hi pins s σ H _ I h) λv s1 q1=>bL q1 λitv s2 q2=>?_
 obtain ⟨it,fp,tn,J,H2,e,I2,T,st2,f2,W,w0,turn⟩:=q2
 subst e
 refine RZ (RR:=λacc C=>compPost (model X.prog X.w) X.A X.xe none (EP X pins σ Q) acc C) hc ok I2 T st2 f2 h1 h2 hY w0 turn ?_
 intro ys H' s' oC m nD hoC I3 fin
 obtain ⟨heC,nC,sJ,nfC,dC⟩:=I3.pin (s2.heap.objs.size+1,oC) (List.mem_append_right _ (List.mem_append_right _ (by simp)))
 refine ⟨m,hoC.ns heC,λh'' sb=>⟨.ref s2.heap.objs.size,_,?_,rfl,fin _ nD⟩⟩
 have I4:Inv X pins σ (upd H' s2.heap.objs.size (.lst ys)) s':=I3.unpinned
 have fo:=I2.fpOk (b:=s2.heap.objs.size+1) (H':=upd H' s2.heap.objs.size (.lst ys)) (Nat.le_succ _) nC
 exact I4.turned (t':=s'.toks) (λb o hb e=>sb.extBut b o hb e) nC fo.2.1 fo.2.2.2.1 fo.2.2.2.2.1 fo.2.2.2.2.2
def Lr (wi:TI) (g:TG) (tt:TT) (te:TE) (src:List (Option Nat)) (i:Nat):TS:=λD σ H=>wi σ H λJ H1=>∃ W,(∃ m,W 0 m [] (lC src σ) H1) /\
 Gb J g tt te (λys H'=>∀ p,H' p=none->D.nx (σ.set i (some (.ref p))) (upd H' p (.lst ys))) W
theorem zll {y:Str} {py spos:Pos} {i:Nat} (hN:X.N.Nodup) (MT:X.N[i]?=some y) (hy:X.env.kindOf y=some .local)
 (hsw:swapsWith (.ListComp elt [⟨tg,iter,ifs,0⟩] scope pos) (some (.Name y py)) spos.line X.env=pure true)
 (hc:X.calm=true) (ok:pW X scope N' src) (hi:PI X tg iter wi) (hY:∀ Y,mV X scope N' Y->PG Y tg g/\vN Y ifs tt/\PE Y elt te)
 (hs:∀ x,foldedSetIterable iter X.env x=pure x):PS X (.Assign [.Name y py] (.ListComp elt [⟨tg,iter,ifs,0⟩] scope pos) spos) (Lr wi g tt te src i):=by
 intro pins s σ H D I h
 obtain ⟨cl,hclos,h1,h2⟩:=QF ok I
 rw [exec_Assign_Name_used _ _ _ _ hsw]
 refine aN (wpAny_standAt (aN ?_))
 show wpAny _ _ (do let _ <-comprehension (.ListComp elt [⟨tg,iter,ifs,0⟩] scope pos) scope X.env _ (newList []) false (eval iter X.env) (some (assign (.Name y py) X.env))) _ _ s
 refine aN (jm (wpAny_comprehension_free (use:=some (assign (.Name y py) X.env)) (Q:=λ_ s'=>SP X pins D .next s') rfl hs hclos ok.kind (λy hy e=>by rw [ok.uniq y hy,e])
  ?_) (λ_ s' hq=>bW (bW hq)) λ_ _ e=>e)
 refine bL (hi pins s σ H _ I h) λv s1 q1=>bL q1 λitv s2 q2=>?_
 obtain ⟨it,fp,tn,J,H2,e,I2,T,st2,f2,W,w0,turn⟩:=q2
 subst e
 refine RZ (RR:=λacc C=>compPost (model X.prog X.w) X.A X.xe (some (assign (.Name y py) X.env)) (λ_ s'=>SP X pins D .next s') acc C) hc ok I2 T st2 f2 h1 h2 hY w0 turn ?_
 intro ys H' s' oC m nD hoC I3 fin
 show wpAny _ _ (assign (.Name y py) X.env (.ref s2.heap.objs.size)) _ _ s'
 refine wpAny_assign_Name (Jb I3 hN MT (.inl hy) (v := .ref s2.heap.objs.size) rfl (λs3 I4=>?_) (.inr hy))
 obtain ⟨heC,nC,sJ,nfC,dC⟩:=I4.pin (s2.heap.objs.size+1,oC) (List.mem_append_right _ (List.mem_append_right _ (by simp)))
 refine ⟨m,hoC.ns heC,λh'' sb=>⟨_,_,?_,fin _ nD⟩⟩
 have I5:Inv X pins _ (upd H' s2.heap.objs.size (.lst ys)) s3:=I4.unpinned
 have fo:=I2.fpOk (b:=s2.heap.objs.size+1) (H':=upd H' s2.heap.objs.size (.lst ys)) (Nat.le_succ _) nC
 exact I5.turned (t':=s3.toks) (λb o hb e=>sb.extBut b o hb e) nC fo.2.1 fo.2.2.2.1 fo.2.2.2.2.1 fo.2.2.2.2.2
end
end MX
end
section
namespace MX
open PySem PySem.Spec PyProof.Rows L2
abbrev TF:=Sg->So->Option (Bool×So)
abbrev AF:=Sg->So->Option (List D×So)
inductive Fl where
 | nx | bk | ct | rt (d:D)
abbrev SF:=Sg->So->Option (Fl×Sg×So)
abbrev GF:=D->Sg->So->Option (Sg×So)
def Kb (K:PySem.W.Frag) (H:Hp) (α:List Addr) (S':So) (Q:Hp->Prop):Prop:=∀ H' α',au K H' α' S'->Ext K H α H' α'->Q H'
def zQ (K:PySem.W.Frag) (f:TF):TT:=λσ H Q=>∃ σd S α b S',bF K H α σd σ/\au K H α S/\f σd S=some (b,S')/\Kb K H α S' (Q b)
def ST (X:Cx) (e:Expr) (f:TF):Prop:=PT X e (zQ X.K f)
def SW (X:Cx) (e:Expr) (f:TF):Prop:=PW X e (zQ X.K f)
def UJ (K:PySem.W.Frag) (f:AF):TA:=λσ H Q=>∃ σd S α ds S',bF K H α σd σ/\au K H α S/\f σd S=some (ds,S')/\∀ vs H' α',au K H' α' S'->Ext K H α H' α'->aF K H' α' ds vs->Q vs H'
def SA (X:Cx) (es:List Expr) (f:AF):Prop:=PA X es (UJ X.K f)
def Ks (K:PySem.W.Frag) (H:Hp) (α:List Addr) (fl:Fl) (σd':Sg) (S':So) (D:tQ):Prop :=
 ∀ σ' H' α',bF K H' α' σd' σ'->au K H' α' S'->Ext K H α H' α'->match fl with
  | .nx=>D.nx σ' H'
  | .bk=>D.bk σ' H'
  | .ct=>D.ct σ' H'
  | .rt d=>∀ v,Rep K H' α' d v->D.rt v H'
def zR (K:PySem.W.Frag) (f:SF):TS:=λD σ H=>∃ σd S α fl σd' S',bF K H α σd σ/\au K H α S/\f σd S=some (fl,σd',S')/\Ks K H α fl σd' S' D
def SS (X:Cx) (st:Stmt) (f:SF):Prop:=PS X st (zR X.K f)
def tK (X:Cx) (sts:List Stmt) (f:SF):Prop:=jl X sts (zR X.K f)
def Mh (K:PySem.W.Frag) (f:GF):TG:=λv σ H Q=>∃ σd S α d σd' S',bF K H α σd σ/\au K H α S/\Rep K H α d v/\f d σd S=some (σd',S') /\
 ∀ σ' H' α',bF K H' α' σd' σ'->au K H' α' S'->Ext K H α H' α'->Q σ' H'
def SG (X:Cx) (tg:Expr) (f:GF):Prop:=PG X tg (Mh X.K f)
theorem PT.imp {X:Cx} {e:Expr} {t t':TT} (h:PT X e t) (k:∀ σ H Q,t' σ H Q->t σ H Q):PT X e t':=λpins s σ H Q I q=>h pins s σ H Q I (k σ H Q q)
theorem PW.imp {X:Cx} {e:Expr} {t t':TT} (h:PW X e t) (k:∀ σ H Q,t' σ H Q->t σ H Q):PW X e t':=λwh pins s σ H Q I q=>h wh pins s σ H Q I (k σ H Q q)
theorem PA.imp {X:Cx} {e:List Expr} {t t':TA} (h:PA X e t) (k:∀ σ H Q,t' σ H Q->t σ H Q):PA X e t':=λpos pins s σ H Q I q=>h pos pins s σ H Q I (k σ H Q q)
theorem PS.imp {X:Cx} {e:Stmt} {t t':TS} (h:PS X e t) (k:∀ D σ H,t' D σ H->t D σ H):PS X e t':=λpins s σ H D I q=>h pins s σ H D I (k D σ H q)
theorem jl.imp {X:Cx} {e:List Stmt} {t t':TS} (h:jl X e t) (k:∀ D σ H,t' D σ H->t D σ H):jl X e t':=λpins s σ H D I q=>h pins s σ H D I (k D σ H q)
theorem PG.imp {X:Cx} {e:Expr} {t t':TG} (h:PG X e t) (k:∀ v σ H Q,t' v σ H Q->t v σ H Q):PG X e t':=λpins s σ H v u Q I r q=>h pins s σ H v u Q I r (k v σ H Q q)
theorem PI.imp {X:Cx} {tg e:Expr} {t t':TI} (h:PI X tg e t) (k:∀ σ H Q,t' σ H Q->t σ H Q):PI X tg e t':=λpins s σ H Q I q=>h pins s σ H Q I (k σ H Q q)
def aj (i:Nat):EF:=λσ S=>match σ[i]? with
 | some (some d)=>some (d,S)
 | _=>none
def eC (d:D):EF:=λ_ S=>some (d,S)
def eB (g:G2) (fa fb:EF):EF:=λσ S=>(fa σ S).bind λr=>(fb σ r.2).bind λq=>g r.1 q.1 q.2
def eU (g:D->So->Option (D×So)) (fa:EF):EF:=λσ S=>(fa σ S).bind λr=>g r.1 r.2
def aq:AF:=λ_ S=>some ([],S)
def ak (fa:EF) (fr:AF):AF:=λσ S=>(fa σ S).bind λr=>(fr σ r.2).bind λq=>some (r.1::q.1,q.2)
def eN (g:GN) (fa:AF):EF:=λσ S=>(fa σ S).bind λr=>g r.1 r.2
def pA (t:TF) (fa fb:EF):EF:=λσ S=>(t σ S).bind λr=>if r.1=true then fa σ r.2 else fb σ r.2
def cu:GN:=λds S=>if ds.length<=sizeLine then some (.tup ds,S) else none
def jM:GN:=λds S=>if ds.length<=sizeLine then some (.ref S.length,S++[.lst ds]) else none
section
variable {X:Cx} {a b:Expr} {fa fb:EF} {pos:Pos}
theorem Yn {i:Nat} {x:Str} (hN:X.N[i]?=some x) (hv:FW X.env.scope x) (hd:(x==("__debug__" : Str))=false) (hcd:(x==("__classdict__" : Str))=false):SE X (.Name x pos) (aj i):=by
 refine PE.imp (Ws hN hv hd hcd) λσ H Q h=>?_
 obtain ⟨σd,S,α,z,S',hv,hs,hf,k⟩:=h
 unfold aj at hf
 split at hf
 ·rename_i d e
  cases hf
  obtain ⟨v,h1,h2⟩:=hv.2 i _ e
  exact ⟨v,h1,k.same hs h2⟩
 ·cases hf
theorem nH {e:Expr} {d:D} {v:V} (h:PE X e (tC v)) (r:∀ H α,Rep X.K H α d v):SE X e (eC d):=by
 refine PE.imp h λσ H Q h=>?_
 obtain ⟨σd,S,α,z,S',hv,hs,hf,k⟩:=h
 cases hf
 exact k.same hs (r _ _)
theorem YS {i:Int} {j}:SE X (.Constant (.int i) j pos) (eC (.int i)):=nH Wl λ_ _ => .int i
theorem Vq {i:Bool} {j}:SE X (.Constant (.bool i) j pos) (eC (.bl i)):=nH Wg λ_ _ => .bl i
theorem Y0 {j}:SE X (.Constant .none j pos) (eC .non):=nH Wn λ_ _ => .non
theorem Yl {x:Str} {j}:SE X (.Constant (.str x) j pos) (eC (.str x)):=nH Pa λ_ _ => .str x
theorem Fq {K:PySem.W.Frag} {g:G2} {σ:L2.St} {H:Hp} {Q:VK} (h:uN K (eB g fa fb) σ H Q):uN K fa σ H λx H1=>uN K fb σ H1 λy H2=>mL K g x y H2 Q:=by
 obtain ⟨σd,S,α,z,S',hv,hs,hf,k⟩:=h
 unfold eB at hf
 simp only [bA] at hf
 obtain ⟨⟨x,S1⟩,e1,⟨y,S2⟩,e2,e3⟩:=hf
 refine ⟨σd,S,α,x,S1,hv,hs,e1,λv H1 α1 s1 x1 r1=>⟨σd,S1,α1,y,S2,hv.mono x1,s1,e2,λu H2 α2 s2 x2 r2=>?_⟩⟩
 exact ⟨S2,α2,x,y,z,S',s2,r1.mono x2,r2,e3,k.trans (x1.trans x2)⟩
theorem Vu {op:Operator} (ha:SE X a fa) (hb:SE X b fb):SE X (.BinOp a op b pos) (eB (aH op) fa fb) :=
 PE.imp (Wj (Z6 op) ha hb) λ_ _ _ h=>Fq h
theorem WY {op:CmpOp} (hu:X.A.units+64<cLine) (h1:op ≠ .In) (h2:op ≠ .NotIn) (ha:SE X a fa) (hb:SE X b fb):SE X (.Compare a [op] [b] pos) (eB (bf op) fa fb) :=
 PE.imp (Zi (Qy hu op) ha hb (Od b h1 h2)) λ_ _ _ h=>Fq h
theorem Vs (hp:GJ b) (ha:SE X a fa) (hb:SE X b fb):SE X (.Subscript a b pos) (eB aM fa fb) :=
 PE.imp (Wh ixs ha hb hp) λ_ _ _ h=>Fq h
def oM:D->So->Option (D×So)
 | .int i,S=>some (.int (-i),S)
 | _,_=>none
theorem YZ (ha:SE X a fa):SE X (.UnaryOp .USub a pos) (eU oM fa):=by
 refine PE.imp (Vn X7 ha) λσ H Q h=>?_
 obtain ⟨σd,S,α,z,S',hv,hs,hf,k⟩:=h
 unfold eU at hf
 simp only [bA] at hf
 obtain ⟨⟨x,S1⟩,e1,e2⟩:=hf
 refine ⟨σd,S,α,x,S1,hv,hs,e1,λv H1 α1 s1 x1 r1=>?_⟩
 cases r1 with
 | int i=>cases e2;exact ⟨_,rfl,(k.trans x1).same s1 (.int _)⟩
 | _=>cases e2
theorem WW:SA X [] aq:=by
 refine PA.imp Xp λσ H Q h=>?_
 obtain ⟨σd,S,α,ds,S',hv,hs,hf,k⟩:=h
 cases hf
 exact k _ _ _ hs Ext.refl .nil
theorem zm3 {e:Expr} {es:List Expr} {fe:EF} {fr:AF} (ha:SE X e fe) (hr:SA X es fr) (hst:starEach (e::es) X.env=(false,eval e X.env)::starEach es X.env):SA X (e::es) (ak fe fr):=by
 refine PA.imp (Zf ha hr hst) λσ H Q h=>?_
 obtain ⟨σd,S,α,ds,S',hv,hs,hf,k⟩:=h
 unfold ak at hf
 simp only [bA] at hf
 obtain ⟨⟨x,S1⟩,e1,⟨ys,S2⟩,e2,e3⟩:=hf
 cases e3
 exact ⟨σd,S,α,x,S1,hv,hs,e1,λv H1 α1 s1 x1 r1=>⟨σd,S1,α1,ys,_,hv.mono x1,s1,e2,λvs H2 α2 s2 x2 r2=>k _ _ _ s2 (x1.trans x2) (.cons (r1.mono x2) r2)⟩⟩
theorem zT {K:PySem.W.Frag} {g:GN} {fa:AF} {σ:L2.St} {H:Hp} {Q:VK} (h:uN K (eN g fa) σ H Q):UJ K fa σ H λvs H1=>iW K g vs H1 Q:=by
 obtain ⟨σd,S,α,z,S',hv,hs,hf,k⟩:=h
 unfold eN at hf
 simp only [bA] at hf
 obtain ⟨⟨ds,S1⟩,e1,e2⟩:=hf
 exact ⟨σd,S,α,ds,S1,hv,hs,e1,λvs H1 α1 s1 x1 r1=>⟨S1,α1,ds,z,S',s1,r1,e2,k.trans x1⟩⟩
theorem Ym {es:List Expr} {fs:AF} {k0} (h:SA X es fs):SE X (.Tuple es k0 pos) (eN cu fs):=by
 refine PE.imp (Wr h) λσ H Q q=>?_
 obtain ⟨σd,S,α,ds,S1,hv,hs,e1,k⟩:=zT q
 refine ⟨σd,S,α,ds,S1,hv,hs,e1,λvs H1 α1 s1 x1 r1=>?_⟩
 obtain ⟨S2,α2,ds',z,S3,s2,r2,e2,k2⟩:=k vs H1 α1 s1 x1 r1
 unfold cu at e2
 split at e2
 ·rename_i hl
  cases e2
  refine ⟨by rw [<-r2.length];exact hl,λp hp=>?_⟩
  exact k2.new s2 (kJ hp) (.tup (dF.of eO) (r2.mono (Same.ext (kJ hp))))
 ·cases e2
theorem YT {es:List Expr} {fs:AF} (h:SA X es fs):SE X (.List es pos) (eN jM fs):=by
 refine PE.imp (Wm h) λσ H Q q=>?_
 obtain ⟨σd,S,α,ds,S1,hv,hs,e1,k⟩:=zT q
 refine ⟨σd,S,α,ds,S1,hv,hs,e1,λvs H1 α1 s1 x1 r1=>?_⟩
 obtain ⟨S2,α2,ds',z,S3,s2,r2,e2,k2⟩:=k vs H1 α1 s1 x1 r1
 unfold jM at e2
 split at e2
 ·rename_i hl
  cases e2
  refine ⟨by rw [<-r2.length];exact hl,λp hp=>?_⟩
  obtain ⟨s',e'⟩:=s2.snoc (p:=p) (o := .lst ds') (u := .lst vs) hp λα' e=>⟨_,eO,r2.mono e⟩
  exact k2 _ _ _ s' e' (.ref (by rw [<-s2.len];simp))
 ·cases e2
def qm:D->So->Option Bool
 | .non,_=>some false
 | .bl b,_=>some b
 | .int i,_=>some (i != 0)
 | .str x,_=>if x.length<=sizeLine then some ((x.length:Int) != 0) else none
 | .tup xs,_=>some (!xs.isEmpty)
 | .ref n,S=>match S[n]? with
  | some (.lst xs)=>some (!xs.isEmpty)
  | some (.frz xs)=>some (!xs.isEmpty)
  | _=>none
 | _,_=>none
theorem Jy {K:PySem.W.Frag} {H:Hp} {α:List Addr} {ds:List D} {vs:List V} (r:aF K H α ds vs):(!ds.isEmpty) = !vs.isEmpty:=by cases r<;>rfl
theorem zmu {K:PySem.W.Frag} {H:Hp} {α:List Addr} {S:So} {d:D} {v:V} {b:Bool} (hs:au K H α S) (r:Rep K H α d v) (e:qm d S=some b):vK K v H b:=by
 cases r with
 | non=>cases e;exact rfl
 | bl b=>cases e;exact rfl
 | int i=>cases e;exact rfl
 | str x =>
  have e':(if x.length<=sizeLine then some ((x.length:Int) != 0) else none)=some b:=e
  split at e'
  ·rename_i hl;cases e';exact ⟨hl,rfl⟩
  ·cases e'
 | tup h r=>cases e;exact .inr (.inl ⟨_,h,Jy r⟩)
 | @ref n a h =>
  simp only [qm] at e
  cases hm:S[n]? with
  | none=>simp [hm] at e
  | some o =>
   simp only [hm] at e
   have hob:=hs.obj _ _ _ hm h
   cases o with
   | lst xs =>
    cases e
    obtain ⟨vs,h1,r⟩:=hob
    exact .inl ⟨_,dh.of h1,Jy r⟩
   | frz xs =>
    cases e
    obtain ⟨vs,h1,r⟩:=hob
    exact .inl ⟨_,h1.sq,Jy r⟩
   | ins C fs=>cases e
   | dct xs=>cases e
   | tbl x=>cases e
 | ty n=>cases e
 | adr a=>cases e
 | obj _ _ _ _ _=>cases e
def jc (fa:EF):TF:=λσ S=>(fa σ S).bind λr=>(qm r.1 r.2).map λb=>(b,r.2)
theorem YJ (ha:SE X a fa) (he:∀ whole,isTrue a X.env whole=(do let v <-whole;standAt a.pos;holding [v] (truthy v))):ST X a (jc fa):=by
 refine PT.imp (zli ha he) λσ H Q h=>?_
 obtain ⟨σd,S,α,b,S',hv,hs,hf,k⟩:=h
 unfold jc at hf
 simp only [bA,aU] at hf
 obtain ⟨⟨x,S1⟩,e1,c,e2,e3⟩:=hf
 cases e3
 exact ⟨σd,S,α,x,S1,hv,hs,e1,λv H1 α1 s1 x1 r1=>⟨b,zmu s1 r1 e2,k _ _ s1 x1⟩⟩
def bN (fa:EF):TF:=λσ S=>(fa σ S).bind λr=>match r.1 with
 | .bl b=>some (b,r.2)
 | _=>none
theorem YG {op:CmpOp} (hu:X.A.units+64<cLine) (h1:op ≠ .In) (h2:op ≠ .NotIn) (ha:SE X a fa) (hb:SE X b fb):ST X (.Compare a [op] [b] pos) (bN (eB (bf op) fa fb)):=by
 refine PT.imp (zm9 (Qy hu op) ha hb (Od b h1 h2)) λσ H Q h=>?_
 obtain ⟨σd,S,α,c,S',hv,hs,hf,k⟩:=h
 unfold bN at hf
 simp only [bA] at hf
 obtain ⟨⟨z,S1⟩,e1,e2⟩:=hf
 cases z with
 | bl c' =>
  cases e2
  exact Fq ⟨σd,S,α,.bl c,_,hv,hs,e1,λv H1 α1 s1 x1 r1=>by cases r1;exact ⟨c,rfl,k _ _ s1 x1⟩⟩
 | _=>cases e2
def pR (t:TF):TF:=λσ S=>(t σ S).map λr=>(!r.1,r.2)
theorem YH {t:TF} (ha:ST X a t):ST X (.UnaryOp .Not a pos) (pR t):=by
 refine PT.imp (WL ha) λσ H Q h=>?_
 obtain ⟨σd,S,α,c,S',hv,hs,hf,k⟩:=h
 unfold pR at hf
 simp only [aU] at hf
 obtain ⟨⟨b,S1⟩,e1,e2⟩:=hf
 cases e2
 exact ⟨σd,S,α,b,S1,hv,hs,e1,k⟩
def wg (t u:TF):TF:=λσ S=>(t σ S).bind λr=>if r.1=true then u σ r.2 else some (false,r.2)
def jb (t u:TF):TF:=λσ S=>(t σ S).bind λr=>if r.1=true then some (true,r.2) else u σ r.2
theorem zmx {t:TF} (ha:ST X a t):SW X (.BoolOp .And [a] pos) t:=zm6 ha
theorem YL {t:TF} (ha:ST X a t):SW X (.BoolOp .Or [a] pos) t:=WQ ha
theorem YK {t u:TF} {rest:List Expr} (ha:ST X a t) (hb:SW X (.BoolOp .And (b::rest) pos) u):SW X (.BoolOp .And (a::b::rest) pos) (wg t u):=by
 refine PW.imp (WN ha hb) λσ H Q h=>?_
 obtain ⟨σd,S,α,c,S',hv,hs,hf,k⟩:=h
 unfold wg at hf
 simp only [bA] at hf
 obtain ⟨⟨b1,S1⟩,e1,e2⟩:=hf
 refine ⟨σd,S,α,b1,S1,hv,hs,e1,λH1 α1 s1 x1=>?_⟩
 cases b1 with
 | true =>
  rw [if_pos rfl];rw [if_pos rfl] at e2
  exact ⟨σd,S1,α1,c,S',hv.mono x1,s1,e2,λH2 α2 s2 x2=>k _ _ s2 (x1.trans x2)⟩
 | false =>
  rw [if_neg fQ];rw [if_neg fQ] at e2
  cases e2
  exact k _ _ s1 x1
theorem Vy {t u:TF} {rest:List Expr} (ha:ST X a t) (hb:SW X (.BoolOp .Or (b::rest) pos) u):SW X (.BoolOp .Or (a::b::rest) pos) (jb t u):=by
 refine PW.imp (Vp ha hb) λσ H Q h=>?_
 obtain ⟨σd,S,α,c,S',hv,hs,hf,k⟩:=h
 unfold jb at hf
 simp only [bA] at hf
 obtain ⟨⟨b1,S1⟩,e1,e2⟩:=hf
 refine ⟨σd,S,α,b1,S1,hv,hs,e1,λH1 α1 s1 x1=>?_⟩
 cases b1 with
 | true =>
  rw [if_pos rfl];rw [if_pos rfl] at e2
  cases e2
  exact k _ _ s1 x1
 | false =>
  rw [if_neg fQ];rw [if_neg fQ] at e2
  exact ⟨σd,S1,α1,c,S',hv.mono x1,s1,e2,λH2 α2 s2 x2=>k _ _ s2 (x1.trans x2)⟩
theorem Vr {c:Expr} {t:TF} (hc:ST X c t) (ha:SE X a fa) (hb:SE X b fb):SE X (.IfExp c a b pos) (pA t fa fb):=by
 refine PE.imp (zlt hc ha hb) λσ H Q h=>?_
 obtain ⟨σd,S,α,z,S',hv,hs,hf,k⟩:=h
 unfold pA at hf
 simp only [bA] at hf
 obtain ⟨⟨b1,S1⟩,e1,e2⟩:=hf
 refine ⟨σd,S,α,b1,S1,hv,hs,e1,λH1 α1 s1 x1=>?_⟩
 cases b1 with
 | true =>
  rw [if_pos rfl];rw [if_pos rfl] at e2
  exact ⟨σd,S1,α1,z,S',hv.mono x1,s1,e2,k.trans x1⟩
 | false =>
  rw [if_neg fQ];rw [if_neg fQ] at e2
  exact ⟨σd,S1,α1,z,S',hv.mono x1,s1,e2,k.trans x1⟩
def vq (fa:EF):EF:=λσ S=>(fa σ S).bind λr=>match r.1 with
 | .bl b=>some (.bl (!b),r.2)
 | _=>none
theorem Y4 (ha:SE X a fa):SE X (.UnaryOp .Not a pos) (vq fa):=by
 refine PE.imp (Wo ha) λσ H Q h=>?_
 obtain ⟨σd,S,α,z,S',hv,hs,hf,k⟩:=h
 unfold vq at hf
 simp only [bA] at hf
 obtain ⟨⟨x,S1⟩,e1,e2⟩:=hf
 refine ⟨σd,S,α,x,S1,hv,hs,e1,λv H1 α1 s1 x1 r1=>?_⟩
 cases r1 with
 | bl c=>cases e2;exact ⟨c,rfl,(k.trans x1).same s1 (.bl _)⟩
 | _=>cases e2
def oJ (fa fb:EF):EF:=λσ S=>(fa σ S).bind λr=>match r.1 with
 | .bl true=>fb σ r.2
 | .bl false=>some (.bl false,r.2)
 | _=>none
def xN (fa fb:EF):EF:=λσ S=>(fa σ S).bind λr=>match r.1 with
 | .bl true=>some (.bl true,r.2)
 | .bl false=>fb σ r.2
 | _=>none
theorem zlg {op} (ha:SE X a fa):SE X (.BoolOp op [a] pos) fa:=Wq ha
theorem WX {rest:List Expr} (ha:SE X a fa) (hb:SE X (.BoolOp .And (b::rest) pos) fb):SE X (.BoolOp .And (a::b::rest) pos) (oJ fa fb):=by
 refine PE.imp (Xq ha hb) λσ H Q h=>?_
 obtain ⟨σd,S,α,z,S',hv,hs,hf,k⟩:=h
 unfold oJ at hf
 simp only [bA] at hf
 obtain ⟨⟨x,S1⟩,e1,e2⟩:=hf
 refine ⟨σd,S,α,x,S1,hv,hs,e1,λv H1 α1 s1 x1 r1=>?_⟩
 cases r1 with
 | bl c =>
  refine ⟨c,rfl,?_⟩
  cases c with
  | true=>rw [if_pos rfl];exact ⟨σd,S1,α1,z,S',hv.mono x1,s1,e2,k.trans x1⟩
  | false=>rw [if_neg fQ];cases e2;exact (k.trans x1).same s1 (.bl _)
 | _=>cases e2
theorem Vv {rest:List Expr} (ha:SE X a fa) (hb:SE X (.BoolOp .Or (b::rest) pos) fb):SE X (.BoolOp .Or (a::b::rest) pos) (xN fa fb):=by
 refine PE.imp (Wk ha hb) λσ H Q h=>?_
 obtain ⟨σd,S,α,z,S',hv,hs,hf,k⟩:=h
 unfold xN at hf
 simp only [bA] at hf
 obtain ⟨⟨x,S1⟩,e1,e2⟩:=hf
 refine ⟨σd,S,α,x,S1,hv,hs,e1,λv H1 α1 s1 x1 r1=>?_⟩
 cases r1 with
 | bl c =>
  refine ⟨c,rfl,?_⟩
  cases c with
  | false=>rw [if_neg fQ];exact ⟨σd,S1,α1,z,S',hv.mono x1,s1,e2,k.trans x1⟩
  | true=>rw [if_pos rfl];cases e2;exact (k.trans x1).same s1 (.bl _)
 | _=>cases e2
end
def q8 (K:PySem.W.Frag) (n:Nat) (φ:GN):Sp:=λvs H Q _=>vs.length=n/\iW K φ vs H Q
def tM (X:Cx) (x:Str) (n:Nat) (φ:GN):Prop:=∃ f fd ps k,X.mg x=some (.ref f)/\PySem.W.keepIn X.K (.ref f)=true/\Binds X.K fd ps [] /\
 cN X.prog X.w X.K X.mg X.base gP k f fd ps (q8 X.K n φ)/\bG k X.A
section
variable {X:Cx} {x:Str} {p pos:Pos} {es:List Expr} {fs:AF}
def aO (n:Nat) (φ:GN):GN:=λds S=>if ds.length=n then φ ds S else none
theorem zm2 {e:Expr} {n:Nat} {φ:GN} (hg:Gl X x) (hF:tM X x n φ) (ha:SA X (e::es) fs) (hdb:(x==("__debug__" : Str))=false) (he:starEach (e::es) X.env=(false,eval e X.env)::starEach es X.env)
 (hpl:(backTo pos (starEach es X.env)).any (·.1)=false):SE X (.Call (.Name x p) (e::es) [] pos) (eN (aO n φ) fs):=by
 obtain ⟨f,fd,ps,k,hm,hk,hb,F,hr⟩:=hF
 refine PE.imp (Zh F hr hg hm hk hb .nil Ca ha hdb he hpl) λσ H Q h=>?_
 obtain ⟨σd,S,α,ds,S1,hv,hs,e1,k⟩:=zT h
 refine ⟨σd,S,α,ds,S1,hv,hs,e1,λvs H1 α1 s1 x1 r1=>?_⟩
 obtain ⟨S2,α2,ds',z,S3,s2,r2,e2,k2⟩:=k vs H1 α1 s1 x1 r1
 unfold aO at e2
 split at e2
 ·rename_i hl
  rw [List.append_nil]
  exact ⟨by rw [<-r2.length];exact hl,S2,α2,ds',z,S3,s2,r2,e2,k2⟩
 ·cases e2
theorem zlf {e:Expr} {id:String} {g:GN} (hc:gG X (.builtin id) (iW X.K g)) (hg:Gl X x) (hm:X.mg x=none) (hv:bootBuiltins x=some (.builtin id)) (ha:SA X (e::es) fs) (hn:x ≠ "__name__") (hdb:(x==("__debug__" : Str))=false)
 (he:starEach (e::es) X.env=(false,eval e X.env)::starEach es X.env) (hpl:(backTo pos (starEach es X.env)).any (·.1)=false):SE X (.Call (.Name x p) (e::es) [] pos) (eN g fs) :=
 PE.imp (zlu hc hg hm hv ha hn hdb he hpl) λ_ _ _ h=>zT h
theorem zle {e:Expr} {T:String} {g:GN} (hc:gG X (.type T) (iW X.K g)) (hg:Gl X x) (hm:X.mg x=none) (hv:bootBuiltins x=some (.type T)) (ha:SA X (e::es) fs) (hn:x ≠ "__name__") (hdb:(x==("__debug__" : Str))=false)
 (he:starEach (e::es) X.env=(false,eval e X.env)::starEach es X.env) (hpl:(backTo pos (starEach es X.env)).any (·.1)=false):SE X (.Call (.Name x p) (e::es) [] pos) (eN g fs) :=
 PE.imp (zjI hc hg hm hv ha hn hdb he hpl) λ_ _ _ h=>zT h
end
def aG (i:Nat):GF:=λd σ S=>some (σ.set i (some d),S)
abbrev mH:=List D->Sg->So->Option (Sg×So)
def jO:mH:=λds σ S=>match ds with
 | []=>some (σ,S)
 | _=>none
def dR (f:GF) (fr:mH):mH:=λds σ S=>match ds with
 | d::r=>(f d σ S).bind λq=>fr r q.1 q.2
 | []=>none
def jw (n:Nat) (fr:mH):GF:=λd σ S=>match d with
 | .tup xs=>if xs.length=n then fr xs σ S else none
 | .ref m=>match S[m]? with
  | some (.lst xs)=>if xs.length=n then fr xs σ S else none
  | _=>none
 | _=>none
def Mg (K:PySem.W.Frag) (f:mH):pB:=λvs σ H Q=>∃ σd S α ds σd' S',bF K H α σd σ/\au K H α S/\aF K H α ds vs/\f ds σd S=some (σd',S') /\
 ∀ σ' H' α',bF K H' α' σd' σ'->au K H' α' S'->Ext K H α H' α'->Q σ' H'
def Bo (X:Cx) (zf:List Expr) (f:mH):Prop:=xO X zf (Mg X.K f)
section
variable {X:Cx} {pos:Pos}
theorem zmU {i:Nat} {x:Str} (hN:X.N.Nodup) (hi:X.N[i]?=some x) (hx:Loc X.env.scope x) (hf:X.fn x=true\/X.env.scope.names.lookup x=some .local):SG X (.Name x pos) (aG i):=by
 refine PG.imp (Zm hN hi hx hf) λv σ H Q h=>?_
 obtain ⟨σd,S,α,d,σd',S',hv,hs,r,hf,k⟩:=h
 cases hf
 exact k _ _ _ (hv.set r i) hs Ext.refl
theorem zmT:Bo X [] jO:=by
 refine λpins s σ H vs us Q I r0 h=>Zo pins s σ H vs us Q I r0 ?_
 obtain ⟨σd,S,α,ds,σd',S',hv,hs,r,hf,k⟩:=h
 cases r with
 | nil=>cases hf;exact ⟨rfl,k _ _ _ hv hs Ext.refl⟩
 | cons _ _=>cases hf
theorem zlb {e:Expr} {es:List Expr} {f:GF} {fr:mH} (h1:SG X e f) (h2:Bo X es fr) (hs:(assignEach (e::es) X.env).map (·.2)=assign e X.env::(assignEach es X.env).map (·.2)):Bo X (e::es) (dR f fr):=by
 refine λpins s σ H vs us Q I r0 h=>zlq h1 h2 hs pins s σ H vs us Q I r0 ?_
 obtain ⟨σd,S,α,ds,σd',S',hv,hs,r,hf,k⟩:=h
 cases r with
 | nil=>cases hf
 | cons r rr =>
  unfold dR at hf
  simp only [bA] at hf
  obtain ⟨⟨σ1,S1⟩,e1,e2⟩:=hf
  exact ⟨_,_,rfl,σd,S,α,_,σ1,S1,hv,hs,r,e1,λσ' H' α' v' s' x'=>⟨σ1,S1,α',_,σd',S',v',s',rr.mono x',e2,λσ2 H2 α2 v2 s2 x2=>k _ _ _ v2 s2 (x'.trans x2)⟩⟩
theorem Yo {es:List Expr} {k0:Nat} {f:mH} {n:Nat} (hc:X.calm=true) (h:Bo X es f) (hn:(assignEach es X.env).length=n) (hst:(assignEach es X.env).findIdx? (·.1)=none):SG X (.Tuple es k0 pos) (jw n f):=by
 refine PG.imp (PG.or (Wt hc h hn hst) (Zn hc h hn hst)) λv σ H Q h=>?_
 obtain ⟨σd,S,α,d,σd',S',hv,hs,r,hf,k⟩:=h
 unfold jw at hf
 cases r with
 | tup h r =>
  simp only at hf
  split at hf
  ·rename_i hl
   exact .inl ⟨_,_,rfl,h,by rw [<-r.length];exact hl,σd,S,α,_,σd',S',hv,hs,r,hf,k⟩
  ·cases hf
 | ref ha =>
  simp only at hf
  split at hf
  ·rename_i xs em
   split at hf
   ·rename_i hl
    obtain ⟨vs,h1,r⟩:=hs.obj _ _ _ em ha
    exact .inr ⟨_,vs,rfl,dh.of h1,by rw [<-r.length];exact hl,σd,S,α,xs,σd',S',hv,hs,r,hf,k⟩
   ·cases hf
  ·cases hf
 | _=>cases hf
end
def aP:SF:=λσ S=>some (.nx,σ,S)
def aB (f g:SF):SF:=λσ S=>(f σ S).bind λr=>match r.1 with
 | .nx=>g r.2.1 r.2.2
 | fl=>some (fl,r.2.1,r.2.2)
def aX (fe:EF) (fg:GF):SF:=λσ S=>(fe σ S).bind λr=>(fg r.1 σ r.2).map λq=>(.nx,q.1,q.2)
def mX (fe:EF):SF:=λσ S=>(fe σ S).map λr=>(.nx,σ,r.2)
def bH (fe:EF):SF:=λσ S=>(fe σ S).map λr=>(.rt r.1,σ,r.2)
def sG:SF:=λσ S=>some (.rt .non,σ,S)
def zM:SF:=λσ S=>some (.bk,σ,S)
def nJ:SF:=λσ S=>some (.ct,σ,S)
def dg (t:TF) (f g:SF):SF:=λσ S=>(t σ S).bind λr=>if r.1=true then f σ r.2 else g σ r.2
section
variable {X:Cx} {st:Stmt} {rest:List Stmt} {f g:SF} {e:Expr} {fe:EF} {pos:Pos}
theorem YD:tK X [] aP:=by
 refine jl.imp Zx λD σ H h=>?_
 obtain ⟨σd,S,α,fl,σd',S',hv,hs,hf,k⟩:=h
 cases hf
 exact k _ _ _ hv hs Ext.refl
theorem Ks.trans {K:PySem.W.Frag} {H H1:Hp} {α α1:List Addr} {fl:Fl} {σd':Sg} {S':So} {D:tQ} (k:Ks K H α fl σd' S' D) (e:Ext K H α H1 α1):Ks K H1 α1 fl σd' S' D:=λσ' H' α' v s x=>k σ' H' α' v s (e.trans x)
theorem zmF (h1:SS X st f) (h2:tK X rest g):tK X (st::rest) (aB f g):=by
 refine jl.imp (zlj h1 h2) λD σ H h=>?_
 obtain ⟨σd,S,α,fl,σd',S',hv,hs,hf,k⟩:=h
 unfold aB at hf
 simp only [bA] at hf
 obtain ⟨⟨Vd,σ1,S1⟩,e1,e2⟩:=hf
 refine ⟨σd,S,α,Vd,σ1,S1,hv,hs,e1,λσ' H' α' v' s' x'=>?_⟩
 cases Vd with
 | nx=>exact ⟨σ1,S1,α',fl,σd',S',v',s',e2,k.trans x'⟩
 | bk=>cases e2;exact k σ' H' α' v' s' x'
 | ct=>cases e2;exact k σ' H' α' v' s' x'
 | rt d=>cases e2;exact k σ' H' α' v' s' x'
theorem zmD:SS X (.Pass pos) aP:=by
 refine PS.imp Zv λD σ H h=>?_
 obtain ⟨σd,S,α,fl,σd',S',hv,hs,hf,k⟩:=h
 cases hf
 exact k _ _ _ hv hs Ext.refl
theorem Yz {x j pos'}:SS X (.Expr (.Constant (.str x) j pos) pos') aP:=by
 refine PS.imp Wx λD σ H h=>?_
 obtain ⟨σd,S,α,fl,σd',S',hv,hs,hf,k⟩:=h
 cases hf
 exact k _ _ _ hv hs Ext.refl
theorem Yx:SS X (.Break pos) zM:=by
 refine PS.imp zlm λD σ H h=>?_
 obtain ⟨σd,S,α,fl,σd',S',hv,hs,hf,k⟩:=h
 cases hf
 exact k _ _ _ hv hs Ext.refl
theorem Yy:SS X (.Continue pos) nJ:=by
 refine PS.imp zhk λD σ H h=>?_
 obtain ⟨σd,S,α,fl,σd',S',hv,hs,hf,k⟩:=h
 cases hf
 exact k _ _ _ hv hs Ext.refl
theorem zmE (he:SE X e fe) (hsw:swapsWith e none pos.line X.env=pure false):SS X (.Expr e pos) (mX fe):=by
 refine PS.imp (Zu he hsw) λD σ H h=>?_
 obtain ⟨σd,S,α,fl,σd',S',hv,hs,hf,k⟩:=h
 unfold mX at hf
 simp only [aU] at hf
 obtain ⟨⟨d,S1⟩,e1,e2⟩:=hf
 cases e2
 exact ⟨σd,S,α,d,S1,hv,hs,e1,λv H' α' s' x' r'=>k _ _ _ (hv.mono x') s' x'⟩
theorem YF (he:SE X e fe):SS X (.Return (some e) pos) (bH fe):=by
 refine PS.imp (WD he) λD σ H h=>?_
 obtain ⟨σd,S,α,fl,σd',S',hv,hs,hf,k⟩:=h
 unfold bH at hf
 simp only [aU] at hf
 obtain ⟨⟨d,S1⟩,e1,e2⟩:=hf
 cases e2
 exact ⟨σd,S,α,d,S1,hv,hs,e1,λv H' α' s' x' r'=>k _ _ _ (hv.mono x') s' x' v r'⟩
theorem zmC:SS X (.Return none pos) sG:=by
 refine PS.imp Zw λD σ H h=>?_
 obtain ⟨σd,S,α,fl,σd',S',hv,hs,hf,k⟩:=h
 cases hf
 exact k _ _ _ hv hs Ext.refl _ .non
theorem Hj {tg:Expr} {fg:GF} (he:SE X e fe) (hg:SG X tg fg) (h1:swapsWithSole [tg] e pos.line X.env=pure false) (h2:swappedStores [tg] e X.env=pure none)
 (h3:(assignEach [tg] X.env).map (·.2)=[assign tg X.env]):SS X (.Assign [tg] e pos) (aX fe fg):=by
 refine PS.imp (Ww he hg h1 h2 h3) λD σ H h=>?_
 obtain ⟨σd,S,α,fl,σd',S',hv,hs,hf,k⟩:=h
 unfold aX at hf
 simp only [bA,aU] at hf
 obtain ⟨⟨d,S1⟩,e1,⟨σ1,S2⟩,e2,e3⟩:=hf
 cases e3
 exact ⟨σd,S,α,d,S1,hv,hs,e1,λv H' α' s' x' r'=>⟨σd,S1,α',d,_,_,hv.mono x',s',r',e2,λσ2 H2 α2 v2 s2 x2=>k _ _ _ v2 s2 (x'.trans x2)⟩⟩
theorem Px {i:Nat} {x:Str} {pos':Pos} (hN:X.N.Nodup) (hi:X.N[i]?=some x) (hx:Loc X.env.scope x) (he:SE X e fe) (hsw:swapsWith e (some (.Name x pos')) pos.line X.env=pure false) (hfn:X.fn x=true\/X.env.scope.names.lookup x=some .local) :
 SS X (.Assign [.Name x pos'] e pos) (aX fe (aG i)):=by
 refine PS.imp (WK hN hi hx he hsw hfn) λD σ H h=>?_
 obtain ⟨σd,S,α,fl,σd',S',hv,hs,hf,k⟩:=h
 unfold aX at hf
 simp only [bA,aU] at hf
 obtain ⟨⟨d,S1⟩,e1,⟨σ1,S2⟩,e2,e3⟩:=hf
 cases e3;cases e2
 exact ⟨σd,S,α,d,S1,hv,hs,e1,λv H' α' s' x' r'=>k _ _ _ ((hv.mono x').set r' i) s' x'⟩
theorem Vx {c:Expr} {a b:List Stmt} {t:TF} (hc:ST X c t) (ha:tK X a f) (hb:tK X b g):SS X (.If c a b pos) (dg t f g):=by
 refine PS.imp (Vo hc ha hb) λD σ H h=>?_
 obtain ⟨σd,S,α,fl,σd',S',hv,hs,hf,k⟩:=h
 unfold dg at hf
 simp only [bA] at hf
 obtain ⟨⟨b1,S1⟩,e1,e2⟩:=hf
 refine ⟨σd,S,α,b1,S1,hv,hs,e1,λH1 α1 s1 x1=>?_⟩
 cases b1 with
 | true =>
  rw [if_pos rfl];rw [if_pos rfl] at e2
  exact ⟨σd,S1,α1,fl,σd',S',hv.mono x1,s1,e2,k.trans x1⟩
 | false =>
  rw [if_neg fQ];rw [if_neg fQ] at e2
  exact ⟨σd,S1,α1,fl,σd',S',hv.mono x1,s1,e2,k.trans x1⟩
end
def jG (t:TF) (f:SF):Nat->SF
 | 0=>λ_ _=>none
 | n+1=>λσ S=>(t σ S).bind λr=>if r.1=true then (f σ r.2).bind λq=>match q.1 with
  | .nx=>jG t f n q.2.1 q.2.2
  | .ct=>jG t f n q.2.1 q.2.2
  | .bk=>some (.nx,q.2.1,q.2.2)
  | .rt d=>some (.rt d,q.2.1,q.2.2)
  else some (.nx,σ,r.2)
theorem Jd {t:TF} {f:SF}:∀ {n:Nat} {σ:Sg} {S:So} {r:Fl×Sg×So},jG t f n σ S=some r->jG t f (n+1) σ S=some r
 | 0,_,_,_,h=>by cases h
 | n+1,σ,S,r,h=>by
  unfold jG at h ⊢
  simp only [bA] at h ⊢
  obtain ⟨q,e1,e2⟩:=h
  refine ⟨q,e1,?_⟩
  by_cases hb:q.1=true
  ·rw [if_pos hb] at e2 ⊢
   simp only [bA] at e2 ⊢
   obtain ⟨q2,e3,e4⟩:=e2
   refine ⟨q2,e3,?_⟩
   obtain ⟨fl,σ1,S1⟩:=q2
   cases fl with
   | nx=>exact Jd e4
   | ct=>exact Jd e4
   | bk=>exact e4
   | rt d=>exact e4
  ·rw [if_neg hb] at e2 ⊢
   exact e2
theorem Rj {t:TF} {f:SF} {n m:Nat} {σ:Sg} {S:So} {r:Fl×Sg×So} (h:jG t f n σ S=some r) (hm:n<=m):jG t f m σ S=some r:=by
 obtain ⟨k,rfl⟩:=Nat.exists_eq_add_of_le hm
 clear hm
 induction k with
 | zero=>exact h
 | succ k ih=>exact Jd ih
open Classical in
def jT (t:TF) (f:SF):SF:=λσ S=>if h:∃ n r,jG t f n σ S=some r then some (Classical.choose (Classical.choose_spec h)) else none
theorem Pg {t:TF} {f:SF} {n:Nat} {σ:Sg} {S:So} {r:Fl×Sg×So} (h:jG t f n σ S=some r):jT t f σ S=some r:=by
 have hx:∃ n r,jG t f n σ S=some r:=⟨n,r,h⟩
 unfold jT
 rw [dif_pos hx]
 have e:=Classical.choose_spec (Classical.choose_spec hx)
 have e1:=Rj e (Nat.le_max_left _ n)
 have e2:=Rj h (Nat.le_max_right (Classical.choose hx) n)
 rw [e1] at e2
 exact e2
theorem O7 {t:TF} {f:SF} {σ:Sg} {S:So} {r:Fl×Sg×So} (h:jT t f σ S=some r):∃ n,jG t f n σ S=some r:=by
 unfold jT at h
 split at h
 ·rename_i hx
  cases h
  exact ⟨_,Classical.choose_spec (Classical.choose_spec hx)⟩
 ·cases h
theorem Rb {t:TF} {f:SF} {σ σ1 σ2:Sg} {S S1 S2:So} {fl:Fl} {r:Fl×Sg×So} (h1:t σ S=some (true,S1)) (h2:f σ S1=some (fl,σ2,S2)) (hf:fl = .nx\/fl = .ct) (h3:jT t f σ2 S2=some r):jT t f σ S=some r:=by
 obtain ⟨n,e⟩:=O7 h3
 refine Pg (n:=n+1) ?_
 unfold jG
 rw [h1]
 simp only [cg,if_true]
 rw [h2]
 rcases hf with rfl | rfl<;>exact e
theorem HN {t:TF} {f:SF} {σ:Sg} {S S1:So} (h1:t σ S=some (false,S1)):jT t f σ S=some (.nx,σ,S1):=by
 refine Pg (n:=1) ?_
 unfold jG
 rw [h1]
 simp
section
variable {X:Cx} {pos:Pos}
theorem zkX {c:Expr} {body:List Stmt} {t:TF} {f:SF} (hp:PassesOwn (model X.prog X.w) X.A X.env X.xe) (hc:ST X c t) (hb:tK X body f):SS X (.While c body [] pos) (jT t f):=by
 refine PS.imp (zlk hp hc hb) λD σ H h=>?_
 obtain ⟨σd,S,α,fl,σd',S',hv,hs,hf,k⟩:=h
 obtain ⟨n,hn⟩:=O7 hf
 refine ⟨λm σ1 H1=>∃ σd1 S1 α1,bF X.K H1 α1 σd1 σ1/\au X.K H1 α1 S1/\Ext X.K H α H1 α1/\jG t f m σd1 S1=some (fl,σd',S'),⟨n,σd,S,α,hv,hs,Ext.refl,hn⟩,?_⟩
 rintro m σ1 H1 ⟨σd1,S1,α1,v1,s1,x1,e⟩
 cases m with
 | zero=>cases e
 | succ m =>
  unfold jG at e
  simp only [bA] at e
  obtain ⟨⟨b,S2⟩,e1,e2⟩:=e
  refine ⟨σd1,S1,α1,b,S2,v1,s1,e1,λH2 α2 s2 x2=>?_⟩
  cases b with
  | false =>
   rw [if_neg fQ];rw [if_neg fQ] at e2
   cases e2
   exact k _ _ _ (v1.mono x2) s2 (x1.trans x2)
  | true =>
   rw [if_pos rfl];rw [if_pos rfl] at e2
   simp only [bA] at e2
   obtain ⟨⟨Np,σd3,S3⟩,e3,e4⟩:=e2
   refine ⟨λσ4 H4=>∃ σd4 S4 α4,bF X.K H4 α4 σd4 σ4/\au X.K H4 α4 S4/\Ext X.K H α H4 α4/\jG t f m σd4 S4=some (fl,σd',S'),λσ4 H4 q=>⟨m,Nat.lt_succ_self _,q⟩,?_⟩
   refine ⟨σd1,S2,α2,Np,σd3,S3,v1.mono x2,s2,e3,λσ4 H4 α4 v4 s4 x4=>?_⟩
   have xx:=(x1.trans x2).trans x4
   cases Np with
   | nx=>exact ⟨σd3,S3,α4,v4,s4,xx,e4⟩
   | ct=>exact ⟨σd3,S3,α4,v4,s4,xx,e4⟩
   | bk=>cases e4;exact k _ _ _ v4 s4 xx
   | rt d=>cases e4;exact k _ _ _ v4 s4 xx
end
end MX
end
section
namespace MX
open PySem PySem.Spec PyProof.Rows L2
inductive xR where
 | fix (xs:List D) | lst (n:Nat) | zip (ds:List D) | itm (n m:Nat) | enm (n:Nat)
def uL (S:So):D->Option (List D)
 | .tup xs=>some xs
 | .ref n=>match S[n]? with
  | some (.lst xs)=>some xs
  | some (.frz xs)=>some xs
  | _=>none
 | _=>none
def oW (S:So):List D->Option (List (List D))
 | []=>some []
 | d::r=>(uL S d).bind λxs=>(oW S r).map (xs::·)
def Oc:List (List D)->Option Nat
 | []=>none
 | [xs]=>some xs.length
 | xs::r=>(Oc r).map λn=>min xs.length n
def cO:xR->Nat->So->Option (Option D)
 | .fix xs,i,_=>some xs[i]?
 | .lst n,i,S=>match S[n]? with
  | some (.lst xs)=>some xs[i]?
  | some (.frz xs)=>some xs[i]?
  | _=>none
 | .zip ds,i,S=>(oW S ds).map λxss=>(MZ.rowAt xss i).map D.tup
 | .itm n m,i,S=>match S[n]? with
  | some (.dct xs)=>if xs.length=m then some ((xs[i]?).map λx => .tup [kD x.1,.int x.2]) else none
  | _=>none
 | .enm n,i,S=>match S[n]? with
  | some (.lst xs)=>some ((xs[i]?).map λx => .tup [.int (i:Nat),x])
  | _=>none
def pJ:xR->So->Option Nat
 | .fix xs,_=>some xs.length
 | .lst n,S=>match S[n]? with
  | some (.lst xs)=>some xs.length
  | some (.frz xs)=>some xs.length
  | _=>none
 | .zip ds,S=>(oW S ds).bind Oc
 | .itm n m,S=>match S[n]? with
  | some (.dct xs)=>if xs.length=m then some m else none
  | _=>none
 | .enm n,S=>match S[n]? with
  | some (.lst xs)=>some xs.length
  | _=>none
abbrev IF:=Sg->So->Option (xR×So)
def xQ (K:PySem.W.Frag) (H₀:Hp) (α₀:List Addr) (j:xR) (J:It):Prop:=∀ (i:Nat) H α S,Ext K H₀ α₀ H α->au K H α S ->
 (cO j i S=some none->J.stop i H)/\∀ d,cO j i S=some (some d)->J.go i H/\∀ x H',J.yld i H x H'->Same H H'/\Rep K H' α d x
def UG (K:PySem.W.Frag) (f:IF):TI:=λσ H R=>∃ σd S α j S',bF K H α σd σ/\au K H α S/\f σd S=some (j,S')/\∀ J H' α',au K H' α' S'->Ext K H α H' α'->xQ K H' α' j J->R J H'
def SI (X:Cx) (tg e:Expr) (f:IF):Prop:=PI X tg e (UG X.K f)
def dz (fe:EF):IF:=λσ S=>(fe σ S).bind λr=>match r.1 with
 | .tup xs=>some (.fix xs,r.2)
 | .ref n=>match r.2[n]? with
  | some (.lst _)=>some (.lst n,r.2)
  | some (.frz _)=>some (.lst n,r.2)
  | _=>none
 | _=>none
def cU (lo:Int) (n:Nat):List D:=(List.range n).map λk => .int (lo+(k:Nat))
def gn (fa:AF):IF:=λσ S=>(fa σ S).bind λr=>match r.1 with
 | [.int j]=>if -(2 ^ 62)<=j/\j<2 ^ 62 then some (.fix (cU 0 j.toNat),r.2) else none
 | _=>none
def u5 (fa:AF):IF:=λσ S=>(fa σ S).bind λr=>match r.1 with
 | [.int i,.int j]=>if (-(2 ^ 62)<=i/\i<2 ^ 62) /\ -(2 ^ 62)<=j/\j<2 ^ 62 then some (.fix (cU i (j - i).toNat),r.2) else none
 | _=>none
def pL (fa:AF):IF:=λσ S=>(fa σ S).bind λr=>if 2<=r.1.length/\r.1.length<=4 then (oW r.2 r.1).map λ_=>(.zip r.1,r.2) else none
inductive iC (K:PySem.W.Frag) (H:Hp) (α:List Addr):List D->List (Addr×Bool)->Prop
 | nil:iC K H α [] []
 | tup {a:Addr} {xs:List D} {vs:List V} {ds:List D} {l:List (Addr×Bool)}:dF K H a vs->aF K H α xs vs->iC K H α ds l->iC K H α (.tup xs::ds) ((a,true)::l)
 | ref {a:Addr} {n:Nat} {ds:List D} {l:List (Addr×Bool)}:α[n]?=some a->iC K H α ds l->iC K H α (.ref n::ds) ((a,false)::l)
inductive iJ (K:PySem.W.Frag) (H:Hp) (α:List Addr):List (List D)->List (List V)->Prop
 | nil:iJ K H α [] []
 | cons {xs:List D} {vs:List V} {r:List (List D)} {q:List (List V)}:aF K H α xs vs->iJ K H α r q->iJ K H α (xs::r) (vs::q)
theorem yJ {K:PySem.W.Frag} {H H1:Hp} {α α1:List Addr} {S1:So} (x1:Ext K H α H1 α1) (s1:au K H1 α1 S1):∀ {ds:List D} {l:List (Addr×Bool)} {xss:List (List D)},iC K H α ds l->oW S1 ds=some xss->∃ jR,MZ.SrcsR K H1 l jR/\iJ K H1 α1 xss jR
 | _,_,_,.nil,e=>by cases e;exact ⟨[],.nil,.nil⟩
 | _,_,_,.tup h r t,e=>by
  simp only [oW,uL,cg,aU] at e
  obtain ⟨Uq,e1,rfl⟩:=e
  obtain ⟨jR,h1,h2⟩:=yJ x1 s1 t e1
  exact ⟨_,.tup (x1.tups _ _ h) h1,.cons (r.mono x1) h2⟩
 | _,_,_,@iC.ref _ _ _ a n ds l h t,e=>by
  simp only [oW,bA,aU] at e
  obtain ⟨xs,e0,Uq,e1,rfl⟩:=e
  obtain ⟨jR,h1,h2⟩:=yJ x1 s1 t e1
  have ha:=x1.pre _ _ h
  simp only [uL] at e0
  split at e0
  ·rename_i q
   cases e0
   obtain ⟨vs,q1,q2⟩:=s1.obj _ _ _ q ha
   exact ⟨_,.lst (dh.of q1) h1,.cons q2 h2⟩
  ·rename_i q
   cases e0
   obtain ⟨vs,q1,q2⟩:=s1.obj _ _ _ q ha
   exact ⟨_,.lst q1.sq h1,.cons q2 h2⟩
  ·cases e0
theorem IK {K:PySem.W.Frag} {H:Hp} {α:List Addr} {i:Nat}:∀ {xss:List (List D)} {jR:List (List V)},iJ K H α xss jR->(MZ.rowAt xss i=none->MZ.rowAt jR i=none)/\∀ row,MZ.rowAt xss i=some row->∃ ql,MZ.rowAt jR i=some ql/\aF K H α row ql
 | _,_,.nil=>⟨λh=>(by cases h),λrow h=>(by cases h;exact ⟨[],rfl,.nil⟩)⟩
 | _,_,@iJ.cons _ _ _ xs vs r q h t=>by
  obtain ⟨i1,i2⟩:=IK (i:=i) t
  refine ⟨λe=>?_,λrow e=>?_⟩
  ·cases h1:xs[i]? with
   | none =>
    have:vs[i]?=none:=iK (by rw [<-h.length];exact List.getElem?_eq_none_iff.mp h1)
    simp [MZ.rowAt,this]
   | some x =>
    have e':MZ.rowAt r i=none:=by
     cases q2:MZ.rowAt r i with
     | none=>rfl
     | some z=>simp [MZ.rowAt,h1,q2] at e
    obtain ⟨v,hv,_⟩:=h.get h1
    simp [MZ.rowAt,hv,i1 e']
  ·simp only [MZ.rowAt,bA,aU] at e
   obtain ⟨x,e1,r',e2,rfl⟩:=e
   obtain ⟨v,hv,rv⟩:=h.get e1
   obtain ⟨vr,e3,r3⟩:=i2 r' e2
   exact ⟨v::vr,by simp [MZ.rowAt,hv,e3],.cons rv r3⟩
theorem ZL {K:PySem.W.Frag} {H:Hp} {α:List Addr} {ds:List D} {l:List (Addr×Bool)} (h:iC K H α ds l):xQ K H α (.zip ds) (MZ.Itz K l):=λi H1 α1 S1 x1 s1=>by
 simp only [cO,aU]
 refine ⟨λ⟨xss,e1,e2⟩=>?_,λd ⟨xss,e1,row,e2,e9⟩=>?_⟩
 ·obtain ⟨jR,h1,h2⟩:=yJ x1 s1 h e1
  exact ⟨jR,h1,(IK h2).1 (by simpa using e2)⟩
 ·subst e9
  obtain ⟨jR,h1,h2⟩:=yJ x1 s1 h e1
  obtain ⟨ql,e3,r3⟩:=(IK h2).2 row e2
  refine ⟨⟨jR,ql,h1,e3⟩,λx H' y=>?_⟩
  obtain ⟨p,row',rfl,hp,rfl,hy⟩:=y
  have:=hy jR h1
  rw [e3] at this;cases this
  exact ⟨kJ hp,.tup (dF.of eO) (r3.mono (Same.ext (kJ hp)))⟩
theorem Qm {K:PySem.W.Frag} {H:Hp} {α:List Addr} {S:So} (hs:au K H α S):∀ {ds:List D} {vs:List V} {xss:List (List D)},aF K H α ds vs->oW S ds=some xss->∃ l,iC K H α ds l/\vs=l.map λp=>V.ref p.1
 | _,_,_,.nil,_=>⟨[],.nil,rfl⟩
 | _,_,_,.cons r rr,e=>by
  simp only [oW,bA,aU] at e
  obtain ⟨xs,e0,Uq,e1,rfl⟩:=e
  obtain ⟨l,h1,h2⟩:=Qm hs rr e1
  cases r with
  | tup h q=>exact ⟨_,.tup h q h1,by rw [h2];rfl⟩
  | ref h=>exact ⟨_,.ref h h1,by rw [h2];rfl⟩
  | _=>cases e0
theorem IW {K:PySem.W.Frag} {H:Hp} {α:List Addr}:∀ {ds:List D} {l:List (Addr×Bool)},iC K H α ds l->ds.length=l.length
 | _,_,.nil=>rfl
 | _,_,.tup _ _ t=>by simp [IW t]
 | _,_,.ref _ t=>by simp [IW t]
section
variable {X:Cx} {tg:Expr}
theorem PI.or {e:Expr} {t t':TI} (h:PI X tg e t) (h':PI X tg e t'):PI X tg e (λσ H R=>t σ H R\/t' σ H R):=λpins s σ H R I q=>by
 rcases q with q | q
 ·exact h pins s σ H R I q
 ·exact h' pins s σ H R I q
theorem ZK {K:PySem.W.Frag} {H:Hp} {α:List Addr} {a:Addr} {ds:List D} {vs:List V} (h:dF K H a vs) (r:aF K H α ds vs):xQ K H α (.fix ds) (N5 K a):=λi H1 α1 S1 x1 s1=>by
 have h1:=x1.tups _ _ h
 have r1:=r.mono x1
 refine ⟨λe=>?_,λd e=>?_⟩
 ·have e':ds[i]?=none:=Option.some.inj e
  exact ⟨vs,h1,by rw [<-r.length];exact List.getElem?_eq_none_iff.mp e'⟩
 ·obtain ⟨v,e1,q⟩:=r1.get (Option.some.inj e)
  refine ⟨⟨vs,v,h1,e1⟩,λx H' y=>?_⟩
  obtain ⟨rfl,y⟩:=y
  have:=y vs h1
  rw [e1] at this;cases this
  exact ⟨Same.refl _,q⟩
theorem Qa {K:PySem.W.Frag} {H:Hp} {α:List Addr} {a:Addr} {n:Nat} (h:α[n]?=some a):xQ K H α (.lst n) (xP K a):=λi H1 α1 S1 x1 s1=>by
 have h1:=x1.pre _ _ h
 have core:∀ ds,(∃ vs,dh K H1 a vs/\aF K H1 α1 ds vs)->((some ds[i]?=some (none:Option D))->(xP K a).stop i H1)/\∀ d,some ds[i]?=some (some d)->(xP K a).go i H1/\∀ x H',(xP K a).yld i H1 x H'->Same H1 H'/\Rep K H' α1 d x:=λds ⟨vs,q,r⟩=>by
  refine ⟨λe=>?_,λd e=>?_⟩
  ·have e':ds[i]?=none:=Option.some.inj e
   exact ⟨vs,q,by rw [<-r.length];exact List.getElem?_eq_none_iff.mp e'⟩
  ·obtain ⟨v,e1,rv⟩:=r.get (Option.some.inj e)
   refine ⟨⟨vs,v,q,e1⟩,λx H' y=>?_⟩
   obtain ⟨rfl,y⟩:=y
   have:=y vs q
   rw [e1] at this;cases this
   exact ⟨Same.refl _,rv⟩
 unfold cO
 cases hm:S1[n]? with
 | none=>simp only [hm];exact ⟨λe=>(nomatch e),λd e=>(nomatch e)⟩
 | some o =>
  have hob:=s1.obj _ _ _ hm h1
  cases o with
  | lst ds=>simp only [hm];obtain ⟨vs,q,r⟩:=hob;exact core ds ⟨vs,dh.of q,r⟩
  | frz ds=>simp only [hm];obtain ⟨vs,q,r⟩:=hob;exact core ds ⟨vs,q.sq,r⟩
  | ins C fs=>simp only [hm];exact ⟨λe=>(nomatch e),λd e=>(nomatch e)⟩
  | dct xs=>simp only [hm];exact ⟨λe=>(nomatch e),λd e=>(nomatch e)⟩
  | tbl x=>simp only [hm];exact ⟨λe=>(nomatch e),λd e=>(nomatch e)⟩
theorem xj {lo:Int} {n i:Nat}:(cU lo n)[i]?=if i<n then some (.int (lo+(i:Nat))) else none:=by
 unfold cU
 rw [eV]
 by_cases h:i<n
 ·rw [if_pos h,List.getElem?_range h];rfl
 ·rw [if_neg h,iK (by simpa using h)];rfl
theorem R5 {K:PySem.W.Frag} {H:Hp} {α:List Addr} {lo:Int} {n:Nat}:xQ K H α (.fix (cU lo n)) (Bs lo n):=λi H1 α1 S1 x1 s1=>by
 simp only [cO]
 rw [xj]
 by_cases h:i<n
 ·rw [if_pos h]
  refine ⟨λe=>(nomatch e),λd e=>⟨h,λx H' y=>?_⟩⟩
  obtain ⟨rfl,rfl⟩:=y
  cases e
  exact ⟨Same.refl _,.int _⟩
 ·rw [if_neg h]
  exact ⟨λ_=>Nat.le_of_not_lt h,λd e=>(nomatch e)⟩
theorem Yq {e:Expr} {fe:EF} (he:SE X e fe):SI X tg e (dz fe):=by
 refine PI.imp (PI.or (Wu he) (Zq he)) λσ H R h=>?_
 obtain ⟨σd,S,α,j,S',hv,hs,hf,k⟩:=h
 unfold dz at hf
 simp only [bA] at hf
 obtain ⟨⟨d,S1⟩,e1,e2⟩:=hf
 cases d with
 | tup xs =>
  cases e2
  refine .inl ⟨σd,S,α,.tup xs,_,hv,hs,e1,λv H1 α1 s1 x1 r1=>?_⟩
  cases r1 with
  | tup h r=>exact ⟨_,rfl,⟨_,h⟩,k _ _ _ s1 x1 (ZK h r)⟩
 | ref n =>
  refine .inr ⟨σd,S,α,.ref n,S1,hv,hs,e1,λv H1 α1 s1 x1 r1=>?_⟩
  cases r1 with
  | ref h =>
   refine ⟨_,rfl,?_⟩
   simp only at e2
   cases hm:S1[n]? with
   | none=>simp [hm] at e2
   | some o =>
    have hob:=s1.obj _ _ _ hm h
    cases o with
    | lst ds=>simp only [hm] at e2;cases e2;obtain ⟨vs,q,r⟩:=hob;exact ⟨⟨vs,dh.of q⟩,k _ _ _ s1 x1 (Qa h)⟩
    | frz ds=>simp only [hm] at e2;cases e2;obtain ⟨vs,q,r⟩:=hob;exact ⟨⟨vs,q.sq⟩,k _ _ _ s1 x1 (Qa h)⟩
    | ins C fs=>simp [hm] at e2
    | dct xs=>simp [hm] at e2
    | tbl x=>simp [hm] at e2
 | _=>cases e2
theorem zjv {a:Expr} {fa:AF} {p pos:Pos} (hg:Gl X "range") (hm:X.mg "range" = none) (ha:SA X [a] fa) (hst:starEach [a] X.env=[(false,eval a X.env)]):SI X tg (.Call (.Name "range" p) [a] [] pos) (gn fa):=by
 refine PI.imp (zjH hg hm ha hst) λσ H R h=>?_
 obtain ⟨σd,S,α,j,S',hv,hs,hf,k⟩:=h
 unfold gn at hf
 simp only [bA] at hf
 obtain ⟨⟨ds,S1⟩,e1,e2⟩:=hf
 refine ⟨σd,S,α,ds,S1,hv,hs,e1,λvs H1 α1 s1 x1 r1=>?_⟩
 split at e2
 ·rename_i jj hj
  simp only at hj
  subst hj
  split at e2
  ·rename_i hb
   cases e2
   cases r1 with
   | cons r rr=>cases r;cases rr;exact ⟨jj,rfl,hb.1,hb.2,k _ _ _ s1 x1 R5⟩
  ·cases e2
 ·cases e2
theorem zju {a b:Expr} {fa:AF} {p pos:Pos} (hg:Gl X "range") (hm:X.mg "range" = none) (ha:SA X [a,b] fa) (hst:starEach [a,b] X.env=[(false,eval a X.env),(false,eval b X.env)]) (hst2:starEach [b] X.env=[(false,eval b X.env)]) :
 SI X tg (.Call (.Name "range" p) [a,b] [] pos) (u5 fa):=by
 refine PI.imp (zjG hg hm ha hst hst2) λσ H R h=>?_
 obtain ⟨σd,S,α,j,S',hv,hs,hf,k⟩:=h
 unfold u5 at hf
 simp only [bA] at hf
 obtain ⟨⟨ds,S1⟩,e1,e2⟩:=hf
 refine ⟨σd,S,α,ds,S1,hv,hs,e1,λvs H1 α1 s1 x1 r1=>?_⟩
 split at e2
 ·rename_i ii jj hj
  simp only at hj
  subst hj
  split at e2
  ·rename_i hb
   cases e2
   cases r1 with
   | cons r rr =>
    cases r
    cases rr with
    | cons r rr=>cases r;cases rr;exact ⟨ii,jj,rfl,⟨hb.1.1,hb.1.2,hb.2.1,hb.2.2⟩,k _ _ _ s1 x1 R5⟩
  ·cases e2
 ·cases e2
theorem Yr {e:Expr} {es ts:List Expr} {kk:Nat} {tp p pos:Pos} {fa:AF} (hg:Gl X "zip") (hm:X.mg "zip" = none) (ha:SA X (e::es) fa) (hst:starEach (e::es) X.env=(false,eval e X.env)::starEach es X.env)
 (hpl:(backTo pos (starEach es X.env)).any (·.1)=false):SI X (.Tuple ts kk tp) (.Call (.Name "zip" p) (e::es) [] pos) (pL fa):=by
 refine PI.imp (MZ.zpq hg hm ha hst hpl) λσ H R h=>?_
 obtain ⟨σd,S,α,j,S',hv,hs,hf,k⟩:=h
 unfold pL at hf
 simp only [bA] at hf
 obtain ⟨⟨ds,S1⟩,e1,e2⟩:=hf
 refine ⟨σd,S,α,ds,S1,hv,hs,e1,λvs H1 α1 s1 x1 r1=>?_⟩
 split at e2
 ·rename_i hb
  simp only [aU] at e2
  obtain ⟨xss,e3,e4⟩:=e2
  cases e4
  obtain ⟨l,h1,h2⟩:=Qm s1 r1 e3
  have hl:=IW h1
  obtain ⟨jR,h3,_⟩:=yJ Ext.refl s1 h1 e3
  exact ⟨l,h2,by rw [<-hl];exact hb.1,by rw [<-hl];exact hb.2,⟨jR,h3⟩,k _ _ _ s1 x1 (ZL h1)⟩
 ·cases e2
end
def iQ (nx:Nat->So->Option (Option D)) (g:GF) (f:SF):Nat->Nat->SF
 | 0,i=>λσ S=>match nx i S with
  | some none=>some (.nx,σ,S)
  | _=>none
 | k+1,i=>λσ S=>match nx i S with
  | some (some d)=>(g d σ S).bind λq=>(f q.1 q.2).bind λr=>match r.1 with
   | .nx=>iQ nx g f k (i+1) r.2.1 r.2.2
   | .ct=>iQ nx g f k (i+1) r.2.1 r.2.2
   | .bk=>some (.nx,r.2.1,r.2.2)
   | .rt d=>some (.rt d,r.2.1,r.2.2)
  | _=>none
def jX (fi:IF) (g:GF) (f:SF):SF:=λσ S=>(fi σ S).bind λr=>(pJ r.1 r.2).bind λn=>iQ (cO r.1) g f n 0 σ r.2
theorem YC {X:Cx} {tg iter:Expr} {body:List Stmt} {fi:IF} {g:GF} {f:SF} {pos:Pos} (hp:PassesOwn (model X.prog X.w) X.A X.env X.xe) (hc:X.calm=true) (hi:SI X tg iter fi) (hg:SG X tg g) (hb:tK X body f)
 (hfs:∀ x,foldedSetIterable iter X.env x=pure x):SS X (.For tg iter body [] pos) (jX fi g f):=by
 refine PS.imp (Wz hp hc hi hg hb hfs) λD σ H h=>?_
 obtain ⟨σd,S,α,fl,σd',S',hv,hs,hf,k⟩:=h
 unfold jX at hf
 simp only [bA] at hf
 obtain ⟨⟨j,S1⟩,e1,n,e2,e3⟩:=hf
 refine ⟨σd,S,α,j,S1,hv,hs,e1,λJ H1 α1 s1 x1 jr=>?_⟩
 refine ⟨λi m σ2 H2=>∃ σd2 S2 α2,bF X.K H2 α2 σd2 σ2/\au X.K H2 α2 S2/\Ext X.K H1 α1 H2 α2/\iQ (cO j) g f m i σd2 S2=some (fl,σd',S'),⟨n,σd,S1,α1,hv.mono x1,s1,Ext.refl,e3⟩,?_⟩
 rintro i m σ2 H2 ⟨σd2,S2,α2,v2,s2,x2,e⟩
 obtain ⟨nQ,MK⟩:=jr i H2 α2 S2 x2 s2
 cases m with
 | zero =>
  unfold iQ at e
  split at e
  ·rename_i hn
   cases e
   exact .inl ⟨nQ hn,k _ _ _ v2 s2 (x1.trans x2)⟩
  ·cases e
 | succ m =>
  unfold iQ at e
  split at e
  ·rename_i d hn
   obtain ⟨hgo,hy⟩:=MK d hn
   simp only [bA] at e
   obtain ⟨⟨σ3,S3⟩,e4,⟨Vc,σ4,S4⟩,e5,e6⟩:=e
   refine .inr ⟨hgo,λσ5 H5=>∃ σd5 S5 α5,bF X.K H5 α5 σd5 σ5/\au X.K H5 α5 S5/\Ext X.K H1 α1 H5 α5/\iQ (cO j) g f m (i+1) σd5 S5=some (fl,σd',S'),λσ5 H5 q=>⟨m,Nat.lt_succ_self _,q⟩,λx H3 y=>?_⟩
   obtain ⟨sm,rx⟩:=hy x H3 y
   have x3:Ext X.K H2 α2 H3 α2:=Same.ext sm
   refine ⟨σd2,S2,α2,d,σ3,S3,v2.mono x3,s2.mono sm,rx,e4,λσ5 H5 α5 v5 s5 x5=>?_⟩
   refine ⟨σ3,S3,α5,Vc,σ4,S4,v5,s5,e5,λσ6 H6 α6 v6 s6 x6=>?_⟩
   have xx:=((x2.trans x3).trans x5).trans x6
   cases Vc with
   | nx=>exact ⟨σ4,S4,α6,v6,s6,xx,e6⟩
   | ct=>exact ⟨σ4,S4,α6,v6,s6,xx,e6⟩
   | bk=>cases e6;exact k _ _ _ v6 s6 (x1.trans xx)
   | rt d=>cases e6;exact k _ _ _ v6 s6 (x1.trans xx)
  ·cases e
def mO (src:List (Option Nat)) (σ:Sg):Sg:=src.map λo=>o.bind λi=>(σ[i]?).join
theorem zk0 {K:PySem.W.Frag} {H:Hp} {α:List Addr} {σd:Sg} {σ:L2.St} {src:List (Option Nat)} (h:bF K H α σd σ):bF K H α (mO src σd) (lC src σ):=by
 refine ⟨by simp [mO,lC],λi d e=>?_⟩
 unfold mO at e
 rw [eV] at e
 cases q:src[i]? with
 | none=>rw [q] at e;simp at e
 | some o =>
  rw [q] at e
  cases o with
  | none=>simp at e
  | some j =>
   simp only [lW,cg,Option.some.injEq] at e
   cases q2:σd[j]? with
   | none=>rw [q2] at e;simp at e
   | some o2 =>
    rw [q2] at e
    simp at e
    subst e
    obtain ⟨v,h1,h2⟩:=h.2 j d q2
    exact ⟨v,by unfold lC;rw [eV,q];simp [h1],h2⟩
def cF:TF:=λ_ S=>some (true,S)
def iw (nx:Nat->So->Option (Option D)) (g:GF) (t:TF) (fe:EF):Nat->Nat->Sg->So->List D->Option (List D×So)
 | 0,i,_,S,acc=>match nx i S with
  | some none=>some (acc,S)
  | _=>none
 | k+1,i,τ,S,acc=>match nx i S with
  | some (some d)=>(g d τ S).bind λq=>(t q.1 q.2).bind λb=>if b.1=true then (fe q.1 b.2).bind λr=>iw nx g t fe k (i+1) q.1 r.2 (acc++[r.1]) else iw nx g t fe k (i+1) q.1 b.2 acc
  | _=>none
def Fx (fi:IF) (g:GF) (t:TF) (fe:EF) (src:List (Option Nat)):Sg->So->Option (List D×So):=λσ S=>(fi σ S).bind λr=>(pJ r.1 r.2).bind λn=>if n<=sizeLine then iw (cO r.1) g t fe n 0 (mO src σ) r.2 [] else none
def cX (fi:IF) (g:GF) (t:TF) (fe:EF) (src:List (Option Nat)):EF:=λσ S=>(Fx fi g t fe src σ S).map λq=>(.ref q.2.length,q.2++[.lst q.1])
def tH (X:Cx) (ifs:List Expr) (t:TF):Prop:=vN X ifs (zQ X.K t)
theorem zmA {X:Cx}:tH X [] cF:=λpins s σ H Q I h=>zm8 pins s σ H Q I (by
 obtain ⟨σd,S,α,b,S',hv,hs,hf,k⟩:=h
 cases hf
 exact k _ _ hs Ext.refl)
theorem zmz {X:Cx} {c:Expr} {t:TF} (h:ST X c t):tH X [c] t:=zm7 h
section
variable {X:Cx} {elt tg iter:Expr} {ifs:List Expr} {scope:Scope} {pos:Pos} {N':List Str} {src:List (Option Nat)} {fi:IF} {g:GF} {t:TF} {fe:EF}
theorem QG {K:PySem.W.Frag} {σd:Sg} {σ:L2.St} {S S':So} {H:Hp} {α:List Addr} {ds:List D} {Fin:List V->Hp->Prop} (hv:bF K H α σd σ) (hs:au K H α S) (hf:Fx fi g t fe src σd S=some (ds,S'))
 (k:∀ ys H' α',au K H' α' S'->Ext K H α H' α'->aF K H' α' ds ys->Fin ys H') :
 UG K fi σ H λJ H1=>∃ W,(∃ m,W 0 m [] (lC src σ) H1)/\Gb J (Mh K g) (zQ K t) (uN K fe) Fin W:=by
 unfold Fx at hf
 simp only [bA] at hf
 obtain ⟨⟨j,S1⟩,e1,n,e2,e3⟩:=hf
 split at e3
 ·rename_i hn
  refine ⟨σd,S,α,j,S1,hv,hs,e1,λJ H1 α1 s1 x1 jr=>?_⟩
  refine ⟨λi m ys τ H2=>∃ σd2 S2 α2 acc,bF K H2 α2 σd2 τ/\au K H2 α2 S2/\Ext K H1 α1 H2 α2/\aF K H2 α2 acc ys/\acc.length+m<=sizeLine/\iw (cO j) g t fe m i σd2 S2 acc=some (ds,S'),
   ⟨n,mO src σd,S1,α1,[],zk0 (hv.mono x1),s1,Ext.refl,.nil,by simpa using hn,e3⟩,?_⟩
  rintro i m ys τ H2 ⟨σd2,S2,α2,acc,v2,s2,x2,r2,hl,e⟩
  obtain ⟨nQ,MK⟩:=jr i H2 α2 S2 x2 s2
  cases m with
  | zero =>
   unfold iw at e
   split at e
   ·rename_i hn
    cases e
    exact .inl ⟨nQ hn,k _ _ _ s2 (x1.trans x2) r2⟩
   ·cases e
  | succ m =>
   unfold iw at e
   split at e
   ·rename_i d hn
    obtain ⟨hgo,hy⟩:=MK d hn
    simp only [bA] at e
    obtain ⟨⟨σ3,S3⟩,e4,⟨b,S4⟩,e5,e6⟩:=e
    refine .inr ⟨hgo,by rw [<-r2.length];omega,λx H3 y=>?_⟩
    obtain ⟨sm,rx⟩:=hy x H3 y
    have x3:Ext K H2 α2 H3 α2:=Same.ext sm
    refine ⟨σd2,S2,α2,d,σ3,S3,v2.mono x3,s2.mono sm,rx,e4,λσ5 H5 α5 v5 s5 x5=>?_⟩
    refine ⟨σ3,S3,α5,b,S4,v5,s5,e5,λH6 α6 s6 x6=>?_⟩
    cases b with
    | false =>
     rw [if_neg fQ];rw [if_neg fQ] at e6
     exact ⟨m,Nat.lt_succ_self _,σ3,S4,α6,acc,v5.mono x6,s6,((x2.trans x3).trans x5).trans x6,((r2.mono x3).mono x5).mono x6,by omega,e6⟩
    | true =>
     rw [if_pos rfl];rw [if_pos rfl] at e6
     simp only [bA] at e6
     obtain ⟨⟨z,S7⟩,e7,e8⟩:=e6
     refine ⟨σ3,S4,α6,z,S7,v5.mono x6,s6,e7,λw H8 α8 s8 x8 r8=>?_⟩
     exact ⟨m,Nat.lt_succ_self _,σ3,S7,α8,acc++[z],(v5.mono x6).mono x8,s8,(((x2.trans x3).trans x5).trans x6).trans x8,((((r2.mono x3).mono x5).mono x6).mono x8).append (.cons r8 .nil),by simp;omega,e8⟩
   ·cases e
 ·cases e3
theorem Tp (hY:∀ Y,mV X scope N' Y->SG Y tg g/\tH Y ifs t/\SE Y elt fe):∀ Y,mV X scope N' Y->PG Y tg (Mh X.K g)/\vN Y ifs (zQ X.K t)/\PE Y elt (uN X.K fe):=λY hy=>by
 obtain ⟨h1,h2,h3⟩:=hY Y hy
 unfold SG at h1
 unfold tH at h2
 unfold SE at h3
 rw [hy.K] at h1 h2 h3
 exact ⟨h1,h2,h3⟩
theorem Ov (hc:X.calm=true) (ok:pW X scope N' src) (hi:SI X tg iter fi) (hY:∀ Y,mV X scope N' Y->SG Y tg g/\tH Y ifs t/\SE Y elt fe)
 (hfs:∀ x,foldedSetIterable iter X.env x=pure x):SE X (.ListComp elt [⟨tg,iter,ifs,0⟩] scope pos) (cX fi g t fe src):=by
 refine PE.imp (Wi hc ok hi (Tp hY) hfs) λσ H Q h=>?_
 obtain ⟨σd,S,α,z,S',hv,hs,hf,k⟩:=h
 unfold cX at hf
 simp only [aU] at hf
 obtain ⟨⟨ds,S1⟩,e1,e2⟩:=hf
 cases e2
 refine QG hv hs e1 λys H' α' s' x' r' p hp=>?_
 obtain ⟨s2,x2⟩:=s'.snoc (p:=p) (o := .lst ds) (u := .lst ys) hp λα'' e=>⟨_,eO,r'.mono e⟩
 exact k _ _ _ s2 (x'.trans x2) (.ref (by rw [<-s'.len];simp))
theorem zkY {y:Str} {py spos:Pos} {i:Nat} (hN:X.N.Nodup) (MT:X.N[i]?=some y) (hy:X.env.kindOf y=some .local)
 (hsw:swapsWith (.ListComp elt [⟨tg,iter,ifs,0⟩] scope pos) (some (.Name y py)) spos.line X.env=pure true)
 (hc:X.calm=true) (ok:pW X scope N' src) (hi:SI X tg iter fi) (hY:∀ Y,mV X scope N' Y->SG Y tg g/\tH Y ifs t/\SE Y elt fe)
 (hfs:∀ x,foldedSetIterable iter X.env x=pure x):SS X (.Assign [.Name y py] (.ListComp elt [⟨tg,iter,ifs,0⟩] scope pos) spos) (aX (cX fi g t fe src) (aG i)):=by
 refine PS.imp (zll hN MT hy hsw hc ok hi (Tp hY) hfs) λD σ H h=>?_
 obtain ⟨σd,S,α,fl,σd',S',hv,hs,hf,k⟩:=h
 unfold aX cX at hf
 simp only [bA,aU] at hf
 obtain ⟨⟨d,S1⟩,⟨⟨ds,S2⟩,e1,e2⟩,⟨σ1,S3⟩,e3,e4⟩:=hf
 cases e4;cases e3;cases e2
 refine QG hv hs e1 λys H' α' s' x' r' p hp=>?_
 obtain ⟨s2,x2⟩:=s'.snoc (p:=p) (o := .lst ds) (u := .lst ys) hp λα'' e=>⟨_,eO,r'.mono e⟩
 exact k _ _ _ (((hv.mono x').mono x2).set (.ref (by rw [<-s'.len];simp)) i) s2 (x'.trans x2)
end
end MX
end
section
namespace MX
open PySem PySem.Spec PyProof.Rows L2
def Ite (K:PySem.W.Frag) (a:Addr):It :=
 ⟨λi H=>∃ vs v,dh K H a vs/\vs[i]?=some v,
  λi H x H'=>∃ p v,x = .ref p/\H p=none/\H'=upd H p (.tup [.int (i:Nat),v])/\∀ vs,dh K H a vs->vs[i]?=some v,
  λi H=>∃ vs,dh K H a vs/\vs.length<=i⟩
theorem ZJ {K:PySem.W.Frag} {H:Hp} {α:List Addr} {a:Addr} {n:Nat} (h:α[n]?=some a):xQ K H α (.enm n) (Ite K a):=λi H1 α1 S1 x1 s1=>by
 have h1:=x1.pre _ _ h
 unfold cO
 cases hm:S1[n]? with
 | none=>simp only [hm];exact ⟨λe=>(nomatch e),λd e=>(nomatch e)⟩
 | some o =>
  have hob:=s1.obj _ _ _ hm h1
  cases o with
  | lst ds =>
   simp only [hm]
   obtain ⟨vs,q,r⟩:=hob
   refine ⟨λe=>?_,λd e=>?_⟩
   ·have e':ds[i]?=none:=by simpa using e
    exact ⟨vs,dh.of q,by rw [<-r.length];exact List.getElem?_eq_none_iff.mp e'⟩
   ·have e':(ds[i]?).map (λx=>D.tup [.int (i:Nat),x])=some d:=by simpa using e
    simp only [aU] at e'
    obtain ⟨x,e2,rfl⟩:=e'
    obtain ⟨v,e1,rv⟩:=r.get e2
    refine ⟨⟨vs,v,dh.of q,e1⟩,λx H' y=>?_⟩
    obtain ⟨p,v',rfl,hp,rfl,hy⟩:=y
    have:=hy vs (dh.of q)
    rw [e1] at this;cases this
    exact ⟨kJ hp,.tup (dF.of eO) (.cons (.int _) (.cons (rv.mono (Same.ext (kJ hp))) .nil))⟩
  | _=>simp only [hm];exact ⟨λe=>(nomatch e),λd e=>(nomatch e)⟩
theorem zje {P:Program} {w:World} {K:PySem.W.Frag} {es:List Expr} {kk:Nat} {tp:Pos} {e it l:Addr} (hei:e≠it) :
 tR P w K (.Tuple es kk tp) (Ite K l) [e,it] e (λi h=>(∃ old,IsEnum h e it (i:Nat) old)/\h.IsListIter it l i) where
 mem:=fL
 obj:=λi h ⟨⟨old,h1⟩,⟨o,h2,h3,h4⟩⟩ b hb=>by
  rcases List.mem_cons.mp hb with rfl | hb
  ·exact ⟨_,h1,λv z=>by cases z⟩
  ·rw [List.mem_singleton.mp hb]
   exact ⟨o,h2,λv z=>by rw [h4] at z;cases z⟩
 keep:=λi h h' ⟨⟨old,h1⟩,h2⟩ k=>⟨⟨old,k e (by simp) _ h1⟩,h2.at λo x=>k it (by simp) o x⟩
 item:=by
  intro X hP hw hK hc i pins s σ H E I hf st hg
  subst hP hw hK
  obtain ⟨⟨old,he⟩,hit⟩:=st
  obtain ⟨vs,v,hS,hv⟩:=hg
  obtain ⟨its,rv,pl,hz⟩:=I.list hS
  obtain ⟨u,hu,ru⟩:=rv.get hv
  refine wpAny_pyNext_enum_item he hit pl.isList (by simpa using hu) hei λh' ho hit' hT hsz hk=>?_
  refine ⟨_,rfl,wpAny_letOwnedTupleGo_enum (s:={ s with heap:=h',toks:=s.toks+1 }) ho λh'' he' hs'=>?_⟩
  have helt:e<s.heap.objs.size:=cj he
  have hilt:it<s.heap.objs.size:=by obtain ⟨_,x,_⟩:=hit;exact cj x
  have kp:∀ c o,c∉[e,it]->s.heap.get? c=some o->h''.get? c=some o:=λc o hc q=>by
   have c1:c≠e:=λz=>hc (by simp [z])
   have c2:c≠it:=λz=>hc (by simp [z])
   exact (hs'.2 c c1).trans (hk c o c1 c2 q)
  have hTe:s.heap.objs.size≠e:=Nat.ne_of_gt helt
  have I1:Inv X pins σ (upd H s.heap.objs.size (.tup [.int (i:Nat),v])) { s with heap:=h'',toks:=s.toks+1 } :=
   MZ.Inv.turnedT (t':=s.toks+1) (iu:=[.int i s.toks,u]) I kp hf ((hs'.2 _ hTe).trans hT) (.cons ⟨_,rfl⟩ (.cons ru .nil)) (by show 2<=sizeLine;decide)
  refine ⟨.ref s.heap.objs.size,_,I1,rfl,⟨s.heap.objs.size,v,rfl,I.hok.fresh (bR _),rfl,λvs' h=>by rw [I.list_inj h hS];exact hv⟩,⟨⟨_,by simpa using he'⟩,hit'.at λo y=>(hs'.2 it hei.symm).trans y⟩,λb hb=>?_⟩
  have hlt:b<s.heap.objs.size:=by
   rcases List.mem_cons.mp hb with rfl | hb
   ·exact helt
   ·rw [List.mem_singleton.mp hb];exact hilt
  rw [bY (dw hlt)]
  exact (hf b hb).1
 done:=by
  intro X hP hw hK hc i pins s σ H E I hf st hg
  subst hP hw hK
  obtain ⟨⟨old,he⟩,hit⟩:=st
  obtain ⟨vs,hS,hlen⟩:=hg
  obtain ⟨its,rv,pl,hz⟩:=I.list hS
  refine wpAny_pyNext_enum_end (I.ok.hd hc) he hit pl.isList (by simp;rw [<-rv.length];exact hlen) λh' hx=>⟨rfl,?_⟩
  exact MZ.Inv.turnedN (t':=s.toks) (ch:=[e,it]) I (λc o hc q=>hx c o (λz=>hc (by simp [z])) q) hf
 self:=λ_ _ _ _ _ st h=>by
  obtain ⟨⟨old,he⟩,_⟩:=st
  exact wpAny_pyIter_enum he h
theorem zkL:bootBuiltins "enumerate" = some (.type "enumerate"):=by decide +kernel
section
variable {X:Cx}
def nT (fe:EF):IF:=λσ S=>(fe σ S).bind λr=>match r.1 with
 | .ref n=>match r.2[n]? with
  | some (.lst _)=>some (.enm n,r.2)
  | _=>none
 | _=>none
theorem Yp {e:Expr} {ts:List Expr} {kk:Nat} {tp p pos:Pos} {fe:EF} (hg:Gl X "enumerate") (hm:X.mg "enumerate" = none) (ha:SE X e fe) (hst:starEach [e] X.env=[(false,eval e X.env)]) :
 SI X (.Tuple ts kk tp) (.Call (.Name "enumerate" p) [e] [] pos) (nT fe):=by
 intro pins s σ H R I h
 obtain ⟨σd,S,α,j,S',hv,hs,hf,k⟩:=h
 unfold nT at hf
 simp only [bA] at hf
 obtain ⟨⟨d,S1⟩,e1,e2⟩:=hf
 simp only at e2
 split at e2
 ·rename_i n
  split at e2
  ·rename_i xs q
   cases e2
   have hst':starEach (e::[]) X.env=(false,eval e X.env)::starEach [] X.env:=hst
   refine wpAny_Call_Name_kw (rG I hg hm zkL ?_ (by decide) (by decide))
   refine PyProof.Rows.callWith_type1 ?_ hst' rfl
   rw [hst']
   refine Calls.spliced_cons (bL (ha pins s σ H (λv H1=>∃ α1,au X.K H1 α1 S'/\Ext X.K H α H1 α1/\Rep X.K H1 α1 (.ref n) v) I ⟨σd,S,α,.ref n,S',hv,hs,e1,λw H1 α1 s1 x1 r1=>⟨α1,s1,x1,r1⟩⟩) λu1 s1 ⟨v1,H1,I1,r1,α1,st1,x1,Mf⟩=>?_)
   refine Calls.spliced_nil ?_
   cases Mf with
   | @ref _ l hl =>
    cases r1
    obtain ⟨ws,hw,rws⟩:=st1.obj _ _ _ q hl
    obtain ⟨its,rv,pl,hz⟩:=I1.list (dh.of (K:=X.K) hw)
    refine call_enumerate_list pl.isList λh' he hit hsz hk=>?_
    have I2:Inv X pins σ H1 { s1 with heap:=h' }:=I1.kept (t':=s1.toks) hk
    refine wpAny_pyIter_enum (s:={ s1 with heap:=h' }) he ?_
    refine ⟨_,_,_,_,H1,rfl,I2,zje (K:=X.K) (l:=l) (e:=s1.heap.objs.size+1) (it:=s1.heap.objs.size) (Nat.succ_ne_self _),⟨⟨_,he⟩,hit⟩,λb hb=>?_,k _ _ _ st1 x1 (ZJ hl)⟩
    have hge:s1.heap.objs.size<=b:=by
     rcases List.mem_cons.mp hb with rfl | hb
     ·omega
     ·rw [List.mem_singleton.mp hb];exact bR _
    exact I1.fpOk hge (I1.hok.fresh hge)
  ·cases e2
 ·cases e2
end
end MX
end
section
namespace MX
open PySem PySem.Spec PyProof.Rows L2
def gm:GN
 | [.tup xs],S=>some (.int xs.length,S)
 | [.str z],S=>if z.length<=sizeLine then some (.int z.length,S) else none
 | [.ref n],S=>match S[n]? with
  | some (.lst xs)=>some (.int xs.length,S)
  | some (.frz xs)=>some (.int xs.length,S)
  | _=>none
 | _,_=>none
def qW:GN
 | [.int i],S=>some (.int (if i<0 then -i else i),S)
 | _,_=>none
def mq:List D->Option (List Int)
 | []=>some []
 | .int i::r=>(mq r).map (i::·)
 | _::_=>none
def jo:List Int->Option Int
 | []=>none
 | i::r=>some (r.foldl (λa b=>if b<a then b else a) i)
def je:List Int->Option Int
 | []=>none
 | i::r=>some (r.foldl (λa b=>if b>a then b else a) i)
def qJ:GN
 | [.int i,.int j],S=>some (.int (if j<i then j else i),S)
 | [.ref n],S=>match S[n]? with
  | some (.lst xs)=>(mq xs).bind λns=>(jo ns).map λm=>(.int m,S)
  | _=>none
 | _,_=>none
def nY:GN
 | [.int i,.int j],S=>some (.int (if j>i then j else i),S)
 | [.ref n],S=>match S[n]? with
  | some (.lst xs)=>(mq xs).bind λns=>(je ns).map λm=>(.int m,S)
  | _=>none
 | _,_=>none
def lZ:GN
 | [.tup xs],S=>some (.tup xs,S)
 | [.ref n],S=>match S[n]? with
  | some (.lst xs)=>some (.tup xs,S)
  | some (.frz xs)=>some (.tup xs,S)
  | _=>none
 | _,_=>none
def lF:GN
 | [.tup xs],S=>some (.ref S.length,S++[.lst xs])
 | [.ref n],S=>match S[n]? with
  | some (.lst xs)=>some (.ref S.length,S++[.lst xs])
  | some (.frz xs)=>some (.ref S.length,S++[.lst xs])
  | _=>none
 | _,_=>none
theorem TY:∀ (r:List Int) (i:Int),r.foldl (λa b=>if b<a then b else a) i<=i/\(∀ x∈r,r.foldl (λa b=>if b<a then b else a) i<=x)/\(r.foldl (λa b=>if b<a then b else a) i=i\/r.foldl (λa b=>if b<a then b else a) i∈r)
 | [],i=>⟨Int.le_refl _,λ_ h=>(nomatch h),.inl rfl⟩
 | x::r,i=>by
  obtain ⟨h1,h2,h3⟩:=TY r (if x<i then x else i)
  rw [List.foldl_cons]
  refine ⟨?_,λy hy=>?_,?_⟩
  ·refine Int.le_trans (by first | exact h1 | (refine Int.le_trans ?_ h1;split<;>omega)) (by first | (split<;>omega) | exact Int.le_refl _)
  ·rcases List.mem_cons.mp hy with rfl | hy
   ·first
     | exact Int.le_trans h1 (by split<;>omega)
     | exact Int.le_trans (by split<;>omega) h1
   ·exact h2 y hy
  ·rcases h3 with h3 | h3
   ·rw [h3]
    split
    ·exact .inr fL
    ·exact .inl rfl
   ·exact .inr (cM _ h3)
theorem zev:∀ (r:List Int) (i:Int),i<=r.foldl (λa b=>if b>a then b else a) i/\(∀ x∈r,x<=r.foldl (λa b=>if b>a then b else a) i)/\(r.foldl (λa b=>if b>a then b else a) i=i\/r.foldl (λa b=>if b>a then b else a) i∈r)
 | [],i=>⟨Int.le_refl _,λ_ h=>(nomatch h),.inl rfl⟩
 | x::r,i=>by
  obtain ⟨h1,h2,h3⟩:=zev r (if x>i then x else i)
  rw [List.foldl_cons]
  refine ⟨?_,λy hy=>?_,?_⟩
  ·refine Int.le_trans (by first | exact h1 | (refine Int.le_trans ?_ h1;split<;>omega)) (by first | (split<;>omega) | exact Int.le_refl _)
  ·rcases List.mem_cons.mp hy with rfl | hy
   ·first
     | exact Int.le_trans h1 (by split<;>omega)
     | exact Int.le_trans (by split<;>omega) h1
   ·exact h2 y hy
  ·rcases h3 with h3 | h3
   ·rw [h3]
    split
    ·exact .inr fL
    ·exact .inl rfl
   ·exact .inr (cM _ h3)
theorem Qu {ns:List Int} {m:Int} (h1:m∈ns) (h2:∀ a∈ns,m<=a):jo ns=some m:=by
 cases ns with
 | nil=>cases h1
 | cons i r =>
  obtain ⟨a,b,c⟩:=TY r i
  unfold jo
  have l1:m<=r.foldl (λa b=>if b<a then b else a) i:=by
   rcases c with c | c
   ·rw [c];exact h2 i fL
   ·exact h2 _ (cM _ c)
  have l2:r.foldl (λa b=>if b<a then b else a) i<=m:=by
   rcases List.mem_cons.mp h1 with rfl | h1
   ·exact a
   ·exact b m h1
  exact congrArg some (Int.le_antisymm l2 l1)
theorem Qt {ns:List Int} {m:Int} (h1:m∈ns) (h2:∀ a∈ns,a<=m):je ns=some m:=by
 cases ns with
 | nil=>cases h1
 | cons i r =>
  obtain ⟨a,b,c⟩:=zev r i
  unfold je
  have l1:r.foldl (λa b=>if b>a then b else a) i<=m:=by
   rcases c with c | c
   ·rw [c];exact h2 i fL
   ·exact h2 _ (cM _ c)
  have l2:m<=r.foldl (λa b=>if b>a then b else a) i:=by
   rcases List.mem_cons.mp h1 with rfl | h1
   ·exact a
   ·exact b m h1
  exact congrArg some (Int.le_antisymm l1 l2)
theorem wX {K:PySem.W.Frag} {H:Hp} {α:List Addr}:∀ {ds:List D} {vs:List V} {us:List Value} {ns:List Int},aF K H α ds vs->Vals vs us->mq ds=some ns->IntsAre us ns
 | _,_,_,_,.nil,.nil,e=>by cases e;exact .nil
 | _,_,_,_,.cons r rr,.cons rv rvs,e=>by
  cases r with
  | int i =>
   simp only [mq,aU] at e
   obtain ⟨ms,e1,rfl⟩:=e
   obtain ⟨t,rfl⟩:=rv
   exact .cons _ _ (wX rr rvs e1)
  | _=>cases e
theorem aF.inv1 {K:PySem.W.Frag} {H:Hp} {α:List Addr} {d:D} {vs:List V} (r:aF K H α [d] vs):∃ v,vs=[v]/\Rep K H α d v:=by
 cases r with
 | cons r rr=>cases rr;exact ⟨_,rfl,r⟩
theorem aF.inv2 {K:PySem.W.Frag} {H:Hp} {α:List Addr} {d e:D} {vs:List V} (r:aF K H α [d,e] vs):∃ v u,vs=[v,u]/\Rep K H α d v/\Rep K H α e u:=by
 cases r with
 | cons r rr =>
  obtain ⟨u,rfl,q⟩:=rr.inv1
  exact ⟨_,_,rfl,r,q⟩
theorem m9 {K:PySem.W.Frag} {H:Hp} {α:List Addr} {S:So} {n:Nat} {a:Addr} {xs:List D} (hs:au K H α S) (ha:α[n]?=some a) (h:S[n]?=some (.lst xs)\/S[n]?=some (.frz xs)):∃ vs,dh K H a vs/\aF K H α xs vs:=by
 rcases h with h | h
 ·obtain ⟨vs,q,r⟩:=hs.obj _ _ _ h ha;exact ⟨vs,dh.of q,r⟩
 ·obtain ⟨vs,q,r⟩:=hs.obj _ _ _ h ha;exact ⟨vs,q.sq,r⟩
section
variable {X:Cx}
theorem VG:gG X (.builtin "len") (iW X.K gm):=by
 intro pins s σ H vs us Q I rv h
 obtain ⟨S,α,ds,z,S',hs,r,hg,k⟩:=h
 unfold gm at hg
 split at hg
 ·cases hg
  obtain ⟨v,rfl,r0⟩:=r.inv1
  cases r0 with
  | tup h r1=>exact TV pins s σ H _ us Q I rv ⟨_,_,rfl,.inr h,by rw [<-r1.length];exact k.same hs (.int _)⟩
 ·split at hg
  ·rename_i hl
   cases hg
   obtain ⟨v,rfl,r0⟩:=r.inv1
   cases r0
   exact zgR pins s σ H _ us Q I rv ⟨_,rfl,hl,k.same hs (.int _)⟩
  ·cases hg
 ·obtain ⟨v,rfl,r0⟩:=r.inv1
  cases r0 with
  | @ref n a ha =>
   have core:∀ xs,(∃ vs,dh X.K H a vs/\aF X.K H α xs vs)->some (D.int (xs.length:Int),S)=some (z,S')->wpAny (model X.prog X.w) X.A (call (.builtin "len") us) (EP X pins σ Q) X.xe s:=λxs ⟨vs,q,r⟩ e=>by
    cases e
    exact TV pins s σ H _ us Q I rv ⟨_,_,rfl,.inl q,by rw [<-r.length];exact k.same hs (.int _)⟩
   split at hg
   ·rename_i e;exact core _ (m9 hs ha (.inl e)) hg
   ·rename_i e;exact core _ (m9 hs ha (.inr e)) hg
   ·cases hg
 ·cases hg
theorem VB:gG X (.builtin "abs") (iW X.K qW):=by
 intro pins s σ H vs us Q I rv h
 obtain ⟨S,α,ds,z,S',hs,r,hg,k⟩:=h
 unfold qW at hg
 split at hg
 ·cases hg
  obtain ⟨v,rfl,r0⟩:=r.inv1
  cases r0
  exact zlU pins s σ H _ us Q I rv ⟨_,rfl,k.same hs (.int _)⟩
 ·cases hg
theorem VJ (hc:X.calm=true):gG X (.builtin "min") (iW X.K qJ):=by
 intro pins s σ H vs us Q I rv h
 obtain ⟨S,α,ds,z,S',hs,r,hg,k⟩:=h
 unfold qJ at hg
 split at hg
 ·cases hg
  obtain ⟨v,u,rfl,r1,r2⟩:=r.inv2
  cases r1;cases r2
  exact zkH hc pins s σ H _ us Q I rv ⟨_,_,rfl,k.same hs (.int _)⟩
 ·obtain ⟨v,rfl,r0⟩:=r.inv1
  cases r0 with
  | @ref n a ha =>
   split at hg
   ·rename_i e
    simp only [bA,aU] at hg
    obtain ⟨ns,e1,m,e2,e3⟩:=hg
    cases e3
    obtain ⟨ws,q,r⟩:=m9 hs ha (.inl e)
    obtain ⟨u,rfl,ru⟩:=oX rv
    cases ru
    obtain ⟨its,rr,pl,hz⟩:=I.list q
    have hi:=wX r rr e1
    have hne:0<ns.length:=by
     cases ns with
     | nil=>cases e2
     | cons _ _=>simp
    obtain ⟨xs,hxs⟩:=hi.allInts.items
    have hn:=hi.numsOf
    have hnn:numsOf (intItems xs).toList=ns:=by rw [<-hxs];simpa using hn
    rw [nums_intItems] at hnn
    have hsz:0<xs.size:=by
     have:=congrArg List.length hnn
     simp at this;omega
    have hl':s.heap.IsList a (intItems xs):=by rw [<-hxs];exact pl.isList
    refine min_intList (I.ok.hd hc) hl' hsz λv h' tk hv hk=>?_
    obtain ⟨t,rfl⟩:=intItems_at hv
    obtain ⟨h1,h2⟩:=argBest_lt (numAt xs) (xs.size - 1)
    have hm:jo ns=some (numAt xs (argBest (λi j=>decide (numAt xs i<numAt xs j)) (xs.size - 1))):=by
     refine Qu ?_ λb hb=>?_
     ·rw [<-hnn,numAt_eq];exact getD_mem (by rw [cQ,Array.length_toList];omega)
     ·rw [<-hnn] at hb
      obtain ⟨j,hj,rfl⟩:=mem_getD hb
      rw [cQ,Array.length_toList] at hj
      rw [<-numAt_eq];exact h2 j (by omega)
    rw [e2] at hm;cases hm
    exact ⟨.int _,H,I.kept hk,⟨t,rfl⟩,k.same hs (.int _)⟩
   ·cases hg
 ·cases hg
theorem VH (hc:X.calm=true):gG X (.builtin "max") (iW X.K nY):=by
 intro pins s σ H vs us Q I rv h
 obtain ⟨S,α,ds,z,S',hs,r,hg,k⟩:=h
 unfold nY at hg
 split at hg
 ·cases hg
  obtain ⟨v,u,rfl,r1,r2⟩:=r.inv2
  cases r1;cases r2
  exact zkI hc pins s σ H _ us Q I rv ⟨_,_,rfl,k.same hs (.int _)⟩
 ·obtain ⟨v,rfl,r0⟩:=r.inv1
  cases r0 with
  | @ref n a ha =>
   split at hg
   ·rename_i e
    simp only [bA,aU] at hg
    obtain ⟨ns,e1,m,e2,e3⟩:=hg
    cases e3
    obtain ⟨ws,q,r⟩:=m9 hs ha (.inl e)
    obtain ⟨u,rfl,ru⟩:=oX rv
    cases ru
    obtain ⟨its,rr,pl,hz⟩:=I.list q
    have hi:=wX r rr e1
    have hne:0<ns.length:=by
     cases ns with
     | nil=>cases e2
     | cons _ _=>simp
    obtain ⟨xs,hxs⟩:=hi.allInts.items
    have hn:=hi.numsOf
    have hnn:numsOf (intItems xs).toList=ns:=by rw [<-hxs];simpa using hn
    rw [nums_intItems] at hnn
    have hsz:0<xs.size:=by
     have:=congrArg List.length hnn
     simp at this;omega
    have hl':s.heap.IsList a (intItems xs):=by rw [<-hxs];exact pl.isList
    refine max_intList (I.ok.hd hc) hl' hsz λv h' tk hv hk=>?_
    obtain ⟨t,rfl⟩:=intItems_at hv
    obtain ⟨h1,h2⟩:=argBest_gt (numAt xs) (xs.size - 1)
    have hm:je ns=some (numAt xs (argBest (λi j=>decide (numAt xs i>numAt xs j)) (xs.size - 1))):=by
     refine Qt ?_ λb hb=>?_
     ·rw [<-hnn,numAt_eq];exact getD_mem (by rw [cQ,Array.length_toList];omega)
     ·rw [<-hnn] at hb
      obtain ⟨j,hj,rfl⟩:=mem_getD hb
      rw [cQ,Array.length_toList] at hj
      rw [<-numAt_eq];exact h2 j (by omega)
    rw [e2] at hm;cases hm
    exact ⟨.int _,H,I.kept hk,⟨t,rfl⟩,k.same hs (.int _)⟩
   ·cases hg
 ·cases hg
theorem zlV:gG X (.type "tuple") (iW X.K lZ):=by
 intro pins s σ H vs us Q I rv h
 obtain ⟨S,α,ds,z,S',hs,r,hg,k⟩:=h
 unfold lZ at hg
 split at hg
 ·cases hg
  obtain ⟨v,rfl,r0⟩:=r.inv1
  cases r0 with
  | tup h r1=>exact Uk pins s σ H _ us Q I rv ⟨_,_,rfl,.inr ⟨h,k.same hs (.tup h r1)⟩⟩
 ·obtain ⟨v,rfl,r0⟩:=r.inv1
  cases r0 with
  | @ref n a ha =>
   have core:∀ xs,(∃ vs,dh X.K H a vs/\aF X.K H α xs vs)->some (D.tup xs,S)=some (z,S')->wpAny (model X.prog X.w) X.A (call (.type "tuple") us) (EP X pins σ Q) X.xe s:=λxs ⟨vs,q,r⟩ e=>by
    cases e
    exact Uk pins s σ H _ us Q I rv ⟨_,_,rfl,.inl ⟨q,λp hp=>k.new hs (kJ hp) (.tup (dF.of eO) (r.mono (Same.ext (kJ hp))))⟩⟩
   split at hg
   ·rename_i e;exact core _ (m9 hs ha (.inl e)) hg
   ·rename_i e;exact core _ (m9 hs ha (.inr e)) hg
   ·cases hg
 ·cases hg
theorem Yd:gG X (.type "list") (iW X.K lF):=by
 intro pins s σ H vs us Q I rv h
 obtain ⟨S,α,ds,z,S',hs,r,hg,k⟩:=h
 have fin:∀ (xs:List D) (vs:List V) (p:Addr),aF X.K H α xs vs->H p=none->some (D.ref S.length,S++[O.lst xs])=some (z,S')->Q (.ref p) (upd H p (.lst vs)):=λxs vs p r hp e=>by
  cases e
  obtain ⟨s2,x2⟩:=hs.snoc (p:=p) (o := .lst xs) (u := .lst vs) hp λα'' e=>⟨_,eO,r.mono e⟩
  exact k _ _ _ s2 x2 (.ref (by rw [<-hs.len];simp))
 unfold lF at hg
 split at hg
 ·obtain ⟨v,rfl,r0⟩:=r.inv1
  cases r0 with
  | tup h r1=>exact TX pins s σ H _ us Q I rv ⟨_,_,rfl,.inr h,λp hp=>fin _ _ p r1 hp hg⟩
 ·obtain ⟨v,rfl,r0⟩:=r.inv1
  cases r0 with
  | @ref n a ha =>
   have core:∀ xs,(∃ vs,dh X.K H a vs/\aF X.K H α xs vs)->some (D.ref S.length,S++[O.lst xs])=some (z,S')->wpAny (model X.prog X.w) X.A (call (.type "list") us) (EP X pins σ Q) X.xe s:=λxs ⟨vs,q,r⟩ e =>
    TX pins s σ H _ us Q I rv ⟨_,_,rfl,.inl q,λp hp=>fin _ _ p r hp e⟩
   split at hg
   ·rename_i e;exact core _ (m9 hs ha (.inl e)) hg
   ·rename_i e;exact core _ (m9 hs ha (.inr e)) hg
   ·cases hg
 ·cases hg
end
def nR (a b:String):Option Bool:=PySem.W.kitOne (default) (.type a) (.type b)
theorem P0 {K:PySem.W.Frag} {a b:String}:PySem.W.kitOne K (.type a) (.type b)=nR a b:=by
 unfold nR PySem.W.kitOne PySem.W.kitCls PySem.W.subIn
 rfl
def xJ:D->So->Option String
 | .non,_=>some "NoneType"
 | .bl _,_=>some "bool"
 | .int _,_=>some "int"
 | .str _,_=>some "str"
 | .tup _,_=>some "tuple"
 | .ref n,S=>match S[n]? with
  | some (.lst _)=>some "list"
  | _=>none
 | _,_=>none
def qX:GN
 | [d,.ty T],S=>(xJ d S).bind λt=>(nR t T).map λb=>(.bl b,S)
 | _,_=>none
theorem X6 {K:PySem.W.Frag} {H:Hp} {α:List Addr} {S:So} {d:D} {v:V} {t:String} (hs:au K H α S) (r:Rep K H α d v) (e:xJ d S=some t):(∃ b vs,v = .ref b/\dF K H b vs/\t = "tuple")\/lz K H v (.type t):=by
 cases r with
 | non=>cases e;exact .inr .non
 | bl b=>cases e;exact .inr (.bl b)
 | int i=>cases e;exact .inr (.int i)
 | str x=>cases e;exact .inr (.str x)
 | tup h r=>cases e;exact .inl ⟨_,_,rfl,h,rfl⟩
 | @ref n a ha =>
  simp only [xJ] at e
  split at e
  ·rename_i q
   cases e
   obtain ⟨vs,h,_⟩:=hs.obj _ _ _ q ha
   exact .inr (.lst h)
  ·cases e
 | ty n=>cases e
 | adr a=>cases e
 | obj _ _ _ _ _=>cases e
theorem VF {X:Cx}:gG X (.builtin "isinstance") (iW X.K qX):=by
 intro pins s σ H vs us Q I rv h
 obtain ⟨S,α,ds,z,S',hs,r,hg,k⟩:=h
 unfold qX at hg
 split at hg
 ·simp only [bA,aU] at hg
  obtain ⟨t,e1,b,e2,e3⟩:=hg
  cases e3
  obtain ⟨v,u,rfl,r1,r2⟩:=r.inv2
  cases r2 with
  | ty T =>
   obtain ⟨u1,u2,rfl,q1,q2⟩:=Gs rv
   cases q2
   rcases X6 hs r1 e1 with ⟨a,ws,rfl,h,rfl⟩ | ty
   ·cases q1
    obtain ⟨its,_,⟨o,h1,h2,_⟩,_⟩:=I.tuple h
    exact PySem.W.kia_one PySem.W.kitx_tuple I.kIn ⟨o,h1,h2⟩ (by rw [P0];exact e2) (λz=>nomatch z) λtk=>⟨.bl b,H,I.tok _,rfl,k.same hs (.bl _)⟩
   ·exact zkd I q1 ty (by rw [P0];exact e2) λtk=>⟨.bl b,H,I.tok _,rfl,k.same hs (.bl _)⟩
 ·cases hg
abbrev PF:=Sg->So->Option (Option Int×So)
def kh:PF:=λ_ S=>some (none,S)
def jE (fe:EF):PF:=λσ S=>(fe σ S).bind λr=>match r.1 with
 | .int i=>some (some i,r.2)
 | _=>none
def jn (xs:List D) (lo hi:Option Int):List D:=(xs.drop (HT.sIx xs.length 0 lo)).take (HT.sIx xs.length xs.length hi - HT.sIx xs.length 0 lo)
def sX:D->Option Int->Option Int->So->Option (D×So)
 | .tup xs,lo,hi,S=>if ¬ (HT.sIx xs.length 0 lo=0/\HT.sIx xs.length xs.length hi=xs.length) then some (.tup (jn xs lo hi),S) else some (.tup xs,S)
 | .ref n,lo,hi,S=>match S[n]? with
  | some (.lst xs)=>some (.ref S.length,S++[.lst (jn xs lo hi)])
  | some (.frz xs)=>some (.ref S.length,S++[.lst (jn xs lo hi)])
  | _=>none
 | _,_,_,_=>none
def jJ (fe:EF) (fl fh:PF):EF:=λσ S=>(fe σ S).bind λr=>(fl σ r.2).bind λl=>(fh σ l.2).bind λh=>sX r.1 l.1 h.1 h.2
def rdP (K:PySem.W.Frag) (f:PF):TO:=λσ H Q=>∃ σd S α p S',bF K H α σd σ/\au K H α S/\f σd S=some (p,S')/\∀ H' α',au K H' α' S'->Ext K H α H' α'->Q p H'
def Bm (X:Cx) (e:Option Expr) (f:PF):Prop:=PO X e (rdP X.K f)
theorem QS {K:PySem.W.Frag} {H:Hp} {α:List Addr} {ds:List D} {vs:List V} {lo hi:Option Int} (r:aF K H α ds vs):aF K H α (jn ds lo hi) (pK vs lo hi):=by
 unfold jn pK
 rw [r.length]
 exact (r.drop _).take _
theorem zjf {prog:Program} {w:World} {A:Around} {E:Value->Shared->Prop} {s:Shared} {t sl:Addr} {items:Array Value} {vl vu:Value} {lo hi:Option Int} {Q:Value->Shared->Prop} (ht:IsTup s.heap t items) (hs:s.heap.IsSliceOf sl vl vu .none) (pl:IsPart vl lo) (pu:IsPart vu hi)
 (hw:HT.sIx items.size 0 lo=0/\HT.sIx items.size items.size hi=items.size) (h:Q (.ref t) s):wpAny (model prog w) A (getItem (.ref t) (.ref sl)) Q E s:=by
 obtain ⟨os,hos,hcs,hds⟩:=id hs
 have hTs:s.TypeIs (.ref sl) "slice" := ⟨os,hos,hcs⟩
 unfold getItem
 try with_reducible refine wpAny_holding ?_
 first | refine aN (bW ?_) | skip
 refine aN (wpAny_sequenceKey ht.typeIs (by decide) ?_)
 refine aN (wpAny_callSpecial?_slot (name:=Str.ofString "__getitem__") ht.typeIs PyProof.Rows.slot_tuple_getitem
  (wpAny_call_entry PyProof.Rows.slot_tuple_getitem ht.typeIs entry_tuple_getitem ?_ (args_tuple_getitem _ _)))
 show wpAny _ _ (Builtin.Tuple.tupleItemsOf (.ref t) >>= _) _ _ s
 refine aN (tupleItemsOf_ ht ?_)
 refine aN (wpAny_typeOf hTs ?_)
 rw [if_pos (by decide)]
 refine aN (HT.zc7 hs pl pu ?_)
 show wpAny _ _ (if (((HT.sIx items.size 0 lo:Nat):Int)==0&&(1:Int)==1&&(HT.sIx items.size items.size hi - HT.sIx items.size 0 lo)==items.size)=true then _ else _) _ _ s
 rw [hw.1,hw.2,if_pos (by simp)]
 obtain ⟨o,e1,e2,n,e3⟩:=id ht
 have ex:∀ {A:Around} {E:Value->Shared->Prop} {Q:Bool->Shared->Prop},Q true s->wpAny (model prog w) A (Builtin.Tuple.tupleIsExact (.ref t)) Q E s:=λ{A E Q} q=>by
  unfold Builtin.Tuple.tupleIsExact
  refine aN (wpAny_typeOf ht.typeIs ?_)
  exact bW q
 refine aN (ex ?_)
 rw [if_pos rfl]
 exact aN (wpAny_rule (bW ⟨_,rfl,bW h⟩))
def zU (K:PySem.W.Frag):V->Option Int->Option Int->Hp->VK->Prop:=λx lo hi H Q=>∃ a xs,x = .ref a/\dF K H a xs/\(HT.sIx xs.length 0 lo=0/\HT.sIx xs.length xs.length hi=xs.length)/\Q (.ref a) H
theorem zmP {X:Cx}:pC X (zU X.K):=by
 intro pins s σ H x v vl vu lo hi sl Q I rx hs pl pu h
 obtain ⟨a,xs,rfl,hx,hw,q⟩:=h
 cases rx
 obtain ⟨its,r,ht,hz⟩:=I.tuple hx
 have hlen:its.toArray.size=xs.length:=by rw [dH];exact r.length.symm
 refine ⟨"tuple",_,PyProof.Rows.slot_tuple_getitem.lookup,ht.typeIs,?_⟩
 exact zjf ht hs pl pu (by rw [hlen];exact hw) ⟨.ref a,H,I,rfl,q⟩
section
variable {X:Cx} {e:Expr} {fe:EF} {lo hi:Option Expr} {fl fh:PF} {pos p2:Pos}
theorem zmL:Bm X none kh:=λpins s σ H Q I h=>Zr pins s σ H Q I (by
 obtain ⟨σd,S,α,p,S',hv,hs,hf,k⟩:=h
 cases hf
 exact k _ _ hs Ext.refl)
theorem zmH (he:SE X e fe):Bm X (some e) (jE fe):=λpins s σ H Q I h=>Zt he pins s σ H Q I (by
 obtain ⟨σd,S,α,p,S',hv,hs,hf,k⟩:=h
 unfold jE at hf
 simp only [bA] at hf
 obtain ⟨⟨d,S1⟩,e1,e2⟩:=hf
 refine ⟨σd,S,α,d,S1,hv,hs,e1,λv H1 α1 s1 x1 r1=>?_⟩
 cases r1 with
 | int i=>cases e2;exact ⟨i,rfl,k _ _ s1 x1⟩
 | _=>cases e2)
theorem zlc (he:SE X e fe) (hl:Bm X lo fl) (hh:Bm X hi fh):SE X (.Subscript e (.Slice lo hi none p2) pos) (jJ fe fl fh):=by
 refine PE.imp (zlr (pC.or (pC.or Yt zmP) zmQ) he hl hh) λσ H Q h=>?_
 obtain ⟨σd,S,α,z,S',hv,hs,hf,k⟩:=h
 unfold jJ at hf
 simp only [bA] at hf
 obtain ⟨⟨d,S1⟩,e1,⟨l,S2⟩,e2,⟨u,S3⟩,e3,e4⟩:=hf
 refine ⟨σd,S,α,d,S1,hv,hs,e1,λv H1 α1 s1 x1 r1=>⟨σd,S1,α1,l,S2,hv.mono x1,s1,e2,λH2 α2 s2 x2=>⟨σd,S2,α2,u,S3,(hv.mono x1).mono x2,s2,e3,λH3 α3 s3 x3=>?_⟩⟩⟩
 have r3:=(r1.mono x2).mono x3
 have k3:=k.trans ((x1.trans x2).trans x3)
 simp only at e4
 cases r3 with
 | tup h r =>
  simp only [sX] at e4
  split at e4
  ·rename_i hc
   cases e4
   refine .inl (.inl ⟨_,_,rfl,h,by rw [<-r.length];exact hc,λp hp=>?_⟩)
   exact k3.new s3 (kJ hp) (.tup (dF.of eO) ((QS r).mono (Same.ext (kJ hp))))
  ·rename_i hc
   cases e4
   refine .inl (.inr ⟨_,_,rfl,h,by rw [<-r.length];exact Decidable.not_not.mp hc,?_⟩)
   exact k3 _ _ _ s3 Ext.refl (.tup h r)
 | @ref n a ha =>
  simp only [sX] at e4
  have core:∀ xs,(∃ vs,dh X.K H3 a vs/\aF X.K H3 α3 xs vs)->some (D.ref S3.length,S3++[O.lst (jn xs l u)])=some (z,S')->(zV X.K (.ref a) l u H3 Q\/zU X.K (.ref a) l u H3 Q)\/zW X.K (.ref a) l u H3 Q:=λxs ⟨vs,q,r⟩ e=>by
   cases e
   refine .inr ⟨_,_,rfl,q,λp hp=>?_⟩
   obtain ⟨s4,x4⟩:=s3.snoc (p:=p) (o := .lst (jn xs l u)) (u := .lst (pK vs l u)) hp λα'' e=>⟨_,eO,(QS r).mono e⟩
   exact k3 _ _ _ s4 x4 (.ref (by rw [<-s3.len];simp))
  split at e4
  ·rename_i q;exact core _ (m9 s3 ha (.inl q)) e4
  ·rename_i q;exact core _ (m9 s3 ha (.inr q)) e4
  ·cases e4
 | _=>cases e4
end
abbrev GM:=D->List D->So->Option (D×So)
def uM (K:PySem.W.Frag) (g:GM):V->List V->Hp->VK->Prop:=λv vs H Q=>∃ S α d ds z S',au K H α S/\Rep K H α d v/\aF K H α ds vs/\g d ds S=some (z,S')/\Kt K H α z S' Q
def rB:GM
 | .ref n,[d],S=>match S[n]? with
  | some (.lst xs)=>if xs.length<sizeLine then some (.non,S.set n (.lst (xs++[d]))) else none
  | _=>none
 | _,_,_=>none
theorem zjT {X:Cx}:pF X "list.append" (uM X.K rB):=by
 intro pins s σ H v vs vv us Q I rv rs h
 obtain ⟨S,α,d,ds,z,S',hs,r,rr,hg,k⟩:=h
 unfold rB at hg
 split at hg
 ·cases r with
  | ref ha =>
   split at hg
   ·rename_i e
    split at hg
    ·rename_i hl
     cases hg
     obtain ⟨w,rfl,dX⟩:=rr.inv1
     obtain ⟨ws,q,r⟩:=hs.obj _ _ _ e ha
     refine zjQ pins s σ H _ _ _ us Q I rv rs ⟨_,_,_,rfl,rfl,q,by rw [<-r.length];exact hl,?_⟩
     obtain ⟨s2,x2⟩:=hs.put (o := .lst (_++[_])) (u := .lst (ws++[w])) e rfl rfl ha q (.inl ⟨_,rfl⟩) λx=>⟨_,eO,(r.append (.cons dX .nil)).mono x⟩
     exact k _ _ _ s2 x2 .non
    ·cases hg
   ·cases hg
 ·cases hg
def eM (g:GM) (fo:EF) (fa:AF):EF:=λσ S=>(fo σ S).bind λr=>match r.1 with
 | .ref n=>match r.2[n]? with
  | some (.lst _)=>(fa σ r.2).bind λq=>g r.1 q.1 q.2
  | _=>none
 | _=>none
theorem Ow {X:Cx} {o e:Expr} {es:List Expr} {fo:EF} {fa:AF} {g:GM} {name:Str} {id:String} {apos cpos:Pos} (slot:Slot "list" name id) (hty:typeOf (.builtin id)=pure (.type "method_descriptor")) (hm:pF X id (uM X.K g))
 (ho:SE X o fo) (ha:SA X (e::es) fa) (hbase:attributeBase o name X.env (eval o X.env)=eval o X.env)
 (hfew:((backTo cpos (starEach (e::es) X.env)).all (λx => !x.1)&&(backToKw cpos (keywordEach [] X.env)).all (λx=>x.1.isSome)
  && decide ((e::es).length+([]:List Keyword).length+(if ([]:List Keyword).isEmpty then 0 else 1)<30))=true)
 (hline:(apos.endLine==cpos.line)=true) (hst:starEach (e::es) X.env=(false,eval e X.env)::starEach es X.env) (hplain:(backTo cpos (starEach es X.env)).any (·.1)=false) :
 SE X (.Call (.Attribute o name apos) (e::es) [] cpos) (eM g fo fa):=by
 refine PE.imp (Om PySem.F.plainAttrs_list slot hty hm ho ha hbase hfew hline hst hplain) λσ H Q h=>?_
 obtain ⟨σd,S,α,z,S',hv,hs,hf,k⟩:=h
 unfold eM at hf
 simp only [bA] at hf
 obtain ⟨⟨d,S1⟩,e1,e2⟩:=hf
 refine ⟨σd,S,α,d,S1,hv,hs,e1,λv H1 α1 s1 x1 r1=>?_⟩
 simp only at e2
 split at e2
 ·rename_i n
  split at e2
  ·rename_i xs q
   simp only [bA] at e2
   obtain ⟨⟨ds,S2⟩,e3,e4⟩:=e2
   cases r1 with
   | ref ha =>
    obtain ⟨ws,hw,_⟩:=s1.obj _ _ _ q ha
    refine ⟨.inl ⟨rfl,_,dh.of hw⟩,σd,S1,α1,ds,S2,hv.mono x1,s1,e3,λvs H2 α2 s2 x2 r2=>?_⟩
    exact ⟨S2,α2,_,ds,z,S',s2,.ref (x2.pre _ _ ha),r2,e4,k.trans (x1.trans x2)⟩
  ·cases e2
 ·cases e2
end MX
end
section
namespace MX
open PySem PySem.Spec PyProof.Rows L2
def t8:List D->Option (List Bool)
 | []=>some []
 | .bl b::r=>(t8 r).map (b::·)
 | _::_=>none
theorem Tj {K:PySem.W.Frag} {H:Hp} {α:List Addr}:∀ {ds:List D} {vs:List V} {us:List Value} {bs:List Bool},aF K H α ds vs->Vals vs us->t8 ds=some bs->LSm.BoolsAre us bs
 | _,_,_,_,.nil,.nil,e=>by cases e;exact .nil
 | _,_,_,_,.cons r rr,.cons rv rvs,e=>by
  cases r with
  | bl b =>
   simp only [t8,aU] at e
   obtain ⟨ms,e1,rfl⟩:=e
   cases rv
   exact .cons _ (Tj rr rvs e1)
  | _=>cases e
def oK:GN
 | [.ref n],S=>match S[n]? with
  | some (.lst xs)=>(t8 xs).map λbs=>(.bl (bs.all id),S)
  | _=>none
 | _,_=>none
section
variable {X:Cx}
theorem zi8 {prog:Program} {w:World} {A:Around} {E:Value->Shared->Prop} {s:Shared} {l:Addr} {vs:List Value} {bs:List Bool} {Q:Value->Shared->Prop} (hh:A.handled=none) (hl:s.heap.IsList l vs.toArray) (hb:LSm.BoolsAre vs bs)
 (h:∀ h' tk,(∀ b x,s.heap.get? b=some x->h'.get? b=some x)->Q (.bool (bs.all id)) { s with heap:=h',toks:=tk }):wpAny (model prog w) A (call (.builtin "all") [.ref l]) Q E s:=by
 have hlt:l<s.heap.objs.size:=by obtain ⟨_,e,_⟩:=hl;exact cj e
 refine call_all_walk (wpAny_pyIter_list hl ?_)
 refine ⟨s.heap.objs.size,[s.heap.objs.size,l],[s.heap.objs.size],vs.toArray.size,_,_,λi=>(bs[i]?).getD true,rfl,Walks.list (A:=A.in1) hh _ l (dw hlt) vs.toArray,
  ⟨⟨_,fZ _ rfl,rfl,rfl⟩,hl.push _⟩,λi v s' Q' E' hP hQ=>?_,λh' tk hk=>?_⟩
 ·obtain ⟨b,e,rfl⟩:=hb.get i v (by simpa using hP)
  simp only [e,Option.getD_some] at hQ
  exact wpAny_truthy_bool hQ
 ·have e:((List.range vs.toArray.size).all λi=>(bs[i]?).getD true)=bs.all id:=by
   rw [dH,hb.length];exact LSm.range_all bs
  rw [e]
  exact h h' tk (LSm.kept_iter hk)
theorem VD (hc:X.calm=true):gG X (.builtin "all") (iW X.K oK):=by
 intro pins s σ H vs us Q I rv h
 obtain ⟨S,α,ds,z,S',hs,r,hg,k⟩:=h
 unfold oK at hg
 split at hg
 ·obtain ⟨v,rfl,r0⟩:=r.inv1
  cases r0 with
  | @ref n a ha =>
   split at hg
   ·rename_i e
    simp only [aU] at hg
    obtain ⟨bs,e1,e2⟩:=hg
    cases e2
    obtain ⟨ws,q,r⟩:=m9 hs ha (.inl e)
    obtain ⟨u,rfl,ru⟩:=oX rv
    cases ru
    obtain ⟨its,rr,pl,hz⟩:=I.list q
    exact zi8 (I.ok.hd hc) pl.isList (Tj r rr e1) λh' tk hk=>⟨.bl _,H,I.kept hk,rfl,k.same hs (.bl _)⟩
   ·cases hg
 ·cases hg
theorem ziR {prog:Program} {w:World} {A:Around} {E:Value->Shared->Prop} {s:Shared} {l:Addr} {xs:Array (Int×Tok)} {Q:Value->Shared->Prop} (hh:A.handled=none) (hl:s.heap.IsTuple l (intItems xs)) (hne:0<xs.size)
 (h:∀ v h' tk,(intItems xs)[argBest (λi j=>decide (numAt xs i<numAt xs j)) (xs.size - 1)]?=some v->(∀ b o,s.heap.get? b=some o->h'.get? b=some o)->Q v { s with heap:=h',toks:=tk }) :
 wpAny (model prog w) A (call (.builtin "min") [.ref l]) Q E s:=by
 have hlt:l<s.heap.objs.size:=by obtain ⟨_,e,_⟩:=hl;exact cj e
 refine call_min_walk (wpAny_pyIter_tuple hl ?_)
 refine ⟨_,[s.heap.objs.size,l],[s.heap.objs.size],_,_,_,_,rfl,Walks.tuple (A:=A.in1) hh _ l (dw hlt) (intItems xs),
  ⟨⟨_,fZ _ rfl,rfl,rfl⟩,hl.push _⟩,λc hc=>?_,by simpa [intItems] using hne,CmpOf.ints_lt (numAt xs) (λ_ _=>intItems_at),λv h' tk hP hk=>?_⟩
 ·show c<(s.heap.push _).objs.size
  rw [Heap.size_push]
  rcases List.mem_cons.mp hc with rfl | hc
  ·exact Nat.lt_succ_self _
  ·rcases List.mem_cons.mp hc with rfl | hc
   ·exact Nat.lt_succ_of_lt hlt
   ·cases hc
 ·exact h v h' tk (by simpa [intItems] using hP) (LSm.kept_iter hk)
theorem ziS {prog:Program} {w:World} {A:Around} {E:Value->Shared->Prop} {s:Shared} {l:Addr} {xs:Array (Int×Tok)} {Q:Value->Shared->Prop} (hh:A.handled=none) (hl:s.heap.IsTuple l (intItems xs)) (hne:0<xs.size)
 (h:∀ v h' tk,(intItems xs)[argBest (λi j=>decide (numAt xs i>numAt xs j)) (xs.size - 1)]?=some v->(∀ b o,s.heap.get? b=some o->h'.get? b=some o)->Q v { s with heap:=h',toks:=tk }) :
 wpAny (model prog w) A (call (.builtin "max") [.ref l]) Q E s:=by
 have hlt:l<s.heap.objs.size:=by obtain ⟨_,e,_⟩:=hl;exact cj e
 refine call_max_walk (wpAny_pyIter_tuple hl ?_)
 refine ⟨_,[s.heap.objs.size,l],[s.heap.objs.size],_,_,_,_,rfl,Walks.tuple (A:=A.in1) hh _ l (dw hlt) (intItems xs),
  ⟨⟨_,fZ _ rfl,rfl,rfl⟩,hl.push _⟩,λc hc=>?_,by simpa [intItems] using hne,CmpOf.ints_gt (numAt xs) (λ_ _=>intItems_at),λv h' tk hP hk=>?_⟩
 ·show c<(s.heap.push _).objs.size
  rw [Heap.size_push]
  rcases List.mem_cons.mp hc with rfl | hc
  ·exact Nat.lt_succ_self _
  ·rcases List.mem_cons.mp hc with rfl | hc
   ·exact Nat.lt_succ_of_lt hlt
   ·cases hc
 ·exact h v h' tk (by simpa [intItems] using hP) (LSm.kept_iter hk)
def pO:GN
 | [.tup xs],S=>(mq xs).bind λns=>(jo ns).map λm=>(.int m,S)
 | ds,S=>qJ ds S
def j9:GN
 | [.tup xs],S=>(mq xs).bind λns=>(je ns).map λm=>(.int m,S)
 | ds,S=>nY ds S
theorem Yc (hc:X.calm=true):gG X (.builtin "min") (iW X.K pO):=by
 intro pins s σ H vs us Q I rv h
 obtain ⟨S,α,ds,z,S',hs,r,hg,k⟩:=h
 unfold pO at hg
 split at hg
 ·obtain ⟨v,rfl,r0⟩:=r.inv1
  cases r0 with
  | @tup a ds vs q r1 =>
   simp only [bA,aU] at hg
   obtain ⟨ns,e1,m,e2,e3⟩:=hg
   cases e3
   obtain ⟨u,rfl,ru⟩:=oX rv
   cases ru
   obtain ⟨its,rr,pl,hz⟩:=I.tuple q
   have hi:=wX r1 rr e1
   have hne:0<ns.length:=by
    cases ns with
    | nil=>cases e2
    | cons _ _=>simp
   obtain ⟨xs,hxs⟩:=hi.allInts.items
   have hn:=hi.numsOf
   have hnn:numsOf (intItems xs).toList=ns:=by rw [<-hxs];simpa using hn
   rw [nums_intItems] at hnn
   have hsz:0<xs.size:=by
    have:=congrArg List.length hnn
    simp at this;omega
   have hl':s.heap.IsTuple a (intItems xs):=by rw [<-hxs];exact pl
   refine ziR (I.ok.hd hc) hl' hsz λv h' tk hv hk=>?_
   obtain ⟨t,rfl⟩:=intItems_at hv
   obtain ⟨h1,h2⟩:=argBest_lt (numAt xs) (xs.size - 1)
   have hm:jo ns=some (numAt xs (argBest (λi j=>decide (numAt xs i<numAt xs j)) (xs.size - 1))):=by
    refine Qu ?_ λb hb=>?_
    ·rw [<-hnn,numAt_eq];exact getD_mem (by rw [cQ,Array.length_toList];omega)
    ·rw [<-hnn] at hb
     obtain ⟨j,hj,rfl⟩:=mem_getD hb
     rw [cQ,Array.length_toList] at hj
     rw [<-numAt_eq];exact h2 j (by omega)
   rw [e2] at hm;cases hm
   exact ⟨.int _,H,I.kept hk,⟨t,rfl⟩,k.same hs (.int _)⟩
 ·exact VJ hc pins s σ H vs us Q I rv ⟨S,α,_,z,S',hs,r,hg,k⟩
theorem Yb (hc:X.calm=true):gG X (.builtin "max") (iW X.K j9):=by
 intro pins s σ H vs us Q I rv h
 obtain ⟨S,α,ds,z,S',hs,r,hg,k⟩:=h
 unfold j9 at hg
 split at hg
 ·obtain ⟨v,rfl,r0⟩:=r.inv1
  cases r0 with
  | @tup a ds vs q r1 =>
   simp only [bA,aU] at hg
   obtain ⟨ns,e1,m,e2,e3⟩:=hg
   cases e3
   obtain ⟨u,rfl,ru⟩:=oX rv
   cases ru
   obtain ⟨its,rr,pl,hz⟩:=I.tuple q
   have hi:=wX r1 rr e1
   have hne:0<ns.length:=by
    cases ns with
    | nil=>cases e2
    | cons _ _=>simp
   obtain ⟨xs,hxs⟩:=hi.allInts.items
   have hn:=hi.numsOf
   have hnn:numsOf (intItems xs).toList=ns:=by rw [<-hxs];simpa using hn
   rw [nums_intItems] at hnn
   have hsz:0<xs.size:=by
    have:=congrArg List.length hnn
    simp at this;omega
   have hl':s.heap.IsTuple a (intItems xs):=by rw [<-hxs];exact pl
   refine ziS (I.ok.hd hc) hl' hsz λv h' tk hv hk=>?_
   obtain ⟨t,rfl⟩:=intItems_at hv
   obtain ⟨h1,h2⟩:=argBest_gt (numAt xs) (xs.size - 1)
   have hm:je ns=some (numAt xs (argBest (λi j=>decide (numAt xs i>numAt xs j)) (xs.size - 1))):=by
    refine Qt ?_ λb hb=>?_
    ·rw [<-hnn,numAt_eq];exact getD_mem (by rw [cQ,Array.length_toList];omega)
    ·rw [<-hnn] at hb
     obtain ⟨j,hj,rfl⟩:=mem_getD hb
     rw [cQ,Array.length_toList] at hj
     rw [<-numAt_eq];exact h2 j (by omega)
   rw [e2] at hm;cases hm
   exact ⟨.int _,H,I.kept hk,⟨t,rfl⟩,k.same hs (.int _)⟩
 ·exact VH hc pins s σ H vs us Q I rv ⟨S,α,_,z,S',hs,r,hg,k⟩
end
end MX
end
section
namespace MX
open PySem PySem.Spec PyProof.Rows L2
theorem zi1 (l:Addr) (items:Array Value) (n:Nat) (b:Addr) (items2:Array Value) (n2:Nat) (dd:Option Addr) (sl:Array (Option Value)) (hs0:¬(!items.isEmpty&&Builtin.List.listTooLong (items.size+items2.size))=true) (hs1:items.size<=sizeLine) (hs2:items.size+items2.size<=sizeLine+1) :
 Meets (Builtin.«list.extend» ⟨[.ref l,.ref b],[]⟩) (λ_ R s=>s.heap.get? l=some { cls := .type "list",dict:=none,data := .seq items n,slots:=#[] }/\s.heap.get? b=some { cls := .type "tuple",dict:=dd,data := .seq items2 n2,slots:=sl }/\R (.ok (.ret Value.none)) { s with heap:=s.heap.update l (Obj.mapSeq λx=>x++items2),toks:=s.toks }) :=
 .of_wp λprog w A R s h=>by
  obtain ⟨hp,g,d,tk,os⟩:=s;obtain ⟨hl,hb,h⟩:=h;have f1:=AutoSeq1.idx_int;have f2:=AutoSeq1.sub_tuple_tuple;have f3:=AutoSeq1.sub_list_list;have f4:=AutoSeq1.sub_tuple_list;have f5:=AutoSeq1.sub_list_tuple;
  have hz':(items++items2).size<=sizeLine+1:=by rw [Array.size_append];exact hs2
  wp_walk using (wpAny_updateSeq hl rfl (hz:=hs1) (_hz':=hz')),AutoSeq1.wpAny_loadPart' hl,AutoSeq1.wpAny_loadPart' hb;exact ⟨_,rfl,h⟩
def wz:GM
 | .ref n,[.ref m],S=>match S[n]?,S[m]? with
  | some (.lst xs),some (.lst ys)=>if xs.length+ys.length<=sizeLine then some (.non,S.set n (.lst (xs++ys))) else none
  | _,_=>none
 | .ref n,[.tup ys],S=>match S[n]? with
  | some (.lst xs)=>if xs.length+ys.length<=sizeLine then some (.non,S.set n (.lst (xs++ys))) else none
  | _=>none
 | _,_,_=>none
theorem aF.eraseIdx {K:PySem.W.Frag} {H:Hp} {α:List Addr}:∀ {ds:List D} {vs:List V} (i:Nat),aF K H α ds vs->aF K H α (ds.eraseIdx i) (vs.eraseIdx i)
 | _,_,_,.nil => .nil
 | _,_,0,.cons _ t=>t
 | _,_,i+1,.cons r t => .cons r (aF.eraseIdx i t)
theorem aF.dropLast {K:PySem.W.Frag} {H:Hp} {α:List Addr} {ds:List D} {vs:List V} (r:aF K H α ds vs):aF K H α ds.dropLast vs.dropLast:=by
 rw [List.dropLast_eq_take,List.dropLast_eq_take,r.length]
 exact r.take _
theorem zjS {X:Cx}:pF X "list.extend" (uM X.K wz):=by
 intro pins s σ H v vs vv us Q I rv rs h
 obtain ⟨S,α,d,ds,z,S',hs,r,rr,hg,k⟩:=h
 unfold wz at hg
 split at hg
 ·cases r with
  | ref ha =>
   split at hg
   ·rename_i e1 e2
    split at hg
    ·rename_i hl
     cases hg
     obtain ⟨w,rfl,dX⟩:=rr.inv1
     cases dX with
     | ref hb =>
      obtain ⟨ws,q,r⟩:=hs.obj _ _ _ e1 ha
      obtain ⟨ws2,q2,r2⟩:=hs.obj _ _ _ e2 hb
      refine zjP pins s σ H _ _ _ us Q I rv rs ⟨_,_,_,_,rfl,rfl,q,q2,by rw [<-r.length,<-r2.length];exact hl,?_⟩
      obtain ⟨s2,x2⟩:=hs.put (o := .lst (_++_)) (u := .lst (ws++ws2)) e1 rfl rfl ha q (.inl ⟨_,rfl⟩) λx=>⟨_,eO,(r.append r2).mono x⟩
      exact k _ _ _ s2 x2 .non
    ·cases hg
   ·cases hg
 ·cases r with
  | ref ha =>
   split at hg
   ·rename_i xs e1
    split at hg
    ·rename_i hl
     cases hg
     obtain ⟨w,rfl,dX⟩:=rr.inv1
     cases dX with
     | tup hb r2 =>
      obtain ⟨ws,q,r⟩:=hs.obj _ _ _ e1 ha
      cases rv
      obtain ⟨u,rfl,ru⟩:=rs.one
      cases ru
      obtain ⟨hz,its,n0,nM,hli,ho⟩:=I.lstM q
      obtain ⟨its2,sH,⟨⟨c2,dd2,dt2,sl2⟩,ho2,hc2,n2,hd2⟩,hz2⟩:=I.tuple hb
      simp only at hc2 hd2
      subst hc2 hd2
      have e3:its.length=xs.length:=by rw [<-hli,r.length]
      have e4:=sH.length
      rw [<-r2.length] at e4
      have hsz:its.toArray.size+its2.toArray.size<=sizeLine:=by rw [dH,dH,e3,<-e4];exact hl
      have nU:¬ (!its.toArray.isEmpty&&Builtin.List.listTooLong (its.toArray.size+its2.toArray.size))=true:=by
       rw [Og hsz,Bool.and_false]
       exact fQ
      refine call_meets F.slot_list_extend ⟨_,ho,rfl⟩ F.entry_list_extend (F.args_list_extend_2 _ _)
       (zi1 _ its.toArray n0 _ its2.toArray n2 dd2 sl2 nU (by omega) (by omega)) ⟨ho,ho2,?_⟩
      obtain ⟨s2,x2⟩:=hs.put (o := .lst (xs++_)) (u := .lst (ws++_)) e1 rfl rfl ha q (.inl ⟨_,rfl⟩) λx=>⟨_,eO,(r.append r2).mono x⟩
      refine ⟨.non,_,I.lset (its':=its++its2) q ho (by simp) (nM.append sH) ?_,rfl,k _ _ _ s2 x2 .non⟩
      rw [gQ,<-r.length,<-r2.length]
      exact hl
    ·cases hg
   ·cases hg
 ·cases hg
def lR:GM
 | .ref n,[],S=>match S[n]? with
  | some (.lst xs)=>(xs[xs.length - 1]?).map λd=>(d,S.set n (.lst xs.dropLast))
  | _=>none
 | .ref n,[.int i],S=>match S[n]? with
  | some (.lst xs)=>if -(2 ^ 63)<=i/\i<2 ^ 63 then (seqIndex? i xs.length).bind λk=>(xs[k]?).map λd=>(d,S.set n (.lst (xs.eraseIdx k))) else none
  | _=>none
 | _,_,_=>none
theorem Xe {X:Cx}:pF X "list.pop" (uM X.K lR):=by
 intro pins s σ H v vs vv us Q I rv rs h
 obtain ⟨S,α,d,ds,z,S',hs,r,rr,hg,k⟩:=h
 unfold lR at hg
 split at hg
 ·cases r with
  | ref ha =>
   split at hg
   ·rename_i xs e
    simp only [aU] at hg
    obtain ⟨d,e1,e2⟩:=hg
    cases e2
    cases rr
    obtain ⟨ws,q,r⟩:=hs.obj _ _ _ e ha
    obtain ⟨w,ew,dX⟩:=r.get e1
    refine Xf pins s σ H _ _ _ us Q I rv rs ⟨_,_,w,rfl,rfl,q,by rw [<-r.length];exact ew,?_⟩
    obtain ⟨s2,x2⟩:=hs.put (o := .lst xs.dropLast) (u := .lst ws.dropLast) e rfl rfl ha q (.inl ⟨_,rfl⟩) λx=>⟨_,eO,r.dropLast.mono x⟩
    exact k _ _ _ s2 x2 (dX.mono x2)
   ·cases hg
 ·cases r with
  | ref ha =>
   split at hg
   ·rename_i xs e
    split at hg
    ·rename_i hb
     simp only [bA,aU] at hg
     obtain ⟨kk,e0,d,e1,e2⟩:=hg
     cases e2
     obtain ⟨w0,rfl,r0⟩:=rr.inv1
     cases r0
     obtain ⟨ws,q,r⟩:=hs.obj _ _ _ e ha
     obtain ⟨w,ew,dX⟩:=r.get e1
     refine zly pins s σ H _ _ _ us Q I rv rs ⟨_,_,_,kk,w,rfl,rfl,q,hb.1,hb.2,by rw [<-r.length];exact e0,ew,?_⟩
     obtain ⟨s2,x2⟩:=hs.put (o := .lst (xs.eraseIdx kk)) (u := .lst (ws.eraseIdx kk)) e rfl rfl ha q (.inl ⟨_,rfl⟩) λx=>⟨_,eO,(r.eraseIdx kk).mono x⟩
     exact k _ _ _ s2 x2 (dX.mono x2)
    ·cases hg
   ·cases hg
 ·cases hg
def Bh (g:GM) (fo:EF):EF:=λσ S=>(fo σ S).bind λr=>match r.1 with
 | .ref n=>match r.2[n]? with
  | some (.lst _)=>g r.1 [] r.2
  | _=>none
 | _=>none
theorem YW {X:Cx} {o:Expr} {fo:EF} {g:GM} {name:Str} {id:String} {apos cpos:Pos} (slot:Slot "list" name id) (hty:typeOf (.builtin id)=pure (.type "method_descriptor")) (hm:pF X id (uM X.K g))
 (ho:SE X o fo) (hbase:attributeBase o name X.env (eval o X.env)=eval o X.env) (hline:(apos.endLine==cpos.line)=true) :
 SE X (.Call (.Attribute o name apos) [] [] cpos) (Bh g fo):=by
 refine PE.imp (Xr PySem.F.plainAttrs_list slot hty hm ho hbase hline) λσ H Q h=>?_
 obtain ⟨σd,S,α,z,S',hv,hs,hf,k⟩:=h
 unfold Bh at hf
 simp only [bA] at hf
 obtain ⟨⟨d,S1⟩,e1,e2⟩:=hf
 refine ⟨σd,S,α,d,S1,hv,hs,e1,λv H1 α1 s1 x1 r1=>?_⟩
 simp only at e2
 split at e2
 ·rename_i n
  split at e2
  ·rename_i xs q
   cases r1 with
   | ref ha =>
    obtain ⟨ws,hw,_⟩:=s1.obj _ _ _ q ha
    exact ⟨.inl ⟨rfl,_,dh.of hw⟩,S1,α1,_,[],z,S',s1,.ref ha,.nil,e2,k.trans x1⟩
  ·cases e2
 ·cases e2
end MX
end
section
namespace MX
open PySem PySem.Spec PyProof.Rows L2
def vZ:GM
 | .ref n,[.int k],S=>match S[n]? with
  | some (.lst xs)=>(mq xs).bind λns=>if k∈ns then some (.int (ns.idxOf k:Nat),S) else none
  | _=>none
 | _,_,_=>none
theorem zhq {prog:Program} {w:World} {A:Around} {E:Value->Shared->Prop} {s:Shared} {l:Addr} {vs:List Value} {ns:List Int} {k:Int} {t:Tok} {Q:Value->Shared->Prop} (hl:s.heap.IsList l vs.toArray) (hi:IntsAre vs ns)
 (hb:ns.length<=sizeLine) (hk:k∈ns) (h:Q (.int (ns.idxOf k:Nat) s.toks) { s with toks:=s.toks+1 }) :
 wpAny (model prog w) A (call (.builtin "list.index") [.ref l,.int k t]) Q E s:=by
 obtain ⟨⟨cls,dd,data,sl⟩,ho,hc,n,hd⟩:=id hl
 simp only at hc hd
 subst hc hd
 have hlen:=hi.length
 have hj:ns.idxOf k<ns.length:=List.idxOf_lt_length_iff.mpr hk
 rw [sizeLine_eq] at hb
 refine call_meets PySem.F.slot_list_index ⟨_,ho,rfl⟩ PySem.F.entry_list_index (PySem.F.args_list_index_2 _ _)
  (PySem.SeqAt.list_indexAt l vs.toArray n dd sl (.int k t) (isInt k) (ns.idxOf k) (by simpa [hlen] using hj) (by omega) ?_ ?_) ⟨ho,λy hy=>(eq_isInt k t hi y (by simpa using hy)).at _ _,h⟩
 ·show isInt k vs[ns.idxOf k]=true
  rw [isInt_at k hi _ (by omega) hj]
  simpa using List.getElem_idxOf hj
 ·intro j hjs hlt
  show isInt k vs[j]=false
  rw [isInt_at k hi j (by simpa using hjs) (by omega)]
  exact ne_of_lt_idxOf hlt _
theorem zlz {X:Cx}:pF X "list.index" (uM X.K vZ):=by
 intro pins s σ H v vs vv us Q I rv rs h
 obtain ⟨S,α,d,ds,z,S',hs,r,rr,hg,k⟩:=h
 unfold vZ at hg
 split at hg
 ·cases r with
  | ref ha =>
   split at hg
   ·rename_i xs e
    simp only [bA] at hg
    obtain ⟨ns,e1,e2⟩:=hg
    split at e2
    ·rename_i hk
     cases e2
     obtain ⟨w,rfl,dX⟩:=rr.inv1
     cases dX
     cases rv
     obtain ⟨u,rfl,ru⟩:=rs.one
     obtain ⟨t,rfl⟩:=ru
     obtain ⟨ws,q,rws⟩:=hs.obj _ _ _ e ha
     obtain ⟨hz,its,n0,nM,hl,ho⟩:=I.lstM q
     have hi:=wX rws nM e1
     refine zhq (vs:=its) ⟨_,ho,rfl,n0,rfl⟩ hi (by rw [<-hi.length,<-hl];exact hz) hk ?_
     exact ⟨.int _,H,I.tok _,⟨_,rfl⟩,k.same hs (.int _)⟩
    ·cases e2
   ·cases hg
 ·cases hg
end MX
end
section
namespace MX
open PySem PySem.Spec PyProof.Rows L2
def v9:List D->Option (List Str)
 | []=>some []
 | d::r=>match d with
  | .str x=>(v9 r).map λl=>x::l
  | _=>none
theorem RG {K:PySem.W.Frag} {H:Hp} {α:List Addr}:∀ {ds:List D} {vs:List V} {us:List Value} {ys:List Str},aF K H α ds vs->Vals vs us->v9 ds=some ys->StrsAre us ys
 | _,_,_,_,.nil,.nil,e=>by cases e;exact .nil
 | _,_,_,_,.cons r rr,.cons v vv,e=>by
  unfold v9 at e
  split at e
  ·simp only [aU] at e
   obtain ⟨l,e1,rfl⟩:=e
   cases r
   obtain ⟨t,rfl⟩:=v
   exact .cons _ t (RG rr vv e1)
  ·cases e
theorem RJ:∀ ys:List Str,v9 (ys.map D.str)=some ys
 | []=>rfl
 | y::r=>by show (v9 (r.map D.str)).map _=_;rw [RJ r];rfl
def v8 (x:Str):GN
 | [.ref n],S=>match S[n]? with
  | some (.lst xs)=>(v9 xs).bind λys=>if x.length<=16/\(ys.map (·.length)).sum+ys.length<=1048576 then some (.str (Txt.join x ys),S) else none
  | _=>none
 | _,_=>none
def uc (x:Str) (fa:AF):EF:=λσ S=>(fa σ S).bind λq=>v8 x q.1 q.2
theorem ZR {X:Cx}:pF X "str.join" (λv vs H Q=>∃ x,v = .str x/\iW X.K (v8 x) vs H Q):=by
 intro pins s σ H v vs vv us Q I rv rs h
 obtain ⟨x,rfl,S,α,ds,z,S',hs,rr,hg,k⟩:=h
 unfold v8 at hg
 split at hg
 ·obtain ⟨w,rfl,dX⟩:=rr.inv1
  cases dX with
  | ref ha =>
   split at hg
   ·rename_i xs e
    simp only [bA] at hg
    obtain ⟨ys,e1,e2⟩:=hg
    split at e2
    ·rename_i hb
     cases e2
     obtain ⟨t,rfl⟩:=rv
     obtain ⟨u,rfl,ru⟩:=rs.one
     cases ru
     obtain ⟨ws,q,rws⟩:=hs.obj _ _ _ e ha
     obtain ⟨hz,its,n0,nM,hl,ho⟩:=I.lstM q
     have hi:=RG rws nM e1
     refine join_listW (items:=its.toArray) ⟨_,ho,rfl,n0,rfl⟩ (by simpa using hi) hb.1 hb.2 λt' k'=>?_
     exact ⟨.str _,H,I.tok _,⟨_,rfl⟩,k.same hs (.str _)⟩
    ·cases e2
   ·cases hg
 ·cases hg
section
variable {X:Cx} {e:Expr} {es:List Expr} {fa:AF} {x:Str} {apos cpos p:Pos} {j:Option String}
theorem zm0 {j} (ha:SA X (e::es) fa)
 (hfew:((backTo cpos (starEach (e::es) X.env)).all (λx => !x.1)&&(backToKw cpos (keywordEach [] X.env)).all (λx=>x.1.isSome)
  && decide ((e::es).length+([]:List Keyword).length+(if ([]:List Keyword).isEmpty then 0 else 1)<30))=true)
 (hline:(apos.endLine==cpos.line)=true) (hst:starEach (e::es) X.env=(false,eval e X.env)::starEach es X.env) (hplain:(backTo cpos (starEach es X.env)).any (·.1)=false) :
 SE X (.Call (.Attribute (.Constant (.str x) j p) "join" apos) (e::es) [] cpos) (uc x fa):=by
 refine PE.imp (Om PySem.F.plainAttrs_str PySem.F.slot_str_join PySem.F.type_str_join ZR (Pa (x:=x)) ha rfl hfew hline hst hplain) λσ H Q h=>?_
 obtain ⟨σd,S,α,z,S',hv,hs,hf,k⟩:=h
 unfold uc at hf
 simp only [bA] at hf
 obtain ⟨⟨ds,S1⟩,e1,e2⟩:=hf
 refine ⟨rfl,σd,S,α,ds,S1,hv,hs,e1,λvs H1 α1 s1 x1 r1=>⟨x,rfl,S1,α1,ds,z,S',s1,r1,e2,k.trans x1⟩⟩
theorem zm1 {y:Str} {t:Tok} (hg:Gl X x) (hm:X.mg x=some (.str y t)) (hdb:(x==("__debug__" : Str))=false):SE X (.Name x p) (eC (.str y)):=by
 intro pins s σ H Q I h
 obtain ⟨σd,S,α,z,S',hv,hs,hf,k⟩:=h
 cases hf
 exact HB I hg hm ⟨.str y,H,I,⟨_,rfl⟩,k.same hs (.str _)⟩ hdb
end
end MX
end
section
namespace MX
open PySem PySem.Spec PySem.W PyProof.Rows L2
def vz (P:Program) (w:World) (K:PySem.W.Frag) (mg:Str->Option Value) (base:Heap) (N:List Str) (qual:Str) (scope:Scope) (f:Addr) (cd:Value) (cl:List (Str×Addr)) (A:Around) (outer:List Env) (s:Shared) (H:Hp) (E:XK):Cx where
 prog:=P
 w:=w
 K:=K
 mg:=mg
 base:=base
 A:=A.deeper (envX qual scope s.heap.objs.size f cd cl)
 N:=N
 s₀:=s
 H₀:=H
 env:=envX qual scope s.heap.objs.size f cd cl
 outer:=outer
 stack:=envX qual scope s.heap.objs.size f cd cl::outer
 ex:=[]
 calm:=true
 fn:=λ_=>false
 pn:=[]
 xe:=λe s'=>wpAny (model P w) (A.deeper (envX qual scope s.heap.objs.size f cd cl)) (leaving (envX qual scope s.heap.objs.size f cd cl) e) (λ_ s''=>gP outer H s E e s'') (λe' s''=>gP outer H s E e' s'') s'
structure oE (p:Str) (scope:Scope) (cl:List (Str×Addr)):Prop where
 kind:scope.kind = .function
 co:scope.isCoroutine=false
 gen:scope.isGenerator=false
 par:scope.names.lookup p=some .local
 nocell:∀ x∈scope.names,x.2 ≠ .cell
 has:∀ x,scope.names.lookup x=some .free->∃ c,cl.lookup x=some c
 inj:∀ x y c,cl.lookup x=some c->cl.lookup y=some c->x=y
theorem ZS {scope:Scope} (h:∀ x∈scope.names,x.2≠NameKind.cell) (x:Str):scope.names.lookup x≠some .cell:=λe=>h _ (gD e) rfl
theorem lV {prog:Program} {w:World} {A:Around} {R:Result->Shared->Prop} {s:Shared} {a:Addr} {args:Args} {o:Obj} {fd:FuncData} {body:Expr} {q:Str} (hroom:A.depth<recursionLimit)
 (ho:s.heap.get? a=some o) (hd':o.data = .func fd) (hco:fd.scope.isCoroutine=false) (hgen:fd.scope.isGenerator=false) (hbody:fd.body = .expr body) (hcd:s.heap.CodeRec fd.code q)
 (h:wpAny (model prog w) A.in1 (bindArgs fd args) (λbinds s₁ =>
  wpAny (model prog w) A.in1 (newFunctionEnv fd.scope fd.globals fd.closure binds (q ++ ".<locals>.") (some a) fd.code none fd.builtins)
   (λenv s₂=>s₂.heap.NoLimit/\codeAny (model prog w) A (.expr body env) R s₂) (λe s'=>R (.error e) s') s₁) (λe s'=>R (.error e) s') s) :
 codeAny (model prog w) A (.call (.ref a) args) R s:=by
 refine codeAny_of_tree ?_
 show wpAny _ A.in1 (callAny (.ref a) args) _ _ s
 simp only [callAny]
 refine aN (wpAny_load ho ?_)
 obtain ⟨c,oc,vs,tq,hc,hoc,hdc,hq⟩:=hcd
 simp only [hd',callFunction,hco,hgen,hbody,hc]
 rw [hc] at h
 refine aN (m:=field (.ref c) 1) (wpAny_field hoc hdc hq (aN (bW ?_)))
 exact aN (jm h (λbinds s₁ h₁=>aN (jm h₁ (λenv s₂ h₂=>aN (wpAny_enterFrame h₂.1 hroom
  (bW (And.intro rfl h₂.2)))) λ_ _ h'=>h')) λ_ _ h'=>h')
theorem Xb {P:Program} {w:World} {K:PySem.W.Frag} {mg:Str->Option Value} {base:Heap} {k:Nat} {a:Addr} {name qual:Str} {params:Arguments} {body:Expr} {scope:Scope} {cl:List (Str×Addr)} {pm cdv ctv:Value} {o:Obj} {p:Str} {cap:List Str} {fX:List V} {cus:List Value} {sp:Sp}
 {Pt:Addr} {bQ:Pos}
 (ho:base.get? a=some o) (hod:o.data = .func (kla_fn name qual params body scope cl pm cdv ctv)) (hcd:∀ vs H Q E,sp vs H Q E->∃ ps,H Pt=some (.tbl ps)/\codeAmong bQ ps.toList=some cdv) (S:oE p scope cl)
 (hcells:∀ x c,cl.lookup x=some c->∃ v,base.IsCell c v) (hcap:∀ (i:Nat) x v,cap[i]?=some x->fX[i]?=some v->scope.names.lookup x=some .free/\∃ c u,cl.lookup x=some c/\base.IsCell c (some u)/\RelV v u) (hlen:cap.length=fX.length)
 (len:∀ vs H Q E,sp vs H Q E->vs.length=1)
 (hbody:∀ (qual:Str) (A:Around) (outer:List Env) (s:Shared) (H:Hp) (v:V) (Q:VK) (E:XK),bG k (A.deeper (envX qual scope s.heap.objs.size a cdv cl))->sp [v] H Q E ->
  ∃ t,PE (vz P w K mg base (p::cap) qual scope a cdv cl A outer s H E).nox body t/\t (some v::fX.map some) H Q) :
 cN P w K mg base gP (k+1) a (kla_fn name qual params body scope cl pm cdv ctv) [p] sp:=by
 refine ⟨len,λA outer s H args us vs Q E hr e0 hb r hsp=>?_⟩
 have hl:=len _ _ _ _ hsp
 obtain ⟨v,rfl⟩:∃ v,vs=[v]:=by
  match vs,hl with
  | [v],_=>exact ⟨v,rfl⟩
 obtain ⟨u,rfl,rv⟩:∃ u,us=[u]/\RelV v u:=by
  cases r with
  | cons h1 h2=>cases h2;exact ⟨_,rfl,h1⟩
 have bk:∀ b o,base.get? b=some o->s.heap.get? b=some o:=λb o e=>(e0.bs b o e).1
 have lim:s.heap.NoLimit:=e0.mod.nolimit.keeps bk
 obtain ⟨ps,hps,ham⟩:=hcd _ _ _ _ hsp
 obtain ⟨_,_,hcp⟩:=e0.hok Pt _ hps
 obtain ⟨cc,q,oc,vs,tq,hc1,_,hc2,hc3,hc4⟩:=hcp bQ cdv ham
 have cr:s.heap.CodeRec cdv q:=⟨cc,oc,vs,tq,hc1,hc2,hc3,hc4⟩
 obtain ⟨t,ht,hq⟩:=hbody q A outer s H v Q E (hr.deeper _) hsp
 refine lV hr.depth (bk _ _ ho) hod S.co S.gen rfl cr (hb _ _ _ _ ?_)
 have hloc:∀ y∈[p].zip [u],scope.names.lookup y.1=some .local:=λy hy=>by
  have:y=(p,u):=by simpa using hy
  subst this;exact S.par
 refine wpAny_newFunctionEnv S.nocell hloc (λh₁ hns hsb=>⟨lim.fresh _ hsb,?_⟩) S.kind
 show codeAny _ _ (.expr body (envX q scope s.heap.objs.size a cdv cl)) _ _
 have hk₁:∀ b o,s.heap.get? b=some o->h₁.get? b=some o:=λb o e=>hsb.extBut b o (dw (cj e)) (c7 _ e)
 have cellK:∀ c v,base.IsCell c v->h₁.IsCell c v:=λc v ⟨o,e,d⟩=>⟨o,hk₁ _ _ (bk _ _ e),d⟩
 have qC:∀ b:Addr,b∉(vz P w K mg base (p::cap) q scope a cdv cl A outer s H E).ex:=λb z=>absurd (show b∈([]:List Addr) from z) (by simp)
 have I:Inv (vz P w K mg base (p::cap) q scope a cdv cl A outer s H E) [] (some v::fX.map some) H { s with heap:=h₁,toks:=s.toks+([p].zip [u]).length }:=by
  refine ⟨⟨e0.mod,S.kind,rfl,rfl,bR _,S.inj,λy hy=>?_,λy c hf _=>(nomatch hf),λ_=>hr.hd,Around.frames_deeper e0.frames,.inr ⟨rfl,rfl⟩,λb z=>absurd z (qC b),e0.bs,e0.bsz,λb _ _=>qC b,λb z=>absurd z (qC b),e0.funs,e0.frf⟩,
   rfl,e0.bare,Un.kept hk₁,⟨_,hns,λi y z h1 h2 h3=>?_⟩,λy c h=>?_,e0.hok.fresh (bR _),λy c h=>?_,λq hq=>absurd (show q∈([]:List (Addr×Obj)) from hq) (by simp),e0.hok.kept hk₁,?_⟩
  ·rcases hy with hy | hy
   ·exact absurd hy (ZS S.nocell y)
   ·exact S.has y hy
  ·cases i with
   | zero =>
    have e1:p=y:=by simpa [vz] using h1
    have e2:v=z:=by simpa using h2
    subst e1 e2
    exact ⟨u,rv,.inl ⟨S.par,by simp⟩⟩
   | succ i =>
    have e1:cap[i]?=some y:=by simpa [vz] using h1
    have e2:fX[i]?=some z:=by
     rw [List.getElem?_cons_succ,eV] at h2
     cases q:fX[i]? with
     | none=>rw [q] at h2;cases h2
     | some x=>rw [q] at h2;cases h2;rfl
    obtain ⟨k1,c,u',k2,k3,k4⟩:=hcap i y z e1 e2
    exact ⟨u',k4,.inr ⟨.inr k1,c,k2,cellK _ _ k3⟩⟩
  ·obtain ⟨v',hv⟩:=hcells y c h
   exact ⟨v',cellK _ _ hv⟩
  ·obtain ⟨v',o',ho',_⟩:=hcells y c h
   exact (e0.bs _ _ ho').2
  ·show _=(p::cap).length
   simp [hlen]
 refine kla_codeExpr (jm (ht.nox [] _ _ H Q I hq) (λu' s' hs=>?_) λe s' hs=>hs)
 obtain ⟨v',H',J,rv',q⟩:=hs
 exact ⟨v',H',J.os,J.bare,J.base,J.hok,rv',q⟩
section
variable {X:Cx} {x:Str} {p pos:Pos} {e:Expr} {es:List Expr} {t:TA}
structure fu (H H':Hp):Prop where
 tups:∀ b xs,H b=some (.tup xs)->H' b=some (.tup xs)
 tbls:∀ b ps,H b=some (.tbl ps)->∃ more,H' b=some (.tbl (ps++more))
 frzs:∀ b o u,H b=some (.frz o u)->H' b=some (.frz o u)
end
end MX
end
section
namespace MX
open PySem PySem.Spec PySem.W PyProof.Rows L2
def BM (h:Heap) (mg:Str->Option Value):Prop:=∃ bm o,mg "__builtins__" = some (.ref bm)/\bm≠builtinsNs/\h.get? bm=some o/\o.cls = .type "module" /\ o.dict=some builtinsNs/\o.data = .plain
def iI (H H':Hp):Prop:=(∀ b o,H b=some o->(∀ ps,o ≠ .tbl ps)->H' b=some o)/\∀ b ps,H b=some (.tbl ps)->∃ qs,H' b=some (.tbl qs)
theorem zi7 {pos:Pos} {cv:Value}:∀ (l more:List Value),codeAmong pos l=some cv->codeAmong pos (l++more)=some cv:=λl more=>by
 fun_induction codeAmong pos l with
 | case1 line a col b c rest hc =>
  intro e
  simp only [List.cons_append,codeAmong]
  rw [if_pos hc];exact e
 | case2 line a col b c rest hc ih =>
  intro e
  simp only [List.cons_append,codeAmong]
  rw [if_neg hc];exact ih e
 | case3=>intro e;cases e
theorem zi6 {pos pos':Pos} {c cv:Value}:∀ l:List Value,TriplesOk l->codeAmong pos (l++[rawInt pos'.line,rawInt pos'.col,c])=some cv->codeAmong pos l=some cv\/cv=c:=λl h=>by
 fun_induction TriplesOk l with
 | case1 =>
  intro e
  simp only [vV,codeAmong,rawInt] at e
  split at e
  ·cases e;exact .inr rfl
  ·cases e
 | case2 a' t b' u x rest ih =>
  intro e
  simp only [List.cons_append,codeAmong] at e ⊢
  split at e
  ·rename_i hc;rw [if_pos hc];exact .inl e
  ·rename_i hc;rw [if_neg hc];exact ih h e
 | case3 l h1 h2=>exact h.elim
section
variable {X:Cx} {pins:List (Addr×Obj)} {σ:L2.St} {H:Hp} {s:Shared}
theorem Q9 (I:Inv X pins σ H s) {h':Heap} {t':Nat} (k:∀ b o,s.heap.get? b=some o->h'.get? b=some o):Inv X pins σ H { s with heap:=h',toks:=t' } :=
 I.step (h':=h') (g':=s.gens) (d':=s.drawn) (ch:=[]) (λ_ z=>nomatch z) (λb o _ _ _ e _=>k b o e) (λb o _ _ _ e _=>⟨o.slots,k b o e⟩) (λb o _ _ n=>n) (λb o _ e=>⟨o,k b o e⟩) (λ_ _ q=>q) (λ_ _ _ q=>q) (λ_ ps q=>⟨#[],by rw [q];simp⟩)
  (λm ⟨o,es,ep,e,r⟩=>⟨o,es,ep,k _ _ e,r⟩) (I.hok.kept k) I.bare
theorem zkh (I:Inv X pins σ H s) {P c':Addr} {ps:Array Value} {h':Heap} {t':Nat} {bQ:Pos} {q:Str} (hT:H P=some (.tbl ps)) (hx:Heap.ExtBut P s.heap h') (hge:s.heap.objs.size<=c') (hrec:h'.CodeRec (.ref c') q)
 (hP:h'.get? P=some (tabObj (ps++#[rawInt bQ.line,rawInt bQ.col,.ref c']))) :
 Inv X pins σ (upd (upd H P (.tbl (ps++#[rawInt bQ.line,rawInt bQ.col,.ref c']))) c' (.own P)) { s with heap:=h',toks:=t' }:=by
 have hc:H c'=none:=I.hok.fresh hge
 have hPc:P≠c':=λz=>by rw [z,hc] at hT;cases hT
 have Fv:∀ b,H b=none->b≠P:=λb n z=>by rw [z,hT] at n;cases n
 have sJ:∀ b o,s.heap.get? b=some o->b≠c':=λb o e z=>absurd (dj (cj e) (z ▸ hge)) (gF _)
 have old:∀ b,b≠P->b≠c'->upd (upd H P (.tbl (ps++#[rawInt bQ.line,rawInt bQ.col,.ref c']))) c' (.own P) b=H b:=λb h1 h2=>by rw [bY h2,bY h1]
 have oldS:∀ b o,H b=some o->b≠P->upd (upd H P (.tbl (ps++#[rawInt bQ.line,rawInt bQ.col,.ref c']))) c' (.own P) b=some o:=λb o e h1=>by
  rw [old b h1 (fU e hc)];exact e
 obtain ⟨eP,tP,cP⟩:=I.hok P _ hT
 refine I.step (h':=h') (g':=s.gens) (d':=s.drawn) (ch:=[]) (λ_ z=>nomatch z) (λb o _ _ _ e n=>hx b o (Fv b n) e) (λb o _ _ _ e n=>⟨o.slots,hx b o (Fv b n) e⟩) (λb o _ e n=>by rw [old b (Fv b n) (sJ b o e)];exact n) (λb o _ e=>?_)
  (λb xs q=>oldS b _ q λz=>by rw [z,hT] at q;cases q) (λb o u q=>oldS b _ q λz=>by rw [z,hT] at q;cases q) (λb qs e=>?_) (λm hm=>hm.extBut hx (Fv _ I.free)) (λb o e=>?_) I.bare
 ·by_cases hb:b=P
  ·subst hb;exact ⟨_,hP⟩
  ·exact ⟨o,hx b o hb e⟩
 ·by_cases hb:b=P
  ·subst hb
   rw [hT] at e;cases e
   exact ⟨_,by rw [bY hPc,eO]⟩
  ·exact ⟨#[],by rw [oldS b _ e hb];simp⟩
 ·obtain ⟨c2,oc,vs,t,ec,hoc,hod,hv⟩:=hrec
  cases ec
  by_cases h1:b=c'
  ·subst h1
   rw [eO] at e;cases e
   exact ⟨_,hoc⟩
  ·rw [bY h1] at e
   by_cases h2:b=P
   ·subst h2
    rw [eO] at e;cases e
    refine ⟨hP,by rw [Array.toList_append];exact TriplesOk_snoc _ _ _ _ tP,λpos cv q=>?_⟩
    rw [Array.toList_append] at q
    rcases zi6 _ tP q with q | q
    ·obtain ⟨c3,q3,oc3,vs3,t3,e1,e2,e3,e4⟩:=cP pos cv q
     have n3:c3≠b:=λz=>by rw [z,hT] at e2;cases e2
     exact ⟨c3,q3,oc3,vs3,t3,e1,oldS _ _ e2 n3,hx _ _ n3 e3,e4⟩
    ·exact ⟨c',_,oc,vs,t,q,eO,hoc,hod,hv⟩
   ·rw [bY h2] at e
    refine (I.hok b o e).stay (λx u hxb g=>hx x u ?_ g) (λx g=>oldS x _ g λz=>by rw [z,hT] at g;cases g) λx xs g=>oldS x _ g λz=>by rw [z,hT] at g;cases g
    rcases hxb with z | z
    ·rw [z];exact h2
    ·intro y;rw [y,hT] at z;cases z
end
section
variable {X:Cx} {pins:List (Addr×Obj)} {σ:L2.St} {H:Hp} {s:Shared} {params:Arguments} {body:Expr} {scope:Scope} {bQ:Pos} {clos:List (Str×Addr)} {c P:Addr} {ps:Array Value} {R:Value->Shared->Prop}
structure Made (X:Cx) (pins:List (Addr×Obj)) (σ:L2.St) (H:Hp) (s:Shared) (params:Arguments) (body:Expr) (scope:Scope) (clos:List (Str×Addr)) (P:Addr) (bQ:Pos) (a:Addr) (s':Shared) (H':Hp):Prop where
 inv:Inv X pins σ H' s'
 same:iI H H'
 keep:∀ b o,s.heap.get? b=some o->H b=none->s'.heap.get? b=some o/\H' b=none
 no:H' a=none
 new:s.heap.objs.size<=a
 obj:∃ pm cdv ctv,s'.heap.get? a=some { cls := .type "function",data := .func (kla_fn "<lambda>" (X.env.qual ++ "<lambda>") params body scope clos pm cdv ctv) }/\∃ ps,H' P=some (.tbl ps)/\codeAmong bQ ps.toList=some cdv
theorem zlE (I:Inv X pins σ H s) (hT:H P=some (.tbl ps)) (hcode:X.env.code = .ref c) (C:CodeHd X.base c P) (B:BM X.base X.mg) (hcl:closureFor scope X.env=pure clos) (hdef:defaultsOf params X.env=([],[]))
 (h:∀ a s' H',Made X pins σ H s params body scope clos P bQ a s' H'->R (.ref a) s'):wpAny (model X.prog X.w) X.A (eval (.Lambda params body scope bQ) X.env) R X.xe s:=by
 refine kla_eval hdef ?_
 obtain ⟨eP,tP,cP⟩:=I.hok P _ hT
 have hg:s.heap.Ns mainGlobals X.mg:=I.mod.glob.keeps I.bk
 have hgP:mainGlobals≠P:=λz=>by
  obtain ⟨o,es,ep,e,hd,_⟩:=I.mod.glob
  have:=(I.bs _ _ e).2
  rw [z,hT] at this;cases this
 obtain ⟨bm,ob,b1,b2,b3,b4,b5,b6⟩:=B
 have hbP:bm≠P:=λz=>by
  have:=(I.bs _ _ b3).2
  rw [z,hT] at this;cases this
 have hbG:bm≠mainGlobals:=λz=>by
  obtain ⟨o,es,ep,e,hd,_⟩:=I.mod.glob
  rw [z,e] at b3;cases b3;rw [hd] at b6;cases b6
 have hb:s.heap.BuiltinsAt X.mg P:=⟨bm,ob,b1,b2,hbG,hbP,I.bk _ _ b3,b4,b5,b6⟩
 have fnew:∀ {h':Heap} {o:Obj} {b:Addr},H b=none->True:=λ_=>trivial
 cases hn:codeAmong bQ ps.toList with
 | none =>
  refine kla_makeFunction (mg:=X.mg) hcl I.ok.glob hg hcode (C.keeps I.bk) eP tP hn hgP hb λc' ctv h' tk hx hge hlt hrec htb=>?_
  have I1:=zkh I (t':=tk) hT hx hge hrec htb
  have I2:=Q9 I1 (h':=h'.push (kla_obj "<lambda>" (X.env.qual ++ "<lambda>") params body scope clos ((X.mg "__name__").getD .none) c' ctv)) (t':=tk) λb o e=>c7 _ e
  have hc:H c'=none:=I.hok.fresh hge
  refine h h'.objs.size _ _ ⟨I2,⟨λb o e ne=>?_,λb qs e=>?_⟩,λb o e n=>⟨c7 _ (hx b o (λz=>by rw [z,hT] at n;cases n) e),?_⟩,?_,?_,?_⟩
  ·rw [bY (fU e hc),bY (λz=>ne ps (by rw [z,hT] at e;cases e;rfl))];exact e
  ·rw [bY (fU e hc)]
   by_cases hb:b=P
   ·subst hb;exact ⟨_,eO⟩
   ·rw [bY hb];exact ⟨_,e⟩
  ·have hlt':=cj e
   rw [bY (dw (dj hlt' hge)),bY (λz=>by rw [z,hT] at n;cases n)];exact n
  ·rw [bY (Nat.ne_of_gt hlt),bY (λz=>by
    have:=cj htb
    rw [<-z] at this;exact absurd this (gF _))]
   refine I.hok.fresh (tV (Bw hge hlt))
  ·exact tV (Bw hge hlt)
  ·exact ⟨_,_,ctv,fZ _ rfl,_,by rw [bY (fU hT hc),eO],by rw [Array.toList_append];exact codeAmong_snoc _ tP hn⟩
 | some cv =>
  obtain ⟨c',q,oc,vs,t,rfl,e2,e3,e4,e5⟩:=cP bQ cv hn
  refine kla_makeFunctionHit (mg:=X.mg) hcl I.ok.glob hg hcode (C.keeps I.bk) eP tP hn hb λctv h' tk hk hsz=>?_
  have I2:=Q9 I (h':=h'.push { cls := .type "function",data := .func (kla_fn "<lambda>" (X.env.qual ++ "<lambda>") params body scope clos ((X.mg "__name__").getD .none) (.ref c') ctv) }) (t':=tk) λb o e=>c7 _ (hk b o e)
  refine h h'.objs.size _ _ ⟨I2,⟨λb o e _=>e,λb qs e=>⟨qs,e⟩⟩,λb o e n=>⟨c7 _ (hk b o e),n⟩,I.hok.fresh hsz,hsz,?_⟩
  exact ⟨_,_,ctv,fZ _ rfl,ps,hT,hn⟩
end
end MX
end
section
namespace MX
open PySem PySem.Spec PySem.W PyProof.Rows L2
def pN (env:Env) (y:Str×NameKind):Option (Str×Addr):=if (y.2==NameKind.free)=true then (env.cells.lookup y.1).map λc=>(y.1,c) else none
def mQ (env:Env) (names:List (Str×NameKind)):List (Str×Addr):=(names.filterMap (pN env)).reverse
theorem Tn {env:Env}:∀ (names:List (Str×NameKind)) (acc:List (Str×Addr)),(∀ y∈names,y.2 = .free->∃ c,env.cells.lookup y.1=some c) ->
 (forIn names acc (λ(x:Str×NameKind) (cs:List (Str×Addr))=>do if (x.2==NameKind.free)=true then let c <-cellOf env x.1;pure (ForInStep.yield ((x.1,c)::cs)) else pure (ForInStep.yield cs)):Sem (List (Str×Addr)))
  = pure (mQ env names++acc)
 | [],acc,_=>by simp [mQ]
 | y::r,acc,h=>by
  have ih:=Tn (env:=env) r
  rw [List.forIn_cons]
  unfold mQ at *
  rw [List.filterMap_cons]
  by_cases hk:(y.2==NameKind.free)=true
  ·obtain ⟨c,hc⟩:=h y (fL ..) (by simpa using hk)
   have hcell:cellOf env y.1=pure c:=by unfold cellOf;rw [hc]
   have hG:pN env y=some (y.1,c):=by unfold pN;rw [if_pos hk,hc];rfl
   simp only [if_pos hk,hcell,pure_bind]
   rw [ih _ (λz hz=>h z (cM _ hz)),hG]
   simp
  ·have hG:pN env y=none:=by unfold pN;rw [if_neg hk]
   simp only [if_neg hk,pure_bind]
   rw [ih _ (λz hz=>h z (cM _ hz)),hG]
theorem zi3 {env:Env} {scope:Scope} (h:∀ y∈scope.names,y.2 = .free->∃ c,env.cells.lookup y.1=some c) :
 closureFor scope env=pure (mQ env scope.names):=by
 unfold closureFor
 have:=Tn (env:=env) scope.names [] h
 rw [List.append_nil] at this
 simpa using this
theorem zi4 {env:Env} {y:Str×NameKind} {q:Str×Addr} (e:pN env y=some q):y.2 = .free/\q.1=y.1/\env.cells.lookup y.1=some q.2:=by
 unfold pN at e
 split at e
 ·rename_i hk
  simp only [aU] at e
  obtain ⟨c,h1,rfl⟩:=e
  exact ⟨by simpa using hk,rfl,h1⟩
 ·cases e
theorem RX {env:Env} {names:List (Str×NameKind)} {q:Str×Addr}:q∈mQ env names↔∃ y∈names,pN env y=some q:=by
 unfold mQ
 rw [List.mem_reverse,List.mem_filterMap]
theorem ziV {α:Type} {l:List (Str×α)} {x:Str} {v:α} (h:(x,v)∈l):∃ u,l.lookup x=some u:=by
 induction l with
 | nil=>cases h
 | cons q r ih =>
  obtain ⟨k,w⟩:=q
  by_cases hk:x=k
  ·subst hk;exact ⟨w,by simp [List.lookup]⟩
  ·rcases List.mem_cons.mp h with e | e
   ·cases e;exact absurd rfl hk
   ·obtain ⟨u,hu⟩:=ih e
    refine ⟨u,?_⟩
    rw [iZ]
    have:(x==k)=false:=by simpa using hk
    rw [this];exact hu
theorem yU {env:Env} {names:List (Str×NameKind)} {x:Str} {c:Addr} (h:(mQ env names).lookup x=some c):env.cells.lookup x=some c/\(x,NameKind.free)∈names:=by
 obtain ⟨y,hy,e⟩:=RX.mp (gD h)
 obtain ⟨h1,h2,h3⟩:=zi4 e
 obtain ⟨y1,y2⟩:=y
 simp only at h1 h2 h3
 subst h1 h2
 exact ⟨h3,hy⟩
theorem RW {env:Env} {names:List (Str×NameKind)} {x:Str} {c:Addr} (h:(x,NameKind.free)∈names) (hc:env.cells.lookup x=some c):(mQ env names).lookup x=some c:=by
 have:(x,c)∈mQ env names:=RX.mpr ⟨_,h,by unfold pN;simp [hc]⟩
 obtain ⟨u,hu⟩:=ziV this
 have:=(yU hu).1
 rw [hc] at this
 rw [hu,<-this]
def lY (h:Heap) (H:Hp) (l:List Env):Heap:=hideAll h (xK h H++frs l)
theorem Jk {h:Heap} {H:Hp} {l:List Env} {b:Addr} {o:Obj} (e:h.get? b=some o) (n:H b=none) (hf:b∉frs l):(lY h H l).get? b=some o :=
 hideAll_get _ e λhm=>by
  rcases jK.mp hm with z | z
  ·have q:(H b).isSome=true:=(List.mem_filter.mp z).2
   rw [n] at q;simp at q
  ·exact hf z
theorem Rt {h:Heap} {H:Hp} {l:List Env} {b:Addr} {o:Obj} (e:(lY h H l).get? b=some o):h.get? b=some o/\H b=none:=by
 have e':h.get? b=some o:=of_hideAll _ e
 refine ⟨e',?_⟩
 cases q:H b with
 | none=>rfl
 | some x =>
  have hm:b∈xK h H++frs l:=List.mem_append_left _ (List.mem_filter.mpr ⟨List.mem_range.mpr (cj e'),by simp [q]⟩)
  have z:(lY h H l).get? b=none:=hideAll_none _ hm
  rw [z] at e;cases e
theorem JN {h base base':Heap}:∀ {l:List Env},h.FunFrames base l->(∀ b∈frs l,base'.get? b=none)->h.FunFrames base' l
 | [],_,_=>trivial
 | env::r,hl,hb=>by
  obtain ⟨h1,⟨L,o,h2,_,h3,h4⟩,h5⟩:=hl
  refine ⟨h1,⟨L,o,h2,hb L ?_,h3,h4⟩,JN h5 λb q=>hb b ?_⟩
  ·unfold frs;rw [List.filterMap_cons,h2];exact fL ..
  ·unfold frs at *;rw [List.filterMap_cons,h2];exact cM _ q
theorem zjR {K:PySem.W.Frag} {mg:Str->Option Value} {base base':Heap} (M:Mod K mg base) (k:∀ b o,base.get? b=some o->base'.get? b=some o):Mod K mg base' :=
 ⟨M.kin.keeps k,M.glob.keeps k,let ⟨mb,h1,h2⟩:=M.blt;⟨mb,h1.keeps k,h2⟩,M.nolimit.keeps k⟩
theorem zkC {X:Cx} {pins:List (Addr×Obj)} {σ:L2.St} {H:Hp} {s:Shared} (I:Inv X pins σ H s):iY X.prog X.w X.K X.mg (lY s.heap H X.stack) X.A X.stack s H/\∀ b o,X.base.get? b=some o->(lY s.heap H X.stack).get? b=some o:=by
 have kb:∀ b o,X.base.get? b=some o->(lY s.heap H X.stack).get? b=some o:=λb o e =>
  Jk (I.bs b o e).1 (I.bs b o e).2 λz=>by
   have:=(I.stack.mem z).1
   rw [e] at this;cases this
 refine ⟨⟨I.ok.frames,zjR I.mod kb,λb o e=>Rt e,by unfold lY;rw [hideAll_size];exact bR _,JN I.stack λb hb=>hideAll_none _ (List.mem_append_right _ hb),I.stkFree,I.hok,I.bare⟩,kb⟩
structure Vl (base:Heap) (qual:Str) (params:Arguments) (body:Expr) (scope:Scope) (clos:List (Str×Addr)) (cap:List Str) (fX:List V) (a:Addr) (cdv:Value):Prop where
 obj:∃ pm ctv,base.get? a=some { cls := .type "function",data := .func (kla_fn "<lambda>" (qual ++ "<lambda>") params body scope clos pm cdv ctv) }
 has:∀ y,(y,NameKind.free)∈scope.names->∃ c,clos.lookup y=some c
 inj:∀ y z c,clos.lookup y=some c->clos.lookup z=some c->y=z
 cells:∀ y c,clos.lookup y=some c->∃ v,base.IsCell c v
 cap:∀ (i:Nat) y v,cap[i]?=some y->fX[i]?=some v->(y,NameKind.free)∈scope.names/\∃ c u,clos.lookup y=some c/\base.IsCell c (some u)/\RelV v u
section
variable {X:Cx} {x:Str} {p pos:Pos} {e:Expr} {te:TE} {params:Arguments} {body:Expr} {scope:Scope} {bQ:Pos} {f:Addr} {fd:FuncData} {k:Nat} {p1 p2:Str} {P c:Addr} {SPf:Addr->Value->List V->Sp} {cap:List Str}
end
end MX
end
section
namespace MX
open PySem PySem.Spec PySem.W PyProof.Rows L2
section
variable {K:PySem.W.Frag} {H H':Hp} {α:List Addr}
mutual
def D.no:D->Bool
 | .tup xs=>uR xs
 | .obj _ _ _=>false
 | .ref _=>false
 | _=>true
def uR:List D->Bool
 | []=>true
 | d::ds=>D.no d&&uR ds
end
mutual
theorem Rep.monoT {H H':Hp} {α α':List Addr} (t:fu H H'):∀ {d:D} {v:V},Rep K H α d v->D.no d=true->Rep K H' α' d v
 | _,_,.non,_ => .non
 | _,_,.bl b,_ => .bl b
 | _,_,.int i,_ => .int i
 | _,_,.str x,_ => .str x
 | _,_,.tup h r,b => .tup (by
  rcases h with (h | ⟨o,h⟩) | h
  ·exact .inl (.inl (t.tups _ _ h))
  ·exact .inl (.inr ⟨o,t.frzs _ _ _ h⟩)
  ·exact .inr h) (aF.monoT t r (by rw [D.no] at b;exact b))
 | _,_,.ref h,b=>by rw [D.no] at b;cases b
 | _,_,.ty n,_ => .ty n
 | _,_,.adr a,_ => .adr a
 | _,_,.obj _ _ _ _ _,b=>by rw [D.no] at b;cases b
theorem aF.monoT {H H':Hp} {α α':List Addr} (t:fu H H'):∀ {ds:List D} {vs:List V},aF K H α ds vs->uR ds=true->aF K H' α' ds vs
 | _,_,.nil,_ => .nil
 | _,_,.cons h r,b=>by
  rw [uR,cR] at b
  exact .cons (Rep.monoT t h b.1) (aF.monoT t r b.2)
end
theorem fu.refl:fu H H:=⟨λ_ _ h=>h,λ_ _ h=>⟨#[],by rw [h];simp⟩,λ_ _ _ h=>h⟩
theorem iI.ext (t:iI H H'):Ext K H α H' α:=⟨λa vs h=>by
 rcases h with (h | ⟨o,h⟩) | h
 ·exact .inl (.inl (t.1 _ _ h λ_ z=>by cases z))
 ·exact .inl (.inr ⟨o,t.1 _ _ h λ_ z=>by cases z⟩)
 ·exact .inr h,λ_ _ q=>q,λ_ _ _ _ _ q=>t.1 _ _ q λ_ z=>by cases z⟩
theorem iI.store {S:So} (t:iI H H') (s:au K H α S):au K H' α S:=⟨s.len,s.nd,λn o a h1 h2=>by
 have ob:=s.obj n o a h1 h2
 cases o with
 | lst ds=>obtain ⟨vs,e,r⟩:=ob;exact ⟨vs,t.1 _ _ e (λ_ z=>by cases z),r.mono t.ext⟩
 | frz ds =>
  obtain ⟨vs,e,r⟩:=ob
  refine ⟨vs,?_,r.mono t.ext⟩
  rcases e with ⟨ob,e⟩ | e
  ·exact .inl ⟨ob,t.1 _ _ e λ_ z=>by cases z⟩
  ·exact .inr e
 | ins C fs=>obtain ⟨dx,gs,e,h,r⟩:=ob;exact ⟨dx,gs,t.1 _ _ e (λ_ z=>by cases z),h,r.mono t.ext⟩
 | dct xs=>obtain ⟨ys,e,r⟩:=ob;exact ⟨ys,t.1 _ _ e (λ_ z=>by cases z),r.mono (iI.ext (α:=α) t).tups⟩
 | tbl x=>obtain ⟨h0,ps,e⟩:=ob;obtain ⟨qs,e'⟩:=t.2 _ _ e;exact ⟨h0,qs,e'⟩⟩
end
def BL (P:Program) (w:World) (K:PySem.W.Frag) (mg:Str->Option Value) (base:Heap) (k:Nat) (a:Addr) (R:Hp->Prop) (ψ:GN):Prop :=
 ∃ fd q sp,cN P w K mg base gP k a fd [q] sp/\base.get? a=some { cls := .type "function",data := .func fd }/\(∀ (s:Shared) (u:Value),BindsTo s fd ⟨[u],[]⟩ [(q,u)])/\∀ vs H Q,R H->vs.length=1->iW K ψ vs H Q->sp vs H Q E0
def Bq (X:Cx) (a:Addr) (ψ:GN):Prop:=∃ R k,BL X.prog X.w X.K X.mg X.base k a R ψ/\bG k X.A/\∀ H,fu X.H₀ H->R H
def eCL (i:Nat) (a:Addr) (ψ:GN) (fs:AF):EF:=λσ S=>match σ[i]? with
 | some (some (.adr b))=>if b=a then (fs σ S).bind λr=>aO 1 ψ r.1 r.2 else none
 | _=>none
section
variable {X:Cx} {x:Str} {p pos:Pos} {e:Expr} {es:List Expr} {fs:AF}
end
def spH (K:PySem.W.Frag) (R:Hp->Prop) (a:Addr) (ψ:GN) (G:Addr->GN->GN):Sp:=λvs H Q _=>∃ v1,vs=[v1,.ref a]/\R H/\∃ S α d1 z S',au K H α S/\Rep K H α d1 v1/\G a ψ [d1,.adr a] S=some (z,S')/\Kt K H α z S' Q
def Bt (P:Program) (w:World) (K:PySem.W.Frag) (mg:Str->Option Value) (base:Heap) (k:Nat) (f:Addr) (fd:FuncData) (ps:List Str) (G:Addr->GN->GN):Prop :=
 ∀ (a:Addr) (R:Hp->Prop) (ψ:GN),(∀ H H',fu H H'->R H->R H')->BL P w K mg base k a R ψ->cN P w K mg base gP (k+1) f fd ps (spH K R a ψ G)
def oh:List Nat->Sg->Option (List D)
 | [],_=>some []
 | j::r,σ=>match σ[j]? with
  | some (some d)=>(oh r σ).map λds=>d::ds
  | _=>none
def lamF (fb:EF) (gB:List D):GN:=λds S=>match ds with
 | [d]=>fb (some d::gB.map some) S
 | _=>none
theorem QK {K:PySem.W.Frag} {H:Hp} {α:List Addr} {σd:Sg} {σ:L2.St} (hv:bF K H α σd σ):∀ {src:List Nat} {gB:List D},oh src σd=some gB->∃ fX:List V,aF K H α gB fX/\src.length=fX.length/\∀ (i j:Nat),src[i]?=some j->∃ v,σ[j]?=some (some v)/\fX[i]?=some v
 | [],gB,e=>by cases e;exact ⟨[],.nil,rfl,λi j h=>by simp at h⟩
 | j::r,gB,e=>by
  unfold oh at e
  split at e
  ·rename_i d ed
   simp only [aU] at e
   obtain ⟨ds,e1,rfl⟩:=e
   obtain ⟨fX,h1,h2,h3⟩:=QK hv e1
   obtain ⟨v,k1,k2⟩:=hv.2 j d ed
   refine ⟨v::fX,.cons k2 h1,by simp [h2],λi j' hi=>?_⟩
   cases i with
   | zero=>simp at hi;subst hi;exact ⟨v,k1,rfl⟩
   | succ i=>simpa using h3 i j' (by simpa using hi)
  ·cases e
structure BP (X:Cx) (P c:Addr):Prop where
 fn:∀ y,X.fn y=true
 tab:∃ ps,X.H₀ P=some (.tbl ps)
 code:X.env.code = .ref c
 hd:CodeHd X.base c P
 bm:BM X.base X.mg
section
variable {X:Cx} {x:Str} {p pos bQ:Pos} {e:Expr} {fe fb:EF} {params:Arguments} {body:Expr} {scope:Scope} {q:Str} {cap:List Str} {src:List Nat} {G:Addr->GN->GN} {f:Addr} {fd:FuncData} {p1 p2:Str} {k:Nat} {Pt ct:Addr}
end
end MX
end
section
namespace MX
open PySem PyProof.Rows
abbrev PS:=Array (Int×Nat)
abbrev PD:=Array (Nat×Nat×Nat)
structure RR (φ:Int×Nat->Keyed) (ps:PS) (pd:PD) (st:SortSt):Prop where
 arr:arrOf st=ps.map φ
 kind:kindOf st=oneType'
 failed:failedOf st=none
 pend:pendingOf st=pd
 key:∀ p∈ps.toList,∃ t,(φ p).1 = .int p.1 t
def Ex {α:Type} (m:StateT SortSt Sem α) (ps:PS) (pd:PD) (Q:α->PS->PD->Prop):Prop :=
 ∃ a ps' lN,(∀ φ st,RR φ ps pd st->∀ (prog:Program) (w:World) (A:Around) (E:Value->Shared->Prop) (s:Shared),wpS (model prog w) A E s m (λx st'=>x=a/\RR φ ps' lN st') st)/\Q a ps' lN
section
variable {α β:Type} {ps:PS} {pd:PD}
theorem ir {a:α} {Q:α->PS->PD->Prop} (h:Q a ps pd):Ex (pure a) ps pd Q:=⟨a,ps,pd,λφ st r prog w A E s=>wpS_pure ⟨rfl,r⟩,h⟩
theorem gw {m:StateT SortSt Sem α} {f:α->StateT SortSt Sem β} {Q:β->PS->PD->Prop} (h:Ex m ps pd λa ps' lN=>Ex (f a) ps' lN Q):Ex (m >>= f) ps pd Q:=by
 obtain ⟨a,ps1,Ft,h1,b,ps2,pd2,h2,q⟩:=h
 refine ⟨b,ps2,pd2,λφ st r prog w A E s=>wpS_bind (wpS_mono (h1 φ st r prog w A E s) λx st' ⟨e,r'⟩=>?_),q⟩
 subst e
 exact h2 φ st' r' prog w A E s
theorem wI {m:StateT SortSt Sem α} {Q Q':α->PS->PD->Prop} (h:Ex m ps pd Q) (k:∀ a x y,Q a x y->Q' a x y):Ex m ps pd Q':=by
 obtain ⟨a,ps1,Ft,h1,q⟩:=h
 exact ⟨a,ps1,Ft,h1,k _ _ _ q⟩
theorem yq {i j:Nat} {Q:Option Bool->PS->PD->Prop} (hi:i<ps.size) (hj:j<ps.size) (h:∀ b,Q (some b) ps pd):Ex (ltAt' i j) ps pd Q:=by
 refine ⟨some (decide (ps[i].1<ps[j].1)),ps,pd,λφ st r prog w A E s=>?_,h _⟩
 obtain ⟨t,ht⟩:=r.key ps[i] (by simp)
 obtain ⟨u,hu⟩:=r.key ps[j] (by simp)
 have e1:(arrOf st)[i]?=some (.int ps[i].1 t,(φ ps[i]).2):=by rw [r.arr,Array.getElem?_map,getElem?_pos ps i hi,<-ht];rfl
 have e2:(arrOf st)[j]?=some (.int ps[j].1 u,(φ ps[j]).2):=by rw [r.arr,Array.getElem?_map,getElem?_pos ps j hj,<-hu];rfl
 exact wpS_ltAt r.kind e1 e2 ⟨rfl,r⟩
theorem zlA {γ δ:Type} (f:γ->δ) (xs:Array γ) (i j:Nat):(xs.map f).swapIfInBounds i j=(xs.swapIfInBounds i j).map f:=by
 apply Array.ext'
 rw [Array.swapIfInBounds_def,Array.swapIfInBounds_def]
 by_cases hi:i<xs.size
 ·by_cases hj:j<xs.size
  ·rw [dif_pos (by simpa using hi),dif_pos (by simpa using hj),dif_pos hi,dif_pos hj]
   simp
  ·rw [dif_pos (by simpa using hi),dif_neg (by simpa using hj),dif_pos hi,dif_neg hj]
 ·rw [dif_neg (by simpa using hi),dif_neg hi]
theorem Js {γ δ ε:Type} (f:γ->δ) (p q:ε->Nat):∀ (l:List ε) (xs:Array γ),l.foldl (λa k=>a.swapIfInBounds (p k) (q k)) (xs.map f)=(l.foldl (λa k=>a.swapIfInBounds (p k) (q k)) xs).map f
 | [],xs=>rfl
 | k::l,xs=>by
  rw [List.foldl_cons,List.foldl_cons,zlA,Js f p q l]
theorem R3 {m:StateT SortSt Sem Unit} {g:(γ:Type)->Array γ->Array γ} {Q:Unit->PS->PD->Prop} (hm:m=modify λs=>setArr s (g Keyed (arrOf s))) (hp:(g (Int×Nat) ps).Perm ps) (hg:∀ φ:Int×Nat->Keyed,g Keyed (ps.map φ)=(g (Int×Nat) ps).map φ)
 (h:∀ ps',ps'.Perm ps->Q () ps' pd):Ex m ps pd Q:=by
 refine ⟨(),g _ ps,pd,λφ st r prog w A E s=>?_,h _ hp⟩
 rw [hm]
 refine wpS_modify ⟨rfl,?_,r.kind,r.failed,r.pend,λp q=>r.key p ((Array.perm_iff_toList_perm.mp hp).mem_iff.mp q)⟩
 show g Keyed (arrOf st)=_
 rw [r.arr,hg]
theorem Zy {i j:Nat} {Q:Unit->PS->PD->Prop} (h:∀ ps',ps'.Perm ps->Q () ps' pd):Ex (moveDown' i j) ps pd Q :=
 R3 (g:=λ_ xs=>bubble xs i (i - j)) (moveDown'_eq i j) (bubble_perm _ _ _) (λφ=>Js φ _ _ _ ps) h
theorem Cz {i j:Nat} {Q:Unit->PS->PD->Prop} (h:∀ ps',ps'.Perm ps->Q () ps' pd):Ex (reverseSlice' i j) ps pd Q :=
 R3 (g:=λ_ xs=>mirror xs i j ((j - i) / 2)) (reverseSlice'_eq i j) (mirror_perm _ _ _ _) (λφ=>Js φ _ _ _ ps) h
theorem PN {r:String} {Q:Unit->PS->PD->Prop} (h:Q () ps pd):Ex (liftM (rule r):StateT SortSt Sem Unit) ps pd Q :=
 ⟨(),ps,pd,λφ st q prog w A E s=>wpS_lift (wpAny_rule ⟨rfl,rfl,q⟩),h⟩
theorem Cy {f:SortSt->StateT SortSt Sem α} {Q:α->PS->PD->Prop} (g:StateT SortSt Sem α) (hf:∀ st,(arrOf st).size=ps.size->pendingOf st=pd->f st=g) (h:Ex g ps pd Q):Ex (get >>= f) ps pd Q:=by
 obtain ⟨a,ps1,Ft,h1,q⟩:=h
 refine ⟨a,ps1,Ft,λφ st r prog w A E s=>wpS_bind (wpS_get ?_),q⟩
 rw [hf st (by rw [r.arr];simp) r.pend]
 exact h1 φ st r prog w A E s
theorem PL {k:PD->PD} {Q:Unit->PS->PD->Prop} (h:Q () ps (k pd)):Ex (modify λs=>setPending s (k (pendingOf s))) ps pd Q:=by
 refine ⟨(),ps,k pd,λφ st r prog w A E s=>?_,h⟩
 refine wpS_modify ⟨rfl,r.arr,r.kind,r.failed,?_,r.key⟩
 show k (pendingOf st)=_
 rw [r.pend]
theorem PK {f:Nat->β->StateT SortSt Sem (ForInStep β)} (I:List Nat->β->PS->PD->Prop) {Q:β->PS->PD->Prop}
 (hstep:∀ x rest b ps pd,I (x::rest) b ps pd->Ex (f x b) ps pd λr ps' lN=>match r with | .done b'=>Q b' ps' lN | .yield b'=>I rest b' ps' lN)
 (hend:∀ b ps pd,I [] b ps pd->Q b ps pd):∀ (l:List Nat) (b:β) (ps:PS) (pd:PD),I l b ps pd->Ex (forIn l b f) ps pd Q
 | [],b,ps,pd,h=>by rw [List.forIn_nil];exact ir (hend _ _ _ h)
 | x::rest,b,ps,pd,h=>by
  rw [List.forIn_cons]
  refine gw (wI (hstep x rest b ps pd h) λr ps' lN h'=>?_)
  cases r with
  | done b'=>exact ir h'
  | yield b'=>exact PK I hstep hend rest b' ps' lN h'
theorem wH {a b:Nat} {f:Nat->β->StateT SortSt Sem (ForInStep β)} (I:Nat->β->PS->PD->Prop) {Q:β->PS->PD->Prop}
 (hstep:∀ i c ps pd,a<=i->i<b->I i c ps pd->Ex (f i c) ps pd λr ps' lN=>match r with | .done c'=>Q c' ps' lN | .yield c'=>I (i+1) c' ps' lN)
 (hend:∀ c ps pd,I (max a b) c ps pd->Q c ps pd) {c:β} (h:I a c ps pd):Ex (forIn [a:b] c f) ps pd Q:=by
 rw [Std.Legacy.Range.forIn_eq_forIn_range']
 have hsz:([a:b]:Std.Legacy.Range).size=b - a:=by simp [Std.Legacy.Range.size]
 show Ex (forIn (List.range' a ([a:b]:Std.Legacy.Range).size 1) c f) ps pd Q
 rw [hsz]
 refine PK (λl c ps pd=>∃ i,a<=i/\i<=max a b/\l=List.range' i (max a b - i) 1/\I i c ps pd) ?_ ?_ _ c ps pd ⟨a,bR _,by omega,by congr 1;omega,h⟩
 ·rintro x rest c ps pd ⟨i,hai,hib,hl,hI⟩
  have hlt:i<max a b:=by
   rcases Nat.lt_or_ge i (max a b) with h' | h'
   ·exact h'
   ·rw [show max a b - i=0 by omega] at hl;simp at hl
  obtain ⟨n,hn⟩:∃ n,max a b - i=n+1:=⟨max a b - i - 1,by omega⟩
  rw [hn,List.range'_succ] at hl
  obtain ⟨rfl,rfl⟩:=List.cons.inj hl
  refine wI (hstep x c ps pd hai (by omega) hI) λr ps' lN h'=>?_
  cases r with
  | done c'=>exact h'
  | yield c'=>exact ⟨x+1,by omega,by omega,by congr 1;omega,h'⟩
 ·rintro c ps pd ⟨i,hai,hib,hl,hI⟩
  have:i=max a b:=by
   rcases Nat.lt_or_ge i (max a b) with h' | h'
   ·obtain ⟨n,hn⟩:∃ n,max a b - i=n+1:=⟨max a b - i - 1,by omega⟩
    rw [hn,List.range'_succ] at hl;simp at hl
   ·omega
  subst this;exact hend _ _ _ hI
end
section
variable {ps₀ ps:PS} {pd:PD}
abbrev Pm (ps₀:PS) (ps:PS):Prop:=ps.Perm ps₀
theorem O3 {a nrem:Nat} {Q:AscSt->PS->PD->Prop} (hn:nrem<=ps₀.size) (ha:1<=a) (han:a<=nrem) (hp:Pm ps₀ ps) (h:∀ k,a<=k->k<=nrem->Q (none,k) ps pd):Ex (ascLoop a nrem) ps pd Q:=by
 unfold ascLoop
 refine wH (λi c x y=>x=ps/\y=pd/\c=(none,i)/\a<=i/\i<=nrem) ?_ ?_ ⟨rfl,rfl,rfl,bR _,han⟩
 ·rintro i c x y h1 h2 ⟨rfl,rfl,rfl,h3,h4⟩
  have hs:=hp.size_eq
  refine gw (yq (by first | omega | (simp;omega)) (by first | omega | (simp;omega)) λb=>?_)
  cases b with
  | true=>exact ir (h i h3 h4)
  | false=>exact ir ⟨rfl,rfl,rfl,by omega,by omega⟩
 ·rintro c x y ⟨rfl,rfl,rfl,h3,h4⟩
  exact h _ h3 h4
theorem Q7 {n nrem:Nat} {Q:Option Nat->PS->PD->Prop} (hn:nrem<=ps₀.size) (h1:1<=n) (hnn:n<=nrem) (hp:Pm ps₀ ps) (h:∀ k ps',n<=k->k<=nrem->Pm ps₀ ps'->Q (some k) ps' pd):Ex (tail3 n nrem) ps pd Q:=by
 unfold tail3
 refine gw (Cz λps1 q1=>gw (O3 (ps₀:=ps₀) hn h1 hnn (q1.trans hp) λk k1 k2=>?_))
 exact ir (h k ps1 k1 k2 (q1.trans hp))
theorem zn0 {n nrem:Nat} {Q:DescSt->PS->PD->Prop} (hn:nrem<=ps₀.size) (h1:1<=n) (hnn:n<=nrem) (hp:Pm ps₀ ps) (h:∀ k j ps',n<=k->k<=nrem->Pm ps₀ ps'->Q (none,k,j) ps' pd):Ex (descLoop n nrem) ps pd Q:=by
 unfold descLoop
 refine wH (λi c x y=>y=pd/\Pm ps₀ x/\(∃ j,c=(none,i,j))/\n<=i/\i<=nrem) ?_ ?_ ⟨rfl,hp,⟨0,rfl⟩,bR _,hnn⟩
 ·rintro i c x y e1 e2 ⟨rfl,hx,⟨j,rfl⟩,h3,h4⟩
  have hs:=hx.size_eq
  refine gw (yq (by first | omega | (simp;omega)) (by first | omega | (simp;omega)) λb=>?_)
  cases b with
  | true =>
   dsimp only
   rw [if_pos rfl]
   split
   ·exact gw (Cz λx' q'=>ir ⟨rfl,q'.trans hx,⟨0,rfl⟩,by omega,by omega⟩)
   ·exact ir ⟨rfl,hx,⟨0,rfl⟩,by omega,by omega⟩
  | false =>
   dsimp only
   rw [if_neg (by simp)]
   refine gw (yq (by first | omega | (simp;omega)) (by first | omega | (simp;omega)) λb=>?_)
   cases b with
   | true=>exact ir (h i j x h3 h4 hx)
   | false=>exact ir ⟨rfl,hx,⟨j+1,rfl⟩,by omega,by omega⟩
 ·rintro c x y ⟨rfl,hx,⟨j,rfl⟩,h3,h4⟩
  exact h _ j x h3 h4 hx
theorem T9 {n nrem:Nat} {Q:Option Nat->PS->PD->Prop} (hn:nrem<=ps₀.size) (hnn:n+1<=nrem) (hp:Pm ps₀ ps) (h:∀ k ps',1<=k->k<=nrem->Pm ps₀ ps'->Q (some k) ps' pd):Ex (descPart n nrem) ps pd Q:=by
 unfold descPart
 refine gw (PN (gw (zn0 (ps₀:=ps₀) hn (by omega) hnn hp λk j ps1 k1 k2 q1=>?_)))
 dsimp only
 split
 ·exact gw (Cz λps2 q2=>Q7 (ps₀:=ps₀) hn (by omega) k2 (q2.trans q1) λk' Mr a1 a2 a3=>h k' Mr (by omega) a2 a3)
 ·exact Q7 (ps₀:=ps₀) hn (by omega) k2 q1 λk' Mr a1 a2 a3=>h k' Mr (by omega) a2 a3
theorem zhs {nrem:Nat} {Q:Option Nat->PS->PD->Prop} (hn:nrem<=ps₀.size) (h1:1<=nrem) (hp:Pm ps₀ ps) (h:∀ k ps',1<=k->k<=nrem->Pm ps₀ ps'->Q (some k) ps' pd):Ex (countRun' 0 nrem) ps pd Q:=by
 rw [countRun0_eq]
 have hs:=hp.size_eq
 refine gw (O3 (ps₀:=ps₀) hn (bR _) h1 hp λk k1 k2=>?_)
 dsimp only
 split
 ·exact ir (h k ps k1 k2 hp)
 ·rename_i hne
  have hne':k≠nrem:=by simpa using hne
  split
  ·refine gw (yq (by omega) (by omega) λb=>?_)
   cases b with
   | true=>exact ir (h k ps k1 k2 hp)
   | false=>exact gw (Cz λps1 q1=>T9 (ps₀:=ps₀) hn (by omega) (q1.trans hp) h)
  ·exact T9 (ps₀:=ps₀) hn (by omega) hp h
theorem zf7 {n ok:Nat} {Q:Bool->PS->PD->Prop} (hn:n<=ps₀.size) (hok:ok<=n) (hp:Pm ps₀ ps) (h:∀ ps',Pm ps₀ ps'->Q true ps' pd):Ex (binarySort' 0 n ok) ps pd Q:=by
 rw [binarySort'_eq]
 simp only [Nat.zero_add]
 refine gw (wI (wH (λk c x y=>c=(none,())/\y=pd/\Pm ps₀ x) (Q:=λc x y=>c=(none,())/\y=pd/\Pm ps₀ x) ?_ (λ_ _ _ q=>q) ⟨rfl,rfl,hp⟩) ?_)
 ·rintro k c x y hak hkn ⟨rfl,rfl,hx⟩
  have hs:=hx.size_eq
  refine gw (wI (wH (λi c x' y'=>x'=x/\y'=y/\∃ l r,c=(none,l,r)/\l<=r/\r<=k) (Q:=λc x' y'=>x'=x/\y'=y/\∃ l r,c=(none,l,r)) ?_ ?_ ⟨rfl,rfl,0,k,rfl,by omega,by omega⟩) ?_)
  ·rintro i c x' y' _ _ ⟨rfl,rfl,l,r,rfl,h1,h2⟩
   dsimp only
   by_cases hge:l ≥ r
   ·rw [if_pos hge]
    exact ir ⟨rfl,rfl,l,r,rfl⟩
   ·rw [if_neg hge]
    refine gw (yq (by omega) (by omega) λb=>?_)
    cases b with
    | true=>exact ir ⟨rfl,rfl,l,(l+r) / 2,rfl,by omega,by omega⟩
    | false=>exact ir ⟨rfl,rfl,(l+r) / 2+1,r,rfl,by omega,by omega⟩
  ·rintro c x' y' ⟨h1,h2,l,r,h3,_⟩
   exact ⟨h1,h2,l,r,h3⟩
  ·rintro c x' y' ⟨rfl,rfl,l,r,rfl⟩
   show Ex (do moveDown' k l;pure (ForInStep.yield (none,()))) _ _ _
   exact gw (Zy λx2 q2=>ir ⟨rfl,rfl,q2.trans hx⟩)
 ·rintro c x y ⟨rfl,rfl,hx⟩
  exact ir (h x hx)
theorem Ej (h2:2<=ps.size) (h64:ps.size<64):Ex sortRuns' ps #[] (λ_ ps' _=>Pm ps ps'):=by
 rw [sortRuns'_eq]
 have hmr:minRun' ps.size ps.size 0=ps.size:=by
  obtain ⟨f,hf⟩:∃ f,ps.size=f+1:=⟨ps.size - 1,by omega⟩
  have:minRun' (f+1) ps.size 0=ps.size:=by rw [minRun'_succ,if_pos h64];rfl
  rwa [<-hf] at this
 refine Cy _ (λst e1 e2=>by rw [e1]) ?_
 simp only [hmr]
 refine gw (wI (wH (λx c p d=>(x=0/\c=(none,0)/\d=#[]/\Pm ps p)\/(1<=x/\c=(none,ps.size)/\d=#[(0,ps.size,0)]/\Pm ps p))
  (Q:=λc p d=>c=(none,ps.size)/\d=#[(0,ps.size,0)]/\Pm ps p) ?step ?fin (.inl ⟨rfl,rfl,rfl,Array.Perm.refl _⟩)) ?post)
 case fin =>
  rintro c p d (⟨hx,_,_⟩ | ⟨_,hc,hD⟩)
  ·omega
  ·exact ⟨hc,hD⟩
 case step =>
  rintro x c p d _ hx (⟨rfl,rfl,rfl,hB'⟩ | ⟨hx1,rfl,rfl,hD⟩)
  ·dsimp only
   rw [if_neg (by omega)]
   simp only [Nat.sub_zero,Nat.min_self,Nat.zero_add]
   refine gw (zhs (ps₀:=ps) (bR _) (by omega) hB' λm p2 hm1 hm2 hB2=>?_)
   dsimp only
   by_cases hlt:m<ps.size
   ·rw [if_pos hlt]
    refine gw (PN ?_)
    refine gw (zf7 (ps₀:=ps) (bR _) hm2 hB2 λp3 hB3=>?_)
    simp only [Bool.not_true,Bool.false_eq_true,if_false]
    refine Cy _ (λst e1 e2=>by rw [e2]) ?_
    try dsimp only
    exact gw (PL (k:=λd=>d.push (0,ps.size,0)) (ir (.inr ⟨by omega,rfl,rfl,hB3⟩)))
   ·rw [if_neg hlt]
    have hm:m=ps.size:=by omega
    subst hm
    refine Cy _ (λst e1 e2=>by rw [e2]) ?_
    try dsimp only
    exact gw (PL (k:=λd=>d.push (0,ps.size,0)) (ir (.inr ⟨by omega,rfl,rfl,hB2⟩)))
  ·dsimp only
   rw [if_pos (bR _)]
   exact ir ⟨rfl,rfl,hD⟩
 case post =>
  rintro c p d ⟨rfl,rfl,hD⟩
  dsimp only
  refine gw (wI (wH (λ_ c p' d'=>p'=p/\d'=#[(0,ps.size,0)]/\c=(none,())) (Q:=λc p' d'=>p'=p/\c=(none,())) ?_ (λ_ _ _ hh=>⟨hh.1,hh.2.2⟩) ⟨rfl,rfl,rfl⟩) ?_)
  ·rintro x c p' d' _ _ ⟨rfl,rfl,rfl⟩
   refine Cy _ (λst e1 e2=>by rw [e2]) ?_
   rw [if_pos (by exact bR 1)]
   exact ir ⟨rfl,rfl⟩
  ·rintro c p' d' ⟨rfl,rfl⟩
   exact ir hD
end
def jC (ks:List Int):PS:=ks.zipIdx.toArray
theorem rP (ks:List Int):(jC ks).size=ks.length:=by simp [jC]
open Classical in
def uf (ks:List Int):PS:=if h:2<=ks.length/\ks.length<64 then (Ej (ps:=jC ks) (by rw [rP];exact h.1) (by rw [rP];exact h.2)).choose_spec.choose else jC ks
def jg (ks:List Int):List Nat:=(uf ks).toList.map (·.2)
theorem zhf (ks:List Int):(uf ks).Perm (jC ks):=by
 unfold uf
 split
 ·rename_i h
  exact (Ej (ps:=jC ks) (by rw [rP];exact h.1) (by rw [rP];exact h.2)).choose_spec.choose_spec.choose_spec.2
 ·exact Array.Perm.refl _
theorem JQ (ks:List Int):(jg ks).Perm (List.range ks.length):=by
 have h:=(Array.perm_iff_toList_perm.mp (zhf ks)).map (·.2)
 have e:(jC ks).toList.map (·.2)=List.range ks.length:=by
  simp [jC,List.zipIdx_eq_zip_range']
  rw [List.map_snd_zip (by simp)]
  exact (List.range_eq_range' ..).symm
 rw [e] at h
 exact h
theorem ZG {us:List Value} {ns:List Int} (h:IntsAre us ns) {i:Nat} {n:Int} (e:ns[i]?=some n):∃ t,us[i]?=some (.int n t):=by
 induction h generalizing i with
 | nil=>simp at e
 | cons m t r ih =>
  cases i with
  | zero=>simp at e;subst e;exact ⟨t,rfl⟩
  | succ i=>simpa using ih (by simpa using e)
section
variable {prog:Program} {w:World} {A:Around} {E:Value->Shared->Prop} {s:Shared} {keys:Array Value} {kz:List Int} {vs:List Value}
def Bx (keys:Array Value) (vs:List Value) (p:Int×Nat):Keyed:=(keys.toList.getD p.2 .none,vs.getD p.2 .none)
theorem Qz (hk:IntsAre keys.toList kz) (hlen:kz.length=vs.length):keys.zip vs.toArray=(jC kz).map (Bx keys vs):=by
 have hl:=hk.length
 apply Array.ext'
 have e1:(keys.zip vs.toArray).toList=keys.toList.zip vs:=by
  cases keys;simp
 rw [e1,Array.toList_map]
 apply List.ext_getElem?
 intro i
 by_cases hi:i<kz.length
 ·have h1:i<keys.toList.length:=by omega
  have h2:i<vs.length:=by omega
  simp only [jC,eV,List.getElem?_zip_eq_some,List.getElem?_zipIdx]
  rw [dO hi,dO (by rw [List.length_zip];omega)]
  simp [Bx,List.getElem_zip,h1,h2]
  have h1':i<keys.size:=by simpa using h1
  simp [h1']
 ·rw [iK (by rw [List.length_zip];omega),iK (by simp [jC];omega)]
theorem Wv (hk:IntsAre keys.toList kz) (hlen:kz.length=vs.length):RR (Bx keys vs) (jC kz) #[] (SortSt.mk' oneType' (keys.zip vs.toArray) #[] 7 none):=by
 refine ⟨Qz hk hlen,rfl,rfl,rfl,λp hp=>?_⟩
 obtain ⟨n,i⟩:=p
 have hp':(n,i)∈kz.zipIdx:=by simpa [jC] using hp
 have e:=List.mem_zipIdx_iff_getElem?.mp hp'
 obtain ⟨t,ht⟩:=ZG hk e
 refine ⟨t,?_⟩
 show keys.toList.getD i .none=_
 rw [List.getD_eq_getElem?_getD,ht];rfl
theorem QB (hlen:kz.length=vs.length):∀ ps:PS,((ps.map (Bx keys vs)).map (·.2)).toList=(ps.toList.map (·.2)).map λi=>vs.getD i .none:=by
 intro ps
 simp only [Array.toList_map,List.map_map]
 exact List.map_congr_left λ_ _=>rfl
theorem zms (hk:IntsAre keys.toList kz) (hlen:kz.length=vs.length) (h2:2<=vs.length) (h64:vs.length<64) :
 wpAny (model prog w) A (sortRuns'.run (SortSt.mk' oneType' (keys.zip vs.toArray) #[] 7 none)) (λr s'=>s'=s/\failedOf r.2=none/\((arrOf r.2).map (·.2)).toList=(jg kz).map λi=>vs.getD i .none) E s:=by
 have h:2<=kz.length/\kz.length<64:=by omega
 have q:=(Ej (ps:=jC kz) (by rw [rP];exact h.1) (by rw [rP];exact h.2)).choose_spec.choose_spec.choose_spec.1 _ _ (Wv hk hlen) prog w A E s
 refine jm q (λr s' ⟨e,_,rr⟩=>⟨e,rr.failed,?_⟩) λ_ _ e=>e
 have e1:uf kz=(Ej (ps:=jC kz) (by rw [rP];exact h.1) (by rw [rP];exact h.2)).choose_spec.choose:=by
  unfold uf;rw [dif_pos h]
 rw [rr.arr,<-e1,QB (kz:=kz) hlen]
 rfl
theorem zla (hk:IntsAre keys.toList kz) (hlen:kz.length=vs.length) (h2:vs.length<2):((keys.zip vs.toArray).map (·.2)).toList=(jg kz).map λi=>vs.getD i .none:=by
 have e1:uf kz=jC kz:=by unfold uf;rw [dif_neg (by omega)]
 unfold jg
 rw [Qz hk hlen,QB (kz:=kz) hlen,e1]
end
end MX
end
section
namespace MX
open PySem PySem.Spec PySem.W PyProof.Rows L2
structure N0 (X:Cx) (pins:List (Addr×Obj)) (base:Heap) (n0:Nat):Prop where
 s0:X.s₀.heap.objs.size<=n0
 loc:X.env.locals<n0
 cel:∀ x c,X.env.cells.lookup x=some c->c<n0
 pin:∀ p∈X.pn++pins,p.1<n0
 fr:∀ b∈frs X.stack,b<n0
 bse:base.objs.size<=n0
 frb:∀ b∈frs X.stack,base.get? b=none
structure SJ (X:Cx) (pins:List (Addr×Obj)) (σ:L2.St) (S:So) (H₀:Hp) (α₀:List Addr) (base:Heap) (n0:Nat) (own:List (Addr×Obj)) (s:Shared) (H:Hp) (α:List Addr):Prop where
 inv:Inv X pins σ H s
 st:au X.K H α S
 ext:Ext X.K H₀ α₀ H α
 tu:fu H₀ H
 sz:n0<=s.heap.objs.size
 bs:∀ b o,base.get? b=some o->s.heap.get? b=some o/\H b=none
 own:∀ p∈own,s.heap.get? p.1=some p.2/\H p.1=none/\n0<=p.1
section
variable {X:Cx} {pins:List (Addr×Obj)} {σ:L2.St} {S:So} {H₀ H:Hp} {α₀ α:List Addr} {base:Heap} {n0:Nat} {own:List (Addr×Obj)} {s:Shared}
theorem N0.of (I:Inv X pins σ H s):N0 X pins (lY s.heap H X.stack) s.heap.objs.size where
 s0:=I.sz
 loc:=I.lt
 cel:=λx c e=>by
  obtain ⟨v,o,ho,_⟩:=I.cell x c e
  exact cj ho
 pin:=λp hp=>cj (I.pin p hp).1
 fr:=λb hb=>by
  obtain ⟨_,o,ho,_⟩:=I.stack.mem hb
  exact cj ho
 bse:=by unfold lY;rw [hideAll_size];exact bR _
 frb:=λb hb=>hideAll_none _ (List.mem_append_right _ hb)
theorem fu.trans {H1 H2 H3:Hp} (a:fu H1 H2) (b:fu H2 H3):fu H1 H3:=⟨λc xs h=>b.tups c xs (a.tups c xs h),λc ps h=>by
 obtain ⟨m1,e1⟩:=a.tbls c ps h
 obtain ⟨m2,e2⟩:=b.tbls c _ e1
 exact ⟨m1++m2,by rw [e2,Array.append_assoc]⟩,λc o u h=>b.frzs c o u (a.frzs c o u h)⟩
theorem SJ.laid (J:SJ X pins σ S H₀ α₀ base n0 own s H α) {h':Heap} {t':Nat} (k:∀ b u,s.heap.get? b=some u->h'.get? b=some u) {a:Addr} {o:Obj} (ha:s.heap.objs.size<=a) (new:h'.get? a=some o) :
 SJ X pins σ S H₀ α₀ base n0 (own++[(a,o)]) { s with heap:=h',toks:=t' } H α where
 inv:=J.inv.kept k
 st:=J.st
 ext:=J.ext
 tu:=J.tu
 sz:=Nat.le_trans J.sz (Nat.le_trans ha (tV (cj new)))
 bs:=λb o e=>⟨k _ _ (J.bs b o e).1,(J.bs b o e).2⟩
 own:=λp hp=>by
  rcases jK.mp hp with hp | hp
  ·obtain ⟨h1,h2,h3⟩:=J.own p hp
   exact ⟨k _ _ h1,h2,h3⟩
  ·rw [List.mem_singleton.mp hp]
   exact ⟨new,J.inv.hok.fresh ha,Nat.le_trans J.sz ha⟩
theorem SJ.fewer (J:SJ X pins σ S H₀ α₀ base n0 own s H α) {own':List (Addr×Obj)} (h:∀ p∈own',p∈own):SJ X pins σ S H₀ α₀ base n0 own' s H α:={ J with own:=λp hp=>J.own p (h p hp) }
theorem SJ.chg (N:N0 X pins base n0) (J:SJ X pins σ S H₀ α₀ base n0 own s H α) {a:Addr} {xs:Array Value} {n:Nat} (ha:(a,seqObj "list" xs n)∈own) (g:Array Value->Array Value) {t':Nat} :
 ∃ c,∀ own',(∀ p∈own',p=(a,seqObj "list" (g xs) c)\/(p∈own/\p.1≠a))->SJ X pins σ S H₀ α₀ base n0 own' { s with heap:=s.heap.update a (Obj.mapSeq g),toks:=t' } H α:=by
 obtain ⟨e,hn,h0⟩:=J.own _ ha
 have sb:=Heap.SameBut.update s.heap a (Obj.mapSeq g)
 have k:∀ b o,b≠a->s.heap.get? b=some o->(s.heap.update a (Obj.mapSeq g)).get? b=some o:=λb o hb q=>(sb.2 b hb).trans q
 obtain ⟨c,e2⟩:∃ c,(s.heap.update a (Obj.mapSeq g)).get? a=some (seqObj "list" (g xs) c):=⟨_,get?_update_seq e g⟩
 refine ⟨c,λown' ho=>⟨J.inv.turned k hn (Nat.ne_of_gt (dj N.loc h0)) (.inr (Nat.le_trans N.s0 h0)) (λx c q=>dw (dj (N.cel x c q) h0)) (λp hp=>dw (dj (N.pin p hp) h0)),
  J.st,J.ext,J.tu,?_,λb o q=>⟨k b o (dw (dj (dj (cj q) N.bse) h0)) (J.bs b o q).1,(J.bs b o q).2⟩,λp hp=>?_⟩⟩
 ·show n0<=(s.heap.update a (Obj.mapSeq g)).objs.size
  rw [Heap.size_update];exact J.sz
 ·rcases ho p hp with rfl | ⟨h1,h2⟩
  ·exact ⟨e2,hn,h0⟩
  ·obtain ⟨q1,q2,q3⟩:=J.own p h1
   exact ⟨k _ _ h2 q1,q2,q3⟩
theorem SJ.call (N:N0 X pins base n0) (M:Mod X.K X.mg base) (J:SJ X pins σ S H₀ α₀ base n0 own s H α) {A:Around} {a:Addr} {R:Hp->Prop} {ψ:GN} {k:Nat} (hA:A.frames=X.A.frames) (hr:bG k A) (C:BL X.prog X.w X.K X.mg base k a R ψ)
 (hT:∀ H H',fu H H'->R H->R H') (hR:R H₀) {p0:Addr×Obj} (hne:p0∈own) {d:D} {v:V} {u:Value} {kk:Int} (rd:Rep X.K H α d v) (ru:RelV v u) (hψ:ψ [d] S=some (.int kk,S)) :
 wpAny (model X.prog X.w) A (call (.ref a) [u]) (λr s'=>∃ t H' α',r = .int kk t/\SJ X pins σ S H₀ α₀ base n0 own s' H' α') (λ_ _=>False) s:=by
 obtain ⟨fd,q,sp,F,hob,hb,hsp⟩:=C
 have I:=J.inv
 have e0:iY X.prog X.w X.K X.mg base A X.stack s H:=⟨by rw [hA];exact I.ok.frames,M,J.bs,Nat.le_trans N.bse J.sz,JN I.stack N.frb,I.stkFree,I.hok,I.bare⟩
 have h1:sp [v] H (λw H'=>∃ α',au X.K H' α' S/\Ext X.K H α H' α'/\Rep X.K H' α' (.int kk) w) E0 :=
  hsp _ _ _ (hT _ _ J.tu hR) rfl ⟨S,α,[d],.int kk,S,J.st,.cons rd .nil,hψ,λw H' α' h1 h2 h3=>⟨α',h1,h2,h3⟩⟩
 refine wpAny_call (codeAny_mono (F.run A X.stack s H ⟨[u],[]⟩ [u] [v] _ E0 hr e0 (hb s u) (.cons ru .nil) h1) λr s' hq=>?_)
 cases r with
 | error e=>exact hq.elim
 | ok fl =>
  cases fl with
  | ret u =>
   obtain ⟨w,H',os,bare,un,hok,dX,α',s1,x1,r1⟩:=id hq
   obtain ⟨_,_,I',_,_⟩:=I.after (show CE X.stack X.prog X.w H s (λw2 H2=>w2=w/\H2=H') u s' from ⟨w,H',os,bare,un,hok,dX,rfl,rfl⟩)
   rename_i w2 H2 _ z
   obtain ⟨rfl,rfl⟩:=z
   cases r1
   obtain ⟨t,rfl⟩:=dX
   have U0:∀ b,n0<=b->b∉frs X.stack:=λb hb z=>absurd (dj (N.fr b z) hb) (gF _)
   refine ⟨t,H2,α',rfl,I',s1,J.ext.trans x1,J.tu.trans ⟨un.tups,un.tbls,un.frzs⟩,?_,λb o e=>?_,λp hp=>?_⟩
   ·obtain ⟨q1,q2,q3⟩:=J.own _ hne
    exact Nat.le_trans q3 (tV (cj (un.keep _ _ q1 q2 (U0 _ q3) (by simp))))
   ·obtain ⟨q1,q2⟩:=J.bs b o e
    exact ⟨un.keep b o q1 q2 (λz=>by rw [N.frb b z] at e;cases e) (by simp),un.free b o q1 q2 (by simp)⟩
   ·obtain ⟨q1,q2,q3⟩:=J.own p hp
    exact ⟨un.keep _ _ q1 q2 (U0 _ q3) (by simp),un.free _ _ q1 q2 (by simp),q3⟩
  | next=>exact False.elim hq
  | brk=>exact False.elim hq
  | cont=>exact False.elim hq
end
section
variable {X:Cx} {pins:List (Addr×Obj)} {σ:L2.St} {S:So} {H₀ H:Hp} {α₀ α:List Addr} {base:Heap} {n0:Nat} {s:Shared} {A:Around} {E:Value->Shared->Prop} {a D kS:Addr} {vs:List Value} {kz:List Int} {keys:Array Value} {e e1:Nat} {P:PySem.Fin->Shared->Prop}
theorem Qk {st:SortSt} {out:List Value} (N:N0 X pins base n0) (J:SJ X pins σ S H₀ α₀ base n0 [(D,seqObj "list" #[] e1),(kS,seqObj "list" keys e)] s H α) (hka:D≠kS) (hkz:keys.size<=64) (hfl:failedOf st=none) (ho:((arrOf st).map (·.2)).toList=out) (h64:out.length<=64)
 (h:∀ c tk h',SJ X pins σ S H₀ α₀ base n0 [(D,seqObj "list" out.toArray c)] { s with heap:=h',toks:=tk } H α->P (.done (.ret .none)) { s with heap:=h',toks:=tk }) :
 wpAny (model X.prog X.w) A (ksk_tail D false e1 (.ref kS) st) P E s:=by
 have ho2:(arrOf st).map (·.2)=out.toArray:=by rw [<-ho]
 unfold ksk_tail
 try dsimp only
 have nk:=J.own (kS,seqObj "list" keys e) (by simp)
 obtain ⟨c1,J1⟩:=J.chg N (a:=kS) (xs:=keys) (n:=e) (by simp) (λ_=>(#[]:Array Value)) (t':=s.toks)
 have J1:=J1 [(D,seqObj "list" #[] e1)] (λp hp=>by
  rw [List.mem_singleton.mp hp];exact .inr ⟨by simp,hka⟩)
 have na:=J1.own (D,seqObj "list" #[] e1) (by simp)
 refine aN (listUpdate_at nk.1 rfl ?_ (by rw [sizeLine_eq];omega) (Nat.zero_le _))
 refine aN (wpAny_letGo ?_)
 refine aN (seqEpoch_at na.1 rfl ?_)
 rw [ho2]
 refine aN (listUpdate_at na.1 rfl ?_ (Nat.zero_le _) (by simp only [Bool.false_eq_true,if_false,dH];rw [sizeLine_eq];omega))
 rw [hfl]
 simp only [bne_self_eq_false,Bool.false_eq_true,if_false]
 obtain ⟨c2,J2⟩:=J1.chg N (a:=D) (xs:=#[]) (n:=e1) (by simp) (λ_=>out.toArray) (t':=s.toks)
 exact bW (h c2 _ _ (J2 _ λp hp=>by
  rw [List.mem_singleton.mp hp];exact .inl rfl))
theorem Ys (N:N0 X pins base n0) (J:SJ X pins σ S H₀ α₀ base n0 [(D,seqObj "list" #[] e1),(kS,seqObj "list" keys e)] s H α) (hka:D≠kS) (hk:IntsAre keys.toList kz) (hlen:kz.length=vs.length) (h64:vs.length<64)
 (h:∀ c tk h',SJ X pins σ S H₀ α₀ base n0 [(D,seqObj "list" ((jg kz).map λi=>vs.getD i .none).toArray c)] { s with heap:=h',toks:=tk } H α->P (.done (.ret .none)) { s with heap:=h',toks:=tk }) :
 wpAny (model X.prog X.w) A (ksk_end D false vs.toArray e1 (.ref kS) keys) P E s:=by
 have hsz:keys.size=vs.length:=by
  have h1:=hk.length
  rw [Array.length_toList] at h1
  omega
 have hol:((jg kz).map λi=>vs.getD i Value.none).length<=64:=by
  rw [cQ,(JQ kz).length_eq,List.length_range];omega
 unfold ksk_end
 simp only [Bool.false_eq_true,if_false]
 by_cases h2:vs.toArray.size<2
 ·rw [if_pos h2,if_pos h2]
  refine aN (bW ?_)
  rw [StateT.run_pure]
  refine aN (bW ?_)
  try dsimp only
  rw [dH] at h2
  exact Qk (st:=SortSt.mk' general' (keys.zip vs.toArray) #[] 7 none) N J hka (by omega) rfl (zla hk hlen h2) hol h
 ·rw [if_neg h2,if_neg h2]
  rw [dH] at h2
  rw [ksk_kind hk (by rw [hsz];omega)]
  refine aN (bW ?_)
  refine aN (jm (zms hk hlen (by omega) h64) ?_ λ_ _ e=>e)
  rintro ⟨⟨⟩,st'⟩ s' ⟨rfl,hf,ho⟩
  try dsimp only
  exact Qk N J hka (by omega) hf ho hol h
theorem zmS {f:Value} (N:N0 X pins base n0) (J:SJ X pins σ S H₀ α₀ base n0 [(D,seqObj "list" #[] e1),(kS,seqObj "list" #[] 0)] s H α) (hka:D≠kS) (hlen:kz.length=vs.length) (h64:vs.length<64)
 (turn:∀ (i:Nat) (v:Value) (k:Int),vs[i]?=some v->kz[i]?=some k->∀ own p0,p0∈own->∀ s H α,SJ X pins σ S H₀ α₀ base n0 own s H α->wpAny (model X.prog X.w) A (call f [v]) (λr s'=>∃ t H' α',r = .int k t/\SJ X pins σ S H₀ α₀ base n0 own s' H' α') (λ_ _=>False) s)
 (h:∀ c s' H' α',SJ X pins σ S H₀ α₀ base n0 [(D,seqObj "list" ((jg kz).map λi=>vs.getD i .none).toArray c)] s' H' α'->P (.done (.ret .none)) s') :
 wpAny (model X.prog X.w) A (ksk_rest D f false vs.toArray e1 (.ref kS)) P E s:=by
 unfold ksk_rest
 refine aN (wpAny_rule ?_)
 first
  | rw [List.forIn_toArray]
  | (rw [<-Array.forIn_toList];simp only [List.toList_toArray])
  | rw [<-Array.forIn_toList]
 refine aN (ksk_fold (λi s'=>∃ H α kA e,SJ X pins σ S H₀ α₀ base n0 [(D,seqObj "list" #[] e1),(kS,seqObj "list" kA e)] s' H α/\IntsAre kA.toList (kz.take i)) vs 0 s
  ⟨H,α,#[],0,J,by simpa using IntsAre.nil⟩ ?step ?done)
 case step =>
  rintro j x s' hx ⟨H',α',kA,e,J',hk⟩
  simp only [Nat.zero_add] at hk ⊢
  have hj:j<vs.length:=(dN.mp hx).1
  obtain ⟨k,hkj⟩:∃ k,kz[j]?=some k:=⟨_,dO (by omega)⟩
  have hz:kA.size<=vs.length:=by
   have h1:=hk.length
   rw [Array.length_toList,qT] at h1
   omega
  refine aN (wpAny_attempt (jm (turn j x k hx hkj _ _ (fL ..) s' H' α' J') (λv s'' he=>?_) λ_ _ hF=>hF.elim))
  obtain ⟨t2,H2,α2,rfl,J2⟩:=he
  try dsimp only
  have nk:=J2.own (kS,seqObj "list" kA e) (by simp)
  obtain ⟨c2,J3⟩:=J2.chg N (a:=kS) (xs:=kA) (n:=e) (by simp) (·.push (.int k t2)) (t':=s''.toks)
  have ek:kz.take (j+1)=kz.take j++[k]:=by rw [List.take_add_one,hkj];simp
  have ea:(kA.push (Value.int k t2)).toList=kA.toList++[Value.int k t2]:=by simp
  refine aN (listUpdate_at nk.1 rfl ?_ (by rw [sizeLine_eq];omega) (Nat.le_trans (Nat.le_of_eq (Array.size_push ..)) (by rw [sizeLine_eq];omega)))
  refine bW ⟨rfl,H2,α2,kA.push (.int k t2),c2,J3 _ λp hp=>?_,by rw [ea,ek];exact ksk_snoc hk⟩
  rcases List.mem_cons.mp hp with rfl | hp
  ·exact .inr ⟨by simp,hka⟩
  ·rw [List.mem_singleton.mp hp];exact .inl rfl
 case done =>
  rintro s' ⟨H',α',kA,e,J',hk⟩
  have hk':IntsAre kA.toList kz:=by
   have e3:kz.take (0+vs.length)=kz:=List.take_of_length_le (by omega)
   rw [e3] at hk
   exact hk
  have nk:=J'.own (kS,seqObj "list" kA e) (by simp)
  try dsimp only
  refine aN (listItems_at nk.1 rfl ?_)
  exact Ys N J' hka hk' hlen h64 λc tk h' J2=>h c _ _ _ J2
theorem zmR {f:Value} {n:Nat} (N:N0 X pins base n0) (J:SJ X pins σ S H₀ α₀ base n0 [(D,seqObj "list" vs.toArray n)] s H α) (hlen:kz.length=vs.length) (h64:vs.length<64)
 (turn:∀ (i:Nat) (v:Value) (k:Int),vs[i]?=some v->kz[i]?=some k->∀ own p0,p0∈own->∀ s H α,SJ X pins σ S H₀ α₀ base n0 own s H α->wpAny (model X.prog X.w) A (call f [v]) (λr s'=>∃ t H' α',r = .int k t/\SJ X pins σ S H₀ α₀ base n0 own s' H' α') (λ_ _=>False) s)
 (h:∀ c s' H' α',SJ X pins σ S H₀ α₀ base n0 [(D,seqObj "list" ((jg kz).map λi=>vs.getD i .none).toArray c)] s' H' α'->P (.done (.ret .none)) s') :
 wpAny (model X.prog X.w) A (ksk_tree D f false) P E s:=by
 have ho:=(J.own _ (List.mem_singleton.mpr rfl)).1
 have ha:D<s.heap.objs.size:=cj ho
 obtain ⟨e1,J1⟩:=J.chg N (a:=D) (xs:=vs.toArray) (n:=n) (by simp) (λ_=>(#[]:Array Value)) (t':=s.toks)
 have J1:=J1 [(D,seqObj "list" #[] e1)] λp hp=>by rw [List.mem_singleton.mp hp];exact .inl rfl
 have ho1:=(J1.own _ (List.mem_singleton.mpr rfl)).1
 have J2:=J1.laid (h':=(s.heap.update D (Obj.mapSeq λ_=>(#[]:Array Value))).push (seqObj "tuple" vs.toArray 0)) (t':=s.toks) (λb u q=>c7 _ q) (bR _) (fZ _ rfl)
 have J2:=J2.fewer (own':=[(D,seqObj "list" #[] e1)]) λp hp=>List.mem_append_left _ hp
 have J3:=J2.laid (h':=((s.heap.update D (Obj.mapSeq λ_=>(#[]:Array Value))).push (seqObj "tuple" vs.toArray 0)).push (seqObj "list" #[] 0)) (t':=s.toks) (λb u q=>c7 _ q) (bR _) (fZ _ rfl)
 unfold ksk_tree
 refine aN (listItems_at ho rfl ?_)
 refine aN (listUpdate_at ho rfl ?_ (by rw [dH,sizeLine_eq];omega) (Nat.zero_le _))
 refine aN (seqEpoch_at ho1 rfl ?_)
 refine aN (wpAny_newTuple ?_ (by show vs.length<=_;rw [sizeLine_eq];omega))
 refine aN (wpAny_newList ?_ (Nat.zero_le _))
 refine wpAny_holding ?_
 refine zmS N J3 ?_ hlen h64 turn h
 have:D<((s.heap.update D (Obj.mapSeq λ_=>(#[]:Array Value))).push (seqObj "tuple" vs.toArray 0)).objs.size:=by
  rw [size_push',Heap.size_update];exact Nat.lt_succ_of_lt ha
 exact dw this
end
section
variable {X:Cx} {pins:List (Addr×Obj)} {σ:L2.St} {S:So} {H₀ H:Hp} {α₀ α:List Addr} {base:Heap} {n0:Nat} {s:Shared} {A:Around} {E:Value->Shared->Prop} {a l:Addr} {vs:List Value} {kz:List Int} {Q:Value->Shared->Prop}
theorem zjt (N:N0 X pins base n0) (J:SJ X pins σ S H₀ α₀ base n0 [] s H α) (hl:s.heap.IsList l vs.toArray) (hlen:kz.length=vs.length) (h64:vs.length<64)
 (turn:∀ (i:Nat) (v:Value) (k:Int),vs[i]?=some v->kz[i]?=some k->∀ own p0,p0∈own->∀ s H α,SJ X pins σ S H₀ α₀ base n0 own s H α->wpAny (model X.prog X.w) A.in1.in1 (call (.ref a) [v]) (λr s'=>∃ t H' α',r = .int k t/\SJ X pins σ S H₀ α₀ base n0 own s' H' α') (λ_ _=>False) s)
 (h:∀ D c s' H' α',SJ X pins σ S H₀ α₀ base n0 [(D,seqObj "list" ((jg kz).map λi=>vs.getD i .none).toArray c)] s' H' α'->Q (.ref D) s') :
 wpAny (model X.prog X.w) A (call (.builtin "sorted") [.ref l] [(Str.ofString "key",.ref a)]) Q E s:=by
 refine call_function_entry_kw kind_sorted plain_sorted entry_sorted (ksk_s1 _ _) ?_
 unfold Builtin.«sorted»
 refine aN (m:=checkCount "sorted" 1 1 _) (bW ?_)
 refine aN (collect_list hl ?_ (by rw [sizeLine_eq];omega))
 refine aN (wpAny_newList ?_ (by rw [sizeLine_eq];omega))
 have hsz:((s.heap.push (seqObj "list" #[] 0)).update s.heap.objs.size (Obj.mapSeq (·++vs.toArray))).objs.size=s.heap.objs.size+1:=by
  rw [Heap.size_update,size_push']
 have hoL:(((s.heap.push (seqObj "list" #[] 0)).update s.heap.objs.size (Obj.mapSeq (·++vs.toArray))).push (seqObj "list" vs.toArray 0)).get? (s.heap.objs.size+1)=some (seqObj "list" vs.toArray 0):=by
  rw [<-hsz];exact fZ _ rfl
 have keep:∀ b o,s.heap.get? b=some o->(((s.heap.push (seqObj "list" #[] 0)).update s.heap.objs.size (Obj.mapSeq (·++vs.toArray))).push (seqObj "list" vs.toArray 0)).get? b=some o:=λb o q=>by
  have hlt:b<s.heap.objs.size:=cj q
  rw [Heap.get?_push_ne _ _ _ (by rw [hsz];exact dw (Nat.lt_succ_of_lt hlt)),Heap.get?_update_ne _ _ _ _ (dw hlt),Heap.get?_push_ne _ _ _ (dw hlt)]
  exact q
 have J1:=J.laid (h':=((s.heap.push (seqObj "list" #[] 0)).update s.heap.objs.size (Obj.mapSeq (·++vs.toArray))).push (seqObj "list" vs.toArray 0)) (t':=s.toks) keep (Nat.le_succ _) hoL
 show wpAny _ _ _ _ _ { s with heap:=((s.heap.push (seqObj "list" #[] 0)).update s.heap.objs.size (Obj.mapSeq (·++vs.toArray))).push (seqObj "list" vs.toArray 0) }
 rw [hsz]
 refine aN (wpAny_holding (wpAny_call_entry_kw slot_list_sort ⟨_,hoL,rfl⟩ entry_list_sort ?body (ksk_l1 _ _)))
 case body =>
  show wpAny (model X.prog X.w) A.in1.in1 (Builtin.«list.sort» ⟨[.ref (s.heap.objs.size+1)],[(Str.ofString "key",.ref a)]⟩) _ _ _
  rw [ksk_t1]
  refine zmR N J1 hlen h64 turn λc s' H' α' J'=>⟨_,rfl,?_⟩
  exact bW ⟨_,rfl,h _ _ _ _ _ J'⟩
theorem SJ.adopt {D:Addr} {out:List Value} {c:Nat} {ws:List V} (N:N0 X pins base n0) (J:SJ X pins σ S H₀ α₀ base n0 [(D,seqObj "list" out.toArray c)] s H α) (hv:Vals ws out) (hz:ws.length<=sizeLine):Inv X pins σ (upd H D (.lst ws)) s:=by
 obtain ⟨e,hn,h0⟩:=J.own _ (List.mem_singleton.mpr rfl)
 have I:=J.inv
 refine I.step (h':=s.heap) (g':=s.gens) (d':=s.drawn) (t':=s.toks) (ch:=[D]) (λb hb=>?_) (λb o _ _ _ q _=>q) (λb o _ _ _ q _=>⟨o.slots,q⟩) (λb o hb q n=>?_) (λb o _ q=>⟨o,q⟩) (λb xs q=>?_) (λb o u q=>?_) (λb ps q=>?_) (λm q=>q) (λb o q=>?_) I.bare
 ·rw [List.mem_singleton.mp hb]
  exact ⟨.inr (Nat.le_trans N.s0 h0),Nat.ne_of_gt (dj N.loc h0),λx c q=>dw (dj (N.cel x c q) h0),λp hp=>dw (dj (N.pin p hp) h0)⟩
 ·rw [bY (λz=>hb (by simp [z]))];exact n
 ·rw [bY (fU q hn)];exact q
 ·rw [bY (fU q hn)];exact q
 ·exact ⟨#[],by rw [bY (fU q hn),q];simp⟩
 ·by_cases hb:b=D
  ·subst hb;rw [eO] at q;cases q;exact ⟨hz,out,c,hv,e⟩
  ·rw [bY hb] at q
   exact (I.hok b o q).stay (λ_ _ _ r=>r) (λx r=>by rw [bY (fU r hn)];exact r) λx xs r=>by rw [bY (fU r hn)];exact r
end
end MX
end
section
namespace MX
open PySem PySem.Spec PySem.W PyProof.Rows L2
section
variable {X:Cx} {pins:List (Addr×Obj)} {σ:L2.St} {H1 H':Hp} {s1 s':Shared} {params:Arguments} {body:Expr} {scope:Scope} {bQ:Pos} {P Pt:Addr} {cap:List Str} {fX:List V} {a:Addr} {q:Str} {fb:EF} {k:Nat} {clos:List (Str×Addr)} {gB:List D} {cdv:Value} {base:Heap}
theorem zlC (I1:Inv X pins σ H1 s1) (M:Made X pins σ H1 s1 params body scope (mQ X.env scope.names) P bQ a s' H')
 (hcap:∀ y∈cap,(y,NameKind.free)∈scope.names) (hfree:∀ y∈scope.names,y.2 = .free->X.env.kindOf y.1=some .cell) (hfn:∀ y,X.fn y=true)
 (hsl:∀ (i:Nat) y,cap[i]?=some y->∃ (j:Nat) (v:V),X.N[j]?=some y/\σ[j]?=some (some v)/\fX[i]?=some v) :
 ∃ cdv,Vl (lY s'.heap H' X.stack) X.env.qual params body scope (mQ X.env scope.names) cap fX a cdv/\∃ ps,H' P=some (.tbl ps)/\codeAmong bQ ps.toList=some cdv:=by
 obtain ⟨pm,cdv,ctv,ho,M7⟩:=M.obj
 have I2:=M.inv
 have hcells:∀ y∈scope.names,y.2 = .free->∃ c,X.env.cells.lookup y.1=some c:=λy hy e=>I1.ok.has y.1 (.inl (hfree y hy e))
 have z9:∀ b,s1.heap.objs.size<=b->b∉frs X.stack:=λb hb z=>by
  obtain ⟨_,o,ho,_⟩:=I1.stack.mem z
  exact absurd (dj (cj ho) hb) (gF _)
 have vA:∀ y c,X.env.cells.lookup y=some c->c∉frs X.stack:=λy c ec z=>by
  rcases List.mem_cons.mp (I2.stkSub c z) with q | q
  ·exact I2.cne y c ec q
  ·obtain ⟨_,o,ho,_⟩:=I2.ok.funs.mem q
   exact absurd (dj (cj ho) (I2.ok.cab y c (hfn y) ec)) (gF _)
 have tB:∀ y c v,X.env.cells.lookup y=some c->s'.heap.IsCell c v->(lY s'.heap H' X.stack).IsCell c v:=λy c v ec ⟨o,h1,h2⟩=>⟨o,Jk h1 (I2.freeC y c ec) (vA y c ec),h2⟩
 refine ⟨cdv,⟨⟨pm,ctv,Jk ho M.no (z9 a M.new)⟩,λy hy=>?_,λy z c h1 h2=>I2.ok.inj y z c (yU h1).1 (yU h2).1,λy c h1=>?_,λi y v h1 h2=>?_⟩,M7⟩
 ·obtain ⟨c,hc⟩:=hcells _ hy rfl
  exact ⟨c,RW hy hc⟩
 ·obtain ⟨v,hv⟩:=I2.cell y c (yU h1).1
  exact ⟨v,tB y c v (yU h1).1 hv⟩
 ·have hy:=hcap y (List.mem_of_getElem? h1)
  obtain ⟨j,v',k1,k2,k3⟩:=hsl i y h1
  rw [h2] at k3;cases k3
  have hkind:=hfree _ hy rfl
  obtain ⟨m,_,hloc⟩:=I2.loc
  obtain ⟨u,ru,l⟩:=hloc j y v k1 k2 (.inr (.inl hkind))
  refine ⟨hy,?_⟩
  rcases l with ⟨l1,_⟩ | ⟨_,c,l2,l3⟩
  ·have l1':X.env.kindOf y=some .local:=l1
   have hk':X.env.kindOf y=some .cell:=hkind
   rw [hk'] at l1';cases l1'
  ·exact ⟨c,u,RW hy l2,tB y c _ l2 l3,ru⟩
theorem VN (hsc:scope.kind = .function/\scope.isCoroutine=false/\scope.isGenerator=false/\scope.names.lookup q=some .local/\∀ y∈scope.names,y.2 ≠ .cell)
 (hu:∀ y∈scope.names,scope.names.lookup y.1=some y.2) (hbind:∀ (pm cdv ctv:Value) (clos:List (Str×Addr)) (qual:Str) (u:Value),bindArgs (kla_fn "<lambda>" qual params body scope clos pm cdv ctv) ⟨[u],[]⟩=pure [(q,u)])
 (hbody:∀ (a:Addr) (cdv:Value) (clos:List (Str×Addr)) (qual:Str) (A:Around) (outer:List Env) (s:Shared) (H:Hp) (E:XK),bG k (A.deeper (envX qual scope s.heap.objs.size a cdv clos)) ->
  SE (vz X.prog X.w X.K X.mg base (q::cap) qual scope a cdv clos A outer s H E).nox body fb)
 (hlo:uR gB=true) (hl:cap.length=fX.length) (C:Vl base X.env.qual params body scope clos cap fX a cdv) :
 BL X.prog X.w X.K X.mg base (k+1) a (λH=>aF X.K H [] gB fX/\∃ ps,H Pt=some (.tbl ps)/\codeAmong bQ ps.toList=some cdv) (lamF fb gB):=by
 obtain ⟨pm,ctv,ho⟩:=C.obj
 have lam:=Xb (P:=X.prog) (w:=X.w) (K:=X.K) (mg:=X.mg) (k:=k) (Pt:=Pt) (bQ:=bQ) (p:=q) (cap:=cap) (fX:=fX) (cus:=[])
  (sp:=λvs H Q E=>vs.length=1/\(aF X.K H [] gB fX/\∃ ps,H Pt=some (.tbl ps)/\codeAmong bQ ps.toList=some cdv)/\iW X.K (lamF fb gB) vs H Q)
  ho rfl (λvs H Q E h=>h.2.1.2) ⟨hsc.1,hsc.2.1,hsc.2.2.1,hsc.2.2.2.1,hsc.2.2.2.2,λy hy=>C.has y (gD hy),C.inj⟩ C.cells
  (λi y v h1 h2=>⟨hu _ (C.cap i y v h1 h2).1,(C.cap i y v h1 h2).2⟩) hl (λvs H Q E h=>h.1)
  (λqual A outer s H v Q E hr h=>⟨_,hbody a cdv clos qual A outer s H E hr,?_⟩)
 ·exact ⟨_,q,_,lam,ho,λs u => .of_eq (hbind pm cdv ctv clos _ u),λvs H Q hR h1 h2=>⟨h1,hR,h2⟩⟩
 ·obtain ⟨_,⟨hrep,_⟩,S,α,ds,z,S',hs,hrs,hf,kk⟩:=h
  unfold lamF at hf
  split at hf
  ·rename_i d
   cases hrs with
   | cons r1 r2 =>
    cases r2
    refine ⟨some d::gB.map some,S,α,z,S',⟨by simp [hrep.length],λi d' e'=>?_⟩,hs,hf,kk⟩
    cases i with
    | zero =>
     simp at e';subst e';exact ⟨v,rfl,r1⟩
    | succ i =>
     rw [List.getElem?_cons_succ,eV] at e'
     cases qd:gB[i]? with
     | none=>rw [qd] at e';cases e'
     | some d2 =>
      rw [qd] at e';cases e'
      obtain ⟨v2,k1,k2⟩:=(hrep.monoT (α':=α) fu.refl hlo).get qd
      exact ⟨v2,by rw [List.getElem?_cons_succ,eV,k1];rfl,k2⟩
  ·cases hf
end
open Classical in
def pQ (ψ:GN) (S:So):List D->Option (List Int)
 | []=>some []
 | d::r=>match ψ [d] S with
  | some (.int k,S')=>if S'=S then (pQ ψ S r).map λl=>k::l else none
  | _=>none
theorem ziW {ψ:GN} {S:So} {d:D} {r:List D} {k:Int} {l:List Int} (h:ψ [d] S=some (.int k,S)) (hr:pQ ψ S r=some l):pQ ψ S (d::r)=some (k::l):=by
 unfold pQ
 rw [h]
 simp [hr]
theorem R6 {ψ:GN} {S:So}:∀ {xs:List D} {kz:List Int},pQ ψ S xs=some kz->kz.length=xs.length/\∀ (i:Nat) d k,xs[i]?=some d->kz[i]?=some k->ψ [d] S=some (.int k,S)
 | [],kz,h=>by cases h;exact ⟨rfl,λi d k e=>by simp at e⟩
 | x::r,kz,h=>by
  unfold pQ at h
  split at h
  ·rename_i k0 S0 e0
   split at h
   ·rename_i hS
    subst hS
    simp only [aU] at h
    obtain ⟨l,e1,rfl⟩:=h
    obtain ⟨h1,h2⟩:=R6 e1
    refine ⟨by simp [h1],λi d k e3 e4=>?_⟩
    cases i with
    | zero=>simp at e3 e4;subst e3 e4;exact e0
    | succ i=>exact h2 i d k (by simpa using e3) (by simpa using e4)
   ·cases h
  ·cases h
def xM (fe:EF) (src:List Nat) (fb:EF):EF:=λσ S=>(fe σ S).bind λr=>(oh src σ).bind λgB=>if uR gB=true then match r.1 with
 | .ref n=>match r.2[n]? with
  | some (.lst xs)=>if xs.length<64 then (pQ (lamF fb gB) r.2 xs).map λkz=>(.ref r.2.length,r.2++[.lst ((jg kz).map λi=>xs.getD i .non)]) else none
  | _=>none
 | _=>none
 else none
theorem Rv {K:PySem.W.Frag} {H:Hp} {α:List Addr} {xs:List D} {ws:List V} (r:aF K H α xs ws):∀ l:List Nat,aF K H α (l.map λi=>xs.getD i .non) (l.map λi=>ws.getD i .non)
 | [] => .nil
 | i::l=>by
  refine .cons (show Rep K H α (xs.getD i .non) (ws.getD i .non) from ?_) (Rv r l)
  by_cases hi:i<xs.length
  ·obtain ⟨v,h1,h2⟩:=r.get (dO hi)
   rw [List.getD_eq_getElem?_getD,List.getD_eq_getElem?_getD,dO hi,h1]
   exact h2
  ·have hi':¬ i<ws.length:=by rw [<-r.length];exact hi
   rw [List.getD_eq_getElem?_getD,List.getD_eq_getElem?_getD,iK (by omega),iK (by omega)]
   exact .non
theorem RL {ws:List V} {us:List Value} (r:Vals ws us):∀ l:List Nat,Vals (l.map λi=>ws.getD i .non) (l.map λi=>us.getD i .none)
 | [] => .nil
 | i::l=>by
  refine .cons (show RelV (ws.getD i .non) (us.getD i .none) from ?_) (RL r l)
  by_cases hi:i<ws.length
  ·obtain ⟨v,h1,h2⟩:=r.get (dO hi)
   rw [List.getD_eq_getElem?_getD,List.getD_eq_getElem?_getD,dO hi,h1]
   exact h2
  ·have hi':¬ i<us.length:=by rw [<-r.length];exact hi
   rw [List.getD_eq_getElem?_getD,List.getD_eq_getElem?_getD,iK (by omega),iK (by omega)]
   exact rfl
section
variable {X:Cx} {p pos bQ kp:Pos} {e:Expr} {fe fb:EF} {params:Arguments} {body:Expr} {scope:Scope} {q:Str} {cap:List Str} {src:List Nat} {k:Nat} {Pt ct:Addr}
theorem Vw (L:BP X Pt ct) (hsc:scope.kind = .function/\scope.isCoroutine=false/\scope.isGenerator=false/\scope.names.lookup q=some .local/\∀ y∈scope.names,y.2 ≠ .cell)
 (hu:∀ y∈scope.names,scope.names.lookup y.1=some y.2)
 (hcap:∀ y∈cap,(y,NameKind.free)∈scope.names) (hfree:∀ y∈scope.names,y.2 = .free->X.env.kindOf y.1=some .cell) (fW:∀ (i:Nat) y,cap[i]?=some y->∃ j,src[i]?=some j/\X.N[j]?=some y) (hlen:cap.length=src.length)
 (hdef:defaultsOf params X.env=([],[])) (hbind:∀ (pm cdv ctv:Value) (clos:List (Str×Addr)) (qual:Str) (u:Value),bindArgs (kla_fn "<lambda>" qual params body scope clos pm cdv ctv) ⟨[u],[]⟩=pure [(q,u)])
 (hbody:∀ (base:Heap),Mod X.K X.mg base->∀ (a:Addr) (cdv:Value) (clos:List (Str×Addr)) (qual:Str) (A:Around) (outer:List Env) (s:Shared) (H:Hp) (E:XK),bG k (A.deeper (envX qual scope s.heap.objs.size a cdv clos)) ->
  SE (vz X.prog X.w X.K X.mg base (q::cap) qual scope a cdv clos A outer s H E).nox body fb)
 (hr:bG (k+3) X.A) (hg:Gl X "sorted") (hm:X.mg "sorted" = none) (ha:SE X e fe)
 (he:starEach [e] X.env=[(false,eval e X.env)]) :
 SE X (.Call (.Name "sorted" p) [e] [⟨some "key",.Lambda params body scope bQ,kp⟩] pos) (xM fe src fb):=by
 intro pins s σ H Q I h
 obtain ⟨σd,S,α,z,S',hv,hs,hf,kk⟩:=h
 unfold xM at hf
 simp only [bA] at hf
 obtain ⟨⟨d1,S1⟩,e1,gB,e2,e3⟩:=hf
 split at e3
 ·rename_i hlo
  split at e3
  ·rename_i n en
   simp only at en
   subst en
   split at e3
   ·rename_i xs ex
    split at e3
    ·rename_i h64
     simp only [aU] at e3
     obtain ⟨kz,ek,e4⟩:=e3
     cases e4
     obtain ⟨hkl,hkg⟩:=R6 ek
     obtain ⟨fX,c1,c2,c3⟩:=QK hv e2
     refine wpAny_Call_Name_kw (rG I hg hm (show bootBuiltins "sorted" = some (.builtin "sorted") by decide +kernel) ?_ (by decide) (by decide))
     have hst:backTo pos (starEach [e] X.env)=(false,eval e X.env)::backTo pos (starEach [] X.env):=by rw [he];rfl
     refine callWith_kw ?_ hst (by rw [hst];rfl) rfl rfl
     rw [hst]
     refine Calls.spliced_cons (bL (ha pins s σ H (λv H1=>∃ α1,au X.K H1 α1 S1/\Ext X.K H α H1 α1/\Rep X.K H1 α1 (.ref n) v) I ⟨σd,S,α,.ref n,S1,hv,hs,e1,λw H1 α1 s1 x1 r1=>⟨α1,s1,x1,r1⟩⟩) λu1 s1 ⟨v1,H1,I1,r1,α1,st1,x1,Mf⟩=>?_)
     refine Calls.spliced_nil ?_
     cases Mf with
     | @ref _ l hl =>
      cases r1
      obtain ⟨ws,hw,rws⟩:=st1.obj _ _ _ ex hl
      have hcells:∀ y∈scope.names,y.2 = .free->∃ c,X.env.cells.lookup y.1=some c:=λy hy e=>I1.ok.has y.1 (.inl (hfree y hy e))
      obtain ⟨ps0,M6⟩:=L.tab
      obtain ⟨more,hps⟩:=I1.base.tbls Pt ps0 M6
      refine kws_cons (zlE I1 hps L.code L.hd L.bm (zi3 hcells) hdef λa s2 H2 M=>kws_nil ?_)
      obtain ⟨cdv,C,Nb⟩:=zlC I1 M hcap hfree L.fn (fX:=fX) (λi y hi=>by
       obtain ⟨j,k1,k2⟩:=fW i y hi
       obtain ⟨v,k3,k4⟩:=c3 i j k1
       exact ⟨j,v,k2,k3,k4⟩)
      have I2:=M.inv
      obtain ⟨e0,kb⟩:=zkC I2
      have N:=N0.of I2
      have hw2:H2 l=some (.lst ws):=M.same.1 _ _ hw λ_ z=>by cases z
      have J:SJ X pins σ S1 H2 α1 (lY s2.heap H2 X.stack) s2.heap.objs.size [] s2 H2 α1:=⟨I2,M.same.store st1,Ext.refl,fu.refl,bR _,λb o e=>Rt e,λp hp=>(nomatch hp)⟩
      obtain ⟨hz,its,en,rv,hits,ho⟩:=I2.lstM hw2
      have hil:s2.heap.IsList l its.toArray:=⟨_,ho,rfl,en,rfl⟩
      have clo:=VN (X:=X) (Pt:=Pt) (bQ:=bQ) (k:=k) hsc hu hbind (hbody _ e0.mod) hlo (by rw [hlen,c2]) C
      have hR:aF X.K H2 [] gB fX/\∃ ps,H2 Pt=some (.tbl ps)/\codeAmong bQ ps.toList=some cdv:=⟨(c1.mono (x1.trans M.same.ext)).monoT fu.refl hlo,Nb⟩
      have zN:=rws.mono (M.same.ext (α:=α1))
      refine zjt (kz:=kz) N J hil (by rw [hkl,rws.length];exact hits) (by rw [<-hits,<-rws.length];exact h64) (λi u kv hu hk own p0 hp0 s3 H3 α3 J3=>?_) λDd c s3 H3 α3 J3=>?_
      ·obtain ⟨w,hw3,rw3⟩:∃ w,ws[i]?=some w/\RelV w u:=by
        have hi:i<ws.length:=by rw [hits];exact (dN.mp hu).1
        obtain ⟨u',hu',r'⟩:=rv.get (dO hi)
        rw [hu] at hu';cases hu'
        exact ⟨_,dO hi,r'⟩
       obtain ⟨d,hd,rd⟩:=zN.getV hw3
       refine SJ.call N e0.mod J3 (A:=X.A.in1.in1) rfl hr.in1.in1 clo (λHa Hb t hR=>⟨hR.1.monoT t hlo,?_⟩) hR hp0 (rd.mono J3.ext) rw3 (hkg i d kv hd hk)
       obtain ⟨ps,h1,h2⟩:=hR.2
       obtain ⟨more,h3⟩:=t.tbls _ _ h1
       exact ⟨_,h3,by rw [Array.toList_append];exact zi7 _ _ h2⟩
      ·have Am:((jg kz).map λi=>ws.getD i V.non).length<=sizeLine:=by
        rw [cQ,(JQ kz).length_eq,List.length_range,sizeLine_eq];omega
       have I3:=J3.adopt N (RL rv (jg kz)) Am
       have hnD:=(J3.own _ (List.mem_singleton.mpr rfl)).2.1
       obtain ⟨s4,x4⟩:=J3.st.snoc (p:=Dd) (o := .lst ((jg kz).map λi=>xs.getD i .non)) (u := .lst ((jg kz).map λi=>ws.getD i V.non)) hnD λα' x=>⟨_,eO,(Rv (zN.mono J3.ext) (jg kz)).mono x⟩
       refine ⟨.ref Dd,_,I3,rfl,kk _ _ _ s4 ((x1.trans (M.same.ext (α:=α1))).trans (J3.ext.trans x4)) (.ref ?_)⟩
       rw [<-J3.st.len];simp
    ·cases e3
   ·cases e3
  ·cases e3
 ·cases e3
end
end MX
end
section
namespace MX
open PySem PySem.Spec PyProof.Rows L2
def t6 (f:Str) (v:D):List (Str×D)->List (Str×D)
 | []=>[(f,v)]
 | (g,x)::r=>if g=f then (g,v)::r else (g,x)::t6 f v r
section
variable {K:PySem.W.Frag} {H:Hp} {α:List Addr}
inductive cB (K:PySem.W.Frag) (H:Hp) (α:List Addr):List (Str×D)->List (Str×V)->Prop
 | nil:cB K H α [] []
 | cons {f:Str} {d:D} {v:V} {fs:List (Str×D)} {gs:List (Str×V)} (h:Rep K H α d v) (r:cB K H α fs gs):cB K H α ((f,d)::fs) ((f,v)::gs)
theorem cB.of:∀ {fs:List (Str×D)} {gs:List (Str×V)},fs.map (·.1)=gs.map (·.1)->aF K H α (fs.map (·.2)) (gs.map (·.2))->cB K H α fs gs
 | [],[],_,_ => .nil
 | [],_::_,e,_=>by cases e
 | _::_,[],e,_=>by cases e
 | (f,d)::fs,(g,v)::gs,e,r=>by
   injection e with e1 e2
   cases e1
   cases r with
   | cons a b=>exact .cons a (cB.of e2 b)
theorem cB.keys:∀ {fs:List (Str×D)} {gs:List (Str×V)},cB K H α fs gs->fs.map (·.1)=gs.map (·.1)
 | _,_,.nil=>rfl
 | _,_,.cons _ r=>by simp only [iM,r.keys]
theorem cB.reps:∀ {fs:List (Str×D)} {gs:List (Str×V)},cB K H α fs gs->aF K H α (fs.map (·.2)) (gs.map (·.2))
 | _,_,.nil => .nil
 | _,_,.cons h r => .cons h r.reps
theorem cB.look {f:Str} {d:D}:∀ {fs:List (Str×D)} {gs:List (Str×V)},cB K H α fs gs->fs.lookup f=some d->∃ v,gs.lookup f=some v/\Rep K H α d v
 | _,_,.nil,h=>by cases h
 | _,_,@cB.cons _ _ _ g d' v' fs gs h r,e=>by
  rw [iZ] at e ⊢
  by_cases q:(f==g)=true
  ·rw [q] at e ⊢
   simp only at e ⊢
   cases e
   exact ⟨_,rfl,h⟩
  ·have q:(f==g)=false:=by simpa using q
   rw [q] at e ⊢
   exact r.look e
theorem cB.lookN {f:Str}:∀ {fs:List (Str×D)} {gs:List (Str×V)},cB K H α fs gs->fs.lookup f=none->gs.lookup f=none
 | _,_,.nil,h=>rfl
 | _,_,@cB.cons _ _ _ g d' v' fs gs h r,e=>by
  rw [iZ] at e ⊢
  by_cases q:(f==g)=true
  ·rw [q] at e;cases e
  ·have q:(f==g)=false:=by simpa using q
   rw [q] at e ⊢
   exact r.lookN e
theorem cB.put {f:Str} {d:D} {v:V} (h0:Rep K H α d v):∀ {fs:List (Str×D)} {gs:List (Str×V)},cB K H α fs gs->cB K H α (t6 f d fs) (iR f v gs)
 | _,_,.nil => .cons h0 .nil
 | _,_,@cB.cons _ _ _ g d' v' fs gs h r=>by
  unfold t6 iR
  by_cases q:g=f
  ·rw [if_pos q,if_pos q];exact .cons h0 r
  ·rw [if_neg q,if_neg q];exact .cons h (r.put h0)
theorem cB.len {fs:List (Str×D)} {gs:List (Str×V)} (r:cB K H α fs gs):fs.length=gs.length:=by
 have:=congrArg List.length r.keys
 simpa using this
end
def gb (C f:Str) (fe:EF):EF:=λσ S=>(fe σ S).bind λr=>match r.1 with
 | .ref n=>match r.2[n]? with
  | some (.ins C' fs)=>if C'=C then (fs.lookup f).map λd=>(d,r.2) else none
  | _=>none
 | .obj C' ks xs=>if C'=C/\ks.length=xs.length then ((ks.zip xs).lookup f).map λd=>(d,r.2) else none
 | _=>none
def mY (C f:Str) (fo fv:EF):SF:=λσ S=>(fv σ S).bind λr=>(fo σ r.2).bind λq=>match q.1 with
 | .ref n=>match q.2[n]? with
  | some (.ins C' fs)=>if C'=C/\fs.length<3 then some (.nx,σ,q.2.set n (.ins C (t6 f r.1 fs))) else none
  | _=>none
 | _=>none
def lA (C m:Str) (n:Nat) (φ:GN) (fo:EF) (fa:AF):EF:=λσ S=>(fo σ S).bind λr=>match r.1 with
 | .ref j=>match r.2[j]? with
  | some (.ins C' fs)=>if C'=C/\fs.lookup m=none then (fa σ r.2).bind λq=>aO n φ (.ref j::q.1) q.2 else none
  | _=>none
 | _=>none
def lU (C:Str) (n:Nat) (S:So):D×So:=match S[n]? with
 | some (.ins C' fs)=>if C'=C/\3<=fs.length/\S.length=n+1/\cA n (fs.map (·.2))=true/\(S.take n).all (O.lo n)=true then (.obj C (fs.map (·.1)) (fs.map (·.2)),S.take n) else (.ref n,S)
 | _=>(.ref n,S)
def pq (C:Str) (n:Nat) (φ:GN) (fa:AF):EF:=λσ S=>(fa σ S).bind λr=>(aO n φ (.ref r.2.length::r.1) (r.2++[.ins C []])).bind λq=>match q.1 with
 | .non=>some (lU C r.2.length q.2)
 | _=>none
structure Ge (X:Cx) (C f:Str):Prop where
 cls:jz X.K (cL X.K C)
 no:dI X.K (cL X.K C) f
def Gp (X:Cx) (C m:Str) (n:Nat) (φ:GN):Prop:=∃ f fd ps k,jz X.K (cL X.K C)/\Meth X.K (cL X.K C) m f/\Binds X.K fd ps []/\cN X.prog X.w X.K X.mg X.base gP k f fd ps (q8 X.K n φ)/\bG k X.A
def tL (X:Cx) (C:Str) (n:Nat) (φ:GN):Prop:=∃ f fd ps k,X.mg C=some (.ref (cL X.K C))/\Mk X.K (cL X.K C) f/\Binds X.K fd ps []/\cN X.prog X.w X.K X.mg X.base gP k f fd ps (q8 X.K n φ)/\bG (k+1) X.A
section
variable {X:Cx} {C f m:Str} {e o:Expr} {es:List Expr} {fe fo fv:EF} {fa:AF} {n:Nat} {φ:GN} {pos pos' apos p:Pos}
theorem YQ (ok:Ge X C f) (he:SE X e fe) (hb:attributeBase e f X.env (eval e X.env)=eval e X.env):SE X (.Attribute e f pos) (gb C f fe):=by
 refine PE.imp (Xu he hb) λσ H Q h=>?_
 obtain ⟨σd,S,α,z,S',hv,hs,hf,k⟩:=h
 unfold gb at hf
 simp only [bA] at hf
 obtain ⟨⟨d,S1⟩,e1,e2⟩:=hf
 refine ⟨σd,S,α,d,S1,hv,hs,e1,λv H1 α1 s1 x1 r1=>?_⟩
 simp only at e2
 split at e2
 ·rename_i j
  split at e2
  ·rename_i C' fs q
   split at e2
   ·rename_i hC
    subst hC
    simp only [aU] at e2
    obtain ⟨d',l,e3⟩:=e2
    cases e3
    cases r1 with
    | ref ha =>
     obtain ⟨dx,gs,h1,h2,h3⟩:=s1.obj _ _ _ q ha
     obtain ⟨w,lw,dX⟩:=(cB.of h2 h3).look l
     exact ⟨_,_,dx,gs,w,rfl,h1,ok.cls,ok.no,lw,(k.trans x1).same s1 dX⟩
   ·cases e2
  ·cases e2
 ·rename_i C' ks xs
  split at e2
  ·rename_i hC
   obtain ⟨rfl,hl⟩:=hC
   simp only [aU] at e2
   obtain ⟨d',l,e3⟩:=e2
   cases e3
   cases r1 with
   | @obj a C dx gs ks ds vs h1 h2 h3 h4 h5 =>
    have z1:(ks.zip xs).map (·.1)=gs.map (·.1):=by rw [List.map_fst_zip (Nat.le_of_eq hl),h3]
    have z2:aF X.K H1 α1 ((ks.zip xs).map (·.2)) (gs.map (·.2)):=by rw [List.map_snd_zip (Nat.le_of_eq hl.symm),h4];exact h5
    obtain ⟨w,lw,dX⟩:=(cB.of z1 z2).look l
    exact ⟨_,_,dx,gs,w,rfl,h1,ok.cls,ok.no,lw,(k.trans x1).same s1 dX⟩
  ·cases e2
 ·cases e2
theorem YB (ok:Ge X C f) (ho:SE X o fo) (hv:SE X e fv) (hs:swapsWith e (some (.Attribute o f pos')) pos.line X.env=pure false):SS X (.Assign [.Attribute o f pos'] e pos) (mY C f fo fv):=by
 refine PS.imp (Wy ho hv hs) λD σ H h=>?_
 obtain ⟨σd,S,α,fl,σd',S',M4,hss,hf,k⟩:=h
 unfold mY at hf
 simp only [bA] at hf
 obtain ⟨⟨d,S1⟩,e1,⟨d2,S2⟩,e2,e3⟩:=hf
 refine ⟨σd,S,α,d,S1,M4,hss,e1,λv H1 α1 s1 x1 r1=>⟨σd,S1,α1,d2,S2,M4.mono x1,s1,e2,λv2 H2 α2 s2 x2 r2=>?_⟩⟩
 simp only at e3
 split at e3
 ·split at e3
  ·rename_i C' fs q
   split at e3
   ·rename_i hC
    obtain ⟨rfl,hl⟩:=hC
    cases e3
    cases r2 with
    | ref ha =>
     obtain ⟨dx,gs,h1,h2,h3⟩:=s2.obj _ _ _ q ha
     have R:=cB.of h2 h3
     refine ⟨_,_,dx,gs,rfl,h1,ok.cls,ok.no,by rw [<-R.len];exact Nat.lt_trans hl (by decide),?_⟩
     obtain ⟨s3,x3⟩:=s2.put' (o := .ins C' (t6 f d fs)) (u := .ins (cL X.K C') dx (iR f v gs)) q rfl rfl ha h1 (λ_ z=>by cases z) (λ_ _ z=>by cases z) (λc dy hs l z=>by cases z;rw [<-R.len] at l;omega) λx=>by
      have R2:=(cB.put (f:=f) (r1.mono x2) R)
      exact ⟨dx,_,eO,R2.keys,R2.reps.mono x⟩
     exact k _ _ _ (((M4.mono x1).mono x2).mono x3) s3 ((x1.trans x2).trans x3)
   ·cases e3
  ·cases e3
 ·cases e3
theorem Ss {env:Env} {args:List Expr} (hbase:attributeBase o m env (eval o env)=eval o env)
 (hfew:((backTo pos (starEach args env)).all (λx => !x.1)&&(backToKw pos (keywordEach [] env)).all (λx=>x.1.isSome)&&decide (args.length+([]:List Keyword).length+(if ([]:List Keyword).isEmpty then 0 else 1)<30))=true)
 (hline:(apos.endLine==pos.line)=true):eval (.Call (.Attribute o m apos) args [] pos) env=(do
  let ov <-eval o env
  standAt apos.atName
  let (f,first) <-holding [ov] (getMethod ov m (do return (<-importBound o env).getD true))
  callWith pos f first (backTo pos (starEach args env)) (backToKw pos (keywordEach [] env))):=by
 have hform:methodCallForm (args.length+([]:List Keyword).length) (backTo pos (starEach args env)) (backToKw pos (keywordEach [] env))=true:=by
  have h:=hfew
  rw [<-h];rfl
 have hpos:methodCallPos true o env apos pos=pure pos:=by unfold methodCallPos;simp [hline]
 rw [arm_eval_Call,hbase]
 unfold methodCall
 rw [hform,hpos]
 rfl
theorem YX (R:Gp X C m n φ) (ho:SE X o fo) (ha:SA X (e::es) fa) (hbase:attributeBase o m X.env (eval o X.env)=eval o X.env)
 (hfew:((backTo pos (starEach (e::es) X.env)).all (λx => !x.1)&&(backToKw pos (keywordEach [] X.env)).all (λx=>x.1.isSome)&&decide ((e::es).length+([]:List Keyword).length+(if ([]:List Keyword).isEmpty then 0 else 1)<30))=true)
 (hline:(apos.endLine==pos.line)=true) (hst:starEach (e::es) X.env=(false,eval e X.env)::starEach es X.env) (hpl:(backTo pos (starEach es X.env)).any (·.1)=false) :
 SE X (.Call (.Attribute o m apos) (e::es) [] pos) (lA C m n φ fo fa):=by
 obtain ⟨f,fd,ps,kk,c,hm,hb,F,hr⟩:=R
 refine PE.imp (Zk ho c hm F hr hb .nil Ca ha hst hpl (Ss hbase hfew hline)) λσ H Q h=>?_
 obtain ⟨σd,S,α,z,S',hv,hs,hf,k⟩:=h
 unfold lA at hf
 simp only [bA] at hf
 obtain ⟨⟨d,S1⟩,e1,e2⟩:=hf
 refine ⟨σd,S,α,d,S1,hv,hs,e1,λv H1 α1 s1 x1 r1=>?_⟩
 simp only at e2
 split at e2
 ·split at e2
  ·rename_i C' fs q
   split at e2
   ·rename_i hC
    obtain ⟨rfl,hl⟩:=hC
    simp only [bA] at e2
    obtain ⟨⟨ds,S2⟩,e3,e4⟩:=e2
    unfold aO at e4
    split at e4
    ·rename_i hn
     cases r1 with
     | ref ha =>
      obtain ⟨dx,gs,h1,h2,h3⟩:=s1.obj _ _ _ q ha
      refine ⟨_,dx,gs,rfl,h1,(cB.of h2 h3).lookN hl,σd,S1,α1,ds,S2,hv.mono x1,s1,e3,λvs H2 α2 s2 x2 r2=>?_⟩
      show q8 _ _ _ (_::(vs++[])) _ _ _
      rw [List.append_nil]
      exact ⟨by rw [<-hn,iG,iG,r2.length],S2,α2,_,z,S',s2,.cons (.ref (x2.pre _ _ ha)) r2,e4,k.trans (x1.trans x2)⟩
    ·cases e4
   ·cases e2
  ·cases e2
 ·cases e2
theorem zmZ (R:Gp X C m n φ) (ho:SE X o fo) (hbase:attributeBase o m X.env (eval o X.env)=eval o X.env) (hline:(apos.endLine==pos.line)=true) :
 SE X (.Call (.Attribute o m apos) [] [] pos) (lA C m n φ fo aq):=by
 obtain ⟨f,fd,ps,kk,c,hm,hb,F,hr⟩:=R
 refine PE.imp (zls ho c hm F hr hb .nil Ca (Ss hbase rfl hline)) λσ H Q h=>?_
 obtain ⟨σd,S,α,z,S',hv,hs,hf,k⟩:=h
 unfold lA at hf
 simp only [bA] at hf
 obtain ⟨⟨d,S1⟩,e1,e2⟩:=hf
 refine ⟨σd,S,α,d,S1,hv,hs,e1,λv H1 α1 s1 x1 r1=>?_⟩
 simp only at e2
 split at e2
 ·split at e2
  ·rename_i C' fs q
   split at e2
   ·rename_i hC
    obtain ⟨rfl,hl⟩:=hC
    simp only [bA] at e2
    obtain ⟨⟨ds,S2⟩,e3,e4⟩:=e2
    cases e3
    unfold aO at e4
    split at e4
    ·rename_i hn
     cases r1 with
     | ref ha =>
      obtain ⟨dx,gs,h1,h2,h3⟩:=s1.obj _ _ _ q ha
      refine ⟨_,dx,gs,rfl,h1,(cB.of h2 h3).lookN hl,?_⟩
      exact ⟨by rw [<-hn];rfl,_,α1,_,z,S',s1,.cons (.ref ha) .nil,e4,k.trans x1⟩
    ·cases e4
   ·cases e2
  ·cases e2
 ·cases e2
theorem Vt (R:tL X C n φ) (hg:Gl X C) (ha:SA X (e::es) fa) (hdb:(C==("__debug__" : Str))=false) (hst:starEach (e::es) X.env=(false,eval e X.env)::starEach es X.env) (hpl:(backTo pos (starEach es X.env)).any (·.1)=false) :
 SE X (.Call (.Name C p) (e::es) [] pos) (pq C n φ fa):=by
 obtain ⟨f,fd,ps,kk,hm,M,hb,F,hr⟩:=R
 refine PE.imp (Zj M F hr hg hm hb .nil Ca ha hdb hst hpl) λσ H Q h=>?_
 obtain ⟨σd,S,α,z,S',hv,hs,hf,k⟩:=h
 unfold pq at hf
 simp only [bA] at hf
 obtain ⟨⟨ds,S1⟩,e1,⟨d2,S2⟩,e2,e3⟩:=hf
 refine ⟨σd,S,α,ds,S1,hv,hs,e1,λvs H1 α1 s1 x1 r1=>λx dx hx hdx hne=>?_⟩
 simp only at e2 e3
 split at e3
 ·have e4:=Option.some.inj e3
  unfold aO at e2
  split at e2
  ·rename_i hn
   have sa:Same H1 (upd H1 dx (.own x)):=kJ hdx
   have hx2:upd H1 dx (.own x) x=none:=by rw [bY (Ne.symm hne)];exact hx
   obtain ⟨s2,x2⟩:=(s1.mono sa).snoc (p:=x) (o := .ins C []) (u := .ins (cL X.K C) dx []) hx2 λα' e=>⟨dx,[],eO,rfl,.nil⟩
   have lx:(α1++[x])[S1.length]?=some x:=by rw [<-s1.len];simp
   have x12:Ext X.K H1 α1 (upd (upd H1 dx (.own x)) x (.ins (cL X.K C) dx [])) (α1++[x]):=(Same.ext sa).trans x2
   rw [List.append_nil]
   refine ⟨by rw [<-hn,iG,iG,r1.length],_,α1++[x],_,.non,_,s2,.cons (.ref lx) (r1.mono x12),e2,λw H3 α3 s3 x3 r3=>?_⟩
   cases r3
   refine ⟨rfl,?_⟩
   have l3:=x3.pre _ _ lx
   have usual:(D.ref S1.length,S2)=(z,S')->Q (.ref x) H3:=λq=>by
    cases q
    exact k _ _ _ s3 ((x1.trans x12).trans x3) (.ref l3)
   unfold lU at e4
   split at e4
   ·rename_i C' fs q
    split at e4
    ·rename_i hq
     obtain ⟨rfl,q1,q2,q3,q4⟩:=hq
     cases e4
     obtain ⟨dx3,gs,g1,g2,g3⟩:=s3.obj _ _ _ q l3
     have gl:3<=gs.length:=by
      have:=congrArg List.length g2
      simp only [cQ] at this
      omega
     have s4:=s3.cut S1.length (λo ho=>List.all_eq_true.mp q4 o ho)
     have xx:=x12.trans x3
     exact k _ _ _ s4 (x1.trans ⟨xx.tups,λi b q=>by
      have hi:=(dN.mp q).1
      rw [s1.len] at hi
      rw [List.getElem?_take_of_lt hi];exact xx.pre i b q,xx.insts⟩) (.obj g1 gl g2.symm rfl (g3.cut _ q3))
    ·exact usual e4
   ·exact usual e4
  ·cases e2
 ·cases e3
end
end MX
end
section
namespace MX
open PySem PySem.Spec PyProof.Rows L2
structure Ctx where
 N:List Str
 names:List (Str×NameKind)
 sts:List Str
 fns:List (Str×Nat×GN)
 blt:List Str
 lf:Option (Str×Addr×GN):=none
 hof:List (Str×Str×(Addr->GN->GN)):=[]
 ext:Str->List Expr->Option EF:=λ_ _=>none
 kwx:Str->List Expr->List Keyword->Option EF:=λ_ _ _=>none
 gls:List (Str×Str):=[]
 flds:List (Str×Str):=[]
 mths:List (Str×Str×Nat×GN):=[]
 mks:List (Str×Nat×GN):=[]
def FnAt (P:Program) (w:World) (K:PySem.W.Frag) (mg:Str->Option Value) (base:Heap) (k:Nat) (x:Str) (n:Nat) (φ:GN):Prop :=
 ∃ f fd ps,mg x=some (.ref f)/\PySem.W.keepIn K (.ref f)=true/\Binds K fd ps []/\cN P w K mg base gP k f fd ps (q8 K n φ)
def ye (q:Str) (ap:Pos):Arguments:={ posonlyargs:=[],args:=[{ arg:=q,annotation:=none,pos:=ap }],vararg:=none,kwonlyargs:=[],kw_defaults:=[],kwarg:=none,defaults:=[] }
theorem ZX {q:Str} {ap:Pos} (env:Env):defaultsOf (ye q ap) env=([],[]):=rfl
def vP (c:Ctx) (X:Cx) (x q:Str) (G:Addr->GN->GN):Prop:=∃ f fd p1 p2 k Pt ct,BP X Pt ct/\X.mg x=some (.ref f)/\PySem.W.keepIn X.K (.ref f)=true/\Binds X.K fd [p1,p2] []/\bG (k+2) X.A /\
 (∀ (ap:Pos) (body:Expr) (scope:Scope) (pm cdv ctv:Value) (clos:List (Str×Addr)) (qual:Str) (u:Value),bindArgs (PySem.W.kla_fn "<lambda>" qual (ye q ap) body scope clos pm cdv ctv) ⟨[u],[]⟩=pure [(q,u)]) /\
 (∀ base:Heap,Mod X.K X.mg base->(∀ b o,X.base.get? b=some o->base.get? b=some o)->Bt X.prog X.w X.K X.mg base (k+1) f fd [p1,p2] G) /\
 ∀ base:Heap,Mod X.K X.mg base->(∀ b o,X.base.get? b=some o->base.get? b=some o)->∀ y n ψ,c.fns.lookup y=some (n,ψ)->FnAt X.prog X.w X.K X.mg base k y n ψ
structure fG (c:Ctx) (X:Cx):Prop where
 N:X.N=c.N
 nd:c.N.Nodup
 names:X.env.scope.names=c.names
 kind:X.env.scope.kind = .function
 st:∀ x∈c.sts,Loc X.env.scope x/\(X.fn x=true\/X.env.scope.names.lookup x=some .local)
 fns:∀ x k φ,c.fns.lookup x=some (k,φ)->tM X x k φ
 blt:∀ x∈c.blt,X.mg x=none
 calm:X.calm=true
 un:X.A.units+64<cLine
 lf:∀ x a ψ,c.lf=some (x,a,ψ)->Bq X a ψ
 hof:∀ x q G,c.hof.lookup x=some (q,G)->vP c X x q G
 ext:∀ x es f p pos,c.ext x es=some f->SE X (.Call (.Name x p) es [] pos) f
 kwx:∀ x es ks f p pos,c.kwx x es ks=some f->SE X (.Call (.Name x p) es ks pos) f
 gls:∀ x y,c.gls.lookup x=some y->∃ t,X.mg x=some (.str y t)
 flds:∀ f C,c.flds.lookup f=some C->Ge X C f
 mths:∀ m C n φ,c.mths.lookup m=some (C,n,φ)->Gp X C m n φ
 mks:∀ C n φ,c.mks.lookup C=some (n,φ)->tL X C n φ
def jN:List Str->Str->Option Nat
 | [],_=>none
 | y::r,x=>if y=x then some 0 else (jN r x).map (·+1)
theorem uz:∀ {N:List Str} {x:Str} {i:Nat},jN N x=some i->N[i]?=some x
 | [],_,_,h=>by cases h
 | y::r,x,i,h=>by
  unfold jN at h
  split at h
  ·rename_i e;cases h;rw [e];rfl
  ·simp only [aU] at h
   obtain ⟨j,h1,rfl⟩:=h
   simpa using uz h1
def mU:Expr->Bool
 | .Starred _ _=>false
 | _=>true
theorem jh {e:Expr} (h:mU e=true) (es:List Expr) (env:Env):starEach (e::es) env=(false,eval e env)::starEach es env:=by
 cases e with
 | Starred _ _=>cases h
 | _=>simp [starEach]
theorem p8 {es:List Expr} (h:es.all mU=true) (pos:Pos) (env:Env):(backTo pos (starEach es env)).any (·.1)=false:=by
 induction es with
 | nil=>rfl
 | cons e r ih =>
  rw [kZ,cR] at h
  rw [jh h.1]
  show (false||(backTo pos (starEach r env)).any (·.1))=false
  rw [ih h.2];rfl
theorem Dt {es:List Expr} (h:es.all mU=true) (pos:Pos) (env:Env):(backTo pos (starEach es env)).all (λx => !x.1)=true:=by
 induction es with
 | nil=>rfl
 | cons e r ih =>
  rw [kZ,cR] at h
  rw [jh h.1]
  show (!false&&(backTo pos (starEach r env)).all (λx => !x.1))=true
  rw [ih h.2];rfl
def Cd:Expr->Bool
 | .Slice _ _ _ _=>false
 | _=>true
theorem ziL {b:Expr} (h:Cd b=true):GJ b:=by
 intro o i
 cases b with
 | Slice _ _ _ _=>cases h
 | _=>rfl
def Oe:Expr->Bool
 | .Name _ _=>true
 | .Call _ _ _ _=>true
 | .Subscript _ _ _=>true
 | .Constant _ _ _=>true
 | .BinOp _ _ _ _=>true
 | .List _ _=>true
 | .Tuple _ _ _=>true
 | .Attribute _ _ _=>true
 | .ListComp _ _ _ _=>true
 | _=>false
theorem zjC {a:Expr} (h:Oe a=true) (env:Env) (whole:Sem Value):isTrue a env whole=(do let v <-whole;standAt a.pos;holding [v] (truthy v)):=by
 cases a with
 | Name _ _=>rfl
 | Call _ _ _ _=>rfl
 | Subscript _ _ _=>rfl
 | Constant _ _ _=>rfl
 | BinOp _ _ _ _=>rfl
 | List _ _=>rfl
 | Tuple _ _ _=>rfl
 | Attribute _ _ _=>rfl
 | ListComp _ _ _ _=>rfl
 | _=>cases h
def yd:Expr->Bool
 | .Set _ _ _=>false
 | _=>true
theorem Rr {e:Expr} (h:yd e=true) (env:Env) (x:Value):foldedSetIterable e env x=pure x:=by
 cases e with
 | Set _ _ _=>cases h
 | _=>rfl
def wA:Expr->Bool
 | .ListComp _ _ _ _=>false
 | .SetComp _ _ _ _=>false
 | .DictComp _ _ _ _ _=>false
 | _=>true
theorem yM {e:Expr} (h:wA e=true) (t:Option Expr) (l:Nat) (env:Env):swapsWith e t l env=pure false:=by
 cases e with
 | ListComp _ _ _ _=>cases h
 | SetComp _ _ _ _=>cases h
 | DictComp _ _ _ _ _=>cases h
 | _=>rfl
def Gq:Expr->Bool
 | .Tuple _ _ _=>false
 | _=>true
def uX:Expr->Bool
 | .Tuple _ _ _=>true
 | .List _ _=>true
 | _=>false
theorem ziQ {t:Expr} (h:uX t=false) (e:Expr) (env:Env):swappedStores [t] e env=pure none:=by
 cases t with
 | Tuple _ _ _=>cases h
 | List _ _=>cases h
 | _=>rfl
theorem ziP {e:Expr} (h:Gq e=true) (ts:List Expr) (k:Nat) (p:Pos) (env:Env):swappedStores [.Tuple ts k p] e env=pure none:=by
 cases e with
 | Tuple _ _ _=>cases h
 | _=>rfl
def vC:List (Str×String):=[("int", "int"),("bool", "bool"),("str", "str"),("tuple", "tuple"),("list", "list")]
theorem zkK {x:Str} {T:String} (h:vC.lookup x=some T):bootBuiltins x=some (.type T):=by
 have hm:=gD h
 unfold vC at hm
 simp only [List.mem_cons,pH,or_false,Prod.mk.injEq] at hm
 rcases hm with ⟨rfl,rfl⟩ | ⟨rfl,rfl⟩ | ⟨rfl,rfl⟩ | ⟨rfl,rfl⟩ | ⟨rfl,rfl⟩<;>decide +kernel
def oY (x:Str):Bool:=(x==("__debug__" : Str))||(x==("__classdict__" : Str))||(x==("__name__" : Str))
theorem tY {x:Str} (h:oY x=false):(x==("__debug__" : Str))=false:=by
 unfold oY at h;rw [Bool.or_eq_false_iff,Bool.or_eq_false_iff] at h;exact h.1.1
theorem Mu {x:Str} (h:oY x=false):(x==("__classdict__" : Str))=false:=by
 unfold oY at h;rw [Bool.or_eq_false_iff,Bool.or_eq_false_iff] at h;exact h.1.2
theorem uP {x:Str} (h:oY x=false):x≠("__name__" : Str):=by
 unfold oY at h;rw [Bool.or_eq_false_iff] at h
 exact beq_eq_false_iff_ne.mp h.2
def nmE (c:Ctx) (x:Str):Option EF:=if oY x=true then none else match c.names.lookup x with
 | some .local=>(jN c.N x).map aj
 | some .cell=>(jN c.N x).map aj
 | some .free=>(jN c.N x).map aj
 | some .globalImplicit=>if x∈c.blt then (vC.lookup x).map λT=>eC (.ty T) else (c.gls.lookup x).map λy=>eC (.str y)
 | _=>none
def Oa:Const->Option EF
 | .int i=>some (eC (.int i))
 | .bool b=>some (eC (.bl b))
 | .none=>some (eC .non)
 | .str x=>some (eC (.str x))
 | _=>none
section
variable {c:Ctx} {X:Cx}
theorem ziF {x:Str} {f:EF} {pos:Pos} (ok:fG c X) (h:nmE c x=some f):SE X (.Name x pos) f:=by
 unfold nmE at h
 split at h
 ·cases h
 ·rename_i ho
  have ho':oY x=false:=by simpa using ho
  have loc:∀ (v:FW X.env.scope x),(jN c.N x).map aj=some f->SE X (.Name x pos) f:=λv e=>by
   simp only [aU] at e
   obtain ⟨i,e1,rfl⟩:=e
   exact Yn (by rw [ok.N];exact uz e1) v (tY ho') (Mu ho')
  split at h
  ·rename_i e;exact loc (.inl (by rw [ok.names];exact e)) h
  ·rename_i e;exact loc (.inr (.inl (by rw [ok.names];exact e))) h
  ·rename_i e;exact loc (.inr (.inr (by rw [ok.names];exact e))) h
  ·rename_i e
   split at h
   ·rename_i hb
    simp only [aU] at h
    obtain ⟨T,e1,rfl⟩:=h
    exact nH (Zg (show X.env.scope.names.lookup x=_ by rw [ok.names];exact e) (ok.blt x hb) (zkK e1) (v := .ty T) rfl (uP ho') (tY ho')) λ_ _ => .ty T
   ·simp only [aU] at h
    obtain ⟨y,e1,rfl⟩:=h
    obtain ⟨t,ht⟩:=ok.gls x y e1
    exact zm1 (show X.env.scope.names.lookup x=_ by rw [ok.names];exact e) ht (tY ho')
  ·cases h
theorem zhc {k:Const} {j:Nat} {f:EF} {pos:Pos} (h:Oa k=some f):SE X (.Constant k j pos) f:=by
 cases k with
 | int i=>cases h;exact YS
 | bool b=>cases h;exact Vq
 | none=>cases h;exact Y0
 | str x=>cases h;exact Yl
 | _=>cases h
end
def zO (cn names:List (Str×NameKind)):List (Str×NameKind):=names.map λ(n,k)=>if (k==NameKind.free&&true&&cn.lookup n==some .cell) then (n,NameKind.cell) else (n,k)
def rz (names:List (Str×NameKind)):List Str:=(names.filter λy=>(y.2 == .local||y.2 == .cell)&&y.1 != (".0" : Str)).map (·.1)
def yc (c:Ctx) (names:List (Str×NameKind)):List (Str×Nat):=names.filterMap λy=>if y.2==NameKind.free then (jN c.N y.1).map λi=>(y.1,i) else none
def rm (c:Ctx) (names:List (Str×NameKind)):List Str:=rz names++(yc c names).map (·.1)
def wk (c:Ctx) (names:List (Str×NameKind)):List (Option Nat):=(rz names).map (λ_=>none)++(yc c names).map λp=>some p.2
def BW (c:Ctx) (names:List (Str×NameKind)):Ctx:={ N:=rm c names,names:=zO c.names names,sts:=rz names,fns:=c.fns,blt:=c.blt,flds:=c.flds,mths:=c.mths,mks:=c.mks }
def xX (c:Ctx) (scope:Scope):Bool:=decide (scope.kind = .function)&&scope.names.all (λy=>decide (scope.names.lookup y.1=some y.2)) &&
 scope.names.all (λy=>decide (y.2 = .free->(c.names.lookup y.1=some .cell\/c.names.lookup y.1=some .free)))&&decide (rm c scope.names).Nodup
section
variable {c:Ctx} {X:Cx} {scope:Scope}
theorem zlL {names:List (Str×NameKind)} {p:Str×Nat} (h:p∈yc c names):(p.1,NameKind.free)∈names/\jN c.N p.1=some p.2:=by
 unfold yc at h
 obtain ⟨y,hy,e⟩:=List.mem_filterMap.mp h
 split at e
 ·rename_i hk
  simp only [aU] at e
  obtain ⟨i,e1,rfl⟩:=e
  have:y.2=NameKind.free:=by simpa using hk
  refine ⟨?_,e1⟩
  rw [<-this];exact hy
 ·cases e
theorem Ze {names:List (Str×NameKind)} {x:Str} (h:x∈rz names):(x,NameKind.local)∈names\/(x,NameKind.cell)∈names:=by
 unfold rz at h
 obtain ⟨y,hy,rfl⟩:=List.mem_map.mp h
 obtain ⟨h1,h2⟩:=List.mem_filter.mp hy
 rw [cR,qR] at h2
 obtain ⟨y1,y2⟩:=y
 rcases h2.1 with q | q
 ·have:y2=NameKind.local:=by simpa using q
  subst this;exact .inl h1
 ·have:y2=NameKind.cell:=by simpa using q
  subst this;exact .inr h1
theorem Yh (ok:fG c X) (h:xX c scope=true):pW X scope (rm c scope.names) (wk c scope.names):=by
 unfold xX at h
 rw [cR,cR,cR] at h
 obtain ⟨⟨⟨h1,h2⟩,h3⟩,h4⟩:=h
 rw [List.all_eq_true] at h2 h3
 have u:∀ y∈scope.names,scope.names.lookup y.1=some y.2:=λy hy=>of_decide_eq_true (h2 y hy)
 refine ⟨of_decide_eq_true h1,u,λy hy e=>?_,by simp [wk,rm],λj i x e1 e2=>?_⟩
 ·have:=of_decide_eq_true (h3 y hy) e
  show X.env.scope.names.lookup y.1=_\/X.env.scope.names.lookup y.1=_
  rw [ok.names];exact this
 ·unfold rm at e1
  unfold wk at e2
  have hj:(rz scope.names).length<=j:=by
   refine Nat.le_of_not_lt λhlt=>?_
   rw [jW (by simpa using hlt),eV] at e2
   cases q:(rz scope.names)[j]? with
   | none=>rw [q] at e2;cases e2
   | some z=>rw [q] at e2;cases e2
  rw [tW (by simpa using hj),eV,cQ] at e2
  rw [tW hj,eV] at e1
  cases q:(yc c scope.names)[j - (rz scope.names).length]? with
  | none=>rw [q] at e2;cases e2
  | some p =>
   rw [q] at e1 e2
   simp only [lW,Option.some.injEq] at e1 e2
   obtain ⟨m1,m2⟩:=zlL (List.mem_of_getElem? q)
   subst e1 e2
   exact ⟨by rw [ok.N];exact uz m2,u _ m1⟩
theorem zlS (ok:fG c X) (h:xX c scope=true) {Y:Cx} (hy:mV X scope (rm c scope.names) Y):fG (BW c scope.names) Y:=by
 have h0:=h
 unfold xX at h
 rw [cR,cR,cR] at h
 obtain ⟨⟨⟨h1,h2⟩,h3⟩,h4⟩:=h
 rw [List.all_eq_true] at h2
 have u:∀ y∈scope.names,scope.names.lookup y.1=some y.2:=λy hy=>of_decide_eq_true (h2 y hy)
 have hn:Y.env.scope.names=zO c.names scope.names:=by
  rw [hy.sc]
  show List.map _ scope.names=List.map _ scope.names
  refine List.map_congr_left λy _=>?_
  obtain ⟨n,k⟩:=y
  have e1:(X.env.scope.kind == .function)=true:=by rw [ok.kind];rfl
  have e2:X.env.kindOf n=c.names.lookup n:=by show X.env.scope.names.lookup n=_;rw [ok.names]
  simp only [e1,e2]
 refine ⟨hy.N,of_decide_eq_true h4,hn,by rw [hy.sc];exact of_decide_eq_true h1,λx hx=>?_,λx k φ e=>?_,λx hx=>by rw [hy.mg];exact ok.blt x hx,hy.calm.trans ok.calm,by rw [hy.A];exact ok.un,λ_ _ _ h=>(nomatch h),λ_ _ _ h=>(nomatch h),λ_ _ _ _ _ h=>(nomatch h),λ_ _ _ _ _ _ h=>(nomatch h),λ_ _ h=>(nomatch h),λf C e=>?_,λm C n φ e=>?_,λC n φ e=>?_⟩
 ·have lk:∀ k,k ≠ .free->scope.names.lookup x=some k->Y.env.scope.names.lookup x=some k:=λk hk e=>by
   rw [hy.sc]
   show (List.map _ scope.names).lookup x=_
   rw [show (List.map _ scope.names).lookup x=_ from JT,e]
   have hb:(k==NameKind.free)=false:=by simpa using hk
   show some (if (k==NameKind.free&&_&&_)=true then NameKind.cell else k)=some k
   rw [hb]
   rfl
  rcases Ze hx with m | m
  ·have e:=u _ m
   exact ⟨.inl (lk _ (by decide) e),.inr (lk _ (by decide) e)⟩
  ·have e:=u _ m
   exact ⟨.inr (lk _ (by decide) e),.inl (hy.fn x e)⟩
 ·obtain ⟨f,fd,ps,kk,m1,m2,m3,m4,m5⟩:=ok.fns x k φ e
  refine ⟨f,fd,ps,kk,by rw [hy.mg];exact m1,by rw [hy.K];exact m2,by rw [hy.K];exact m3,?_,by rw [hy.A];exact m5⟩
  rw [hy.prog,hy.w,hy.K,hy.mg,hy.base]
  exact m4
 ·obtain ⟨h1,h2⟩:=ok.flds f C e
  exact ⟨by rw [hy.K];exact h1,by rw [hy.K];exact h2⟩
 ·obtain ⟨f,fd,ps,kk,m1,m2,m3,m4,m5⟩:=ok.mths m C n φ e
  refine ⟨f,fd,ps,kk,by rw [hy.K];exact m1,by rw [hy.K];exact m2,by rw [hy.K];exact m3,?_,by rw [hy.A];exact m5⟩
  rw [hy.prog,hy.w,hy.K,hy.mg,hy.base]
  exact m4
 ·obtain ⟨f,fd,ps,kk,m1,m2,m3,m4,m5⟩:=ok.mks C n φ e
  refine ⟨f,fd,ps,kk,by rw [hy.K,hy.mg];exact m1,by rw [hy.K];exact m2,by rw [hy.K];exact m3,?_,by rw [hy.A];exact m5⟩
  rw [hy.prog,hy.w,hy.K,hy.mg,hy.base]
  exact m4
end
def BJ (c:Ctx):Expr->Option GF
 | .Name x _=>if x∈c.sts then (jN c.N x).map aG else none
 | _=>none
def BK (c:Ctx):List Expr->Option mH
 | []=>some jO
 | e::r=>(BJ c e).bind λf=>(BK c r).map λfr=>dR f fr
def wj (c:Ctx):Expr->Option GF
 | .Name x p=>BJ c (.Name x p)
 | .Tuple es _ _=>(BK c es).map λfr=>jw es.length fr
 | _=>none
section
variable {c:Ctx} {X:Cx}
theorem T7 (ok:fG c X) {e:Expr} {f:GF} (h:BJ c e=some f):SG X e f:=by
 cases e with
 | Name x p =>
  simp only [BJ] at h
  split at h
  ·rename_i hx
   simp only [aU] at h
   obtain ⟨i,e1,rfl⟩:=h
   obtain ⟨h1,h2⟩:=ok.st x hx
   exact zmU (by rw [ok.N];exact ok.nd) (by rw [ok.N];exact uz e1) h1 h2
  ·cases h
 | _=>cases h
theorem T8 (ok:fG c X):∀ {es:List Expr} {f:mH},BK c es=some f->Bo X es f/\(assignEach es X.env).length=es.length/\(assignEach es X.env).findIdx? (·.1)=none
 | [],f,h=>by cases h;exact ⟨zmT,rfl,rfl⟩
 | e::r,f,h=>by
  unfold BK at h
  simp only [bA,aU] at h
  obtain ⟨f1,e1,fr,e2,rfl⟩:=h
  obtain ⟨i1,i2,i3⟩:=T8 ok e2
  have ea:assignEach (e::r) X.env=(false,assign e X.env)::assignEach r X.env:=by
   cases e with
   | Name x p=>rfl
   | _=>cases e1
  refine ⟨zlb (T7 ok e1) i1 (by rw [ea];rfl),by rw [ea,iG,iG,i2],?_⟩
  rw [ea,List.findIdx?_cons,i3]
  rfl
theorem yO (ok:fG c X) {e:Expr} {f:GF} (h:wj c e=some f):SG X e f:=by
 cases e with
 | Name x p=>exact T7 ok h
 | Tuple es k p =>
  unfold wj at h
  simp only [aU] at h
  obtain ⟨fr,e1,rfl⟩:=h
  obtain ⟨i1,i2,i3⟩:=T8 ok e1
  exact Yo ok.calm i1 i2 i3
 | _=>cases h
end
def Ob:EF:=λ_ _=>none
theorem zld {X:Cx} {e:Expr}:SE X e Ob:=λ_ _ _ _ _ _ h=>by
 obtain ⟨_,_,_,_,_,_,_,hf,_⟩:=h
 cases hf
section
variable (rE:Ctx->Expr->Option EF) (rT:Ctx->Expr->Option TF)
def jB (c:Ctx):List Expr->Option AF
 | []=>some aq
 | e::r=>if mU e=true then (rE c e).bind λf=>(jB c r).map λfr=>ak f fr else none
def BR (c:Ctx) (op:BoolOp):List Expr->Option EF
 | []=>none
 | [a]=>rE c a
 | a::b::r=>(rE c a).bind λf=>(BR c op (b::r)).map λg=>match op with
  | .And=>oJ f g
  | .Or=>xN f g
def BV (c:Ctx) (op:BoolOp):List Expr->Option TF
 | []=>none
 | [a]=>rT c a
 | a::b::r=>(rT c a).bind λf=>(BV c op (b::r)).map λg=>match op with
  | .And=>wg f g
  | .Or=>jb f g
def BZ (c:Ctx):Option Expr->Option PF
 | none=>some kh
 | some e=>(rE c e).map jE
def vG:List (Str×String×GN):=[("len", "len",gm),("abs", "abs",qW),("min", "min",pO),("max", "max",j9),("isinstance", "isinstance",qX),("all", "all",oK)]
def vD:List (Str×String×GN):=[("tuple", "tuple",lZ),("list", "list",lF)]
def Gw (params:Arguments):Option (Str×Pos):=match params.args with
 | []=>none
 | a::r=>match r with
  | _::_=>none
  | []=>if params.posonlyargs.isEmpty=true/\params.vararg.isNone=true/\params.kwonlyargs.isEmpty=true/\params.kw_defaults.isEmpty=true/\params.kwarg.isNone=true/\params.defaults.isEmpty=true/\a.annotation.isNone=true then some (a.arg,a.pos) else none
def vY (names:List (Str×NameKind)):List Str:=(names.filter λy=>y.2==NameKind.free).map (·.1)
def qu (c:Ctx):List Str->Option (List Nat)
 | []=>some []
 | y::r=>(jN c.N y).bind λi=>(qu c r).map λl=>i::l
def Ah (c:Ctx) (q:Str) (scope:Scope):Bool:=decide (scope.kind = .function) && !scope.isCoroutine && !scope.isGenerator&&decide (scope.names.lookup q=some .local)&&scope.names.all (λy=>decide (y.2 ≠ .cell)) &&
 scope.names.all (λy=>decide (scope.names.lookup y.1=some y.2))&&scope.names.all (λy=>decide (y.2 = .free->c.names.lookup y.1=some .cell))&&decide (q::vY scope.names).Nodup
def Gj (c:Ctx) (x:Str) (es:List Expr):Option EF:=if oY x=true then none else
 if c.names.lookup x=some .globalImplicit/\es.all mU=true/\es≠[] then
  match c.fns.lookup x with
  | some (k,φ)=>(jB rE c es).map λfa=>eN (aO k φ) fa
  | none=>match c.mks.lookup x with
  | some (n,φ)=>(jB rE c es).map λfa=>pq x n φ fa
  | none=>if x∈c.blt then match vG.lookup x with
   | some (_,g)=>(jB rE c es).map λfa=>eN g fa
   | none=>match vD.lookup x with
    | some (_,g)=>(jB rE c es).map λfa=>eN g fa
    | none=>none
   else some Ob
 else none
def Gi (c:Ctx) (x:Str) (es:List Expr):Option EF:=match c.ext x es with
 | some f=>some f
 | none=>Gj rE c x es
def isTup:Expr->Bool
 | .Tuple _ _ _=>true
 | _=>false
def Bf (c:Ctx) (es:List Expr):Option IF:=match es with
 | []=>none
 | e::r=>match r with
  | []=>(rE c e).map nT
  | _::_=>none
def Gu (c:Ctx) (tg:Expr):Expr->Option IF
 | .Call (.Name x p) es [] pos=>if x = "zip" /\ c.names.lookup x=some .globalImplicit/\x∈c.blt/\es.all mU=true/\es≠[]/\isTup tg=true then (jB rE c es).map pL else if x = "enumerate" /\ c.names.lookup x=some .globalImplicit/\x∈c.blt/\es.all mU=true/\isTup tg=true then Bf rE c es else if x = "range" /\ c.names.lookup x=some .globalImplicit/\x∈c.blt/\es.all mU=true then
  match es with
  | [_]=>(jB rE c es).map gn
  | [_,_]=>(jB rE c es).map u5
  | _=>none
  else (rE c (.Call (.Name x p) es [] pos)).map dz
 | e=>(rE c e).map dz
abbrev BX (c:Ctx) (tg e:Expr):Option IF:=Gu rE c tg e
def uZ (c:Ctx):List Expr->Option TF
 | []=>some cF
 | [t]=>rT c t
 | _=>none
def xY (c:Ctx) (elt:Expr) (g:Comprehension) (scope:Scope):Option EF :=
 if g.is_async=0/\xX c scope=true/\yd g.iter=true then
  (BX rE c g.target g.iter).bind λfi=>(wj (BW c scope.names) g.target).bind λfg=>(uZ rT (BW c scope.names) g.ifs).bind λft=>(rE (BW c scope.names) elt).map λfe=>cX fi fg ft fe (wk c scope.names)
 else none
def kO:List (Str×String×GM):=[("append", "list.append",rB),("extend", "list.extend",wz),("pop", "list.pop",lR),("index", "list.index",vZ)]
theorem Rn {X:Cx} (hu:X.A.units+64<cLine) {m:Str} {p:String×GM} (h:kO.lookup m=some p):Slot "list" m p.1/\typeOf (.builtin p.1)=pure (.type "method_descriptor")/\pF X p.1 (uM X.K p.2):=by
 have hm:=gD h
 unfold kO at hm
 simp only [List.mem_cons,pH,or_false,Prod.mk.injEq] at hm
 rcases hm with ⟨rfl,rfl⟩ | ⟨rfl,rfl⟩ | ⟨rfl,rfl⟩ | ⟨rfl,rfl⟩
 ·exact ⟨PySem.F.slot_list_append,PySem.F.type_list_append,zjT⟩
 ·exact ⟨PySem.F.slot_list_extend,PySem.F.type_list_extend,zjS⟩
 ·exact ⟨PySem.F.slot_list_pop,PySem.F.type_list_pop,Xe⟩
 ·exact ⟨PySem.F.slot_list_index,PySem.F.type_list_index,zlz⟩
def sU (c:Ctx) (k:Const) (m:Str) (es:List Expr):Option EF:=match k with
 | .str x=>if m = "join" then match es with
  | []=>none
  | e::r=>(jB rE c (e::r)).map λfa=>uc x fa
  else none
 | _=>none
def sy (c:Ctx) (a b:Expr) (p:Pos) (m:Str) (es:List Expr):Option EF:=match kO.lookup m with
 | some (_,g)=>match es with
  | []=>none
  | e::r=>(rE c (.Subscript a b p)).bind λfo=>(jB rE c (e::r)).map λfa=>eM g fo fa
 | none=>none
def Gv (c:Ctx) (o:Expr) (m:Str) (apos:Pos) (es:List Expr) (cpos:Pos):Option EF :=
 if es.all mU=true/\es.length<20/\(apos.endLine==cpos.line)=true then
  match o with
  | .Name x p=>match c.mths.lookup m with
   | some (C,n,φ)=>match es with
    | []=>(rE c (.Name x p)).map λfo=>lA C m n φ fo aq
    | e::r=>(rE c (.Name x p)).bind λfo=>(jB rE c (e::r)).map λfa=>lA C m n φ fo fa
   | none=>match kO.lookup m with
   | some (_,g)=>match es with
    | []=>(rE c (.Name x p)).map λfo=>Bh g fo
    | e::r=>(rE c (.Name x p)).bind λfo=>(jB rE c (e::r)).map λfa=>eM g fo fa
   | none=>none
  | .Constant k _ _=>sU rE c k m es
  | .Subscript a b p=>sy rE c a b p m es
  | _=>none
 else none
def Gg (c:Ctx) (e:Expr) (f:Str):Option EF:=match e with
 | .Name x p=>match c.flds.lookup f with
  | some C=>(rE c (.Name x p)).map λfe=>gb C f fe
  | none=>none
 | _=>none
def unE (c:Ctx) (op:UnaryOp) (a:Expr):Option EF:=match op with
 | .USub=>(rE c a).map (eU oM)
 | .Not=>(rE c a).map vq
 | _=>none
def Ny (c:Ctx) (a:Expr) (ops:List CmpOp) (bs:List Expr):Option EF:=match ops with
 | []=>none
 | op::r=>match r with
  | _::_=>none
  | []=>match bs with
   | []=>none
   | b::q=>match q with
    | _::_=>none
    | []=>if op ≠ .In/\op ≠ .NotIn then (rE c a).bind λfa=>(rE c b).map λfb=>eB (bf op) fa fb else none
def LK (c:Ctx) (a:Expr) (lo hi st:Option Expr):Option EF:=match st with
 | none=>(rE c a).bind λfa=>(BZ rE c lo).bind λfl=>(BZ rE c hi).map λfh=>jJ fa fl fh
 | some _=>none
def zK (c:Ctx) (a b:Expr):Option EF:=match b with
 | .Slice lo hi st _=>LK rE c a lo hi st
 | _=>none
def LC (c:Ctx) (a b:Expr):Option EF:=if Cd b=true then (rE c a).bind λfa=>(rE c b).map λfb=>eB aM fa fb else zK rE c a b
def Nz (c:Ctx) (f:Expr) (es:List Expr) (ks:List Keyword) (pos:Pos):Option EF:=match ks with
 | []=>match f with
  | .Name x _=>Gi rE c x es
  | .Attribute o m apos=>Gv rE c o m apos es pos
  | _=>none
 | k::r=>match f with
  | .Name x _=>c.kwx x es (k::r)
  | _=>none
def lcE (c:Ctx) (elt:Expr) (gs:List Comprehension) (scope:Scope):Option EF:=match gs with
 | []=>none
 | g::r=>match r with
  | []=>xY rE rT c elt g scope
  | _::_=>none
def sE (c:Ctx) (e:Expr):Option EF:=match e with
 | .Name x _=>nmE c x
 | .Constant k _ _=>Oa k
 | .BinOp a op b _=>(rE c a).bind λfa=>(rE c b).map λfb=>eB (aH op) fa fb
 | .UnaryOp op a _=>unE rE c op a
 | .BoolOp op es _=>BR rE c op es
 | .Compare a ops bs _=>Ny rE c a ops bs
 | .Tuple es _ _=>(jB rE c es).map (eN cu)
 | .List es _=>(jB rE c es).map (eN jM)
 | .Subscript a b _=>LC rE c a b
 | .IfExp t a b _=>(rT c t).bind λft=>(rE c a).bind λfa=>(rE c b).map λfb=>pA ft fa fb
 | .Call f es ks pos=>Nz rE c f es ks pos
 | .Attribute e f _=>Gg rE c e f
 | .ListComp elt gs scope _=>lcE rE rT c elt gs scope
 | _=>none
def Gy (c:Ctx):Expr->Option TF
 | .UnaryOp .Not a _=>(rT c a).map pR
 | .BoolOp op es _=>BV rT c op es
 | .Compare a [op] [b] _=>if op ≠ .In/\op ≠ .NotIn then (rE c a).bind λfa=>(rE c b).map λfb=>bN (eB (bf op) fa fb) else none
 | e=>if Oe e=true then (rE c e).map jc else none
end
mutual
def cE:Nat->Ctx->Expr->Option EF
 | 0,_,_=>none
 | n+1,c,e=>sE (cE n) (cT n) c e
def cT:Nat->Ctx->Expr->Option TF
 | 0,_,_=>none
 | n+1,c,e=>Gy (cE n) (cT n) c e
end
def kY (rE:Ctx->Expr->Option EF):Prop:=∀ c X e f,fG c X->rE c e=some f->SE X e f
def vO (rT:Ctx->Expr->Option TF):Prop:=∀ c X e f,fG c X->rT c e=some f->ST X e f
section
variable {rE:Ctx->Expr->Option EF} {rT:Ctx->Expr->Option TF} {c:Ctx} {X:Cx}
theorem kI (hE:kY rE) (ok:fG c X):∀ {es:List Expr} {f:AF},jB rE c es=some f->SA X es f/\es.all mU=true
 | [],f,h=>by cases h;exact ⟨WW,rfl⟩
 | e::r,f,h=>by
  unfold jB at h
  split at h
  ·rename_i hn
   simp only [bA,aU] at h
   obtain ⟨f1,e1,fr,e2,rfl⟩:=h
   obtain ⟨i1,i2⟩:=kI hE ok e2
   exact ⟨zm3 (hE c X e f1 ok e1) i1 (jh hn r X.env),by rw [kZ,hn,i2];rfl⟩
  ·cases h
theorem SQ (hE:kY rE) (ok:fG c X) {op:BoolOp} {pos:Pos}:∀ {es:List Expr} {f:EF},BR rE c op es=some f->SE X (.BoolOp op es pos) f
 | [],f,h=>by cases h
 | [a],f,h=>zlg (hE c X a f ok h)
 | a::b::r,f,h=>by
  unfold BR at h
  simp only [bA,aU] at h
  obtain ⟨f1,e1,fr,e2,rfl⟩:=h
  have i:=SQ hE ok (pos:=pos) e2
  cases op with
  | And=>exact WX (hE c X a f1 ok e1) i
  | Or=>exact Vv (hE c X a f1 ok e1) i
theorem T6 (hT:vO rT) (ok:fG c X) {op:BoolOp} {pos:Pos}:∀ {es:List Expr} {f:TF},BV rT c op es=some f->SW X (.BoolOp op es pos) f
 | [],f,h=>by cases h
 | [a],f,h=>by
  cases op with
  | And=>exact zmx (hT c X a f ok h)
  | Or=>exact YL (hT c X a f ok h)
 | a::b::r,f,h=>by
  unfold BV at h
  simp only [bA,aU] at h
  obtain ⟨f1,e1,fr,e2,rfl⟩:=h
  have i:=T6 hT ok (pos:=pos) e2
  cases op with
  | And=>exact YK (hT c X a f1 ok e1) i
  | Or=>exact Vy (hT c X a f1 ok e1) i
theorem Tc (hE:kY rE) (ok:fG c X) {e:Option Expr} {f:PF} (h:BZ rE c e=some f):Bm X e f:=by
 cases e with
 | none=>cases h;exact zmL
 | some e =>
  unfold BZ at h
  simp only [aU] at h
  obtain ⟨f1,e1,rfl⟩:=h
  exact zmH (hE c X e f1 ok e1)
theorem zkN {x:Str} {p:String×GN} (h:vG.lookup x=some p) (hc:X.calm=true):bootBuiltins x=some (.builtin p.1)/\gG X (.builtin p.1) (iW X.K p.2):=by
 have hm:=gD h
 unfold vG at hm
 simp only [List.mem_cons,pH,or_false,Prod.mk.injEq] at hm
 rcases hm with ⟨rfl,rfl⟩ | ⟨rfl,rfl⟩ | ⟨rfl,rfl⟩ | ⟨rfl,rfl⟩ | ⟨rfl,rfl⟩ | ⟨rfl,rfl⟩
 ·exact ⟨by decide +kernel,VG⟩
 ·exact ⟨by decide +kernel,VB⟩
 ·exact ⟨by decide +kernel,Yc hc⟩
 ·exact ⟨by decide +kernel,Yb hc⟩
 ·exact ⟨by decide +kernel,VF⟩
 ·exact ⟨by decide +kernel,VD hc⟩
theorem zkM {x:Str} {p:String×GN} (h:vD.lookup x=some p):bootBuiltins x=some (.type p.1)/\gG X (.type p.1) (iW X.K p.2):=by
 have hm:=gD h
 unfold vD at hm
 simp only [List.mem_cons,pH,or_false,Prod.mk.injEq] at hm
 rcases hm with ⟨rfl,rfl⟩ | ⟨rfl,rfl⟩
 ·exact ⟨by decide +kernel,zlV⟩
 ·exact ⟨by decide +kernel,Yd⟩
theorem zhd (hE:kY rE) (ok:fG c X) {x:Str} {es:List Expr} {f:EF} {p pos:Pos} (h:Gj rE c x es=some f):SE X (.Call (.Name x p) es [] pos) f:=by
 unfold Gj at h
 split at h
 ·cases h
 ·rename_i ho
  have ho':oY x=false:=by simpa using ho
  split at h
  ·rename_i hc
   obtain ⟨h1,h2,h3⟩:=hc
   have hg:Gl X x:=by show X.env.scope.names.lookup x=_;rw [ok.names];exact h1
   cases es with
   | nil=>exact absurd rfl h3
   | cons e r =>
    rw [kZ,cR] at h2
    split at h
    ·rename_i k φ e1
     simp only [aU] at h
     obtain ⟨fa,e2,rfl⟩:=h
     exact zm2 hg (ok.fns x k φ e1) (kI hE ok e2).1 (tY ho') (jh h2.1 r X.env) (p8 h2.2 pos X.env)
    split at h
    ·rename_i n φ e1
     simp only [aU] at h
     obtain ⟨fa,e2,rfl⟩:=h
     exact Vt (ok.mks x n φ e1) hg (kI hE ok e2).1 (tY ho') (jh h2.1 r X.env) (p8 h2.2 pos X.env)
    ·split at h
     ·rename_i hb
      split at h
      ·rename_i q g e1
       simp only [aU] at h
       obtain ⟨fa,e2,rfl⟩:=h
       obtain ⟨b1,b2⟩:=zkN e1 ok.calm
       exact zlf b2 hg (ok.blt x hb) b1 (kI hE ok e2).1 (uP ho') (tY ho') (jh h2.1 r X.env) (p8 h2.2 pos X.env)
      ·split at h
       ·rename_i q g e1
        simp only [aU] at h
        obtain ⟨fa,e2,rfl⟩:=h
        obtain ⟨b1,b2⟩:=zkM (X:=X) e1
        exact zle b2 hg (ok.blt x hb) b1 (kI hE ok e2).1 (uP ho') (tY ho') (jh h2.1 r X.env) (p8 h2.2 pos X.env)
       ·cases h
     ·cases h;exact zld
  ·cases h
theorem ziO {params:Arguments} {q:Str} {ap:Pos} (h:Gw params=some (q,ap)):params=ye q ap:=by
 obtain ⟨a1,a2,a3,a4,a5,a6,a7⟩:=params
 unfold Gw at h
 simp only at h
 split at h
 ·cases h
 ·rename_i a r
  split at h
  ·cases h
  ·split at h
   ·rename_i hc
    obtain ⟨h1,h2,h3,h4,h5,h6,h7⟩:=hc
    cases h
    obtain ⟨b1,b2,b3⟩:=a
    simp only [List.isEmpty_iff,Option.isNone_iff_eq_none] at h1 h2 h3 h4 h5 h6 h7
    subst h1 h2 h3 h4 h5 h6 h7
    rfl
   ·cases h
theorem Qn {c:Ctx}:∀ {cap:List Str} {src:List Nat},qu c cap=some src->cap.length=src.length/\∀ (i:Nat) y,cap[i]?=some y->∃ j,src[i]?=some j/\c.N[j]?=some y
 | [],src,h=>by cases h;exact ⟨rfl,λi y e=>by simp at e⟩
 | y::r,src,h=>by
  unfold qu at h
  simp only [bA,aU] at h
  obtain ⟨i0,e0,l,e1,rfl⟩:=h
  obtain ⟨h1,h2⟩:=Qn e1
  refine ⟨by simp [h1],λi z e=>?_⟩
  cases i with
  | zero=>simp at e;subst e;exact ⟨i0,rfl,uz e0⟩
  | succ i=>simpa using h2 i z (by simpa using e)
theorem Ye {names:List (Str×NameKind)} {y:Str} (h:y∈vY names):(y,NameKind.free)∈names:=by
 unfold vY at h
 obtain ⟨z,hz,rfl⟩:=List.mem_map.mp h
 obtain ⟨h1,h2⟩:=List.mem_filter.mp hz
 obtain ⟨z1,z2⟩:=z
 have:z2=NameKind.free:=by simpa using h2
 subst this;exact h1
theorem ziH (hE:kY rE) (ok:fG c X) {x:Str} {es:List Expr} {f:EF} {p pos:Pos} (h:Gi rE c x es=some f):SE X (.Call (.Name x p) es [] pos) f:=by
 unfold Gi at h
 split at h
 ·rename_i f' ef
  cases h
  exact ok.ext x es f p pos ef
 ·exact zhd hE ok h
theorem zhb (hE:kY rE) (ok:fG c X) {tg e:Expr} {f:IF} (h:Gu rE c tg e=some f):SI X tg e f:=by
 have dflt:∀ {e:Expr},(rE c e).map dz=some f->SI X tg e f:=λ{e} q=>by
  simp only [aU] at q
  obtain ⟨f1,e1,rfl⟩:=q
  exact Yq (hE c X e f1 ok e1)
 unfold Gu at h
 split at h
 ·rename_i x p es pos
  split at h
  ·rename_i hc
   obtain ⟨rfl,h1,h2,h3,h4,h5⟩:=hc
   have hg:Gl X "zip" := by show X.env.scope.names.lookup _=_;rw [ok.names];exact h1
   simp only [aU] at h
   obtain ⟨fa,e2,rfl⟩:=h
   cases es with
   | nil=>exact absurd rfl h4
   | cons e r =>
    rw [kZ,cR] at h3
    cases tg with
    | Tuple ts kk tp=>exact Yr hg (ok.blt _ h2) (kI hE ok e2).1 (jh h3.1 r X.env) (p8 h3.2 pos X.env)
    | _=>cases h5
  split at h
  ·rename_i hc
   obtain ⟨rfl,h1,h2,h3,h5⟩:=hc
   have hg:Gl X "enumerate" := by show X.env.scope.names.lookup _=_;rw [ok.names];exact h1
   unfold Bf at h
   cases es with
   | nil=>cases h
   | cons e r =>
    cases r with
    | cons _ _=>cases h
    | nil =>
     simp only [aU] at h
     obtain ⟨fe,e2,rfl⟩:=h
     rw [kZ,cR] at h3
     cases tg with
     | Tuple ts kk tp=>exact Yp hg (ok.blt _ h2) (hE c X _ fe ok e2) (by rw [jh h3.1];rfl)
     | _=>cases h5
  split at h
  ·rename_i hc
   obtain ⟨rfl,h1,h2,h3⟩:=hc
   have hg:Gl X "range" := by show X.env.scope.names.lookup _=_;rw [ok.names];exact h1
   split at h
   ·rename_i a
    simp only [aU] at h
    obtain ⟨fa,e2,rfl⟩:=h
    rw [kZ,cR] at h3
    exact zjv hg (ok.blt _ h2) (kI hE ok e2).1 (by rw [jh h3.1];rfl)
   ·rename_i a b
    simp only [aU] at h
    obtain ⟨fa,e2,rfl⟩:=h
    rw [kZ,kZ,cR,cR] at h3
    exact zju hg (ok.blt _ h2) (kI hE ok e2).1 (by rw [jh h3.1,jh h3.2.1];rfl) (by rw [jh h3.2.1];rfl)
   ·cases h
  ·exact dflt h
 ·exact dflt h
theorem S9 (hE:kY rE) (ok:fG c X) {tg e:Expr} {f:IF} (h:BX rE c tg e=some f):SI X tg e f:=zhb hE ok h
theorem zjq (hT:vO rT) (ok:fG c X) {ifs:List Expr} {f:TF} (h:uZ rT c ifs=some f):tH X ifs f:=by
 unfold uZ at h
 split at h
 ·cases h;exact zmA
 ·exact zmz (hT c X _ f ok h)
 ·cases h
theorem SX (hE:kY rE) (hT:vO rT) (ok:fG c X) {elt:Expr} {g:Comprehension} {scope:Scope} {f:EF} (h:xY rE rT c elt g scope=some f) :
 ∃ fi fg ft fe,f=cX fi fg ft fe (wk c scope.names)/\g=⟨g.target,g.iter,g.ifs,0⟩/\pW X scope (rm c scope.names) (wk c scope.names)/\SI X g.target g.iter fi /\
  (∀ Y,mV X scope (rm c scope.names) Y->SG Y g.target fg/\tH Y g.ifs ft/\SE Y elt fe)/\∀ x,foldedSetIterable g.iter X.env x=pure x:=by
 unfold xY at h
 split at h
 ·rename_i hc
  obtain ⟨h1,h2,h3⟩:=hc
  simp only [bA,aU] at h
  obtain ⟨fi,e1,fg,e2,ft,e3,fe,e4,rfl⟩:=h
  refine ⟨fi,fg,ft,fe,rfl,?_,Yh ok h2,S9 hE ok e1,λY hy=>?_,Rr h3 X.env⟩
  ·obtain ⟨a,b,d,z⟩:=g
   have:z=0:=h1
   subst this;rfl
  ·have Mt:=zlS ok h2 hy
   exact ⟨yO Mt e2,zjq hT Mt e3,hE _ Y elt fe Mt e4⟩
 ·cases h
theorem ziG (hE:kY rE) (ok:fG c X) {o:Expr} {m:Str} {apos cpos:Pos} {es:List Expr} {f:EF} (h:Gv rE c o m apos es cpos=some f):SE X (.Call (.Attribute o m apos) es [] cpos) f:=by
 unfold Gv at h
 split at h
 ·rename_i hc
  obtain ⟨h1,h3,h4⟩:=hc
  split at h
  ·rename_i x p
   split at h
   ·rename_i C n φ e1
    have R:=ok.mths m C n φ e1
    cases es with
    | nil =>
     simp only [aU] at h
     obtain ⟨fo,e2,rfl⟩:=h
     exact zmZ R (hE c X _ fo ok e2) rfl h4
    | cons e r =>
     have h1':=h1
     rw [kZ,cR] at h1
     simp only [bA,aU] at h
     obtain ⟨fo,e2,fa,e3,rfl⟩:=h
     have few:((backTo cpos (starEach (e::r) X.env)).all (λx => !x.1)&&(backToKw cpos (keywordEach [] X.env)).all (λx=>x.1.isSome)
      && decide ((e::r).length+([]:List Keyword).length+(if ([]:List Keyword).isEmpty then 0 else 1)<30))=true:=by
      rw [Dt h1']
      show (true&&true&&_)=true
      rw [cR]
      exact ⟨rfl,decide_eq_true (by simp at h3 ⊢;omega)⟩
     exact YX R (hE c X _ fo ok e2) (kI hE ok e3).1 rfl few h4 (jh h1.1 r X.env) (p8 h1.2 cpos X.env)
   split at h
   ·rename_i q g e1
    obtain ⟨m1,m2,m3⟩:=Rn ok.un e1
    cases es with
    | nil =>
     simp only [aU] at h
     obtain ⟨fo,e2,rfl⟩:=h
     exact YW m1 m2 m3 (hE c X _ fo ok e2) rfl h4
    | cons e r =>
     have h1':=h1
     rw [kZ,cR] at h1
     simp only [bA,aU] at h
     obtain ⟨fo,e2,fa,e3,rfl⟩:=h
     have few:((backTo cpos (starEach (e::r) X.env)).all (λx => !x.1)&&(backToKw cpos (keywordEach [] X.env)).all (λx=>x.1.isSome)
      && decide ((e::r).length+([]:List Keyword).length+(if ([]:List Keyword).isEmpty then 0 else 1)<30))=true:=by
      rw [Dt h1']
      show (true&&true&&_)=true
      rw [cR]
      exact ⟨rfl,decide_eq_true (by simp at h3 ⊢;omega)⟩
     exact Ow m1 m2 m3 (hE c X _ fo ok e2) (kI hE ok e3).1 rfl few h4 (jh h1.1 r X.env) (p8 h1.2 cpos X.env)
   ·cases h
  ·rename_i k jj kp
   unfold sU at h
   split at h
   ·split at h
    ·rename_i hm
     subst hm
     cases es with
     | nil=>cases h
     | cons e r =>
      have h1':=h1
      rw [kZ,cR] at h1
      simp only [aU] at h
      obtain ⟨fa,e3,rfl⟩:=h
      have few:((backTo cpos (starEach (e::r) X.env)).all (λx => !x.1)&&(backToKw cpos (keywordEach [] X.env)).all (λx=>x.1.isSome)
       && decide ((e::r).length+([]:List Keyword).length+(if ([]:List Keyword).isEmpty then 0 else 1)<30))=true:=by
       rw [Dt h1']
       show (true&&true&&_)=true
       rw [cR]
       exact ⟨rfl,decide_eq_true (by simp at h3 ⊢;omega)⟩
      exact zm0 (kI hE ok e3).1 few h4 (jh h1.1 r X.env) (p8 h1.2 cpos X.env)
    ·cases h
   ·cases h
  ·rename_i a b p
   unfold sy at h
   split at h
   ·rename_i q g e1
    obtain ⟨m1,m2,m3⟩:=Rn ok.un e1
    cases es with
    | nil=>cases h
    | cons e r =>
     have h1':=h1
     rw [kZ,cR] at h1
     simp only [bA,aU] at h
     obtain ⟨fo,e2,fa,e3,rfl⟩:=h
     have few:((backTo cpos (starEach (e::r) X.env)).all (λx => !x.1)&&(backToKw cpos (keywordEach [] X.env)).all (λx=>x.1.isSome)
      && decide ((e::r).length+([]:List Keyword).length+(if ([]:List Keyword).isEmpty then 0 else 1)<30))=true:=by
      rw [Dt h1']
      show (true&&true&&_)=true
      rw [cR]
      exact ⟨rfl,decide_eq_true (by simp at h3 ⊢;omega)⟩
     exact Ow m1 m2 m3 (hE c X _ fo ok e2) (kI hE ok e3).1 rfl few h4 (jh h1.1 r X.env) (p8 h1.2 cpos X.env)
   ·cases h
  ·cases h
 ·cases h
theorem ziI (hE:kY rE) (ok:fG c X) {e:Expr} {g:Str} {p:Pos} {f:EF} (h:Gg rE c e g=some f):SE X (.Attribute e g p) f:=by
 unfold Gg at h
 cases e with
 | Name x q =>
  simp only at h
  split at h
  ·rename_i C e0
   obtain ⟨fe,e1,rfl⟩:=aU.mp h
   exact YQ (ok.flds g C e0) (hE c X _ fe ok e1) rfl
  ·cases h
 | _=>cases h
theorem zha (hE:kY rE) (hT:vO rT):kY (sE rE rT):=by
 intro c X e f ok h
 cases e with
 | Name x p=>exact ziF ok h
 | Constant k a b=>exact zhc h
 | BinOp a op b p =>
  obtain ⟨fa,e1,h⟩:=bA.mp h
  obtain ⟨fb,e2,rfl⟩:=aU.mp h
  exact Vu (hE c X _ fa ok e1) (hE c X _ fb ok e2)
 | UnaryOp op a p =>
  cases op with
  | USub =>
   obtain ⟨fa,e1,rfl⟩:=aU.mp h
   exact YZ (hE c X _ fa ok e1)
  | Not =>
   obtain ⟨fa,e1,rfl⟩:=aU.mp h
   exact Y4 (hE c X _ fa ok e1)
  | _=>exact nomatch (show (none:Option EF)=some f from h)
 | BoolOp op es p=>exact SQ hE ok h
 | Compare a ops bs p =>
  cases ops with
  | nil=>exact nomatch (show (none:Option EF)=some f from h)
  | cons op r =>
   cases r with
   | cons _ _=>exact nomatch (show (none:Option EF)=some f from h)
   | nil =>
    cases bs with
    | nil=>exact nomatch (show (none:Option EF)=some f from h)
    | cons b q =>
     cases q with
     | cons _ _=>exact nomatch (show (none:Option EF)=some f from h)
     | nil =>
      change (if op ≠ .In/\op ≠ .NotIn then (rE c a).bind λfa=>(rE c b).map λfb=>eB (bf op) fa fb else none)=some f at h
      by_cases hc:op ≠ .In/\op ≠ .NotIn
      ·rw [if_pos hc] at h
       obtain ⟨fa,e1,h⟩:=bA.mp h
       obtain ⟨fb,e2,rfl⟩:=aU.mp h
       exact WY ok.un hc.1 hc.2 (hE c X _ fa ok e1) (hE c X _ fb ok e2)
      ·rw [if_neg hc] at h;cases h
 | Tuple es a b =>
  obtain ⟨fa,e1,rfl⟩:=aU.mp h
  exact Ym (kI hE ok e1).1
 | List es a =>
  obtain ⟨fa,e1,rfl⟩:=aU.mp h
  exact YT (kI hE ok e1).1
 | Subscript a b p =>
  change (if Cd b=true then (rE c a).bind λfa=>(rE c b).map λfb=>eB aM fa fb else zK rE c a b)=some f at h
  by_cases hp:Cd b=true
  ·rw [if_pos hp] at h
   obtain ⟨fa,e1,h⟩:=bA.mp h
   obtain ⟨fb,e2,rfl⟩:=aU.mp h
   exact Vs (ziL hp) (hE c X _ fa ok e1) (hE c X _ fb ok e2)
  ·rw [if_neg hp] at h
   cases b with
   | Slice lo hi st q =>
    cases st with
    | some _=>exact nomatch (show (none:Option EF)=some f from h)
    | none =>
     obtain ⟨fa,e1,h⟩:=bA.mp h
     obtain ⟨fl,e2,h⟩:=bA.mp h
     obtain ⟨fh,e3,rfl⟩:=aU.mp h
     exact zlc (hE c X _ fa ok e1) (Tc hE ok e2) (Tc hE ok e3)
   | _=>exact nomatch (show (none:Option EF)=some f from h)
 | IfExp t a b p =>
  obtain ⟨ft,e0,h⟩:=bA.mp h
  obtain ⟨fa,e1,h⟩:=bA.mp h
  obtain ⟨fb,e2,rfl⟩:=aU.mp h
  exact Vr (hT c X _ ft ok e0) (hE c X _ fa ok e1) (hE c X _ fb ok e2)
 | Call g es ks pos =>
  cases ks with
  | cons k r =>
   cases g with
   | Name x p=>exact ok.kwx x es (k::r) f p pos h
   | _=>exact nomatch (show (none:Option EF)=some f from h)
  | nil =>
   cases g with
   | Name x p=>exact ziH hE ok h
   | Attribute o m p=>exact ziG hE ok h
   | _=>exact nomatch (show (none:Option EF)=some f from h)
 | ListComp elt gs scope p =>
  cases gs with
  | nil=>exact nomatch (show (none:Option EF)=some f from h)
  | cons g r =>
   cases r with
   | cons _ _=>exact nomatch (show (none:Option EF)=some f from h)
   | nil =>
    obtain ⟨fi,fg,ft,fe,rfl,eg,FQ,hi,hY,hfs⟩:=SX hE hT ok h
    rw [eg]
    exact Ov ok.calm FQ hi hY hfs
 | Attribute e g p=>exact ziI hE ok h
 | _=>exact nomatch (show (none:Option EF)=some f from h)
theorem zg9 (hE:kY rE) (hT:vO rT):vO (Gy rE rT):=by
 intro c X e f ok h
 unfold Gy at h
 split at h
 ·simp only [aU] at h
  obtain ⟨fa,e1,rfl⟩:=h
  exact YH (hT c X _ fa ok e1)
 ·exact PW.pt (T6 hT ok h)
 ·split at h
  ·rename_i hc
   simp only [bA,aU] at h
   obtain ⟨fa,e1,fb,e2,rfl⟩:=h
   exact YG ok.un hc.1 hc.2 (hE c X _ fa ok e1) (hE c X _ fb ok e2)
  ·cases h
 ·split at h
  ·rename_i hp
   simp only [aU] at h
   obtain ⟨fa,e1,rfl⟩:=h
   exact YJ (hE c X _ fa ok e1) (zjC hp X.env)
  ·cases h
theorem o5:∀ n,kY (cE n)/\vO (cT n)
 | 0=>⟨λ_ _ _ _ _ h=>by simp [cE] at h,λ_ _ _ _ _ h=>by simp [cT] at h⟩
 | n+1=>by
  obtain ⟨h1,h2⟩:=o5 n
  refine ⟨λc X e f ok h=>?_,λc X e f ok h=>?_⟩
  ·rw [cE] at h;exact zha h1 h2 c X e f ok h
  ·rw [cT] at h;exact zg9 h1 h2 c X e f ok h
end
def Cg:SF:=λ_ _=>none
theorem zkZ {X:Cx} {st:Stmt}:SS X st Cg:=λ_ _ _ _ _ _ h=>by
 obtain ⟨_,_,_,_,_,_,_,_,hf,_⟩:=h
 cases hf
def tG (c:Ctx) (x:Str) (e:Expr):Option SF:=match e with
 | .ListComp elt gs scope _=>match gs with
  | []=>none
  | g::r=>match r with
   | _::_=>none
   | []=>if x∈c.sts then (jN c.N x).bind λi=>(xY (cE 60) (cT 60) c elt g scope).map λf=>aX f (aG i) else none
 | _=>none
def Bl (c:Ctx) (x:Str) (e:Expr):Option SF:=if x∈c.sts then (cE 60 c e).bind λfe=>(jN c.N x).map λi=>aX fe (aG i) else none
def Ci (c:Ctx) (o:Expr) (f:Str) (e:Expr):Option SF:=match o with
 | .Name x p=>match c.flds.lookup f with
  | some C=>(cE 60 c e).bind λfe=>(cE 60 c (.Name x p)).map λfo=>mY C f fo fe
  | none=>none
 | _=>none
def Gf (c:Ctx) (tg e:Expr):Option SF:=(cE 60 c e).bind λfe=>(wj c tg).map λfg=>aX fe fg
def uY:Expr->Bool
 | .ListComp _ _ _ _=>true
 | _=>false
def vJ (c:Ctx) (tg e:Expr):Option SF :=
 if wA e=true then
  if Gq e=true then match tg with
   | .Attribute o f _=>Ci c o f e
   | tg=>Gf c tg e
  else match tg with
   | .Name x _=>Bl c x e
   | .Attribute o f _=>Ci c o f e
   | _=>none
 else match tg with
  | .Name x _=>tG c x e
  | .Tuple ts k p=>if uY e=true then Gf c (.Tuple ts k p) e else none
  | _=>none
def sV (e:Expr):Bool:=match e with
 | .Constant k _ _=>match k with
  | .str _=>true
  | _=>false
 | _=>false
def vo (c:Ctx) (e:Expr):Option SF:=if sV e=true then some aP else if wA e=true then (cE 60 c e).map mX else none
mutual
def cS:Nat->Ctx->Stmt->Option SF
 | 0,_,_=>none
 | n+1,c,st=>match st with
  | .Pass _=>some aP
  | .Break _=>some zM
  | .Continue _=>some nJ
  | .Expr e _=>vo c e
  | .Return o _=>match o with
   | none=>some sG
   | some e=>(cE 60 c e).map bH
  | .Raise _ _ _=>some Cg
  | .Assign zf e _=>match zf with
   | []=>none
   | tg::r=>match r with
    | []=>vJ c tg e
    | _::_=>none
  | .If t a b _=>(cT 60 c t).bind λft=>(jy n c a).bind λfa=>(jy n c b).map λfb=>dg ft fa fb
  | .While t a o _=>match o with
   | []=>(cT 60 c t).bind λft=>(jy n c a).map λfa=>jT ft fa
   | _::_=>none
  | .For tg it a o _=>match o with
   | []=>if yd it=true then (BX (cE 60) c tg it).bind λfi=>(wj c tg).bind λfg=>(jy n c a).map λfa=>jX fi fg fa else none
   | _::_=>none
  | _=>none
def jy:Nat->Ctx->List Stmt->Option SF
 | 0,_,_=>none
 | _+1,_,[]=>some aP
 | n+1,c,st::r=>(cS n c st).bind λf=>(jy n c r).map λg=>aB f g
end
theorem zhe {c:Ctx} {X:Cx} (ok:fG c X) {x:Str} {px spos:Pos} {e:Expr} {f:SF} (h:tG c x e=some f):SS X (.Assign [.Name x px] e spos) f:=by
 have hE:=(o5 60).1
 have hT:=(o5 60).2
 cases e with
 | ListComp elt gs scope p=>cases gs with
  | nil=>exact nomatch (show (none:Option SF)=some f from h)
  | cons g r=>cases r with
   | cons _ _=>exact nomatch (show (none:Option SF)=some f from h)
   | nil =>
    change (if x∈c.sts then (jN c.N x).bind λi=>(xY (cE 60) (cT 60) c elt g scope).map λf=>aX f (aG i) else none)=some f at h
    by_cases hx:x∈c.sts
    ·rw [if_pos hx] at h
     obtain ⟨i,e0,h⟩:=bA.mp h
     obtain ⟨f1,e1,rfl⟩:=aU.mp h
     obtain ⟨fi,fg,ft,fe,rfl,eg,FQ,hi,hY,hfs⟩:=SX hE hT ok e1
     obtain ⟨s1,s2⟩:=ok.st x hx
     have nd:X.N.Nodup:=by rw [ok.N];exact ok.nd
     have sl:X.N[i]?=some x:=by rw [ok.N];exact uz e0
     rw [eg]
     have key:swapsWith (.ListComp elt [⟨g.target,g.iter,g.ifs,0⟩] scope p) (some (.Name x px)) spos.line X.env=pure (X.env.blockKind==ScopeKind.function&&X.env.kindOf x==some NameKind.local&&px.line==p.line && !(scope.names.any λy=>y.1==x&&(y.2==NameKind.local||y.2==NameKind.cell))):=rfl
     cases hb:(X.env.blockKind==ScopeKind.function&&X.env.kindOf x==some NameKind.local&&px.line==p.line && !(scope.names.any λy=>y.1==x&&(y.2==NameKind.local||y.2==NameKind.cell))) with
     | true =>
      rw [hb] at key
      rw [cR,cR,cR] at hb
      have hk:X.env.kindOf x=some .local:=by simpa using hb.1.1.2
      exact zkY nd sl hk key ok.calm FQ hi hY hfs
     | false =>
      rw [hb] at key
      exact Px nd sl s1 (Ov ok.calm FQ hi hY hfs) key s2
    ·rw [if_neg hx] at h;cases h
 | _=>exact nomatch (show (none:Option SF)=some f from h)
theorem T5 {c:Ctx} {X:Cx} (ok:fG c X) {o e:Expr} {g:Str} {p spos:Pos} {f:SF} (hc:wA e=true) (h:Ci c o g e=some f):SS X (.Assign [.Attribute o g p] e spos) f:=by
 have hE:=(o5 60).1
 unfold Ci at h
 cases o with
 | Name x q =>
  simp only at h
  split at h
  ·rename_i C e0
   obtain ⟨fe,e1,h⟩:=bA.mp h
   obtain ⟨fo,e2,rfl⟩:=aU.mp h
   exact YB (ok.flds g C e0) (hE c X _ fo ok e2) (hE c X _ fe ok e1) (yM hc _ _ _)
  ·cases h
 | _=>cases h
theorem ziJ {c:Ctx} {X:Cx} (ok:fG c X) {tg e:Expr} {spos:Pos} {f:SF} (h:vJ c tg e=some f):SS X (.Assign [tg] e spos) f:=by
 have hE:=(o5 60).1
 unfold vJ at h
 by_cases hc:wA e=true
 ·rw [if_pos hc] at h
  by_cases ht:Gq e=true
  ·rw [if_pos ht] at h
   cases tg with
   | Attribute o g p=>exact T5 ok hc h
   | Name _ _ =>
    obtain ⟨fe,e1,h⟩:=bA.mp h
    obtain ⟨fg,e2,rfl⟩:=aU.mp h
    exact Hj (hE c X _ fe ok e1) (yO ok e2) (by unfold swapsWithSole;exact yM hc _ _ _) (ziQ rfl _ _) rfl
   | Tuple _ _ _ =>
    obtain ⟨fe,e1,h⟩:=bA.mp h
    obtain ⟨fg,e2,rfl⟩:=aU.mp h
    exact Hj (hE c X _ fe ok e1) (yO ok e2) (by unfold swapsWithSole;exact yM hc _ _ _) (ziP ht _ _ _ _) rfl
   | _ =>
    obtain ⟨fe,e1,h⟩:=bA.mp h
    obtain ⟨fg,e2,h⟩:=aU.mp h
    cases e2
  ·rw [if_neg ht] at h
   cases tg with
   | Name x px =>
    change (if x∈c.sts then (cE 60 c e).bind λfe=>(jN c.N x).map λi=>aX fe (aG i) else none)=some f at h
    by_cases hx:x∈c.sts
    ·rw [if_pos hx] at h
     obtain ⟨fe,e1,h⟩:=bA.mp h
     obtain ⟨i,e2,rfl⟩:=aU.mp h
     obtain ⟨s1,s2⟩:=ok.st x hx
     exact Px (by rw [ok.N];exact ok.nd) (by rw [ok.N];exact uz e2) s1 (hE c X _ fe ok e1) (yM hc _ _ _) s2
    ·rw [if_neg hx] at h;cases h
   | Attribute o g p=>exact T5 ok hc h
   | _=>exact nomatch (show (none:Option SF)=some f from h)
 ·rw [if_neg hc] at h
  cases tg with
  | Name x px=>exact zhe ok h
  | Tuple ts k0 p =>
   change (if uY e=true then Gf c (.Tuple ts k0 p) e else none)=some f at h
   by_cases hl:uY e=true
   ·rw [if_pos hl] at h
    obtain ⟨fe,e1,h⟩:=bA.mp h
    obtain ⟨fg,e2,rfl⟩:=aU.mp h
    cases e with
    | ListComp _ _ _ _=>exact Hj (hE c X _ fe ok e1) (yO ok e2) rfl rfl rfl
    | _=>cases hl
   ·rw [if_neg hl] at h;cases h
  | _=>exact nomatch (show (none:Option SF)=some f from h)
theorem zjr {c:Ctx} {X:Cx} (ok:fG c X) {e:Expr} {p:Pos} {f:SF} (h:vo c e=some f):SS X (.Expr e p) f:=by
 have hE:=(o5 60).1
 unfold vo at h
 by_cases hd:sV e=true
 ·rw [if_pos hd] at h
  cases h
  cases e with
  | Constant k a b=>cases k with
   | str _=>exact Yz
   | _=>cases hd
  | _=>cases hd
 ·rw [if_neg hd] at h
  by_cases hc:wA e=true
  ·rw [if_pos hc] at h
   obtain ⟨fe,e1,rfl⟩:=aU.mp h
   exact zmE (hE c X _ fe ok e1) (yM hc _ _ _)
  ·rw [if_neg hc] at h;cases h
theorem Dr:∀ n c X,fG c X->PassesOwn (model X.prog X.w) X.A X.env X.xe->(∀ st f,cS n c st=some f->SS X st f)/\∀ sts f,jy n c sts=some f->tK X sts f
 | 0,c,X,ok,hp=>⟨λ_ _ h=>by simp [cS] at h,λ_ _ h=>by simp [jy] at h⟩
 | n+1,c,X,ok,hp=>by
  obtain ⟨ih1,ih2⟩:=Dr n c X ok hp
  have hE:=(o5 60).1
  have hT:=(o5 60).2
  refine ⟨λst f h=>?_,λsts f h=>?_⟩
  ·unfold cS at h
   cases st with
   | Pass _=>cases h;exact zmD
   | Break _=>cases h;exact Yx
   | Continue _=>cases h;exact Yy
   | Expr e p=>exact zjr ok h
   | Return o p=>cases o with
    | none=>cases h;exact zmC
    | some e =>
     obtain ⟨fe,e1,rfl⟩:=aU.mp h
     exact YF (hE c X _ fe ok e1)
   | Raise _ _ _=>cases h;exact zkZ
   | Assign zf e p=>cases zf with
    | nil=>exact nomatch (show (none:Option SF)=some f from h)
    | cons tg r=>cases r with
     | nil=>exact ziJ ok h
     | cons _ _=>exact nomatch (show (none:Option SF)=some f from h)
   | If t a b p =>
    obtain ⟨ft,e0,h⟩:=bA.mp h
    obtain ⟨fa,e1,h⟩:=bA.mp h
    obtain ⟨fb,e2,rfl⟩:=aU.mp h
    exact Vx (hT c X _ ft ok e0) (ih2 _ fa e1) (ih2 _ fb e2)
   | While t a o p=>cases o with
    | cons _ _=>exact nomatch (show (none:Option SF)=some f from h)
    | nil =>
     obtain ⟨ft,e0,h⟩:=bA.mp h
     obtain ⟨fa,e1,rfl⟩:=aU.mp h
     exact zkX hp (hT c X _ ft ok e0) (ih2 _ fa e1)
   | For tg it a o p=>cases o with
    | cons _ _=>exact nomatch (show (none:Option SF)=some f from h)
    | nil =>
     change (if yd it=true then (BX (cE 60) c tg it).bind λfi=>(wj c tg).bind λfg=>(jy n c a).map λfa=>jX fi fg fa else none)=some f at h
     by_cases hn:yd it=true
     ·rw [if_pos hn] at h
      obtain ⟨fi,e0,h⟩:=bA.mp h
      obtain ⟨fg,e1,h⟩:=bA.mp h
      obtain ⟨fa,e2,rfl⟩:=aU.mp h
      exact YC hp ok.calm (S9 hE ok e0) (yO ok e1) (ih2 _ fa e2) (Rr hn X.env)
     ·rw [if_neg hn] at h;cases h
   | _=>exact nomatch (show (none:Option SF)=some f from h)
  ·cases sts with
   | nil=>rw [jy] at h;cases h;exact YD
   | cons st r =>
    rw [jy] at h
    simp only [bA,aU] at h
    obtain ⟨f1,e1,g1,e2,rfl⟩:=h
    exact zmF (ih1 _ f1 e1) (ih2 _ g1 e2)
end MX
end
section
namespace MX
open PySem PySem.Spec PyProof.Rows L2
theorem FnAt.mono {P:Program} {w:World} {K:PySem.W.Frag} {mg:Str->Option Value} {base:Heap} {j k:Nat} {x:Str} {n:Nat} {φ:GN} (h:FnAt P w K mg base j x n φ) (hjk:j<=k):FnAt P w K mg base k x n φ :=
 let ⟨f,fd,ps,a,b,c,d⟩:=h
 ⟨f,fd,ps,a,b,c,d.mono hjk⟩
def gq (names:List (Str×NameKind)):List Str:=(names.filter λy=>y.2 == .local||y.2 == .cell).map (·.1)
def mkC (st:Stmt) (fns:List (Str×Nat×GN)) (blt:List Str):Ctx:={ N:=gq (bM st).names,names:=(bM st).names,sts:=gq (bM st).names,fns:=fns,blt:=blt }
def mW (N:List Str) (ds:List D):Sg:=ds.map some++List.replicate (N.length - ds.length) none
theorem Jo {K:PySem.W.Frag} {H:Hp} {α:List Addr} {N:List Str} {ds:List D} {vs:List V} (r:aF K H α ds vs):bF K H α (mW N ds) (start N vs):=by
 have hl:=r.length
 refine ⟨by simp [mW,L2.start,hl],λi d e=>?_⟩
 have hi:i<ds.length:=by
  unfold mW at e
  by_cases hi:i<ds.length
  ·exact hi
  ·rw [tW (by simpa using hi),List.getElem?_replicate] at e
   split at e<;>cases e
 have ed:ds[i]?=some d:=by
  unfold mW at e
  rw [jW (by simpa using hi),eV] at e
  cases q:ds[i]? with
  | none=>rw [q] at e;cases e
  | some z=>rw [q] at e;cases e;rfl
 obtain ⟨v,h1,h2⟩:=r.get ed
 refine ⟨v,?_,h2⟩
 unfold L2.start
 rw [jW (by rw [cQ,<-hl];exact hi),eV,h1]
 rfl
def tO (r:Option (Fl×Sg×So)) (z:D) (S S':So):Prop:=∃ fl σ' fY,r=some (fl,σ',fY)/\(fl = .rt z\/(fl = .nx/\z = .non))/\S'=fY.take S'.length/\S.length<=S'.length/\D.lo S'.length z=true/\∀ o∈S',O.lo S'.length o=true
theorem TQ {names:List (Str×NameKind)} (hu:∀ y∈names,names.lookup y.1=some y.2) {x:Str} (h:x∈gq names):names.lookup x=some .local\/names.lookup x=some .cell:=by
 unfold gq at h
 obtain ⟨y,hy,rfl⟩:=List.mem_map.mp h
 obtain ⟨h1,h2⟩:=List.mem_filter.mp hy
 rw [qR] at h2
 have e:=hu y h1
 rcases h2 with q | q
 ·exact .inl (by rw [e];congr 1;simpa using q)
 ·exact .inr (by rw [e];congr 1;simpa using q)
section
variable {P:Program} {w:World} {K:PySem.W.Frag} {mg:Str->Option Value} {base:Heap}
end
section
variable {P:Program} {w:World} {K:PySem.W.Frag} {mg:Str->Option Value} {base:Heap}
end
def zH (K:PySem.W.Frag) (n:Nat):Sp:=λvs H Q _=>∃ (a:Addr) (ns:List Int),vs=[.ref a]/\qQ K H a (ns.map V.int)/\ns.length<=n/\∀ H',Q (.bl true) H'
section
variable {P:Program} {w:World} {K:PySem.W.Frag} {mg:Str->Option Value} {base:Heap}
def yh (K:PySem.W.Frag) (n:Nat) (Pt:Addr):Sp:=λvs H Q E=>(∃ ps,H Pt=some (.tbl ps))/\zH K n vs H Q E
end
end MX
end
section
namespace MX
open PySem L2
theorem Dn {nx:Nat->So->Option (Option D)} {g:GF} {t:TF} {fe:EF} {S:So} {xs:List D} (T:Sg->Prop) (p:D->Bool) (h:D->D) (hnx:∀ i:Nat,nx i S=some xs[i]?)
 (hstep:∀ d∈xs,∀ τ,T τ->∃ τ',g d τ S=some (τ',S)/\T τ'/\t τ' S=some (p d,S)/\(p d=true->fe τ' S=some (h d,S))) :
 ∀ (n i:Nat) (τ:Sg) (acc:List D),T τ->i+n=xs.length->iw nx g t fe n i τ S acc=some (acc++((xs.drop i).filter p).map h,S)
 | 0,i,τ,acc,hT,hl=>by
  unfold iw
  rw [hnx,iK (by omega),List.drop_of_length_le (by omega)]
  simp
 | n+1,i,τ,acc,hT,hl=>by
  have hi:i<xs.length:=by omega
  unfold iw
  rw [hnx,dO hi,List.drop_eq_getElem_cons hi]
  obtain ⟨τ',h1,h2,h3,h4⟩:=hstep xs[i] (List.getElem_mem hi) τ hT
  simp only [h1,cg,h3]
  cases hp:p xs[i] with
  | false =>
   simp only [Bool.false_eq_true,if_false]
   rw [Dn T p h hnx hstep n (i+1) τ' acc h2 (by omega),List.filter_cons_of_neg (by simp [hp])]
  | true =>
   simp only [if_true,h4 hp,cg]
   rw [Dn T p h hnx hstep n (i+1) τ' _ h2 (by omega),List.filter_cons_of_pos hp]
   simp
theorem uw {nx:Nat->So->Option (Option D)} {g:GF} {f:SF} {xs:List D} (P:Nat->Sg->So->Prop) (hnx:∀ (i:Nat) σ S,P i σ S->nx i S=some xs[i]?)
 (hstep:∀ (i:Nat) d σ S,xs[i]?=some d->P i σ S->∃ σ1 S1 fl σ2 S2,g d σ S=some (σ1,S1)/\f σ1 S1=some (fl,σ2,S2)/\(fl = .nx\/fl = .ct)/\P (i+1) σ2 S2) :
 ∀ (n i:Nat) (σ:Sg) (S:So),P i σ S->i+n=xs.length->∃ σ' S',iQ nx g f n i σ S=some (.nx,σ',S')/\P xs.length σ' S'
 | 0,i,σ,S,hP,hl=>by
  unfold iQ
  rw [hnx i σ S hP,iK (by omega)]
  have:i=xs.length:=by omega
  subst this
  exact ⟨σ,S,rfl,hP⟩
 | n+1,i,σ,S,hP,hl=>by
  have hi:i<xs.length:=by omega
  unfold iQ
  rw [hnx i σ S hP,dO hi]
  obtain ⟨σ1,S1,fl,σ2,S2,h1,h2,h3,h4⟩:=hstep i xs[i] σ S (dO hi) hP
  obtain ⟨σ',S',e1,e2⟩:=uw P hnx hstep n (i+1) σ2 S2 h4 (by omega)
  refine ⟨σ',S',?_,e2⟩
  simp only [h1,cg,h2]
  rcases h3 with rfl | rfl<;>exact e1
theorem R4 (ns:List Int):mq (ns.map D.int)=some ns:=by
 induction ns with
 | nil=>rfl
 | cons n r ih=>simp [mq,ih]
end MX
end
section
namespace MX
open PySem PySem.Spec PyProof.Rows L2
def lM (n:Nat) (ds:List D):Sg:=ds.map some++List.replicate (n - ds.length) none
open Classical in
def fnOf (n:Nat) (fb:SF):GN:=λds S=>match fb (lM n ds) S with
 | some (.rt z,_,fY)=>if fY.take S.length=S/\D.lo S.length z=true then some (z,S) else if S.length<=fY.length/\D.lo fY.length z=true/\WF fY then some (z,fY) else none
 | some (.nx,_,fY)=>if fY.take S.length=S then some (.non,S) else if S.length<=fY.length/\WF fY then some (.non,fY) else none
 | _=>none
theorem DW {N:List Str} {n:Nat} {fb:SF} (hn:N.length=n) {ds:List D} {S:So} {z:D} {S':So} (hS:WF S) (h:fnOf n fb ds S=some (z,S')):tO (fb (mW N ds) S) z S S':=by
 have e0:mW N ds=lM n ds:=by unfold mW lM;rw [hn]
 rw [e0]
 unfold fnOf at h
 split at h
 ·rename_i z' σ' fY e
  split at h
  ·rename_i hc
   cases h
   exact ⟨_,_,_,e,.inl rfl,hc.1.symm,bR _,hc.2,hS⟩
  ·split at h
   ·rename_i hc
    cases h
    exact ⟨_,_,_,e,.inl rfl,by simp,hc.1,hc.2.1,hc.2.2⟩
   ·cases h
 ·rename_i σ' fY e
  split at h
  ·rename_i hc
   cases h
   exact ⟨_,_,_,e,.inr ⟨rfl,rfl⟩,hc.symm,bR _,by simp [D.lo],hS⟩
  ·split at h
   ·rename_i hc
    cases h
    exact ⟨_,_,_,e,.inr ⟨rfl,rfl⟩,by simp,hc.1,by simp [D.lo],hc.2⟩
   ·cases h
 ·cases h
theorem bK {n:Nat} {fb:SF} {ds:List D} {S:So} {z:D} {σ':Sg} {S':So} (h:fb (lM n ds) S=some (.rt z,σ',S')) (hS:S'.take S.length=S) (hz:D.lo S.length z=true):fnOf n fb ds S=some (z,S):=by
 unfold fnOf
 rw [h]
 simp only
 rw [if_pos ⟨hS,hz⟩]
theorem Tv {n:Nat} {fb:SF} {ds:List D} {S:So} {σ':Sg} {S':So} (h:fb (lM n ds) S=some (.nx,σ',S')) (hS:S'.take S.length=S):fnOf n fb ds S=some (.non,S):=by
 unfold fnOf
 rw [h]
 simp only
 rw [if_pos hS]
theorem rM {n:Nat} {fb:SF} {ds:List D} {S:So} {z:D} {σ':Sg} {S':So} (h:fb (lM n ds) S=some (.rt z,σ',S')) (hne:¬ (S'.take S.length=S/\D.lo S.length z=true)) (hl:S.length<=S'.length) (hz:D.lo S'.length z=true) (hw:WF S'):fnOf n fb ds S=some (z,S'):=by
 unfold fnOf
 rw [h]
 simp only
 rw [if_neg hne,if_pos ⟨hl,hz,hw⟩]
def d8 (K:PySem.W.Frag) (x:Str) (st:Stmt):Prop:=∃ f fd,PySem.W.nsIn K mainGlobals x=some (some (.ref f))/\mJ K x x st f fd
theorem d8.mk' {K:PySem.W.Frag} {x:Str} {st:Stmt} {f:Addr} {oc:Value} {od an:Option Addr} {osl:Array (Option Value)} {kV doc pm cdv ct:Value} (a:PySem.W.nsIn K mainGlobals x=some (some (.ref f)))
 (l:K.lookup f=some ⟨oc,od,.func (PySem.W.fnOf x x (jZ st) (gW st) (bM st) .none kV doc pm an cdv ct),osl⟩)
 (c:PySem.W.codeIn K cdv x=true) (k:PySem.W.keepIn K (.ref f)=true):d8 K x st:=⟨f,_,a,O5 l c k⟩
def aA (P:Program) (w:World) (K:PySem.W.Frag) (mg:Str->Option Value) (base:Heap) (k:Nat) (fns:List (Str×Nat×GN)):Prop:=∀ y n ψ,fns.lookup y=some (n,ψ)->FnAt P w K mg base k y n ψ
section
variable {P:Program} {w:World} {K:PySem.W.Frag} {mg:Str->Option Value} {base h:Heap}
theorem aA.nil {k:Nat}:aA P w K mg base k []:=λ_ _ _ e=>by cases e
theorem aA.snoc {k n:Nat} {x:Str} {φ:GN} {fns:List (Str×Nat×GN)} (hs:aA P w K mg base k fns) (h:FnAt P w K mg base (k+1) x n φ):aA P w K mg base (k+1) ((x,n,φ)::fns):=λy m ψ e=>by
 rw [iZ] at e
 split at e
 ·rename_i q
  cases e
  have:y=x:=by simpa using q
  subst this
  exact h
 ·exact (hs y m ψ e).mono (Nat.le_succ _)
def oU (x:Str) (st:Stmt) (ps:List Str):Prop:=∀ (kV doc pm:Value) (an:Option Addr) (cdv ct:Value) (us:List Value),us.length=ps.length->bindArgs (PySem.W.fnOf x x (jZ st) (gW st) (bM st) .none kV doc pm an cdv ct) ⟨us,[]⟩=pure (ps.zip us)
theorem gU {x:Str} {st:Stmt} {p0:Str} (h:∀ (kV doc pm:Value) (an:Option Addr) (cdv ct:Value) (u0:Value),bindArgs (PySem.W.fnOf x x (jZ st) (gW st) (bM st) .none kV doc pm an cdv ct) ⟨[u0],[]⟩=pure ([p0].zip [u0])):oU x st [p0]:=λkV doc pm an cdv ct us hl=>match us,hl with
 | [u0],_=>h kV doc pm an cdv ct u0
theorem gH {x:Str} {st:Stmt} {p0 p1:Str} (h:∀ (kV doc pm:Value) (an:Option Addr) (cdv ct:Value) (u0 u1:Value),bindArgs (PySem.W.fnOf x x (jZ st) (gW st) (bM st) .none kV doc pm an cdv ct) ⟨[u0,u1],[]⟩=pure ([p0,p1].zip [u0,u1])):oU x st [p0,p1]:=λkV doc pm an cdv ct us hl=>match us,hl with
 | [u0,u1],_=>h kV doc pm an cdv ct u0 u1
theorem xW {x:Str} {st:Stmt} {p0 p1 p2:Str} (h:∀ (kV doc pm:Value) (an:Option Addr) (cdv ct:Value) (u0 u1 u2:Value),bindArgs (PySem.W.fnOf x x (jZ st) (gW st) (bM st) .none kV doc pm an cdv ct) ⟨[u0,u1,u2],[]⟩=pure ([p0,p1,p2].zip [u0,u1,u2])):oU x st [p0,p1,p2]:=λkV doc pm an cdv ct us hl=>match us,hl with
 | [u0,u1,u2],_=>h kV doc pm an cdv ct u0 u1 u2
theorem Gh {x:Str} {st:Stmt} {p0 p1 p2 p3:Str} (h:∀ (kV doc pm:Value) (an:Option Addr) (cdv ct:Value) (u0 u1 u2 u3:Value),bindArgs (PySem.W.fnOf x x (jZ st) (gW st) (bM st) .none kV doc pm an cdv ct) ⟨[u0,u1,u2,u3],[]⟩=pure ([p0,p1,p2,p3].zip [u0,u1,u2,u3])):oU x st [p0,p1,p2,p3]:=λkV doc pm an cdv ct us hl=>match us,hl with
 | [u0,u1,u2,u3],_=>h kV doc pm an cdv ct u0 u1 u2 u3
theorem Bj {x:Str} {st:Stmt} {p0 p1 p2 p3 p4:Str} (h:∀ (kV doc pm:Value) (an:Option Addr) (cdv ct:Value) (u0 u1 u2 u3 u4:Value),bindArgs (PySem.W.fnOf x x (jZ st) (gW st) (bM st) .none kV doc pm an cdv ct) ⟨[u0,u1,u2,u3,u4],[]⟩=pure ([p0,p1,p2,p3,p4].zip [u0,u1,u2,u3,u4])):oU x st [p0,p1,p2,p3,p4]:=λkV doc pm an cdv ct us hl=>match us,hl with
 | [u0,u1,u2,u3,u4],_=>h kV doc pm an cdv ct u0 u1 u2 u3 u4
def xV (K:PySem.W.Frag) (x:Str) (st:Stmt) (c:Addr):Prop:=∃ f fd,PySem.W.nsIn K mainGlobals x=some (some (.ref f))/\mJ K x x st f fd/\fd.code = .ref c
theorem zlY {blt:List Str} (KX:K.In h) (G:h.Ns mainGlobals mg) (hz:∀ y∈blt,PySem.W.nsIn K mainGlobals y=some none):∀ y∈blt,mg y=none:=λy hy=>PySem.W.mg_none_of KX G (hz y hy)
end
end MX
end
section
namespace MX
open PySem PySem.Spec PyProof.Rows L2
structure CE where
 flds:List (Str×Str):=[]
 mths:List (Str×Str×Nat×GN):=[]
 mks:List (Str×Nat×GN):=[]
 gls:List (Str×Str):=[]
def Bp (P:Program) (w:World) (K:PySem.W.Frag) (mg:Str->Option Value) (base:Heap) (k:Nat) (C m:Str) (n:Nat) (φ:GN):Prop :=
 ∃ f fd ps,jz K (cL K C)/\Meth K (cL K C) m f/\Binds K fd ps []/\cN P w K mg base gP k f fd ps (q8 K n φ)
def NZ (P:Program) (w:World) (K:PySem.W.Frag) (mg:Str->Option Value) (base:Heap) (k:Nat) (C:Str) (n:Nat) (φ:GN):Prop :=
 ∃ f fd ps j,j+1<=k/\mg C=some (.ref (cL K C))/\Mk K (cL K C) f/\Binds K fd ps []/\cN P w K mg base gP j f fd ps (q8 K n φ)
structure aQ (P:Program) (w:World) (K:PySem.W.Frag) (mg:Str->Option Value) (base:Heap) (k:Nat) (E:CE):Prop where
 flds:∀ f C,E.flds.lookup f=some C->jz K (cL K C)/\dI K (cL K C) f
 mths:∀ m C n φ,E.mths.lookup m=some (C,n,φ)->Bp P w K mg base k C m n φ
 mks:∀ C n φ,E.mks.lookup C=some (n,φ)->NZ P w K mg base k C n φ
 gls:∀ x y,E.gls.lookup x=some y->∃ t,mg x=some (.str y t)
section
variable {P:Program} {w:World} {K:PySem.W.Frag} {mg:Str->Option Value} {base h:Heap}
theorem aQ.mono {j k:Nat} {E:CE} (e:aQ P w K mg base j E) (hjk:j<=k):aQ P w K mg base k E:=⟨e.flds,λm C n φ q=>by
 obtain ⟨f,fd,ps,a,b,c,d⟩:=e.mths m C n φ q
 exact ⟨f,fd,ps,a,b,c,d.mono hjk⟩,λC n φ q=>by
 obtain ⟨f,fd,ps,i,hi,a,b,c,d⟩:=e.mks C n φ q
 exact ⟨f,fd,ps,i,Nat.le_trans hi hjk,a,b,c,d⟩,e.gls⟩
def oR (st:Stmt) (fns:List (Str×Nat×GN)) (blt:List Str) (E:CE):Ctx:={ mkC st fns blt with flds:=E.flds,mths:=E.mths,mks:=E.mks,gls:=E.gls }
theorem Jg {x qual:Str} {st:Stmt} {f:Addr} {fd:FuncData} {ps:List Str} {k m:Nat} {fns:List (Str×Nat×GN)} {blt:List Str} {E:CE} {fb:SF} {φ:GN}
 (F:mJ K x qual st f fd) (S:mR (gq (bM st).names) ps (bM st)) (hu:(bM st).names.all (λy=>decide ((bM st).names.lookup y.1=some y.2))=true)
 (nW:∀ y n ψ,fns.lookup y=some (n,ψ)->FnAt P w K mg base k y n ψ) (eZ:∀ y∈blt,mg y=none) (hE:aQ P w K mg base k E)
 (hb:jy m (oR st fns blt E) (gW st)=some fb)
 (hφ:∀ ds S₀ z S',WF S₀->ds.length=ps.length->φ ds S₀=some (z,S')->tO (fb (mW (gq (bM st).names) ds) S₀) z S₀ S') :
 cN P w K mg base gP (k+1) f fd ps (q8 K ps.length φ):=by
 refine F.ok S (λvs H Q E h=>h.1) (λcdv A outer s H vs Q E' hr h=>?_)
 obtain ⟨hlen,S₀,α,ds,z,S',hs,r,e,kk⟩:=h
 have ok:fG (oR st fns blt E) (oH gP P w K mg base (gq (bM st).names) qual (bM st) f cdv A outer s H E').nox:=by
  refine ⟨rfl,S.nd,rfl,S.kind,λy hy=>?_,λy n ψ q=>?_,eZ,rfl,hr.units,λ_ _ _ h=>(nomatch h),λ_ _ _ h=>(nomatch h),λ_ _ _ _ _ h=>(nomatch h),λ_ _ _ _ _ _ h=>(nomatch h),hE.gls,λg C q=>⟨(hE.flds g C q).1,(hE.flds g C q).2⟩,λy C n ψ q=>?_,λC n ψ q=>?_⟩
  ·rw [List.all_eq_true] at hu
   exact ⟨TQ (λz hz=>of_decide_eq_true (hu z hz)) hy,.inl rfl⟩
  ·obtain ⟨f',fd',ps',a,b,c,d⟩:=nW y n ψ q
   exact ⟨f',fd',ps',k,a,b,c,d,hr⟩
  ·obtain ⟨f',fd',ps',a,b,c,d⟩:=hE.mths y C n ψ q
   exact ⟨f',fd',ps',k,a,b,c,d,hr⟩
  ·obtain ⟨f',fd',ps',j,hj,a,b,c,d⟩:=hE.mks C n ψ q
   exact ⟨f',fd',ps',j,a,b,c,d,hr.mono hj⟩
 refine ⟨zR K fb,(Dr m _ _ ok PassesOwn.never).2 _ fb hb,?_⟩
 obtain ⟨fl,σ',fY,e1,e2,e3,e4,e5,e6⟩:=hφ ds S₀ z S' hs.wf (by rw [r.length];exact hlen) e
 refine ⟨_,S₀,α,fl,σ',fY,Jo r,hs,e1,λσ2 H2 α2 v2 s2 x2=>?_⟩
 have s3:au K H2 (α2.take S'.length) S':=by
  have:=s2.cut S'.length (by rw [<-e3];exact e6)
  rw [<-e3] at this;exact this
 have x3:Ext K H α H2 (α2.take S'.length):=⟨x2.tups,λn a q=>by
  have hn:n<S'.length:=by
   have:=(dN.mp q).1
   rw [hs.len] at this;omega
  rw [List.getElem?_take_of_lt hn];exact x2.pre n a q,x2.insts⟩
 rcases e2 with rfl | ⟨rfl,rfl⟩
 ·exact λv rv=>kk v H2 _ s3 x3 (rv.cut _ e5)
 ·exact kk .non H2 _ s3 x3 .non
def gh (K:PySem.W.Frag) (C m:Str) (st:Stmt):Prop:=∃ f fd,Meth K (cL K C) m f/\mJ K m (C ++ "." ++ m) st f fd
def Bv (C m:Str) (st:Stmt) (ps:List Str):Prop:=∀ (kV doc pm:Value) (an:Option Addr) (cdv ct:Value) (us:List Value),us.length=ps.length->bindArgs (PySem.W.fnOf m (C ++ "." ++ m) (jZ st) (gW st) (bM st) .none kV doc pm an cdv ct) ⟨us,[]⟩=pure (ps.zip us)
theorem cW {x:Str} {st:Stmt} {ps:List Str} {k m n:Nat} {fns:List (Str×Nat×GN)} {blt:List Str} {E:CE} {fb:SF} (hs:aA P w K mg base k fns) (hE:aQ P w K mg base k E) (KX:K.In h) (G:h.Ns mainGlobals mg) (eZ:∀ y∈blt,mg y=none)
 (hD:d8 K x st) (hb0:oU x st ps) (S:mR (gq (bM st).names) ps (bM st)) (hu:(bM st).names.all (λy=>decide ((bM st).names.lookup y.1=some y.2))=true)
 (hn:(gq (bM st).names).length=n) (hb:jy m (oR st fns blt E) (gW st)=some fb):aA P w K mg base (k+1) ((x,ps.length,fnOf n fb)::fns):=by
 obtain ⟨f,fd,a,F⟩:=hD
 exact hs.snoc ⟨f,fd,ps,PySem.W.mg_of KX G a,F.kp,F.binds hb0,Jg F S hu hs eZ hE hb λds S₀ z S' hw _ e=>DW hn hw e⟩
theorem Sv {C x:Str} {st:Stmt} {ps:List Str} {k m n:Nat} {fns:List (Str×Nat×GN)} {blt:List Str} {E:CE} {fb:SF} (hs:aA P w K mg base k fns) (hE:aQ P w K mg base k E) (hc:jz K (cL K C)) (eZ:∀ y∈blt,mg y=none)
 (hD:gh K C x st) (hb0:Bv C x st ps) (S:mR (gq (bM st).names) ps (bM st)) (hu:(bM st).names.all (λy=>decide ((bM st).names.lookup y.1=some y.2))=true)
 (hn:(gq (bM st).names).length=n) (hb:jy m (oR st fns blt E) (gW st)=some fb):aQ P w K mg base (k+1) { E with mths:=(x,C,ps.length,fnOf n fb)::E.mths }:=by
 obtain ⟨f,fd,a,F⟩:=hD
 have e2:=hE.mono (Nat.le_succ k)
 refine ⟨e2.flds,λy C' j ψ e=>?_,e2.mks,e2.gls⟩
 have e:((x,C,ps.length,fnOf n fb)::E.mths).lookup y=some (C',j,ψ):=e
 rw [iZ] at e
 split at e
 ·rename_i q
  cases e
  have:y=x:=by simpa using q
  subst this
  exact ⟨f,fd,ps,hc,a,F.binds hb0,Jg F S hu hs eZ hE hb λds S₀ z S' hw _ e=>DW hn hw e⟩
 ·exact e2.mths y C' j ψ e
theorem Ro {C:Str} {st:Stmt} {ps:List Str} {k m n:Nat} {fns:List (Str×Nat×GN)} {blt:List Str} {E:CE} {fb:SF} (hs:aA P w K mg base k fns) (hE:aQ P w K mg base k E) (eZ:∀ y∈blt,mg y=none) (hm:mg C=some (.ref (cL K C)))
 (hD:∃ f fd,Mk K (cL K C) f/\mJ K "__init__" (C ++ ".__init__") st f fd) (hb0:∀ (kV doc pm:Value) (an:Option Addr) (cdv ct:Value) (us:List Value),us.length=ps.length->bindArgs (PySem.W.fnOf "__init__" (C ++ ".__init__") (jZ st) (gW st) (bM st) .none kV doc pm an cdv ct) ⟨us,[]⟩=pure (ps.zip us))
 (S:mR (gq (bM st).names) ps (bM st)) (hu:(bM st).names.all (λy=>decide ((bM st).names.lookup y.1=some y.2))=true)
 (hn:(gq (bM st).names).length=n) (hb:jy m (oR st fns blt E) (gW st)=some fb):aQ P w K mg base (k+2) { E with mks:=(C,ps.length,fnOf n fb)::E.mks }:=by
 obtain ⟨f,fd,a,F⟩:=hD
 have e2:=hE.mono (Nat.le_add_right k 2)
 refine ⟨e2.flds,e2.mths,λy j ψ e=>?_,e2.gls⟩
 have e:((C,ps.length,fnOf n fb)::E.mks).lookup y=some (j,ψ):=e
 rw [iZ] at e
 split at e
 ·rename_i q
  cases e
  have:y=C:=by simpa using q
  subst this
  exact ⟨f,fd,ps,k+1,bR _,hm,a,F.binds hb0,Jg F S hu hs eZ hE hb λds S₀ z S' hw _ e=>DW hn hw e⟩
 ·exact e2.mks y j ψ e
theorem aA.mono {j k:Nat} {fns:List (Str×Nat×GN)} (hs:aA P w K mg base j fns) (h:j<=k):aA P w K mg base k fns:=λy n ψ e=>(hs y n ψ e).mono h
end
end MX
end
section
namespace MX
open PySem PySem.Spec PySem.W PyProof.Rows L2
def Ag (c:Ctx) (q:Str) (names:List (Str×NameKind)):Ctx:={ N:=q::vY names,names:=names,sts:=[],fns:=[],blt:=[],flds:=c.flds }
def Uv (m:Nat) (c:Ctx) (q0:Str) (e value:Expr):Option EF:=match value with
 | .Lambda params body scope _=>match Gw params with
  | none=>none
  | some (q,_)=>if q=q0/\Ah c q scope=true then (cE m c e).bind λfe=>(qu c (vY scope.names)).bind λsrc=>(cE m (Ag c q scope.names) body).map λfb=>xM fe src fb else none
 | _=>none
def LQ (m:Nat) (c:Ctx) (q0 x:Str) (es:List Expr) (ks:List Keyword):Option EF :=
 if x = "sorted" /\ c.names.lookup x=some .globalImplicit/\x∈c.blt then match es with
  | []=>none
  | e::r=>match r with
   | _::_=>none
   | []=>match ks with
    | []=>none
    | k::kr=>match kr with
     | _::_=>none
     | []=>if k.arg=some "key" /\ mU e=true then Uv m c q0 e k.value else none
 else none
section
variable {c:Ctx} {X:Cx}
theorem zk9 {m k:Nat} {q0 x:Str} {es:List Expr} {ks:List Keyword} {f:EF} {p pos:Pos} {Pt ct:Addr} (ok:fG c X) (L:BP X Pt ct) (hr:bG (k+3) X.A)
 (hbind:∀ (ap:Pos) (body:Expr) (scope:Scope) (pm cdv ctv:Value) (clos:List (Str×Addr)) (qual:Str) (u:Value),bindArgs (kla_fn "<lambda>" qual (ye q0 ap) body scope clos pm cdv ctv) ⟨[u],[]⟩=pure [(q0,u)])
 (h:LQ m c q0 x es ks=some f):SE X (.Call (.Name x p) es ks pos) f:=by
 unfold LQ at h
 split at h
 ·rename_i hc
  obtain ⟨rfl,h1,h2⟩:=hc
  cases es with
  | nil=>cases h
  | cons e r =>
   cases r with
   | cons _ _=>cases h
   | nil =>
    cases ks with
    | nil=>cases h
    | cons kw kr =>
     cases kr with
     | cons _ _=>cases h
     | nil =>
      simp only at h
      split at h
      ·rename_i hk
       obtain ⟨a,v,kp⟩:=kw
       obtain ⟨hk1,hk2⟩:=hk
       simp only at hk1
       subst hk1
       unfold Uv at h
       simp only at h
       cases v with
       | Lambda params body scope bQ =>
        simp only at h
        split at h
        ·cases h
        ·rename_i q' ap eo
         have eo:=ziO eo
         split at h
         ·rename_i hc
          obtain ⟨rfl,h3⟩:=hc
          simp only [bA,aU] at h
          obtain ⟨fe,e1,src,e2,fb,e3,rfl⟩:=h
          subst eo
          unfold Ah at h3
          simp only [cR,vW,Bool.not_eq_true',List.all_eq_true] at h3
          obtain ⟨⟨⟨⟨⟨⟨⟨k1,k2⟩,k3⟩,k4⟩,k5⟩,k6⟩,k7⟩,k8⟩:=h3
          obtain ⟨s1,s2⟩:=Qn e2
          refine Vw (q:=q') (cap:=vY scope.names) (k:=k) L ⟨k1,k2,k3,k4,k5⟩ k6 (λy hy=>Ye hy) (λy hy hf=>?_) (λi y hi=>?_) s1 (ZX _) (λpm cdv ctv clos qual u=>hbind ap body scope pm cdv ctv clos qual u) (λbase M a cdv clos qual A outer s H E hrm=>?_) hr ?_ (ok.blt _ h2) ((o5 m).1 c X e fe ok e1) (by rw [jh hk2];rfl)
          ·show X.env.scope.names.lookup y.1=_
           rw [ok.names];exact k7 y hy hf
          ·obtain ⟨j,j1,j2⟩:=s2 i y hi
           exact ⟨j,j1,by rw [ok.N];exact j2⟩
          ·exact (o5 m).1 (Ag c q' scope.names) _ body fb ⟨rfl,k8,rfl,k1,λy hy=>(nomatch hy),λ_ _ _ h=>(nomatch h),λy hy=>(nomatch hy),rfl,hrm.units,λ_ _ _ h=>(nomatch h),λ_ _ _ h=>(nomatch h),λ_ _ _ _ _ h=>(nomatch h),λ_ _ _ _ _ _ h=>(nomatch h),λ_ _ h=>(nomatch h),λg C q=>⟨(ok.flds g C q).cls,(ok.flds g C q).no⟩,λ_ _ _ _ h=>(nomatch h),λ_ _ _ h=>(nomatch h)⟩ e3
          ·show X.env.scope.names.lookup _=_
           rw [ok.names];exact h1
         ·cases h
       | _=>cases h
      ·cases h
 ·cases h
end
def O.isT (x:Str):O->Bool
 | .tbl y=>decide (y=x)
 | _=>false
def lB (x:Str) (S:So):Bool:=S.any (O.isT x)
theorem ZD {K:PySem.W.Frag} {H:Hp} {α:List Addr} {S:So} {x:Str} (hs:au K H α S) (h:lB x S=true):∃ ps,H (kj K x)=some (.tbl ps):=by
 unfold lB at h
 rw [List.any_eq_true] at h
 obtain ⟨o,ho,e⟩:=h
 obtain ⟨n,hn,rfl⟩:=List.mem_iff_getElem.mp ho
 have hn':n<α.length:=by rw [hs.len];exact hn
 have ob:=hs.obj n S[n] α[n] (dO hn) (dO hn')
 cases q:S[n] with
 | tbl y =>
  rw [q] at e ob
  have e:y=x:=of_decide_eq_true e
  subst e
  obtain ⟨h0,ps,h1⟩:=ob
  exact ⟨ps,by rw [<-h0];exact h1⟩
 | _=>rw [q] at e;cases e
def Ab (m:Nat) (st:Stmt) (fns:List (Str×Nat×GN)) (blt:List Str) (E:CE) (q0:Str):Ctx:={ oR st fns blt E with kwx:=LQ m (oR st fns blt E) q0 }
def ud (x:Str) (n:Nat) (fb:SF):GN:=λds S=>if lB x S=true then fnOf n fb ds S else none
section
variable {P:Program} {w:World} {K:PySem.W.Frag} {mg:Str->Option Value} {base h:Heap}
theorem Qv {qual:Str} {st:Stmt} {f:Addr} {ps:List Str} {k:Nat} {fns:List (Str×Nat×GN)} {blt:List Str} {E:CE} (S:mR (gq (bM st).names) ps (bM st)) (hu:(bM st).names.all (λy=>decide ((bM st).names.lookup y.1=some y.2))=true)
 (nW:∀ y n ψ,fns.lookup y=some (n,ψ)->FnAt P w K mg base k y n ψ) (eZ:∀ y∈blt,mg y=none) (hE:aQ P w K mg base k E) {cdv:Value} {A:Around} {outer:List Env} {s:Shared} {H:Hp} {E':XK} (hr:bG k (A.deeper (envOfC qual (bM st) s.heap.objs.size f cdv))) :
 fG (oR st fns blt E) (oH gP P w K mg base (gq (bM st).names) qual (bM st) f cdv A outer s H E').nox:=by
 refine ⟨rfl,S.nd,rfl,S.kind,λy hy=>?_,λy n ψ q=>?_,eZ,rfl,hr.units,λ_ _ _ h=>(nomatch h),λ_ _ _ h=>(nomatch h),λ_ _ _ _ _ h=>(nomatch h),λ_ _ _ _ _ _ h=>(nomatch h),hE.gls,λg C q=>⟨(hE.flds g C q).1,(hE.flds g C q).2⟩,λy C n ψ q=>?_,λC n ψ q=>?_⟩
 ·rw [List.all_eq_true] at hu
  exact ⟨TQ (λz hz=>of_decide_eq_true (hu z hz)) hy,.inl rfl⟩
 ·obtain ⟨f',fd',ps',a,b,c,d⟩:=nW y n ψ q
  exact ⟨f',fd',ps',k,a,b,c,d,hr⟩
 ·obtain ⟨f',fd',ps',a,b,c,d⟩:=hE.mths y C n ψ q
  exact ⟨f',fd',ps',k,a,b,c,d,hr⟩
 ·obtain ⟨f',fd',ps',j,hj,a,b,c,d⟩:=hE.mks C n ψ q
  exact ⟨f',fd',ps',j,a,b,c,d,hr.mono hj⟩
theorem wN {x q0:Str} {st:Stmt} {ps:List Str} {k m n:Nat} {fns:List (Str×Nat×GN)} {blt:List Str} {E:CE} {fb:SF} {c:Addr} (hs:aA P w K mg base k fns) (hE:aQ P w K mg base k E) (KX:K.In h) (G:h.Ns mainGlobals mg) (eZ:∀ y∈blt,mg y=none)
 (hD:xV K x st c) (hC:CodeHd base c (kj K x)) (hB:BM base mg) (hb0:oU x st ps) (S:mR (gq (bM st).names) ps (bM st)) (hu:(bM st).names.all (λy=>decide ((bM st).names.lookup y.1=some y.2))=true)
 (hbind:∀ (ap:Pos) (body:Expr) (scope:Scope) (pm cdv ctv:Value) (clos:List (Str×Addr)) (qual:Str) (u:Value),bindArgs (kla_fn "<lambda>" qual (ye q0 ap) body scope clos pm cdv ctv) ⟨[u],[]⟩=pure [(q0,u)])
 (hn:(gq (bM st).names).length=n) (hb:jy m (Ab m st fns blt E q0) (gW st)=some fb):aA P w K mg base (k+4) ((x,ps.length,ud x n fb)::fns):=by
 obtain ⟨f,fd,a,F,hcode⟩:=hD
 refine (hs.mono (Nat.le_add_right k 3)).snoc ⟨f,fd,ps,PySem.W.mg_of KX G a,F.kp,F.binds hb0,?_⟩
 obtain ⟨oc,od,kV,doc,pm,an,vB,ct,osl,rfl,lk,Av⟩:=F.ex
 refine Oq lk Av S (λvs H Q E h=>h.1) (λA outer s H vs Q E' hr h=>?_)
 obtain ⟨hlen,S₀,α,ds,z,S',hst,r,e,kk⟩:=h
 unfold ud at e
 split at e
 ·rename_i hT
  have ok0:=Qv (P:=P) (w:=w) (K:=K) (mg:=mg) (base:=base) (qual:=x) (f:=f) (E':=E') (outer:=outer) (H:=H) (cdv:=vB) S hu hs eZ hE (hr.mono (Nat.le_add_right k 3))
  have L:BP (oH gP P w K mg base (gq (bM st).names) x (bM st) f vB A outer s H E').nox (kj K x) c:=⟨λ_=>rfl,ZD hst hT,hcode,hC,hB⟩
  have ok:fG (Ab m st fns blt E q0) (oH gP P w K mg base (gq (bM st).names) x (bM st) f vB A outer s H E').nox :=
   ⟨ok0.N,ok0.nd,ok0.names,ok0.kind,ok0.st,ok0.fns,ok0.blt,ok0.calm,ok0.un,ok0.lf,λ_ _ _ h=>(nomatch h),ok0.ext,λy es ks g p pos q=>zk9 ok0 L hr hbind q,ok0.gls,ok0.flds,ok0.mths,ok0.mks⟩
  refine ⟨zR K fb,((Dr m _ _ ok PassesOwn.never).2 _ fb hb).nox,?_⟩
  obtain ⟨fl,σ',fY,e1,e2,e3,e4,e5,e6⟩:=DW hn hst.wf e
  refine ⟨_,S₀,α,fl,σ',fY,Jo r,hst,e1,λσ2 H2 α2 v2 s2 x2=>?_⟩
  have s3:au K H2 (α2.take S'.length) S':=by
   have:=s2.cut S'.length (by rw [<-e3];exact e6)
   rw [<-e3] at this;exact this
  have x3:Ext K H α H2 (α2.take S'.length):=⟨x2.tups,λn a q=>by
   have hn:n<S'.length:=by
    have:=(dN.mp q).1
    rw [hst.len] at this;omega
   rw [List.getElem?_take_of_lt hn];exact x2.pre n a q,x2.insts⟩
  rcases e2 with rfl | ⟨rfl,rfl⟩
  ·exact λv rv=>kk v H2 _ s3 x3 (rv.cut _ e5)
  ·exact kk .non H2 _ s3 x3 .non
 ·cases e
theorem zlM {x:Str} {st:Stmt} {ps:List Str} {k:Nat} {fns:List (Str×Nat×GN)} (hs:aA P w K mg base k fns) (KX:K.In h) (G:h.Ns mainGlobals mg) (hD:d8 K x st) (hb0:oU x st ps):aA P w K mg base k ((x,ps.length,λ_ _=>none)::fns):=by
 obtain ⟨f,fd,a,F⟩:=hD
 intro y n ψ e
 rw [iZ] at e
 split at e
 ·rename_i q
  cases e
  have:y=x:=by simpa using q
  subst this
  refine ⟨f,fd,ps,PySem.W.mg_of KX G a,F.kp,F.binds hb0,⟨λvs H Q E h=>?_,λA outer s H args us vs Q E _ _ _ _ h=>?_⟩⟩
  ·obtain ⟨_,S,α,ds,z,S',_,_,e,_⟩:=h;cases e
  ·obtain ⟨_,S,α,ds,z,S',_,_,e,_⟩:=h;cases e
 ·exact hs y n ψ e
theorem zj8 {x qual y:Str} {st:Stmt} {f:Addr} {fd:FuncData} {p:Str} {k m n:Nat} {fns:List (Str×Nat×GN)} {blt:List Str} {E:CE} {fb:SF} {Pt:Addr}
 (F:mJ K x qual st f fd) (S:mR (gq (bM st).names) [p] (bM st)) (hu:(bM st).names.all (λy=>decide ((bM st).names.lookup y.1=some y.2))=true)
 (nW:aA P w K mg base k fns) (eZ:∀ y∈blt,mg y=none) (hE:aQ P w K mg base k E) (hPt:Pt=kj K y)
 (hb:jy m (oR st fns blt E) (gW st)=some fb)
 (hφ:∀ ns:List Int,ns.length<=n->∃ σ' fY,fb (mW (gq (bM st).names) [.ref 0]) [.frz (ns.map D.int),.tbl y]=some (.rt (.bl true),σ',fY)) :
 cN P w K mg base gP (k+1) f fd [p] (yh K n Pt):=by
 refine F.ok S (λvs H Q E h=>?_) (λcdv A outer s H vs Q E' hr h=>?_)
 ·obtain ⟨_,a,ns,rfl,_⟩:=h;rfl
 obtain ⟨⟨ps,htab⟩,a,ns,rfl,hz,hl,kk⟩:=h
 refine ⟨zR K fb,(Dr m _ _ (Qv S hu nW eZ hE hr) PassesOwn.never).2 _ fb hb,?_⟩
 obtain ⟨σ',fY,e⟩:=hφ ns hl
 have hs:au K H [a,Pt] [.frz (ns.map D.int),.tbl y]:=by
  refine ⟨rfl,λi j o o' b h1 h2 w1 w2 _ _=>?_,λi o b h1 h2=>?_⟩
  ·rcases i with _ | _ | i
   ·cases h1;cases w1
   ·rcases j with _ | _ | j
    ·cases h2;cases w2
    ·rfl
    ·simp at h2
   ·simp at h1
  ·rcases i with _ | _ | i
   ·cases h1;cases h2;exact ⟨_,hz,Ru ns⟩
   ·cases h1;cases h2;exact ⟨hPt,ps,htab⟩
   ·simp at h1
 refine ⟨_,_,[a,Pt],_,σ',fY,Jo (K:=K) (α:=[a,Pt]) (.cons (.ref rfl) .nil),hs,e,λσ2 H2 α2 v2 s2 x2 v rv=>?_⟩
 cases rv
 exact kk H2
end
end MX
end
section
namespace MX
open PySem PySem.Spec PySem.W PyProof.Rows L2
section
variable {P:Program} {w:World} {K:PySem.W.Frag} {mg mb:Str->Option Value}
theorem zj9 {k:Nat} {fa a:Addr} {fd:FuncData} {x:Str} {s₁:Shared} {vs:List Value} {ns:List Int} {c Pt:Addr}
 (KX:K.In s₁.heap) (hns:s₁.heap.Ns mainGlobals mg) (hb:s₁.heap.Ns builtinsNs mb) (hbb:∀ x:Str,x ≠ "__name__" -> mb x=bootBuiltins x) (hlim:s₁.heap.NoLimit) (hg:s₁.gens=#[])
 (ha:s₁.heap.get? a=some { cls := .type "list",data := .seq vs.toArray }) (hi:IntsAre vs ns) (hl:ns.length<=63) (hr:bG k callerA)
 (hP:s₁.heap.get? Pt=some (tabObj #[])) (hKP:K.lookup Pt=none) (C:CodeHd s₁.heap c Pt) (hbm:BM s₁.heap mg)
 (F:∀ base:Heap,Mod K mg base->CodeHd base c Pt->BM base mg->cN P w K mg base gP k fa fd [x] (yh K 63 Pt)) (hbind:∀ (s:Shared) (u:Value),BindsTo s fd ⟨[u],[]⟩ [(x,u)]) :
 codeAny (model P w) callerA (.call (.ref fa) ⟨[.ref a],[]⟩) (λr s'=>r = .ok (.ret (.bool true))/\OldK s₁.heap s'.heap/\s'.os=s₁.os/\AllBare s'.gens) s₁:=by
 have rv:=RK hi
 have lenV:=hi.length
 have hPa:Pt≠a:=λz=>by rw [z,ha] at hP;cases hP
 have hl':ns.length<=sizeLine:=Nat.le_trans hl (by rw [sizeLine_eq];decide)
 have core:∀ H:Hp,qQ K H a (ns.map V.int)->fP P w H s₁.heap->H Pt=some (.tbl #[])->(∀ b,b≠Pt->H b=none\/(b=a/\K.lookup a=none/\∃ o xs,H b=some (.frz o (.lst xs)))) ->
  codeAny (model P w) callerA (.call (.ref fa) ⟨[.ref a],[]⟩) (λr s'=>r = .ok (.ret (.bool true))/\OldK s₁.heap s'.heap/\s'.os=s₁.os/\AllBare s'.gens) s₁:=by
  intro H hS hok hT hO
  have gC:∀ {b:Addr} {o:Obj},s₁.heap.get? b=some o->H b=none->(mK s₁.heap H).get? b=some o:=λe n=>zlI e n
  have none_of:∀ {b:Addr} {o:Obj},s₁.heap.get? b=some o->o≠tabObj #[]->o≠{ cls := .type "list",data := .seq vs.toArray }->H b=none:=λ{b o} e n1 n2=>by
   by_cases hb:b=Pt
   ·subst hb;rw [hP] at e;cases e;exact absurd rfl n1
   ·rcases hO b hb with z | ⟨z,_⟩
    ·exact z
    ·subst z;rw [ha] at e;cases e;exact absurd rfl n2
  have qC:∀ {b:Addr} {o:Obj} {es:Array DictEntry} {ep:Nat},s₁.heap.get? b=some o->o.data = .dict es ep->H b=none:=λ{b o es ep} e d =>
   none_of e (λz=>by rw [z] at d;cases d) (λz=>by rw [z] at d;cases d)
  have Mz:∀ {b:Addr} {m:Str->Option Value},s₁.heap.Ns b m->(mK s₁.heap H).Ns b m:=λ{b m} ⟨o,es,ep,e,d,r⟩=>⟨o,es,ep,gC e (qC e d),d,r⟩
  have hKb:K.In (mK s₁.heap H):=λb o e=>gC (KX b o e) (by
   by_cases hb:b=Pt
   ·subst hb;rw [hKP] at e;cases e
   ·rcases hO b hb with z | ⟨z,z2,_⟩
    ·exact z
    ·subst z;rw [z2] at e;cases e)
  have hM:Mod K mg (mK s₁.heap H):=⟨hKb,Mz hns,⟨mb,Mz hb,hbb⟩,let ⟨mc,h1,h2⟩:=hlim;⟨mc,Mz h1,h2⟩⟩
  have e0:iY P w K mg (mK s₁.heap H) callerA [] s₁ H:=⟨rfl,hM,λb o e=>ZV e,Nat.le_of_eq (zki _ _),trivial,λb hb=>absurd (show b∈([]:List Addr) from hb) (by simp),hok,.of_eq hg⟩
  have hC:CodeHd (mK s₁.heap H) c Pt:=by
   obtain ⟨o,vs',file,tf,flags,tg,inF,text,tt,e,hc1,hc2,r⟩:=C
   exact ⟨o,vs',file,tf,flags,tg,inF,text,tt,gC e (none_of e (λz=>by rw [z] at hc1;cases hc1) (λz=>by rw [z] at hc1;exact absurd (Value.type.inj hc1) (by decide))),hc1,hc2,r⟩
  have hB:BM (mK s₁.heap H) mg:=by
   obtain ⟨bm,o,h1,h2,h3,h4,h5,h6⟩:=hbm
   exact ⟨bm,o,h1,h2,gC h3 (none_of h3 (λz=>by rw [z] at h4;cases h4) (λz=>by rw [z] at h4;exact absurd (Value.type.inj h4) (by decide))),h4,h5,h6⟩
  have hsp:yh K 63 Pt [.ref a] H (λv _=>v = .bl true) λ_ _ _=>False:=⟨⟨_,hT⟩,a,ns,rfl,hS,hl,λ_=>rfl⟩
  refine codeAny_mono ((F _ hM hC hB).run callerA [] s₁ H ⟨[.ref a],[]⟩ [.ref a] [.ref a] _ _ hr e0 (hbind s₁ (.ref a)) (.cons rfl .nil) hsp) λr s' h=>?_
  cases r with
  | error e=>exact h.elim
  | ok fl =>
   cases fl with
   | next=>exact False.elim h
   | brk=>exact False.elim h
   | cont=>exact False.elim h
   | ret u =>
    obtain ⟨v,H',os,bare,un,hok',r',q⟩:=h
    have q':v = .bl true:=q
    subst q'
    obtain rfl:u=Value.bool true:=r'
    have kept:∀ b o,b≠Pt->s₁.heap.get? b=some o->s'.heap.get? b=some o:=λb o hb e=>by
     rcases hO b hb with z | ⟨_,_,ob,xs,z⟩
     ·exact un.keep b o e z (by intro z;exact absurd (show b∈([]:List Addr) from z) (by simp)) (by simp)
     ·have z2:=un.frzs b ob _ z
      obtain ⟨e1,_⟩:=hok b _ z
      obtain ⟨e2,_⟩:=hok' b _ z2
      rw [e] at e1;cases e1
      exact e2
    obtain ⟨more,hm⟩:=un.tbls Pt _ hT
    obtain ⟨em,_⟩:=hok' Pt _ hm
    refine ⟨rfl,⟨λb o e=>?_,λb o e=>?_⟩,os,bare⟩
    ·by_cases hb:b=Pt
     ·subst hb
      rw [hP] at e;cases e
      exact .inr (.inl ⟨(C.tab hP).isCodeTable,rfl,#[],more,rfl,em⟩)
     ·exact .inl (kept b o hb e)
    ·by_cases hb:b=Pt
     ·subst hb;exact ⟨_,em⟩
     ·exact ⟨o,kept b o hb e⟩
 have rZ:∀ H:Hp,bO P w H s₁.heap Pt (.tbl #[]):=λH=>⟨hP,trivial,λpos cv q=>by simp [codeAmong] at q⟩
 cases hk:K.lookup a with
 | some o =>
  have e:=KX a o hk
  rw [ha] at e
  cases e
  refine core (λb=>if b=Pt then some (.tbl #[]) else none) (.inr ⟨_,vs.toArray,_,hk,rfl,rfl,rfl,by rw [dH,lenV];exact hl',by simpa using rv⟩) (λb u z=>?_) (if_pos rfl) (λb hb => .inl (if_neg hb))
  by_cases hb:b=Pt
  ·have z':=(if_pos hb).symm.trans z
   cases z';subst hb
   exact rZ _
  ·have z':=(if_neg hb).symm.trans z
   cases z'
 | none =>
  refine core (λb=>if b=Pt then some (.tbl #[]) else if b=a then some (.frz { cls := .type "list",data := .seq vs.toArray } (.lst (ns.map V.int))) else none) (.inl ⟨{ cls := .type "list",data := .seq vs.toArray },(if_neg (Ne.symm hPa)).trans (if_pos rfl)⟩) (λb u z=>?_) (if_pos rfl) (λb hb=>?_)
  ·by_cases hb:b=Pt
   ·have z':=(if_pos hb).symm.trans z
    cases z';subst hb
    exact rZ _
   ·have z1:=(if_neg hb).symm.trans z
    by_cases hba:b=a
    ·have z':=(if_pos hba).symm.trans z1
     cases z'
     subst hba
     exact ⟨ha,by rw [cQ];exact hl',vs,_,rv,ha⟩
    ·have z':=(if_neg hba).symm.trans z1
     cases z'
  ·by_cases hba:b=a
   ·exact .inr ⟨hba,hk,_,_,(if_neg hb).trans (if_pos hba)⟩
   ·exact .inl ((if_neg hb).trans (if_neg hba))
end
end MX
end
section
namespace MX
open PySem PySem.Spec PySem.W PyProof.Rows L2
theorem Ua:∀ (os:List Obj) (b a:Nat) (o:Obj),(pU os b).lookup a=some o->b<=a/\os[a - b]?=some o/\pP a o=true
 | [],_,_,_,e=>by cases e
 | o'::r,b,a,o,e=>by
  have low:(pU r (Nat.succ b)).lookup a=some o->b<=a/\(o'::r)[a - b]?=some o/\pP a o=true:=λe=>by
   obtain ⟨h1,h2,h3⟩:=Ua r (Nat.succ b) a o e
   refine ⟨by omega,?_,h3⟩
   have:a - b=(a - Nat.succ b)+1:=by omega
   rw [this,List.getElem?_cons_succ]
   exact h2
  unfold pU at e
  cases q:pP b o' with
  | false=>rw [q] at e;exact low e
  | true =>
   rw [q] at e
   simp only [cond_true,iZ] at e
   cases z:a==b with
   | false=>rw [z] at e;exact low e
   | true =>
    rw [z] at e
    cases e
    have z':a=b:=by simpa using z
    subst z'
    exact ⟨bR _,by rw [Nat.sub_self];rfl,q⟩
theorem zkk (h:Heap):(gj h).In h:=λa o e=>by
 obtain ⟨_,h2,h3⟩:=Ua _ _ _ _ e
 rw [Nat.sub_zero,Array.getElem?_toList] at h2
 unfold Heap.get?
 rw [h2]
 obtain ⟨c,d,dt,sl⟩:=o
 cases dt<;>first | rfl | (exact absurd h3 (by intro z;cases z))
theorem GP (s:Stmt):dA s=jZ s:=by cases s<;>rfl
theorem GQ (s:Stmt):dB s=gW s:=by cases s<;>rfl
theorem GR (s:Stmt):dS s=bM s:=by cases s<;>rfl
theorem d8.of_seen {K:PySem.W.Frag} {x:Str} {st:Stmt} (h:wB K x=some (dA st,dB st,dS st,true)):d8 K x st:=by
 rw [GP,GQ,GR] at h
 unfold wB at h
 split at h
 ·rename_i f a
  split at h
  ·rename_i oc od n q ps b sc g kV doc pm an cd ct bn osl l
   simp only [Option.some.injEq,Prod.mk.injEq,cR,beq_iff_eq] at h
   obtain ⟨e1,e2,e3,e4,e5,e6,e7,e8,e9⟩:=h
   have e6:=Nat.eq_of_beq_eq_true e6
   have e7:=Nat.eq_of_beq_eq_true e7
   subst e1 e2 e3 e4 e5 e6 e7
   exact d8.mk' a l e8 e9
  ·cases h
 ·cases h
theorem zhi {K:PySem.W.Frag} {h:Heap} {x:Str} {st:Stmt} (D:d8 K x st) (e:yj K h x=(some (tabObj #[]),true)) :
 ∃ c Pt:Addr,xV K x st c/\codeHdIn K c Pt=true/\K.lookup Pt=none/\h.get? Pt=some (tabObj #[]):=by
 obtain ⟨f,fd,a,F⟩:=D
 unfold yj at e
 rw [a] at e
 simp only at e
 split at e
 ·rename_i oc od F' osl l
  split at e
  ·rename_i c hc
   split at e
   ·rename_i c1 d1 vs s1 lc
    split at e
    ·rename_i Pt hv
     simp only [Prod.mk.injEq,cR] at e
     obtain ⟨e1,e2,e3⟩:=e
     refine ⟨c,Pt,⟨f,fd,a,F,?_⟩,e2,?_,e1⟩
     ·obtain ⟨oc',od',kV,doc,pm,an,cdv,ct,osl',hfd,hl,_⟩:=F.ex
      rw [l] at hl
      cases hl
      exact hc
     ·cases q:K.lookup Pt with
      | none=>rfl
      | some o=>rw [q] at e3;cases e3
    ·cases e
   ·cases e
  ·cases e
 ·cases e
end MX
end
section
namespace MX
open PySem PySem.Spec PySem.W PyProof.Rows L2
theorem T4:∀ (os:List Obj) (b a:Nat) (o:Obj),b<=a->os[a - b]?=some o->pP a o=true->(pU os b).lookup a=some o
 | [],_,_,_,_,e,_=>by simp at e
 | o'::r,b,a,o,hb,e,hk=>by
  unfold pU
  by_cases hab:a=b
  ·subst hab
   rw [Nat.sub_self] at e
   have:o'=o:=by simpa using e
   subst this
   rw [hk]
   simp [List.lookup]
  ·have e':(pU r (Nat.succ b)).lookup a=some o:=by
    refine T4 r (Nat.succ b) a o (by omega) ?_ hk
    have:a - b=(a - Nat.succ b)+1:=by omega
    rw [this,List.getElem?_cons_succ] at e
    exact e
   cases pP b o' with
   | false=>exact e'
   | true =>
    simp only [cond_true,iZ]
    have:(a==b)=false:=by simpa using hab
    rw [this];exact e'
theorem Tw {h:Heap} {a:Addr} {o:Obj} (e:h.objs.toList[a]?=some o) (hk:pP a o=true):(gj h).lookup a=some o:=T4 _ 0 a o (Nat.zero_le _) (by rw [Nat.sub_zero];exact e) hk
theorem zlT {h:Heap} {cd:Value} {x:Str} (e:Gk h.objs.toList cd x=true):codeIn (gj h) cd x=true:=by
 unfold Gk at e
 split at e
 ·rename_i c
  split at e
  ·rename_i o ho
   obtain ⟨oc,od,dt,sl⟩:=o
   simp only at e
   split at e
   ·rename_i vs
    split at e
    ·cases e
    ·rename_i hc
     have l:(gj h).lookup c=some ⟨oc,od,.fields vs,sl⟩:=Tw ho (by
      unfold pP
      cases oc<;>first | rfl | exact absurd rfl hc)
     show (match (gj h).lookup c with | some ⟨_,_,.fields vs,_⟩=>(match vs.toList with | _ :: .str n _::_=>n==x | _=>false) | _=>false)=true
     rw [l]
     exact e
   ·cases e
  ·cases e
 ·cases e
theorem d8.of_seenH {h:Heap} {x:Str} {st:Stmt} (e:GD (gj h) h.objs.toList x=some (dA st,dB st,dS st,true)):d8 (gj h) x st:=by
 rw [GP,GQ,GR] at e
 unfold GD at e
 split at e
 ·rename_i f a
  split at e
  ·rename_i o ho
   obtain ⟨oc,od,dt,osl⟩:=o
   simp only at e
   split at e
   ·rename_i n q ps b sc g kV doc pm an cd ct bn
    split at e
    ·cases e
    ·rename_i hc
     simp only [Option.some.injEq,Prod.mk.injEq,cR,beq_iff_eq] at e
     obtain ⟨e1,e2,e3,e4,e5,e6,e7,e8⟩:=e
     have e6:=Nat.eq_of_beq_eq_true e6
     have e7:=Nat.eq_of_beq_eq_true e7
     subst e1 e2 e3 e4 e5 e6 e7
     have l:=Tw ho (by
      unfold pP
      cases oc<;>first | rfl | exact absurd rfl hc)
     exact d8.mk' a l (zlT e8) (by
      show (match (gj h).lookup f with | some ⟨_,_,.func _,_⟩=>true | some ⟨_,_,.cls _,_⟩=>specialIn (gj h) (.ref f) "__call__" == some (some (.builtin "type.__call__")) | _=>false)=true
      rw [l])
   ·cases e
  ·cases e
 ·cases e
theorem gh.of_seen {K:PySem.W.Frag} {C m:Str} {st:Stmt} (h:Cm K C m=some (dA st,dB st,dS st,true)):gh K C m st:=by
 rw [GP,GQ,GR] at h
 unfold Cm at h
 split at h
 ·rename_i f a
  split at h
  ·rename_i oc od n q ps b sc g kV doc pm an cd ct bn osl l
   simp only [Option.some.injEq,Prod.mk.injEq,cR,beq_iff_eq] at h
   obtain ⟨e1,e2,e3,e4,e5,e6,e7,e8,e9,e10⟩:=h
   have e6:=Nat.eq_of_beq_eq_true e6
   have e7:=Nat.eq_of_beq_eq_true e7
   subst e1 e2 e3 e4 e5 e6 e7
   exact ⟨f,_,⟨a,e10,e9⟩,O5 l e8 e9⟩
  ·cases h
 ·cases h
theorem zkW {K:PySem.W.Frag} {x:Str} {st:Stmt} {c Pt:Addr} (D:xV K x st c) (e:codeHdIn K c Pt=true):Pt=kj K x:=by
 obtain ⟨f,fd,a,F,hc⟩:=D
 obtain ⟨oc,od,kV,doc,pm,an,cdv,ct,osl,rfl,l,_⟩:=F.ex
 have hc':cdv = .ref c:=hc
 subst hc'
 unfold kj
 rw [a]
 simp only [l]
 unfold codeHdIn at e
 split at e
 ·rename_i od2 vs osl2 hk
  simp only [cR] at e
  obtain ⟨⟨⟨⟨⟨e1,e2⟩,e3⟩,e4⟩,e5⟩,e6⟩:=e
  split at e1
  ·rename_i P' h11
   have hP:P'=Pt:=beq_iff_eq.mp e1
   subst hP
   show P'=match K.lookup c with | some ⟨_,_,.fields vs,_⟩=>(match (vs[11]?:Option Value) with | some (.ref P)=>P | _=>0) | _=>0
   rw [hk]
   simp only [h11]
  ·cases e1
 ·cases e
def zsn (xb:PySem.W.Frag->Bool) (ms:List (Str×Str×Stmt)) (ds:List (Str×Stmt)) (blt:List Str) (x:Str) (st:Stmt):Hook where
 α:=((List (Option (Arguments×List Stmt×Scope×Bool))×List (Option (Option Value)))×Option (Arguments×List Stmt×Scope×Bool)×(Option Obj×Bool))×(List (Option (Arguments×List Stmt×Scope×Bool))×Bool)
 obs:=lQ xb ms ds blt x
 val:=λ_=>nA ms ds blt st
 says:=λ_ h=>∃ K:PySem.W.Frag,K.In h/\(((∀ y∈ds,d8 K y.1 y.2)/\∀ y∈blt,nsIn K mainGlobals y=some none)/\(∀ y∈ms,gh K y.1 y.2.1 y.2.2)/\xb K=true)/\∃ c Pt:Addr,xV K x st c/\codeHdIn K c Pt=true/\K.lookup Pt=none/\h.get? Pt=some (tabObj #[])
 of:=λ_ s e0=>let e:=(Prod.mk.inj e0).1;⟨gj s.heap,zkk _,⟨⟨λy hy=>d8.of_seenH (List.map_inj_left.mp (Prod.mk.inj (Prod.mk.inj e).1).1 y hy),List.map_inj_left.mp (Prod.mk.inj (Prod.mk.inj e).1).2⟩,
  λy hy=>gh.of_seen (List.map_inj_left.mp (Prod.mk.inj (Prod.mk.inj e0).2).1 y hy),(Prod.mk.inj (Prod.mk.inj e0).2).2⟩,
  zhi (d8.of_seen (Prod.mk.inj (Prod.mk.inj e).2).1) (Prod.mk.inj (Prod.mk.inj e).2).2⟩
 keeps:=λ_ _ _ ⟨K,a,b,c,Pt,z1,z2,z3,z4⟩ k=>⟨K,a.keeps k,b,c,Pt,z1,z2,z3,k _ _ z4⟩
theorem zja {xb:PySem.W.Frag->Bool} {ms:List (Str×Str×Stmt)} {l:PySem.W.OpenLaw} {q:Program} {loose:List Str} {XP:(Str->Option Value)->Heap->Prop} {d:DefRec} {x y:Str} {k:Nat} {ds:List (Str×Stmt)} {blt:List Str} {st:Stmt} (hn:l.most=some 63) (hdf:d.params.defaults=[]) (hr:bG k callerA)
 (F:∀ (w:World) (mg:Str->Option Value) (fa:Addr) (h:Heap) (K:PySem.W.Frag) (c:Addr),K.In h->h.Ns mainGlobals mg->mg d.name=some (.ref fa)->(∀ y∈ds,d8 K y.1 y.2)->(∀ y∈blt,nsIn K mainGlobals y=some none)->(∀ y∈ms,gh K y.1 y.2.1 y.2.2)->xb K=true->xV K y st c ->
  (∀ h:Heap,K.In h->CodeHd h c (kj K y)) ->
  ∃ (fd:FuncData),(∀ (s:Shared) (u:Value),BindsTo s fd ⟨[u],[]⟩ [(x,u)])/\∀ base:Heap,Mod K mg base->CodeHd base c (kj K y)->BM base mg->cN l.prog w K mg base gP k fa fd [x] (yh K 63 (kj K y))) :
 PySem.W.WalkO q loose XP (zsn xb ms ds blt y st).says l.row.toRowW d [] (λf vs=>PySem.call f vs):=by
 refine Vm.zhD hn hdf λw s₀ s₁ mg mb fa o pm cd doc a vs ns G Y ho hd hcd hmg hobj hints hlen hg=>?_
 obtain ⟨K,KX,⟨⟨hD,hB⟩,hM,hX⟩,c0,Pt,z1,z2,z3,z4⟩:=Y
 have ePt:=zkW z1 z2
 subst ePt
 have hC:∀ h:Heap,K.In h->CodeHd h c0 (kj K y):=λh X=>codeHd_of_K X z2
 obtain ⟨fd,hb,hF⟩:=F w mg fa _ K c0 KX G.T.g hmg hD hB hM hX z1 hC
 have hbm:BM s₁.heap mg:=by
  obtain ⟨bm,ob,b1,b2,b3,b4,b5,b6⟩:=G.T.bmain
  exact ⟨bm,ob,b1,b2,b3,b4,b5,b6⟩
 exact zj9 KX G.T.g G.T.b G.T.builtins G.T.nolimit hg hobj hints hlen hr z4 z3 (hC _ KX) hbm hF hb
section
variable {P:Program} {w:World} {K:PySem.W.Frag} {mg:Str->Option Value} {base h:Heap} {C:Str} {fs:List Str}
theorem wQ (e:qU K C fs=true):jz K (cL K C)/\makesIn K (cL K C)=true/\keepIn K (.ref (cL K C))=true/\nsIn K mainGlobals C=some (some (.ref (cL K C)))/\∀ f∈fs,dI K (cL K C) f:=by
 unfold qU at e
 simp only [cR,beq_iff_eq,List.all_eq_true] at e
 obtain ⟨⟨a,b,c,d⟩,⟨x,y,z⟩,f⟩:=e
 exact ⟨⟨a,b,c,d⟩,x,y,z,f⟩
theorem QM (e:qU K C fs=true):jz K (cL K C):=(wQ e).1
theorem Qe (KX:K.In h) (G:h.Ns mainGlobals mg) (e:qU K C fs=true):mg C=some (.ref (cL K C)):=mg_of KX G (wQ e).2.2.2.1
theorem Oj {st:Stmt} (M:gh K C "__init__" st) (e:qU K C fs=true) (hq:C ++ "." ++ "__init__" = C ++ ".__init__"):∃ f fd,Mk K (cL K C) f/\mJ K "__init__" (C ++ ".__init__") st f fd:=by
 obtain ⟨f,fd,m,F⟩:=M
 rw [hq] at F
 exact ⟨f,fd,⟨(wQ e).2.1,m.at_,m.fn,(wQ e).2.2.1⟩,F⟩
theorem zmB {x y:Str} (KX:K.In h) (G:h.Ns mainGlobals mg) (e:qt K x y=true):∃ t,mg x=some (.str y t):=by
 unfold qt at e
 split at e
 ·rename_i z t q
  have:z=y:=by simpa using e
  subst this
  exact ⟨t,mg_of KX G q⟩
 ·cases e
theorem VL {fl:List (Str×Str)} {gl:List (Str×Str)} (KX:K.In h) (G:h.Ns mainGlobals mg) (hf:∀ y∈fl,∃ fs,qU K y.2 fs=true/\y.1∈fs) (hg:∀ y∈gl,qt K y.1 y.2=true):aQ P w K mg base 0 { flds:=fl,gls:=gl } :=
 ⟨λf C e=>by
  obtain ⟨fs,h1,h2⟩:=hf _ (gD e)
  exact ⟨(wQ h1).1,(wQ h1).2.2.2.2 _ h2⟩,λ_ _ _ _ h=>(nomatch h),λ_ _ _ h=>(nomatch h),λx y e=>zmB KX G (hg _ (gD e))⟩
theorem zka {x p y:Str} {st:Stmt} {k m n:Nat} {fns:List (Str×Nat×GN)} {blt:List Str} {E:CE} {fb:SF} {fa c:Addr} (KX:K.In h) (G:h.Ns mainGlobals mg) (eZ:∀ y∈blt,mg y=none) (hfa:mg x=some (.ref fa))
 (hD:d8 K x st) (hb0:oU x st [p]) (S:mR (gq (bM st).names) [p] (bM st)) (hu:(bM st).names.all (λy=>decide ((bM st).names.lookup y.1=some y.2))=true)
 (hn:(gq (bM st).names).length=n) (hb:jy m (oR st fns blt E) (gW st)=some fb)
 (hs:∀ base:Heap,Mod K mg base->CodeHd base c (kj K y)->BM base mg->aA P w K mg base k fns/\aQ P w K mg base k E)
 (hφ:∀ ns:List Int,ns.length<=63->∃ σ' fY,fb (lM n [.ref 0]) [.frz (ns.map D.int),.tbl y]=some (.rt (.bl true),σ',fY)) :
 ∃ fd:FuncData,(∀ (s:Shared) (v:Value),BindsTo s fd ⟨[v],[]⟩ [(p,v)])/\∀ base:Heap,Mod K mg base->CodeHd base c (kj K y)->BM base mg->cN P w K mg base gP (k+1) fa fd [p] (yh K 63 (kj K y)):=by
 obtain ⟨f,fd,a,F⟩:=hD
 have e:=hfa.symm.trans (PySem.W.mg_of KX G a)
 cases e
 refine ⟨fd,λs v=>?_,λbase hM hC hB=>zj8 F S hu (hs base hM hC hB).1 eZ (hs base hM hC hB).2 rfl hb λns hl=>?_⟩
 ·obtain ⟨oc,od,kV,doc,pm,an,cdv,ct,osl,rfl,lk,hcd⟩:=F.ex
  exact .of_eq (hb0 kV doc pm an cdv ct [v] rfl)
 ·have e0:mW (gq (bM st).names) [D.ref 0]=lM n [D.ref 0]:=by unfold mW lM;rw [hn]
  rw [e0]
  exact hφ ns hl
end
theorem zlJ {l:PySem.W.OpenLaw} {q:Program} {loose:List Str} {d:DefRec} {H:Hook} {N:Nat} (zL:l.wellSaid=true)
 (left:LeftO l.prog q loose (λ_=>true) H.obs H.val N) (hdef:defOf q l.name=some (d,[])) (hp:l.prog.theDef l.name=some (d.params,d.body,d.scope))
 (hk:kwWritten? d.params.kwonlyargs d.params.kw_defaults=some []) (ok:(chainsOk q&&opensWell l.prog&&(frees l.row.toRowW&&l.row.within.isEmpty))=true) (hb:l.prog.bare) (hw:l.row.toRowW.promised)
 (call:PySem.W.WalkO q loose (λ_ _=>True) H.says l.row.toRowW d [] λf vs=>PySem.call f vs):l.Holds:=by
 refine holds_law zL λsaid=>?_
 refine holds_open (r:=l.row) (Xt:=λ_=>true) (XP:=λ_ _=>True) left H.of H.keeps ?_ ?_ hdef hp hk ?_ ?_ said ok hb hw call
 ·exact λ_ _=>trivial
 ·exact λ_ _ _ _ _=>trivial
 ·exact λs _=>recFacts_of (R:=[]) rfl
 ·show (!l.row.writes||true)=true
  exact Bool.or_true _
end MX
end
section
namespace MX.P
open PySem L2 MX
def Jw:SF:=aB (bH (cX (dz (aj 0)) (aG 0) (cF) (eB aM (aj 0) (aj 1)) [none,some 1])) (aP)
def Ef:GN:=fnOf 2 Jw
def zdt:SF:=aB (aX (cX (gn (ak (eC (.int 3)) (aq))) (aG 0) (cF) (eN pO (ak (eN (aO 2 Ef) (ak (aj 1) (ak (aj 0) (aq)))) (aq))) [none,some 0]) (aG 1)) (aB (aX (cX (gn (ak (eC (.int 3)) (aq))) (aG 0) (cF) (eN j9 (ak (eN (aO 2 Ef) (ak (aj 1) (ak (aj 0) (aq)))) (aq))) [none,some 0]) (aG 2)) (aB (bH (eN cu (ak (eN lZ (ak (aj 1) (aq))) (ak (eN lZ (ak (aj 2) (aq))) (aq))))) (aP)))
def wZ:GN:=fnOf 3 zdt
def Ke:SF:=aB (bH (eN oK (ak (cX (pL (ak (aj 0) (ak (aj 1) (aq)))) (jw 2 (dR (aG 0) (dR (aG 1) (jO)))) (cF) (eB (bf .LtE) (aj 0) (aj 1)) [none,none]) (aq)))) (aP)
def JR:GN:=fnOf 2 Ke
def DK:SF:=aB (dg (bN (eB (bf .Eq) (jJ (aj 0) (kh) (jE (eC (.int 1)))) (eN cu (ak (eC (.str "box")) (aq))))) (aB (bH (oJ (eB (bf .Eq) (eN gm (ak (aj 0) (aq))) (eC (.int 3))) (eN (aO 2 JR) (ak (eB aM (aj 0) (eC (.int 1))) (ak (eB aM (aj 0) (eC (.int 2))) (aq)))))) (aP)) (aP)) (aB (bH (oJ (eB (bf .Eq) (jJ (aj 0) (kh) (jE (eC (.int 1)))) (eN cu (ak (eC (.str "triangle")) (aq)))) (eB (bf .Eq) (eN gm (ak (aj 0) (aq))) (eC (.int 4))))) (aP))
def xg:GN:=fnOf 1 DK
def K8:SF:=aB (dg (pR (jc (eN (aO 1 xg) (ak (aj 0) (aq))))) (aB (Cg) (aP)) (aP)) (aP)
def Ky:GN:=fnOf 1 K8
def Ig:SF:=aB (mX (eN (aO 1 Ky) (ak (aj 0) (aq)))) (aB (bH (eN (aO 1 wZ) (ak (eN lF (ak (jJ (aj 0) (jE (eC (.int 1))) (kh)) (aq))) (aq)))) (aP))
def uq:GN:=fnOf 1 Ig
def En:SF:=aB (dg (bN (eB (bf .Eq) (aj 0) (eN jM (aq)))) (aB (bH (eB (aH .Mult) (aj 1) (eC (.int 7919)))) (aP)) (aP)) (aB (bH (eB (aH .Add) (eB aM (aj 0) (eB (aH .Mod) (aj 1) (eN gm (ak (aj 0) (aq))))) (eB (aH .Mult) (eB (aH .FloorDiv) (aj 1) (eN gm (ak (aj 0) (aq)))) (eC (.int 104729))))) (aP))
def nq:GN:=fnOf 2 En
def Ea:SF:=aB (aX (eB (aH .Mod) (eB (aH .Add) (eB (aH .Mult) (aj 0) (eC (.int 6364136223846793005))) (eB (aH .Mult) (eB (aH .Add) (aj 1) (eC (.int 1))) (eC (.int 1442695040888963407)))) (eC (.int 340282366920938463463374607431768211507))) (aG 2)) (aB (bH (eB (aH .Mod) (eB (aH .Mult) (aj 2) (aj 2)) (eC (.int 340282366920938463463374607431768211297)))) (aP))
def qe:GN:=fnOf 3 Ea
def K1:SF:=aB (jT (bN (eB (bf .NotEq) (aj 1) (eC (.int 0)))) (aB (aX (eB (aH .Mod) (aj 0) (aj 1)) (aG 2)) (aB (aX (aj 1) (aG 0)) (aB (aX (aj 2) (aG 1)) (aP))))) (aB (bH (eN qW (ak (aj 0) (aq)))) (aP))
def Et:GN:=fnOf 3 K1
def Kf:SF:=aB (aX (eN (aO 2 Et) (ak (eB aM (aj 0) (eC (.int 0))) (ak (eB aM (aj 0) (eC (.int 1))) (aq)))) (aG 1)) (aB (bH (eN cu (ak (eB (aH .FloorDiv) (eB aM (aj 0) (eC (.int 0))) (aj 1)) (ak (eB (aH .FloorDiv) (eB aM (aj 0) (eC (.int 1))) (aj 1)) (aq))))) (aP))
def rR:GN:=fnOf 2 Kf
def DP:SF:=aB (bH (eB (bf .Lt) (eB (aH .Mult) (eB aM (aj 0) (eC (.int 0))) (eB aM (aj 1) (eC (.int 1)))) (eB (aH .Mult) (eB aM (aj 1) (eC (.int 0))) (eB aM (aj 0) (eC (.int 1)))))) (aP)
def rO:GN:=fnOf 2 DP
def Ey:SF:=aB (bH (eN cu (ak (eB (aH .Sub) (eB aM (aj 1) (eC (.int 0))) (eB aM (aj 0) (eC (.int 0)))) (ak (eB (aH .Sub) (eB aM (aj 1) (eC (.int 1))) (eB aM (aj 0) (eC (.int 1)))) (ak (eB (aH .Sub) (eB aM (aj 1) (eC (.int 2))) (eB aM (aj 0) (eC (.int 2)))) (aq)))))) (aP)
def dW:GN:=fnOf 2 Ey
def Cq:SF:=aB (bH (eB (aH .Add) (eB (aH .Add) (eB (aH .Mult) (eB aM (aj 0) (eC (.int 0))) (eB aM (aj 1) (eC (.int 0)))) (eB (aH .Mult) (eB aM (aj 0) (eC (.int 1))) (eB aM (aj 1) (eC (.int 1))))) (eB (aH .Mult) (eB aM (aj 0) (eC (.int 2))) (eB aM (aj 1) (eC (.int 2)))))) (aP)
def eX:GN:=fnOf 2 Cq
def CQ:SF:=aB (bH (eN cu (ak (eB (aH .Sub) (eB (aH .Mult) (eB aM (aj 0) (eC (.int 1))) (eB aM (aj 1) (eC (.int 2)))) (eB (aH .Mult) (eB aM (aj 0) (eC (.int 2))) (eB aM (aj 1) (eC (.int 1))))) (ak (eB (aH .Sub) (eB (aH .Mult) (eB aM (aj 0) (eC (.int 2))) (eB aM (aj 1) (eC (.int 0)))) (eB (aH .Mult) (eB aM (aj 0) (eC (.int 0))) (eB aM (aj 1) (eC (.int 2))))) (ak (eB (aH .Sub) (eB (aH .Mult) (eB aM (aj 0) (eC (.int 0))) (eB aM (aj 1) (eC (.int 1)))) (eB (aH .Mult) (eB aM (aj 0) (eC (.int 1))) (eB aM (aj 1) (eC (.int 0))))) (aq)))))) (aP)
def iV:GN:=fnOf 2 CQ
def Ep:SF:=aB (dg (bN (eB (bf .Gt) (aj 1) (eC (.int 0)))) (aB (bH (eN cu (ak (eN cu (ak (eB (aH .Sub) (aj 2) (aj 0)) (ak (aj 1) (aq)))) (ak (eN cu (ak (eB (aH .Sub) (aj 3) (aj 0)) (ak (aj 1) (aq)))) (aq))))) (aP)) (aP)) (aB (bH (eN cu (ak (eN cu (ak (eB (aH .Sub) (aj 0) (aj 3)) (ak (eU oM (aj 1)) (aq)))) (ak (eN cu (ak (eB (aH .Sub) (aj 0) (aj 2)) (ak (eU oM (aj 1)) (aq)))) (aq))))) (aP))
def Ld:GN:=fnOf 4 Ep
def JG:SF:=aX (eN cu (ak (eC (.int 0)) (ak (eC (.int 1)) (aq)))) (aG 2)
def JH:SF:=aX (eC .non) (aG 3)
def yR:SF:=dg (bN (eB (bf .Eq) (aj 5) (eC (.int 0)))) (aB (dg (jb (bN (eB (bf .Lt) (aj 4) (aj 6))) (bN (eB (bf .Gt) (aj 4) (aj 7)))) (aB (bH (eC .non)) (aP)) (aP)) (aB (nJ) (aP))) (aP)
def Kg:SF:=aX (eN (aO 4 Ld) (ak (aj 4) (ak (aj 5) (ak (aj 6) (ak (aj 7) (aq)))))) (aG 8)
def Kh:SF:=dg (jc (eN (aO 2 rO) (ak (aj 2) (ak (eB aM (aj 8) (eC (.int 0))) (aq))))) (aB (aX (eB aM (aj 8) (eC (.int 0))) (aG 2)) (aP)) (aP)
def Kl:SF:=dg (jb (bN (eB (bf .Is) (aj 3) (eC .non))) (jc (eN (aO 2 rO) (ak (eB aM (aj 8) (eC (.int 1))) (ak (aj 3) (aq)))))) (aB (aX (eB aM (aj 8) (eC (.int 1))) (aG 3)) (aP)) (aP)
def o6:SF:=aB yR (aB Kg (aB Kh (aB Kl aP)))
def JK:SF:=jX (pL (ak (eB aM (aj 0) (eC (.int 0))) (ak (eB aM (aj 0) (eC (.int 1))) (ak (eB aM (aj 1) (eC (.int 0))) (ak (eB aM (aj 1) (eC (.int 1))) (aq)))))) (jw 4 (dR (aG 4) (dR (aG 5) (dR (aG 6) (dR (aG 7) (jO)))))) o6
def yV:SF:=dg (jc (eN (aO 2 rO) (ak (aj 3) (ak (aj 2) (aq))))) (aB (bH (eC .non)) (aP)) (aP)
def Tf:SF:=bH (eN cu (ak (aj 2) (ak (aj 3) (aq))))
def yH:SF:=aB JG (aB JH (aB JK (aB yV (aB Tf aP))))
def uD:GN:=fnOf 9 yH
def Ei:SF:=aB (aX (eN (aO 2 uD) (ak (aj 0) (ak (aj 1) (aq)))) (aG 2)) (aB (dg (bN (eB (bf .Is) (aj 2) (eC .non))) (aB (bH (eC .non)) (aP)) (aP)) (aB (bH (eN (aO 1 rR) (ak (eB aM (aj 2) (eC (.int 0))) (aq)))) (aP)))
def JM:GN:=fnOf 3 Ei
def DG:SF:=aB (bH (eN jM (ak (eN cu (ak (eB aM (aj 0) (eC (.int 0))) (ak (eB aM (aj 0) (eC (.int 1))) (aq)))) (ak (eN cu (ak (eB aM (aj 0) (eC (.int 1))) (ak (eB aM (aj 0) (eC (.int 2))) (aq)))) (ak (eN cu (ak (eB aM (aj 0) (eC (.int 2))) (ak (eB aM (aj 0) (eC (.int 0))) (aq)))) (aq)))))) (aP)
def uy:GN:=fnOf 1 DG
def yP:SF:=aB (aX (eB aM (aj 0) (eC (.int 1))) (aG 3)) (aB (aX (eN (aO 2 dW) (ak (eB aM (aj 0) (eC (.int 0))) (ak (aj 1) (aq)))) (aG 4)) (aB (dg (bN (eB (bf .NotEq) (eN (aO 2 iV) (ak (aj 4) (ak (aj 3) (aq)))) (eN cu (ak (eC (.int 0)) (ak (eC (.int 0)) (ak (eC (.int 0)) (aq))))))) (aB (bH (eC .non)) (aP)) (aP)) (aB (aX (eN cu (ak (eN (aO 2 eX) (ak (aj 4) (ak (aj 3) (aq)))) (ak (eN (aO 2 eX) (ak (eN (aO 2 dW) (ak (eB aM (aj 0) (eC (.int 0))) (ak (aj 2) (aq)))) (ak (aj 3) (aq)))) (aq)))) (aG 5)) (aB (dg (bN (eB (bf .Lt) (eN j9 (ak (aj 5) (aq))) (eC (.int 0)))) (aB (bH (eC .non)) (aP)) (aP)) (aB (bH (eN (aO 1 rR) (ak (eN cu (ak (eN j9 (ak (eN pO (ak (aj 5) (aq))) (ak (eC (.int 0)) (aq)))) (ak (eN (aO 2 eX) (ak (aj 3) (ak (aj 3) (aq)))) (aq)))) (aq)))) (aP))))))
def Kc:GN:=fnOf 6 yP
def rW:SF:=aB (aX (eB aM (aj 0) (eC (.int 1))) (aG 3)) (aB (aX (eN (aO 2 dW) (ak (aj 1) (ak (aj 2) (aq)))) (aG 4)) (aB (aX (eN (aO 2 iV) (ak (aj 3) (ak (aj 4) (aq)))) (aG 5)) (aB (dg (bN (eB (bf .Eq) (aj 5) (eN cu (ak (eC (.int 0)) (ak (eC (.int 0)) (ak (eC (.int 0)) (aq))))))) (aB (bH (eN (aO 3 Kc) (ak (aj 0) (ak (aj 1) (ak (aj 2) (aq)))))) (aP)) (aP)) (aB (aX (eN (aO 2 dW) (ak (eB aM (aj 0) (eC (.int 0))) (ak (aj 1) (aq)))) (aG 6)) (aB (dg (bN (eB (bf .NotEq) (eN (aO 2 eX) (ak (aj 6) (ak (aj 5) (aq)))) (eC (.int 0)))) (aB (bH (eC .non)) (aP)) (aP)) (aB (aX (eN (aO 2 eX) (ak (aj 5) (ak (aj 5) (aq)))) (aG 7)) (aB (aX (eN (aO 2 eX) (ak (eN (aO 2 iV) (ak (aj 6) (ak (aj 4) (aq)))) (ak (aj 5) (aq)))) (aG 8)) (aB (aX (eN (aO 2 eX) (ak (eN (aO 2 iV) (ak (aj 6) (ak (aj 3) (aq)))) (ak (aj 5) (aq)))) (aG 9)) (aB (dg (jb (bN (eB (bf .Lt) (aj 8) (eC (.int 0)))) (jb (bN (eB (bf .Lt) (aj 9) (eC (.int 0)))) (bN (eB (bf .Gt) (aj 9) (aj 7))))) (aB (bH (eC .non)) (aP)) (aP)) (aB (bH (eN (aO 1 rR) (ak (eN cu (ak (aj 8) (ak (aj 7) (aq)))) (aq)))) (aP)))))))))))
def Lb:GN:=fnOf 10 rW
def Ue:SF:=aX (eC .non) (aG 2)
def KD:SF:=aX (eN (aO 3 Lb) (ak (aj 0) (ak (aj 3) (ak (aj 4) (aq))))) (aG 5)
def qb:SF:=dg (wg (bN (eB (bf .IsNot) (aj 5) (eC .non))) (jb (bN (eB (bf .Is) (aj 2) (eC .non))) (jc (eN (aO 2 rO) (ak (aj 5) (ak (aj 2) (aq))))))) (aB (aX (aj 5) (aG 2)) (aP)) (aP)
def K3:SF:=aB KD (aB qb aP)
def J9:SF:=jX (dz (eN (aO 1 uy) (ak (aj 1) (aq)))) (jw 2 (dR (aG 3) (dR (aG 4) (jO)))) K3
def Ug:SF:=bH (aj 2)
def Ka:SF:=aB Ue (aB J9 (aB Ug aP))
def w6:GN:=fnOf 6 Ka
def Fe:SF:=aB (aX (cX (dz (aj 2)) (aG 0) (cF) (eN (aO 2 dW) (ak (aj 1) (ak (aj 0) (aq)))) [none,some 0]) (aG 3)) (aB (aX (cX (dz (eN (aO 1 uy) (ak (aj 3) (aq)))) (jw 2 (dR (aG 0) (dR (aG 1) (jO)))) (cF) (eN (aO 2 eX) (ak (aj 2) (ak (eN (aO 2 iV) (ak (aj 0) (ak (aj 1) (aq)))) (aq)))) [none,none,some 1]) (aG 4)) (aB (bH (xN (eB (bf .GtE) (eN pO (ak (aj 4) (aq))) (eC (.int 0))) (eB (bf .LtE) (eN j9 (ak (aj 4) (aq))) (eC (.int 0))))) (aP)))
def o7:GN:=fnOf 5 Fe
def Fi:SF:=aB (dg (jc (eN (aO 3 o7) (ak (eB aM (aj 0) (eC (.int 0))) (ak (aj 2) (ak (aj 1) (aq)))))) (aB (bH (eN cu (ak (eC (.int 0)) (ak (eC (.int 1)) (aq))))) (aP)) (aP)) (aB (bH (eN (aO 2 w6) (ak (aj 0) (ak (aj 1) (aq))))) (aP))
def xH:GN:=fnOf 3 Fi
def nj:SF:=aB (aX (eN (aO 2 iV) (ak (eN (aO 2 dW) (ak (eB aM (aj 1) (eC (.int 0))) (ak (eB aM (aj 1) (eC (.int 1))) (aq)))) (ak (eN (aO 2 dW) (ak (eB aM (aj 1) (eC (.int 0))) (ak (eB aM (aj 1) (eC (.int 2))) (aq)))) (aq)))) (aG 2)) (aB (dg (bN (eB (bf .Eq) (aj 2) (eN cu (ak (eC (.int 0)) (ak (eC (.int 0)) (ak (eC (.int 0)) (aq))))))) (aB (bH (eN (aO 2 w6) (ak (aj 0) (ak (aj 1) (aq))))) (aP)) (aP)) (aB (aX (eN (aO 2 eX) (ak (eN (aO 2 dW) (ak (eB aM (aj 0) (eC (.int 0))) (ak (eB aM (aj 1) (eC (.int 0))) (aq)))) (ak (aj 2) (aq)))) (aG 3)) (aB (aX (eN (aO 2 eX) (ak (eB aM (aj 0) (eC (.int 1))) (ak (aj 2) (aq)))) (aG 4)) (aB (dg (bN (eB (bf .Eq) (aj 4) (eC (.int 0)))) (aB (bH (pA (bN (eB (bf .Eq) (aj 3) (eC (.int 0)))) (eN (aO 3 xH) (ak (aj 0) (ak (aj 1) (ak (aj 2) (aq))))) (eC .non))) (aP)) (aP)) (aB (dg (bN (eB (bf .Lt) (aj 4) (eC (.int 0)))) (aB (aX (eU oM (aj 3)) (aG 3)) (aB (aX (eU oM (aj 4)) (aG 4)) (aP))) (aP)) (aB (dg (jb (bN (eB (bf .Lt) (aj 3) (eC (.int 0)))) (pR (jc (eN (aO 3 o7) (ak (eB aM (aj 0) (eC (.int 0))) (ak (eB aM (aj 0) (eC (.int 1))) (ak (aj 1) (aq)))))))) (aB (bH (eC .non)) (aP)) (aP)) (aB (bH (eN (aO 1 rR) (ak (eN cu (ak (aj 3) (ak (aj 4) (aq)))) (aq)))) (aP))))))))
def mF:GN:=fnOf 5 nj
def K9:SF:=aB (dg (bN (eB (bf .Eq) (eB aM (aj 0) (eC (.int 1))) (eN cu (ak (eC (.int 0)) (ak (eC (.int 0)) (ak (eC (.int 0)) (aq))))))) (aB (Cg) (aP)) (aP)) (aP)
def Kz:GN:=fnOf 1 K9
def DQ:SF:=aB (dg (bN (eB (bf .Eq) (eB aM (aj 1) (eC (.int 0))) (eC (.str "box")))) (aB (bH (eN (aO 2 JM) (ak (aj 0) (ak (jJ (aj 1) (jE (eC (.int 1))) (kh)) (aq))))) (aP)) (aP)) (aB (bH (eN (aO 2 mF) (ak (aj 0) (ak (jJ (aj 1) (jE (eC (.int 1))) (kh)) (aq))))) (aP))
def yI:GN:=fnOf 2 DQ
def JB:SF:=aB (bH (eN cu (ak (eB (aH .Sub) (eB (aH .Mod) (aj 0) (eC (.int 9))) (eC (.int 4))) (ak (eB (aH .Sub) (eB (aH .Mod) (eB (aH .FloorDiv) (aj 0) (eC (.int 9))) (eC (.int 9))) (eC (.int 4))) (ak (eB (aH .Sub) (eB (aH .Mod) (eB (aH .FloorDiv) (aj 0) (eC (.int 81))) (eC (.int 9))) (eC (.int 4))) (aq)))))) (aP)
def qg:GN:=fnOf 1 JB
def Fg:SF:=aB (dg (bN (eB (bf .Eq) (eB (aH .Mod) (aj 1) (eC (.int 3))) (eC (.int 0)))) (aB (bH (aj 0)) (aP)) (aP)) (aB (aX (eB (aH .Add) (eC (.int 1)) (eB (aH .Mod) (aj 1) (eB (aH .LShift) (eC (.int 1)) (eC (.int 50))))) (aG 2)) (aB (bH (eN cu (ak (eB (aH .Add) (eB (aH .Mult) (eB aM (aj 0) (eC (.int 0))) (aj 2)) (eB (aH .Mod) (aj 1) (eC (.int 1000003)))) (ak (eB (aH .Sub) (eB (aH .Mult) (eB aM (aj 0) (eC (.int 1))) (aj 2)) (eB (aH .Mod) (aj 1) (eC (.int 997)))) (ak (eB (aH .Add) (eB (aH .Mult) (eB aM (aj 0) (eC (.int 2))) (aj 2)) (eC (.int 5))) (aq)))))) (aP)))
def yQ:GN:=fnOf 3 Fg
def KY:SF:=aB (mY "Tree" "box" (aj 0) (aj 1)) (aB (mY "Tree" "number" (aj 0) (aj 2)) (aB (mY "Tree" "halves" (aj 0) (aj 3)) (aP)))
def xr:GN:=fnOf 4 KY
def Ko:SF:=aB (aX (cX (pL (ak (eB aM (aj 0) (eC (.int 0))) (ak (eB aM (aj 0) (eC (.int 1))) (aq)))) (jw 2 (dR (aG 0) (dR (aG 1) (jO)))) (cF) (eB (aH .Sub) (aj 1) (aj 0)) [none,none]) (aG 1)) (aB (bH (eM vZ (aj 1) (ak (eN j9 (ak (aj 1) (aq))) (aq)))) (aP))
def JS:GN:=fnOf 2 Ko
def mG (φ:GN):SF:=aB (dg (bN (eB (bf .Eq) (eN gm (ak (aj 0) (aq))) (eC (.int 1)))) (aB (bH (eB aM (aj 0) (eC (.int 0)))) (aP)) (aP)) (aB (aX (eN (aO 1 wZ) (ak (eB (aH .Add) (cX (dz (aj 0)) (aG 0) (cF) (eB aM (gb "Tree" "box" (aj 0)) (eC (.int 0))) [none]) (cX (dz (aj 0)) (aG 0) (cF) (eB aM (gb "Tree" "box" (aj 0)) (eC (.int 1))) [none])) (aq))) (aG 1)) (aB (aX (eN (aO 1 JS) (ak (aj 1) (aq))) (aG 4)) (aB (aX (xM (aj 0) [4] (eB (aH .Add) (eB aM (eB aM (gb "Tree" "box" (aj 0)) (eC (.int 0))) (aj 1)) (eB aM (eB aM (gb "Tree" "box" (aj 0)) (eC (.int 1))) (aj 1)))) (aG 2)) (aB (aX (eB (aH .FloorDiv) (eN gm (ak (aj 2) (aq))) (eC (.int 2))) (aG 3)) (aB (bH (pq "Tree" 4 xr (ak (aj 1) (ak (eC .non) (ak (eN cu (ak (eN (aO 1 φ) (ak (jJ (aj 2) (kh) (jE (aj 3))) (aq))) (ak (eN (aO 1 φ) (ak (jJ (aj 2) (jE (aj 3)) (kh)) (aq))) (aq)))) (aq)))))) (aP))))))
def iU:Nat->GN
 | 0=>λ_ _=>none
 | k+1=>ud "tree_over" 5 (mG (iU k))
def zhr:GN:=iU 6
def Km:SF:=aX (cX (nT (aj 0)) (jw 2 (dR (aG 0) (dR (aG 1) (jO)))) (cF) (pq "Tree" 4 xr (ak (aj 1) (ak (aj 0) (ak (eN cu (aq)) (aq))))) [none,none]) (aG 1)
def yS:SF:=bH (pA (bN (eB (bf .Eq) (eN gm (ak (aj 1) (aq))) (eC (.int 0)))) (eC .non) (eN (aO 1 zhr) (ak (aj 1) (aq))))
def Ec:SF:=aB Km (aB yS aP)
def Eg:GN:=fnOf 2 Ec
def K4:SF:=aB (mY "Scene" "kept" (aj 0) (eN lF (ak (aj 1) (aq)))) (aB (mY "Scene" "tree" (aj 0) (eN (aO 1 Eg) (ak (cX (dz (gb "Scene" "kept" (aj 0))) (aG 0) (cF) (eN (aO 1 uq) (ak (aj 0) (aq))) [none]) (aq)))) (aP))
def Eu:GN:=fnOf 2 K4
def Eb:SF:=aB (aX (eB (aH .Sub) (aj 1) (eB (aH .Mult) (eB (aH .Mod) (aj 1) (eC (.int 3))) (eB (aH .Mod) (eN (aO 2 nq) (ak (aj 0) (ak (eC (.int 0)) (aq)))) (eC (.int 2))))) (aG 2)) (aB (aX (eN (aO 2 qe) (ak (eN (aO 2 nq) (ak (aj 0) (ak (eB (aH .Add) (aj 2) (eC (.int 1))) (aq)))) (ak (aj 2) (aq)))) (aG 3)) (aB (aX (eN (aO 1 qg) (ak (aj 3) (aq))) (aG 4)) (aB (dg (bN (eB (bf .Eq) (eB (aH .Mod) (eB (aH .FloorDiv) (aj 3) (eC (.int 729))) (eC (.int 2))) (eC (.int 0)))) (aB (aX (eN (aO 1 qg) (ak (eB (aH .FloorDiv) (aj 3) (eC (.int 1458))) (aq))) (aG 5)) (aB (bH (eN cu (ak (eC (.str "box")) (ak (aj 4) (ak (eN cu (ak (eB (aH .Add) (eB aM (aj 4) (eC (.int 0))) (eN qW (ak (eB aM (aj 5) (eC (.int 0))) (aq)))) (ak (eB (aH .Add) (eB aM (aj 4) (eC (.int 1))) (eB (aH .FloorDiv) (eN qW (ak (eB aM (aj 5) (eC (.int 1))) (aq))) (eC (.int 2)))) (ak (eB (aH .Add) (eB aM (aj 4) (eC (.int 2))) (eB (aH .Mod) (eN qW (ak (eB aM (aj 5) (eC (.int 2))) (aq))) (eC (.int 3)))) (aq))))) (aq)))))) (aP))) (aP)) (aB (bH (eN cu (ak (eC (.str "triangle")) (ak (aj 4) (ak (eN (aO 1 qg) (ak (eB (aH .FloorDiv) (aj 3) (eC (.int 1458))) (aq))) (ak (eN (aO 1 qg) (ak (eB (aH .FloorDiv) (aj 3) (eC (.int 1062882))) (aq))) (aq))))))) (aP)))))
def Jx:GN:=fnOf 6 Eb
def Jt:SF:=aB (aX (eN (aO 2 Jx) (ak (aj 0) (ak (aj 1) (aq)))) (aG 2)) (aB (bH (eB (aH .Add) (eN cu (ak (eB aM (aj 2) (eC (.int 0))) (aq))) (eN lZ (ak (cX (dz (jJ (aj 2) (jE (eC (.int 1))) (kh))) (aG 0) (cF) (eN (aO 2 yQ) (ak (aj 0) (ak (eN (aO 2 nq) (ak (aj 1) (ak (eC (.int 0)) (aq)))) (aq)))) [none,some 0]) (aq))))) (aP))
def wY:GN:=fnOf 3 Jt
def J0:SF:=aX (eN (aO 2 qe) (ak (eN (aO 2 nq) (ak (aj 0) (ak (aj 1) (aq)))) (ak (aj 1) (aq)))) (aG 2)
def J4:SF:=aX (eN (aO 1 qg) (ak (aj 2) (aq))) (aG 3)
def J5:SF:=aX (eN (aO 1 qg) (ak (eB (aH .FloorDiv) (aj 2) (eC (.int 729))) (aq))) (aG 4)
def Eo:SF:=dg (jb (bN (eB (bf .Eq) (eB (aH .Mod) (eB (aH .FloorDiv) (aj 2) (eC (.int 531441))) (eC (.int 3))) (eC (.int 0)))) (bN (eB (bf .Eq) (aj 4) (eN cu (ak (eC (.int 0)) (ak (eC (.int 0)) (ak (eC (.int 0)) (aq)))))))) (aB (aX (eB aM (eN jM (ak (eN cu (ak (eC (.int 1)) (ak (eC (.int 0)) (ak (eC (.int 0)) (aq))))) (ak (eN cu (ak (eC (.int 0)) (ak (eB (aH .Sub) (eC (.int 0)) (eC (.int 2))) (ak (eC (.int 0)) (aq))))) (ak (eN cu (ak (eC (.int 0)) (ak (eC (.int 0)) (ak (eC (.int 3)) (aq))))) (ak (eN cu (ak (eC (.int 1)) (ak (eC (.int 1)) (ak (eC (.int 0)) (aq))))) (ak (eN cu (ak (eC (.int 0)) (ak (eC (.int 1)) (ak (eB (aH .Sub) (eC (.int 0)) (eC (.int 1))) (aq))))) (ak (eN cu (ak (eB (aH .Sub) (eC (.int 0)) (eC (.int 1))) (ak (eC (.int 0)) (ak (eC (.int 0)) (aq))))) (aq)))))))) (eB (aH .Mod) (eB (aH .FloorDiv) (aj 2) (eC (.int 1594323))) (eC (.int 6)))) (aG 4)) (aP)) (aP)
def J6:SF:=aX (eB (aH .Mod) (eB (aH .FloorDiv) (aj 2) (eC (.int 9565938))) (eC (.int 4))) (aG 5)
def J7:SF:=aX (eN lZ (ak (cX (gn (ak (eC (.int 3)) (aq))) (aG 0) (cF) (eB (aH .Sub) (eB aM (aj 2) (aj 0)) (eB (aH .Mult) (aj 1) (eB aM (aj 3) (aj 0)))) [none,some 5,some 3,some 4]) (aq))) (aG 3)
def J8:SF:=bH (eN cu (ak (eN (aO 2 yQ) (ak (aj 3) (ak (eN (aO 2 nq) (ak (aj 0) (ak (eC (.int 0)) (aq)))) (aq)))) (ak (aj 4) (aq))))
def Kq:SF:=aB J0 (aB J4 (aB J5 (aB Eo (aB J6 (aB J7 (aB J8 aP))))))
def EY:GN:=fnOf 6 Kq
def Dz:SF:=aB (dg (bN (eB (bf .Eq) (eB (aH .Mod) (aj 1) (eC (.int 3))) (eC (.int 0)))) (aB (bH (aj 0)) (aP)) (aP)) (aB (bH (eN lZ (ak (cX (dz (aj 0)) (aG 0) (cF) (eB (aH .Mult) (aj 0) (eB (aH .Add) (eC (.int 1)) (eB (aH .Mod) (aj 1) (eB (aH .LShift) (eC (.int 1)) (eC (.int 50)))))) [none,some 1]) (aq)))) (aP))
def DN:GN:=fnOf 2 Dz
def K5:SF:=aX (eN jM (aq)) (aG 2)
def K6:SF:=aX (pA (bN (eB (bf .Is) (aj 0) (eC .non))) (eN jM (aq)) (eN jM (ak (aj 0) (aq)))) (aG 3)
def KJ:SF:=aX (Bh lR (aj 3)) (aG 4)
def xG:SF:=dg (bN (eB (bf .Is) (eN (aO 2 uD) (ak (aj 1) (ak (gb "Tree" "box" (aj 4)) (aq)))) (eC .non))) (aB (nJ) (aP)) (aP)
def za:SF:=dg (bN (eB (bf .Is) (gb "Tree" "number" (aj 4)) (eC .non))) (aB (mX (eM wz (aj 3) (ak (gb "Tree" "halves" (aj 4)) (aq)))) (aP)) (aB (mX (eM rB (aj 2) (ak (gb "Tree" "number" (aj 4)) (aq)))) (aP))
def rQ:SF:=aB KJ (aB xG (aB za aP))
def Uo:SF:=jT (bN (eB (bf .Gt) (eN gm (ak (aj 3) (aq))) (eC (.int 0)))) rQ
def K7:SF:=bH (aj 2)
def La:SF:=aB K5 (aB K6 (aB Uo (aB K7 aP)))
def Er:GN:=fnOf 5 La
def JV:SF:=mX (eN (aO 1 Kz) (ak (aj 1) (aq)))
def JW:SF:=aX (eN jM (aq)) (aG 2)
def KC:SF:=aX (eN (aO 2 yI) (ak (aj 1) (ak (eB aM (gb "Scene" "kept" (aj 0)) (aj 3)) (aq)))) (aG 4)
def yZ:SF:=dg (bN (eB (bf .IsNot) (aj 4) (eC .non))) (aB (mX (eM rB (aj 2) (ak (eN cu (ak (aj 4) (ak (aj 3) (aq)))) (aq)))) (aP)) (aP)
def xq:SF:=aB KC (aB yZ aP)
def JX:SF:=jX (dz (eN (aO 2 Er) (ak (gb "Scene" "tree" (aj 0)) (ak (aj 1) (aq))))) (aG 3) xq
def JZ:SF:=bH (aj 2)
def Kp:SF:=aB JV (aB JW (aB JX (aB JZ aP)))
def Ez:GN:=fnOf 5 Kp
def JD:SF:=aB (dg (jc (eN (aO 2 rO) (ak (eB aM (aj 0) (eC (.int 0))) (ak (eB aM (aj 1) (eC (.int 0))) (aq))))) (aB (bH (eC (.bl true))) (aP)) (aP)) (aB (bH (oJ (eB (bf .Eq) (eB aM (aj 0) (eC (.int 0))) (eB aM (aj 1) (eC (.int 0)))) (eB (bf .Lt) (eB aM (aj 0) (eC (.int 1))) (eB aM (aj 1) (eC (.int 1)))))) (aP))
def El:GN:=fnOf 2 JD
def KN:SF:=aX (eC .non) (aG 2)
def KH:SF:=dg (jb (bN (eB (bf .Is) (aj 2) (eC .non))) (jc (eN (aO 2 El) (ak (aj 3) (ak (aj 2) (aq)))))) (aB (aX (aj 3) (aG 2)) (aP)) (aP)
def xu:SF:=aB KH aP
def KQ:SF:=jX (dz (lA "Scene" "hits" 2 Ez (aj 0) (ak (aj 1) (aq)))) (aG 3) xu
def KR:SF:=bH (aj 2)
def Kd:SF:=aB KN (aB KQ (aB KR aP))
def uE:GN:=fnOf 4 Kd
def Jz:SF:=aB (aX (aj 1) (jw 4 (dR (aG 4) (dR (aG 5) (dR (aG 6) (dR (aG 7) (jO))))))) (aB (aX (eN lZ (ak (cX (gn (ak (eC (.int 3)) (aq))) (aG 0) (cF) (eB (aH .Add) (eB (aH .Add) (eB aM (aj 1) (aj 0)) (eB (aH .Mult) (aj 4) (eB aM (aj 3) (aj 0)))) (eB (aH .Mult) (aj 5) (eB aM (aj 2) (aj 0)))) [none,some 4,some 6,some 5,some 2,some 3]) (aq))) (aG 8)) (aB (aX (lA "Scene" "first" 2 uE (aj 0) (ak (eN cu (ak (aj 8) (ak (aj 7) (aq)))) (aq))) (aG 9)) (aB (dg (bN (eB (bf .Is) (aj 9) (eC .non))) (aB (bH (eB (aH .Sub) (eC (.int 0)) (eC (.int 1)))) (aP)) (aP)) (aB (bH (eB aM (aj 9) (eC (.int 1)))) (aP)))))
def JL:GN:=fnOf 10 Jz
def Jv:SF:=aB (aX (lA "Scene" "first" 2 uE (aj 0) (ak (aj 1) (aq))) (aG 2)) (aB (bH (pA (bN (eB (bf .Is) (aj 2) (eC .non))) (eU oM (eC (.int 1))) (eB aM (aj 2) (eC (.int 1))))) (aP))
def Ed:GN:=fnOf 3 Jv
def HY:SF:=aB (bH (eN cu (ak (eB (aH .Add) (eB aM (aj 0) (eC (.int 0))) (eB (aH .Mult) (aj 2) (eB aM (aj 1) (eC (.int 0))))) (ak (eB (aH .Add) (eB aM (aj 0) (eC (.int 1))) (eB (aH .Mult) (aj 2) (eB aM (aj 1) (eC (.int 1))))) (ak (eB (aH .Add) (eB aM (aj 0) (eC (.int 2))) (eB (aH .Mult) (aj 2) (eB aM (aj 1) (eC (.int 2))))) (aq)))))) (aP)
def wJ:GN:=fnOf 3 HY
def Ji:SF:=aB (bH (cX (gn (ak (aj 4) (aq))) (aG 0) (cF) (eN (aO 2 Ed) (ak (aj 2) (ak (eN cu (ak (eN (aO 3 wJ) (ak (aj 3) (ak (aj 1) (ak (aj 0) (aq))))) (ak (aj 4) (aq)))) (aq)))) [none,some 2,some 0,some 1,some 3])) (aP)
def Dv:GN:=fnOf 5 Ji
def Hf:SF:=aB (aX (eB aM (aj 1) (eC (.int 0))) (aG 4)) (aB (aX (eB aM (aj 1) (eC (.int 1))) (aG 5)) (aB (aX (eB aM (aj 1) (eC (.int 2))) (aG 6)) (aB (aX (eB aM (aj 1) (eC (.int 3))) (aG 7)) (aB (bH (cX (gn (ak (aj 3) (aq))) (aG 0) (cF) (eN (aO 5 Dv) (ak (aj 4) (ak (eN (aO 3 wJ) (ak (aj 1) (ak (aj 2) (ak (aj 0) (aq))))) (ak (aj 3) (ak (aj 5) (ak (aj 6) (aq))))))) [none,some 4,some 6,some 5,some 0,some 7,some 2])) (aP)))))
def G9:GN:=fnOf 8 Hf
def Jh:SF:=aB (aX (eN (aO 2 nq) (ak (aj 0) (ak (aj 1) (aq)))) (aG 2)) (aB (bH (cX (gn (ak (eB (aH .Mod) (eB (aH .FloorDiv) (eN (aO 2 qe) (ak (aj 2) (ak (aj 1) (aq)))) (eC (.int 201))) (eC (.int 5))) (aq))) (aG 0) (cF) (eB (aH .Sub) (eB (aH .Mod) (eN (aO 2 qe) (ak (aj 1) (ak (eB (aH .Add) (aj 2) (aj 0)) (aq)))) (eC (.int 201))) (eC (.int 1))) [none,some 2,some 1])) (aP))
def Du:GN:=fnOf 3 Jh
def Jj:SF:=aB (bH (pA (bN (eB (bf .Eq) (aj 0) (eU oM (eC (.int 1))))) (eC (.str ".")) (eB aM (eC (.str "0123456789abcdefghijklmnopqrstuvwxyz")) (eB (aH .Mod) (aj 0) (eN gm (ak (eC (.str "0123456789abcdefghijklmnopqrstuvwxyz")) (aq))))))) (aP)
def Dw:GN:=fnOf 1 Jj
def JF:SF:=aB (bH (uc "" (ak (cX (dz (aj 0)) (aG 0) (cF) (eN (aO 1 Dw) (ak (aj 0) (aq))) [none]) (aq)))) (aP)
def yW:GN:=fnOf 1 JF
def HX:SF:=aB (bH (uc "\n" (ak (cX (dz (aj 0)) (aG 0) (cF) (eN (aO 1 yW) (ak (aj 0) (aq))) [none]) (aq)))) (aP)
def CZ:GN:=fnOf 1 HX
def Kr:SF:=aX (eC (.str "")) (aG 1)
def Ku:SF:=aX (eC (.str "0123456789abcdefghijklmnopqrstuvwxyz")) (aG 2)
def KZ:SF:=dg (bN (eB (bf .Gt) (aj 3) (eC (.int 0)))) (aB (aX (eB (aH .Add) (aj 1) (eC (.str "\n"))) (aG 1)) (aP)) (aP)
def Um:SF:=dg (bN (eB (bf .Eq) (aj 4) (eB (aH .Sub) (eC (.int 0)) (eC (.int 1))))) (aB (aX (eB (aH .Add) (aj 1) (eC (.str "."))) (aG 1)) (aP)) (aB (aX (eB (aH .Add) (aj 1) (eB aM (aj 2) (eB (aH .Sub) (aj 4) (eB (aH .Mult) (eB (aH .FloorDiv) (aj 4) (eC (.int 36))) (eC (.int 36)))))) (aG 1)) (aP))
def zc:SF:=aB Um aP
def Ui:SF:=jX (dz (eB aM (aj 0) (aj 3))) (aG 4) zc
def Fd:SF:=aB KZ (aB Ui aP)
def Kv:SF:=jX (gn (ak (eN gm (ak (aj 0) (aq))) (aq))) (aG 3) Fd
def Kw:SF:=bH (aj 1)
def JC:SF:=aB Kr (aB Ku (aB Kv (aB Kw aP)))
def Ek:GN:=fnOf 5 JC
def zhP:SF:=aX (eN (aO 2 nq) (ak (aj 0) (ak (eC (.int 0)) (aq)))) (aG 1)
def zhO:SF:=aX (eN (aO 2 qe) (ak (eN (aO 2 nq) (ak (aj 0) (ak (eC (.int 1)) (aq)))) (ak (eC (.int 43)) (aq)))) (aG 2)
def zhN:SF:=aX (pq "Scene" 2 Eu (ak (cX (gn (ak (eB (aH .Mod) (aj 2) (eC (.int 9))) (aq))) (aG 0) (cF) (eN (aO 2 wY) (ak (aj 1) (ak (aj 0) (aq)))) [none,some 0]) (aq))) (aG 3)
def zhM:SF:=aX (eN (aO 2 EY) (ak (aj 0) (ak (eC (.int 40)) (aq)))) (jw 2 (dR (aG 4) (dR (aG 5) (jO))))
def zhL:SF:=aX (eN (aO 2 DN) (ak (eN (aO 1 qg) (ak (eB (aH .FloorDiv) (aj 2) (eC (.int 9))) (aq))) (ak (aj 1) (aq)))) (aG 6)
def zhK:SF:=aX (eN (aO 2 DN) (ak (eB aM (eN (aO 2 EY) (ak (aj 0) (ak (eC (.int 42)) (aq)))) (eC (.int 1))) (ak (aj 1) (aq)))) (aG 7)
def zhJ:SF:=aX (eN cu (ak (aj 4) (ak (aj 6) (ak (aj 7) (ak (aj 5) (aq)))))) (aG 8)
def zhI:SF:=aX (eB (aH .Mod) (eB (aH .FloorDiv) (aj 2) (eC (.int 6561))) (eC (.int 5))) (aG 9)
def zhH:SF:=aX (eB (aH .Mod) (eB (aH .FloorDiv) (aj 2) (eC (.int 32805))) (eC (.int 5))) (aG 10)
def zg3:SF:=aX (cX (gn (ak (aj 10) (aq))) (aG 0) (cF) (eN jM (aq)) [none]) (aG 12)
def Ul:SF:=mX (eM rB (eB aM (aj 12) (aj 11)) (ak (eN (aO 4 JL) (ak (aj 3) (ak (aj 8) (ak (aj 13) (ak (aj 11) (aq)))))) (aq)))
def Es:SF:=aB Ul aP
def Ud:SF:=jX (gn (ak (aj 9) (aq))) (aG 13) Es
def Ew:SF:=aB Ud aP
def Ju:SF:=jX (gn (ak (aj 10) (aq))) (aG 11) Ew
def zg2:SF:=aX (eN (aO 4 G9) (ak (aj 3) (ak (aj 8) (ak (aj 9) (ak (aj 10) (aq)))))) (aG 14)
def zg1:SF:=dg (jb (bN (eB (bf .NotEq) (aj 14) (aj 12))) (jb (pR (jc (eN qX (ak (aj 14) (ak (eC (.ty "list")) (aq)))))) (pR (jc (eN oK (ak (cX (dz (aj 14)) (aG 0) (cF) (eN qX (ak (aj 0) (ak (eC (.ty "list")) (aq)))) [none]) (aq))))))) (aB (bH (eC (.bl false))) (aP)) (aP)
def zg0:SF:=aX (cX (gn (ak (eB (aH .Mod) (eB (aH .FloorDiv) (aj 2) (eC (.int 164025))) (eC (.int 5))) (aq))) (aG 0) (cF) (eN (aO 2 Du) (ak (aj 1) (ak (aj 0) (aq)))) [none,some 0]) (aG 15)
def zgZ:SF:=aX (cX (dz (aj 15)) (aG 0) (cF) (eN lF (ak (aj 0) (aq))) [none]) (aG 16)
def zgY:SF:=bH (oJ (eB (bf .Eq) (eN (aO 1 CZ) (ak (aj 15) (aq))) (eN (aO 1 Ek) (ak (aj 16) (aq)))) (oJ (eB (bf .Eq) (aj 15) (aj 16)) (eB (bf .Eq) (eN (aO 1 CZ) (ak (aj 14) (aq))) (eN (aO 1 Ek) (ak (aj 12) (aq))))))
def Sw:SF:=aB zhP (aB zhO (aB zhN (aB zhM (aB zhL (aB zhK (aB zhJ (aB zhI (aB zhH (aB zg3 (aB Ju (aB zg2 (aB zg1 (aB zg0 (aB zgZ (aB zgY aP)))))))))))))))
end MX.P
end
section
namespace MX
open PySem L2
theorem lG {p:Prop} {i:Decidable p} (h:p):@decide p i=true:=decide_eq_true h
theorem jP {p:Prop} {i:Decidable p} (h:¬ p):@decide p i=false:=decide_eq_false h
section
variable {σ σ1:Sg} {S S1 S2:So} {x y z d:D} {xs ds:List D} {fa fb fe fo:EF} {aa:AF}
theorem aV {g:G2} {r:Option (D×So)} (h1:fa σ S=some (x,S1)) (h2:fb σ S1=some (y,S2)) (h3:g x y S2=r):eB g fa fb σ S=r:=by
 unfold eB;rw [h1];simp only [cg];rw [h2];simp only [cg];exact h3
theorem GZ {g:D->So->Option (D×So)} {r:Option (D×So)} (h1:fa σ S=some (x,S1)) (h3:g x S1=r):eU g fa σ S=r:=by
 unfold eU;rw [h1];simp only [cg];exact h3
theorem bC {g:GN} {r:Option (D×So)} (h1:aa σ S=some (ds,S1)) (h2:g ds S1=r):eN g aa σ S=r:=by
 unfold eN;rw [h1];simp only [cg];exact h2
theorem aL {fr:AF} (h1:fa σ S=some (x,S1)) (h2:fr σ S1=some (xs,S2)):ak fa fr σ S=some (x::xs,S2):=by
 unfold ak;rw [h1];simp only [cg];rw [h2];rfl
theorem aW:aq σ S=some ([],S):=rfl
theorem aY:eC d σ S=some (d,S):=rfl
theorem aC {i:Nat} (h:σ[i]?=some (some d)):aj i σ S=some (d,S):=by unfold aj;rw [h]
theorem cJ {n:Nat} {φ:GN} {r:Option (D×So)} (h1:ds.length=n) (h2:φ ds S=r):aO n φ ds S=r:=by unfold aO;rw [if_pos h1];exact h2
def oN {α:Type} (b:Bool) (x y:α):α:=if b=true then x else y
theorem fV {α:Type} {b:Bool} {x y r:α} (h:b=true) (hx:x=r):oN b x y=r:=by unfold oN;rw [if_pos h];exact hx
theorem fH {α:Type} {b:Bool} {x y r:α} (h:b=false) (hx:y=r):oN b x y=r:=by unfold oN;rw [if_neg (by rw [h];exact fQ)];exact hx
theorem pZ {t:TF} {b:Bool} {r:Option (D×So)} (h1:t σ S=some (b,S1)) (h2:oN b (fa σ S1) (fb σ S1)=r):pA t fa fb σ S=r:=by
 unfold pA;rw [h1];simp only [cg];exact h2
theorem CT {b:Bool} {r:Option (D×So)} (h1:fa σ S=some (.bl b,S1)) (h2:oN b (fb σ S1) (some (.bl false,S1))=r):oJ fa fb σ S=r:=by
 unfold oJ;rw [h1];simp only [cg];cases b<;>exact h2
theorem G5 {b:Bool} {r:Option (D×So)} (h1:fa σ S=some (.bl b,S1)) (h2:oN b (some (.bl true,S1)) (fb σ S1)=r):xN fa fb σ S=r:=by
 unfold xN;rw [h1];simp only [cg];cases b<;>exact h2
theorem eY {b:Bool} (h1:fa σ S=some (.bl b,S1)):bN fa σ S=some (b,S1):=by unfold bN;rw [h1];rfl
theorem yG {b:Bool} (h1:fa σ S=some (x,S1)) (h2:qm x S1=some b):jc fa σ S=some (b,S1):=by unfold jc;rw [h1];simp only [cg];rw [h2];rfl
theorem Hy {t:TF} {b:Bool} (h1:t σ S=some (b,S1)):pR t σ S=some (!b,S1):=by unfold pR;rw [h1];rfl
theorem zn1 {t u:TF} {b:Bool} {r:Option (Bool×So)} (h1:t σ S=some (b,S1)) (h2:oN b (u σ S1) (some (false,S1))=r):wg t u σ S=r:=by
 unfold wg;rw [h1];simp only [cg];exact h2
theorem rF {t u:TF} {b:Bool} {r:Option (Bool×So)} (h1:t σ S=some (b,S1)) (h2:oN b (some (true,S1)) (u σ S1)=r):jb t u σ S=r:=by
 unfold jb;rw [h1];simp only [cg];exact h2
theorem rK:cF σ S=some (true,S):=rfl
abbrev SR:=Option (Fl×Sg×So)
def qw (fl:Fl) (g:SF) (σ:Sg) (S:So):SR:=match fl with
 | .nx=>g σ S
 | fl=>some (fl,σ,S)
theorem aR {g:SF} {r:SR} (h:g σ S=r):qw .nx g σ S=r:=h
theorem cY {g:SF}:qw (.rt z) g σ S=some (.rt z,σ,S):=rfl
theorem HS {g:SF}:qw .ct g σ S=some (.ct,σ,S):=rfl
theorem aJ {f g:SF} {fl:Fl} {r:SR} (h1:f σ S=some (fl,σ1,S1)) (h2:qw fl g σ1 S1=r):aB f g σ S=r:=by
 unfold aB;rw [h1];simp only [cg];cases fl<;>exact h2
theorem dJ:aP σ S=some (.nx,σ,S):=rfl
theorem PJ:nJ σ S=some (.ct,σ,S):=rfl
theorem dU (h:fe σ S=some (x,S1)):bH fe σ S=some (.rt x,σ,S1):=by unfold bH;rw [h];rfl
theorem uo (h:fe σ S=some (x,S1)):mX fe σ S=some (.nx,σ,S1):=by unfold mX;rw [h];rfl
theorem cD {g:GF} (h1:fe σ S=some (x,S1)) (h2:g x σ S1=some (σ1,S2)):aX fe g σ S=some (.nx,σ1,S2):=by unfold aX;rw [h1];simp only [cg];rw [h2];rfl
theorem eF {t:TF} {f g:SF} {b:Bool} {r:SR} (h1:t σ S=some (b,S1)) (h2:oN b (f σ S1) (g σ S1)=r):dg t f g σ S=r:=by
 unfold dg;rw [h1];simp only [cg];exact h2
theorem bT {i:Nat} (h:σ.set i (some d)=σ1):aG i d σ S=some (σ1,S):=by unfold aG;rw [h]
theorem Cv {n:Nat} {fr:mH} {r:Option (Sg×So)} (h1:ds.length=n) (h2:fr ds σ S=r):jw n fr (.tup ds) σ S=r:=by unfold jw;simp only;rw [if_pos h1];exact h2
theorem Dk:jO [] σ S=some (σ,S):=rfl
theorem p7 {f:GF} {fr:mH} {r:Option (Sg×So)} (h1:f d σ S=some (σ1,S1)) (h2:fr ds σ1 S1=r):dR f fr (d::ds) σ S=r:=by unfold dR;simp only;rw [h1];exact h2
theorem Cu {i j:Int}:aH .Add (.int i) (.int j) S=some (.int (i+j),S):=rfl
theorem Yj {n m:Nat} {xs ys:List D} (h1:S[n]?=some (.lst xs)) (h2:S[m]?=some (.lst ys)) (h:xs.length+ys.length<=sizeLine):aH .Add (.ref n) (.ref m) S=some (.ref S.length,S++[.lst (xs++ys)]):=by
 unfold aH nZ;simp only;rw [h1,h2];simp only;rw [if_pos h]
theorem Yk {xs ys:List D} (h0:xs≠[]) (h:xs.length+ys.length<=sizeLine):aH .Add (.tup xs) (.tup ys) S=some (.tup (xs++ys),S):=by
 unfold aH nZ;simp only;rw [if_pos ⟨h0,h⟩]
theorem yx {i j:Int}:aH .Sub (.int i) (.int j) S=some (.int (i - j),S):=rfl
theorem Cw {i j:Int} (h:bI i j=true):aH .Mult (.int i) (.int j) S=some (.int (i*j),S):=by
 unfold aH qH;simp only;rw [if_pos h]
theorem kE {i j:Int} (h:dZ j=true):aH .FloorDiv (.int i) (.int j) S=some (.int (i.fdiv j),S):=by
 unfold aH qK;simp only;rw [if_pos h]
theorem m8 {i j:Int} (h:j≠0):aH .Mod (.int i) (.int j) S=some (.int (i.fmod j),S):=by
 unfold aH qI;simp only;rw [if_pos h]
theorem Oo {i j:Int}:bf .Lt (.int i) (.int j) S=some (.bl (decide (i<j)),S):=rfl
theorem V3 {i j:Int}:bf .LtE (.int i) (.int j) S=some (.bl (decide (i<=j)),S):=rfl
theorem G3 {i j:Int}:bf .Gt (.int i) (.int j) S=some (.bl (decide (j<i)),S):=rfl
theorem V2 {i j:Int}:bf .GtE (.int i) (.int j) S=some (.bl (decide (j<=i)),S):=rfl
theorem yp {i j:Int}:bf .Eq (.int i) (.int j) S=some (.bl (decide (i=j)),S):=rfl
theorem V4 {i j:Int}:bf .NotEq (.int i) (.int j) S=some (.bl (!decide (i=j)),S):=rfl
theorem mz:bf .Is x .non S=some (.bl (oV x),S):=by cases x<;>rfl
theorem Je:bf .IsNot x .non S=some (.bl (!oV x),S):=by cases x<;>rfl
theorem G6 {i:Int}:oM (.int i) S=some (.int (-i),S):=rfl
theorem gK {i:Int} (h:fj xs i=some z):aM (.tup xs) (.int i) S=some (z,S):=by unfold aM;simp only;rw [h];rfl
theorem ug {n:Nat} {i:Int} (h1:S[n]?=some (.lst xs)) (h:fj xs i=some z):aM (.ref n) (.int i) S=some (z,S):=by unfold aM;simp only;rw [h1];simp only;rw [h];rfl
theorem O1 {n:Nat} {i:Int} (h1:S[n]?=some (.frz xs)) (h:fj xs i=some z):aM (.ref n) (.int i) S=some (z,S):=by unfold aM;simp only;rw [h1];simp only;rw [h];rfl
theorem mD (h:ds.length<=sizeLine):cu ds S=some (.tup ds,S):=by unfold cu;rw [if_pos h]
theorem wF (h:ds.length<=sizeLine):jM ds S=some (.ref S.length,S++[.lst ds]):=by unfold jM;rw [if_pos h]
theorem zn3:gm [.tup xs] S=some (.int xs.length,S):=rfl
theorem oZ {n:Nat} (h1:S[n]?=some (.lst xs)):gm [.ref n] S=some (.int xs.length,S):=by unfold gm;simp only;rw [h1]
theorem Hw {n:Nat} (h1:S[n]?=some (.frz xs)):gm [.ref n] S=some (.int xs.length,S):=by unfold gm;simp only;rw [h1]
theorem Jq {n:Nat} (h1:S[n]?=some (.lst xs)):lZ [.ref n] S=some (.tup xs,S):=by unfold lZ;simp only;rw [h1]
theorem Jf {n:Nat} (h1:S[n]?=some (.lst xs)):lF [.ref n] S=some (.ref S.length,S++[.lst xs]):=by unfold lF;simp only;rw [h1]
theorem Q5:lF [.tup xs] S=some (.ref S.length,S++[.lst xs]):=rfl
theorem zn2 {i j:Int}:j9 [.int i,.int j] S=some (.int (if j>i then j else i),S):=rfl
theorem OD {i:Int}:qW [.int i] S=some (.int (if i<0 then -i else i),S):=rfl
theorem Hx {n:Nat} {ns:List Int} {m:Int} (h1:S[n]?=some (.lst (ns.map .int))) (h:jo ns=some m):pO [.ref n] S=some (.int m,S):=by unfold pO qJ;simp only;rw [h1];simp only;rw [R4];simp only [cg];rw [h];rfl
theorem PB {n:Nat} {ns:List Int} {m:Int} (h1:S[n]?=some (.lst (ns.map .int))) (h:je ns=some m):j9 [.ref n] S=some (.int m,S):=by unfold j9 nY;simp only;rw [h1];simp only;rw [R4];simp only [cg];rw [h];rfl
theorem zi5 (bs:List Bool):t8 (bs.map D.bl)=some bs:=by
 induction bs with
 | nil=>rfl
 | cons n r ih=>simp [t8,ih]
theorem VR {n:Nat} {bs:List Bool} (h1:S[n]?=some (.lst (bs.map .bl))):oK [.ref n] S=some (.bl (bs.all id),S):=by unfold oK;simp only;rw [h1];simp only;rw [zi5];rfl
theorem Z8 {n:Nat} {bs:List Bool} (h1:S[n]?=some (.lst xs)) (h2:t8 xs=some bs):oK [.ref n] S=some (.bl (bs.all id),S):=by unfold oK;simp only;rw [h1];simp only;rw [h2];rfl
theorem Q6 {n:Nat} {ns:List Int} {m:Int} (h1:S[n]?=some (.lst xs)) (h2:mq xs=some ns) (h:je ns=some m):j9 [.ref n] S=some (.int m,S):=by unfold j9 nY;simp only;rw [h1];simp only;rw [h2];simp only [cg];rw [h];rfl
theorem zlN {i j:Int}:pO [.tup [.int i,.int j]] S=some (.int (if j<i then j else i),S):=rfl
theorem zlO {i j:Int}:j9 [.tup [.int i,.int j]] S=some (.int (if j>i then j else i),S):=rfl
theorem Ir {n:Nat} (h1:S[n]?=some (.lst xs)) (h:xs.length<sizeLine) {S3:So} (h3:S.set n (.lst (xs++[d]))=S3):rB (.ref n) [d] S=some (.non,S3):=by
 unfold rB;simp only;rw [h1];simp only;rw [if_pos h,h3]
theorem yo {g:GM} {n:Nat} {r:Option (D×So)} (h1:fo σ S=some (.ref n,S1)) (h2:S1[n]?=some (.lst xs)) (h3:aa σ S1=some (ds,S2)) (h4:g (.ref n) ds S2=r):eM g fo aa σ S=r:=by
 unfold eM;rw [h1];simp only [cg];rw [h2];simp only;rw [h3];exact h4
theorem yw {fl fh:PF} {l h:Option Int} {S3:So} {r:Option (D×So)} (h1:fe σ S=some (x,S1)) (h2:fl σ S1=some (l,S2)) (h3:fh σ S2=some (h,S3)) (h4:sX x l h S3=r):jJ fe fl fh σ S=r:=by
 unfold jJ;rw [h1];simp only [cg];rw [h2];simp only [cg];rw [h3];exact h4
theorem Dl:kh σ S=some (none,S):=rfl
theorem Dm {i:Int} (h:fe σ S=some (.int i,S1)):jE fe σ S=some (some i,S1):=by unfold jE;rw [h];rfl
theorem G8 {l h:Option Int} {ys:List D} (hc:¬ (HT.sIx xs.length 0 l=0/\HT.sIx xs.length xs.length h=xs.length)) (e:jn xs l h=ys):sX (.tup xs) l h S=some (.tup ys,S):=by
 unfold sX;simp only;rw [if_pos hc,e]
theorem G7 {n:Nat} {l h:Option Int} {ys:List D} (h1:S[n]?=some (.lst xs)) (e:jn xs l h=ys):sX (.ref n) l h S=some (.ref S.length,S++[.lst ys]):=by
 unfold sX;simp only;rw [h1];simp only;rw [e]
theorem Dj:jn (x::xs) (some 1) none=xs:=by
 unfold jn
 have h1:HT.sIx (x::xs).length 0 (some 1)=1:=by
  unfold HT.sIx
  simp
  try omega
 have h2:HT.sIx (x::xs).length (x::xs).length none=(x::xs).length:=rfl
 rw [h1,h2]
 simp
theorem QR:jn (x::xs) none (some 1)=[x]:=by
 unfold jn
 have h1:HT.sIx (x::xs).length (x::xs).length (some 1)=1:=by
  unfold HT.sIx
  simp
  try omega
 have h2:HT.sIx (x::xs).length 0 none=0:=rfl
 rw [h1,h2]
 simp
theorem rJ {j:Int} (h1:aa σ S=some ([.int j],S1)) (hb : -(2 ^ 62)<=j/\j<2 ^ 62):gn aa σ S=some (.fix (cU 0 j.toNat),S1):=by
 unfold gn;rw [h1];simp only [cg];rw [if_pos hb]
theorem Ij (h1:fe σ S=some (.tup xs,S1)):dz fe σ S=some (.fix xs,S1):=by unfold dz;rw [h1];rfl
theorem lJ {n:Nat} (h1:fe σ S=some (.ref n,S1)) (h2:S1[n]?=some (.lst xs)):dz fe σ S=some (.lst n,S1):=by unfold dz;rw [h1];simp only [cg];rw [h2]
theorem zn5 {xss:List (List D)} (h1:aa σ S=some (ds,S1)) (h2:2<=ds.length/\ds.length<=4) (h3:oW S1 ds=some xss):pL aa σ S=some (.zip ds,S1):=by
 unfold pL;rw [h1];simp only [cg];rw [if_pos h2,h3];rfl
theorem m7 {fi:IF} {g:GF} {t:TF} {src:List (Option Nat)} {j:xR} {n:Nat} {ys:List D} (h1:fi σ S=some (j,S1)) (h2:pJ j S1=some n) (hn:n<=sizeLine) (hτ:mO src σ=σ1) (h3:iw (cO j) g t fe n 0 σ1 S1 []=some (ys,S2)):cX fi g t fe src σ S=some (.ref S2.length,S2++[.lst ys]):=by
 subst hτ;unfold cX Fx;rw [h1];simp only [cg];rw [h2];simp only [cg];rw [if_pos hn,h3];rfl
theorem wD {nx:Nat->So->Option (Option D)} {g:GF} {t:TF} {i:Nat} {acc:List D} (h:nx i S=some none):iw nx g t fe 0 i σ S acc=some (acc,S):=by unfold iw;rw [h]
theorem rC {nx:Nat->So->Option (Option D)} {g:GF} {t:TF} {k i:Nat} {acc acc':List D} {r:Option (List D×So)} {S3:So} (h:nx i S=some (some d)) (h1:g d σ S=some (σ1,S1)) (h2:t σ1 S1=some (true,S2)) (h3:fe σ1 S2=some (x,S3)) (ha:acc++[x]=acc')
 (h4:iw nx g t fe k (i+1) σ1 S3 acc'=r):iw nx g t fe (k+1) i σ S acc=r:=by
 unfold iw;rw [h];simp only;rw [h1];simp only [cg];rw [h2];simp only [cg,if_true];rw [h3];rw [<-ha] at h4;exact h4
theorem mC {fi:IF} {g:GF} {f:SF} {j:xR} {n:Nat} {r:SR} (h1:fi σ S=some (j,S1)) (h2:pJ j S1=some n) (h3:iQ (cO j) g f n 0 σ S1=r):jX fi g f σ S=r:=by
 unfold jX;rw [h1];simp only [cg];rw [h2];exact h3
theorem Hv {nx:Nat->So->Option (Option D)} {g:GF} {f:SF} {i:Nat} (h:nx i S=some none):iQ nx g f 0 i σ S=some (.nx,σ,S):=by unfold iQ;rw [h]
def vm (fl:Fl) (nx:Nat->So->Option (Option D)) (g:GF) (f:SF) (k i:Nat) (σ:Sg) (S:So):SR:=match fl with
 | .nx=>iQ nx g f k i σ S
 | .ct=>iQ nx g f k i σ S
 | .bk=>some (.nx,σ,S)
 | .rt d=>some (.rt d,σ,S)
theorem lH {nx:Nat->So->Option (Option D)} {g:GF} {f:SF} {k i:Nat} {fl:Fl} {σ2:Sg} {r:SR} (h:nx i S=some (some d)) (h1:g d σ S=some (σ1,S1)) (h2:f σ1 S1=some (fl,σ2,S2)) (h3:vm fl nx g f k (i+1) σ2 S2=r):iQ nx g f (k+1) i σ S=r:=by
 unfold iQ;rw [h];simp only;rw [h1];simp only [cg];rw [h2];simp only [cg];cases fl<;>exact h3
theorem Dc {nx:Nat->So->Option (Option D)} {g:GF} {f:SF} {k i:Nat} {r:SR} (h:iQ nx g f k i σ S=r):vm .nx nx g f k i σ S=r:=h
theorem Df {nx:Nat->So->Option (Option D)} {g:GF} {f:SF} {k i:Nat}:vm (.rt z) nx g f k i σ S=some (.rt z,σ,S):=rfl
theorem Xg {i:Nat} (h:xs[i]?=some d):cO (.fix xs) i S=some (some d):=by show some xs[i]?=_;rw [h]
theorem uh {n i:Nat} (h1:S[n]?=some (.lst xs)) (h:xs[i]?=some d):cO (.lst n) i S=some (some d):=by unfold cO;simp only;rw [h1];simp only;rw [h]
theorem Ol {n i:Nat} {lo:Int} {z:Int} (h:i<n) (hz:lo+(i:Nat)=z):cO (.fix (cU lo n)) i S=some (some (.int z)):=by
 unfold cO;simp only;rw [xj,if_pos h,hz]
theorem cI {o:O}:(S++[o])[S.length]?=some o:=by simp
theorem fO {o p:O} {n:Nat} (h:S[n]?=some o):(S++[p])[n]?=some o:=by
 rw [jW (dN.mp h).1];exact h
end
end MX
end
section
namespace MX
open PySem L2
def eG:Nat->D->Bool
 | _,.non=>true
 | _,.int _=>true
 | _,.str x=>PyData.strOk x
 | n+1,.tup xs=>xs.all (eG n)
 | _,_=>false
def ju:Nat->D->PyData
 | _,.int i => .int i
 | _,.str x => .str x
 | n+1,.tup xs => .tuple (xs.map (ju n))
 | _,_ => .none
theorem wV {f:D->Option PyData} {g:D->PyData}:∀ {xs:List D},(∀ d∈xs,f d=some (g d))->lE f xs=some (xs.map g)
 | [],_=>rfl
 | d::r,h=>by
  unfold lE
  rw [h d fL,wV (xs:=r) λe he=>h e (cM _ he)]
  rfl
theorem wU {S:So}:∀ {n:Nat} {d:D},eG n d=true->cZ S (n+1) d=some (ju n d)
 | n,.obj _ _ _,h=>by cases n<;>cases h
 | n,.non,_=>by simp [cZ];cases n<;>rfl
 | n,.int i,_=>by simp [cZ];cases n<;>rfl
 | n,.str x,_=>by simp [cZ];cases n<;>rfl
 | n+1,.tup xs,h=>by
  unfold eG at h
  rw [List.all_eq_true] at h
  unfold cZ
  rw [wV λd hd=>wU (h d hd)]
  rfl
 | 0,.tup xs,h=>by simp [eG] at h
 | _,.bl _,h=>by simp [eG] at h
 | _,.ref _,h=>by simp [eG] at h
 | _,.ty _,h=>by simp [eG] at h
 | _,.adr _,h=>by simp [eG] at h
theorem ux {S:So}:∀ {n m:Nat} {d:D} {p:PyData},cZ S n d=some p->n<=m->cZ S m d=some p
 | 0,_,_,_,h,_=>by simp [cZ] at h
 | n+1,0,_,_,_,hm=>by omega
 | n+1,m+1,d,p,h,hm=>by
  have aux:∀ {xs:List D} {ps:List PyData},lE (cZ S n) xs=some ps->lE (cZ S m) xs=some ps:=λ{xs}=>by
   induction xs with
   | nil=>intro ps e;exact e
   | cons x r ih =>
    intro ps e
    simp only [lE,bA,aU] at e ⊢
    obtain ⟨q,e1,qs,e2,e3⟩:=e
    exact ⟨q,ux e1 (by omega),qs,ih e2,e3⟩
  cases d with
  | tup xs =>
   simp only [cZ,aU] at h ⊢
   obtain ⟨ps,e1,e2⟩:=h
   exact ⟨ps,aux e1,e2⟩
  | ref k =>
   simp only [cZ] at h ⊢
   split at h
   ·rename_i q
    simp only [aU] at h ⊢
    obtain ⟨ps,e1,e2⟩:=h
    exact ⟨ps,aux e1,e2⟩
   ·rename_i q
    simp only [aU] at h ⊢
    obtain ⟨ps,e1,e2⟩:=h
    exact ⟨ps,aux e1,e2⟩
   ·cases h
  | non=>simpa [cZ] using h
  | bl b=>simpa [cZ] using h
  | int i=>simpa [cZ] using h
  | str x=>simpa [cZ] using h
  | obj _ _ _=>simp [cZ] at h
  | ty x=>simp [cZ] at h
  | adr x=>simp [cZ] at h
theorem Cj {ps:List PyData} (h:∀ p∈ps,PyData.canLay0 p=true):PyData.canLayAll0 ps=true:=by
 induction ps with
 | nil=>rfl
 | cons p r ih=>unfold PyData.canLayAll0;rw [h p fL,ih λq hq=>h q (cM _ hq)];rfl
theorem Ck {ps:List PyData} {n:Nat} (h:∀ p∈ps,PyData.depth p<=n):PyData.depthAll ps<=n:=by
 induction ps with
 | nil=>exact Nat.zero_le _
 | cons p r ih=>unfold PyData.depthAll;exact Nat.max_le.mpr ⟨h p fL,ih λq hq=>h q (cM _ hq)⟩
theorem yt:∀ {n:Nat} {d:D},eG n d=true->PyData.canLay0 (ju n d)=true/\PyData.depth (ju n d)<=n
 | n,.obj _ _ _,h=>by cases n<;>cases h
 | n,.non,_=>by cases n<;>exact ⟨rfl,Nat.zero_le _⟩
 | n,.int i,_=>by cases n<;>exact ⟨rfl,Nat.zero_le _⟩
 | n,.str x,h=>by
  have h':PyData.strOk x=true:=by cases n<;>simpa [eG] using h
  cases n<;>exact ⟨h',Nat.zero_le _⟩
 | n+1,.tup xs,h=>by
  unfold eG at h
  rw [List.all_eq_true] at h
  constructor
  ·show PyData.canLayAll0 (xs.map (ju n))=true
   refine Cj λp hp=>?_
   obtain ⟨d,hd,rfl⟩:=List.mem_map.mp hp
   exact (yt (h d hd)).1
  ·show PyData.depthAll (xs.map (ju n))+1<=n+1
   refine Nat.succ_le_succ (Ck λp hp=>?_)
   obtain ⟨d,hd,rfl⟩:=List.mem_map.mp hp
   exact (yt (h d hd)).2
 | 0,.tup xs,h=>by simp [eG] at h
 | _,.bl _,h=>by simp [eG] at h
 | _,.ref _,h=>by simp [eG] at h
 | _,.ty _,h=>by simp [eG] at h
 | _,.adr _,h=>by simp [eG] at h
theorem SM {n:Nat} {d:D} (h:eG n d=true) (hn:n<=64):SeqAt.shaped (ju n d)=true:=by
 unfold SeqAt.shaped
 obtain ⟨a,b⟩:=yt h
 rw [a,Bool.true_and]
 exact decide_eq_true (by omega)
theorem Qi {f:D->PyData} {xs:List D}:∀ {ys:List D},(∀ x∈xs,∀ y∈ys,(PyData.eqv (f x) (f y)=true↔x=y))->(PyData.eqvAll (xs.map f) (ys.map f)=true↔xs=ys):=by
 induction xs with
 | nil=>intro ys h;cases ys<;>simp [PyData.eqvAll]
 | cons x r ih =>
  intro ys h
  cases ys with
  | nil=>simp [PyData.eqvAll]
  | cons y s =>
   simp only [iM,PyData.eqvAll,cR,List.cons.injEq]
   rw [h x fL y fL,ih λa ha b hb=>h a (cM _ ha) b (cM _ hb)]
theorem Ie:∀ {n:Nat} {x y:D},eG n x=true->eG n y=true->(PyData.eqv (ju n x) (ju n y)=true↔x=y):=by
 intro n
 induction n with
 | zero =>
  intro x y hx hy
  cases x<;>cases y<;>simp_all [eG,ju,PyData.eqv]
 | succ n ih =>
  intro x y hx hy
  cases x<;>cases y<;>simp_all [eG,ju,PyData.eqv]
  exact Qi λa ha b hb=>ih (hx a ha) (hy b hb)
open Classical in
theorem Qh {S:So} {x y:D} (n:Nat) (hx:eG n x=true) (hy:eG n y=true) (hn:n<=23:=by decide):jx S x y=some (decide (x=y)):=by
 unfold jx
 rw [ux (wU hx) (by omega),ux (wU hy) (by omega)]
 simp only [cg]
 rw [if_pos ⟨SM hx (by omega),SM hy (by omega)⟩]
 congr 1
 rw [Bool.eq_iff_iff,Ie hx hy,vW]
open Classical in
theorem Yi {S:So} {n m:Nat} {xs ys:List D} (k:Nat) (h1:S[n]?=some (.lst xs)\/S[n]?=some (.frz xs)) (h2:S[m]?=some (.lst ys)\/S[m]?=some (.frz ys)) (hx:∀ x∈xs,eG k x=true) (hy:∀ y∈ys,eG k y=true) (hk:k<=20:=by decide) :
 jx S (.ref n) (.ref m)=some (decide (xs=ys)):=by
 have e1:cZ S (k+2) (.ref n)=some (.list (xs.map (ju k))):=by
  unfold cZ
  rcases h1 with h1 | h1<;>(rw [h1];simp only;rw [wV λd hd=>wU (hx d hd)];rfl)
 have e2:cZ S (k+2) (.ref m)=some (.list (ys.map (ju k))):=by
  unfold cZ
  rcases h2 with h2 | h2<;>(rw [h2];simp only;rw [wV λd hd=>wU (hy d hd)];rfl)
 have sh:∀ zs:List D,(∀ z∈zs,eG k z=true)->SeqAt.shaped (.list (zs.map (ju k)))=true:=λzs hz=>by
  unfold SeqAt.shaped
  rw [cR]
  constructor
  ·show PyData.canLayAll0 _=true
   refine Cj λp hp=>?_
   obtain ⟨d,hd,rfl⟩:=List.mem_map.mp hp
   exact (yt (hz d hd)).1
  ·refine decide_eq_true ?_
   show PyData.depthAll _+1<=64
   have:PyData.depthAll (zs.map (ju k))<=k:=Ck λp hp=>by
    obtain ⟨d,hd,rfl⟩:=List.mem_map.mp hp
    exact (yt (hz d hd)).2
   omega
 unfold jx
 rw [ux e1 (by omega),ux e2 (by omega)]
 simp only [cg]
 rw [if_pos ⟨sh xs hx,sh ys hy⟩]
 congr 1
 rw [Bool.eq_iff_iff,vW]
 show PyData.eqvAll _ _=true↔_
 exact Qi λa ha b hb=>Ie (hx a ha) (hy b hb)
section
variable {S:So} {x y:D}
def Aa:D->D->Bool
 | .int _,.int _=>false
 | _,_=>true
open Classical in
theorem wC (h:Aa x y=true) (n:Nat) (hx:eG n x=true) (hy:eG n y=true) (hn:n<=23):bf .Eq x y S=some (.bl (decide (x=y)),S):=by
 have e:bf .Eq x y S=(jx S x y).map λb=>(.bl b,S):=by cases x<;>cases y<;>first | rfl | cases h
 rw [e,Qh n hx hy hn];rfl
open Classical in
theorem Xv (h:Aa x y=true) (n:Nat) (hx:eG n x=true) (hy:eG n y=true) (hn:n<=23):bf .NotEq x y S=some (.bl (!decide (x=y)),S):=by
 have e:bf .NotEq x y S=(jx S x y).map λb=>(.bl (!b),S):=by cases x<;>cases y<;>first | rfl | cases h
 rw [e,Qh n hx hy hn];rfl
open Classical in
theorem V1 {n m:Nat} {xs ys:List D} (k:Nat) (h1:S[n]?=some (.lst xs)\/S[n]?=some (.frz xs)) (h2:S[m]?=some (.lst ys)\/S[m]?=some (.frz ys)) (hx:∀ x∈xs,eG k x=true) (hy:∀ y∈ys,eG k y=true) (hk:k<=20) :
 bf .Eq (.ref n) (.ref m) S=some (.bl (decide (xs=ys)),S):=by
 show (jx S (.ref n) (.ref m)).map _=_
 rw [Yi k h1 h2 hx hy hk];rfl
end
end MX
end
section
namespace MX
open PySem L2
open Builtin.Int (intBits)
def Bd (k:Nat) (x:Int):Prop:=x.natAbs<2 ^ k
theorem Bd.le {k l:Nat} {x:Int} (h:Bd k x) (hl:k<=l):Bd l x:=dj h (Nat.pow_le_pow_right (by decide) hl)
theorem Bd.add {k l:Nat} {x y:Int} (h:Bd k x) (g:Bd l y):Bd (max k l+1) (x+y):=by
 have h1:=h.le (Nat.le_max_left k l)
 have h2:=g.le (Nat.le_max_right k l)
 unfold Bd at *
 rw [Nat.pow_succ]
 have:=Int.natAbs_add_le x y
 omega
theorem Bd.neg {k:Nat} {x:Int} (h:Bd k x):Bd k (-x):=by unfold Bd at *;rw [Int.natAbs_neg];exact h
theorem Bd.sub {k l:Nat} {x y:Int} (h:Bd k x) (g:Bd l y):Bd (max k l+1) (x - y):=by
 rw [Int.sub_eq_add_neg];exact h.add g.neg
theorem Bd.mul {k l:Nat} {x y:Int} (h:Bd k x) (g:Bd l y):Bd (k+l) (x*y):=by
 unfold Bd at *
 rw [Int.natAbs_mul,Nat.pow_add]
 exact Nat.mul_lt_mul'' h g
theorem Bd.lit (x:Int):Bd (intBits x) x:=by
 unfold Bd intBits
 split
 ·rename_i h
  have:x=0:=by simpa using h
  subst this;decide
 ·exact Nat.lt_log2_self
theorem Bd.fmod {m x:Int} (h:0<m):Bd (intBits m) (x.fmod m):=by
 have h1:=lq x h
 have h2:=lg x h
 have h3:=Bd.lit m
 unfold Bd at *
 omega
theorem Xx {i j:Int} {S:So} (h:0<=j/\j<=1000000/\i.natAbs<2 ^ 64):aH .LShift (.int i) (.int j) S=some (.int (i*2 ^ j.toNat),S):=by
 unfold aH qG;simp only;rw [if_pos h]
theorem Bd.bits {k:Nat} {x:Int} (h:Bd k x):intBits x<=k:=by
 unfold Bd at h
 unfold intBits
 split
 ·exact Nat.zero_le _
 ·rename_i hn
  have hx:x.natAbs≠0:=λe=>hn (by have:=Int.natAbs_eq_zero.mp e;subst this;rfl)
  exact (Nat.log2_lt hx).mpr h
theorem jt {k l:Nat} {x y:Int} (h:Bd k x) (g:Bd l y) (hl:k+l<=134217728):bI x y=true:=by
 unfold bI
 have h1:=h.bits
 have h2:=g.bits
 rw [qR]
 exact .inr (decide_eq_true (by omega))
theorem HF {x y:Int} (h:intBits y<=64):bI x y=true:=by
 unfold bI
 rw [qR,qR]
 exact .inl (.inr (decide_eq_true h))
theorem QT {k:Nat} {y:Int} (h:Bd k y) (h0:y≠0) (hl:k<=8000):dZ y=true:=by
 unfold dZ
 have:=h.bits
 rw [cR]
 exact ⟨decide_eq_true h0,decide_eq_true (by omega)⟩
abbrev P3 (x y z:Int):D := .tup [.int x,.int y,.int z]
abbrev R2 (x y:Int):D := .tup [.int x,.int y]
end MX
namespace MX
open PySem L2
theorem D.lo_mono:∀ {d:D} {n m:Nat},n<=m->D.lo n d=true->D.lo m d=true:=by
 have key:∀ (k:Nat) (d:D) (n m:Nat),sizeOf d<=k->n<=m->D.lo n d=true->D.lo m d=true:=by
  intro k
  induction k with
  | zero=>intro d n m hk;cases d<;>simp at hk
  | succ k ih =>
   intro d n m hk hm h
   cases d with
   | tup xs =>
    rw [D.lo] at h ⊢
    have aux:∀ ys:List D,sizeOf ys<=k->cA n ys=true->cA m ys=true:=by
     intro ys
     induction ys with
     | nil=>intro _ _;simp [cA]
     | cons y r ihr =>
      intro hs hl
      rw [cA,cR] at hl ⊢
      simp at hs
      exact ⟨ih y n m (by omega) hm hl.1,ihr (by omega) hl.2⟩
    exact aux xs (by simp at hk;omega) h
   | obj _ _ xs =>
    rw [D.lo] at h ⊢
    have aux:∀ ys:List D,sizeOf ys<=k->cA n ys=true->cA m ys=true:=by
     intro ys
     induction ys with
     | nil=>intro _ _;simp [cA]
     | cons y r ihr =>
      intro hs hl
      rw [cA,cR] at hl ⊢
      simp at hs
      exact ⟨ih y n m (by omega) hm hl.1,ihr (by omega) hl.2⟩
    exact aux xs (by simp at hk;omega) h
   | ref j=>rw [D.lo] at h ⊢;exact decide_eq_true (dj (of_decide_eq_true h) hm)
   | _=>simp [D.lo]
 exact λ{d n m} hm h=>key (sizeOf d) d n m (bR _) hm h
theorem ji {n:Nat}:∀ {xs:List D},cA n xs=true↔∀ x∈xs,D.lo n x=true
 | []=>by simp [cA]
 | x::r=>by rw [cA,cR,ji (xs:=r)];simp
theorem Iv {n m:Nat} {xs:List D} (hm:n<=m) (h:cA n xs=true):cA m xs=true:=ji.mpr λx hx=>D.lo_mono hm (ji.mp h x hx)
theorem O.lo_mono {n m:Nat} {o:O} (hm:n<=m) (h:O.lo n o=true):O.lo m o=true:=by
 cases o with
 | lst xs=>exact Iv hm h
 | frz xs=>exact Iv hm h
 | ins C fs=>exact Iv hm h
 | dct xs=>rfl
 | tbl x=>rfl
theorem WF.snoc {S:So} {o:O} (h:WF S) (ho:O.lo S.length o=true):WF (S++[o]):=λp hp=>by
 rw [gQ,List.length_singleton]
 rcases jK.mp hp with hp | hp
 ·exact O.lo_mono (Nat.le_succ _) (h p hp)
 ·rw [List.mem_singleton.mp hp];exact O.lo_mono (Nat.le_succ _) ho
theorem Dh (n:Nat) (ns:List Int):O.lo n (.lst (ns.map .int))=true:=ji.mpr λx hx=>by
 obtain ⟨i,_,rfl⟩:=List.mem_map.mp hx
 simp [D.lo]
end MX
namespace MX.P
open PySem L2 MX
abbrev Pt:=Int×Int×Int
abbrev pD (p:Pt):D:=P3 p.1 p.2.1 p.2.2
theorem lo_pts (n:Nat) (pts:List Pt):O.lo n (.lst (pts.map pD))=true:=ji.mpr λx hx=>by
 obtain ⟨i,_,rfl⟩:=List.mem_map.mp hx
 simp [D.lo,cA]
theorem Hq {fe:EF} {S:So} {m:Nat} {rest:Sg} (h:Nat->D) (hstep:∀ k:Nat,k<m->fe (some (.int (k:Nat))::rest) S=some (h k,S)) :
 iw (cO (.fix (cU 0 m))) (aG 0) cF fe m 0 (none::rest) S []=some ((List.range m).map h,S):=by
 have hl:(cU 0 m).length=m:=by simp [cU]
 have:=Dn (nx:=cO (.fix (cU 0 m))) (g:=aG 0) (t:=cF) (fe:=fe) (S:=S) (xs:=cU 0 m) (λτ=>∃ v,τ=v::rest) (λ_=>true) (λd=>match d with | .int i=>h i.toNat | _ => .non)
  (λi=>rfl) (λd hd τ hT=>?_) m 0 (none::rest) [] ⟨none,rfl⟩ (by rw [hl];omega)
 ·rw [this,vV,List.drop_zero,List.filter_eq_self.mpr (λ_ _=>rfl)]
  congr 2
  unfold cU
  rw [List.map_map]
  refine List.map_congr_left λk _=>?_
  show h ((0:Int)+(k:Nat)).toNat=h k
  congr 1
  omega
 ·obtain ⟨v,rfl⟩:=hT
  unfold cU at hd
  obtain ⟨k,hk,rfl⟩:=List.mem_map.mp hd
  refine ⟨some (.int ((0:Int)+(k:Nat)))::rest,rfl,⟨_,rfl⟩,rfl,λ_=>?_⟩
  have e:((0:Int)+(k:Nat))=(k:Nat):=by omega
  rw [e,hstep k (List.mem_range.mp hk)]
  congr
end MX.P
end
open MX
local macro_rules | `(tactic| wtm_at "?o") => `(tactic| first | rfl | assumption | exact lG (by first | assumption | rfl | omega) | exact jP (by first | assumption | omega) | (simp only [Bool.not_eq_true', Bool.not_eq_false', Bool.not_true, Bool.not_false, vW, decide_eq_false_iff_not, oV]; first | assumption | omega))
local macro_rules | `(tactic| wtm_at "?e") => `(tactic| first | assumption | exact cI | (apply fO; wtm_at "?e"))
local macro_rules | `(tactic| wtm_at "?f") => `(tactic| first | assumption | ((with_reducible apply Bd.mul); (focus wtm_at "?f"); (focus wtm_at "?f")) | ((with_reducible apply Bd.add); (focus wtm_at "?f"); (focus wtm_at "?f")) | ((with_reducible apply Bd.sub); (focus wtm_at "?f"); (focus wtm_at "?f")) | ((with_reducible apply Bd.neg); wtm_at "?f") | ((with_reducible apply Bd.fmod); decide) | ((with_reducible apply Bd.fmodV); (focus first | assumption | decide); (focus wtm_at "?f")) | ((with_reducible apply Bd.fdiv); (focus wtm_at "?f"); (focus first | decide | assumption | omega)) | exact Bd.lit _)
local macro_rules | `(tactic| wtm_at "?u") => `(tactic| (apply Bd.le; (focus wtm_at "?f"); (focus first | decide | (simp only [Nat.reduceAdd, Nat.reduceMax, Nat.max_self]; omega))))
local macro_rules | `(tactic| wtm_at "?k") => `(tactic| first | assumption | rfl | wtm_at "?e" | (refine HF (by decide)) | (refine mulOk_l (by decide)) | (apply jt; (focus wtm_at "?f"); (focus wtm_at "?f"); (focus first | decide | omega)) | wtm_at "?u" | decide | omega)
local macro_rules | `(tactic| wtm_at "?l") => `(tactic| first | assumption | ((with_reducible apply WF.snoc); (focus wtm_at "?l"); (focus first | exact Dh _ _ | assumption | rfl)))
local macro_rules | `(tactic| wtm_at "?h") => `(tactic| first
 | (with_reducible first | exact Cu | exact yx | exact Oo | exact V3 | exact G3 | exact V2 | exact yp | exact V4 | exact mz | exact Je | exact G6)
 | ((with_reducible apply Cw);wtm_at "?k") | ((with_reducible apply m8);wtm_at "?k") | ((with_reducible apply kE);first | decide | wtm_at "?k") | ((with_reducible apply Xx);decide)
 | ((with_reducible apply gK);first | (with_reducible assumption) | rfl) | ((with_reducible apply ug);(focus wtm_at "?e");(focus first | (with_reducible assumption) | rfl)) | ((with_reducible apply O1);(focus wtm_at "?e");(focus first | (with_reducible assumption) | rfl))
 | (refine wC ?_ 8 ?_ ?_ ?_<;>first | decide +kernel | rfl | decide) | (refine Xv ?_ 8 ?_ ?_ ?_<;>first | decide +kernel | rfl | decide))
local macro_rules | `(tactic| wtm_at "?p") => `(tactic| first
 | ((with_reducible apply mD);exact vR rfl) | ((with_reducible apply wF);exact vR rfl) | (with_reducible first | exact zn3 | exact zlN | exact zlO | exact ev_min2 | exact zn2 | exact OD | exact Q5)
 | ((with_reducible apply oZ);wtm_at "?e") | ((with_reducible apply Hw);wtm_at "?e") | ((with_reducible apply Jq);wtm_at "?e") | ((with_reducible apply Jf);wtm_at "?e")
 | ((with_reducible apply Z8);(focus wtm_at "?e");(focus rfl)) | ((with_reducible apply ev_minL');(focus wtm_at "?e");(focus rfl);(focus rfl)) | ((with_reducible apply Q6);(focus wtm_at "?e");(focus rfl);(focus rfl)) | ((with_reducible apply ev_minT');(focus rfl);(focus rfl)) | ((with_reducible apply ev_maxT');(focus rfl);(focus rfl))
 | ((with_reducible apply cJ);(focus rfl);(focus wtm_at "?d")))
local macro_rules | `(tactic| wtm_at "?q") => `(tactic| first | rfl | (with_reducible assumption) | exact lG (by with_reducible assumption) | exact jP (by with_reducible assumption) | exact lG rfl)
local macro_rules | `(tactic| wtm_at "?i") => `(tactic| first | (apply fV; (focus wtm_at "?q"); wtm_at "?a") | (apply fH; (focus wtm_at "?q"); wtm_at "?a") | (apply fV; (focus wtm_at "?o"); wtm_at "?a") | (apply fH; (focus wtm_at "?o"); wtm_at "?a"))
local macro_rules | `(tactic| wtm_at "?v") => `(tactic| first | (simp only [List.set_cons_zero, List.set_cons_succ, List.set]; done) | (simp only [List.set_cons_zero, List.set_cons_succ, List.set]; rfl) | rfl)
local macro_rules | `(tactic| wtm_at "?g") => `(tactic| first
 | ((with_reducible apply bT);wtm_at "?v")
 | ((with_reducible apply Cv);(focus rfl);(focus wtm_at "?g"))
 | ((with_reducible apply p7);(focus wtm_at "?g");(focus wtm_at "?g"))
 | (with_reducible exact Dk))
local macro_rules | `(tactic| wtm_at "?a") => `(tactic| first
 | (with_reducible exact aY) | ((with_reducible apply aC);rfl)
 | ((with_reducible apply aV);(focus wtm_at "?a");(focus wtm_at "?a");(focus wtm_at "?h"))
 | ((with_reducible apply bC);(focus wtm_at "?a");(focus wtm_at "?p"))
 | ((with_reducible apply aL);(focus wtm_at "?a");(focus wtm_at "?a")) | (with_reducible exact aW)
 | ((with_reducible apply aJ);(focus wtm_at "?a");(focus wtm_at "?m"))
 | ((with_reducible apply dU);wtm_at "?a") | (with_reducible first | exact dJ | exact ev_sRetN | exact PJ | exact ev_sBrk)
 | ((with_reducible apply cD);(focus wtm_at "?a");(focus wtm_at "?g"))
 | ((with_reducible apply eF);(focus wtm_at "?a");(focus wtm_at "?i"))
 | ((with_reducible apply uo);wtm_at "?a")
 | ((with_reducible apply eY);wtm_at "?a") | ((with_reducible apply Hy);wtm_at "?a")
 | ((with_reducible apply zn1);(focus wtm_at "?a");(focus wtm_at "?i")) | ((with_reducible apply rF);(focus wtm_at "?a");(focus wtm_at "?i"))
 | ((with_reducible apply yG);(focus wtm_at "?a");(focus rfl))
 | ((with_reducible apply GZ);(focus wtm_at "?a");(focus wtm_at "?h"))
 | ((with_reducible apply ev_eNot);wtm_at "?a")
 | ((with_reducible apply CT);(focus wtm_at "?a");(focus wtm_at "?i")) | ((with_reducible apply G5);(focus wtm_at "?a");(focus wtm_at "?i"))
 | ((with_reducible apply pZ);(focus wtm_at "?a");(focus wtm_at "?i"))
 | ((with_reducible apply yw);(focus wtm_at "?a");(focus wtm_at "?a");(focus wtm_at "?a");(focus wtm_at "?w")) | (with_reducible exact Dl) | ((with_reducible apply Dm);wtm_at "?a")
 | ((with_reducible apply m7);(focus wtm_at "?j");(focus rfl);(focus exact vR rfl);(focus simp only [mO,iM,List.map_nil,cg,Option.bind_none,List.getElem?_cons_zero,List.getElem?_cons_succ,Option.join_some];rfl);(focus wtm_at "?r"))
 | ((with_reducible apply mC);(focus wtm_at "?j");(focus rfl);(focus wtm_at "?n"))
 | (with_reducible exact rK)
 | exact rfl)
local macro_rules | `(tactic| wtm_at "?j") => `(tactic| first | ((with_reducible apply rJ); (focus wtm_at "?a"); (focus decide)) | ((with_reducible apply Ij); wtm_at "?a") | ((with_reducible apply zn5); (focus wtm_at "?a"); (focus exact ⟨vR rfl, vR rfl⟩); (focus rfl)) | ((with_reducible apply lJ); (focus wtm_at "?a"); (focus wtm_at "?e")))
local macro_rules | `(tactic| wtm_at "?r") => `(tactic| first | (apply rC; (focus wtm_at "?s"); (focus wtm_at "?g"); (focus wtm_at "?a"); (focus wtm_at "?a"); (focus simp only [vV, List.cons_append]; rfl); (focus wtm_at "?r")) | (apply wD; rfl))
local macro_rules | `(tactic| wtm_at "?t") => `(tactic| first | (simp only [List.getElem?_cons_zero, List.getElem?_cons_succ]; done) | (simp only [List.getElem?_cons_zero, List.getElem?_cons_succ]; rfl) | rfl)
local macro_rules | `(tactic| wtm_at "?s") => `(tactic| first | ((with_reducible apply Ol); (focus decide); (focus first | (simp; rfl) | rfl)) | ((with_reducible apply Xg); wtm_at "?t") | ((with_reducible apply uh); (focus wtm_at "?e"); (focus wtm_at "?t")) | rfl)
local macro_rules | `(tactic| wtm_at "?n") => `(tactic| first | (apply lH; (focus wtm_at "?s"); (focus wtm_at "?g"); (focus wtm_at "?a"); (focus wtm_at "?x")) | (apply Hv; rfl))
local macro_rules | `(tactic| wtm_at "?x") => `(tactic| first | (with_reducible first | exact Df | exact forK_bk) | ((with_reducible apply Dc); wtm_at "?n") | ((with_reducible apply forK_ct); wtm_at "?n"))
local macro_rules | `(tactic| wtm_at "?w") => `(tactic| first | ((with_reducible apply G8); (focus exact of_decide_eq_false rfl); (focus first | exact Dj | exact QR)) | ((with_reducible apply G7); (focus wtm_at "?e"); (focus first | exact Dj | exact QR | rfl)))
local macro_rules | `(tactic| wtm_at "?m") => `(tactic| first | exact cY | ((with_reducible apply aR); wtm_at "?a") | (with_reducible first | exact seqK_bk | exact HS))
local macro_rules | `(tactic| wtm_at "?b") => `(tactic| simp only [lM, iM, List.map_nil, iG, vU, Nat.reduceAdd, Nat.reduceSub, Nat.zero_add, Nat.sub_self, List.replicate, List.cons_append, vV, List.append_nil])
local macro_rules | `(tactic| wtm_at "?c") => `(tactic| first | exact lu | simp [List.take_append])
local macro_rules | `(tactic| wtm_at "?y") => `(tactic| first | assumption | (apply Gr.refl; wtm_at "?l") | ((with_reducible apply Gr.snoc); (focus wtm_at "?y"); (focus first | exact Dh _ _ | exact MX.P.lo_pts _ _ | rfl | assumption)))
section
namespace MX.P
open PySem L2 MX
theorem zfm (a b c d e f:Int) (S:So):dW [P3 a b c,P3 d e f] S=some (P3 (d - a) (e - b) (f - c),S):=by
 refine bK (σ':=[some (P3 a b c),some (P3 d e f)]) (S':=S) ?_ (by simp) rfl
 show Ey [some (P3 a b c),some (P3 d e f)] S=_
 unfold Ey
 wtm_at "?a"
theorem Yu {k l:Nat} {a b c d e f:Int} (ha:Bd k a) (hb:Bd k b) (hc:Bd k c) (hd:Bd l d) (he:Bd l e) (hf:Bd l f) (hk:k+l<=134217728) (S:So):eX [P3 a b c,P3 d e f] S=some (.int (a*d+b*e+c*f),S):=by
 refine bK (σ':=[some (P3 a b c),some (P3 d e f)]) (S':=S) ?_ (by simp) rfl
 show Cq [some (P3 a b c),some (P3 d e f)] S=_
 unfold Cq
 wtm_at "?a"
theorem zk5 {k l:Nat} {a b c d e f:Int} (ha:Bd k a) (hb:Bd k b) (hc:Bd k c) (hd:Bd l d) (he:Bd l e) (hf:Bd l f) (hk:k+l<=134217728) (S:So):iV [P3 a b c,P3 d e f] S=some (P3 (b*f - c*e) (c*d - a*f) (a*e - b*d),S):=by
 refine bK (σ':=[some (P3 a b c),some (P3 d e f)]) (S':=S) ?_ (by simp) rfl
 show CQ [some (P3 a b c),some (P3 d e f)] S=_
 unfold CQ
 wtm_at "?a"
theorem sp_is_less {k l:Nat} {a b c d:Int} (ha:Bd k a) (hb:Bd k b) (hc:Bd l c) (hd:Bd l d) (hk:k+l<=134217728) (S:So):rO [R2 a b,R2 c d] S=some (.bl (decide (a*d<c*b)),S):=by
 refine bK (σ':=[some (R2 a b),some (R2 c d)]) (S':=S) ?_ (by simp) rfl
 show DP [some (R2 a b),some (R2 c d)] S=_
 unfold DP
 wtm_at "?a"
def jY (c k:Int):Int:=(((c*6364136223846793005+(k+1)*1442695040888963407).fmod 340282366920938463463374607431768211507)*((c*6364136223846793005+(k+1)*1442695040888963407).fmod 340282366920938463463374607431768211507)).fmod 340282366920938463463374607431768211297
theorem sp_drawn (c k:Int) (S:So):qe [.int c,.int k] S=some (.int (jY c k),S):=by
 refine bK (σ':=[some (.int c),some (.int k),some (.int ((c*6364136223846793005+(k+1)*1442695040888963407).fmod 340282366920938463463374607431768211507))]) (S':=S) ?_ (by simp) rfl
 show Ea [some (.int c),some (.int k),none] S=_
 unfold Ea
 wtm_at "?a"
end MX.P
end
section
local macro_rules | `(tactic| wtm_at "?d") => `(tactic| exact MX.P.sp_drawn _ _ _)
namespace MX.P
open PySem L2 MX
def gJ (ns:List Int) (k:Int):Int:=if ns=[] then k*7919 else (ns[(k.fmod ns.length).toNat]?.getD 0)+k.fdiv ns.length*104729
theorem qz (k:Nat) (ns:List Int):∀ x∈ns.map D.int,eG k x=true:=λx hx=>by
 obtain ⟨n,_,rfl⟩:=List.mem_map.mp hx
 cases k<;>rfl
theorem o4 {ns:List Int} (hn:ns.length<=63) (k:Int) {S:So} (h:S[0]?=some (.frz (ns.map .int))):nq [.ref 0,.int k] S=some (.int (gJ ns k),S):=by
 have e1:bN (eB (bf .Eq) (aj 0) (eN jM (aq))) [some (.ref 0),some (.int k)] S=some (decide (ns.map D.int=[]),S++[.lst []]):=by
  apply eY
  apply aV
  ·wtm_at "?a"
  ·wtm_at "?a"
  ·rw [V1 0 (.inr (fO h)) (.inl cI) (qz 0 ns) (by simp) (by decide)]
 by_cases hz:ns=[]
 ·apply bK
  ·wtm_at "?b"
   unfold En
   apply aJ
   ·apply eF
    ·exact e1
    ·apply fV
     ·simp [hz]
     ·wtm_at "?a"
   ·have:gJ ns k=k*7919:=by unfold gJ;rw [if_pos hz]
    rw [this]
    wtm_at "?m"
  ·simp
  ·rfl
 ·have hl:0<ns.length:=List.length_pos_iff.mpr hz
  have hl':(0:Int)<((ns.map D.int).length:Int):=by simp;omega
  have h1:=lq k hl'
  have h2:=lg k hl'
  have hb:Bd 7 ((ns.map D.int).length:Int):=by unfold Bd;simp;omega
  have e2:fj (ns.map D.int) (k.fmod ((ns.map D.int).length:Int))=some (.int (ns[(k.fmod ns.length).toNat]?.getD 0)):=by
   unfold fj qF
   rw [if_pos h1,if_pos h2]
   simp only [cQ] at h2 h1 ⊢
   simp only [cg,eV]
   have:(k.fmod (ns.length:Int)).toNat<ns.length:=by omega
   rw [dO this]
   rfl
  apply bK
  ·wtm_at "?b"
   unfold En
   apply aJ
   ·apply eF
    ·exact e1
    ·apply fH
     ·simp [hz]
     ·wtm_at "?a"
   ·apply aR
    apply aJ
    ·apply dU
     apply aV
     ·apply aV
      ·wtm_at "?a"
      ·apply aV
       ·wtm_at "?a"
       ·apply bC
        ·wtm_at "?a"
        ·exact Hw (fO h)
       ·exact m8 (by omega)
      ·exact O1 (fO h) e2
     ·apply aV
      ·apply aV
       ·wtm_at "?a"
       ·apply bC
        ·wtm_at "?a"
        ·exact Hw (fO h)
       ·exact kE (QT hb (by omega) (by decide))
      ·wtm_at "?a"
      ·exact Cw (HF (by decide))
     ·exact Cu
    ·have:gJ ns k=(ns[(k.fmod ns.length).toNat]?.getD 0)+k.fdiv ((ns.map D.int).length:Int)*104729:=by unfold gJ;rw [if_neg hz,cQ]
     rw [this]
     exact cY
  ·simp
  ·rfl
end MX.P
end
section
namespace MX.P
open PySem L2 MX
def co (k:Int) (p:Pt):Int:=if k=0 then p.1 else if k=1 then p.2.1 else p.2.2
theorem yu {k:Int} (h0:0<=k) (h2:k<=2) (p:Pt):fj [D.int p.1,.int p.2.1,.int p.2.2] k=some (.int (co k p)):=by
 have:k=0\/k=1\/k=2:=by omega
 rcases this with rfl | rfl | rfl<;>rfl
theorem ZP {σ:Sg} {S:So} {i j n:Nat} {k:Int} {pts:List Pt} (hi:σ[i]?=some (some (.ref n))) (hj:σ[j]?=some (some (.int k))) (hn:S[n]?=some (.lst (pts.map pD))) (hl:pts.length<=1000) (h0:0<=k) (h2:k<=2) :
 cX (dz (aj i)) (aG 0) cF (eB aM (aj 0) (aj 1)) [none,some j] σ S=some (.ref S.length,S++[.lst ((pts.map (co k)).map .int)]):=by
 have key:iw (cO (.lst n)) (aG 0) cF (eB aM (aj 0) (aj 1)) (pts.map pD).length 0 [none,some (.int k)] S []=some ((pts.map (co k)).map .int,S):=by
  have:=Dn (nx:=cO (.lst n)) (g:=aG 0) (t:=cF) (fe:=eB aM (aj 0) (aj 1)) (S:=S) (xs:=pts.map pD) (λτ=>∃ v,τ=[v,some (.int k)]) (λ_=>true) (λd=>match d with | .tup xs=>(fj xs k).getD .non | _ => .non)
   (λi=>by unfold cO;simp only;rw [hn]) (λd hd τ hT=>?_) (pts.map pD).length 0 [none,some (.int k)] [] ⟨none,rfl⟩ (by simp)
  ·rw [this]
   congr 2
   rw [vV,List.drop_zero,List.filter_eq_self.mpr (λ_ _=>rfl),List.map_map,List.map_map]
   refine List.map_congr_left λp _=>?_
   show (fj [D.int p.1,.int p.2.1,.int p.2.2] k).getD .non=_
   rw [yu h0 h2];rfl
  ·obtain ⟨v,rfl⟩:=hT
   obtain ⟨p,_,rfl⟩:=List.mem_map.mp hd
   refine ⟨[some (pD p),some (.int k)],rfl,⟨_,rfl⟩,rfl,λ_=>?_⟩
   apply aV
   ·wtm_at "?a"
   ·wtm_at "?a"
   ·show aM (.tup [D.int p.1,.int p.2.1,.int p.2.2]) (.int k) S=_
    rw [gK (yu h0 h2 p)]
    show _=some ((fj [D.int p.1,.int p.2.1,.int p.2.2] k).getD .non,S)
    rw [yu h0 h2];rfl
 apply m7
 ·exact lJ (aC hi) hn
 ·show (match S[n]? with | some (.lst xs)=>some xs.length | some (.frz xs)=>some xs.length | _=>none)=_
  rw [hn]
 ·rw [sizeLine_eq,cQ];omega
 ·simp only [mO,iM,List.map_nil,cg,Option.bind_none,hj,Option.join_some];rfl
 ·exact key
theorem sp_numbers_at {S:So} {n:Nat} {k:Int} {pts:List Pt} (hS:WF S) (hn:S[n]?=some (.lst (pts.map pD))) (hl:pts.length<=1000) (h0:0<=k) (h2:k<=2) :
 Ef [.ref n,.int k] S=some (.ref S.length,S++[.lst ((pts.map (co k)).map .int)]):=by
 apply rM
 ·wtm_at "?b"
  unfold Jw
  apply aJ
  ·apply dU
   exact ZP rfl rfl hn hl h0 h2
  ·exact cY
 ·intro h;simp [D.lo] at h
 ·simp
 ·simp [D.lo]
 ·exact hS.snoc (Dh _ _)
theorem Hl {ns:List Int} (h:ns≠[]):∃ m,jo ns=some m:=by cases ns with | nil=>exact absurd rfl h | cons _ _=>exact ⟨_,rfl⟩
theorem CN {ns:List Int} (h:ns≠[]):∃ m,je ns=some m:=by cases ns with | nil=>exact absurd rfl h | cons _ _=>exact ⟨_,rfl⟩
end MX.P
local macro_rules | `(tactic| wtm_at "?d") => `(tactic| (apply MX.P.sp_numbers_at; (focus wtm_at "?l"); (focus wtm_at "?e"); (focus assumption); (focus decide); (focus decide)))
local macro_rules | `(tactic| wtm_at "?p") => `(tactic| first | ((with_reducible apply Hx); (focus wtm_at "?e"); (focus assumption)) | ((with_reducible apply PB); (focus wtm_at "?e"); (focus assumption)))
namespace MX.P
theorem zfS {S:So} {n:Nat} {pts:List Pt} {a0 a1 a2 b0 b1 b2:Int} (hS:WF S) (hn:S[n]?=some (.lst (pts.map pD))) (hl:pts.length<=1000)
 (h0:jo (pts.map (co 0))=some a0) (h1:jo (pts.map (co 1))=some a1) (h2:jo (pts.map (co 2))=some a2)
 (g0:je (pts.map (co 0))=some b0) (g1:je (pts.map (co 1))=some b1) (g2:je (pts.map (co 2))=some b2) :
 wZ [.ref n] S=some (.tup [P3 a0 a1 a2,P3 b0 b1 b2],S):=by
 apply bK
 ·wtm_at "?b"
  unfold zdt
  wtm_at "?a"
 ·wtm_at "?c"
 ·rfl
theorem sp_are_in_order {S:So} {a b c d e f:Int}:JR [P3 a b c,P3 d e f] S=some (.bl ([decide (a<=d),decide (b<=e),decide (c<=f)].all id),S):=by
 apply bK
 ·wtm_at "?b"
  unfold Ke
  wtm_at "?a"
 ·wtm_at "?c"
 ·rfl
theorem ziB:¬ (D.tup [.str "triangle"]=D.tup [.str "box"]):=by
 intro h
 simp only [D.tup.injEq,List.cons.injEq,D.str.injEq,and_true] at h
 exact absurd h (by decide +kernel)
end MX.P
local macro_rules | `(tactic| wtm_at "?d") => `(tactic| exact MX.P.sp_are_in_order)
namespace MX.P
theorem zeU {S:So} {a b c:D}:xg [.tup [.str "triangle",a,b,c]] S=some (.bl true,S):=by
 have:=ziB
 apply bK
 ·wtm_at "?b"
  unfold DK
  wtm_at "?a"
 ·wtm_at "?c"
 ·rfl
theorem zeV {S:So} {a b c d e f:Int} (h1:a<=d) (h2:b<=e) (h3:c<=f):xg [.tup [.str "box",P3 a b c,P3 d e f]] S=some (.bl true,S):=by
 have h:[decide (a<=d),decide (b<=e),decide (c<=f)].all id=true:=by simp [h1,h2,h3]
 apply bK
 ·wtm_at "?b"
  unfold DK
  rw [<-h]
  wtm_at "?a"
 ·wtm_at "?c"
 ·rfl
end MX.P
end
section
local macro_rules | `(tactic| wtm_at "?d") => `(tactic| (with_reducible assumption))
namespace MX.P
open PySem L2 MX
theorem zdY {S:So} {sh:D} (h:xg [sh] S=some (.bl true,S)):Ky [sh] S=some (.non,S):=by
 apply Tv
 ·wtm_at "?b"
  unfold K8
  wtm_at "?a"
 ·wtm_at "?c"
structure xT (pts:List Pt) (lo hi:Pt):Prop where
 h0:jo (pts.map (co 0))=some lo.1
 h1:jo (pts.map (co 1))=some lo.2.1
 h2:jo (pts.map (co 2))=some lo.2.2
 g0:je (pts.map (co 0))=some hi.1
 g1:je (pts.map (co 1))=some hi.2.1
 g2:je (pts.map (co 2))=some hi.2.2
theorem Ox {pts:List Pt} (h:pts≠[]):∃ lo hi,xT pts lo hi:=by
 have hk:∀ k,pts.map (co k)≠[]:=λk e=>h (List.map_eq_nil_iff.mp e)
 obtain ⟨a,ha⟩:=Hl (hk 0)
 obtain ⟨b,hb⟩:=Hl (hk 1)
 obtain ⟨c,hc⟩:=Hl (hk 2)
 obtain ⟨d,hd⟩:=CN (hk 0)
 obtain ⟨e,he⟩:=CN (hk 1)
 obtain ⟨f,hf⟩:=CN (hk 2)
 exact ⟨(a,b,c),(d,e,f),⟨ha,hb,hc,hd,he,hf⟩⟩
theorem Pn {S:So} {n:Nat} {pts:List Pt} {lo hi:Pt} (hS:WF S) (hn:S[n]?=some (.lst (pts.map pD))) (hl:pts.length<=1000) (B:xT pts lo hi):wZ [.ref n] S=some (.tup [pD lo,pD hi],S) :=
 zfS hS hn hl B.h0 B.h1 B.h2 B.g0 B.g1 B.g2
theorem RB {S:So} {nm:Str} {pts:List Pt} {lo hi:Pt} (hS:WF S) (hl:pts.length<=1000) (hp:pts≠[]) (B:xT pts lo hi) (h:xg [.tup (.str nm::pts.map pD)] S=some (.bl true,S)):uq [.tup (.str nm::pts.map pD)] S=some (.tup [pD lo,pD hi],S):=by
 have h1:=zdY h
 apply bK
 ·wtm_at "?b"
  unfold Ig
  apply aJ
  ·apply uo
   apply bC
   ·wtm_at "?a"
   ·exact cJ rfl h1
  ·apply aR
   apply aJ
   ·apply dU
    apply bC
    ·apply aL
     ·apply bC
      ·apply aL
       ·apply yw
        ·wtm_at "?a"
        ·wtm_at "?a"
        ·wtm_at "?a"
        ·refine G8 (ys:=pts.map pD) ?_ Dj
         rintro ⟨e1,e2⟩
         have:HT.sIx (D.str nm::pts.map pD).length 0 (some 1)=1:=by unfold HT.sIx;simp
         omega
       ·wtm_at "?a"
      ·exact Q5
     ·wtm_at "?a"
    ·exact cJ rfl (Pn (hS.snoc (lo_pts _ _)) cI hl B)
   ·exact cY
 ·wtm_at "?c"
 ·rfl
end MX.P
end
section
local macro_rules | `(tactic| wtm_at "?d") => `(tactic| (with_reducible assumption))
namespace MX.P
open PySem L2 MX
def jq (a b:Int):Int×Int:=((Rat.divInt a b).num,((Rat.divInt a b).den:Int))
theorem Iz {a b:Int} (hb:0<b):jq a b=(a / ((Nat.gcd a.natAbs b.natAbs:Nat):Int),b / ((Nat.gcd a.natAbs b.natAbs:Nat):Int)):=by
 unfold jq
 rw [Rat.num_divInt,Rat.den_divInt,if_neg (by omega),Int.sign_eq_one_of_pos hb,Int.one_mul,Int.gcd_eq_natAbs_gcd_natAbs,Nat.gcd_comm]
 congr 1
 have:(b.natAbs:Int)=b:=by omega
 rw [Int.natCast_ediv,this]
theorem Zz {a b:Int} (hb:b≠0):0<Nat.gcd a.natAbs b.natAbs:=Nat.gcd_pos_of_pos_right _ (by omega)
theorem Eh (a b:Int):0<(jq a b).2:=by
 unfold jq
 have:=(Rat.divInt a b).den_pos
 simp only
 omega
theorem Em {a b:Int} (ha:0<=a) (hb:0<b):0<=(jq a b).1:=by
 rw [Iz hb]
 exact Int.ediv_nonneg ha (by omega)
theorem Bd.of_le {k:Nat} {x y:Int} (h:Bd k y) (hx:x.natAbs<=y.natAbs):Bd k x:=Bw hx h
theorem CV {k:Nat} {a b:Int} (ha:Bd k a) (hb:Bd k b) (h:0<b):Bd k (jq a b).1/\Bd k (jq a b).2:=by
 rw [Iz h]
 exact ⟨Bd.of_le ha (Int.natAbs_ediv_le_natAbs _ _),Bd.of_le hb (Int.natAbs_ediv_le_natAbs _ _)⟩
theorem Xy {k:Nat} {a b:Int} (hb:Bd k b) (h:b≠0):Bd k ((Nat.gcd a.natAbs b.natAbs:Nat):Int):=by
 refine Bd.of_le hb ?_
 show Nat.gcd a.natAbs b.natAbs<=b.natAbs
 exact Nat.le_of_dvd (by omega) (Nat.gcd_dvd_right _ _)
theorem Ot:∀ (N:Nat) (m n:Nat) (r:Option D) (S:So),n<=N->∃ r',jT (bN (eB (bf .NotEq) (aj 1) (eC (.int 0)))) (aB (aX (eB (aH .Mod) (aj 0) (aj 1)) (aG 2)) (aB (aX (aj 1) (aG 0)) (aB (aX (aj 2) (aG 1)) (aP))))
 [some (.int (m:Nat)),some (.int (n:Nat)),r] S=some (.nx,[some (.int (Nat.gcd m n:Nat)),some (.int 0),r'],S)
 | N,m,0,r,S,_=>by
  refine ⟨r,?_⟩
  rw [Nat.gcd_zero_right]
  apply HN
  apply eY
  apply aV
  ·wtm_at "?a"
  ·wtm_at "?a"
  ·rfl
 | 0,_,n+1,_,_,h=>by omega
 | N+1,m,n+1,r,S,h=>by
  obtain ⟨r',e⟩:=Ot N (n+1) (m % (n+1)) (some (.int ((m % (n+1):Nat):Int))) S (by have:=Nat.mod_lt m (show 0<n+1 by omega);omega)
  refine ⟨r',?_⟩
  have hg:Nat.gcd m (n+1)=Nat.gcd (n+1) (m % (n+1)):=by rw [Nat.gcd_comm m,Nat.gcd_rec,Nat.gcd_comm]
  rw [hg]
  have hm:((m:Nat):Int).fmod ((n+1:Nat):Int)=((m % (n+1):Nat):Int):=by
   rw [Int.fmod_eq_emod_of_nonneg _ (by omega)];rfl
  refine Rb (σ1:=[]) (fl := .nx) (S1:=S) (S2:=S) ?_ ?_ (.inl rfl) e
  ·apply eY
   have:D.bl true = .bl (!decide (((n+1:Nat):Int)=0)):=by
    rw [jP (by omega)];rfl
   rw [this]
   apply aV
   ·wtm_at "?a"
   ·wtm_at "?a"
   ·wtm_at "?h"
  ·rw [<-hm]
   have h0:((n+1:Nat):Int)≠0:=by omega
   wtm_at "?a"
theorem zea (m n:Nat) (S:So):Et [.int (m:Nat),.int (n:Nat)] S=some (.int (Nat.gcd m n:Nat),S):=by
 obtain ⟨r',e⟩:=Ot n m n none S (bR _)
 apply bK
 ·wtm_at "?b"
  unfold K1
  apply aJ
  ·exact e
  ·apply aR
   apply aJ
   ·apply dU
    apply bC
    ·wtm_at "?a"
    ·exact OD
   ·have:(if ((Nat.gcd m n:Nat):Int)<0 then -((Nat.gcd m n:Nat):Int) else ((Nat.gcd m n:Nat):Int))=((Nat.gcd m n:Nat):Int):=if_neg (by omega)
    rw [this]
    exact cY
 ·wtm_at "?c"
 ·rfl
abbrev rD (p:Int×Int):D:=R2 p.1 p.2
theorem zb {k:Nat} {a b:Int} (ha:0<=a) (hb:0<b) (hk:Bd k b) (h8:k<=8000) (S:So):rR [R2 a b] S=some (rD (jq a b),S):=by
 have e:Et [.int a,.int b] S=some (.int ((Nat.gcd a.natAbs b.natAbs:Nat):Int),S):=by
  have:=zea a.natAbs b.natAbs S
  have h1:(a.natAbs:Int)=a:=by omega
  have h2:(b.natAbs:Int)=b:=by omega
  rw [h1,h2] at this
  exact this
 have hg:=Zz (a:=a) (show b≠0 by omega)
 have hd:dZ ((Nat.gcd a.natAbs b.natAbs:Nat):Int)=true:=QT (Xy hk (by omega)) (by omega) h8
 apply bK
 ·wtm_at "?b"
  unfold Kf
  rw [Iz hb]
  rw [<-Int.fdiv_eq_ediv_of_nonneg a (show (0:Int)<=((Nat.gcd a.natAbs b.natAbs:Nat):Int) by omega),<-Int.fdiv_eq_ediv_of_nonneg b (show (0:Int)<=((Nat.gcd a.natAbs b.natAbs:Nat):Int) by omega)]
  wtm_at "?a"
 ·wtm_at "?c"
 ·rfl
end MX.P
end
section
local macro_rules | `(tactic| wtm_at "?d") => `(tactic| first | (with_reducible assumption) | ((with_reducible apply MX.P.sp_is_less); (focus with_reducible assumption); (focus with_reducible assumption); (focus with_reducible assumption); (focus with_reducible assumption); (focus omega)))
namespace MX.P
open PySem L2 MX
def jH (s w lo hi:Int):Int×Int:=if 0<w then (lo - s,w) else (s - hi,-w)
def lK (s w lo hi:Int):Int×Int:=if 0<w then (hi - s,w) else (s - lo,-w)
theorem zeA (s w lo hi:Int) (S:So):Ld [.int s,.int w,.int lo,.int hi] S=some (.tup [rD (jH s w lo hi),rD (lK s w lo hi)],S):=by
 by_cases h:0<w
 ·have e1:jH s w lo hi=(lo - s,w):=if_pos h
  have e2:lK s w lo hi=(hi - s,w):=if_pos h
  rw [e1,e2]
  apply bK
  ·wtm_at "?b"
   unfold Ep
   wtm_at "?a"
  ·wtm_at "?c"
  ·rfl
 ·have e1:jH s w lo hi=(s - hi,-w):=if_neg h
  have e2:lK s w lo hi=(s - lo,-w):=if_neg h
  rw [e1,e2]
  apply bK
  ·wtm_at "?b"
   unfold Ep
   wtm_at "?a"
  ·wtm_at "?c"
  ·rfl
def iT (a b:Int×Int):Prop:=a.1*b.2<b.1*a.2
instance (a b:Int×Int):Decidable (iT a b):=by unfold iT;infer_instance
def lD:Option (Int×Int)->D
 | none => .non
 | some p=>rD p
def tE (w:Int) (a e:Int×Int):Int×Int:=if iT a e then e else a
def vI (a:Option (Int×Int)) (l:Int×Int):Int×Int:=match a with
 | none=>l
 | some m=>if iT l m then l else m
theorem ziE {σ0 σ1:D} {f:Int×Int} {l:D} {s lo hi:Int} {t:Option D} {S:So} (h1:lo<=s) (h2:s<=hi) :
 o6 [some σ0,some σ1,some (rD f),some l,some (.int s),some (.int 0),some (.int lo),some (.int hi),t] S=some (.ct,[some σ0,some σ1,some (rD f),some l,some (.int s),some (.int 0),some (.int lo),some (.int hi),t],S):=by
 unfold o6 yR
 wtm_at "?a"
theorem ziC {σ0 σ1:D} {f:Int×Int} {l:D} {s lo hi:Int} {t:Option D} {S:So} (h:s<lo\/hi<s) :
 o6 [some σ0,some σ1,some (rD f),some l,some (.int s),some (.int 0),some (.int lo),some (.int hi),t] S=some (.rt .non,[some σ0,some σ1,some (rD f),some l,some (.int s),some (.int 0),some (.int lo),some (.int hi),t],S):=by
 unfold o6 yR
 by_cases h1:s<lo
 ·wtm_at "?a"
 ·have h2:hi<s:=by omega
  wtm_at "?a"
theorem Ou {k:Nat} {s w lo hi:Int} (hs:Bd k s) (hw:Bd k w) (hl:Bd k lo) (hh:Bd k hi):Bd (k+1) (jH s w lo hi).1/\Bd (k+1) (jH s w lo hi).2/\Bd (k+1) (lK s w lo hi).1/\Bd (k+1) (lK s w lo hi).2:=by
 unfold jH lK
 have a1:=(hl.sub hs).le (show max k k+1<=k+1 by omega)
 have a2:=(hh.sub hs).le (show max k k+1<=k+1 by omega)
 have a3:=(hs.sub hh).le (show max k k+1<=k+1 by omega)
 have a4:=(hs.sub hl).le (show max k k+1<=k+1 by omega)
 have a5:=hw.le (show k<=k+1 by omega)
 split
 ·exact ⟨a1,a5,a2,a5⟩
 ·exact ⟨a3,a5.neg,a4,a5.neg⟩
theorem Im (w:Int) (a e:Int×Int):tE w a e=a\/tE w a e=e:=by unfold tE;split<;>simp
theorem RN (a:Option (Int×Int)) (l:Int×Int):vI a l=l\/∃ m,a=some m/\vI a l=m:=by
 unfold vI
 split
 ·exact .inl rfl
 ·split
  ·exact .inl rfl
  ·exact .inr ⟨_,rfl,rfl⟩
theorem ziD {k:Nat} {σ0 σ1:D} {f:Int×Int} {l:Option (Int×Int)} {s w lo hi:Int} {t:Option D} {S:So} (hw:w≠0) (bs:Bd k s) (bw:Bd k w) (bl:Bd k lo) (bh:Bd k hi) (hk:k<=10000)
 (f1:Bd (k+1) f.1) (f2:Bd (k+1) f.2) (l1:∀ m,l=some m->Bd (k+1) m.1/\Bd (k+1) m.2) :
 ∃ t',o6 [some σ0,some σ1,some (rD f),some (lD l),some (.int s),some (.int w),some (.int lo),some (.int hi),t] S
  = some (.nx,[some σ0,some σ1,some (rD (tE w f (jH s w lo hi))),some (rD (vI l (lK s w lo hi))),some (.int s),some (.int w),some (.int lo),some (.int hi),t'],S):=by
 obtain ⟨b1,b2,b3,b4⟩:=Ou bs bw bl bh
 have tb:=zeA s w lo hi S
 generalize jH s w lo hi=e at *
 generalize lK s w lo hi=g at *
 obtain ⟨e1,e2⟩:=e
 obtain ⟨g1,g2⟩:=g
 obtain ⟨p1,p2⟩:=f
 simp only at b1 b2 b3 b4 f1 f2
 refine ⟨some (.tup [R2 e1 e2,R2 g1 g2]),?_⟩
 have s1:∀ q:D,yR [some σ0,some σ1,some (rD (p1,p2)),some q,some (.int s),some (.int w),some (.int lo),some (.int hi),t] S=some (.nx,[some σ0,some σ1,some (rD (p1,p2)),some q,some (.int s),some (.int w),some (.int lo),some (.int hi),t],S):=λq=>by
  unfold yR
  wtm_at "?a"
 have s2:∀ q:D,Kg [some σ0,some σ1,some (rD (p1,p2)),some q,some (.int s),some (.int w),some (.int lo),some (.int hi),t] S=some (.nx,[some σ0,some σ1,some (rD (p1,p2)),some q,some (.int s),some (.int w),some (.int lo),some (.int hi),some (.tup [R2 e1 e2,R2 g1 g2])],S):=λq=>by
  unfold Kg
  wtm_at "?a"
 have s3:∀ q:D,Kh [some σ0,some σ1,some (rD (p1,p2)),some q,some (.int s),some (.int w),some (.int lo),some (.int hi),some (.tup [R2 e1 e2,R2 g1 g2])] S=some (.nx,[some σ0,some σ1,some (rD (tE w (p1,p2) (e1,e2))),some q,some (.int s),some (.int w),some (.int lo),some (.int hi),some (.tup [R2 e1 e2,R2 g1 g2])],S):=λq=>by
  unfold Kh tE
  by_cases hc:p1*e2<e1*p2
  ·rw [if_pos (show iT (p1,p2) (e1,e2) from hc)]
   wtm_at "?a"
  ·rw [if_neg (show ¬ iT (p1,p2) (e1,e2) from hc)]
   wtm_at "?a"
 have s4:∀ q:Int×Int,Kl [some σ0,some σ1,some (rD q),some (lD l),some (.int s),some (.int w),some (.int lo),some (.int hi),some (.tup [R2 e1 e2,R2 g1 g2])] S=some (.nx,[some σ0,some σ1,some (rD q),some (rD (vI l (g1,g2))),some (.int s),some (.int w),some (.int lo),some (.int hi),some (.tup [R2 e1 e2,R2 g1 g2])],S):=λq=>by
  unfold Kl vI
  cases l with
  | none =>
   show dg _ _ _ [some σ0,some σ1,some (rD q),some D.non,some (.int s),some (.int w),some (.int lo),some (.int hi),some (.tup [R2 e1 e2,R2 g1 g2])] S=_
   wtm_at "?a"
  | some m =>
   obtain ⟨m1,m2⟩:=m
   obtain ⟨c1,c2⟩:=l1 _ rfl
   simp only at c1 c2
   show dg _ _ _ [some σ0,some σ1,some (rD q),some (R2 m1 m2),some (.int s),some (.int w),some (.int lo),some (.int hi),some (.tup [R2 e1 e2,R2 g1 g2])] S=_
   by_cases hc:g1*m2<m1*g2
   ·simp only
    rw [if_pos (show iT (g1,g2) (m1,m2) from hc)]
    wtm_at "?a"
   ·simp only
    rw [if_neg (show ¬ iT (g1,g2) (m1,m2) from hc)]
    wtm_at "?a"
 unfold o6
 exact aJ (s1 _) (aR (aJ (s2 _) (aR (aJ (s3 _) (aR (aJ (s4 _) (aR dJ)))))))
end MX.P
end
section
local macro_rules | `(tactic| wtm_at "?d") => `(tactic| first | (with_reducible assumption) | ((with_reducible apply MX.P.sp_is_less); (focus with_reducible assumption); (focus with_reducible assumption); (focus with_reducible assumption); (focus with_reducible assumption); (focus omega)))
namespace MX.P
open PySem L2 MX
abbrev Ax:=(Int×Int)×Option (Int×Int)
def f9 (a:Ax) (s w lo hi:Int):Option Ax:=if w=0 then (if s<lo\/hi<s then none else some a) else some (tE w a.1 (jH s w lo hi),some (vI a.2 (lK s w lo hi)))
def xU (k:Nat) (a:Ax):Prop:=Bd k a.1.1/\Bd k a.1.2/\∀ m,a.2=some m->Bd k m.1/\Bd k m.2
theorem wG {k:Nat} {a a':Ax} {s w lo hi:Int} (hs:Bd k s) (hw:Bd k w) (hl:Bd k lo) (hh:Bd k hi) (h:xU (k+1) a) (e:f9 a s w lo hi=some a'):xU (k+1) a':=by
 obtain ⟨b1,b2,b3,b4⟩:=Ou hs hw hl hh
 unfold f9 at e
 split at e
 ·split at e
  ·cases e
  ·cases e;exact h
 ·cases e
  refine ⟨?_,?_,λm hm=>?_⟩
  ·rcases Im w a.1 (jH s w lo hi) with q | q<;>simp only [q]
   ·exact h.1
   ·exact b1
  ·rcases Im w a.1 (jH s w lo hi) with q | q<;>simp only [q]
   ·exact h.2.1
   ·exact b2
  ·cases hm
   rcases RN a.2 (lK s w lo hi) with q | ⟨m,q1,q⟩<;>simp only [q]
   ·exact ⟨b3,b4⟩
   ·exact h.2.2 m q1
def qN (ray box:D) (a:Ax) (σ:Sg):Prop:=∃ j4 j5 j6 j7 j8:Option D,σ=[some ray,some box,some (rD a.1),some (lD a.2),j4,j5,j6,j7,j8]
abbrev Ba:GF:=jw 4 (dR (aG 4) (dR (aG 5) (dR (aG 6) (dR (aG 7) (jO)))))
theorem Jm {k:Nat} {ray box:D} {a:Ax} {σ:Sg} {s w lo hi:Int} {S:So} (hs:Bd k s) (hw:Bd k w) (hl:Bd k lo) (hh:Bd k hi) (hk:k<=10000) (hb:xU (k+1) a) (h:qN ray box a σ) :
 ∃ σ1,Ba (.tup [.int s,.int w,.int lo,.int hi]) σ S=some (σ1,S) /\
  match f9 a s w lo hi with
  | none=>∃ σ2,o6 σ1 S=some (.rt .non,σ2,S)
  | some a'=>∃ fl σ2,o6 σ1 S=some (fl,σ2,S)/\(fl = .nx\/fl = .ct)/\qN ray box a' σ2:=by
 obtain ⟨j4,j5,j6,j7,j8,rfl⟩:=h
 refine ⟨[some ray,some box,some (rD a.1),some (lD a.2),some (.int s),some (.int w),some (.int lo),some (.int hi),j8],rfl,?_⟩
 unfold f9
 by_cases h0:w=0
 ·subst h0
  rw [if_pos rfl]
  by_cases hc:s<lo\/hi<s
  ·rw [if_pos hc]
   exact ⟨_,ziC hc⟩
  ·rw [if_neg hc]
   exact ⟨_,_,ziE (by omega) (by omega),.inr rfl,_,_,_,_,_,rfl⟩
 ·rw [if_neg h0]
  obtain ⟨t',e⟩:=ziD (σ0:=ray) (σ1:=box) (t:=j8) (S:=S) h0 hs hw hl hh hk hb.1 hb.2.1 hb.2.2
  exact ⟨_,_,e,.inl rfl,_,_,_,_,_,rfl⟩
def mZ (o d lo hi:Pt):Option ((Int×Int)×(Int×Int)) :=
 (f9 ((0,1),none) o.1 d.1 lo.1 hi.1).bind λa=>(f9 a o.2.1 d.2.1 lo.2.1 hi.2.1).bind λb=>(f9 b o.2.2 d.2.2 lo.2.2 hi.2.2).bind λc=>match c.2 with
  | none=>none
  | some l=>if iT l c.1 then none else some (c.1,l)
def Gx:Option ((Int×Int)×(Int×Int))->D
 | none => .non
 | some p => .tup [rD p.1,rD p.2]
def aK (k:Nat) (p:Pt):Prop:=Bd k p.1/\Bd k p.2.1/\Bd k p.2.2
theorem aK.le {k l:Nat} {p:Pt} (h:aK k p) (hl:k<=l):aK l p:=⟨h.1.le hl,h.2.1.le hl,h.2.2.le hl⟩
theorem wW {a b:Ax} {s w lo hi:Int} (e:f9 a s w lo hi=some b) (h:a.2≠none\/w≠0):b.2≠none:=by
 unfold f9 at e
 split at e
 ·split at e
  ·cases e
  ·cases e
   rcases h with h | h
   ·exact h
   ·rename_i q _;exact absurd q h
 ·cases e;simp
theorem Td {k:Nat} {o d lo hi:Pt} (ho:aK k o) (hd:aK k d) (hl:aK k lo) (hh:aK k hi) (h0:d≠(0,0,0)) (hk:k<=10000) (S:So) :
 uD [.tup [pD o,pD d],.tup [pD lo,pD hi]] S=some (Gx (mZ o d lo hi),S):=by
 have s1:JG [some (.tup [pD o,pD d]),some (.tup [pD lo,pD hi]),none,none,none,none,none,none,none] S=some (.nx,[some (.tup [pD o,pD d]),some (.tup [pD lo,pD hi]),some (R2 0 1),none,none,none,none,none,none],S):=by
  unfold JG
  wtm_at "?a"
 have s2:JH [some (.tup [pD o,pD d]),some (.tup [pD lo,pD hi]),some (R2 0 1),none,none,none,none,none,none] S=some (.nx,[some (.tup [pD o,pD d]),some (.tup [pD lo,pD hi]),some (R2 0 1),some .non,none,none,none,none,none],S):=by
  unfold JH
  wtm_at "?a"
 have b0:xU (k+1) ((0,1),none):=by
  refine ⟨?_,?_,λm hm=>by cases hm⟩
  ·unfold Bd;simp;exact Nat.pos_of_ne_zero (by simp)
  ·unfold Bd;simp;
 have st0:qN (.tup [pD o,pD d]) (.tup [pD lo,pD hi]) ((0,1),none) [some (.tup [pD o,pD d]),some (.tup [pD lo,pD hi]),some (R2 0 1),some .non,none,none,none,none,none]:=⟨_,_,_,_,_,rfl⟩
 have it:pL (ak (eB aM (aj 0) (eC (.int 0))) (ak (eB aM (aj 0) (eC (.int 1))) (ak (eB aM (aj 1) (eC (.int 0))) (ak (eB aM (aj 1) (eC (.int 1))) (aq))))) [some (.tup [pD o,pD d]),some (.tup [pD lo,pD hi]),some (R2 0 1),some .non,none,none,none,none,none] S=some (.zip [pD o,pD d,pD lo,pD hi],S):=by
  wtm_at "?j"
 have n0:cO (.zip [pD o,pD d,pD lo,pD hi]) 0 S=some (some (.tup [.int o.1,.int d.1,.int lo.1,.int hi.1])):=rfl
 have n1:cO (.zip [pD o,pD d,pD lo,pD hi]) (0+1) S=some (some (.tup [.int o.2.1,.int d.2.1,.int lo.2.1,.int hi.2.1])):=rfl
 have n2:cO (.zip [pD o,pD d,pD lo,pD hi]) (0+1+1) S=some (some (.tup [.int o.2.2,.int d.2.2,.int lo.2.2,.int hi.2.2])):=rfl
 have n3:cO (.zip [pD o,pD d,pD lo,pD hi]) (0+1+1+1) S=some none:=rfl
 obtain ⟨σ1,g1,t1⟩:=Jm (S:=S) ho.1 hd.1 hl.1 hh.1 hk b0 st0
 have loop:match (f9 ((0,1),none) o.1 d.1 lo.1 hi.1).bind λa=>(f9 a o.2.1 d.2.1 lo.2.1 hi.2.1).bind λb=>f9 b o.2.2 d.2.2 lo.2.2 hi.2.2 with
  | none=>∃ σ',JK [some (.tup [pD o,pD d]),some (.tup [pD lo,pD hi]),some (R2 0 1),some .non,none,none,none,none,none] S=some (.rt .non,σ',S)
  | some c=>∃ σ',JK [some (.tup [pD o,pD d]),some (.tup [pD lo,pD hi]),some (R2 0 1),some .non,none,none,none,none,none] S=some (.nx,σ',S)/\qN (.tup [pD o,pD d]) (.tup [pD lo,pD hi]) c σ'/\xU (k+1) c/\c.2≠none:=by
  cases e1:f9 ((0,1),none) o.1 d.1 lo.1 hi.1 with
  | none =>
   rw [e1] at t1
   obtain ⟨σ2,t1⟩:=t1
   exact ⟨σ2,mC it rfl (lH n0 g1 t1 Df)⟩
  | some a =>
   rw [e1] at t1
   obtain ⟨fl,σ2,t1,hfl,st1⟩:=t1
   have b1:=wG ho.1 hd.1 hl.1 hh.1 b0 e1
   obtain ⟨σ3,g2,t2⟩:=Jm (S:=S) ho.2.1 hd.2.1 hl.2.1 hh.2.1 hk b1 st1
   simp only [cg]
   cases e2:f9 a o.2.1 d.2.1 lo.2.1 hi.2.1 with
   | none =>
    rw [e2] at t2
    obtain ⟨σ4,t2⟩:=t2
    refine ⟨σ4,mC it rfl (lH n0 g1 t1 ?_)⟩
    rcases hfl with rfl | rfl<;>exact lH n1 g2 t2 Df
   | some b =>
    rw [e2] at t2
    obtain ⟨fl2,σ4,t2,Ar,st2⟩:=t2
    have b2:=wG ho.2.1 hd.2.1 hl.2.1 hh.2.1 b1 e2
    obtain ⟨σ5,g3,t3⟩:=Jm (S:=S) ho.2.2 hd.2.2 hl.2.2 hh.2.2 hk b2 st2
    simp only [cg]
    cases e3:f9 b o.2.2 d.2.2 lo.2.2 hi.2.2 with
    | none =>
     rw [e3] at t3
     obtain ⟨σ6,t3⟩:=t3
     refine ⟨σ6,mC it rfl (lH n0 g1 t1 ?_)⟩
     rcases hfl with rfl | rfl<;>refine lH n1 g2 t2 ?_<;>rcases Ar with rfl | rfl<;>exact lH n2 g3 t3 Df
    | some c =>
     rw [e3] at t3
     obtain ⟨Np,σ6,t3,M9,st3⟩:=t3
     refine ⟨σ6,mC it rfl (lH n0 g1 t1 ?_),st3,wG ho.2.2 hd.2.2 hl.2.2 hh.2.2 b2 e3,?_⟩
     ·rcases hfl with rfl | rfl<;>refine lH n1 g2 t2 ?_<;>rcases Ar with rfl | rfl<;>refine lH n2 g3 t3 ?_<;>rcases M9 with rfl | rfl<;>exact Hv (g:=Ba) (f:=o6) n3
     ·by_cases q1:d.1=0
      ·by_cases q2:d.2.1=0
       ·have q3:d.2.2≠0:=λq3=>h0 (by show (d.1,d.2.1,d.2.2)=_;rw [q1,q2,q3])
        exact wW e3 (.inr q3)
       ·exact wW e3 (.inl (wW e2 (.inr q2)))
      ·exact wW e3 (.inl (wW e2 (.inl (wW e1 (.inr q1)))))
 unfold mZ
 have eb:((f9 ((0,1),none) o.1 d.1 lo.1 hi.1).bind λa=>(f9 a o.2.1 d.2.1 lo.2.1 hi.2.1).bind λb=>(f9 b o.2.2 d.2.2 lo.2.2 hi.2.2).bind λc=>(match c.2 with
  | none=>none
  | some l=>if iT l c.1 then none else some (c.1,l):Option ((Int×Int)×(Int×Int))))=((f9 ((0,1),none) o.1 d.1 lo.1 hi.1).bind λa=>(f9 a o.2.1 d.2.1 lo.2.1 hi.2.1).bind λb=>f9 b o.2.2 d.2.2 lo.2.2 hi.2.2).bind λc=>(match c.2 with
  | none=>none
  | some l=>if iT l c.1 then none else some (c.1,l)):=by
  simp only [Option.bind_assoc]
 rw [eb]
 cases e:(f9 ((0,1),none) o.1 d.1 lo.1 hi.1).bind λa=>(f9 a o.2.1 d.2.1 lo.2.1 hi.2.1).bind λb=>f9 b o.2.2 d.2.2 lo.2.2 hi.2.2 with
 | none =>
  rw [e] at loop
  obtain ⟨σ',loop⟩:=loop
  apply bK
  ·wtm_at "?b"
   unfold yH
   exact aJ s1 (aR (aJ s2 (aR (aJ loop cY))))
  ·wtm_at "?c"
  ·rfl
 | some c =>
  rw [e] at loop
  obtain ⟨σ',loop,⟨j4,j5,j6,j7,j8,rfl⟩,hb,hn⟩:=loop
  obtain ⟨⟨f1,f2⟩,l⟩:=c
  cases l with
  | none=>exact absurd rfl hn
  | some l =>
   obtain ⟨l1,l2⟩:=l
   obtain ⟨c1,c2,c3⟩:=hb
   obtain ⟨c3,c4⟩:=c3 _ rfl
   simp only at c1 c2 c3 c4
   simp only [cg]
   by_cases hc:l1*f2<f1*l2
   ·rw [if_pos (show iT (l1,l2) (f1,f2) from hc)]
    apply bK
    ·wtm_at "?b"
     unfold yH
     refine aJ s1 (aR (aJ s2 (aR (aJ loop (aR (aJ (fl := .rt .non) (S1:=S) (σ1:=[some (.tup [pD o,pD d]),some (.tup [pD lo,pD hi]),some (R2 f1 f2),some (R2 l1 l2),j4,j5,j6,j7,j8]) ?_ cY))))))
     show yV [some (.tup [pD o,pD d]),some (.tup [pD lo,pD hi]),some (R2 f1 f2),some (R2 l1 l2),j4,j5,j6,j7,j8] S=_
     unfold yV
     wtm_at "?a"
    ·wtm_at "?c"
    ·rfl
   ·rw [if_neg (show ¬ iT (l1,l2) (f1,f2) from hc)]
    apply bK
    ·wtm_at "?b"
     unfold yH
     refine aJ s1 (aR (aJ s2 (aR (aJ loop (aR (aJ (fl := .nx) (S1:=S) (σ1:=[some (.tup [pD o,pD d]),some (.tup [pD lo,pD hi]),some (R2 f1 f2),some (R2 l1 l2),j4,j5,j6,j7,j8]) ?_ (aR (aJ (fl := .rt (.tup [R2 f1 f2,R2 l1 l2])) (S1:=S) (σ1:=[some (.tup [pD o,pD d]),some (.tup [pD lo,pD hi]),some (R2 f1 f2),some (R2 l1 l2),j4,j5,j6,j7,j8]) ?_ cY))))))))
     ·show yV [some (.tup [pD o,pD d]),some (.tup [pD lo,pD hi]),some (R2 f1 f2),some (R2 l1 l2),j4,j5,j6,j7,j8] S=_
      unfold yV
      wtm_at "?a"
     ·unfold Tf
      wtm_at "?a"
    ·wtm_at "?c"
    ·rfl
end MX.P
end
section
local macro_rules | `(tactic| wtm_at "?d") => `(tactic| (with_reducible assumption))
namespace MX.P
open PySem L2 MX
structure vM (k:Nat) (p:(Int×Int)×(Int×Int)):Prop where
 f0:0<=p.1.1
 f2:0<p.1.2
 l0:0<=p.2.1
 l2:0<p.2.2
 b1:Bd k p.1.1
 b2:Bd k p.1.2
 b3:Bd k p.2.1
 b4:Bd k p.2.2
theorem zmw {s w lo hi:Int} (h:w≠0):0<(jH s w lo hi).2/\0<(lK s w lo hi).2:=by
 unfold jH lK;split<;>simp<;>omega
def N8 (a:Ax):Prop:=0<=a.1.1/\0<a.1.2/\∀ m,a.2=some m->0<m.2
theorem Ih {a a':Ax} {s w lo hi:Int} (h:N8 a) (e:f9 a s w lo hi=some a'):N8 a':=by
 unfold f9 at e
 split at e
 ·split at e
  ·cases e
  ·cases e;exact h
 ·rename_i hw
  cases e
  obtain ⟨p1,p2⟩:=zmw (s:=s) (lo:=lo) (hi:=hi) hw
  refine ⟨?_,?_,λm hm=>?_⟩
  ·simp only
   unfold tE
   split
   ·rename_i hc
    unfold iT at hc
    have:=h.1
    have h2:=h.2.1
    have h3:0<=a.1.1*(jH s w lo hi).2:=Int.mul_nonneg this (by omega)
    have h4:0<(jH s w lo hi).1*a.1.2:=by omega
    exact Int.le_of_lt (Int.pos_of_mul_pos_left h4 h2)
   ·exact h.1
  ·rcases Im w a.1 (jH s w lo hi) with q | q<;>simp only [q]
   ·exact h.2.1
   ·exact p1
  ·cases hm
   rcases RN a.2 (lK s w lo hi) with q | ⟨m,q1,q⟩<;>simp only [q]
   ·exact p2
   ·exact h.2.2 m q1
def leQ (a b:Int×Int):Prop:=a.1*b.2<=b.1*a.2
theorem Xc {a b:Int×Int} (h:¬ iT b a):leQ a b:=by unfold iT at h;unfold leQ;omega
theorem Rg {k:Nat} {o d lo hi:Pt} {p:(Int×Int)×(Int×Int)} (ho:aK k o) (hd:aK k d) (hl:aK k lo) (hh:aK k hi) (e:mZ o d lo hi=some p):vM (k+1) p:=by
 unfold mZ at e
 simp only [bA] at e
 obtain ⟨a,e1,b,e2,c,e3,e4⟩:=e
 have b0:xU (k+1) ((0,1),none):=by
  refine ⟨?_,?_,λm hm=>by cases hm⟩
  ·unfold Bd;simp;exact Nat.pos_of_ne_zero (by simp)
  ·unfold Bd;simp
 have p0:N8 ((0,1),none):=⟨by simp,by simp,λm hm=>by cases hm⟩
 have b3:=wG ho.2.2 hd.2.2 hl.2.2 hh.2.2 (wG ho.2.1 hd.2.1 hl.2.1 hh.2.1 (wG ho.1 hd.1 hl.1 hh.1 b0 e1) e2) e3
 have p3:=Ih (Ih (Ih p0 e1) e2) e3
 split at e4
 ·cases e4
 ·rename_i l hl'
  split at e4
  ·cases e4
  ·rename_i hc
   cases e4
   obtain ⟨q1,q2⟩:=b3.2.2 _ hl'
   have q3:=p3.2.2 _ hl'
   have hle:=Xc hc
   refine ⟨p3.1,p3.2.1,?_,q3,b3.1,b3.2.1,q1,q2⟩
   unfold leQ at hle
   have h1:0<=c.1.1*l.2:=Int.mul_nonneg p3.1 (by omega)
   have h2:0<=l.1*c.1.2:=by omega
   refine Int.le_of_mul_le_mul_right (a:=c.1.2) ?_ p3.2.1
   simpa using h2
def MF:Option ((Int×Int)×(Int×Int))->D
 | none => .non
 | some p=>rD (jq p.1.1 p.1.2)
theorem zgm {k:Nat} {o d lo hi:Pt} (ho:aK k o) (hd:aK k d) (hl:aK k lo) (hh:aK k hi) (h0:d≠(0,0,0)) (hk:k<=7000) (S:So) :
 JM [.tup [pD o,pD d],.tup [pD lo,pD hi]] S=some (MF (mZ o d lo hi),S):=by
 have hs:=Td ho hd hl hh h0 (by omega) S
 cases e:mZ o d lo hi with
 | none =>
  rw [e] at hs
  have hs:uD [.tup [pD o,pD d],.tup [pD lo,pD hi]] S=some (.non,S):=hs
  apply bK
  ·wtm_at "?b"
   unfold Ei
   wtm_at "?a"
  ·wtm_at "?c"
  ·rfl
 | some p =>
  rw [e] at hs
  have ok:=Rg ho hd hl hh e
  obtain ⟨⟨f1,f2⟩,⟨l1,l2⟩⟩:=p
  have hs:uD [.tup [pD o,pD d],.tup [pD lo,pD hi]] S=some (.tup [R2 f1 f2,R2 l1 l2],S):=hs
  have t1:=zb ok.f0 ok.f2 ok.b2 (show k+1<=8000 by omega) S
  simp only at t1
  apply bK
  ·wtm_at "?b"
   unfold Ei
   wtm_at "?a"
  ·wtm_at "?c"
  ·rfl
theorem Wd {d:Pt} (h:d≠(0,0,0)):¬ (pD d=P3 0 0 0):=λe=>by
 simp only [D.tup.injEq,List.cons.injEq,D.int.injEq,and_true] at e
 exact h (by show (d.1,d.2.1,d.2.2)=_;rw [e.1,e.2.1,e.2.2])
theorem zdX {o d:Pt} (h0:d≠(0,0,0)) (S:So):Kz [.tup [pD o,pD d]] S=some (.non,S):=by
 have hne:=Wd h0
 apply Tv
 ·wtm_at "?b"
  unfold K9
  wtm_at "?a"
 ·wtm_at "?c"
theorem zfo {k:Nat} {o d lo hi:Pt} (ho:aK k o) (hd:aK k d) (hl:aK k lo) (hh:aK k hi) (h0:d≠(0,0,0)) (hk:k<=7000) (S:So) :
 yI [.tup [pD o,pD d],.tup [.str "box",pD lo,pD hi]] S=some (MF (mZ o d lo hi),S):=by
 have hm:=zgm ho hd hl hh h0 hk S
 apply bK
 ·wtm_at "?b"
  unfold DQ
  wtm_at "?a"
 ·wtm_at "?c"
 ·cases mZ o d lo hi<;>rfl
end MX.P
end
section
namespace MX.P
open PySem L2 MX
def wb (a b:Pt):Pt:=(b.1 - a.1,b.2.1 - a.2.1,b.2.2 - a.2.2)
def di (a b:Pt):Int:=a.1*b.1+a.2.1*b.2.1+a.2.2*b.2.2
def cH (a b:Pt):Pt:=(a.2.1*b.2.2 - a.2.2*b.2.1,a.2.2*b.1 - a.1*b.2.2,a.1*b.2.1 - a.2.1*b.1)
theorem aK.wb {k l:Nat} {a b:Pt} (ha:aK k a) (hb:aK l b):aK (max k l+1) (wb a b) :=
 ⟨(hb.1.sub ha.1).le (by omega),(hb.2.1.sub ha.2.1).le (by omega),(hb.2.2.sub ha.2.2).le (by omega)⟩
theorem aK.cross {k l:Nat} {a b:Pt} (ha:aK k a) (hb:aK l b):aK (k+l+1) (cH a b) :=
 ⟨((ha.2.1.mul hb.2.2).sub (ha.2.2.mul hb.2.1)).le (by omega),((ha.2.2.mul hb.1).sub (ha.1.mul hb.2.2)).le (by omega),((ha.1.mul hb.2.1).sub (ha.2.1.mul hb.1)).le (by omega)⟩
theorem aK.dot {k l:Nat} {a b:Pt} (ha:aK k a) (hb:aK l b):Bd (k+l+2) (di a b) :=
 (((ha.1.mul hb.1).add (ha.2.1.mul hb.2.1)).add (ha.2.2.mul hb.2.2)).le (by omega)
theorem sp_wb (a b:Pt) (S:So):dW [pD a,pD b] S=some (pD (wb a b),S):=zfm _ _ _ _ _ _ _
theorem sp_vdot {k l:Nat} {a b:Pt} (ha:aK k a) (hb:aK l b) (h:k+l<=134217728) (S:So):eX [pD a,pD b] S=some (.int (di a b),S):=Yu ha.1 ha.2.1 ha.2.2 hb.1 hb.2.1 hb.2.2 h S
theorem sp_vcross {k l:Nat} {a b:Pt} (ha:aK k a) (hb:aK l b) (h:k+l<=134217728) (S:So):iV [pD a,pD b] S=some (pD (cH a b),S):=zk5 ha.1 ha.2.1 ha.2.2 hb.1 hb.2.1 hb.2.2 h S
theorem Wc {a b:Pt}:pD a=pD b↔a=b:=by
 constructor
 ·intro h
  simp only [D.tup.injEq,List.cons.injEq,D.int.injEq,and_true] at h
  exact Prod.ext h.1 (Prod.ext h.2.1 h.2.2)
 ·intro h;rw [h]
theorem wK {a:Pt}:pD a=P3 0 0 0↔a=(0,0,0):=Wc (b:=(0,0,0))
def oO (a b:Int):Int:=if b>a then b else a
def qD (a b:Int):Int:=if b<a then b else a
abbrev Tq:=Option (Int×Int)
def Lg:Tq->D
 | none => .non
 | some p=>rD (jq p.1 p.2)
def xZ (o d a b:Pt):Tq :=
 if cH (wb o a) d=(0,0,0) then
  if oO (di (wb o a) d) (di (wb o b) d)<0 then none else some (oO (qD (di (wb o a) d) (di (wb o b) d)) 0,di d d)
 else none
def pI (o d a b:Pt):Tq :=
 if cH d (wb a b)=(0,0,0) then xZ o d a b
 else if di (wb o a) (cH d (wb a b))=0 then
  if di (cH (wb o a) (wb a b)) (cH d (wb a b))<0\/di (cH (wb o a) d) (cH d (wb a b))<0\/di (cH d (wb a b)) (cH d (wb a b))<di (cH (wb o a) d) (cH d (wb a b)) then none
  else some (di (cH (wb o a) (wb a b)) (cH d (wb a b)),di (cH d (wb a b)) (cH d (wb a b)))
 else none
theorem Dy (x:Int):0<=x*x:=by
 by_cases h:0<=x
 ·exact Int.mul_nonneg h h
 ·have:=Int.mul_nonneg (show 0 <= -x by omega) (show 0 <= -x by omega)
  rwa [Int.neg_mul_neg] at this
theorem Hi {x:Int} (h:x≠0):0<x*x:=by
 have h1:=Dy x
 have:x*x≠0:=λe=>by rcases Int.mul_eq_zero.mp e with e | e<;>exact h e
 omega
theorem Fb {a:Pt} (h:a≠(0,0,0)):0<di a a:=by
 unfold di
 have h1:=Dy a.1
 have h2:=Dy a.2.1
 have h3:=Dy a.2.2
 by_cases q1:a.1=0
 ·by_cases q2:a.2.1=0
  ·have q3:a.2.2≠0:=λq3=>h (by show (a.1,a.2.1,a.2.2)=_;rw [q1,q2,q3])
   have:=Hi q3
   omega
  ·have:=Hi q2
   omega
 ·have:=Hi q1
  omega
end MX.P
local macro_rules | `(tactic| wtm_at "?d") => `(tactic| first | (with_reducible exact MX.P.sp_wb _ _ _) | ((with_reducible apply MX.P.sp_vdot); (focus with_reducible assumption); (focus with_reducible assumption); (focus omega)) | ((with_reducible apply MX.P.sp_vcross); (focus with_reducible assumption); (focus with_reducible assumption); (focus omega)) | (with_reducible assumption))
namespace MX.P
open PySem L2 MX
theorem zfp {k:Nat} {o d a b:Pt} (ho:aK k o) (hd:aK k d) (ha:aK k a) (hb:aK k b) (h0:d≠(0,0,0)) (hk:k<=1500) (S:So) :
 Kc [.tup [pD o,pD d],pD a,pD b] S=some (Lg (xZ o d a b),S):=by
 have w1:=(ho.wb ha).le (show max k k+1<=k+1 by omega)
 have w2:=(ho.wb hb).le (show max k k+1<=k+1 by omega)
 have hdd:=hd.dot hd
 have hpos:=Fb h0
 unfold xZ
 by_cases hc:cH (wb o a) d=(0,0,0)
 ·rw [if_pos hc]
  have hc':pD (cH (wb o a) d)=P3 0 0 0:=wK.mpr hc
  by_cases hm:oO (di (wb o a) d) (di (wb o b) d)<0
  ·rw [if_pos hm]
   unfold oO at hm
   apply bK
   ·wtm_at "?b"
    unfold yP
    wtm_at "?a"
   ·wtm_at "?c"
   ·rfl
  ·rw [if_neg hm]
   have hnn:0<=oO (qD (di (wb o a) d) (di (wb o b) d)) 0:=by unfold oO;split<;>omega
   have hl:=zb hnn hpos hdd (show k+k+2<=8000 by omega) S
   unfold oO qD at hl
   unfold oO at hm
   apply bK
   ·wtm_at "?b"
    unfold yP
    wtm_at "?a"
   ·wtm_at "?c"
   ·rfl
 ·rw [if_neg hc]
  have hc':¬ pD (cH (wb o a) d)=P3 0 0 0:=λe=>hc (wK.mp e)
  apply bK
  ·wtm_at "?b"
   unfold yP
   wtm_at "?a"
  ·wtm_at "?c"
  ·rfl
end MX.P
end
section
local macro_rules | `(tactic| wtm_at "?d") => `(tactic| first | (with_reducible exact MX.P.sp_wb _ _ _) | ((with_reducible apply MX.P.sp_vdot); (focus with_reducible assumption); (focus with_reducible assumption); (focus omega)) | ((with_reducible apply MX.P.sp_vcross); (focus with_reducible assumption); (focus with_reducible assumption); (focus omega)) | (with_reducible assumption))
namespace MX.P
open PySem L2 MX
theorem zeB {k:Nat} {o d a b:Pt} (ho:aK k o) (hd:aK k d) (ha:aK k a) (hb:aK k b) (h0:d≠(0,0,0)) (hk:k<=1500) (S:So) :
 Lb [.tup [pD o,pD d],pD a,pD b] S=some (Lg (pI o d a b),S):=by
 have w1:=(ho.wb ha).le (show max k k+1<=k+1 by omega)
 have w2:=(ha.wb hb).le (show max k k+1<=k+1 by omega)
 have w3:=hd.cross w2
 have w4:=w1.cross w2
 have w5:=w1.cross hd
 have hdd:=w3.dot w3
 have hal:=zfp ho hd ha hb h0 hk S
 unfold pI
 by_cases hc:cH d (wb a b)=(0,0,0)
 ·rw [if_pos hc]
  have hc':pD (cH d (wb a b))=P3 0 0 0:=wK.mpr hc
  apply bK
  ·wtm_at "?b"
   unfold rW
   wtm_at "?a"
  ·wtm_at "?c"
  ·cases xZ o d a b<;>rfl
 ·rw [if_neg hc]
  have hpos:=Fb hc
  have hc':¬ pD (cH d (wb a b))=P3 0 0 0:=λe=>hc (wK.mp e)
  by_cases hq:di (wb o a) (cH d (wb a b))=0
  ·rw [if_pos hq]
   by_cases p1:di (cH (wb o a) (wb a b)) (cH d (wb a b))<0
   ·rw [if_pos (.inl p1)]
    apply bK
    ·wtm_at "?b"
     unfold rW
     wtm_at "?a"
    ·wtm_at "?c"
    ·rfl
   ·by_cases p2:di (cH (wb o a) d) (cH d (wb a b))<0
    ·rw [if_pos (.inr (.inl p2))]
     apply bK
     ·wtm_at "?b"
      unfold rW
      wtm_at "?a"
     ·wtm_at "?c"
     ·rfl
    ·by_cases p3:di (cH d (wb a b)) (cH d (wb a b))<di (cH (wb o a) d) (cH d (wb a b))
     ·rw [if_pos (.inr (.inr p3))]
      apply bK
      ·wtm_at "?b"
       unfold rW
       wtm_at "?a"
      ·wtm_at "?c"
      ·rfl
     ·rw [if_neg (by rintro (q | q | q);exact p1 q;exact p2 q;exact p3 q)]
      have hl:=zb (show 0<=di (cH (wb o a) (wb a b)) (cH d (wb a b)) by omega) hpos hdd (show k+(k+1)+1+(k+(k+1)+1)+2<=8000 by omega) S
      apply bK
      ·wtm_at "?b"
       unfold rW
       wtm_at "?a"
      ·wtm_at "?c"
      ·rfl
  ·rw [if_neg hq]
   apply bK
   ·wtm_at "?b"
    unfold rW
    wtm_at "?a"
   ·wtm_at "?c"
   ·rfl
def nF (k:Nat) (t:Tq):Prop:=∀ p,t=some p->0<=p.1/\0<p.2/\Bd k p.1/\Bd k p.2
theorem wM {k:Nat} {o d a b:Pt} (ho:aK k o) (hd:aK k d) (ha:aK k a) (hb:aK k b) (h0:d≠(0,0,0)):nF (4*k+10) (pI o d a b):=by
 have w1:=(ho.wb ha).le (show max k k+1<=k+1 by omega)
 have w0:=(ho.wb hb).le (show max k k+1<=k+1 by omega)
 have w2:=(ha.wb hb).le (show max k k+1<=k+1 by omega)
 have w3:=hd.cross w2
 have w4:=w1.cross w2
 have hdd:=w3.dot w3
 have h1:=Fb h0
 intro p hp
 unfold pI at hp
 split at hp
 ·unfold xZ at hp
  split at hp
  ·split at hp
   ·cases hp
   ·cases hp
    have a1:=w1.dot hd
    have a2:=w0.dot hd
    refine ⟨?_,h1,?_,(hd.dot hd).le (by omega)⟩
    ·simp only;unfold oO;split<;>omega
    ·simp only
     have hz:Bd (4*k+10) 0:=(Bd.lit 0).le (Nat.zero_le _)
     have e1:=a1.le (show k+1+k+2<=4*k+10 by omega)
     have e2:=a2.le (show k+1+k+2<=4*k+10 by omega)
     unfold oO qD
     split<;>split<;>assumption
  ·cases hp
 ·rename_i hc
  have hpos:=Fb hc
  split at hp
  ·split at hp
   ·cases hp
   ·rename_i hn
    cases hp
    refine ⟨?_,hpos,(w4.dot w3).le (by omega),hdd.le (by omega)⟩
    simp only
    exact Int.not_lt.mp λq=>hn (.inl q)
  ·cases hp
def qY (t:Tq):Tq:=t.map λp=>jq p.1 p.2
def tD (t:Tq):D:=match t with
 | none => .non
 | some p=>rD p
theorem YM (t:Tq):Lg t=tD (qY t):=by cases t<;>rfl
def tZ (best new:Tq):Tq:=match new with
 | none=>best
 | some t=>match best with
  | none=>some t
  | some b=>if iT t b then some t else some b
def rA (o d a b c:Pt):Tq:=tZ (tZ (tZ none (qY (pI o d a b))) (qY (pI o d b c))) (qY (pI o d c a))
theorem wL {k:Nat} {t:Tq} (h:nF k t):nF k (qY t):=λp hp=>by
 unfold qY at hp
 cases t with
 | none=>cases hp
 | some q =>
  cases hp
  obtain ⟨h1,h2,h3,h4⟩:=h q rfl
  obtain ⟨b1,b2⟩:=CV h3 h4 h2
  exact ⟨Em h1 h2,Eh _ _,b1,b2⟩
theorem yE {k:Nat} {s t:Tq} (h:nF k s) (g:nF k t):nF k (tZ s t):=by
 unfold tZ
 split
 ·exact h
 ·split
  ·exact g
  ·split
   ·exact g
   ·exact h
abbrev eL (a b c:Pt):O := .lst [.tup [pD a,pD b],.tup [pD b,pD c],.tup [pD c,pD a]]
theorem Qf {n:Nat} {xs:List D} {S:So} (h:S[n]?=some (.lst xs)):pJ (.lst n) S=some xs.length:=by
 show (match S[n]? with | some (.lst xs)=>some xs.length | some (.frz xs)=>some xs.length | _=>none)=_
 rw [h]
theorem Qx {n i:Nat} {xs:List D} {S:So} (h:S[n]?=some (.lst xs)) (hi:xs[i]?=none):cO (.lst n) i S=some none:=by unfold cO;simp only;rw [h];simp only;rw [hi]
theorem zg8 {a b c:Pt} {S:So} (hS:WF S):uy [.tup [pD a,pD b,pD c]] S=some (.ref S.length,S++[eL a b c]):=by
 apply rM
 ·wtm_at "?b"
  unfold DG
  wtm_at "?a"
 ·intro h;simp [D.lo] at h
 ·simp
 ·simp [D.lo]
 ·exact hS.snoc rfl
theorem zgn {a b c:Pt} {n:Nat} {S:So} (hS:WF S) (hn:S[n]?=some (.lst [pD a,pD b,pD c])):uy [.ref n] S=some (.ref S.length,S++[eL a b c]):=by
 apply rM
 ·wtm_at "?b"
  unfold DG
  wtm_at "?a"
 ·intro h;simp [D.lo] at h
 ·simp
 ·simp [D.lo]
 ·exact hS.snoc rfl
theorem Ip {k:Nat} {o d p q:Pt} {tr:D} {best:Tq} {x5:Option D} (ho:aK k o) (hd:aK k d) (hp:aK k p) (hq:aK k q) (h0:d≠(0,0,0)) (hk:k<=1500)
 (hb:nF (4*k+10) best) (S:So) :
 ∃ y,K3 [some (.tup [pD o,pD d]),some tr,some (tD best),some (pD p),some (pD q),x5] S=some (.nx,[some (.tup [pD o,pD d]),some tr,some (tD (tZ best (qY (pI o d p q)))),some (pD p),some (pD q),y],S):=by
 have hs:=zeB ho hd hp hq h0 hk S
 rw [YM] at hs
 have hb':=wL (wM ho hd hp hq h0)
 generalize qY (pI o d p q)=t at *
 have s1:KD [some (.tup [pD o,pD d]),some tr,some (tD best),some (pD p),some (pD q),x5] S=some (.nx,[some (.tup [pD o,pD d]),some tr,some (tD best),some (pD p),some (pD q),some (tD t)],S):=by
  unfold KD
  wtm_at "?a"
 refine ⟨some (tD t),?_⟩
 unfold K3
 refine aJ s1 (aR (aJ ?_ (aR dJ)))
 unfold tZ
 cases t with
 | none =>
  show qb [some (.tup [pD o,pD d]),some tr,some (tD best),some (pD p),some (pD q),some .non] S=some (_,[some (.tup [pD o,pD d]),some tr,some (tD best),some (pD p),some (pD q),some .non],_)
  unfold qb
  wtm_at "?a"
 | some t =>
  obtain ⟨t1,t2⟩:=t
  obtain ⟨_,_,b1,b2⟩:=hb' _ rfl
  cases best with
  | none =>
   show qb [some (.tup [pD o,pD d]),some tr,some .non,some (pD p),some (pD q),some (R2 t1 t2)] S=some (_,[some (.tup [pD o,pD d]),some tr,some (R2 t1 t2),some (pD p),some (pD q),some (R2 t1 t2)],_)
   unfold qb
   wtm_at "?a"
  | some m =>
   obtain ⟨m1,m2⟩:=m
   obtain ⟨_,_,c1,c2⟩:=hb _ rfl
   have hless:=sp_is_less b1 b2 c1 c2 (show 4*k+10+(4*k+10)<=134217728 by omega) S
   simp only at hless
   by_cases hc:t1*m2<m1*t2
   ·simp only
    rw [if_pos (show iT (t1,t2) (m1,m2) from hc)]
    show qb [some (.tup [pD o,pD d]),some tr,some (R2 m1 m2),some (pD p),some (pD q),some (R2 t1 t2)] S=some (_,[some (.tup [pD o,pD d]),some tr,some (R2 t1 t2),some (pD p),some (pD q),some (R2 t1 t2)],_)
    unfold qb
    wtm_at "?a"
   ·simp only
    rw [if_neg (show ¬ iT (t1,t2) (m1,m2) from hc)]
    show qb [some (.tup [pD o,pD d]),some tr,some (R2 m1 m2),some (pD p),some (pD q),some (R2 t1 t2)] S=some (_,[some (.tup [pD o,pD d]),some tr,some (R2 m1 m2),some (pD p),some (pD q),some (R2 t1 t2)],_)
    unfold qb
    wtm_at "?a"
end MX.P
end
section
local macro_rules | `(tactic| wtm_at "?d") => `(tactic| first | (with_reducible exact MX.P.sp_wb _ _ _) | ((with_reducible apply MX.P.sp_vdot); (focus with_reducible assumption); (focus with_reducible assumption); (focus omega)) | ((with_reducible apply MX.P.sp_vcross); (focus with_reducible assumption); (focus with_reducible assumption); (focus omega)) | (with_reducible assumption))
namespace MX.P
open PySem L2 MX
theorem Uj {k:Nat} {o d a b c:Pt} (ho:aK k o) (hd:aK k d) (ha:aK k a) (hb:aK k b) (hc:aK k c) (h0:d≠(0,0,0)) (hk:k<=1500) (S:So) (hS:WF S) :
 w6 [.tup [pD o,pD d],.tup [pD a,pD b,pD c]] S=some (tD (rA o d a b c),S):=by
 have n0:nF (4*k+10) none:=λp hp=>by cases hp
 have n1:=yE n0 (wL (wM ho hd ha hb h0))
 have n2:=yE n1 (wL (wM ho hd hb hc h0))
 obtain ⟨y1,e1⟩:=Ip (tr := .tup [pD a,pD b,pD c]) (x5:=none) ho hd ha hb h0 hk n0 (S++[eL a b c])
 obtain ⟨y2,e2⟩:=Ip (tr := .tup [pD a,pD b,pD c]) (x5:=y1) ho hd hb hc h0 hk n1 (S++[eL a b c])
 obtain ⟨y3,e3⟩:=Ip (tr := .tup [pD a,pD b,pD c]) (x5:=y2) ho hd hc ha h0 hk n2 (S++[eL a b c])
 have hz:D.lo S.length (tD (rA o d a b c))=true:=by cases rA o d a b c<;>rfl
 have hn:(S++[eL a b c])[S.length]?=some (eL a b c):=cI
 have ed:=zg8 (a:=a) (b:=b) (c:=c) hS
 have it:dz (eN (aO 1 uy) (ak (aj 1) (aq))) [some (.tup [pD o,pD d]),some (.tup [pD a,pD b,pD c]),some .non,none,none,none] S=some (.lst S.length,S++[eL a b c]):=by
  wtm_at "?j"
 have s2:J9 [some (.tup [pD o,pD d]),some (.tup [pD a,pD b,pD c]),some .non,none,none,none] S=some (.nx,[some (.tup [pD o,pD d]),some (.tup [pD a,pD b,pD c]),some (tD (rA o d a b c)),some (pD c),some (pD a),y3],S++[eL a b c]):=by
  unfold J9
  refine mC it (n:=3) (Qf hn) ?_
  exact lH (d := .tup [pD a,pD b]) (uh hn rfl) rfl e1 (Dc (lH (d := .tup [pD b,pD c]) (uh hn rfl) rfl e2 (Dc (lH (d := .tup [pD c,pD a]) (uh hn rfl) rfl e3 (Dc (Hv (Qx hn rfl)))))))
 refine bK (σ':=[some (.tup [pD o,pD d]),some (.tup [pD a,pD b,pD c]),some (tD (rA o d a b c)),some (pD c),some (pD a),y3]) (S':=S++[eL a b c]) ?_ (by simp) hz
 wtm_at "?b"
 unfold Ka Ue Ug
 exact aJ (cD aY rfl) (aR (aJ s2 (aR (aJ (dU (aC rfl)) cY))))
def cG (o w p q:Pt):Int:=di w (cH (wb o p) (wb o q))
def mj (o w a b c:Pt):Bool:=(decide (0<=cG o w a b)&&decide (0<=cG o w b c)&&decide (0<=cG o w c a))||(decide (cG o w a b<=0)&&decide (cG o w b c<=0)&&decide (cG o w c a<=0))
theorem Uh {k l:Nat} {o w a b c:Pt} (ho:aK k o) (hw:aK l w) (ha:aK k a) (hb:aK k b) (hc:aK k c) (hk:k<=10000) (hl:l<=30000) (S:So) (hS:WF S) :
 o7 [pD o,pD w,.tup [pD a,pD b,pD c]] S=some (.bl (mj o w a b c),S):=by
 have w1:=(ho.wb ha).le (show max k k+1<=k+1 by omega)
 have w2:=(ho.wb hb).le (show max k k+1<=k+1 by omega)
 have w3:=(ho.wb hc).le (show max k k+1<=k+1 by omega)
 have c1:=w1.cross w2
 have c2:=w2.cross w3
 have c3:=w3.cross w1
 have em:jo [cG o w a b,cG o w b c,cG o w c a]=some (if cG o w c a<(if cG o w b c<cG o w a b then cG o w b c else cG o w a b) then cG o w c a else (if cG o w b c<cG o w a b then cG o w b c else cG o w a b)):=rfl
 have eM:je [cG o w a b,cG o w b c,cG o w c a]=some (if cG o w c a>(if cG o w b c>cG o w a b then cG o w b c else cG o w a b) then cG o w c a else (if cG o w b c>cG o w a b then cG o w b c else cG o w a b)):=rfl
 generalize hx:(if cG o w c a<(if cG o w b c<cG o w a b then cG o w b c else cG o w a b) then cG o w c a else (if cG o w b c<cG o w a b then cG o w b c else cG o w a b))=x at em
 generalize hy:(if cG o w c a>(if cG o w b c>cG o w a b then cG o w b c else cG o w a b) then cG o w c a else (if cG o w b c>cG o w a b then cG o w b c else cG o w a b))=y at eM
 have e1:mj o w a b c=(decide (0<=x)||decide (y<=0)):=by
  unfold mj
  rw [Bool.eq_iff_iff]
  simp only [qR,cR,vW]
  subst hx hy
  split<;>split<;>split<;>split<;>omega
 unfold cG at em eM
 have gone:∃ S1,cX (dz (aj 2)) (aG 0) (cF) (eN (aO 2 dW) (ak (aj 1) (ak (aj 0) (aq)))) [none,some 0] [some (pD o),some (pD w),some (.tup [pD a,pD b,pD c]),none,none] S=some (.ref S.length,S1)/\S1=S++[.lst [pD (wb o a),pD (wb o b),pD (wb o c)]]:=by
  refine ⟨_,?_,rfl⟩
  wtm_at "?a"
 obtain ⟨S1,g1,g2⟩:=gone
 have hS1:S1[S.length]?=some (.lst [pD (wb o a),pD (wb o b),pD (wb o c)]):=by rw [g2];exact cI
 have hW1:WF S1:=by rw [g2];exact hS.snoc rfl
 have ed:=zgn hW1 hS1
 have hn2:(S1++[eL (wb o a) (wb o b) (wb o c)])[S1.length]?=some (eL (wb o a) (wb o b) (wb o c)):=cI
 have sides:cX (dz (eN (aO 1 uy) (ak (aj 3) (aq)))) (jw 2 (dR (aG 0) (dR (aG 1) (jO)))) (cF) (eN (aO 2 eX) (ak (aj 2) (ak (eN (aO 2 iV) (ak (aj 0) (ak (aj 1) (aq)))) (aq)))) [none,none,some 1]
  [some (pD o),some (pD w),some (.tup [pD a,pD b,pD c]),some (.ref S.length),none] S1=some (.ref (S1++[eL (wb o a) (wb o b) (wb o c)]).length,S1++[eL (wb o a) (wb o b) (wb o c)]++[.lst ([di w (cH (wb o a) (wb o b)),di w (cH (wb o b) (wb o c)),di w (cH (wb o c) (wb o a))].map D.int)]):=by
  refine m7 (j := .lst S1.length) (n:=3) (S1:=S1++[eL (wb o a) (wb o b) (wb o c)]) ?_ (Qf hn2) (vR rfl) rfl ?_
  ·exact lJ (bC (aL (aC rfl) aW) (cJ rfl ed)) hn2
  ·have one:∀ (x y:Pt),aK (k+1) x->aK (k+1) y->eN (aO 2 eX) (ak (aj 2) (ak (eN (aO 2 iV) (ak (aj 0) (ak (aj 1) (aq)))) (aq))) [some (pD x),some (pD y),some (pD w)] (S1++[eL (wb o a) (wb o b) (wb o c)])=some (.int (di w (cH x y)),S1++[eL (wb o a) (wb o b) (wb o c)]):=λx y hx hy=>by
    have hxy:=hx.cross hy
    wtm_at "?a"
   refine rC (uh hn2 rfl) rfl rK (one _ _ w1 w2) rfl ?_
   refine rC (uh hn2 rfl) rfl rK (one _ _ w2 w3) rfl ?_
   refine rC (uh hn2 rfl) rfl rK (one _ _ w3 w1) rfl ?_
   exact wD (Qx hn2 rfl)
 rw [e1]
 have gO:∀ o1 o2:O,(S1++[o1]++[o2]).take S.length=S:=λo1 o2=>by rw [g2];simp
 by_cases hxx:0<=x
 ·rw [lG hxx,Bool.true_or]
  apply bK
  ·wtm_at "?b"
   unfold Fe
   apply aJ
   ·exact cD g1 rfl
   ·apply aR
    apply aJ
    ·exact cD sides rfl
    ·apply aR
     apply aJ
     ·apply dU
      apply G5
      ·apply aV
       ·apply bC
        ·wtm_at "?a"
        ·exact Hx cI em
       ·wtm_at "?a"
       ·wtm_at "?h"
      ·apply fV
       ·exact lG hxx
       ·rfl
     ·exact cY
  ·exact gO _ _
  ·rfl
 ·rw [jP hxx,Bool.false_or]
  apply bK
  ·wtm_at "?b"
   unfold Fe
   apply aJ
   ·exact cD g1 rfl
   ·apply aR
    apply aJ
    ·exact cD sides rfl
    ·apply aR
     apply aJ
     ·apply dU
      apply G5
      ·apply aV
       ·apply bC
        ·wtm_at "?a"
        ·exact Hx cI em
       ·wtm_at "?a"
       ·wtm_at "?h"
      ·apply fH
       ·exact jP hxx
       ·apply aV
        ·apply bC
         ·wtm_at "?a"
         ·exact PB cI eM
        ·wtm_at "?a"
        ·wtm_at "?h"
     ·exact cY
  ·exact gO _ _
  ·rfl
end MX.P
end
section
local macro_rules | `(tactic| wtm_at "?d") => `(tactic| first | (with_reducible exact MX.P.sp_wb _ _ _) | ((with_reducible apply MX.P.sp_vdot); (focus with_reducible assumption); (focus with_reducible assumption); (focus omega)) | ((with_reducible apply MX.P.sp_vcross); (focus with_reducible assumption); (focus with_reducible assumption); (focus omega)) | (with_reducible assumption))
namespace MX.P
open PySem L2 MX
def Ce (o d a b c up:Pt):Tq:=if mj o up a b c=true then some (0,1) else rA o d a b c
theorem zkQ {o d t up:D} {S:So} (hg:o7 [o,up,t] S=some (.bl true,S)):xH [.tup [o,d],t,up] S=some (R2 0 1,S):=by
 apply bK
 ·wtm_at "?b"
  unfold Fi
  wtm_at "?a"
 ·wtm_at "?c"
 ·rfl
theorem zkR {o d t up r:D} {S:So} (hg:o7 [o,up,t] S=some (.bl false,S)) (he:w6 [.tup [o,d],t] S=some (r,S)) (hr:D.lo S.length r=true):xH [.tup [o,d],t,up] S=some (r,S):=by
 apply bK
 ·wtm_at "?b"
  unfold Fi
  apply aJ
  ·apply eF
   ·wtm_at "?a"
   ·apply fH
    ·rfl
    ·wtm_at "?a"
  ·apply aR
   apply aJ
   ·wtm_at "?a"
   ·wtm_at "?m"
 ·wtm_at "?c"
 ·exact hr
theorem yr (n:Nat) (t:Tq):D.lo n (tD t)=true:=by cases t<;>rfl
theorem zeT {k l:Nat} {o d a b c up:Pt} (ho:aK k o) (hd:aK k d) (ha:aK k a) (hb:aK k b) (hc:aK k c) (hu:aK l up) (h0:d≠(0,0,0)) (hk:k<=1500) (hl:l<=30000) (S:So) (hS:WF S) :
 xH [.tup [pD o,pD d],.tup [pD a,pD b,pD c],pD up] S=some (tD (Ce o d a b c up),S):=by
 have hg:=Uh ho hu ha hb hc (by omega) hl S hS
 have he:=Uj ho hd ha hb hc h0 hk S hS
 unfold Ce
 by_cases q:mj o up a b c=true
 ·rw [if_pos q]
  rw [q] at hg
  exact zkQ hg
 ·rw [if_neg q]
  have q':mj o up a b c=false:=by simpa using q
  rw [q'] at hg
  exact zkR hg he (yr _ _)
def tX (o d a b c:Pt):Tq :=
 if cH (wb a b) (wb a c)=(0,0,0) then rA o d a b c
 else if di d (cH (wb a b) (wb a c))=0 then
  if di (wb o a) (cH (wb a b) (wb a c))=0 then Ce o d a b c (cH (wb a b) (wb a c)) else none
 else if di d (cH (wb a b) (wb a c))<0 then
  if -di (wb o a) (cH (wb a b) (wb a c))<0\/mj o d a b c=false then none else some (jq (-di (wb o a) (cH (wb a b) (wb a c))) (-di d (cH (wb a b) (wb a c))))
 else if di (wb o a) (cH (wb a b) (wb a c))<0\/mj o d a b c=false then none else some (jq (di (wb o a) (cH (wb a b) (wb a c))) (di d (cH (wb a b) (wb a c))))
theorem zkV {o d a b c up:Pt} {r:D} {S:So} (hup:up=cH (wb a b) (wb a c)) (hz:up=(0,0,0)) {k:Nat} (w1:aK k (wb a b)) (w2:aK k (wb a c)) (hk:k<=10000) (he:w6 [.tup [pD o,pD d],.tup [pD a,pD b,pD c]] S=some (r,S)) (hr:D.lo S.length r=true) :
 mF [.tup [pD o,pD d],.tup [pD a,pD b,pD c]] S=some (r,S):=by
 have hz':pD (cH (wb a b) (wb a c))=P3 0 0 0:=wK.mpr (hup ▸ hz)
 apply bK
 ·wtm_at "?b"
  unfold nj
  wtm_at "?a"
 ·wtm_at "?c"
 ·exact hr
end MX.P
end
section
local macro_rules | `(tactic| wtm_at "?d") => `(tactic| first | (with_reducible assumption))
namespace MX.P
open PySem L2 MX
section
variable {o d a b c e1 e2 q r:D} {u:Pt} {U V:Int} {S:So}
theorem XJ (h1:dW [a,b] S=some (e1,S)) (h2:dW [a,c] S=some (e2,S)) (h3:iV [e1,e2] S=some (pD u,S)) (hu:¬ pD u=P3 0 0 0) (h4:dW [o,a] S=some (q,S)) (h5:eX [q,pD u] S=some (.int U,S)) (h6:eX [d,pD u] S=some (.int V,S))
 (hV:V=0) (hU:U=0) (hr:xH [.tup [o,d],.tup [a,b,c],pD u] S=some (r,S)) (hl:D.lo S.length r=true):mF [.tup [o,d],.tup [a,b,c]] S=some (r,S):=by
 apply bK
 ·wtm_at "?b"
  unfold nj
  wtm_at "?a"
 ·wtm_at "?c"
 ·exact hl
theorem zmv (h1:dW [a,b] S=some (e1,S)) (h2:dW [a,c] S=some (e2,S)) (h3:iV [e1,e2] S=some (pD u,S)) (hu:¬ pD u=P3 0 0 0) (h4:dW [o,a] S=some (q,S)) (h5:eX [q,pD u] S=some (.int U,S)) (h6:eX [d,pD u] S=some (.int V,S))
 (hV:V=0) (hU:¬ U=0):mF [.tup [o,d],.tup [a,b,c]] S=some (.non,S):=by
 apply bK
 ·wtm_at "?b"
  unfold nj
  wtm_at "?a"
 ·wtm_at "?c"
 ·rfl
theorem XM (h1:dW [a,b] S=some (e1,S)) (h2:dW [a,c] S=some (e2,S)) (h3:iV [e1,e2] S=some (pD u,S)) (hu:¬ pD u=P3 0 0 0) (h4:dW [o,a] S=some (q,S)) (h5:eX [q,pD u] S=some (.int U,S)) (h6:eX [d,pD u] S=some (.int V,S))
 (Ay:¬ V=0) (hV:V<0) (hU : -U<0):mF [.tup [o,d],.tup [a,b,c]] S=some (.non,S):=by
 apply bK
 ·wtm_at "?b"
  unfold nj
  wtm_at "?a"
 ·wtm_at "?c"
 ·rfl
theorem XR (h1:dW [a,b] S=some (e1,S)) (h2:dW [a,c] S=some (e2,S)) (h3:iV [e1,e2] S=some (pD u,S)) (hu:¬ pD u=P3 0 0 0) (h4:dW [o,a] S=some (q,S)) (h5:eX [q,pD u] S=some (.int U,S)) (h6:eX [d,pD u] S=some (.int V,S))
 (Ay:¬ V=0) (hV:V<0) (hU:¬ -U<0) (hg:o7 [o,d,.tup [a,b,c]] S=some (.bl false,S)):mF [.tup [o,d],.tup [a,b,c]] S=some (.non,S):=by
 apply bK
 ·wtm_at "?b"
  unfold nj
  wtm_at "?a"
 ·wtm_at "?c"
 ·rfl
theorem XQ (h1:dW [a,b] S=some (e1,S)) (h2:dW [a,c] S=some (e2,S)) (h3:iV [e1,e2] S=some (pD u,S)) (hu:¬ pD u=P3 0 0 0) (h4:dW [o,a] S=some (q,S)) (h5:eX [q,pD u] S=some (.int U,S)) (h6:eX [d,pD u] S=some (.int V,S))
 (Ay:¬ V=0) (hV:V<0) (hU:¬ -U<0) (hg:o7 [o,d,.tup [a,b,c]] S=some (.bl true,S)) (hq:rR [.tup [.int (-U),.int (-V)]] S=some (r,S)) (hl:D.lo S.length r=true):mF [.tup [o,d],.tup [a,b,c]] S=some (r,S):=by
 apply bK
 ·wtm_at "?b"
  unfold nj
  wtm_at "?a"
 ·wtm_at "?c"
 ·exact hl
theorem XS (h1:dW [a,b] S=some (e1,S)) (h2:dW [a,c] S=some (e2,S)) (h3:iV [e1,e2] S=some (pD u,S)) (hu:¬ pD u=P3 0 0 0) (h4:dW [o,a] S=some (q,S)) (h5:eX [q,pD u] S=some (.int U,S)) (h6:eX [d,pD u] S=some (.int V,S))
 (Ay:¬ V=0) (hV:¬ V<0) (hU:U<0):mF [.tup [o,d],.tup [a,b,c]] S=some (.non,S):=by
 apply bK
 ·wtm_at "?b"
  unfold nj
  wtm_at "?a"
 ·wtm_at "?c"
 ·rfl
theorem X4 (h1:dW [a,b] S=some (e1,S)) (h2:dW [a,c] S=some (e2,S)) (h3:iV [e1,e2] S=some (pD u,S)) (hu:¬ pD u=P3 0 0 0) (h4:dW [o,a] S=some (q,S)) (h5:eX [q,pD u] S=some (.int U,S)) (h6:eX [d,pD u] S=some (.int V,S))
 (Ay:¬ V=0) (hV:¬ V<0) (hU:¬ U<0) (hg:o7 [o,d,.tup [a,b,c]] S=some (.bl false,S)):mF [.tup [o,d],.tup [a,b,c]] S=some (.non,S):=by
 apply bK
 ·wtm_at "?b"
  unfold nj
  wtm_at "?a"
 ·wtm_at "?c"
 ·rfl
theorem X3 (h1:dW [a,b] S=some (e1,S)) (h2:dW [a,c] S=some (e2,S)) (h3:iV [e1,e2] S=some (pD u,S)) (hu:¬ pD u=P3 0 0 0) (h4:dW [o,a] S=some (q,S)) (h5:eX [q,pD u] S=some (.int U,S)) (h6:eX [d,pD u] S=some (.int V,S))
 (Ay:¬ V=0) (hV:¬ V<0) (hU:¬ U<0) (hg:o7 [o,d,.tup [a,b,c]] S=some (.bl true,S)) (hq:rR [.tup [.int U,.int V]] S=some (r,S)) (hl:D.lo S.length r=true):mF [.tup [o,d],.tup [a,b,c]] S=some (r,S):=by
 apply bK
 ·wtm_at "?b"
  unfold nj
  wtm_at "?a"
 ·wtm_at "?c"
 ·exact hl
end
end MX.P
end
section
namespace MX.P
open PySem L2 MX
theorem zd9 {k:Nat} {o d a b c:Pt} (ho:aK k o) (hd:aK k d) (ha:aK k a) (hb:aK k b) (hc:aK k c) (h0:d≠(0,0,0)) (hk:k<=1500) (S:So) (hS:WF S) :
 mF [.tup [pD o,pD d],.tup [pD a,pD b,pD c]] S=some (tD (tX o d a b c),S):=by
 have w1:=ha.wb hb
 have w2:=ha.wb hc
 have w3:=ho.wb ha
 have wu:=w1.cross w2
 have bU:=w3.dot wu
 have bV:=hd.dot wu
 have h1:=sp_wb a b S
 have h2:=sp_wb a c S
 have h3:=sp_vcross w1 w2 (by omega) S
 have h4:=sp_wb o a S
 have h5:=sp_vdot w3 wu (by omega) S
 have h6:=sp_vdot hd wu (by omega) S
 have hg:=Uh ho hd ha hb hc (by omega) (by omega) S hS
 have he:=Uj ho hd ha hb hc h0 hk S hS
 have hw:=zeT ho hd ha hb hc wu h0 hk (by omega) S hS
 unfold tX
 generalize hu:cH (wb a b) (wb a c)=u at *
 by_cases q0:u=(0,0,0)
 ·rw [if_pos q0]
  exact zkV hu.symm q0 w1 w2 (by omega) he (yr _ _)
 ·rw [if_neg q0]
  have hne:¬ pD u=P3 0 0 0:=λh=>q0 (wK.mp h)
  generalize di (wb o a) u=U at *
  generalize di d u=V at *
  by_cases v0:V=0
  ·rw [if_pos v0]
   by_cases u0:U=0
   ·rw [if_pos u0]
    exact XJ h1 h2 h3 hne h4 h5 h6 v0 u0 hw (yr _ _)
   ·rw [if_neg u0]
    exact zmv h1 h2 h3 hne h4 h5 h6 v0 u0
  ·rw [if_neg v0]
   by_cases vn:V<0
   ·rw [if_pos vn]
    by_cases un : -U<0
    ·rw [if_pos (Or.inl un)]
     exact XM h1 h2 h3 hne h4 h5 h6 v0 vn un
    ·by_cases gg:mj o d a b c=false
     ·rw [if_pos (Or.inr gg)]
      rw [gg] at hg
      exact XR h1 h2 h3 hne h4 h5 h6 v0 vn un hg
     ·rw [if_neg (λh=>h.elim un gg)]
      have Ni:mj o d a b c=true:=by simpa using gg
      rw [Ni] at hg
      exact XQ h1 h2 h3 hne h4 h5 h6 v0 vn un hg (zb (by omega) (by omega) bV.neg (by omega) S) (yr S.length (some (jq (-U) (-V))))
   ·rw [if_neg vn]
    by_cases un:U<0
    ·rw [if_pos (Or.inl un)]
     exact XS h1 h2 h3 hne h4 h5 h6 v0 vn un
    ·by_cases gg:mj o d a b c=false
     ·rw [if_pos (Or.inr gg)]
      rw [gg] at hg
      exact X4 h1 h2 h3 hne h4 h5 h6 v0 vn un hg
     ·rw [if_neg (λh=>h.elim un gg)]
      have Ni:mj o d a b c=true:=by simpa using gg
      rw [Ni] at hg
      exact X3 h1 h2 h3 hne h4 h5 h6 v0 vn un hg (zb (by omega) (by omega) bV (by omega) S) (yr S.length (some (jq U V)))
end MX.P
end
section
local macro_rules | `(tactic| wtm_at "?d") => `(tactic| (with_reducible assumption))
namespace MX.P
open PySem L2 MX
theorem zlQ {k:Nat} {o d a b c:Pt} (ho:aK k o) (hd:aK k d) (ha:aK k a) (hb:aK k b) (hc:aK k c) (h0:d≠(0,0,0)):nF (4*k+10) (rA o d a b c) :=
 yE (yE (yE (λp hp=>by cases hp) (wL (wM ho hd ha hb h0))) (wL (wM ho hd hb hc h0))) (wL (wM ho hd hc ha h0))
theorem XH {k:Nat} {o d a b c:Pt} (ho:aK k o) (hd:aK k d) (ha:aK k a) (hb:aK k b) (hc:aK k c) (h0:d≠(0,0,0)):nF (4*k+10) (tX o d a b c):=by
 have eb:=zlQ ho hd ha hb hc h0
 have w1:=(ha.wb hb).le (show max k k+1<=k+1 by omega)
 have w2:=(ha.wb hc).le (show max k k+1<=k+1 by omega)
 have w3:=(ho.wb ha).le (show max k k+1<=k+1 by omega)
 have wu:=w1.cross w2
 have bU:=(w3.dot wu).le (show k+1+(k+1+(k+1)+1)+2<=4*k+10 by omega)
 have bV:=(hd.dot wu).le (show k+(k+1+(k+1)+1)+2<=4*k+10 by omega)
 unfold tX Ce
 intro p hp
 split at hp
 ·exact eb p hp
 ·split at hp
  ·split at hp
   ·split at hp
    ·cases hp
     exact ⟨by decide,by decide,(Bd.lit 0).le (Nat.zero_le _),(Bd.lit 1).le (show 1<=4*k+10 by omega)⟩
    ·exact eb p hp
   ·cases hp
  ·rename_i hV
   split at hp
   ·rename_i hn
    split at hp
    ·cases hp
    ·rename_i hb
     cases hp
     obtain ⟨b1,b2⟩:=CV bU.neg bV.neg (by omega)
     exact ⟨Em (Int.not_lt.mp λq=>hb (.inl q)) (by omega),Eh _ _,b1,b2⟩
   ·rename_i hn
    split at hp
    ·cases hp
    ·rename_i hb
     cases hp
     obtain ⟨b1,b2⟩:=CV bU bV (by omega)
     exact ⟨Em (Int.not_lt.mp λq=>hb (.inl q)) (by omega),Eh _ _,b1,b2⟩
theorem zfn {k:Nat} {o d a b c:Pt} (ho:aK k o) (hd:aK k d) (ha:aK k a) (hb:aK k b) (hc:aK k c) (h0:d≠(0,0,0)) (hk:k<=1500) (S:So) (hS:WF S) :
 yI [.tup [pD o,pD d],.tup [.str "triangle",pD a,pD b,pD c]] S=some (tD (tX o d a b c),S):=by
 have hm:=zd9 ho hd ha hb hc h0 hk S hS
 apply bK
 ·wtm_at "?b"
  unfold DQ
  have t:bN (eB (bf .Eq) (eB aM (aj 1) (eC (.int 0))) (eC (.str "box"))) [some (.tup [pD o,pD d]),some (.tup [.str "triangle",pD a,pD b,pD c])] S=some (false,S):=by
   have h:=eY (aV (fa:=eB aM (aj 1) (eC (.int 0))) (fb:=eC (.str "box")) (σ:=[some (.tup [pD o,pD d]),some (.tup [.str "triangle",pD a,pD b,pD c])]) (S:=S) (aV (aC rfl) aY (gK rfl)) aY (wC (x := .str "triangle") (y := .str "box") rfl 1 (by decide +kernel) (by decide +kernel) (by decide)))
   rw [h,jP (λe=>by simp only [D.str.injEq] at e;exact absurd e (by decide +kernel))]
  refine aJ (eF t (fH rfl dJ)) (aR ?_)
  wtm_at "?a"
 ·wtm_at "?c"
 ·cases tX o d a b c<;>rfl
inductive Sh where
 | box (lo hi:Pt)
 | tri (a b c:Pt)
def dM:Sh->D
 | .box lo hi => .tup [.str "box",pD lo,pD hi]
 | .tri a b c => .tup [.str "triangle",pD a,pD b,pD c]
def Sh.pts:Sh->List Pt
 | .box lo hi=>[lo,hi]
 | .tri a b c=>[a,b,c]
structure oG (k:Nat) (s:Sh):Prop where
 bd:∀ p∈s.pts,aK k p
 ord:∀ lo hi,s = .box lo hi->lo.1<=hi.1/\lo.2.1<=hi.2.1/\lo.2.2<=hi.2.2
def uH (o d:Pt):Sh->Tq
 | .box lo hi=>(mZ o d lo hi).map λp=>jq p.1.1 p.1.2
 | .tri a b c=>tX o d a b c
theorem V6 (t:Option ((Int×Int)×(Int×Int))):MF t=tD (t.map λp=>jq p.1.1 p.1.2):=by cases t<;>rfl
theorem zmG {k:Nat} {o d:Pt} {s:Sh} (ho:aK k o) (hd:aK k d) (hs:oG k s) (h0:d≠(0,0,0)) (hk:k<=1500) (S:So) (hS:WF S) :
 yI [.tup [pD o,pD d],dM s] S=some (tD (uH o d s),S):=by
 cases s with
 | box lo hi =>
  have:=zfo ho hd (hs.bd lo (by simp [Sh.pts])) (hs.bd hi (by simp [Sh.pts])) h0 (by omega) S
  rw [V6] at this
  exact this
 | tri a b c=>exact zfn ho hd (hs.bd a (by simp [Sh.pts])) (hs.bd b (by simp [Sh.pts])) (hs.bd c (by simp [Sh.pts])) h0 hk S hS
theorem Vz {k:Nat} {o d:Pt} {s:Sh} (ho:aK k o) (hd:aK k d) (hs:oG k s) (h0:d≠(0,0,0)):nF (4*k+10) (uH o d s):=by
 cases s with
 | box lo hi =>
  intro p hp
  simp only [uH,aU] at hp
  obtain ⟨q,e,rfl⟩:=hp
  have ok:=Rg ho hd (hs.bd lo (by simp [Sh.pts])) (hs.bd hi (by simp [Sh.pts])) e
  have b:=CV (k:=4*k+10) (ok.b1.le (by omega)) (ok.b2.le (by omega)) ok.f2
  exact ⟨Em ok.f0 ok.f2,Eh _ _,b.1,b.2⟩
 | tri a b c=>exact XH ho hd (hs.bd a (by simp [Sh.pts])) (hs.bd b (by simp [Sh.pts])) (hs.bd c (by simp [Sh.pts])) h0
theorem Iw:∀ {ns:List Int} {m:Int},jo ns=some m->m∈ns:=by
 intro ns m h
 cases ns with
 | nil=>cases h
 | cons a r =>
  have h':r.foldl (λx y=>if y<x then y else x) a=m:=by simpa [jo] using h
  clear h
  induction r generalizing a with
  | nil=>simp at h';subst h';simp
  | cons b r ih =>
   rw [List.foldl_cons] at h'
   have:=ih _ h'
   rcases List.mem_cons.mp this with e | e
   ·rw [e];split<;>simp
   ·exact cM _ (cM _ e)
theorem Dp:∀ {ns:List Int} {m:Int},je ns=some m->m∈ns:=by
 intro ns m h
 cases ns with
 | nil=>cases h
 | cons a r =>
  have h':r.foldl (λx y=>if y>x then y else x) a=m:=by simpa [je] using h
  clear h
  induction r generalizing a with
  | nil=>simp at h';subst h';simp
  | cons b r ih =>
   rw [List.foldl_cons] at h'
   have:=ih _ h'
   rcases List.mem_cons.mp this with e | e
   ·rw [e];split<;>simp
   ·exact cM _ (cM _ e)
theorem xT.bd {k:Nat} {pts:List Pt} {lo hi:Pt} (B:xT pts lo hi) (h:∀ p∈pts,aK k p):aK k lo/\aK k hi:=by
 have m:∀ {j:Int} {x:Int},(0<=j/\j<=2)->x∈pts.map (co j)->Bd k x:=λ{j x} hj hx=>by
  obtain ⟨p,hp,rfl⟩:=List.mem_map.mp hx
  have:=h p hp
  unfold co
  split
  ·exact this.1
  ·split
   ·exact this.2.1
   ·exact this.2.2
 exact ⟨⟨m (by decide) (Iw B.h0),m (by decide) (Iw B.h1),m (by decide) (Iw B.h2)⟩,⟨m (by decide) (Dp B.g0),m (by decide) (Dp B.g1),m (by decide) (Dp B.g2)⟩⟩
theorem zmN {k:Nat} {s:Sh} (hs:oG k s):∃ lo hi,xT s.pts lo hi/\aK k lo/\aK k hi/\∀ S,WF S->uq [dM s] S=some (.tup [pD lo,pD hi],S):=by
 obtain ⟨lo,hi,B⟩:=Ox (pts:=s.pts) (by cases s<;>simp [Sh.pts])
 refine ⟨lo,hi,B,(B.bd hs.bd).1,(B.bd hs.bd).2,λS hS=>?_⟩
 cases s with
 | box l h =>
  obtain ⟨o1,o2,o3⟩:=hs.ord l h rfl
  exact RB (nm := "box") (pts:=[l,h]) hS (by simp) (by simp) B (zeV o1 o2 o3)
 | tri a b c=>exact RB (nm := "triangle") (pts:=[a,b,c]) hS (by simp) (by simp) B zeU
end MX.P
end
section
local macro_rules | `(tactic| wtm_at "?d") => `(tactic| (with_reducible assumption))
namespace MX.P
open PySem L2 MX
inductive Tr where
 | lf (lo hi:Pt) (i:Nat)
 | nd (lo hi:Pt) (l r:Tr)
abbrev GC (b x h:D):D := .obj "Tree" ["box", "number", "halves"] [b,x,h]
def bD:Tr->D
 | .lf lo hi i=>GC (.tup [pD lo,pD hi]) (.int (i:Nat)) (.tup [])
 | .nd lo hi l r=>GC (.tup [pD lo,pD hi]) .non (.tup [bD l,bD r])
def Tr.lo:Tr->Pt
 | .lf lo _ _=>lo
 | .nd lo _ _ _=>lo
def Tr.hi:Tr->Pt
 | .lf _ hi _=>hi
 | .nd _ hi _ _=>hi
theorem pY (n:Nat):∀ t:Tr,D.lo n (bD t)=true
 | .lf lo hi i=>by simp [bD,D.lo,cA]
 | .nd lo hi l r=>by simp [bD,D.lo,cA,pY n l,pY n r]
section
variable {σ σ1:Sg} {S S1 S2:So} {fe fo fv:EF} {d x:D} {C f:Str} {n:Nat} {ds:List D} {fa:AF} {φ:GN}
theorem p6 {ks:List Str} {xs:List D} (h1:fe σ S=some (.obj C ks xs,S1)) (hl:ks.length=xs.length) (h2:(ks.zip xs).lookup f=some d):gb C f fe σ S=some (d,S1):=by
 unfold gb;rw [h1];simp only [cg];rw [if_pos ⟨trivial,hl⟩,h2];rfl
theorem Hu {fs:List (Str×D)} (h1:fe σ S=some (.ref n,S1)) (h2:S1[n]?=some (.ins C fs)) (h3:fs.lookup f=some d):gb C f fe σ S=some (d,S1):=by
 unfold gb;rw [h1];simp only [cg];rw [h2];simp only [if_true];rw [h3];rfl
theorem yD {fs:List (Str×D)} {S3:So} (h1:fv σ S=some (d,S1)) (h2:fo σ S1=some (.ref n,S2)) (h3:S2[n]?=some (.ins C fs)) (h4:fs.length<3) (h5:S2.set n (.ins C (t6 f d fs))=S3):mY C f fo fv σ S=some (.nx,σ,S3):=by
 unfold mY;rw [h1];simp only [cg];rw [h2];simp only [cg];rw [h3];simp only;rw [if_pos ⟨trivial,h4⟩,h5]
theorem OJ (h1:fa σ S=some (ds,S1)) (hn:ds.length+1=n) (h2:φ (.ref S1.length::ds) (S1++[.ins C []])=some (.non,S2)):pq C n φ fa σ S=some (lU C S1.length S2):=by
 unfold pq;rw [h1];simp only [cg]
 unfold aO
 rw [if_pos (by simpa using hn),h2];rfl
theorem Ht {fs:List (Str×D)} {m:Str} {r:Option (D×So)} {ds:List D} {k:Nat} (h1:fo σ S=some (.ref k,S1)) (h2:S1[k]?=some (.ins C fs)) (h3:fs.lookup m=none) (h4:fa σ S1=some (ds,S2)) (hn:ds.length+1=n) (h5:φ (.ref k::ds) S2=r):lA C m n φ fo fa σ S=r:=by
 unfold lA;rw [h1];simp only [cg];rw [h2];simp only;rw [if_pos ⟨trivial,h3⟩,h4];simp only [cg]
 unfold aO
 rw [if_pos (by simpa using hn),h5]
theorem PX {k:Nat} {fb:SF} {S':So} {σ':Sg} (h:fb (lM k ds) S=some (.nx,σ',S')) (hne:¬ S'.take S.length=S) (hl:S.length<=S'.length) (hw:WF S'):fnOf k fb ds S=some (.non,S'):=by
 unfold fnOf
 rw [h]
 simp only
 rw [if_neg hne,if_pos ⟨hl,hw⟩]
end
theorem IV {S:So} {a b:O}:(S++[a]).set S.length b=S++[b]:=by simp
theorem zmO {S:So} {b x h:D} (hS:WF S) (hlo:cA S.length [b,x,h]=true):xr [.ref S.length,b,x,h] (S++[.ins "Tree" []])=some (.non,S++[.ins "Tree" [("box",b),("number",x),("halves",h)]]):=by
 apply PX
 ·wtm_at "?b"
  unfold KY
  refine aJ (yD (aC rfl) (aC rfl) cI (show (0:Nat)<3 by decide) IV) (aR ?_)
  refine aJ (yD (aC rfl) (aC rfl) cI (show (1:Nat)<3 by decide) IV) (aR ?_)
  refine aJ (yD (aC rfl) (aC rfl) cI (show (2:Nat)<3 by decide) IV) (aR ?_)
  rfl
 ·intro e
  have:=congrArg (λl=>l[S.length]?) e
  simp at this
 ·simp
 ·exact hS.snoc (by
   simpa [O.lo,t6] using hlo)
theorem R0 {σ:Sg} {S S1:So} {fa:AF} {b x h:D} (h1:fa σ S=some ([b,x,h],S1)) (hS:WF S1) (hlo:cA S1.length [b,x,h]=true):pq "Tree" 4 xr fa σ S=some (GC b x h,S1):=by
 rw [OJ (n:=4) h1 rfl (zmO hS hlo)]
 unfold lU
 rw [cI]
 simp only
 rw [if_pos]
 ·simp
 ·refine ⟨trivial,by simp,by simp,by simpa using hlo,?_⟩
  rw [List.all_eq_true]
  intro o ho
  have ho':o∈S1:=by simpa using ho
  exact hS o ho'
theorem ZF {a b c m:Int} (h:m∈[a,b,c]):[a,b,c].idxOf m<=2:=by
 have:=List.idxOf_lt_length_iff.mpr h
 simp only [iG,vU] at this
 omega
theorem zlP {S:So} {n:Nat} {xs:List D} {ns:List Int} {m:Int} (h1:S[n]?=some (.lst xs)) (h2:mq xs=some ns) (h:m∈ns):vZ (.ref n) [.int m] S=some (.int (ns.idxOf m:Nat),S):=by
 unfold vZ;simp only;rw [h1];simp only;rw [h2];simp only [cg];rw [if_pos h]
theorem zjn (lo hi:Pt):∃ j:Nat,j<=2/\∀ S,JS [.tup [pD lo,pD hi]] S=some (.int (j:Nat),S):=by
 obtain ⟨m,hm⟩:=CN (ns:=[hi.1 - lo.1,hi.2.1 - lo.2.1,hi.2.2 - lo.2.2]) (by simp)
 have mem:=Dp hm
 refine ⟨_,ZF mem,λS=>?_⟩
 apply bK
 ·wtm_at "?b"
  unfold Ko
  apply aJ
  ·apply cD
   ·wtm_at "?a"
   ·wtm_at "?g"
  ·apply aR
   apply aJ
   ·apply dU
    apply yo
    ·wtm_at "?a"
    ·exact cI
    ·apply aL
     ·apply bC
      ·wtm_at "?a"
      ·exact Q6 cI rfl hm
     ·exact aW
    ·exact zlP cI rfl mem
   ·exact cY
 ·wtm_at "?c"
 ·rfl
end MX.P
end
section
local macro_rules | `(tactic| wtm_at "?d") => `(tactic| (with_reducible assumption))
namespace MX.P
open PySem L2 MX
theorem Hz {α:Type} {nx:Nat->So->Option (Option D)} {fe:EF} {S:So} {rest:Sg} (qs:List α) (enc g:α->D) (hnx:∀ i:Nat,nx i S=some ((qs.map enc)[i]?)) (hstep:∀ q∈qs,fe (some (enc q)::rest) S=some (g q,S)) :
 ∀ (n i:Nat) (v:Option D) (acc:List D),i+n=qs.length->iw nx (aG 0) cF fe n i (v::rest) S acc=some (acc++(qs.drop i).map g,S)
 | 0,i,v,acc,h=>by
  rw [wD (by rw [hnx,iK (by simp;omega)]),List.drop_of_length_le (by omega)];simp
 | n+1,i,v,acc,h=>by
  have hi:i<qs.length:=by omega
  have e:(qs.map enc)[i]?=some (enc qs[i]):=by simp [hi]
  refine (rC (by rw [hnx,e]) (bT rfl) rK (hstep _ (List.getElem_mem hi)) rfl (Hz qs enc g hnx hstep n (i+1) (some (enc qs[i])) (acc++[g qs[i]]) (by omega))).trans ?_
  rw [List.drop_eq_getElem_cons hi,iM,fD]
  rfl
theorem wR {α:Type} {σ:Sg} {S S1:So} {fi:IF} {fe:EF} {src:List (Option Nat)} {n:Nat} {rest:Sg} (qs:List α) (enc g:α->D) (h1:fi σ S=some (.lst n,S1)) (hn:S1[n]?=some (.lst (qs.map enc))) (hl:qs.length<=1000) (hτ:mO src σ=none::rest)
 (hstep:∀ q∈qs,fe (some (enc q)::rest) S1=some (g q,S1)):cX fi (aG 0) cF fe src σ S=some (.ref S1.length,S1++[.lst (qs.map g)]):=by
 have key:=Hz (nx:=cO (.lst n)) (S:=S1) (rest:=rest) (fe:=fe) qs enc g (λi=>by unfold cO;simp only;rw [hn]) hstep qs.length 0 none [] (by omega)
 refine m7 (n:=qs.length) h1 ?_ (by rw [sizeLine_eq];omega) hτ ?_
 ·show (match S1[n]? with | some (.lst xs)=>some xs.length | some (.frz xs)=>some xs.length | _=>none)=_
  rw [hn];simp
 ·rw [key];simp
abbrev Lf:=Pt×Pt×Nat
def dG (q:Lf):Tr := .lf q.1 q.2.1 q.2.2
def Tr.leaves:Tr->List Lf
 | .lf lo hi i=>[(lo,hi,i)]
 | .nd _ _ l r=>l.leaves++r.leaves
def vL (k:Nat):Tr->Prop
 | .lf lo hi _=>aK k lo/\aK k hi
 | .nd lo hi l r=>(aK k lo/\aK k hi)/\vL k l/\vL k r
theorem VP {xs:List D} {h:Nat} (hl:h<=xs.length):jn xs none (some (h:Nat))=xs.take h:=by
 unfold jn
 rw [HT.zjx,HT.zhY]
 simp [Nat.min_eq_left hl]
theorem zlR {xs:List D} {h:Nat} (hl:h<=xs.length):jn xs (some (h:Nat)) none=xs.drop h:=by
 unfold jn
 rw [HT.zjx,HT.zhY,Nat.min_eq_left hl]
 rw [List.take_of_length_le (by simp)]
theorem wO {x:Str} {S G:So} (h:lB x S=true):lB x (S++G)=true:=by
 unfold lB at *
 rw [List.any_append,h];rfl
theorem V5 {σ:Sg} {S S1:So} {fe fb:EF} {src:List Nat} {n:Nat} {gB xs:List D} {kz:List Int} (h1:fe σ S=some (.ref n,S1)) (h2:oh src σ=some gB) (h3:uR gB=true) (hn:S1[n]?=some (.lst xs)) (hl:xs.length<64) (hk:pQ (lamF fb gB) S1 xs=some kz) :
 xM fe src fb σ S=some (.ref S1.length,S1++[.lst ((jg kz).map λi=>xs.getD i .non)]):=by
 unfold xM
 rw [h1];simp only [cg]
 rw [h2];simp only [cg]
 rw [if_pos h3,hn];simp only
 rw [if_pos hl,hk];rfl
theorem Rk {α:Type} {ψ:GN} {S:So} {enc:α->D} {g:α->Int}:∀ {qs:List α},(∀ q∈qs,ψ [enc q] S=some (.int (g q),S))->pQ ψ S (qs.map enc)=some (qs.map g)
 | [],_=>rfl
 | q::r,h=>ziW (h q (fL ..)) (Rk λy hy=>h y (cM _ hy))
theorem zjD {α:Type} (a0:α) (qs:List α) {l:List Nat} (h:l.Perm (List.range qs.length)):(l.map λi=>qs.getD i a0).Perm qs:=by
 have h1:=h.map λi=>qs.getD i a0
 have h2:(List.range qs.length).map (λi=>qs.getD i a0)=qs:=by
  apply List.ext_getElem?
  intro i
  by_cases hi:i<qs.length
  ·simp [hi]
  ·rw [iK (by simp;omega),iK (by omega)]
 rw [h2] at h1
 exact h1
theorem zlp {α:Type} {enc:α->D} (a0:α) (qs:List α) {l:List Nat} (h:∀ i∈l,i<qs.length):(l.map λi=>(qs.map enc).getD i .non)=(l.map λi=>qs.getD i a0).map enc:=by
 rw [List.map_map]
 refine List.map_congr_left λi hi=>?_
 have:=h i hi
 simp [List.getD_eq_getElem?_getD,this]
theorem zlX {q:Lf} {j:Nat} (hj:j<=2) (S:So):lamF (eB (aH .Add) (eB aM (eB aM (gb "Tree" "box" (aj 0)) (eC (.int 0))) (aj 1)) (eB aM (eB aM (gb "Tree" "box" (aj 0)) (eC (.int 1))) (aj 1))) [.int (j:Nat)] [bD (dG q)] S=some (.int (co j q.1+co j q.2.1),S):=by
 show eB _ _ _ [some (bD (dG q)),some (.int (j:Nat))] S=_
 refine aV (aV (aV (p6 (d := .tup [pD q.1,pD q.2.1]) (aC rfl) rfl rfl) aY (gK (z:=pD q.1) rfl)) (aC rfl) (gK (yu (by omega) (by omega) q.1))) (aV (aV (p6 (d := .tup [pD q.1,pD q.2.1]) (aC rfl) rfl rfl) aY (gK (z:=pD q.2.1) rfl)) (aC rfl) (gK (yu (by omega) (by omega) q.2.1))) Cu
theorem CK (n:Nat) (qs:List Lf):O.lo n (.lst (qs.map λq=>bD (dG q)))=true:=by
 show cA n _=true
 rw [ji]
 intro x hx
 obtain ⟨q,_,rfl⟩:=List.mem_map.mp hx
 exact pY n _
theorem CJ {α:Type} (n:Nat) (qs:List α) (f:α->Pt):cA n (qs.map λq=>pD (f q))=true:=by
 rw [ji]
 intro x hx
 obtain ⟨p,_,rfl⟩:=List.mem_map.mp hx
 simp [D.lo,cA]
theorem ZQ {n:Nat} {xs ys:List D} (h1:cA n xs=true) (h2:cA n ys=true):cA n (xs++ys)=true:=by
 rw [ji] at *
 intro x hx
 rcases jK.mp hx with h | h
 ·exact h1 x h
 ·exact h2 x h
theorem zmK {K:Nat}:∀ (k:Nat) (qs:List Lf) (n:Nat) (S:So),WF S->lB "tree_over" S=true->S[n]?=some (.lst (qs.map λq=>bD (dG q)))->1<=qs.length->qs.length<=2 ^ k->qs.length<=60->(∀ q∈qs,aK K q.1/\aK K q.2.1) ->
 ∃ t,iU (k+1) [.ref n] S=some (bD t,S)/\vL K t/\t.leaves.Perm qs:=by
 intro k
 induction k with
 | zero =>
  intro qs n S hS hT hn h1 h2 h60 hb
  obtain ⟨q,rfl⟩:∃ q,qs=[q]:=by
   match qs,h1,h2 with
   | [q],_,_=>exact ⟨q,rfl⟩
  refine ⟨dG q,?_,hb q (by simp),List.Perm.refl _⟩
  show ud "tree_over" 5 (mG (iU 0)) _ S=_
  unfold ud
  rw [if_pos hT]
  apply bK
  ·wtm_at "?b"
   unfold mG
   refine aJ (eF (b:=true) (eY ?_) (fV rfl (aJ (dU (aV (aC rfl) aY (ug hn (z:=bD (dG q)) rfl))) cY))) cY
   exact aV (bC (aL (aC rfl) aW) (oZ hn)) aY rfl
  ·exact lu
  ·exact pY _ _
 | succ k ih =>
  intro qs n S hS hT hn h1 h2 h60 hb
  show ∃ t,ud "tree_over" 5 (mG (iU (k+1))) _ S=_/\_
  unfold ud
  rw [if_pos hT]
  by_cases hL:qs.length=1
  ·obtain ⟨q,rfl⟩:∃ q,qs=[q]:=by
    match qs,hL with
    | [q],_=>exact ⟨q,rfl⟩
   refine ⟨dG q,?_,hb q (by simp),List.Perm.refl _⟩
   apply bK
   ·wtm_at "?b"
    unfold mG
    refine aJ (eF (b:=true) (eY ?_) (fV rfl (aJ (dU (aV (aC rfl) aY (ug hn (z:=bD (dG q)) rfl))) cY))) cY
    exact aV (bC (aL (aC rfl) aW) (oZ hn)) aY rfl
   ·exact lu
   ·exact pY _ _
  ·obtain ⟨lo,hi,B⟩:=Ox (pts:=qs.map (·.1)++qs.map (·.2.1)) (by
    intro e
    have:=congrArg List.length e
    rw [gQ,cQ,cQ,vU] at this
    omega)
   have bb:aK K lo/\aK K hi:=B.bd λp hp=>by
    rcases jK.mp hp with hp | hp
    ·obtain ⟨q,hq,rfl⟩:=List.mem_map.mp hp;exact (hb q hq).1
    ·obtain ⟨q,hq,rfl⟩:=List.mem_map.mp hp;exact (hb q hq).2
   obtain ⟨j,hj,hw⟩:=zjn lo hi
   have hm:qs.map (λq=>pD q.1)++qs.map (λq=>pD q.2.1)=(qs.map (·.1)++qs.map (·.2.1)).map pD:=by
    rw [oF,List.map_map,List.map_map];rfl
   have W1:WF (S++[.lst (qs.map λq=>pD q.1)]):=hS.snoc (CJ _ _ _)
   have W2:WF (S++[.lst (qs.map λq=>pD q.1)]++[.lst (qs.map λq=>pD q.2.1)]):=W1.snoc (CJ _ _ _)
   have W3:WF (S++[.lst (qs.map λq=>pD q.1)]++[.lst (qs.map λq=>pD q.2.1)]++[.lst (qs.map (λq=>pD q.1)++qs.map λq=>pD q.2.1)]):=W2.snoc (ZQ (CJ _ _ _) (CJ _ _ _))
   have Bg:eN (aO 1 wZ) (ak (eB (aH .Add) (cX (dz (aj 0)) (aG 0) (cF) (eB aM (gb "Tree" "box" (aj 0)) (eC (.int 0))) [none]) (cX (dz (aj 0)) (aG 0) (cF) (eB aM (gb "Tree" "box" (aj 0)) (eC (.int 1))) [none])) (aq)) [some (.ref n),none,none,none,none] S=some (.tup [pD lo,pD hi],S++[.lst (qs.map λq=>pD q.1)]++[.lst (qs.map λq=>pD q.2.1)]++[.lst (qs.map (λq=>pD q.1)++qs.map λq=>pD q.2.1)]):=by
    refine bC (aL (aV (wR qs (λq=>bD (dG q)) (λq=>pD q.1) (lJ (aC rfl) hn) hn (by omega) rfl λq _=>?_) (wR qs (λq=>bD (dG q)) (λq=>pD q.2.1) (lJ (aC rfl) (fO hn)) (fO hn) (by omega) rfl λq _=>?_) (Yj (fO cI) cI ?_)) aW) (cJ rfl (Pn (pts:=qs.map (·.1)++qs.map (·.2.1)) W3 ?_ ?_ B))
    ·exact aV (p6 (d := .tup [pD q.1,pD q.2.1]) (aC rfl) rfl rfl) aY (gK rfl)
    ·exact aV (p6 (d := .tup [pD q.1,pD q.2.1]) (aC rfl) rfl rfl) aY (gK rfl)
    ·simp only [cQ];rw [sizeLine_eq];omega
    ·rw [<-hm];exact cI
    ·simp only [gQ,cQ];omega
   have Be:bN (eB (bf .Eq) (eN gm (ak (aj 0) (aq))) (eC (.int 1))) [some (.ref n),none,none,none,none] S=some (false,S):=by
    have:=eY (aV (bC (aL (aC (σ:=[some (.ref n),none,none,none,none]) (i:=0) rfl) aW) (oZ hn)) (aY (d := .int 1)) yp)
    rw [this,jP]
    rw [cQ];omega
   generalize sW:S++[.lst (qs.map λq=>pD q.1)]++[.lst (qs.map λq=>pD q.2.1)]++[.lst (qs.map (λq=>pD q.1)++qs.map λq=>pD q.2.1)]=S3 at W3 Bg
   have n3:S3[n]?=some (.lst (qs.map λq=>bD (dG q))):=by rw [<-sW];exact fO (fO (fO hn))
   have T3:lB "tree_over" S3=true:=by rw [<-sW,fD,fD];exact wO hT
   have tk3:S3.take S.length=S:=by rw [<-sW,fD,fD];simp
   have l3:S.length<=S3.length:=by rw [<-sW];simp
   have kp:=JQ (qs.map λq=>co j q.1+co j q.2.1)
   rw [cQ] at kp
   have hlt:∀ i∈jg (qs.map λq=>co j q.1+co j q.2.1),i<qs.length:=λi hi=>List.mem_range.mp (kp.mem_iff.mp hi)
   have pp:=zjD ((0,0,0),(0,0,0),0) qs kp
   have pe:=zlp (enc:=λq=>bD (dG q)) ((0,0,0),(0,0,0),0) qs hlt
   generalize hrow:(jg (qs.map λq=>co j q.1+co j q.2.1)).map (λi=>qs.getD i ((0,0,0),(0,0,0),0))=row at pp pe
   have rl:row.length=qs.length:=pp.length_eq
   have b4:∀ q∈row,aK K q.1/\aK K q.2.1:=λq hq=>hb q (pp.mem_iff.mp hq)
   have W4:WF (S3++[.lst (row.map λq=>bD (dG q))]):=W3.snoc (CK _ _)
   have W5:WF (S3++[.lst (row.map λq=>bD (dG q))]++[.lst ((row.take (qs.length / 2)).map λq=>bD (dG q))]):=W4.snoc (CK _ _)
   have W6:WF (S3++[.lst (row.map λq=>bD (dG q))]++[.lst ((row.take (qs.length / 2)).map λq=>bD (dG q))]++[.lst ((row.drop (qs.length / 2)).map λq=>bD (dG q))]):=W5.snoc (CK _ _)
   have hp2:2 ^ (k+1)=2 ^ k+2 ^ k:=by rw [Nat.pow_succ];omega
   obtain ⟨t1,e1,o1,p1⟩:=ih (row.take (qs.length / 2)) _ _ W5 (by rw [fD];exact wO T3) cI (by simp;omega) (by simp;omega) (by simp;omega) (λq hq=>b4 q (List.mem_of_mem_take hq))
   obtain ⟨t2,e2,o2,p2⟩:=ih (row.drop (qs.length / 2)) _ _ W6 (by rw [fD,fD];exact wO T3) cI (by simp;omega) (by simp;omega) (by simp;omega) (λq hq=>b4 q (List.mem_of_mem_drop hq))
   refine ⟨.nd lo hi t1 t2,?_,⟨bb,o1,o2⟩,?_⟩
   ·apply bK (S':=S3++[.lst (row.map λq=>bD (dG q))]++[.lst ((row.take (qs.length / 2)).map λq=>bD (dG q))]++[.lst ((row.drop (qs.length / 2)).map λq=>bD (dG q))])
    ·wtm_at "?b"
     unfold mG
     refine aJ (eF Be (fH rfl dJ)) (aR ?_)
     refine aJ (cD Bg (bT rfl)) (aR ?_)
     refine aJ (cD (bC (aL (aC rfl) aW) (cJ rfl (hw S3))) (bT rfl)) (aR ?_)
     refine aJ (cD (V5 (gB:=[.int (j:Nat)]) (aC rfl) rfl rfl n3 (by simp;omega) (Rk (g:=λq:Lf=>co j q.1+co j q.2.1) λq _=>zlX hj S3)) (bT rfl)) (aR ?_)
     rw [pe]
     have hfd:((qs.length:Int)).fdiv 2=((qs.length / 2:Nat):Int):=by rw [Int.fdiv_eq_ediv_of_nonneg _ (by decide)];rfl
     refine aJ (cD (aV (bC (aL (aC rfl) aW) (oZ cI)) aY (kE (by decide))) (bT rfl)) (aR ?_)
     simp only [cQ,rl,hfd]
     have c1:eN (aO 1 (iU (k+1))) (ak (jJ (aj 2) (kh) (jE (aj 3))) (aq)) [some (.ref n),some (.tup [pD lo,pD hi]),some (.ref S3.length),some (.int ((qs.length / 2:Nat):Int)),some (.int (j:Nat))] (S3++[.lst (row.map λq=>bD (dG q))])=some (bD t1,S3++[.lst (row.map λq=>bD (dG q))]++[.lst ((row.take (qs.length / 2)).map λq=>bD (dG q))]):=by
      refine bC (aL (yw (aC rfl) Dl (Dm (aC rfl)) (G7 cI ?_)) aW) (cJ rfl e1)
      rw [VP (by simp [rl];omega),List.map_take]
     have c2:eN (aO 1 (iU (k+1))) (ak (jJ (aj 2) (jE (aj 3)) (kh)) (aq)) [some (.ref n),some (.tup [pD lo,pD hi]),some (.ref S3.length),some (.int ((qs.length / 2:Nat):Int)),some (.int (j:Nat))] (S3++[.lst (row.map λq=>bD (dG q))]++[.lst ((row.take (qs.length / 2)).map λq=>bD (dG q))])=some (bD t2,S3++[.lst (row.map λq=>bD (dG q))]++[.lst ((row.take (qs.length / 2)).map λq=>bD (dG q))]++[.lst ((row.drop (qs.length / 2)).map λq=>bD (dG q))]):=by
      refine bC (aL (yw (aC rfl) (Dm (aC rfl)) Dl (G7 (fO cI) ?_)) aW) (cJ rfl e2)
      rw [zlR (by simp [rl];omega),List.map_drop]
     exact aJ (dU (R0 (aL (aC rfl) (aL aY (aL (bC (aL c1 (aL c2 aW)) (mD (by show 2<=sizeLine;decide))) aW))) W6 (by simp [cA,D.lo,pY]))) cY
    ·rw [fD,fD,List.take_append_of_le_length l3];exact tk3
    ·exact pY _ (.nd lo hi t1 t2)
   ·show (t1.leaves++t2.leaves).Perm qs
    exact ((p1.append p2).trans (by rw [List.take_append_drop])).trans pp
end MX.P
end
section
local macro_rules | `(tactic| wtm_at "?d") => `(tactic| (with_reducible assumption))
namespace MX.P
open PySem L2 MX
abbrev kW (b:Pt×Pt):D := .tup [pD b.1,pD b.2]
def ig (bs:List (Pt×Pt)):List Lf:=bs.zipIdx.map λp=>(p.1.1,p.1.2,p.2)
theorem nu (bs:List (Pt×Pt)):(ig bs).length=bs.length:=by simp [ig]
theorem Sd {bs:List (Pt×Pt)} {i:Nat} (h:i<bs.length):(ig bs)[i]?=some (bs[i].1,bs[i].2,i):=by simp [ig,h]
theorem Sq {bs:List (Pt×Pt)} {q:Lf} (h:q∈ig bs):q.2.2<bs.length/\(q.1,q.2.1)∈bs:=by
 obtain ⟨i,hi,e⟩:=List.mem_iff_getElem.mp h
 rw [nu] at hi
 have:=Sd hi
 rw [dO (by rw [nu];exact hi),e] at this
 cases this
 exact ⟨hi,List.getElem_mem hi⟩
theorem QD {S:So} {n:Nat} {bs:List (Pt×Pt)} (hS:WF S) (hn:S[n]?=some (.lst (bs.map kW))):∀ (m i:Nat) (τ:Sg) (acc:List D),τ.length=2->i+m=bs.length ->
 iw (cO (.enm n)) (jw 2 (dR (aG 0) (dR (aG 1) (jO)))) (cF) (pq "Tree" 4 xr (ak (aj 1) (ak (aj 0) (ak (eN cu (aq)) (aq))))) m i τ S acc=some (acc++((ig bs).drop i).map (λq=>bD (dG q)),S)
 | 0,i,τ,acc,hτ,h=>by
  rw [wD (by unfold cO;simp only;rw [hn];simp;omega),List.drop_of_length_le (by rw [nu];omega)];simp
 | m+1,i,τ,acc,hτ,h=>by
  have hi:i<bs.length:=by omega
  obtain ⟨a,b,rfl⟩:∃ a b,τ=[a,b]:=by
   match τ,hτ with
   | [a,b],_=>exact ⟨a,b,rfl⟩
  have hq:(ig bs)[i]?=some (bs[i].1,bs[i].2,i):=Sd hi
  have nx:cO (.enm n) i S=some (some (.tup [.int (i:Nat),kW bs[i]])):=by
   unfold cO;simp only;rw [hn];simp [hi]
  refine (rC nx (Cv rfl (p7 (bT rfl) (p7 (bT rfl) Dk))) rK (R0 (aL (aC rfl) (aL (aC rfl) (aL (bC aW (mD (by show 0<=sizeLine;exact Nat.zero_le _))) aW))) hS (by simp [cA,D.lo])) rfl (QD hS hn m (i+1) _ _ rfl (by omega))).trans ?_
  rw [List.drop_eq_getElem_cons (l:=ig bs) (i:=i) (by rw [nu];exact hi),iM,fD]
  have e2:(ig bs)[i]'(by rw [nu];exact hi)=(bs[i].1,bs[i].2,i):=by
   rw [dO (by rw [nu];exact hi)] at hq
   exact Option.some.inj hq
  rw [e2]
  rfl
def gk:Option Tr->D
 | none => .non
 | some t=>bD t
theorem Xd (n:Nat) (t:Option Tr):D.lo n (gk t)=true:=by
 cases t with
 | none=>simp [gk,D.lo]
 | some t=>exact pY n t
theorem zk7 {K:Nat} {bs:List (Pt×Pt)} {n:Nat} {S:So} (hS:WF S) (hT:lB "tree_over" S=true) (hn:S[n]?=some (.lst (bs.map kW))) (hl:bs.length<=32) (hb:∀ b∈bs,aK K b.1/\aK K b.2) :
 ∃ t,Eg [.ref n] S=some (gk t,S)/\∀ t',t=some t'->vL K t'/\t'.leaves.Perm (ig bs):=by
 have e1:Km [some (.ref n),none] S=some (.nx,[some (.ref n),some (.ref S.length)],S++[.lst ((ig bs).map λq=>bD (dG q))]):=by
  unfold Km
  refine cD (m7 (j := .enm n) (n:=bs.length) (σ1:=[none,none]) ?_ ?_ (by rw [sizeLine_eq];omega) rfl ((QD hS hn bs.length 0 [none,none] [] rfl (by omega)).trans (by simp))) (bT rfl)
  ·unfold nT;rw [aC (d := .ref n) rfl];simp only [cg];rw [hn]
  ·show (match S[n]? with | some (.lst xs)=>some xs.length | _=>none)=_
   rw [hn];simp
 have W1:WF (S++[.lst ((ig bs).map λq=>bD (dG q))]):=hS.snoc (CK _ _)
 have Ur:∀ b:Bool,b=decide (bs.length=0)->bN (eB (bf .Eq) (eN gm (ak (aj 1) (aq))) (eC (.int 0))) [some (.ref n),some (.ref S.length)] (S++[.lst ((ig bs).map λq=>bD (dG q))])=some (b,S++[.lst ((ig bs).map λq=>bD (dG q))]):=λb hb=>by
  have:=eY (aV (bC (aL (aC (σ:=[some (.ref n),some (.ref S.length)]) (i:=1) rfl) aW) (oZ (cI (S:=S) (o := .lst ((ig bs).map λq=>bD (dG q)))))) (aY (d := .int 0)) yp)
  rw [this,hb]
  congr 2
  rw [cQ,nu]
  simp
 by_cases h0:bs.length=0
 ·refine ⟨none,?_,λt' e=>by cases e⟩
  apply bK
  ·wtm_at "?b"
   unfold Ec
   have e3:yS [some (.ref n),some (.ref S.length)] (S++[.lst ((ig bs).map λq=>bD (dG q))])=some (.rt (gk none),[some (.ref n),some (.ref S.length)],S++[.lst ((ig bs).map λq=>bD (dG q))]):=by
    unfold yS
    exact dU (pZ (Ur true (by simp [h0])) (fV rfl aY))
   exact aJ e1 (aR (aJ e3 cY))
  ·wtm_at "?c"
  ·rfl
 ·obtain ⟨t,e2,o2,p2⟩:=zmK (K:=K) 5 (ig bs) S.length (S++[.lst ((ig bs).map λq=>bD (dG q))]) W1 (wO hT) cI (by rw [nu];omega) (by rw [nu];omega) (by rw [nu];omega) (λq hq=>hb _ (Sq hq).2)
  refine ⟨some t,?_,λt' e=>by cases e;exact ⟨o2,p2⟩⟩
  apply bK
  ·wtm_at "?b"
   unfold Ec
   have e3:yS [some (.ref n),some (.ref S.length)] (S++[.lst ((ig bs).map λq=>bD (dG q))])=some (.rt (gk (some t)),[some (.ref n),some (.ref S.length)],S++[.lst ((ig bs).map λq=>bD (dG q))]):=by
    unfold yS
    exact dU (pZ (Ur false (by simp [h0])) (fH rfl (bC (aL (aC rfl) aW) (cJ rfl e2))))
   exact aJ e1 (aR (aJ e3 cY))
  ·wtm_at "?c"
  ·exact pY _ _
def Tr.size:Tr->Nat
 | .lf _ _ _=>1
 | .nd _ _ l r=>1+l.size+r.size
def jF (ws:List Tr):Nat:=(ws.map Tr.size).sum
theorem Rc:∀ t:Tr,1<=t.size
 | .lf _ _ _=>bR _
 | .nd _ _ _ _=>by simp [Tr.size];omega
theorem Rz (a b:List Tr):jF (a++b)=jF a+jF b:=by simp [jF]
theorem R9 (ws:List Tr):ws.length<=jF ws:=by
 induction ws with
 | nil=>simp [jF]
 | cons t r ih =>
  have:=Rc t
  simp only [jF,iM,List.sum_cons,iG] at *
  omega
def bB (i:Nat):D := .int (i:Nat)
section
variable {K:Nat} {o d:Pt} (ho:aK K o) (hd:aK K d) (h0:d≠(0,0,0)) (hK:K<=10000)
theorem zln {S:So} {n:Nat} {xs:List D} {x:D} {S3:So} (h:S[n]?=some (.lst (xs++[x]))) (h3:S.set n (.lst xs)=S3):lR (.ref n) [] S=some (x,S3):=by
 unfold lR;simp only;rw [h];simp [h3]
theorem Ph {S:So} {a b c:O} {n:Nat} (hn:n=S.length+1):(S++[a]++[b]).set n c=S++[a]++[c]:=by
 subst hn
 rw [show S.length+1=(S++[a]).length by simp];simp
theorem HW {S:So} {a b c:O} {n:Nat} (hn:n=S.length):(S++[a]++[b]).set n c=S++[c]++[b]:=by
 subst hn
 simp
abbrev Fw:TF:=bN (eB (bf .Gt) (eN gm (ak (aj 3) (aq))) (eC (.int 0)))
include ho hd h0 hK in
theorem zkS:∀ (N:Nat) (ws:List Tr) (fs:List Nat),jF ws<=N->N+fs.length<=1000->(∀ t∈ws,vL K t) ->
 ∃ fs':List Nat,(∀ i∈fs',i∈fs\/∃ t∈ws,∃ q∈t.leaves,q.2.2=i)/\fs'.length<=fs.length+N/\∀ (S:So) (x0 p:Option D),∃ p',jT Fw rQ [x0,some (.tup [pD o,pD d]),some (.ref S.length),some (.ref (S.length+1)),p] (S++[.lst (fs.map bB)]++[.lst (ws.map bD)]) =
  some (.nx,[x0,some (.tup [pD o,pD d]),some (.ref S.length),some (.ref (S.length+1)),p'],S++[.lst (fs'.map bB)]++[.lst []]):=by
 intro N
 induction N with
 | zero =>
  intro ws fs h1 h2 h3
  have hw:ws=[]:=by
   have:=R9 ws
   exact List.eq_nil_of_length_eq_zero (by omega)
  subst hw
  refine ⟨fs,λi hi => .inl hi,by omega,λS x0 p=>⟨p,?_⟩⟩
  have l2:(S++[O.lst (fs.map bB)]++[O.lst []])[S.length+1]?=some (.lst []):=by
   rw [show S.length+1=(S++[O.lst (fs.map bB)]).length by simp];exact cI
  exact HN (eY (aV (bC (aL (aC rfl) aW) (oZ l2)) aY rfl))
 | succ N ih =>
  intro ws fs h1 h2 h3
  rcases List.eq_nil_or_concat ws with rfl | ⟨ws',t,rfl⟩
  ·refine ⟨fs,λi hi => .inl hi,by omega,λS x0 p=>⟨p,?_⟩⟩
   have l2:(S++[O.lst (fs.map bB)]++[O.lst []])[S.length+1]?=some (.lst []):=by
    rw [show S.length+1=(S++[O.lst (fs.map bB)]).length by simp];exact cI
   exact HN (eY (aV (bC (aL (aC rfl) aW) (oZ l2)) aY rfl))
  ·rw [List.concat_eq_append] at *
   have hsz:=Rz ws' [t]
   have hpt:=Rc t
   have ht:jF [t]=t.size:=by simp [jF]
   have hto:=h3 t (by simp)
   have htl:aK K t.lo/\aK K t.hi:=by
    cases t with
    | lf lo hi i=>exact hto
    | nd lo hi l r=>exact hto.1
   have fb:∀ fx:EF,∀ (σ:Sg) (S:So),fx σ S=some (bD t,S)->gb "Tree" "box" fx σ S=some (.tup [pD t.lo,pD t.hi],S):=λfx σ S h=>by
    cases t<;>exact p6 h rfl rfl
   have turn:∀ (S:So) (x0 p:Option D) (r:Fl×Sg×So) (fl:Fl) (σ2:Sg) (S2:So),rQ [x0,some (.tup [pD o,pD d]),some (.ref S.length),some (.ref (S.length+1)),p] (S++[.lst (fs.map bB)]++[.lst ((ws'++[t]).map bD)])=some (fl,σ2,S2)->(fl = .nx\/fl = .ct)->jT Fw rQ σ2 S2=some r ->
    jT Fw rQ [x0,some (.tup [pD o,pD d]),some (.ref S.length),some (.ref (S.length+1)),p] (S++[.lst (fs.map bB)]++[.lst ((ws'++[t]).map bD)])=some r:=λS x0 p r fl σ2 S2 e hf hr=>by
    have l2:(S++[O.lst (fs.map bB)]++[O.lst ((ws'++[t]).map bD)])[S.length+1]?=some (.lst ((ws'++[t]).map bD)):=by
     rw [show S.length+1=(S++[O.lst (fs.map bB)]).length by simp];exact cI
    refine Rb (σ1:=[]) ?_ e hf hr
    have:=eY (aV (bC (aL (aC (σ:=[x0,some (.tup [pD o,pD d]),some (.ref S.length),some (.ref (S.length+1)),p]) (i:=3) rfl) aW) (oZ l2)) (aY (d := .int 0)) G3)
    rw [show Fw=bN (eB (bf .Gt) (eN gm (ak (aj 3) (aq))) (eC (.int 0))) from rfl,this,lG]
    simp
   have st1:∀ (S:So) (x0 p:Option D),KJ [x0,some (.tup [pD o,pD d]),some (.ref S.length),some (.ref (S.length+1)),p] (S++[.lst (fs.map bB)]++[.lst ((ws'++[t]).map bD)])=some (.nx,[x0,some (.tup [pD o,pD d]),some (.ref S.length),some (.ref (S.length+1)),some (bD t)],S++[.lst (fs.map bB)]++[.lst (ws'.map bD)]):=λS x0 p=>by
    have l2:(S++[O.lst (fs.map bB)]++[O.lst ((ws'++[t]).map bD)])[S.length+1]?=some (.lst ((ws'++[t]).map bD)):=by
     rw [show S.length+1=(S++[O.lst (fs.map bB)]).length by simp];exact cI
    unfold KJ
    refine cD (x:=bD t) (S1:=S++[.lst (fs.map bB)]++[.lst (ws'.map bD)]) ?_ (bT rfl)
    unfold Bh
    rw [aC (d := .ref (S.length+1)) rfl]
    simp only [cg]
    rw [l2]
    simp only
    exact zln (by rw [l2,oF];rfl) (Ph rfl)
   have sp:=λS=>Td (lo:=t.lo) (hi:=t.hi) ho hd htl.1 htl.2 h0 hK S
   have st2:∀ (S:So) (x0:Option D) (b:Bool),oV (Gx (mZ o d t.lo t.hi))=b->bN (eB (bf .Is) (eN (aO 2 uD) (ak (aj 1) (ak (gb "Tree" "box" (aj 4)) (aq)))) (eC .non)) [x0,some (.tup [pD o,pD d]),some (.ref S.length),some (.ref (S.length+1)),some (bD t)] (S++[.lst (fs.map bB)]++[.lst (ws'.map bD)])=some (b,S++[.lst (fs.map bB)]++[.lst (ws'.map bD)]):=λS x0 b hb=>by
    rw [<-hb]
    exact eY (aV (bC (aL (aC rfl) (aL (fb _ _ _ (aC rfl)) aW)) (cJ rfl (sp _))) aY mz)
   cases hsp:oV (Gx (mZ o d t.lo t.hi)) with
   | true =>
    obtain ⟨fs',p1,p2,p3⟩:=ih ws' fs (by omega) (by omega) (λt' h=>h3 t' (by simp [h]))
    refine ⟨fs',λi hi=>?_,by omega,λS x0 p=>?_⟩
    ·rcases p1 i hi with h | ⟨t',h,q⟩
     ·exact .inl h
     ·exact .inr ⟨t',by simp [h],q⟩
    ·obtain ⟨p',e⟩:=p3 S x0 (some (bD t))
     refine ⟨p',turn S x0 p _ .ct _ _ ?_ (.inr rfl) e⟩
     unfold rQ
     refine aJ (st1 S x0 p) (aR (aJ (fl := .ct) ?_ HS))
     unfold xG
     exact eF (st2 S x0 true hsp) (fV rfl (aJ PJ HS))
   | false =>
    cases t with
    | lf lo hi i =>
     obtain ⟨fs',p1,p2,p3⟩:=ih ws' (fs++[i]) (by omega) (by simp;omega) (λt' h=>h3 t' (by simp [h]))
     refine ⟨fs',λj hj=>?_,by simp at p2;omega,λS x0 p=>?_⟩
     ·rcases p1 j hj with h | ⟨t',h,q⟩
      ·rcases jK.mp h with h | h
       ·exact .inl h
       ·exact .inr ⟨.lf lo hi i,by simp,(lo,hi,i),by simp [Tr.leaves],(List.mem_singleton.mp h).symm⟩
      ·exact .inr ⟨t',by simp [h],q⟩
     ·obtain ⟨p',e⟩:=p3 S x0 (some (bD (.lf lo hi i)))
      refine ⟨p',turn S x0 p _ .nx _ _ ?_ (.inl rfl) e⟩
      unfold rQ
      have s2:xG [x0,some (.tup [pD o,pD d]),some (.ref S.length),some (.ref (S.length+1)),some (bD (.lf lo hi i))] (S++[.lst (fs.map bB)]++[.lst (ws'.map bD)])=some (.nx,[x0,some (.tup [pD o,pD d]),some (.ref S.length),some (.ref (S.length+1)),some (bD (.lf lo hi i))],S++[.lst (fs.map bB)]++[.lst (ws'.map bD)]):=by
       unfold xG
       exact eF (st2 S x0 false hsp) (fH rfl dJ)
      have s3:za [x0,some (.tup [pD o,pD d]),some (.ref S.length),some (.ref (S.length+1)),some (bD (.lf lo hi i))] (S++[.lst (fs.map bB)]++[.lst (ws'.map bD)])=some (.nx,[x0,some (.tup [pD o,pD d]),some (.ref S.length),some (.ref (S.length+1)),some (bD (.lf lo hi i))],S++[.lst ((fs++[i]).map bB)]++[.lst (ws'.map bD)]):=by
       unfold za
       have l1:(S++[O.lst (fs.map bB)]++[O.lst (ws'.map bD)])[S.length]?=some (.lst (fs.map bB)):=fO cI
       rw [oF]
       exact eF (b:=false) (eY (aV (p6 (d:=bB i) (aC rfl) rfl rfl) aY mz)) (fH rfl (aJ (uo (yo (aC rfl) l1 (aL (p6 (d:=bB i) (aC rfl) rfl rfl) aW) (Ir l1 (by rw [cQ,sizeLine_eq];omega) (HW rfl)))) (aR dJ)))
      exact aJ (st1 S x0 p) (aR (aJ s2 (aR (aJ s3 (aR dJ)))))
    | nd lo hi l r =>
     have hsl:jF (ws'++[l,r])<=N:=by
      have e1:=Rz ws' [l,r]
      have e2:jF [l,r]=l.size+r.size:=by simp [jF]
      have e3:(Tr.nd lo hi l r).size=1+l.size+r.size:=rfl
      omega
     obtain ⟨fs',p1,p2,p3⟩:=ih (ws'++[l,r]) fs hsl (by omega) (λt' h=>by
      rcases jK.mp h with h | h
      ·exact h3 t' (by simp [h])
      ·rcases List.mem_cons.mp h with rfl | h
       ·exact hto.2.1
       ·rw [List.mem_singleton.mp h];exact hto.2.2)
     refine ⟨fs',λj hj=>?_,by omega,λS x0 p=>?_⟩
     ·rcases p1 j hj with h | ⟨t',h,q,hq,e⟩
      ·exact .inl h
      ·rcases jK.mp h with h | h
       ·exact .inr ⟨t',by simp [h],q,hq,e⟩
       ·refine .inr ⟨.nd lo hi l r,by simp,q,?_,e⟩
        rcases List.mem_cons.mp h with rfl | h
        ·exact List.mem_append_left _ hq
        ·rw [List.mem_singleton.mp h] at hq;exact List.mem_append_right _ hq
     ·obtain ⟨p',e⟩:=p3 S x0 (some (bD (.nd lo hi l r)))
      refine ⟨p',turn S x0 p _ .nx _ _ ?_ (.inl rfl) e⟩
      unfold rQ
      have s2:xG [x0,some (.tup [pD o,pD d]),some (.ref S.length),some (.ref (S.length+1)),some (bD (.nd lo hi l r))] (S++[.lst (fs.map bB)]++[.lst (ws'.map bD)])=some (.nx,[x0,some (.tup [pD o,pD d]),some (.ref S.length),some (.ref (S.length+1)),some (bD (.nd lo hi l r))],S++[.lst (fs.map bB)]++[.lst (ws'.map bD)]):=by
       unfold xG
       exact eF (st2 S x0 false hsp) (fH rfl dJ)
      have s3:za [x0,some (.tup [pD o,pD d]),some (.ref S.length),some (.ref (S.length+1)),some (bD (.nd lo hi l r))] (S++[.lst (fs.map bB)]++[.lst (ws'.map bD)])=some (.nx,[x0,some (.tup [pD o,pD d]),some (.ref S.length),some (.ref (S.length+1)),some (bD (.nd lo hi l r))],S++[.lst (fs.map bB)]++[.lst ((ws'++[l,r]).map bD)]):=by
       unfold za
       have l2:(S++[O.lst (fs.map bB)]++[O.lst (ws'.map bD)])[S.length+1]?=some (.lst (ws'.map bD)):=by
        rw [show S.length+1=(S++[O.lst (fs.map bB)]).length by simp];exact cI
       have hx:wz (.ref (S.length+1)) [.tup [bD l,bD r]] (S++[.lst (fs.map bB)]++[.lst (ws'.map bD)])=some (.non,S++[.lst (fs.map bB)]++[.lst ((ws'++[l,r]).map bD)]):=by
        have hlw:=R9 ws'
        unfold wz
        simp only
        rw [l2]
        simp only
        rw [if_pos (by rw [cQ,sizeLine_eq];simp;omega),Ph rfl,oF]
        rfl
       exact eF (b:=true) (eY (aV (p6 (d := .non) (aC rfl) rfl rfl) aY mz)) (fV rfl (aJ (uo (yo (aC rfl) l2 (aL (p6 (d := .tup [bD l,bD r]) (aC rfl) rfl rfl) aW) hx)) (aR dJ)))
      exact aJ (st1 S x0 p) (aR (aJ s2 (aR (aJ s3 (aR dJ)))))
end
end MX.P
end
section
local macro_rules | `(tactic| wtm_at "?d") => `(tactic| (with_reducible assumption))
namespace MX.P
open PySem L2 MX
theorem JP:∀ t:Tr,t.size+1=2*t.leaves.length
 | .lf _ _ _=>rfl
 | .nd _ _ l r=>by
  have h1:=JP l
  have h2:=JP r
  simp only [Tr.size,Tr.leaves,gQ]
  omega
theorem HD (n:Nat) (fs:List Nat):O.lo n (.lst (fs.map bB))=true:=by
 show cA n _=true
 rw [ji]
 intro x hx
 obtain ⟨i,_,rfl⟩:=List.mem_map.mp hx
 simp [bB,D.lo]
abbrev cC (o d:Pt):D := .tup [pD o,pD d]
section
variable {K:Nat} {o d:Pt} (ho:aK K o) (hd:aK K d) (h0:d≠(0,0,0))
include ho hd h0 in
theorem zk6 (hK:K<=10000) {t:Option Tr} (ht:∀ t',t=some t'->vL K t'/\t'.leaves.length<=40) :
 ∃ fs:List Nat,(∀ i∈fs,∃ t',t=some t'/\∃ q∈t'.leaves,q.2.2=i)/\fs.length<=100/\∀ S,WF S->Er [gk t,cC o d] S=some (.ref S.length,S++[.lst (fs.map bB)]++[.lst []]):=by
 have hsz:jF t.toList<=100:=by
  cases t with
  | none=>simp [jF]
  | some t' =>
   have h1:=JP t'
   have h2:=(ht t' rfl).2
   simp [jF]
   omega
 obtain ⟨fs,p1,p2,p3⟩:=zkS ho hd h0 hK 100 t.toList [] hsz (by simp) (λt' h=>by
  cases t with
  | none=>simp at h
  | some t2 =>
   have:t'=t2:=by simpa using h
   subst this
   exact (ht t' rfl).1)
 refine ⟨fs,λi hi=>?_,by simpa using p2,λS hS=>?_⟩
 ·rcases p1 i hi with h | ⟨t',h,q⟩
  ·simp at h
  ·exact ⟨t',by simpa using h,q⟩
 ·obtain ⟨p',e⟩:=p3 S (some (gk t)) none
  have a1:K5 [some (gk t),some (cC o d),none,none,none] S=some (.nx,[some (gk t),some (cC o d),some (.ref S.length),none,none],S++[.lst []]):=by
   unfold K5
   exact cD (bC aW (wF (Nat.zero_le _))) (bT rfl)
  have a2:K6 [some (gk t),some (cC o d),some (.ref S.length),none,none] (S++[.lst []])=some (.nx,[some (gk t),some (cC o d),some (.ref S.length),some (.ref (S.length+1)),none],S++[.lst []]++[.lst (t.toList.map bD)]):=by
   unfold K6
   have hlen:(S++[O.lst []]).length=S.length+1:=by simp
   rw [<-hlen]
   cases t with
   | none=>exact cD (pZ (b:=true) (eY (aV (aC rfl) aY mz)) (fV rfl (bC aW (wF (Nat.zero_le _))))) (bT rfl)
   | some t' =>
    have hn:oV (gk (some t'))=false:=by cases t'<;>rfl
    refine cD (pZ (b:=false) (eY ?_) (fH rfl (bC (aL (aC rfl) aW) (wF (by show 1<=sizeLine;decide))))) (bT rfl)
    rw [<-hn]
    exact aV (aC rfl) aY mz
  have a3:Uo [some (gk t),some (cC o d),some (.ref S.length),some (.ref (S.length+1)),none] (S++[.lst []]++[.lst (t.toList.map bD)])=some (.nx,[some (gk t),some (cC o d),some (.ref S.length),some (.ref (S.length+1)),p'],S++[.lst (fs.map bB)]++[.lst []]):=e
  have a4:K7 [some (gk t),some (cC o d),some (.ref S.length),some (.ref (S.length+1)),p'] (S++[.lst (fs.map bB)]++[.lst []])=some (.rt (.ref S.length),[some (gk t),some (cC o d),some (.ref S.length),some (.ref (S.length+1)),p'],S++[.lst (fs.map bB)]++[.lst []]):=by
   unfold K7
   exact dU (aC rfl)
  refine rM (σ':=[some (gk t),some (cC o d),some (.ref S.length),some (.ref (S.length+1)),p']) ?_ ?_ (by simp) (by simp [D.lo]) ((hS.snoc (HD _ _)).snoc rfl)
  ·wtm_at "?b"
   unfold La
   exact aJ a1 (aR (aJ a2 (aR (aJ a3 (aR (aJ a4 cY))))))
  ·intro h;simp [D.lo] at h
structure fB (S:So) (c:Nat) (shs:List Sh) (t:Option Tr):Prop where
 ins:S[c]?=some (.ins "Scene" [("kept",.ref (c+1)),("tree",gk t)])
 kept:S[c+1]?=some (.lst (shs.map dM))
structure oA (K:Nat) (shs:List Sh) (t:Option Tr):Prop where
 sh:∀ s∈shs,oG K s
 tree:∀ t',t=some t'->vL K t'/\t'.leaves.length<=40
 nums:∀ t',t=some t'->∀ q∈t'.leaves,q.2.2<shs.length
theorem fB.app {S:So} {c:Nat} {shs:List Sh} {t:Option Tr} (h:fB S c shs t) (G:So):fB (S++G) c shs t:=by
 have g:∀ {n:Nat} {o:O},S[n]?=some o->(S++G)[n]?=some o:=λ{n o} e=>by
  rw [jW (dN.mp e).1];exact e
 exact ⟨g h.ins,g h.kept⟩
abbrev gY:=(Int×Int)×Nat
def b7 (h:gY):D := .tup [rD h.1,bB h.2]
def fM (o d:Pt) (shs:List Sh) (i:Nat):Option gY:=(shs[i]?).bind λs=>(uH o d s).map λp=>(p,i)
theorem QJ (n:Nat) (hs:List gY):O.lo n (.lst (hs.map b7))=true:=by
 show cA n _=true
 rw [ji]
 intro x hx
 obtain ⟨i,_,rfl⟩:=List.mem_map.mp hx
 simp [b7,bB,D.lo,cA]
include ho hd h0 in
theorem zmM (hK:K<=1500) {shs:List Sh} {t:Option Tr} (ok:oA K shs t) :
 ∃ fs:List Nat,(∀ i∈fs,i<shs.length)/\fs.length<=100/\∀ S c,WF S->fB S c shs t->Ez [.ref c,cC o d] S=some (.ref S.length,S++[.lst ((fs.filterMap (fM o d shs)).map b7)]++[.lst (fs.map bB)]++[.lst []]):=by
 obtain ⟨fs,p1,p2,p3⟩:=zk6 ho hd h0 (by omega) ok.tree
 have hfs:∀ i∈fs,i<shs.length:=λi hi=>by
  obtain ⟨t',e,q,hq,rfl⟩:=p1 i hi
  exact ok.nums t' e q hq
 refine ⟨fs,hfs,p2,λS c hS sc=>?_⟩
 have hrs:=zdX (o:=o) h0 S
 have a1:JV [some (.ref c),some (cC o d),none,none,none] S=some (.nx,[some (.ref c),some (cC o d),none,none,none],S):=by
  unfold JV
  exact uo (bC (aL (aC rfl) aW) (cJ rfl hrs))
 have a2:JW [some (.ref c),some (cC o d),none,none,none] S=some (.nx,[some (.ref c),some (cC o d),some (.ref S.length),none,none],S++[.lst []]):=by
  unfold JW
  exact cD (bC aW (wF (Nat.zero_le _))) (bT rfl)
 have W1:WF (S++[.lst []]):=hS.snoc rfl
 have zJ:=sc.app [.lst []]
 have it:dz (eN (aO 2 Er) (ak (gb "Scene" "tree" (aj 0)) (ak (aj 1) (aq)))) [some (.ref c),some (cC o d),some (.ref S.length),none,none] (S++[.lst []])=some (.lst (S.length+1),S++[.lst []]++[.lst (fs.map bB)]++[.lst []]):=by
  have hlen:(S++[O.lst []]).length=S.length+1:=by simp
  rw [<-hlen]
  exact lJ (bC (aL (Hu (aC rfl) zJ.ins rfl) (aL (aC rfl) aW)) (cJ rfl (p3 _ W1))) (fO cI)
 have inv:=uw (nx:=cO (.lst (S.length+1))) (g:=aG 3) (f:=xq) (xs:=fs.map bB)
  (λi σ S'=>∃ a b,σ=[some (.ref c),some (cC o d),some (.ref S.length),a,b]/\S'=S++[.lst (((fs.take i).filterMap (fM o d shs)).map b7)]++[.lst (fs.map bB)]++[.lst []])
  (λi σ S' ⟨a,b,_,e⟩=>by
   subst e
   have l:(S++[O.lst (((fs.take i).filterMap (fM o d shs)).map b7)]++[O.lst (fs.map bB)]++[O.lst []])[S.length+1]?=some (.lst (fs.map bB)):=by
    rw [show S.length+1=(S++[O.lst (((fs.take i).filterMap (fM o d shs)).map b7)]).length by simp];exact fO cI
   unfold cO;simp only;rw [l])
  (λi dd σ S' hi ⟨a,b,e1,e2⟩=>?_) fs.length 0 [some (.ref c),some (cC o d),some (.ref S.length),none,none] (S++[.lst []]++[.lst (fs.map bB)]++[.lst []]) ⟨none,none,rfl,rfl⟩ (by simp)
 ·obtain ⟨σ',S',e,a,b,rfl,rfl⟩:=inv
  rw [cQ,lu] at e
  have a3:JX [some (.ref c),some (cC o d),some (.ref S.length),none,none] (S++[.lst []])=some (.nx,[some (.ref c),some (cC o d),some (.ref S.length),a,b],S++[.lst ((fs.filterMap (fM o d shs)).map b7)]++[.lst (fs.map bB)]++[.lst []]):=by
   unfold JX
   refine mC it (n:=fs.length) ?_ e
   have l:(S++[O.lst []]++[O.lst (fs.map bB)]++[O.lst []])[S.length+1]?=some (.lst (fs.map bB)):=by
    rw [show S.length+1=(S++[O.lst []]).length by simp];exact fO cI
   unfold pJ;simp only;rw [l];simp
  have a4:JZ [some (.ref c),some (cC o d),some (.ref S.length),a,b] (S++[.lst ((fs.filterMap (fM o d shs)).map b7)]++[.lst (fs.map bB)]++[.lst []])=some (.rt (.ref S.length),[some (.ref c),some (cC o d),some (.ref S.length),a,b],S++[.lst ((fs.filterMap (fM o d shs)).map b7)]++[.lst (fs.map bB)]++[.lst []]):=by
   unfold JZ
   exact dU (aC rfl)
  refine rM (σ':=[some (.ref c),some (cC o d),some (.ref S.length),a,b]) ?_ ?_ (by simp) (by simp [D.lo]) (((hS.snoc (QJ _ _)).snoc (HD _ _)).snoc rfl)
  ·wtm_at "?b"
   unfold Kp
   exact aJ a1 (aR (aJ a2 (aR (aJ a3 (aR (aJ a4 cY))))))
  ·intro h;simp [D.lo] at h
 ·subst e1 e2
  have hi':i<fs.length:=by have:=(dN.mp hi).1;simpa using this
  have hd':dd=bB fs[i]:=by rw [eV,dO hi'] at hi;exact (Option.some.inj hi).symm
  subst hd'
  have hj:=hfs fs[i] (List.getElem_mem hi')
  have hWS:WF (S++[.lst (((fs.take i).filterMap (fM o d shs)).map b7)]++[.lst (fs.map bB)]++[.lst []]):=((hS.snoc (QJ _ _)).snoc (HD _ _)).snoc rfl
  have Ux:fB (S++[.lst (((fs.take i).filterMap (fM o d shs)).map b7)]++[.lst (fs.map bB)]++[.lst []]) c shs t:=by
   rw [fD,fD];exact sc.app _
  have tm:=zmG ho hd (ok.sh _ (List.getElem_mem hj)) h0 hK _ hWS
  have hix:fj (shs.map dM) ((fs[i]:Nat):Int)=some (dM shs[fs[i]]):=yC (by simp [hj])
  have b1:KC [some (.ref c),some (cC o d),some (.ref S.length),some (bB fs[i]),b] (S++[.lst (((fs.take i).filterMap (fM o d shs)).map b7)]++[.lst (fs.map bB)]++[.lst []])=some (.nx,[some (.ref c),some (cC o d),some (.ref S.length),some (bB fs[i]),some (tD (uH o d shs[fs[i]]))],S++[.lst (((fs.take i).filterMap (fM o d shs)).map b7)]++[.lst (fs.map bB)]++[.lst []]):=by
   unfold KC
   exact cD (bC (aL (aC rfl) (aL (aV (Hu (aC rfl) Ux.ins rfl) (aC rfl) (ug Ux.kept hix)) aW)) (cJ rfl tm)) (bT rfl)
  have tk:fs.take (i+1)=fs.take i++[fs[i]]:=by rw [List.take_add_one,dO hi'];rfl
  have hat:fM o d shs fs[i]=(uH o d shs[fs[i]]).map λp=>(p,fs[i]):=by unfold fM;rw [dO hj];rfl
  cases ht:uH o d shs[fs[i]] with
  | none =>
   rw [ht] at b1 hat
   have b2:yZ [some (.ref c),some (cC o d),some (.ref S.length),some (bB fs[i]),some (tD none)] (S++[.lst (((fs.take i).filterMap (fM o d shs)).map b7)]++[.lst (fs.map bB)]++[.lst []])=some (.nx,[some (.ref c),some (cC o d),some (.ref S.length),some (bB fs[i]),some (tD none)],S++[.lst (((fs.take i).filterMap (fM o d shs)).map b7)]++[.lst (fs.map bB)]++[.lst []]):=by
    unfold yZ
    exact eF (b:=false) (eY (aV (aC rfl) aY Je)) (fH rfl dJ)
   have b3:xq [some (.ref c),some (cC o d),some (.ref S.length),some (bB fs[i]),b] (S++[.lst (((fs.take i).filterMap (fM o d shs)).map b7)]++[.lst (fs.map bB)]++[.lst []])=some (.nx,[some (.ref c),some (cC o d),some (.ref S.length),some (bB fs[i]),some (tD none)],S++[.lst (((fs.take i).filterMap (fM o d shs)).map b7)]++[.lst (fs.map bB)]++[.lst []]):=by
    unfold xq
    exact aJ b1 (aR (aJ b2 (aR dJ)))
   refine ⟨_,_,.nx,_,_,bT rfl,b3,.inl rfl,some (bB fs[i]),some (tD none),rfl,?_⟩
   ·rw [tk,List.filterMap_append]
    simp [hat]
  | some p =>
   rw [ht] at b1 hat
   have b2:yZ [some (.ref c),some (cC o d),some (.ref S.length),some (bB fs[i]),some (tD (some p))] (S++[.lst (((fs.take i).filterMap (fM o d shs)).map b7)]++[.lst (fs.map bB)]++[.lst []])=some (.nx,[some (.ref c),some (cC o d),some (.ref S.length),some (bB fs[i]),some (tD (some p))],S++[.lst (((fs.take i).filterMap (fM o d shs)).map b7++[b7 (p,fs[i])])]++[.lst (fs.map bB)]++[.lst []]):=by
    unfold yZ
    have l1:(S++[O.lst (((fs.take i).filterMap (fM o d shs)).map b7)]++[O.lst (fs.map bB)]++[O.lst []])[S.length]?=some (.lst (((fs.take i).filterMap (fM o d shs)).map b7)):=fO (fO cI)
    refine eF (b:=true) (eY (aV (aC rfl) aY Je)) (fV rfl (aJ (uo (yo (aC rfl) l1 (aL (bC (aL (aC rfl) (aL (aC rfl) aW)) (mD (by show 2<=sizeLine;decide))) aW) (Ir l1 ?_ ?_))) (aR dJ)))
    ·rw [cQ,sizeLine_eq]
     have:=List.length_filterMap_le (fM o d shs) (fs.take i)
     have h2:(fs.take i).length<=100:=by simp;omega
     omega
    ·rw [List.set_append_left _ _ (by simp),List.set_append_left _ _ (by simp)];simp [b7,tD]
   have b3:xq [some (.ref c),some (cC o d),some (.ref S.length),some (bB fs[i]),b] (S++[.lst (((fs.take i).filterMap (fM o d shs)).map b7)]++[.lst (fs.map bB)]++[.lst []])=some (.nx,[some (.ref c),some (cC o d),some (.ref S.length),some (bB fs[i]),some (tD (some p))],S++[.lst (((fs.take i).filterMap (fM o d shs)).map b7++[b7 (p,fs[i])])]++[.lst (fs.map bB)]++[.lst []]):=by
    unfold xq
    exact aJ b1 (aR (aJ b2 (aR dJ)))
   refine ⟨_,_,.nx,_,_,bT rfl,b3,.inl rfl,some (bB fs[i]),some (tD (some p)),rfl,?_⟩
   ·rw [tk,List.filterMap_append]
    simp [hat]
end
end MX.P
end
section
local macro_rules | `(tactic| wtm_at "?d") => `(tactic| (with_reducible assumption))
namespace MX.P
open PySem L2 MX
open Classical in
def qZ (h b:gY):Bool:=decide (h.1.1*b.1.2<b.1.1*h.1.2)||(decide (rD h.1=rD b.1)&&decide ((h.2:Int)<(b.2:Int)))
structure Gd (k:Nat) (h:gY):Prop where
 a:Bd k h.1.1
 b:Bd k h.1.2
open Classical in
theorem zjp {k:Nat} {h b:gY} (h1:Gd k h) (h2:Gd k b) (hk:k+k<=134217728) (S:So):El [b7 h,b7 b] S=some (.bl (qZ h b),S):=by
 have hl:=sp_is_less h1.a h1.b h2.a h2.b hk S
 have t:jc (eN (aO 2 rO) (ak (eB aM (aj 0) (eC (.int 0))) (ak (eB aM (aj 1) (eC (.int 0))) (aq)))) [some (b7 h),some (b7 b)] S=some (decide (h.1.1*b.1.2<b.1.1*h.1.2),S) :=
  yG (bC (aL (aV (aC rfl) aY (gK (z:=rD h.1) rfl)) (aL (aV (aC rfl) aY (gK (z:=rD b.1) rfl)) aW)) (cJ rfl hl)) rfl
 apply bK (S':=S) (σ':=[some (b7 h),some (b7 b)])
 ·wtm_at "?b"
  unfold JD
  cases hb:decide (h.1.1*b.1.2<b.1.1*h.1.2) with
  | true =>
   rw [hb] at t
   have:qZ h b=true:=by unfold qZ;rw [hb];rfl
   rw [this]
   exact aJ (eF t (fV rfl (aJ (dU aY) cY))) cY
  | false =>
   rw [hb] at t
   have e:qZ h b=(decide (rD h.1=rD b.1)&&decide ((h.2:Int)<(b.2:Int))):=by unfold qZ;rw [hb];rfl
   rw [e]
   have q:eB (bf .Eq) (eB aM (aj 0) (eC (.int 0))) (eB aM (aj 1) (eC (.int 0))) [some (b7 h),some (b7 b)] S=some (.bl (decide (rD h.1=rD b.1)),S) :=
    aV (aV (aC rfl) aY (gK (z:=rD h.1) rfl)) (aV (aC rfl) aY (gK (z:=rD b.1) rfl)) (wC rfl 1 rfl rfl (by decide))
   have l:eB (bf .Lt) (eB aM (aj 0) (eC (.int 1))) (eB aM (aj 1) (eC (.int 1))) [some (b7 h),some (b7 b)] S=some (.bl (decide ((h.2:Int)<(b.2:Int))),S) :=
    aV (aV (aC rfl) aY (gK (z:=bB h.2) rfl)) (aV (aC rfl) aY (gK (z:=bB b.2) rfl)) Oo
   refine aJ (eF t (fH rfl dJ)) (aR (aJ (dU (CT q ?_)) cY))
   cases hd:decide (rD h.1=rD b.1) with
   | true=>exact fV rfl (by rw [l];rfl)
   | false=>exact fH rfl rfl
 ·exact lu
 ·rfl
def jd:Option gY->D
 | none => .non
 | some h=>b7 h
def iB (best:Option gY) (h:gY):Option gY:=match best with
 | none=>some h
 | some b=>if qZ h b=true then some h else some b
theorem Ib:∀ (hs:List gY) (b:Option gY) (h:gY),hs.foldl iB b=some h->h∈hs\/b=some h
 | [],b,h,e => .inr e
 | x::r,b,h,e=>by
  rcases Ib r (iB b x) h e with q | q
  ·exact .inl (cM _ q)
  ·cases b with
   | none=>simp only [iB,Option.some.injEq] at q;subst q;exact .inl (fL ..)
   | some y =>
    simp only [iB] at q
    split at q
    ·cases q;exact .inl (fL ..)
    ·exact .inr q
section
variable {K:Nat} {o d:Pt} (ho:aK K o) (hd:aK K d) (h0:d≠(0,0,0))
include ho hd h0 in
theorem Xz {shs:List Sh} {t:Option Tr} (ok:oA K shs t) {i:Nat} {h:gY} (e:fM o d shs i=some h):Gd (4*K+10) h/\h.2=i:=by
 unfold fM at e
 simp only [bA,aU] at e
 obtain ⟨s,e1,p,e2,rfl⟩:=e
 have b:=Vz ho hd (ok.sh s (List.mem_of_getElem? e1)) h0 p e2
 exact ⟨⟨b.2.2.1,b.2.2.2⟩,rfl⟩
include ho hd h0 in
theorem zk4 (hK:K<=1500) {shs:List Sh} {t:Option Tr} (ok:oA K shs t) :
 ∃ r:Option gY,(∀ h,r=some h->h.2<shs.length)/\∀ S c,WF S->fB S c shs t->uE [.ref c,cC o d] S=some (jd r,S):=by
 obtain ⟨fs,p1,p2,p3⟩:=zmM ho hd h0 hK ok
 have hb:∀ h∈fs.filterMap (fM o d shs),Gd (4*K+10) h/\h.2<shs.length:=λh hh=>by
  obtain ⟨i,hi,e⟩:=List.mem_filterMap.mp hh
  obtain ⟨b1,b2⟩:=Xz ho hd h0 ok e
  exact ⟨b1,by rw [b2];exact p1 i hi⟩
 generalize hhs:fs.filterMap (fM o d shs)=hs at *
 have hln:hs.length<=100:=by
  rw [<-hhs]
  exact Nat.le_trans (List.length_filterMap_le _ _) p2
 refine ⟨hs.foldl iB none,λh e=>?_,λS c hS sc=>?_⟩
 ·rcases Ib hs none h e with q | q
  ·exact (hb h q).2
  ·cases q
 ·have hh:=p3 S c hS sc
  have a1:KN [some (.ref c),some (cC o d),none,none] S=some (.nx,[some (.ref c),some (cC o d),some .non,none],S):=by
   unfold KN
   exact cD aY (bT rfl)
  have l1:(S++[O.lst (hs.map b7)]++[O.lst (fs.map bB)]++[O.lst []])[S.length]?=some (.lst (hs.map b7)):=fO (fO cI)
  have it:dz (lA "Scene" "hits" 2 Ez (aj 0) (ak (aj 1) (aq))) [some (.ref c),some (cC o d),some .non,none] S=some (.lst S.length,S++[.lst (hs.map b7)]++[.lst (fs.map bB)]++[.lst []]) :=
   lJ (Ht (aC rfl) sc.ins rfl (aL (aC rfl) aW) rfl hh) l1
  have inv:=uw (nx:=cO (.lst S.length)) (g:=aG 3) (f:=xu) (xs:=hs.map b7)
   (λi σ S'=>∃ a,σ=[some (.ref c),some (cC o d),some (jd ((hs.take i).foldl iB none)),a]/\S'=S++[.lst (hs.map b7)]++[.lst (fs.map bB)]++[.lst []])
   (λi σ S' ⟨a,_,e⟩=>by subst e;unfold cO;simp only;rw [l1])
   (λi dd σ S' hi ⟨a,e1,e2⟩=>?_) hs.length 0 [some (.ref c),some (cC o d),some .non,none] (S++[.lst (hs.map b7)]++[.lst (fs.map bB)]++[.lst []]) ⟨none,rfl,rfl⟩ (by simp)
  ·obtain ⟨σ',S',e,a,rfl,rfl⟩:=inv
   rw [cQ,lu] at e
   have a2:KQ [some (.ref c),some (cC o d),some .non,none] S=some (.nx,[some (.ref c),some (cC o d),some (jd (hs.foldl iB none)),a],S++[.lst (hs.map b7)]++[.lst (fs.map bB)]++[.lst []]):=by
    unfold KQ
    refine mC it (n:=hs.length) ?_ e
    unfold pJ;simp only;rw [l1];simp
   have a3:KR [some (.ref c),some (cC o d),some (jd (hs.foldl iB none)),a] (S++[.lst (hs.map b7)]++[.lst (fs.map bB)]++[.lst []])=some (.rt (jd (hs.foldl iB none)),[some (.ref c),some (cC o d),some (jd (hs.foldl iB none)),a],S++[.lst (hs.map b7)]++[.lst (fs.map bB)]++[.lst []]):=by
    unfold KR
    exact dU (aC rfl)
   apply bK (S':=S++[.lst (hs.map b7)]++[.lst (fs.map bB)]++[.lst []]) (σ':=[some (.ref c),some (cC o d),some (jd (hs.foldl iB none)),a])
   ·wtm_at "?b"
    unfold Kd
    exact aJ a1 (aR (aJ a2 (aR (aJ a3 cY))))
   ·rw [fD,fD];simp
   ·cases hs.foldl iB none<;>simp [jd,b7,bB,D.lo,cA]
  ·subst e1 e2
   have hi':i<hs.length:=by have:=(dN.mp hi).1;simpa using this
   have hd':dd=b7 hs[i]:=by rw [eV,dO hi'] at hi;exact (Option.some.inj hi).symm
   subst hd'
   have tk:hs.take (i+1)=hs.take i++[hs[i]]:=by rw [List.take_add_one,dO hi'];rfl
   have fold:(hs.take (i+1)).foldl iB none=iB ((hs.take i).foldl iB none) hs[i]:=by rw [tk,List.foldl_append];rfl
   have bi:=(hb hs[i] (List.getElem_mem hi')).1
   cases hbest:(hs.take i).foldl iB none with
   | none =>
    have b1:xu [some (.ref c),some (cC o d),some (jd none),some (b7 hs[i])] (S++[.lst (hs.map b7)]++[.lst (fs.map bB)]++[.lst []])=some (.nx,[some (.ref c),some (cC o d),some (jd (some hs[i])),some (b7 hs[i])],S++[.lst (hs.map b7)]++[.lst (fs.map bB)]++[.lst []]):=by
     unfold xu KH
     exact aJ (eF (b:=true) (rF (b:=true) (eY (aV (aC rfl) aY mz)) (fV rfl rfl)) (fV rfl (aJ (cD (aC rfl) (bT rfl)) (aR dJ)))) (aR dJ)
    exact ⟨_,_,.nx,_,_,bT rfl,b1,.inl rfl,_,by rw [fold,hbest];rfl,rfl⟩
   | some b =>
    have hbm:b∈hs:=by
     rcases Ib (hs.take i) none b hbest with q | q
     ·exact List.mem_of_mem_take q
     ·cases q
    have ss:=zjp bi (hb b hbm).1 (by omega) (S++[.lst (hs.map b7)]++[.lst (fs.map bB)]++[.lst []])
    have tt:jb (bN (eB (bf .Is) (aj 2) (eC .non))) (jc (eN (aO 2 El) (ak (aj 3) (ak (aj 2) (aq))))) [some (.ref c),some (cC o d),some (jd (some b)),some (b7 hs[i])] (S++[.lst (hs.map b7)]++[.lst (fs.map bB)]++[.lst []])=some (qZ hs[i] b,S++[.lst (hs.map b7)]++[.lst (fs.map bB)]++[.lst []]) :=
     rF (b:=false) (eY (aV (aC rfl) aY mz)) (fH rfl (yG (bC (aL (aC rfl) (aL (aC rfl) aW)) (cJ rfl ss)) rfl))
    have b1:xu [some (.ref c),some (cC o d),some (jd (some b)),some (b7 hs[i])] (S++[.lst (hs.map b7)]++[.lst (fs.map bB)]++[.lst []])=some (.nx,[some (.ref c),some (cC o d),some (jd (iB (some b) hs[i])),some (b7 hs[i])],S++[.lst (hs.map b7)]++[.lst (fs.map bB)]++[.lst []]):=by
     unfold xu KH
     cases hsn:qZ hs[i] b with
     | true =>
      have:iB (some b) hs[i]=some hs[i]:=by simp [iB,hsn]
      rw [this]
      rw [hsn] at tt
      exact aJ (eF tt (fV rfl (aJ (cD (aC rfl) (bT rfl)) (aR dJ)))) (aR dJ)
     | false =>
      have:iB (some b) hs[i]=some b:=by simp [iB,hsn]
      rw [this]
      rw [hsn] at tt
      exact aJ (eF tt (fH rfl dJ)) (aR dJ)
    exact ⟨_,_,.nx,_,_,bT rfl,b1,.inl rfl,_,by rw [fold,hbest],rfl⟩
end
theorem Hr (n:Nat) (shs:List Sh):O.lo n (.lst (shs.map dM))=true:=by
 show cA n _=true
 rw [ji]
 intro x hx
 obtain ⟨s,_,rfl⟩:=List.mem_map.mp hx
 cases s<;>simp [dM,D.lo,cA]
theorem O6 (n:Nat) (bs:List (Pt×Pt)):O.lo n (.lst (bs.map kW))=true:=by
 show cA n _=true
 rw [ji]
 intro x hx
 obtain ⟨s,_,rfl⟩:=List.mem_map.mp hx
 simp [D.lo,cA]
theorem zk8 {K m:Nat} {S:So} {shs:List Sh} (hS:WF S) (hT:lB "tree_over" S=true) (hm:S[m]?=some (.lst (shs.map dM))) (hl:shs.length<=32) (hk:∀ s∈shs,oG K s) :
 ∃ (t:Option Tr) (bs:List (Pt×Pt)),oA K shs t/\Eu [.ref S.length,.ref m] (S++[.ins "Scene" []])=some (.non,S++[.ins "Scene" [("kept",.ref (S.length+1)),("tree",gk t)]]++[.lst (shs.map dM)]++[.lst (bs.map kW)]) /\
  WF (S++[.ins "Scene" [("kept",.ref (S.length+1)),("tree",gk t)]]++[.lst (shs.map dM)]++[.lst (bs.map kW)]):=by
 classical
 obtain ⟨g,hg⟩:∃ g:Sh->Pt×Pt,∀ s∈shs,aK K (g s).1/\aK K (g s).2/\∀ S,WF S->uq [dM s] S=some (kW (g s),S):=by
  have ex:∀ s∈shs,∃ b:Pt×Pt,aK K b.1/\aK K b.2/\∀ S,WF S->uq [dM s] S=some (kW b,S):=λs hs=>by
   obtain ⟨lo,hi,_,b1,b2,e⟩:=zmN (hk s hs)
   exact ⟨(lo,hi),b1,b2,e⟩
  refine ⟨λs=>if h:s∈shs then (ex s h).choose else ((0,0,0),(0,0,0)),λs hs=>?_⟩
  simp only [dif_pos hs]
  exact (ex s hs).choose_spec
 have wf:∀ (fs:List (Str×D)) (G:So),cA (S.length+1+G.length) (fs.map (·.2))=true->(∀ o∈G,O.lo (S.length+1+G.length) o=true)->WF (S++[.ins "Scene" fs]++G):=λfs G h1 h2 o ho=>by
  have hlen:(S++[O.ins "Scene" fs]++G).length=S.length+1+G.length:=by rw [gQ,gQ];rfl
  rw [hlen]
  rcases jK.mp ho with ho | ho
  ·rcases jK.mp ho with ho | ho
   ·exact O.lo_mono (by omega) (hS o ho)
   ·rw [List.mem_singleton.mp ho];exact h1
  ·exact h2 o ho
 have Ao:(S++[O.ins "Scene" []]).length=S.length+1:=by simp
 have W2:WF (S++[.ins "Scene" [("kept",.ref (S.length+1))]]++[.lst (shs.map dM)]):=wf _ [_] (by simp [cA,D.lo]) (λo ho=>by rw [List.mem_singleton.mp ho];exact Hr _ _)
 have W3:WF (S++[.ins "Scene" [("kept",.ref (S.length+1))]]++[.lst (shs.map dM)]++[.lst ((shs.map g).map kW)]):=W2.snoc (O6 _ _)
 have T3:lB "tree_over" (S++[.ins "Scene" [("kept",.ref (S.length+1))]]++[.lst (shs.map dM)]++[.lst ((shs.map g).map kW)])=true:=by
  rw [fD,fD];exact wO hT
 obtain ⟨t,e1,e2⟩:=zk7 (K:=K) (bs:=shs.map g) W3 T3 cI (by simpa using hl) (λb hb=>by
  obtain ⟨s,hs,rfl⟩:=List.mem_map.mp hb
  exact ⟨(hg s hs).1,(hg s hs).2.1⟩)
 have Wf:WF (S++[.ins "Scene" [("kept",.ref (S.length+1)),("tree",gk t)]]++[.lst (shs.map dM)]++[.lst ((shs.map g).map kW)]):=by
  rw [fD _ [O.lst (shs.map dM)]]
  refine wf _ [_,_] ?_ λo ho=>?_
  ·simp [cA,D.lo,Xd]
  ·rcases List.mem_cons.mp ho with rfl | ho
   ·exact Hr _ _
   ·rw [List.mem_singleton.mp ho];exact O6 _ _
 refine ⟨t,shs.map g,⟨hk,λt' e=>⟨(e2 t' e).1,?_⟩,λt' e q hq=>?_⟩,?_,Wf⟩
 ·rw [(e2 t' e).2.length_eq,nu,cQ];omega
 ·have:=(Sq ((e2 t' e).2.mem_iff.mp hq)).1
  simpa using this
 ·apply PX (σ':=[some (.ref S.length),some (.ref m)])
  ·wtm_at "?b"
   unfold K4
   have s1:mY "Scene" "kept" (aj 0) (eN lF (ak (aj 1) (aq))) [some (.ref S.length),some (.ref m)] (S++[.ins "Scene" []])=some (.nx,[some (.ref S.length),some (.ref m)],S++[.ins "Scene" [("kept",.ref (S.length+1))]]++[.lst (shs.map dM)]):=by
    rw [<-Ao]
    exact yD (bC (aL (aC rfl) aW) (Jf (fO hm))) (aC rfl) (fO cI) (show (0:Nat)<3 by decide) (HW rfl)
   have k2:(S++[O.ins "Scene" [("kept",.ref (S.length+1))]]++[O.lst (shs.map dM)])[S.length+1]?=some (.lst (shs.map dM)):=by
    have:∀ x:O,(S++[x]++[O.lst (shs.map dM)])[S.length+1]?=some (.lst (shs.map dM)):=λx=>by
     rw [show S.length+1=(S++[x]).length by simp];exact cI
    exact this _
   have s2:eN (aO 1 Eg) (ak (cX (dz (gb "Scene" "kept" (aj 0))) (aG 0) (cF) (eN (aO 1 uq) (ak (aj 0) (aq))) [none]) (aq)) [some (.ref S.length),some (.ref m)] (S++[.ins "Scene" [("kept",.ref (S.length+1))]]++[.lst (shs.map dM)])=some (gk t,S++[.ins "Scene" [("kept",.ref (S.length+1))]]++[.lst (shs.map dM)]++[.lst ((shs.map g).map kW)]):=by
    rw [List.map_map] at e1 ⊢
    refine bC (aL (wR shs dM (λs=>kW (g s)) (lJ (Hu (aC rfl) (fO cI) rfl) k2) k2 (by omega) rfl λs hs=>?_) aW) (cJ rfl e1)
    exact bC (aL (aC rfl) aW) (cJ rfl ((hg s hs).2.2 _ W2))
   refine aJ s1 (aR (aJ (yD s2 (aC rfl) (fO (fO cI)) (show (1:Nat)<3 by decide) ?_) (aR dJ)))
   rw [List.set_append_left _ _ (by simp),HW rfl]
   rfl
  ·intro e
   have:=congrArg (λl=>l[S.length]?) e
   simp at this
  ·simp
  ·exact Wf
end MX.P
end
section
local macro_rules | `(tactic| wtm_at "?d") => `(tactic| (with_reducible assumption))
namespace MX.P
open PySem L2 MX
def fJ (m:Int):Pt:=(m.fmod 9 - 4,(m.fdiv 9).fmod 9 - 4,(m.fdiv 81).fmod 9 - 4)
theorem um (m:Int):aK 5 (fJ m):=by
 have f:∀ x:Int,Bd 5 (x.fmod 9 - 4):=λx=>by
  have h1:=lq x (show (0:Int)<9 by decide)
  have h2:=lg x (show (0:Int)<9 by decide)
  unfold Bd;omega
 exact ⟨f _,f _,f _⟩
theorem rN (m:Int) (S:So):qg [.int m] S=some (pD (fJ m),S):=by
 apply bK
 ·wtm_at "?b"
  unfold JB
  wtm_at "?a"
 ·wtm_at "?c"
 ·rfl
def jD (ce:Int):Int:=1+ce.fmod (1*2 ^ (50:Int).toNat)
theorem yL (ce:Int):Bd 51 (jD ce)/\0<jD ce:=by
 have h1:=lq ce (show (0:Int)<1*2 ^ (50:Int).toNat by decide)
 have h2:=lg ce (show (0:Int)<1*2 ^ (50:Int).toNat by decide)
 have e:(1:Int)*2 ^ (50:Int).toNat=1125899906842624:=by decide
 unfold jD
 rw [e] at h1 h2
 rw [e]
 unfold Bd
 have:(2:Nat) ^ 51=2251799813685248:=by decide
 omega
def iH (ce:Int) (p:Pt):Pt:=if ce.fmod 3=0 then p else (p.1*jD ce+ce.fmod 1000003,p.2.1*jD ce - ce.fmod 997,p.2.2*jD ce+5)
theorem Pb {k:Nat} {ce:Int} {p:Pt} (h:aK k p):aK (k+60) (iH ce p):=by
 unfold iH
 split
 ·exact h.le (by omega)
 ·have s:=(yL ce).1
  have m1:Bd 20 (ce.fmod 1000003):=(Bd.fmod (by decide)).le (by decide)
  have m2:Bd 20 (ce.fmod 997):=(Bd.fmod (by decide)).le (by decide)
  have m3:Bd 20 5:=(Bd.lit 5).le (by decide)
  exact ⟨((h.1.mul s).add m1).le (by omega),((h.2.1.mul s).sub m2).le (by omega),((h.2.2.mul s).add m3).le (by omega)⟩
theorem Pr {k:Nat} {p:Pt} (bp:aK k p) (hk:k<=100) (ce:Int) (S:So):yQ [pD p,.int ce] S=some (pD (iH ce p),S):=by
 obtain ⟨x,y,z⟩:=p
 obtain ⟨bx,qM,bz⟩:=bp
 simp only at bx qM bz
 have bs:Bd 51 (1+ce.fmod (1*2 ^ (50:Int).toNat)):=(yL ce).1
 by_cases h3:ce.fmod 3=0
 ·unfold iH
  rw [if_pos h3]
  apply bK
  ·wtm_at "?b"
   unfold Fg
   wtm_at "?a"
  ·wtm_at "?c"
  ·rfl
 ·unfold iH
  rw [if_neg h3]
  unfold jD
  apply bK
  ·wtm_at "?b"
   unfold Fg
   wtm_at "?a"
  ·wtm_at "?c"
  ·rfl
theorem WM {ce:Int} {p q:Pt} (h:p.1<=q.1/\p.2.1<=q.2.1/\p.2.2<=q.2.2):(iH ce p).1<=(iH ce q).1/\(iH ce p).2.1<=(iH ce q).2.1/\(iH ce p).2.2<=(iH ce q).2.2:=by
 unfold iH
 split
 ·exact h
 ·have s:=Int.le_of_lt (yL ce).2
  have a:=Int.mul_le_mul_of_nonneg_right h.1 s
  have b:=Int.mul_le_mul_of_nonneg_right h.2.1 s
  have c:=Int.mul_le_mul_of_nonneg_right h.2.2 s
  refine ⟨?_,?_,?_⟩<;>simp only<;>omega
def jV (ns:List Int) (S:So):Prop:=S[0]?=some (.frz (ns.map .int))
theorem jV.app {ns:List Int} {S:So} (h:jV ns S) (G:So):jV ns (S++G):=by
 unfold jV at *
 rw [jW (dN.mp h).1];exact h
theorem zk2 {ns:List Int} (hn:ns.length<=63) (k:Int):∃ s:Sh,oG 8 s/\∀ S,jV ns S->Jx [.ref 0,.int k] S=some (dM s,S):=by
 have bm:∀ x:Int,bI (k.fmod 3) (x.fmod 2)=true:=λx=>jt (k:=2) (l:=2) ((Bd.fmod (by decide)).le (by decide)) ((Bd.fmod (by decide)).le (by decide)) (by decide)
 generalize hpl:k - k.fmod 3*(gJ ns 0).fmod 2=pl
 generalize hmo:jY (gJ ns (pl+1)) pl=mo
 by_cases hb:(mo.fdiv 729).fmod 2=0
 ·have low:=um mo
  have wd:=um (mo.fdiv 1458)
  generalize hl:fJ mo=lo at low
  generalize hw:fJ (mo.fdiv 1458)=w at wd
  refine ⟨.box lo (lo.1+(if w.1<0 then -w.1 else w.1),lo.2.1+(if w.2.1<0 then -w.2.1 else w.2.1).fdiv 2,lo.2.2+(if w.2.2<0 then -w.2.2 else w.2.2).fmod 3),⟨λp hp=>?_,λl h e=>?_⟩,λS hS=>?_⟩
  ·simp only [Sh.pts,List.mem_cons,pH,or_false] at hp
   have q1:=lq (if w.2.2<0 then -w.2.2 else w.2.2) (show (0:Int)<3 by decide)
   have q2:=lg (if w.2.2<0 then -w.2.2 else w.2.2) (show (0:Int)<3 by decide)
   have q3:(if w.2.1<0 then -w.2.1 else w.2.1).fdiv 2=(if w.2.1<0 then -w.2.1 else w.2.1) / 2:=Int.fdiv_eq_ediv_of_nonneg _ (by decide)
   obtain ⟨l1,l2,l3⟩:=low
   obtain ⟨w1,w2,w3⟩:=wd
   unfold Bd at l1 l2 l3 w1 w2 w3
   rcases hp with rfl | rfl
   ·exact aK.le (k:=5) ⟨l1,l2,l3⟩ (by decide)
   ·refine ⟨?_,?_,?_⟩
    ·show (lo.1+(if w.1<0 then -w.1 else w.1)).natAbs<2 ^ 8
     split<;>omega
    ·show (lo.2.1+(if w.2.1<0 then -w.2.1 else w.2.1).fdiv 2).natAbs<2 ^ 8
     rw [q3]
     split<;>omega
    ·show (lo.2.2+(if w.2.2<0 then -w.2.2 else w.2.2).fmod 3).natAbs<2 ^ 8
     omega
  ·cases e
   have q1:=lq (if w.2.2<0 then -w.2.2 else w.2.2) (show (0:Int)<3 by decide)
   have q3:(if w.2.1<0 then -w.2.1 else w.2.1).fdiv 2=(if w.2.1<0 then -w.2.1 else w.2.1) / 2:=Int.fdiv_eq_ediv_of_nonneg _ (by decide)
   refine ⟨?_,?_,?_⟩
   ·show lo.1<=lo.1+(if w.1<0 then -w.1 else w.1)
    split<;>omega
   ·show lo.2.1<=lo.2.1+(if w.2.1<0 then -w.2.1 else w.2.1).fdiv 2
    rw [q3]
    split<;>omega
   ·show lo.2.2<=lo.2.2+(if w.2.2<0 then -w.2.2 else w.2.2).fmod 3
    omega
  ·have c0:=o4 hn 0 hS
   have c1:=o4 hn (pl+1) hS
   have d1:=sp_drawn (gJ ns (pl+1)) pl S
   have s1:=rN mo S
   have s2:=rN (mo.fdiv 1458) S
   rw [hmo] at d1
   rw [hl] at s1
   rw [hw] at s2
   apply bK
   ·wtm_at "?b"
    unfold Eb
    have b0:=bm (gJ ns 0)
    refine aJ (fl := .nx) (σ1:=[some (.ref 0),some (.int k),some (.int (k - k.fmod 3*(gJ ns 0).fmod 2)),none,none,none]) (S1:=S) (by wtm_at "?a") (aR ?_)
    rw [hpl]
    refine aJ (fl := .nx) (σ1:=[some (.ref 0),some (.int k),some (.int pl),some (.int mo),none,none]) (S1:=S) (by wtm_at "?a") (aR ?_)
    refine aJ (fl := .nx) (σ1:=[some (.ref 0),some (.int k),some (.int pl),some (.int mo),some (pD lo),none]) (S1:=S) (by wtm_at "?a") (aR ?_)
    have t:bN (eB (bf .Eq) (eB (aH .Mod) (eB (aH .FloorDiv) (aj 3) (eC (.int 729))) (eC (.int 2))) (eC (.int 0))) [some (.ref 0),some (.int k),some (.int pl),some (.int mo),some (pD lo),none] S=some (decide ((mo.fdiv 729).fmod 2=0),S):=by wtm_at "?a"
    rw [lG hb] at t
    refine aJ (fl := .rt _) (eF t (fV rfl (aJ (fl := .nx) (σ1:=[some (.ref 0),some (.int k),some (.int pl),some (.int mo),some (pD lo),some (pD w)]) (S1:=S) (by wtm_at "?a") (aR (aJ (dU (S1:=S) ?_) cY))))) cY
    wtm_at "?a"
   ·wtm_at "?c"
   ·rfl
 ·refine ⟨.tri (fJ mo) (fJ (mo.fdiv 1458)) (fJ (mo.fdiv 1062882)),⟨λp hp=>?_,λl h e=>by cases e⟩,λS hS=>?_⟩
  ·simp only [Sh.pts,List.mem_cons,pH,or_false] at hp
   rcases hp with rfl | rfl | rfl<;>exact (um _).le (by decide)
  ·have c0:=o4 hn 0 hS
   have c1:=o4 hn (pl+1) hS
   have d1:=sp_drawn (gJ ns (pl+1)) pl S
   have s1:=rN mo S
   have s2:=rN (mo.fdiv 1458) S
   have s3:=rN (mo.fdiv 1062882) S
   rw [hmo] at d1
   apply bK
   ·wtm_at "?b"
    unfold Eb
    have b0:=bm (gJ ns 0)
    refine aJ (fl := .nx) (σ1:=[some (.ref 0),some (.int k),some (.int (k - k.fmod 3*(gJ ns 0).fmod 2)),none,none,none]) (S1:=S) (by wtm_at "?a") (aR ?_)
    rw [hpl]
    refine aJ (fl := .nx) (σ1:=[some (.ref 0),some (.int k),some (.int pl),some (.int mo),none,none]) (S1:=S) (by wtm_at "?a") (aR ?_)
    refine aJ (fl := .nx) (σ1:=[some (.ref 0),some (.int k),some (.int pl),some (.int mo),some (pD (fJ mo)),none]) (S1:=S) (by wtm_at "?a") (aR ?_)
    have t:bN (eB (bf .Eq) (eB (aH .Mod) (eB (aH .FloorDiv) (aj 3) (eC (.int 729))) (eC (.int 2))) (eC (.int 0))) [some (.ref 0),some (.int k),some (.int pl),some (.int mo),some (pD (fJ mo)),none] S=some (decide ((mo.fdiv 729).fmod 2=0),S):=by wtm_at "?a"
    rw [jP hb] at t
    refine aJ (fl := .nx) (eF t (fH rfl dJ)) (aR (aJ (dU (S1:=S) ?_) cY))
    exact bC (aL aY (aL (aC rfl) (aL (bC (aL (aV (aC rfl) aY (kE (by decide))) aW) (cJ rfl s2)) (aL (bC (aL (aV (aC rfl) aY (kE (by decide))) aW) (cJ rfl s3)) aW)))) (mD (by show 4<=sizeLine;decide))
   ·wtm_at "?c"
   ·rfl
theorem Q0 {α:Type} {σ:Sg} {S S1:So} {fi:IF} {fe:EF} {src:List (Option Nat)} {rest:Sg} (qs:List α) (enc g:α->D) (h1:fi σ S=some (.fix (qs.map enc),S1)) (hl:qs.length<=1000) (hτ:mO src σ=none::rest)
 (hstep:∀ q∈qs,fe (some (enc q)::rest) S1=some (g q,S1)):cX fi (aG 0) cF fe src σ S=some (.ref S1.length,S1++[.lst (qs.map g)]):=by
 have key:=Hz (nx:=cO (.fix (qs.map enc))) (S:=S1) (rest:=rest) (fe:=fe) qs enc g (λi=>rfl) hstep qs.length 0 none [] (by omega)
 refine m7 (n:=qs.length) h1 ?_ (by rw [sizeLine_eq];omega) hτ ?_
 ·show some (qs.map enc).length=_
  simp
 ·rw [key];simp
def Sh.nm:Sh->Str
 | .box _ _ => "box"
 | .tri _ _ _ => "triangle"
theorem Pk (s:Sh):dM s = .tup (.str s.nm::s.pts.map pD):=by cases s<;>rfl
def Sh.by (f:Pt->Pt):Sh->Sh
 | .box lo hi => .box (f lo) (f hi)
 | .tri a b c => .tri (f a) (f b) (f c)
theorem Hg (f:Pt->Pt) (s:Sh):(s.by f).pts=s.pts.map f/\(s.by f).nm=s.nm:=by cases s<;>exact ⟨rfl,rfl⟩
theorem zk1 {ns:List Int} (hn:ns.length<=63) (k:Int):∃ s:Sh,oG 70 s/\∀ S,jV ns S->wY [.ref 0,.int k] S=some (dM s,S):=by
 obtain ⟨s,ok,e⟩:=zk2 hn k
 generalize hc:gJ ns 0=ce
 refine ⟨s.by (iH ce),⟨λp hp=>?_,λlo hi e=>?_⟩,λS hS=>?_⟩
 ·rw [(Hg _ s).1] at hp
  obtain ⟨q,hq,rfl⟩:=List.mem_map.mp hp
  exact (Pb (ok.bd q hq)).le (by decide)
 ·cases s with
  | box l h =>
   simp only [Sh.by,Sh.box.injEq] at e
   obtain ⟨rfl,rfl⟩:=e
   exact WM (ok.ord l h rfl)
  | tri a b c=>cases e
 ·have c0:=o4 hn 0 hS
  rw [hc] at c0
  have e0:=e S hS
  have hlen:s.pts.length<=10:=by cases s<;>simp [Sh.pts]
  rw [Pk] at e0
  rw [Pk,(Hg _ s).1,(Hg _ s).2]
  have hlc:cX (dz (jJ (aj 2) (jE (eC (.int 1))) (kh))) (aG 0) (cF) (eN (aO 2 yQ) (ak (aj 0) (ak (eN (aO 2 nq) (ak (aj 1) (ak (eC (.int 0)) (aq)))) (aq)))) [none,some 0] [some (.ref 0),some (.int k),some (.tup (.str s.nm::s.pts.map pD))] S=some (.ref S.length,S++[.lst (s.pts.map λp=>pD (iH ce p))]):=by
   refine Q0 s.pts pD (λp=>pD (iH ce p)) (Ij (yw (aC rfl) (Dm aY) Dl (G8 (ys:=s.pts.map pD) ?_ Dj))) (by omega) rfl λp hp=>?_
   ·rintro ⟨e1,e2⟩
    have:HT.sIx (D.str s.nm::s.pts.map pD).length 0 (some 1)=1:=by unfold HT.sIx;simp
    omega
   ·exact bC (aL (aC rfl) (aL (bC (aL (aC rfl) (aL aY aW)) (cJ rfl c0)) aW)) (cJ rfl (Pr (ok.bd p hp) (by decide) ce S))
  apply bK (S':=S++[.lst (s.pts.map λp=>pD (iH ce p))]) (σ':=[some (.ref 0),some (.int k),some (.tup (.str s.nm::s.pts.map pD))])
  ·wtm_at "?b"
   unfold Jt
   have Nf:fj (D.str s.nm::s.pts.map pD) 0=some (D.str s.nm):=yC (j:=0) rfl
   have r:=Yk (S:=S++[.lst (s.pts.map λp=>pD (iH ce p))]) (xs:=[.str s.nm]) (ys:=s.pts.map λp=>pD (iH ce p)) (by simp) (by simp;rw [sizeLine_eq];omega)
   rw [List.map_map]
   exact aJ (cD (bC (aL (aC rfl) (aL (aC rfl) aW)) (cJ rfl e0)) (bT rfl)) (aR (aJ (dU (aV (bC (aL (aV (aC rfl) aY (gK Nf)) aW) (mD (by show 1<=sizeLine;decide))) (bC (aL hlc aW) (Jq cI)) r)) cY))
  ·simp
  ·rw [D.lo,ji]
   intro x hx
   rcases List.mem_cons.mp hx with rfl | hx
   ·simp [D.lo]
   ·obtain ⟨p,_,rfl⟩:=List.mem_map.mp hx
    simp [D.lo,cA]
theorem uT (i:Int) (h0:0<=i) (h6:i<6):∃ d:Pt,aK 5 d/\d≠(0,0,0)/\fj [P3 1 0 0,P3 0 (0 - 2) 0,P3 0 0 3,P3 1 1 0,P3 0 1 (0 - 1),P3 (0 - 1) 0 0] i=some (pD d):=by
 have:i=0\/i=1\/i=2\/i=3\/i=4\/i=5:=by omega
 rcases this with rfl | rfl | rfl | rfl | rfl | rfl
 ·exact ⟨(1,0,0),⟨by unfold Bd;decide,by unfold Bd;decide,by unfold Bd;decide⟩,by decide,rfl⟩
 ·exact ⟨(0,0 - 2,0),⟨by unfold Bd;decide,by unfold Bd;decide,by unfold Bd;decide⟩,by decide,rfl⟩
 ·exact ⟨(0,0,3),⟨by unfold Bd;decide,by unfold Bd;decide,by unfold Bd;decide⟩,by decide,rfl⟩
 ·exact ⟨(1,1,0),⟨by unfold Bd;decide,by unfold Bd;decide,by unfold Bd;decide⟩,by decide,rfl⟩
 ·exact ⟨(0,1,0 - 1),⟨by unfold Bd;decide,by unfold Bd;decide,by unfold Bd;decide⟩,by decide,rfl⟩
 ·exact ⟨(0 - 1,0,0),⟨by unfold Bd;decide,by unfold Bd;decide,by unfold Bd;decide⟩,by decide,rfl⟩
theorem Pu {ns:List Int} (hn:ns.length<=63) (k:Int):∃ o d:Pt,aK 80 o/\aK 5 d/\d≠(0,0,0)/\∀ S,jV ns S->EY [.ref 0,.int k] S=some (cC o d,S):=by
 generalize hce:gJ ns k=ck
 generalize hc0:gJ ns 0=c0
 generalize hmo:jY ck k=mo
 obtain ⟨dm,bm,nm,em⟩:=uT ((mo.fdiv 1594323).fmod 6) (lq _ (by decide)) (lg _ (by decide))
 obtain ⟨d,bd,nd,ed⟩:∃ d:Pt,aK 5 d/\d≠(0,0,0)/\∀ S,∃ G:So,Eo [some (.ref 0),some (.int k),some (.int mo),some (pD (fJ mo)),some (pD (fJ (mo.fdiv 729))),none] S=some (.nx,[some (.ref 0),some (.int k),some (.int mo),some (pD (fJ mo)),some (pD d),none],S++G):=by
  by_cases h3:(mo.fdiv 531441).fmod 3=0\/pD (fJ (mo.fdiv 729))=P3 0 0 0
  ·refine ⟨dm,bm,nm,λS=>⟨[.lst [P3 1 0 0,P3 0 (0 - 2) 0,P3 0 0 3,P3 1 1 0,P3 0 1 (0 - 1),P3 (0 - 1) 0 0]],?_⟩⟩
   have t:jb (bN (eB (bf .Eq) (eB (aH .Mod) (eB (aH .FloorDiv) (aj 2) (eC (.int 531441))) (eC (.int 3))) (eC (.int 0)))) (bN (eB (bf .Eq) (aj 4) (eN cu (ak (eC (.int 0)) (ak (eC (.int 0)) (ak (eC (.int 0)) (aq))))))) [some (.ref 0),some (.int k),some (.int mo),some (pD (fJ mo)),some (pD (fJ (mo.fdiv 729))),none] S=some (true,S):=by
    by_cases ha:(mo.fdiv 531441).fmod 3=0
    ·refine rF (b:=true) (S1:=S) ?_ (fV rfl rfl)
     rw [<-lG ha]
     wtm_at "?a"
    ·have hb:=h3.resolve_left ha
     refine rF (b:=false) (S1:=S) ?_ (fH rfl ?_)
     ·rw [<-jP ha]
      wtm_at "?a"
     ·have q:=eY (aV (aC (σ:=[some (.ref 0),some (.int k),some (.int mo),some (pD (fJ mo)),some (pD (fJ (mo.fdiv 729))),none]) (i:=4) (d:=pD (fJ (mo.fdiv 729))) (S:=S) rfl) (bC (aL (aY (d := .int 0)) (aL (aY (d := .int 0)) (aL (aY (d := .int 0)) aW))) (mD (by show 3<=sizeLine;decide))) (wC rfl 1 rfl rfl (by decide)))
      rw [q,lG hb]
   unfold Eo
   refine eF t (fV rfl (aJ (cD (x:=pD dm) (S1:=S++[.lst [P3 1 0 0,P3 0 (0 - 2) 0,P3 0 0 3,P3 1 1 0,P3 0 1 (0 - 1),P3 (0 - 1) 0 0]]) ?_ (bT rfl)) (aR dJ)))
   refine aV (x := .ref S.length) (S1:=S++[.lst [P3 1 0 0,P3 0 (0 - 2) 0,P3 0 0 3,P3 1 1 0,P3 0 1 (0 - 1),P3 (0 - 1) 0 0]]) ?_ (aV (aV (aC rfl) aY (kE (by decide))) aY (m8 (by decide))) (ug cI em)
   wtm_at "?a"
  ·have ha:¬ (mo.fdiv 531441).fmod 3=0:=λh=>h3 (.inl h)
   have hb:¬ pD (fJ (mo.fdiv 729))=P3 0 0 0:=λh=>h3 (.inr h)
   refine ⟨fJ (mo.fdiv 729),um _,λh=>hb (by rw [h]),λS=>⟨[],?_⟩⟩
   have t:jb (bN (eB (bf .Eq) (eB (aH .Mod) (eB (aH .FloorDiv) (aj 2) (eC (.int 531441))) (eC (.int 3))) (eC (.int 0)))) (bN (eB (bf .Eq) (aj 4) (eN cu (ak (eC (.int 0)) (ak (eC (.int 0)) (ak (eC (.int 0)) (aq))))))) [some (.ref 0),some (.int k),some (.int mo),some (pD (fJ mo)),some (pD (fJ (mo.fdiv 729))),none] S=some (false,S):=by
    refine rF (b:=false) (S1:=S) ?_ (fH rfl ?_)
    ·rw [<-jP ha]
     wtm_at "?a"
    ·have q:=eY (aV (aC (σ:=[some (.ref 0),some (.int k),some (.int mo),some (pD (fJ mo)),some (pD (fJ (mo.fdiv 729))),none]) (i:=4) (d:=pD (fJ (mo.fdiv 729))) (S:=S) rfl) (bC (aL (aY (d := .int 0)) (aL (aY (d := .int 0)) (aL (aY (d := .int 0)) aW))) (mD (by show 3<=sizeLine;decide))) (wC rfl 1 rfl rfl (by decide)))
     rw [q,jP hb]
   unfold Eo
   rw [List.append_nil]
   exact eF t (fH rfl dJ)
 have bs:=um mo
 generalize hsp:fJ mo=st at *
 generalize hof:(mo.fdiv 9565938).fmod 4=of
 have bo:Bd 4 of:=by
  have h1:=lq (mo.fdiv 9565938) (show (0:Int)<4 by decide)
  have h2:=lg (mo.fdiv 9565938) (show (0:Int)<4 by decide)
  rw [hof] at h1 h2
  unfold Bd;omega
 have bp:aK 15 (st.1 - of*d.1,st.2.1 - of*d.2.1,st.2.2 - of*d.2.2) :=
  ⟨(bs.1.sub (bo.mul bd.1)).le (by decide),(bs.2.1.sub (bo.mul bd.2.1)).le (by decide),(bs.2.2.sub (bo.mul bd.2.2)).le (by decide)⟩
 refine ⟨iH c0 (st.1 - of*d.1,st.2.1 - of*d.2.1,st.2.2 - of*d.2.2),d,(Pb bp).le (by decide),bd,nd,λS hS=>?_⟩
 obtain ⟨G,e4⟩:=ed S
 have cc:=o4 hn k hS
 have cz:=o4 hn 0 ((hS.app G).app [.lst [.int (st.1 - of*d.1),.int (st.2.1 - of*d.2.1),.int (st.2.2 - of*d.2.2)]])
 have s1:=rN mo S
 have s2:=rN (mo.fdiv 729) S
 have dr:=sp_drawn ck k S
 rw [hmo] at dr
 rw [hce] at cc
 rw [hc0] at cz
 rw [hsp] at s1
 have a1:J0 [some (.ref 0),some (.int k),none,none,none,none] S=some (.nx,[some (.ref 0),some (.int k),some (.int mo),none,none,none],S):=by
  unfold J0
  exact cD (bC (aL (bC (aL (aC rfl) (aL (aC rfl) aW)) (cJ rfl cc)) (aL (aC rfl) aW)) (cJ rfl dr)) (bT rfl)
 have a2:J4 [some (.ref 0),some (.int k),some (.int mo),none,none,none] S=some (.nx,[some (.ref 0),some (.int k),some (.int mo),some (pD st),none,none],S):=by
  unfold J4
  exact cD (bC (aL (aC rfl) aW) (cJ rfl s1)) (bT rfl)
 have a3:J5 [some (.ref 0),some (.int k),some (.int mo),some (pD st),none,none] S=some (.nx,[some (.ref 0),some (.int k),some (.int mo),some (pD st),some (pD (fJ (mo.fdiv 729))),none],S):=by
  unfold J5
  exact cD (bC (aL (aV (aC rfl) aY (kE (by decide))) aW) (cJ rfl s2)) (bT rfl)
 have a5:J6 [some (.ref 0),some (.int k),some (.int mo),some (pD st),some (pD d),none] (S++G)=some (.nx,[some (.ref 0),some (.int k),some (.int mo),some (pD st),some (pD d),some (.int of)],S++G):=by
  unfold J6
  rw [<-hof]
  exact cD (aV (aV (aC rfl) aY (kE (by decide))) aY (m8 (by decide))) (bT rfl)
 have m1:bI of d.1=true:=jt bo bd.1 (by decide)
 have m2:bI of d.2.1=true:=jt bo bd.2.1 (by decide)
 have m3:bI of d.2.2=true:=jt bo bd.2.2 (by decide)
 have a6:J7 [some (.ref 0),some (.int k),some (.int mo),some (pD st),some (pD d),some (.int of)] (S++G)=some (.nx,[some (.ref 0),some (.int k),some (.int mo),some (pD (st.1 - of*d.1,st.2.1 - of*d.2.1,st.2.2 - of*d.2.2)),some (pD d),some (.int of)],S++G++[.lst [.int (st.1 - of*d.1),.int (st.2.1 - of*d.2.1),.int (st.2.2 - of*d.2.2)]]):=by
  unfold J7
  refine cD (x:=pD (st.1 - of*d.1,st.2.1 - of*d.2.1,st.2.2 - of*d.2.2)) (S1:=S++G++[.lst [.int (st.1 - of*d.1),.int (st.2.1 - of*d.2.1),.int (st.2.2 - of*d.2.2)]]) ?_ (bT rfl)
  wtm_at "?a"
 have a7:J8 [some (.ref 0),some (.int k),some (.int mo),some (pD (st.1 - of*d.1,st.2.1 - of*d.2.1,st.2.2 - of*d.2.2)),some (pD d),some (.int of)] (S++G++[.lst [.int (st.1 - of*d.1),.int (st.2.1 - of*d.2.1),.int (st.2.2 - of*d.2.2)]])=some (.rt (cC (iH c0 (st.1 - of*d.1,st.2.1 - of*d.2.1,st.2.2 - of*d.2.2)) d),[some (.ref 0),some (.int k),some (.int mo),some (pD (st.1 - of*d.1,st.2.1 - of*d.2.1,st.2.2 - of*d.2.2)),some (pD d),some (.int of)],S++G++[.lst [.int (st.1 - of*d.1),.int (st.2.1 - of*d.2.1),.int (st.2.2 - of*d.2.2)]]):=by
  unfold J8
  exact dU (bC (aL (bC (aL (aC rfl) (aL (bC (aL (aC rfl) (aL aY aW)) (cJ rfl cz)) aW)) (cJ rfl (Pr bp (by decide) c0 _))) (aL (aC rfl) aW)) (mD (by show 2<=sizeLine;decide)))
 apply bK (S':=S++G++[.lst [.int (st.1 - of*d.1),.int (st.2.1 - of*d.2.1),.int (st.2.2 - of*d.2.2)]])
 ·wtm_at "?b"
  unfold Kq
  exact aJ a1 (aR (aJ a2 (aR (aJ a3 (aR (aJ e4 (aR (aJ a5 (aR (aJ a6 (aR (aJ a7 cY))))))))))))
 ·rw [fD];simp
 ·simp [D.lo,cA]
end MX.P
end
section
local macro_rules | `(tactic| wtm_at "?d") => `(tactic| (with_reducible assumption))
namespace MX.P
open PySem L2 MX
def tU (ce:Int) (p:Pt):Pt:=if ce.fmod 3=0 then p else (p.1*jD ce,p.2.1*jD ce,p.2.2*jD ce)
theorem O4 {k:Nat} {ce:Int} {p:Pt} (h:aK k p):aK (k+51) (tU ce p):=by
 unfold tU
 split
 ·exact h.le (by omega)
 ·have s:=(yL ce).1
  exact ⟨h.1.mul s,h.2.1.mul s,h.2.2.mul s⟩
theorem Pq {k:Nat} {p:Pt} (bp:aK k p) (hk:k<=100) (ce:Int) (S:So):DN [pD p,.int ce] S=some (pD (tU ce p),S):=by
 obtain ⟨x,y,z⟩:=p
 obtain ⟨bx,qM,bz⟩:=bp
 simp only at bx qM bz
 have bs:Bd 51 (jD ce):=(yL ce).1
 have t:bN (eB (bf .Eq) (eB (aH .Mod) (aj 1) (eC (.int 3))) (eC (.int 0))) [some (P3 x y z),some (.int ce)] S=some (decide (ce.fmod 3=0),S):=by wtm_at "?a"
 by_cases h3:ce.fmod 3=0
 ·unfold tU
  rw [if_pos h3]
  rw [lG h3] at t
  refine bK (σ':=[some (P3 x y z),some (.int ce)]) (S':=S) ?_ lu rfl
  wtm_at "?b"
  unfold Dz
  exact aJ (eF t (fV rfl (aJ (dU (aC rfl)) cY))) cY
 ·unfold tU
  rw [if_neg h3]
  rw [jP h3] at t
  have hsc:∀ (v:Option D) (S:So),eB (aH .Add) (eC (.int 1)) (eB (aH .Mod) (aj 1) (eB (aH .LShift) (eC (.int 1)) (eC (.int 50)))) [v,some (.int ce)] S=some (.int (jD ce),S):=λv S=>by
   unfold jD
   wtm_at "?a"
  have step:∀ q∈[x,y,z],eB (aH .Mult) (aj 0) (eB (aH .Add) (eC (.int 1)) (eB (aH .Mod) (aj 1) (eB (aH .LShift) (eC (.int 1)) (eC (.int 50))))) (some (.int q)::[some (.int ce)]) S=some (.int (q*jD ce),S):=λq hq=>by
   refine aV (aC rfl) (hsc _ S) (Cw ?_)
   simp only [List.mem_cons,pH,or_false] at hq
   rcases hq with rfl | rfl | rfl
   ·exact jt bx bs (by omega)
   ·exact jt qM bs (by omega)
   ·exact jt bz bs (by omega)
  have lc:=Q0 (σ:=[some (P3 x y z),some (.int ce)]) (S:=S) (src:=[none,some 1]) (rest:=[some (.int ce)]) [x,y,z] D.int (λq => .int (q*jD ce)) (Ij (aC (i:=0) rfl)) (by simp) rfl step
  refine bK (σ':=[some (P3 x y z),some (.int ce)]) (S':=S++[.lst ([x,y,z].map λq => .int (q*jD ce))]) ?_ (by simp) rfl
  wtm_at "?b"
  unfold Dz
  exact aJ (eF t (fH rfl dJ)) (aR (aJ (dU (bC (aL lc aW) (Jq cI))) cY))
def gR (p w:Pt) (t:Int):Pt:=(p.1+t*w.1,p.2.1+t*w.2.1,p.2.2+t*w.2.2)
theorem CP {k l:Nat} {p w:Pt} {t:Int} (hp:aK k p) (hw:aK l w) (ht:Bd 4 t):aK (max k (l+4)+1) (gR p w t) :=
 ⟨(hp.1.add (ht.mul hw.1)).le (by omega),(hp.2.1.add (ht.mul hw.2.1)).le (by omega),(hp.2.2.add (ht.mul hw.2.2)).le (by omega)⟩
theorem Rf {l:Nat} {p w:Pt} {t:Int} (hw:aK l w) (hl:l<=1000) (ht:Bd 4 t) (S:So):wJ [pD p,pD w,.int t] S=some (pD (gR p w t),S):=by
 have m1:bI t w.1=true:=jt ht hw.1 (by omega)
 have m2:bI t w.2.1=true:=jt ht hw.2.1 (by omega)
 have m3:bI t w.2.2=true:=jt ht hw.2.2 (by omega)
 apply bK
 ·wtm_at "?b"
  unfold HY
  wtm_at "?a"
 ·wtm_at "?c"
 ·rfl
theorem FT {x:Nat} (h:x<5):Bd 4 (x:Int):=by unfold Bd;omega
def lX:Option gY->Int
 | none => -1
 | some h=>(h.2:Int)
structure qO (K:Nat) (d:Pt) (shs:List Sh) (t:Option Tr) (rr:Pt->Option gY):Prop where
 num:∀ o,aK K o -> -1<=lX (rr o)/\lX (rr o)<100
 first:∀ o,aK K o->∀ S c,WF S->fB S c shs t->uE [.ref c,cC o d] S=some (jd (rr o),S)
theorem zmY {K:Nat} {d:Pt} (hd:aK K d) (h0:d≠(0,0,0)) (hK:K<=1500) {shs:List Sh} {t:Option Tr} (ok:oA K shs t) (hl:shs.length<=32):∃ rr,qO K d shs t rr:=by
 classical
 have ex:∀ o,aK K o->∃ r:Option gY,(∀ h,r=some h->h.2<shs.length)/\∀ S c,WF S->fB S c shs t->uE [.ref c,cC o d] S=some (jd r,S):=λo ho=>zk4 ho hd h0 hK ok
 refine ⟨λo=>if h:aK K o then (ex o h).choose else none,λo ho=>?_,λo ho=>?_⟩
 ·simp only [dif_pos ho]
  have:=(ex o ho).choose_spec.1
  cases q:(ex o ho).choose with
  | none=>simp [lX]
  | some h =>
   have:=this h q
   simp only [lX]
   omega
 ·simp only [dif_pos ho]
  exact (ex o ho).choose_spec.2
section
variable {K:Nat} {d:Pt} {shs:List Sh} {t:Option Tr} {rr:Pt->Option gY} (se:qO K d shs t rr)
include se in
theorem Yv {o:Pt} (ho:aK K o) {S:So} {c:Nat} (hS:WF S) (sc:fB S c shs t):Ed [.ref c,cC o d] S=some (.int (lX (rr o)),S):=by
 have f:=se.first o ho S c hS sc
 refine bK (σ':=[some (.ref c),some (cC o d),some (jd (rr o))]) (S':=S) ?_ lu rfl
 wtm_at "?b"
 unfold Jv
 refine aJ (cD (Ht (aC rfl) sc.ins rfl (aL (aC rfl) aW) rfl f) (bT rfl)) (aR (aJ (dU (S1:=S) ?_) cY))
 cases rr o with
 | none=>exact pZ (b:=true) (eY (aV (aC rfl) aY mz)) (fV rfl (GZ aY G6))
 | some h=>exact pZ (b:=false) (eY (aV (aC rfl) aY mz)) (fH rfl (aV (aC rfl) aY (gK rfl)))
include se in
theorem zg7 {st right:Pt} {wide:Nat} (hst:aK 200 st) (hr:aK 200 right) (hK:300<=K) (hw:wide<5) {S:So} {c:Nat} (hS:WF S) (sc:fB S c shs t) :
 Dv [.ref c,pD st,pD right,pD d,.int (wide:Nat)] S=some (.ref S.length,S++[.lst ((List.range wide).map λx => .int (lX (rr (gR st right (x:Nat)))))]):=by
 have step:∀ x:Nat,x<wide->eN (aO 2 Ed) (ak (aj 2) (ak (eN cu (ak (eN (aO 3 wJ) (ak (aj 3) (ak (aj 1) (ak (aj 0) (aq))))) (ak (aj 4) (aq)))) (aq))) (some (.int (x:Nat))::[some (pD right),some (.ref c),some (pD st),some (pD d)]) S=some (.int (lX (rr (gR st right (x:Nat)))),S):=λx hx=>by
  have b:=FT (show x<5 by omega)
  have bm:aK K (gR st right (x:Nat)):=(CP hst hr b).le (by omega)
  exact bC (aL (aC rfl) (aL (bC (aL (bC (aL (aC rfl) (aL (aC rfl) (aL (aC rfl) aW))) (cJ rfl (Rf hr (by decide) b S))) (aL (aC rfl) aW)) (mD (by show 2<=sizeLine;decide))) aW)) (cJ rfl (Yv se bm hS sc))
 have lc:=m7 (σ:=[some (.ref c),some (pD st),some (pD right),some (pD d),some (.int (wide:Nat))]) (S:=S) (fi:=gn (ak (aj 4) (aq))) (g:=aG 0) (t:=cF) (src:=[none,some 2,some 0,some 1,some 3]) (n:=wide) (rJ (j:=(wide:Nat)) (aL (aC rfl) aW) (by omega)) (by show some (cU 0 (wide:Int).toNat).length=_;simp [cU]) (by rw [sizeLine_eq];omega) rfl (Hq (m:=wide) (rest:=[some (pD right),some (.ref c),some (pD st),some (pD d)]) (λx => .int (lX (rr (gR st right (x:Nat))))) step)
 refine rM (σ':=[some (.ref c),some (pD st),some (pD right),some (pD d),some (.int (wide:Nat))]) ?_ ?_ (by simp) (by simp [D.lo]) (hS.snoc ?_)
 ·wtm_at "?b"
  unfold Ji
  exact aJ (dU lc) cY
 ·intro h;simp [D.lo] at h
 ·show cA _ _=true
  rw [ji]
  intro x hx
  obtain ⟨i,_,rfl⟩:=List.mem_map.mp hx
  simp [D.lo]
end
end MX.P
end
section
local macro_rules | `(tactic| wtm_at "?d") => `(tactic| (with_reducible assumption))
namespace MX.P
open PySem L2 MX
abbrev iL (zs:List Int):List D:=zs.map D.int
def b8 (f:Nat->List Int) (h:Nat):So:=(List.range h).map λy=>O.lst (iL (f y))
def dY (n h:Nat):List D:=(List.range h).map λy=>D.ref (n+y)
theorem jQ (f:Nat->List Int) (h:Nat):(b8 f h).length=h:=by simp [b8]
theorem yN (f:Nat->List Int) (h:Nat):b8 f (h+1)=b8 f h++[.lst (iL (f h))]:=by simp [b8,List.range_succ]
theorem Sx (n h:Nat):dY n (h+1)=dY n h++[.ref (n+h)]:=by simp [dY,List.range_succ]
theorem Oi (n:Nat) (zs:List Int):O.lo n (.lst (iL zs))=true:=Dh _ _
theorem yF {S:So} (hS:WF S) (f:Nat->List Int):∀ h,WF (S++b8 f h)
 | 0=>by simpa [b8] using hS
 | h+1=>by
  rw [yN,<-fD]
  exact (yF hS f h).snoc (Oi _ _)
theorem Rm {fe:EF} {S:So} {rest:Sg} (f:Nat->List Int) {h:Nat} (hstep:∀ y:Nat,y<h->fe (some (.int (y:Nat))::rest) (S++b8 f y)=some (.ref (S.length+y),S++b8 f (y+1))) :
 ∀ (m i:Nat) (v:Option D),i+m=h->iw (cO (.fix (cU 0 h))) (aG 0) cF fe m i (v::rest) (S++b8 f i) (dY S.length i)=some (dY S.length h,S++b8 f h)
 | 0,i,v,e=>by
  have:i=h:=by omega
  subst this
  exact wD (by show some (cU 0 i)[i]?=_;rw [xj,if_neg (by omega)])
 | m+1,i,v,e=>by
  refine rC (acc':=dY S.length (i+1)) (Ol (z:=(i:Nat)) (by omega) (by omega)) (bT rfl) rK (hstep i (by omega)) (Sx _ _).symm (Rm f hstep m (i+1) _ (by omega))
theorem Iu {σ:Sg} {S:So} {aa:AF} {fe:EF} {src:List (Option Nat)} {rest:Sg} (f:Nat->List Int) {h:Nat} (hh:h<=1000) (h1:aa σ S=some ([.int (h:Nat)],S)) (hτ:mO src σ=none::rest)
 (hstep:∀ y:Nat,y<h->fe (some (.int (y:Nat))::rest) (S++b8 f y)=some (.ref (S.length+y),S++b8 f (y+1))) :
 cX (gn aa) (aG 0) cF fe src σ S=some (.ref (S.length+h),S++b8 f h++[.lst (dY S.length h)]):=by
 have key:=Rm f hstep h 0 none (by omega)
 rw [show S++b8 f 0=S by simp [b8]] at key
 have:=m7 (σ:=σ) (S:=S) (fi:=gn aa) (g:=aG 0) (t:=cF) (fe:=fe) (src:=src) (n:=h) (rJ h1 (by omega)) (by show some (cU 0 (h:Int).toNat).length=_;simp [cU]) (by rw [sizeLine_eq];omega) hτ key
 rw [this]
 rw [gQ,jQ]
def fC (S:So) (n:Nat) (aZ:List (List Int)):Prop:=∃ rs:List Nat,S[n]?=some (.lst (rs.map D.ref))/\rs.length=aZ.length/\∀ (y:Nat) zs,aZ[y]?=some zs->∃ r,rs[y]?=some r/\S[r]?=some (.lst (iL zs))
theorem fC.app {S:So} {n:Nat} {aZ:List (List Int)} (g:fC S n aZ) (G:So):fC (S++G) n aZ:=by
 have k:∀ {n:Nat} {o:O},S[n]?=some o->(S++G)[n]?=some o:=λ{n o} e=>by
  rw [jW (dN.mp e).1];exact e
 obtain ⟨rs,h1,h2,h3⟩:=g
 exact ⟨rs,k h1,h2,λy zs e=>let ⟨r,a,b⟩:=h3 y zs e;⟨r,a,k b⟩⟩
theorem DX (S:So) (f:Nat->List Int) (h:Nat):fC (S++b8 f h++[.lst (dY S.length h)]) (S.length+h) ((List.range h).map f):=by
 refine ⟨(List.range h).map λy=>S.length+y,?_,by simp,λy zs e=>?_⟩
 ·rw [show S.length+h=(S++b8 f h).length by rw [gQ,jQ],cI]
  simp [dY,List.map_map]
 ·have hy:y<h:=by have:=(dN.mp e).1;simpa using this
  have hz:zs=f y:=by
   rw [eV,List.getElem?_range hy] at e
   exact (Option.some.inj e).symm
  subst hz
  refine ⟨S.length+y,by simp [hy],?_⟩
  rw [fD,tW (by omega),jW (by rw [jQ];omega)]
  simp [b8,hy]
section
variable {K:Nat} {d:Pt} {shs:List Sh} {t:Option Tr} {rr:Pt->Option gY} (se:qO K d shs t rr)
def d9 (rr:Pt->Option gY) (corner right down:Pt) (wide y:Nat):List Int:=(List.range wide).map λx=>lX (rr (gR (gR corner down (y:Nat)) right (x:Nat)))
abbrev gA (corner right down way:Pt):D := .tup [pD corner,pD right,pD down,pD way]
include se in
theorem zmJ {corner right down:Pt} {wide high:Nat} (hc:aK 150 corner) (hr:aK 150 right) (hd:aK 150 down) (hK:300<=K) (hw:wide<5) (hh:high<5) {S:So} {c:Nat} (hS:WF S) (sc:fB S c shs t) :
 G9 [.ref c,gA corner right down d,.int (wide:Nat),.int (high:Nat)] S=some (.ref (S.length+high),S++b8 (d9 rr corner right down wide) high++[.lst (dY S.length high)]):=by
 have step:∀ y:Nat,y<high->eN (aO 5 Dv) (ak (aj 4) (ak (eN (aO 3 wJ) (ak (aj 1) (ak (aj 2) (ak (aj 0) (aq))))) (ak (aj 3) (ak (aj 5) (ak (aj 6) (aq)))))) (some (.int (y:Nat))::[some (pD corner),some (pD down),some (pD right),some (.ref c),some (pD d),some (.int (wide:Nat))]) (S++b8 (d9 rr corner right down wide) y)=some (.ref (S.length+y),S++b8 (d9 rr corner right down wide) (y+1)):=λy hy=>by
  have b:=FT (show y<5 by omega)
  have bm:aK 200 (gR corner down (y:Nat)):=(CP hc hd b).le (by decide)
  have r:=zg7 se bm (hr.le (by decide)) hK hw (yF hS (d9 rr corner right down wide) y) (sc.app _)
  rw [gQ,jQ] at r
  rw [yN,<-fD]
  have hrow:iL (d9 rr corner right down wide y)=(List.range wide).map λx=>D.int (lX (rr (gR (gR corner down (y:Nat)) right (x:Nat)))):=by
   simp only [iL,d9,List.map_map];rfl
  rw [hrow]
  exact bC (aL (aC rfl) (aL (bC (aL (aC rfl) (aL (aC rfl) (aL (aC rfl) aW))) (cJ rfl (Rf hd (by decide) b _))) (aL (aC rfl) (aL (aC rfl) (aL (aC rfl) aW))))) (cJ rfl r)
 have lc:=Iu (σ:=[some (.ref c),some (gA corner right down d),some (.int (wide:Nat)),some (.int (high:Nat)),some (pD corner),some (pD right),some (pD down),some (pD d)]) (S:=S) (aa:=ak (aj 3) aq) (src:=[none,some 4,some 6,some 5,some 0,some 7,some 2]) (d9 rr corner right down wide) (h:=high) (by omega) (aL (aC rfl) aW) rfl step
 refine rM (σ':=[some (.ref c),some (gA corner right down d),some (.int (wide:Nat)),some (.int (high:Nat)),some (pD corner),some (pD right),some (pD down),some (pD d)]) ?_ ?_ (by simp) ?_ ((yF hS _ _).snoc ?_)
 ·wtm_at "?b"
  unfold Hf
  exact aJ (cD (aV (aC rfl) aY (gK (z:=pD corner) rfl)) (bT rfl)) (aR (aJ (cD (aV (aC rfl) aY (gK (z:=pD right) rfl)) (bT rfl)) (aR (aJ (cD (aV (aC rfl) aY (gK (z:=pD down) rfl)) (bT rfl)) (aR (aJ (cD (aV (aC rfl) aY (gK (z:=pD d) rfl)) (bT rfl)) (aR (aJ (dU lc) cY))))))))
 ·intro h
  have:=h.2
  rw [D.lo,vW] at this
  omega
 ·simp [D.lo,jQ]
 ·show cA _ _=true
  rw [ji]
  intro x hx
  obtain ⟨i,hi,rfl⟩:=List.mem_map.mp hx
  have:=List.mem_range.mp hi
  simp [D.lo,jQ]
  omega
include se in
theorem zk3 {corner right down:Pt} {x y:Nat} (hc:aK 150 corner) (hr:aK 150 right) (hd:aK 150 down) (hK:300<=K) (hx:x<5) (hy:y<5) {S:So} {c:Nat} (hS:WF S) (sc:fB S c shs t) :
 JL [.ref c,gA corner right down d,.int (x:Nat),.int (y:Nat)] S=some (.int (lX (rr (gR (gR corner down (y:Nat)) right (x:Nat)))),S):=by
 have bx:=FT hx
 have qM:=FT hy
 have P:gR (gR corner down (y:Nat)) right (x:Nat)=(corner.1+(x:Nat)*right.1+(y:Nat)*down.1,corner.2.1+(x:Nat)*right.2.1+(y:Nat)*down.2.1,corner.2.2+(x:Nat)*right.2.2+(y:Nat)*down.2.2):=by
  unfold gR
  simp only [Prod.mk.injEq]
  refine ⟨?_,?_,?_⟩<;>omega
 have bP:aK K (gR (gR corner down (y:Nat)) right (x:Nat)):=(CP (CP hc hd qM) hr bx).le (by omega)
 generalize hp:gR (gR corner down (y:Nat)) right (x:Nat)=p at *
 have m1:bI (x:Nat) right.1=true:=jt bx hr.1 (by decide)
 have m2:bI (x:Nat) right.2.1=true:=jt bx hr.2.1 (by decide)
 have m3:bI (x:Nat) right.2.2=true:=jt bx hr.2.2 (by decide)
 have m4:bI (y:Nat) down.1=true:=jt qM hd.1 (by decide)
 have m5:bI (y:Nat) down.2.1=true:=jt qM hd.2.1 (by decide)
 have m6:bI (y:Nat) down.2.2=true:=jt qM hd.2.2 (by decide)
 have et:eN lZ (ak (cX (gn (ak (eC (.int 3)) (aq))) (aG 0) (cF) (eB (aH .Add) (eB (aH .Add) (eB aM (aj 1) (aj 0)) (eB (aH .Mult) (aj 4) (eB aM (aj 3) (aj 0)))) (eB (aH .Mult) (aj 5) (eB aM (aj 2) (aj 0)))) [none,some 4,some 6,some 5,some 2,some 3]) (aq)) [some (.ref c),some (gA corner right down d),some (.int (x:Nat)),some (.int (y:Nat)),some (pD corner),some (pD right),some (pD down),some (pD d),none,none] S=some (pD p,S++[.lst [.int (corner.1+(x:Nat)*right.1+(y:Nat)*down.1),.int (corner.2.1+(x:Nat)*right.2.1+(y:Nat)*down.2.1),.int (corner.2.2+(x:Nat)*right.2.2+(y:Nat)*down.2.2)]]):=by
  rw [P]
  wtm_at "?a"
 have W1:WF (S++[.lst [.int (corner.1+(x:Nat)*right.1+(y:Nat)*down.1),.int (corner.2.1+(x:Nat)*right.2.1+(y:Nat)*down.2.1),.int (corner.2.2+(x:Nat)*right.2.2+(y:Nat)*down.2.2)]]):=hS.snoc (by simp [O.lo,cA,D.lo])
 have zJ:=sc.app [.lst [.int (corner.1+(x:Nat)*right.1+(y:Nat)*down.1),.int (corner.2.1+(x:Nat)*right.2.1+(y:Nat)*down.2.1),.int (corner.2.2+(x:Nat)*right.2.2+(y:Nat)*down.2.2)]]
 have tk:(S++[O.lst [.int (corner.1+(x:Nat)*right.1+(y:Nat)*down.1),.int (corner.2.1+(x:Nat)*right.2.1+(y:Nat)*down.2.1),.int (corner.2.2+(x:Nat)*right.2.2+(y:Nat)*down.2.2)]]).take S.length=S:=by simp
 generalize S++[.lst [.int (corner.1+(x:Nat)*right.1+(y:Nat)*down.1),.int (corner.2.1+(x:Nat)*right.2.1+(y:Nat)*down.2.1),.int (corner.2.2+(x:Nat)*right.2.2+(y:Nat)*down.2.2)]]=S1 at et W1 zJ tk
 have f:=se.first p bP S1 c W1 zJ
 have a1:aX (aj 1) (jw 4 (dR (aG 4) (dR (aG 5) (dR (aG 6) (dR (aG 7) (jO)))))) [some (.ref c),some (gA corner right down d),some (.int (x:Nat)),some (.int (y:Nat)),none,none,none,none,none,none] S=some (.nx,[some (.ref c),some (gA corner right down d),some (.int (x:Nat)),some (.int (y:Nat)),some (pD corner),some (pD right),some (pD down),some (pD d),none,none],S):=by
  exact cD (aC rfl) (Cv rfl (p7 (bT rfl) (p7 (bT rfl) (p7 (bT rfl) (p7 (bT rfl) Dk)))))
 have a3:aX (lA "Scene" "first" 2 uE (aj 0) (ak (eN cu (ak (aj 8) (ak (aj 7) (aq)))) (aq))) (aG 9) [some (.ref c),some (gA corner right down d),some (.int (x:Nat)),some (.int (y:Nat)),some (pD corner),some (pD right),some (pD down),some (pD d),some (pD p),none] S1=some (.nx,[some (.ref c),some (gA corner right down d),some (.int (x:Nat)),some (.int (y:Nat)),some (pD corner),some (pD right),some (pD down),some (pD d),some (pD p),some (jd (rr p))],S1) :=
  cD (Ht (aC rfl) zJ.ins rfl (aL (bC (aL (aC rfl) (aL (aC rfl) aW)) (mD (by show 2<=sizeLine;decide))) aW) rfl f) (bT rfl)
 refine bK (S':=S1) (σ':=[some (.ref c),some (gA corner right down d),some (.int (x:Nat)),some (.int (y:Nat)),some (pD corner),some (pD right),some (pD down),some (pD d),some (pD p),some (jd (rr p))]) ?_ tk rfl
 wtm_at "?b"
 unfold Jz
 refine aJ a1 (aR (aJ (cD et (bT rfl)) (aR (aJ a3 (aR ?_)))))
 cases rr p with
 | none=>exact aJ (eF (b:=true) (eY (aV (aC rfl) aY mz)) (fV rfl (aJ (dU (aV aY aY yx)) cY))) cY
 | some h=>exact aJ (eF (b:=false) (eY (aV (aC rfl) aY mz)) (fH rfl dJ)) (aR (aJ (dU (aV (aC rfl) aY (gK rfl))) cY))
end
end MX.P
end
section
local macro_rules | `(tactic| wtm_at "?d") => `(tactic| (with_reducible assumption))
namespace MX.P
open PySem L2 MX
abbrev bJ:Str := "0123456789abcdefghijklmnopqrstuvwxyz"
def sg (z:Int):Str:=if z = -1 then "." else ⟨#[bJ.cps.toList.getD (z.fmod 36).toNat 0]⟩
theorem Qg:Str.length "." = 1:=by decide +kernel
theorem Ho:Str.length "\n" = 1:=by decide +kernel
theorem Dq:Str.length bJ=36:=by decide +kernel
theorem Ry:bJ.cps.toList.length=36:=by decide +kernel
theorem Pj (z:Int):(sg z).length=1:=by
 unfold sg
 split
 ·exact Qg
 ·rfl
section
variable {S:So}
theorem Hs {a b:Str} (h:a.length+b.length<=10000):aH .Add (.str a) (.str b) S=some (.str (a++b),S):=by
 show (if a.length+b.length<=sizeLine then some (D.str (a++b),S) else none)=_
 rw [if_pos (by rw [sizeLine_eq];omega)]
theorem O2 {z:Str} {i:Int} {c:Nat} (hz:z.length<=10000) (h:fj z.cps.toList i=some c):aM (.str z) (.int i) S=some (.str ⟨#[c]⟩,S):=by
 show (if z.length<=sizeLine then (fj z.cps.toList i).map λc=>(D.str ⟨#[c]⟩,S) else none)=_
 rw [if_pos (by rw [sizeLine_eq];omega),h];rfl
theorem zn4 {z:Str} (hz:z.length<=10000):gm [.str z] S=some (.int z.length,S):=by
 show (if z.length<=sizeLine then some (D.int z.length,S) else none)=_
 rw [if_pos (by rw [sizeLine_eq];omega)]
end
theorem Bk (z:Int):fj bJ.cps.toList (z.fmod 36)=some (bJ.cps.toList.getD (z.fmod 36).toNat 0):=by
 have h1:=lq z (show (0:Int)<36 by decide)
 have h2:=lg z (show (0:Int)<36 by decide)
 obtain ⟨n,hn⟩:=Int.eq_ofNat_of_zero_le h1
 rw [hn]
 rw [hn] at h2
 refine yC ?_
 have:n<bJ.cps.toList.length:=by rw [Ry];omega
 rw [List.getD_eq_getElem?_getD,Int.toNat_natCast,dO this];rfl
theorem zmI (z:Int) (S:So):Dw [.int z] S=some (.str (sg z),S):=by
 have t:bN (eB (bf .Eq) (aj 0) (eU oM (eC (.int 1)))) [some (.int z)] S=some (decide (z = -1),S):=eY (aV (aC rfl) (GZ aY G6) yp)
 refine bK (σ':=[some (.int z)]) (S':=S) ?_ lu rfl
 wtm_at "?b"
 unfold Jj
 refine aJ (dU (S1:=S) ?_) cY
 unfold sg
 by_cases h:z = -1
 ·rw [lG h] at t
  rw [if_pos h]
  exact pZ t (fV rfl aY)
 ·rw [jP h] at t
  rw [if_neg h]
  have Nh:((Str.length bJ:Nat):Int)=36:=by rw [Dq];rfl
  have l:=zn4 (S:=S) (z:=bJ) (by rw [Dq];decide)
  rw [Nh] at l
  exact pZ t (fH rfl (aV aY (aV (aC rfl) (bC (aL aY aW) l) (m8 (by decide))) (O2 (by rw [Dq];decide) (Bk z))))
def jf (zs:List Int):Str:=Str.join "" (zs.map sg)
def txt (aZ:List (List Int)):Str:=Str.join "\n" (aZ.map jf)
theorem Py (zs:List Int):((zs.map sg).map (·.length)).sum=zs.length:=by
 induction zs with
 | nil=>rfl
 | cons z r ih=>simp only [iM,List.sum_cons,iG,ih,Pj];omega
theorem Ra (zs:List Int):(jf zs).length<=zs.length:=by
 have:=StrLaws.join_length_le "" (zs.map sg)
 rw [Py,cQ] at this
 have h0:Str.length "" = 0:=by decide +kernel
 rw [h0,Nat.mul_zero,Nat.add_zero] at this
 exact this
theorem Ri {aZ:List (List Int)} (h:∀ zs∈aZ,zs.length<=10):((aZ.map jf).map (·.length)).sum<=10*aZ.length:=by
 induction aZ with
 | nil=>simp
 | cons z r ih =>
  have h1:=Ra z
  have h2:=h z (by simp)
  have h3:=ih λy hy=>h y (by simp [hy])
  simp only [iM,List.sum_cons,iG]
  omega
theorem zmt {aZ:List (List Int)} (h:∀ zs∈aZ,zs.length<=10):(txt aZ).length<=11*aZ.length:=by
 have:=StrLaws.join_length_le "\n" (aZ.map jf)
 have h2:=Ri h
 rw [cQ,Ho] at this
 unfold txt
 omega
theorem QZ {x:Str} {ys:List Str} {n:Nat} {S:So} (hn:S[n]?=some (.lst (ys.map D.str))) (hx:x.length<=16) (hl:(ys.map (·.length)).sum+ys.length<=10000):v8 x [.ref n] S=some (.str (Str.join x ys),S):=by
 unfold v8
 simp only
 rw [hn]
 simp only
 rw [RJ]
 simp only [cg]
 rw [if_pos ⟨hx,by omega⟩]
 rw [show Txt.join x ys=Str.join x ys from StrLaws.glued_eq_join x ys]
theorem QW {x:Str} {fa:AF} {σ:Sg} {S S1:So} {ds:List D} {r:Option (D×So)} (h1:fa σ S=some (ds,S1)) (h2:v8 x ds S1=r):uc x fa σ S=r:=by
 unfold uc;rw [h1];exact h2
theorem zgl {zs:List Int} {n:Nat} {S:So} (hn:S[n]?=some (.lst (iL zs))) (hl:zs.length<=10):yW [.ref n] S=some (.str (jf zs),S):=by
 have lc:=wR (σ:=[some (.ref n)]) (S:=S) (src:=[none]) (rest:=[]) (fi:=dz (aj 0)) (fe:=eN (aO 1 Dw) (ak (aj 0) (aq))) zs D.int (λz => .str (sg z)) (lJ (aC rfl) hn) hn (by omega) rfl (λz _=>bC (aL (aC rfl) aW) (cJ rfl (zmI z S)))
 have j:=QZ (x := "") (ys:=zs.map sg) (n:=S.length) (S:=S++[.lst (zs.map λz => .str (sg z))]) (by rw [cI,List.map_map];rfl) (by decide +kernel) (by rw [Py,cQ];omega)
 refine bK (σ':=[some (.ref n)]) (S':=S++[.lst (zs.map λz => .str (sg z))]) ?_ (by simp) rfl
 wtm_at "?b"
 unfold JF
 exact aJ (dU (QW (aL lc aW) j)) cY
theorem RD {aZ:List (List Int)} {n:Nat} {S:So} (g:fC S n aZ) (hl:aZ.length<=10) (hr:∀ zs∈aZ,zs.length<=10):CZ [.ref n] S=some (.str (txt aZ),S):=by
 obtain ⟨rs,h1,h2,h3⟩:=g
 have hz:∀ p∈rs.zip aZ,yW [.ref p.1] S=some (.str (jf p.2),S):=λp hp=>by
  obtain ⟨i,hi,e⟩:=List.mem_iff_getElem.mp hp
  rw [List.length_zip] at hi
  have i1:i<rs.length:=by omega
  have i2:i<aZ.length:=by omega
  rw [List.getElem_zip] at e
  obtain ⟨r,a,b⟩:=h3 i aZ[i] (dO i2)
  rw [dO i1] at a
  cases a
  rw [<-e]
  exact zgl b (hr _ (List.getElem_mem i2))
 have e1:rs=(rs.zip aZ).map (·.1):=(List.map_fst_zip (by omega)).symm
 have e2:aZ=(rs.zip aZ).map (·.2):=(List.map_snd_zip (by omega)).symm
 have hn:S[n]?=some (.lst ((rs.zip aZ).map λp=>D.ref p.1)):=by
  rw [h1]
  conv=>lhs;rw [e1]
  rw [List.map_map];rfl
 have lc:=wR (σ:=[some (.ref n)]) (S:=S) (src:=[none]) (rest:=[]) (fi:=dz (aj 0)) (fe:=eN (aO 1 yW) (ak (aj 0) (aq))) (rs.zip aZ) (λp=>D.ref p.1) (λp => .str (jf p.2)) (lJ (aC rfl) hn) hn (by rw [List.length_zip];omega) rfl (λp hp=>bC (aL (aC rfl) aW) (cJ rfl (hz p hp)))
 have hs:=Ri hr
 have e3:(rs.zip aZ).map (λp=>D.str (jf p.2))=(aZ.map jf).map D.str:=by
  conv=>rhs;rw [e2]
  rw [List.map_map,List.map_map];rfl
 rw [e3] at lc
 have j:=QZ (x := "\n") (ys:=aZ.map jf) (n:=S.length) (S:=S++[.lst ((aZ.map jf).map D.str)]) cI (by decide +kernel) (by rw [cQ];omega)
 refine bK (σ':=[some (.ref n)]) (S':=S++[.lst ((aZ.map jf).map D.str)]) ?_ (by simp) rfl
 wtm_at "?b"
 unfold HX
 exact aJ (dU (QW (aL lc aW) j)) cY
end MX.P
end
section
local macro_rules | `(tactic| wtm_at "?d") => `(tactic| (with_reducible assumption))
namespace MX.P
open PySem L2 MX
theorem Qo (a:Str):(⟨#[]⟩:Str)++a=a:=by
 obtain ⟨c⟩:=a
 show (⟨#[]++c⟩:Str)=⟨c⟩
 simp
theorem Qw (a:Str):a++(⟨#[]⟩:Str)=a:=by
 obtain ⟨c⟩:=a
 show (⟨c++#[]⟩:Str)=⟨c⟩
 simp
theorem DY (sep:Str):Str.join sep []=⟨#[]⟩:=rfl
theorem Oh:("" : Str)=⟨#[]⟩:=by decide +kernel
theorem ziX (l:List Str) (a:Str):Str.join "" (l++[a])=Str.join "" l++a:=by
 rw [PyProof.Rows.FinIter.join_snoc]
 split
 ·rename_i h
  subst h
  rw [DY,Qo]
 ·rw [Oh,Qw]
theorem QH (a b:Str):(a++b).length=a.length+b.length:=by
 obtain ⟨c⟩:=a
 obtain ⟨e⟩:=b
 show (c++e).size=c.size+e.size
 simp
theorem Ql {aZ:List (List Int)} {n:Nat} {S:So} (g:fC S n aZ) (hl:aZ.length<=10) (hr:∀ zs∈aZ,zs.length<=10):Ek [.ref n] S=some (.str (txt aZ),S):=by
 obtain ⟨rs,h1,h2,h3⟩:=g
 have a1:Kr [some (.ref n),none,none,none,none] S=some (.nx,[some (.ref n),some (.str ""),none,none,none],S):=by
  unfold Kr
  exact cD aY (bT rfl)
 have a2:Ku [some (.ref n),some (.str ""),none,none,none] S=some (.nx,[some (.ref n),some (.str ""),some (.str bJ),none,none],S):=by
  unfold Ku
  exact cD aY (bT rfl)
 have inner:∀ (zs:List Int) (r:Nat) (T:Str) (k:D) (b:Option D),S[r]?=some (.lst (iL zs))->zs.length<=10->T.length<=200 ->
  ∃ b',iQ (cO (.lst r)) (aG 4) zc zs.length 0 [some (.ref n),some (.str T),some (.str bJ),some k,b] S=some (.nx,[some (.ref n),some (.str (T++jf zs)),some (.str bJ),some k,b'],S):=λzs r T k b hr0 hz hT=>by
  have inv:=uw (nx:=cO (.lst r)) (g:=aG 4) (f:=zc) (xs:=iL zs)
   (λj σ S'=>∃ b',σ=[some (.ref n),some (.str (T++Str.join "" ((zs.take j).map sg))),some (.str bJ),some k,b']/\S'=S)
   (λj σ S' ⟨b',_,e⟩=>by subst e;unfold cO;simp only;rw [hr0])
   (λj dd σ S' hj ⟨b',e1,e2⟩=>?_) zs.length 0 [some (.ref n),some (.str T),some (.str bJ),some k,b] S ⟨b,by rw [List.take_zero,List.map_nil,DY,Qw],rfl⟩ (by simp)
  ·obtain ⟨σ',S',e,b',rfl,rfl⟩:=inv
   rw [cQ,lu] at e
   exact ⟨b',e⟩
  ·subst e1 e2
   have hj':j<zs.length:=by have:=(dN.mp hj).1;simpa using this
   have hd':dd = .int zs[j]:=by rw [eV,dO hj'] at hj;exact (Option.some.inj hj).symm
   subst hd'
   have tk:zs.take (j+1)=zs.take j++[zs[j]]:=by rw [List.take_add_one,dO hj'];rfl
   have step:Str.join "" ((zs.take (j+1)).map sg)=Str.join "" ((zs.take j).map sg)++sg zs[j]:=by rw [tk,oF];exact ziX _ _
   have bl:(T++Str.join "" ((zs.take j).map sg)).length<=300:=by
    have:=Ra (zs.take j)
    have h4:(zs.take j).length<=10:=by simp;omega
    rw [QH]
    unfold jf at this
    omega
   generalize hU:T++Str.join "" ((zs.take j).map sg)=U at *
   have hU2:T++Str.join "" ((zs.take (j+1)).map sg)=U++sg zs[j]:=by rw [step,<-Str.append_assoc,hU]
   rw [hU2]
   have t:bN (eB (bf .Eq) (aj 4) (eB (aH .Sub) (eC (.int 0)) (eC (.int 1)))) [some (.ref n),some (.str U),some (.str bJ),some k,some (.int zs[j])] S'=some (decide (zs[j]=0 - 1),S'):=eY (aV (aC rfl) (aV aY aY yx) yp)
   have b1:zc [some (.ref n),some (.str U),some (.str bJ),some k,some (.int zs[j])] S'=some (.nx,[some (.ref n),some (.str (U++sg zs[j])),some (.str bJ),some k,some (.int zs[j])],S'):=by
    unfold zc Um
    by_cases hm:zs[j]=0 - 1
    ·rw [lG hm] at t
     have hs:sg zs[j] = "." := by unfold sg;rw [if_pos (by omega)]
     rw [hs]
     exact aJ (eF t (fV rfl (aJ (cD (aV (aC rfl) aY (Hs (by rw [Qg];omega))) (bT rfl)) (aR dJ)))) (aR dJ)
    ·rw [jP hm] at t
     have hs:sg zs[j]=⟨#[bJ.cps.toList.getD (zs[j].fmod 36).toNat 0]⟩:=by unfold sg;rw [if_neg (by omega)]
     have hi:zs[j] - zs[j].fdiv 36*36=zs[j].fmod 36:=by rw [Int.fmod_def,Int.mul_comm]
     have e2:eB aM (aj 2) (eB (aH .Sub) (aj 4) (eB (aH .Mult) (eB (aH .FloorDiv) (aj 4) (eC (.int 36))) (eC (.int 36)))) [some (.ref n),some (.str U),some (.str bJ),some k,some (.int zs[j])] S'=some (.str (sg zs[j]),S'):=by
      rw [hs]
      refine aV (aC rfl) (aV (aC rfl) (aV (aV (aC rfl) aY (kE (by decide))) aY (Cw (HF (by decide)))) yx) ?_
      rw [hi]
      exact O2 (by rw [Dq];decide) (Bk zs[j])
     exact aJ (eF t (fH rfl (aJ (cD (aV (aC rfl) e2 (Hs (by rw [Pj];omega))) (bT rfl)) (aR dJ)))) (aR dJ)
   exact ⟨_,_,.nx,_,_,bT rfl,b1,.inl rfl,_,rfl,rfl⟩
 have hlen:gm [.ref n] S=some (.int aZ.length,S):=by rw [oZ h1,cQ,h2]
 have inv:=uw (nx:=cO (.fix (cU 0 aZ.length))) (g:=aG 3) (f:=Fd) (xs:=cU 0 aZ.length)
  (λk σ S'=>∃ a b,σ=[some (.ref n),some (.str (txt (aZ.take k))),some (.str bJ),a,b]/\S'=S)
  (λk σ S' _=>rfl)
  (λk dd σ S' hk ⟨a,b,e1,e2⟩=>?_) aZ.length 0 [some (.ref n),some (.str ""),some (.str bJ),none,none] S ⟨none,none,by rw [List.take_zero,Oh];rfl,rfl⟩ (by simp [cU])
 ·obtain ⟨σ',S',e,a,b,rfl,rfl⟩:=inv
  rw [show (cU 0 aZ.length).length=aZ.length by simp [cU],lu] at e
  have a3:Kv [some (.ref n),some (.str ""),some (.str bJ),none,none] S'=some (.nx,[some (.ref n),some (.str (txt aZ)),some (.str bJ),a,b],S'):=by
   unfold Kv
   refine mC (n:=aZ.length) (rJ (j:=(aZ.length:Int)) (aL (bC (aL (aC rfl) aW) hlen) aW) (by omega)) ?_ ?_
   ·show some (cU 0 (aZ.length:Int).toNat).length=_
    simp [cU]
   ·rw [Int.toNat_natCast];exact e
  have a4:Kw [some (.ref n),some (.str (txt aZ)),some (.str bJ),a,b] S'=some (.rt (.str (txt aZ)),[some (.ref n),some (.str (txt aZ)),some (.str bJ),a,b],S'):=by
   unfold Kw
   exact dU (aC rfl)
  refine bK (σ':=[some (.ref n),some (.str (txt aZ)),some (.str bJ),a,b]) (S':=S') ?_ lu rfl
  wtm_at "?b"
  unfold JC
  exact aJ a1 (aR (aJ a2 (aR (aJ a3 (aR (aJ a4 cY))))))
 ·subst e1 e2
  have hk':k<aZ.length:=by have:=(dN.mp hk).1;simpa [cU] using this
  have hd':dd = .int (k:Nat):=by
   rw [xj,if_pos hk'] at hk
   have:=(Option.some.inj hk).symm
   rw [this]
   congr 1
   omega
  subst hd'
  have hzk:=hr _ (List.getElem_mem hk')
  obtain ⟨r,r1,r2⟩:=h3 k aZ[k] (dO hk')
  have tk:aZ.take (k+1)=aZ.take k++[aZ[k]]:=by rw [List.take_add_one,dO hk'];rfl
  have tl:(txt (aZ.take k)).length<=110:=by
   have:=zmt (aZ:=aZ.take k) λzs h=>hr zs (List.mem_of_mem_take h)
   have h4:(aZ.take k).length<=10:=by simp;omega
   omega
  have t:bN (eB (bf .Gt) (aj 3) (eC (.int 0))) [some (.ref n),some (.str (txt (aZ.take k))),some (.str bJ),some (.int (k:Nat)),b] S'=some (decide ((0:Int)<(k:Nat)),S'):=eY (aV (aC rfl) aY G3)
  have hix:fj (rs.map D.ref) ((k:Nat):Int)=some (.ref r):=yC (by rw [eV,r1];rfl)
  obtain ⟨T,hT,hT2,e1⟩:∃ T:Str,T.length<=200/\T++jf aZ[k]=txt (aZ.take (k+1))/\KZ [some (.ref n),some (.str (txt (aZ.take k))),some (.str bJ),some (.int (k:Nat)),b] S'=some (.nx,[some (.ref n),some (.str T),some (.str bJ),some (.int (k:Nat)),b],S'):=by
   unfold KZ
   by_cases h0:k=0
   ·subst h0
    rw [jP (by decide)] at t
    refine ⟨txt (aZ.take 0),by omega,?_,eF t (fH rfl dJ)⟩
    rw [tk]
    unfold txt
    rw [List.take_zero,List.map_nil,DY,Qo]
    rfl
   ·rw [lG (by omega)] at t
    refine ⟨txt (aZ.take k) ++ "\n",by rw [QH,Ho];omega,?_,eF t (fV rfl (aJ (cD (aV (aC rfl) aY (Hs (by rw [Ho];omega))) (bT rfl)) (aR dJ)))⟩
    rw [tk]
    unfold txt
    rw [oF]
    show _=Str.join "\n" ((aZ.take k).map jf++[jf aZ[k]])
    rw [PyProof.Rows.FinIter.join_snoc,if_neg]
    intro e
    have:=congrArg List.length e
    rw [cQ,qT,vU] at this
    omega
  obtain ⟨b',e2⟩:=inner aZ[k] r T (.int (k:Nat)) b r2 hzk hT
  have b2:Fd [some (.ref n),some (.str (txt (aZ.take k))),some (.str bJ),some (.int (k:Nat)),b] S'=some (.nx,[some (.ref n),some (.str (txt (aZ.take (k+1)))),some (.str bJ),some (.int (k:Nat)),b'],S'):=by
   unfold Fd
   refine aJ e1 (aR (aJ (fl := .nx) ?_ (aR dJ)))
   unfold Ui
   rw [<-hT2]
   refine mC (j := .lst r) (S1:=S') (n:=aZ[k].length) (lJ (aV (aC rfl) (aC rfl) (ug h1 hix)) r2) ?_ e2
   unfold pJ;simp only;rw [r2];simp
  exact ⟨_,_,.nx,_,_,bT rfl,b2,.inl rfl,_,_,rfl,rfl⟩
end MX.P
end
section
local macro_rules | `(tactic| wtm_at "?d") => `(tactic| (with_reducible assumption))
namespace MX.P
open PySem L2 MX
theorem O8 {a b:Str} (ha:PyData.strOk a=true) (hb:PyData.strOk b=true):PyData.strOk (a++b)=true:=by
 obtain ⟨c⟩:=a
 obtain ⟨e⟩:=b
 show (c++e).all _=true
 rw [Array.all_append,cR]
 exact ⟨ha,hb⟩
theorem Xi:PyData.strOk ⟨#[]⟩=true:=by decide +kernel
theorem HJ {sep:Str} (hs:PyData.strOk sep=true):∀ (n:Nat) (l:List Str),l.length=n->(∀ s∈l,PyData.strOk s=true)->PyData.strOk (Str.join sep l)=true
 | 0,l,e,_=>by
  rw [List.eq_nil_of_length_eq_zero e,DY];exact Xi
 | n+1,l,e,h=>by
  have hne:l≠[]:=by intro q;subst q;cases e
  have hd:=List.dropLast_concat_getLast hne
  have ha:=h (l.getLast hne) (List.getLast_mem hne)
  have hl:=HJ hs n l.dropLast (by rw [List.length_dropLast];omega) λs hs=>h s (List.dropLast_subset l hs)
  rw [<-hd,PyProof.Rows.FinIter.join_snoc]
  split
  ·exact ha
  ·exact O8 (O8 hl hs) ha
theorem ZW:∀ c∈bJ.cps.toList,c<0x110000:=by
 have:bJ.cps.toList.all (·<0x110000)=true:=by decide +kernel
 intro c hc
 have:=List.all_eq_true.mp this c hc
 simpa using this
theorem Xh:PyData.strOk "." = true:=by decide +kernel
theorem V7 (z:Int):PyData.strOk (sg z)=true:=by
 unfold sg
 split
 ·exact Xh
 ·have h1:=lq z (show (0:Int)<36 by decide)
  have h2:=lg z (show (0:Int)<36 by decide)
  have hi:(z.fmod 36).toNat<bJ.cps.toList.length:=by rw [Ry];omega
  have hm:bJ.cps.toList.getD (z.fmod 36).toNat 0∈bJ.cps.toList:=by
   rw [List.getD_eq_getElem?_getD,dO hi]
   exact List.getElem_mem hi
  have:=ZW _ hm
  show Array.all #[_] _=true
  simpa using this
theorem O9 (aZ:List (List Int)):PyData.strOk (txt aZ)=true:=by
 unfold txt
 refine HJ (by decide +kernel) _ _ rfl λs hs=>?_
 obtain ⟨zs,_,rfl⟩:=List.mem_map.mp hs
 unfold jf
 refine HJ (by decide +kernel) _ _ rfl λs hs=>?_
 obtain ⟨z,_,rfl⟩:=List.mem_map.mp hs
 exact V7 z
theorem QX {x:Str} {S:So} (h:PyData.strOk x=true):bf .Eq (.str x) (.str x) S=some (.bl true,S):=by
 classical
 have:=wC (S:=S) (x := .str x) (y := .str x) rfl 0 h h (by decide)
 rw [this]
 simp
abbrev zP (zs:List Int):PyData := .list (zs.map λz=>ju 0 (.int z))
theorem Q8 {S:So} {n:Nat} {aZ:List (List Int)} (g:fC S n aZ):cZ S 3 (.ref n)=some (.list (aZ.map zP)):=by
 obtain ⟨rs,h1,h2,h3⟩:=g
 have e:∀ (r:Nat) (zs:List Int),S[r]?=some (.lst (iL zs))->cZ S 2 (.ref r)=some (zP zs):=λr zs h=>by
  unfold cZ
  rw [h]
  simp only
  rw [wV (g:=ju 0) λd hd=>wU (n:=0) (by obtain ⟨z,_,rfl⟩:=List.mem_map.mp hd;rfl)]
  simp only [lW,zP,List.map_map]
  rfl
 have e2:lE (cZ S 2) (rs.map D.ref)=some ((rs.map D.ref).map λd=>(cZ S 2 d).getD .none):=wV λd hd=>by
  obtain ⟨r,hr,rfl⟩:=List.mem_map.mp hd
  obtain ⟨i,hi,rfl⟩:=List.mem_iff_getElem.mp hr
  obtain ⟨r',a,b⟩:=h3 i aZ[i] (dO (by omega))
  rw [dO hi] at a
  cases a
  rw [e _ _ b];rfl
 unfold cZ
 rw [h1]
 simp only
 rw [e2,lW,List.map_map]
 congr 2
 apply List.ext_getElem?
 intro i
 rw [eV,eV]
 by_cases hi:i<aZ.length
 ·obtain ⟨r',a,b⟩:=h3 i aZ[i] (dO hi)
  rw [a,dO hi]
  simp only [lW,Function.comp]
  rw [e _ _ b];rfl
 ·rw [iK (by omega),iK (by omega)];rfl
theorem Ti {ps:List PyData} (h:∀ p∈ps,PyData.eqv p p=true):PyData.eqvAll ps ps=true:=by
 induction ps with
 | nil=>simp [PyData.eqvAll]
 | cons p r ih =>
  simp only [PyData.eqvAll,cR]
  exact ⟨h p fL,ih λq hq=>h q (cM _ hq)⟩
theorem G4 (zs:List Int):PyData.eqv (zP zs) (zP zs)=true/\PyData.canLay0 (zP zs)=true/\PyData.depth (zP zs)<=1:=by
 refine ⟨?_,?_,?_⟩
 ·show PyData.eqvAll _ _=true
  refine Ti λp hp=>?_
  obtain ⟨z,_,rfl⟩:=List.mem_map.mp hp
  exact (Ie (n:=0) rfl rfl).mpr rfl
 ·show PyData.canLayAll0 _=true
  refine Cj λp hp=>?_
  obtain ⟨z,_,rfl⟩:=List.mem_map.mp hp
  rfl
 ·show PyData.depthAll _+1<=1
  refine Nat.succ_le_succ (Ck λp hp=>?_)
  obtain ⟨z,_,rfl⟩:=List.mem_map.mp hp
  exact bR _
theorem QV {S:So} {n m:Nat} {aZ:List (List Int)} (g1:fC S n aZ) (g2:fC S m aZ):jx S (.ref n) (.ref m)=some true:=by
 unfold jx
 rw [ux (Q8 g1) (by omega),ux (Q8 g2) (by omega)]
 simp only [cg]
 have sh:SeqAt.shaped (.list (aZ.map zP))=true:=by
  unfold SeqAt.shaped
  rw [cR]
  constructor
  ·show PyData.canLayAll0 _=true
   refine Cj λp hp=>?_
   obtain ⟨d,hd,rfl⟩:=List.mem_map.mp hp
   exact (G4 d).2.1
  ·refine decide_eq_true ?_
   show PyData.depthAll _+1<=64
   have:PyData.depthAll (aZ.map zP)<=1:=Ck λp hp=>by
    obtain ⟨d,hd,rfl⟩:=List.mem_map.mp hp
    exact (G4 d).2.2
   omega
 rw [if_pos ⟨sh,sh⟩]
 congr 1
 show PyData.eqvAll _ _=true
 refine Ti λp hp=>?_
 obtain ⟨d,hd,rfl⟩:=List.mem_map.mp hp
 exact (G4 d).1
theorem V0 {S:So} {n m:Nat} {aZ:List (List Int)} (g1:fC S n aZ) (g2:fC S m aZ):bf .Eq (.ref n) (.ref m) S=some (.bl true,S):=by
 show (jx S (.ref n) (.ref m)).map _=_
 rw [QV g1 g2];rfl
theorem Xw {S:So} {n m:Nat} {aZ:List (List Int)} (g1:fC S n aZ) (g2:fC S m aZ):bf .NotEq (.ref n) (.ref m) S=some (.bl false,S):=by
 show (jx S (.ref n) (.ref m)).map _=_
 rw [QV g1 g2];rfl
theorem XC:nR "list" "list" = some true:=by kernel_rfl
theorem Tt {n:Nat} {xs:List D} {S:So} (h:S[n]?=some (.lst xs)):qX [.ref n,.ty "list"] S=some (.bl true,S):=by
 have:xJ (.ref n) S=some "list" := by unfold xJ;simp only;rw [h]
 show ((xJ (.ref n) S).bind λt=>(nR t "list").map λb=>(D.bl b,S))=_
 rw [this]
 simp only [cg,XC,lW]
theorem Z9 {S:So} {n:Nat} {aZ:List (List Int)} (g:fC S n aZ) (hl:aZ.length<=10) {σ:Sg} {k:Nat} (hσ:aj k σ S=some (.ref n,S)) :
 ∃ bs:List Bool,eN oK (ak (cX (dz (aj k)) (aG 0) (cF) (eN qX (ak (aj 0) (ak (eC (.ty "list")) (aq)))) [none]) (aq)) σ S=some (.bl true,S++[.lst (bs.map D.bl)]):=by
 obtain ⟨rs,h1,h2,h3⟩:=g
 refine ⟨rs.map λ_=>true,?_⟩
 rw [List.map_map]
 show _=some (D.bl true,S++[.lst (rs.map λ_=>D.bl true)])
 have lc:=wR (σ:=σ) (S:=S) (src:=[none]) (rest:=[]) (fi:=dz (aj k)) (fe:=eN qX (ak (aj 0) (ak (eC (.ty "list")) (aq)))) rs D.ref (λ_ => .bl true) (lJ hσ h1) h1 (by omega) rfl (λr hr=>by
  obtain ⟨i,hi,rfl⟩:=List.mem_iff_getElem.mp hr
  obtain ⟨r',a,b⟩:=h3 i aZ[i] (dO (by omega))
  rw [dO hi] at a
  cases a
  exact bC (aL (aC rfl) (aL aY aW)) (Tt b))
 have al:=VR (S:=S++[.lst (rs.map λ_=>D.bl true)]) (n:=S.length) (bs:=rs.map λ_=>true) (by rw [cI,List.map_map];rfl)
 have ht:(rs.map λ_=>true).all id=true:=by simp
 rw [ht] at al
 exact bC (aL lc aW) al
def jk (ns:List Int) (k:Int):List Int:=(List.range ((((jY (gJ ns k) k).fdiv 201).fmod 5).toNat)).map λx=>(jY (gJ ns k) (k+(x:Nat))).fmod 201 - 1
theorem zm4 (ns:List Int) (k:Int):(jk ns k).length<=10:=by
 unfold jk
 rw [cQ,List.length_range]
 have:=lg ((jY (gJ ns k) k).fdiv 201) (show (0:Int)<5 by decide)
 omega
theorem Yw {ns:List Int} (hn:ns.length<=63) (k:Int) {S:So} (hS:WF S) (hF:jV ns S):Du [.ref 0,.int k] S=some (.ref S.length,S++[.lst (iL (jk ns k))]):=by
 have c1:=o4 hn k hF
 unfold jk
 generalize gJ ns k=ce at *
 have h1:=lq ((jY ce k).fdiv 201) (show (0:Int)<5 by decide)
 have h2:=lg ((jY ce k).fdiv 201) (show (0:Int)<5 by decide)
 have d0:=sp_drawn ce k S
 generalize hw:((jY ce k).fdiv 201).fmod 5=w at *
 have step:∀ x:Nat,x<w.toNat->eB (aH .Sub) (eB (aH .Mod) (eN (aO 2 qe) (ak (aj 1) (ak (eB (aH .Add) (aj 2) (aj 0)) (aq)))) (eC (.int 201))) (eC (.int 1)) (some (.int (x:Nat))::[some (.int ce),some (.int k)]) S=some (.int ((jY ce (k+(x:Nat))).fmod 201 - 1),S):=λx hx =>
  aV (aV (bC (aL (aC rfl) (aL (aV (aC rfl) (aC rfl) Cu) aW)) (cJ rfl (sp_drawn ce (k+(x:Nat)) S))) aY (m8 (by decide))) aY yx
 have lc:=m7 (σ:=[some (.ref 0),some (.int k),some (.int ce)]) (S:=S) (fi:=gn (ak (eB (aH .Mod) (eB (aH .FloorDiv) (eN (aO 2 qe) (ak (aj 2) (ak (aj 1) (aq)))) (eC (.int 201))) (eC (.int 5))) (aq))) (g:=aG 0) (t:=cF) (src:=[none,some 2,some 1]) (n:=w.toNat) (rJ (j:=w) (by rw [<-hw];exact aL (aV (aV (bC (aL (aC rfl) (aL (aC rfl) aW)) (cJ rfl d0)) aY (kE (by decide))) aY (m8 (by decide))) aW) (by omega)) (by show some (cU 0 w.toNat).length=_;simp [cU]) (by rw [sizeLine_eq];omega) rfl (Hq (m:=w.toNat) (rest:=[some (.int ce),some (.int k)]) (λx => .int ((jY ce (k+(x:Nat))).fmod 201 - 1)) step)
 have hrow:iL ((List.range w.toNat).map λx=>(jY ce (k+(x:Nat))).fmod 201 - 1)=(List.range w.toNat).map λ(x:Nat)=>D.int ((jY ce (k+(x:Nat))).fmod 201 - 1):=by
  simp only [iL,List.map_map];rfl
 rw [hrow]
 refine rM (σ':=[some (.ref 0),some (.int k),some (.int ce)]) ?_ ?_ (by simp) (by simp [D.lo]) (hS.snoc ?_)
 ·wtm_at "?b"
  unfold Jh
  exact aJ (cD (bC (aL (aC rfl) (aL (aC rfl) aW)) (cJ rfl c1)) (bT rfl)) (aR (aJ (dU lc) cY))
 ·intro h;simp [D.lo] at h
 ·rw [<-hrow];exact Oi _ _
theorem R7 {nx:Nat->So->Option (Option D)} {fe:EF} {S:So} {rest:Sg} (f:Nat->List Int) (e:Nat->D) {h:Nat} (hnx:∀ y:Nat,y<h->nx y (S++b8 f y)=some (some (e y))) (hend:nx h (S++b8 f h)=some none)
 (hstep:∀ y:Nat,y<h->fe (some (e y)::rest) (S++b8 f y)=some (.ref (S.length+y),S++b8 f (y+1))) :
 ∀ (m i:Nat) (v:Option D),i+m=h->iw nx (aG 0) cF fe m i (v::rest) (S++b8 f i) (dY S.length i)=some (dY S.length h,S++b8 f h)
 | 0,i,v,q=>by
  have:i=h:=by omega
  subst this
  exact wD hend
 | m+1,i,v,q=>rC (acc':=dY S.length (i+1)) (hnx i (by omega)) (bT rfl) rK (hstep i (by omega)) (Sx _ _).symm (R7 f e hnx hend hstep m (i+1) _ (by omega))
theorem zkw {S:So} {n h:Nat} {f:Nat->List Int} (g:fC S n ((List.range h).map f)) (hh:h<=10) {σ:Sg} {k:Nat} (hσ:aj k σ S=some (.ref n,S)) :
 cX (dz (aj k)) (aG 0) (cF) (eN lF (ak (aj 0) (aq))) [none] σ S=some (.ref (S.length+h),S++b8 f h++[.lst (dY S.length h)]):=by
 obtain ⟨rs,h1,h2,h3⟩:=g
 rw [cQ,List.length_range] at h2
 have old:∀ {G:So} {n:Nat} {o:O},S[n]?=some o->(S++G)[n]?=some o:=λ{G n o} e=>by
  rw [jW (dN.mp e).1];exact e
 have UL:∀ (i:Nat) (G:So),cO (.lst n) i (S++G)=some ((rs.map D.ref)[i]?):=λi G=>by
  unfold cO;simp only;rw [old h1]
 have key:=R7 (nx:=cO (.lst n)) (fe:=eN lF (ak (aj 0) (aq))) (S:=S) (rest:=[]) f (λy=>(rs.map D.ref).getD y .non) (h:=h)
  (λy hy=>by rw [UL,List.getD_eq_getElem?_getD,dO (by simp;omega)];rfl)
  (by rw [UL,iK (by simp;omega)])
  (λy hy=>by
   obtain ⟨r,a,b⟩:=h3 y (f y) (by rw [eV,List.getElem?_range hy];rfl)
   have:(rs.map D.ref).getD y .non = .ref r:=by rw [List.getD_eq_getElem?_getD,eV,a];rfl
   rw [this,yN,<-fD,show S.length+y=(S++b8 f y).length by rw [gQ,jQ]]
   exact bC (aL (aC rfl) aW) (Jf (old b)))
  h 0 none (by omega)
 rw [show S++b8 f 0=S by simp [b8]] at key
 have:=m7 (σ:=σ) (S:=S) (fi:=dz (aj k)) (g:=aG 0) (t:=cF) (fe:=eN lF (ak (aj 0) (aq))) (src:=[none]) (n:=h) (lJ hσ h1) (by unfold pJ;simp only;rw [h1];simp [h2]) (by rw [sizeLine_eq];omega) rfl key
 rw [this,gQ,jQ]
theorem yX {f g:Nat->List Int} {h:Nat} (e:∀ y,y<h->f y=g y):b8 f h=b8 g h:=by
 unfold b8
 exact List.map_congr_left λy hy=>by rw [e y (List.mem_range.mp hy)]
def gZ (f:Nat->List Int) (y:Nat) (zs:List Int):Nat->List Int:=λi=>if i=y then zs else f i
theorem Qq (f:Nat->List Int) (y:Nat) (zs:List Int):gZ f y zs y=zs:=by unfold gZ;rw [if_pos rfl]
theorem zmV {S:So} {f:Nat->List Int} {h y:Nat} {L:O} {zs:List Int} (hy:y<h):(S++b8 f h++[L]).set (S.length+y) (.lst (iL zs))=S++b8 (gZ f y zs) h++[L]:=by
 rw [fD,List.set_append_right _ _ (by omega),Nat.add_sub_cancel_left,List.set_append_left _ _ (by rw [jQ];exact hy),fD]
 congr 2
 apply List.ext_getElem?
 intro i
 rw [List.getElem?_set,jQ]
 unfold b8
 rw [eV,eV]
 by_cases hi:i<h
 ·rw [List.getElem?_range hi]
  simp only [lW]
  by_cases q:y=i
  ·subst q
   rw [if_pos rfl,if_pos hy,Qq]
  ·rw [if_neg q]
   unfold gZ
   rw [if_neg (Ne.symm q)]
 ·rw [iK (by simp;omega)]
  rw [if_neg (by omega)];rfl
theorem WR {S:So} {f:Nat->List Int} {h y:Nat} {L:O} (hy:y<h):(S++b8 f h++[L])[S.length+y]?=some (.lst (iL (f y))):=by
 rw [fD,tW (by omega),Nat.add_sub_cancel_left,jW (by rw [jQ];exact hy)]
 unfold b8
 rw [eV,List.getElem?_range hy];rfl
theorem zm5 {S:So} {f:Nat->List Int} {h:Nat} {L:O}:(S++b8 f h++[L])[S.length+h]?=some L:=by
 rw [show S.length+h=(S++b8 f h).length by rw [gQ,jQ]];exact cI
theorem Il {S:So} (hS:WF S) (f:Nat->List Int) (h:Nat):WF (S++b8 f h++[.lst (dY S.length h)]):=by
 refine (yF hS _ _).snoc ?_
 show cA _ _=true
 rw [ji]
 intro x hx
 obtain ⟨i,hi,rfl⟩:=List.mem_map.mp hx
 have:=List.mem_range.mp hi
 simp [D.lo,jQ]
 omega
end MX.P
end
section
local macro_rules | `(tactic| wtm_at "?d") => `(tactic| (with_reducible assumption))
namespace MX.K20
open PySem PySem.Spec L2 MX MX.P
section
variable {K:Nat} {d:Pt} {shs:List Sh} {t:Option Tr} {rr:Pt->Option gY} (se:qO K d shs t rr) (hK:300<=K)
variable {corner right down:Pt} {wide high:Nat} (hc:aK 150 corner) (hr:aK 150 right) (hd:aK 150 down) (hw:wide<5) (hh:high<5)
variable {S:So} {c:Nat} (hS:WF S) (sc:fB S c shs t)
abbrev jL (S:So) (f:Nat->List Int) (h:Nat):So:=S++b8 f h++[.lst (dY S.length h)]
abbrev o9 (q1 q2 q4 q5 q6 q7:D) (c n:Nat) (fr:D) (wide high:Nat) (y x:Option D):Sg:=[some (.ref 0),some q1,some q2,some (.ref c),some q4,some q5,some q6,some q7,some fr,some (.int (wide:Nat)),some (.int (high:Nat)),y,some (.ref n),x,none,none,none]
include se hK hc hr hd hw hh hS sc in
theorem zlH {q1 q2 q4 q5 q6 q7:D} (f:Nat->List Int) {y:Nat} (hy:y<high) (hf:f y=[]) (x:Option D) :
 ∃ x',Ew (o9 q1 q2 q4 q5 q6 q7 c (S.length+high) (gA corner right down d) wide high (some (.int (y:Nat))) x) (jL S f high)=some (.nx,o9 q1 q2 q4 q5 q6 q7 c (S.length+high) (gA corner right down d) wide high (some (.int (y:Nat))) x',jL S (gZ f y (d9 rr corner right down wide y)) high):=by
 generalize hrow:d9 rr corner right down wide y=row
 have rl:row.length=wide:=by rw [<-hrow];simp [d9]
 have inv:=uw (nx:=cO (.fix (cU 0 wide))) (g:=aG 13) (f:=Es) (xs:=cU 0 wide)
  (λj σ S'=>∃ x',σ=o9 q1 q2 q4 q5 q6 q7 c (S.length+high) (gA corner right down d) wide high (some (.int (y:Nat))) x'/\S'=jL S (gZ f y (row.take j)) high)
  (λj σ S' _=>rfl)
  (λj dd σ S' hj ⟨x',e1,e2⟩=>?_) wide 0 (o9 q1 q2 q4 q5 q6 q7 c (S.length+high) (gA corner right down d) wide high (some (.int (y:Nat))) x) (jL S f high) ⟨x,rfl,by
   rw [List.take_zero]
   unfold jL
   rw [yX (f:=f) (g:=gZ f y []) λi _=>by unfold gZ;split<;>simp_all]⟩ (by simp [cU])
 ·obtain ⟨σ',S',e,x',rfl,rfl⟩:=inv
  rw [show (cU 0 wide).length=row.length by simp [cU,rl],lu] at e
  refine ⟨x',?_⟩
  unfold Ew
  refine aJ (fl := .nx) ?_ (aR dJ)
  unfold Ud
  refine mC (n:=wide) (rJ (j:=(wide:Int)) (aL (aC rfl) aW) (by omega)) ?_ ?_
  ·show some (cU 0 (wide:Int).toNat).length=_
   simp [cU]
  ·rw [Int.toNat_natCast];exact e
 ·subst e1 e2
  have hj':j<wide:=by have:=(dN.mp hj).1;simpa [cU] using this
  have hd':dd = .int (j:Nat):=by
   rw [xj,if_pos hj'] at hj
   have:=(Option.some.inj hj).symm
   rw [this]
   congr 1
   omega
  subst hd'
  have ls:=zk3 se hc hr hd hK (show j<5 by omega) (show y<5 by omega) (Il hS (gZ f y (row.take j)) high) ((sc.app _).app _)
  have tk:row.take (j+1)=row.take j++[lX (rr (gR (gR corner down (y:Nat)) right (j:Nat)))]:=by
   rw [List.take_add_one,<-hrow]
   congr 1
   unfold d9
   rw [eV,List.getElem?_range hj'];rfl
  have ra:=WR (S:=S) (f:=gZ f y (row.take j)) (h:=high) (y:=y) (L := .lst (dY S.length high)) hy
  rw [Qq] at ra
  have hix:fj (dY S.length high) ((y:Nat):Int)=some (.ref (S.length+y)):=yC (by unfold dY;rw [eV,List.getElem?_range hy];rfl)
  have b1:Es (o9 q1 q2 q4 q5 q6 q7 c (S.length+high) (gA corner right down d) wide high (some (.int (y:Nat))) (some (.int (j:Nat)))) (jL S (gZ f y (row.take j)) high)=some (.nx,o9 q1 q2 q4 q5 q6 q7 c (S.length+high) (gA corner right down d) wide high (some (.int (y:Nat))) (some (.int (j:Nat))),jL S (gZ f y (row.take (j+1))) high):=by
   unfold Es Ul
   refine aJ (uo (yo (aV (aC rfl) (aC rfl) (ug zm5 hix)) ra (aL (bC (aL (aC rfl) (aL (aC rfl) (aL (aC rfl) (aL (aC rfl) aW)))) (cJ rfl ls)) aW) (Ir ra ?_ ?_))) (aR dJ)
   ·rw [sizeLine_eq]
    have:(row.take j).length<=wide:=by rw [qT,rl];omega
    rw [cQ];omega
   ·have e:=zmV (S:=S) (f:=gZ f y (row.take j)) (h:=high) (y:=y) (L := .lst (dY S.length high)) (zs:=row.take (j+1)) hy
    rw [yX (f:=gZ (gZ f y (row.take j)) y (row.take (j+1))) (g:=gZ f y (row.take (j+1))) λi _=>by unfold gZ;split<;>rfl] at e
    show List.set (S++b8 (gZ f y (row.take j)) high++[O.lst (dY S.length high)]) _ _=S++b8 (gZ f y (row.take (j+1))) high++[O.lst (dY S.length high)]
    rw [<-e,tk]
    simp only [iL,oF,iM,List.map_nil]
  exact ⟨_,_,.nx,_,_,bT rfl,b1,.inl rfl,_,rfl,rfl⟩
include se hK hc hr hd hw hh hS sc in
theorem zlv {q1 q2 q4 q5 q6 q7:D} :
 ∃ y x,Ju (o9 q1 q2 q4 q5 q6 q7 c (S.length+high) (gA corner right down d) wide high none none) (jL S (λ_=>[]) high)=some (.nx,o9 q1 q2 q4 q5 q6 q7 c (S.length+high) (gA corner right down d) wide high y x,jL S (d9 rr corner right down wide) high):=by
 have inv:=uw (nx:=cO (.fix (cU 0 high))) (g:=aG 11) (f:=Ew) (xs:=cU 0 high)
  (λj σ S'=>∃ y x,σ=o9 q1 q2 q4 q5 q6 q7 c (S.length+high) (gA corner right down d) wide high y x/\S'=jL S (λi=>if i<j then d9 rr corner right down wide i else []) high)
  (λj σ S' _=>rfl)
  (λj dd σ S' hj ⟨y',x',e1,e2⟩=>?_) high 0 (o9 q1 q2 q4 q5 q6 q7 c (S.length+high) (gA corner right down d) wide high none none) (jL S (λ_=>[]) high) ⟨none,none,rfl,by
   unfold jL
   rw [yX (f:=λ_=>[]) (g:=λi=>if i<0 then d9 rr corner right down wide i else []) λi _=>by simp]⟩ (by simp [cU])
 ·obtain ⟨σ',S',e,y',x',rfl,rfl⟩:=inv
  rw [show (cU 0 high).length=high by simp [cU]] at e
  refine ⟨y',x',?_⟩
  unfold Ju
  refine mC (n:=high) (rJ (j:=(high:Int)) (aL (aC rfl) aW) (by omega)) ?_ ?_
  ·show some (cU 0 (high:Int).toNat).length=_
   simp [cU]
  ·rw [Int.toNat_natCast,e]
   unfold jL
   rw [yX (f:=λi=>if i<high then d9 rr corner right down wide i else []) (g:=d9 rr corner right down wide) λi hi=>by simp only [if_pos hi]]
 ·subst e1 e2
  have hj':j<high:=by have:=(dN.mp hj).1;simpa [cU] using this
  have hd':dd = .int (j:Nat):=by
   rw [xj,if_pos hj'] at hj
   have:=(Option.some.inj hj).symm
   rw [this]
   congr 1
   omega
  subst hd'
  obtain ⟨x2,e⟩:=zlH se hK hc hr hd hw hh hS sc (q1:=q1) (q2:=q2) (q4:=q4) (q5:=q5) (q6:=q6) (q7:=q7) (λi=>if i<j then d9 rr corner right down wide i else []) hj' (if_neg (by omega)) x'
  refine ⟨_,_,.nx,_,_,bT rfl,e,.inl rfl,_,_,rfl,?_⟩
  unfold jL
  rw [yX (f:=gZ (λi=>if i<j then d9 rr corner right down wide i else []) j (d9 rr corner right down wide j)) (g:=λi=>if i<j+1 then d9 rr corner right down wide i else []) λi hi=>by
   unfold gZ
   by_cases q:i=j
   ·subst q;rw [if_pos rfl,if_pos (by omega)]
   ·rw [if_neg q]
    show (if i<j then _ else _)=_
    by_cases q2:i<j
    ·rw [if_pos q2,if_pos (by omega)]
    ·rw [if_neg q2,if_neg (by omega)]]
end
theorem zlD:∀ ns:List Int,ns.length<=63->∃ σ' fY,Sw (lM 17 [.ref 0]) [.frz (ns.map D.int),.tbl "tree_over"]=some (.rt (.bl true),σ',fY):=by
 classical
 intro ns hn
 have F0:jV ns [.frz (ns.map D.int),.tbl "tree_over"]:=rfl
 have T0:lB "tree_over" [.frz (ns.map D.int),.tbl "tree_over"]=true:=by unfold lB;simp [O.isT]
 have W0:WF [.frz (ns.map D.int),.tbl "tree_over"]:=by
  intro o ho
  rcases List.mem_cons.mp ho with rfl | ho
  ·show cA _ _=true
   rw [ji]
   intro x hx
   obtain ⟨z,_,rfl⟩:=List.mem_map.mp hx
   simp [D.lo]
  ·rw [List.mem_singleton.mp ho];rfl
 generalize hS0:([.frz (ns.map D.int),.tbl "tree_over"]:So)=S0 at *
 have st0:lM 17 [.ref 0]=[some (.ref 0),none,none,none,none,none,none,none,none,none,none,none,none,none,none,none,none]:=rfl
 rw [st0]
 have c0:=o4 hn 0 F0
 generalize hce:gJ ns 0=ce at c0
 have c1:=o4 hn 1 F0
 have d1:=sp_drawn (gJ ns 1) 43 S0
 generalize hmo:jY (gJ ns 1) 43=mo at d1
 have hm1:=lq mo (show (0:Int)<9 by decide)
 have hm2:=lg mo (show (0:Int)<9 by decide)
 have Uw:∀ k:Nat,∃ s:Sh,oG 70 s/\∀ S,jV ns S->wY [.ref 0,.int (k:Nat)] S=some (dM s,S):=λk=>zk1 hn (k:Nat)
 obtain ⟨sh,hsh⟩:∃ sh:Nat->Sh,∀ k:Nat,oG 70 (sh k)/\∀ S,jV ns S->wY [.ref 0,.int (k:Nat)] S=some (dM (sh k),S):=⟨λk=>(Uw k).choose,λk=>(Uw k).choose_spec⟩
 generalize hmm:(mo.fmod 9).toNat=m
 have hm9:m<9:=by omega
 have U5:=m7 (σ:=[some (.ref 0),some (.int ce),some (.int mo),none,none,none,none,none,none,none,none,none,none,none,none,none,none]) (S:=S0) (fi:=gn (ak (eB (aH .Mod) (aj 2) (eC (.int 9))) (aq))) (g:=aG 0) (t:=cF) (src:=[none,some 0]) (n:=m) (rJ (j:=mo.fmod 9) (aL (aV (aC rfl) aY (m8 (by decide))) aW) (by omega)) (by show some (cU 0 (mo.fmod 9).toNat).length=_;rw [hmm];simp [cU]) (by rw [sizeLine_eq];omega) rfl (by rw [hmm];exact Hq (fe:=eN (aO 2 wY) (ak (aj 1) (ak (aj 0) (aq)))) (m:=m) (rest:=[some (.ref 0)]) (λx=>dM (sh x)) (λx hx=>bC (aL (aC rfl) (aL (aC rfl) aW)) (cJ rfl ((hsh x).2 S0 F0))))
 generalize u6:(List.range m).map sh=shs
 have hsl:shs.length=m:=by rw [<-u6];simp
 have hD:(List.range m).map (λx=>dM (sh x))=shs.map dM:=by rw [<-u6,List.map_map];rfl
 rw [hD] at U5
 have ok1:∀ s∈shs,oG 500 s:=λs hs=>by
  rw [<-u6] at hs
  obtain ⟨k,_,rfl⟩:=List.mem_map.mp hs
  exact ⟨λp hp=>((hsh k).1.bd p hp).le (by omega),(hsh k).1.2⟩
 have W1:WF (S0++[.lst (shs.map dM)]):=W0.snoc (Hr _ _)
 obtain ⟨t,bs,LR,eSc,W3⟩:=zk8 (K:=500) (S:=S0++[.lst (shs.map dM)]) W1 (wO T0) cI (by omega) ok1
 generalize hS1:S0++[O.lst (shs.map dM)]=S1 at *
 have F1:jV ns S1:=by rw [<-hS1];exact F0.app _
 have mk3:=OJ (C := "Scene") (n:=2) (φ:=Eu) (σ:=[some (.ref 0),some (.int ce),some (.int mo),none,none,none,none,none,none,none,none,none,none,none,none,none,none]) (S:=S0) (aL U5 aW) rfl eSc
 generalize sW:S1++[O.ins "Scene" [("kept",.ref (S1.length+1)),("tree",gk t)]]++[O.lst (shs.map dM)]++[O.lst (bs.map kW)]=S3 at *
 have F3:jV ns S3:=by rw [<-sW];exact ((F1.app _).app _).app _
 have U6:S3[S1.length]?=some (.ins "Scene" [("kept",.ref (S1.length+1)),("tree",gk t)]):=by rw [<-sW];exact fO (fO cI)
 have kp3:S3[S1.length+1]?=some (.lst (shs.map dM)):=by
  rw [<-sW]
  refine fO ?_
  generalize O.ins "Scene" [("kept",.ref (S1.length+1)),("tree",gk t)]=o
  rw [show S1.length+1=(S1++[o]).length by simp];exact cI
 have fz:lU "Scene" S1.length S3=(.ref S1.length,S3):=by
  unfold lU
  rw [U6]
  simp only
  rw [if_neg]
  intro h
  have:=h.2.1
  simp at this
 rw [fz] at mk3
 generalize hc':S1.length=c at *
 have sc:fB S3 c shs t:=⟨U6,kp3⟩
 obtain ⟨corner,way,bc,bw,w0,eR⟩:=Pu hn 40
 obtain ⟨o2,d2,_,Vh,_,eR2⟩:=Pu hn 42
 have Nm:=Pq (um (mo.fdiv 9)) (by decide) ce S3
 have br:=O4 (ce:=ce) (um (mo.fdiv 9))
 have Uu:=rN (mo.fdiv 9) S3
 generalize tU ce (fJ (mo.fdiv 9))=right at Nm br
 generalize fJ (mo.fdiv 9)=spt at Nm Uu
 have Va:=Pq Vh (by decide) ce S3
 have Vg:=O4 (ce:=ce) Vh
 generalize tU ce d2=down at Va Vg
 have small:∀ x:Int,∃ n:Nat,n<5/\x.fmod 5=(n:Int):=λx=>by
  have h1:=lq x (show (0:Int)<5 by decide)
  have h2:=lg x (show (0:Int)<5 by decide)
  exact ⟨(x.fmod 5).toNat,by omega,by omega⟩
 obtain ⟨wide,hw,ew⟩:=small (mo.fdiv 6561)
 obtain ⟨high,hh,eh⟩:=small (mo.fdiv 32805)
 obtain ⟨nr,hnr,enr⟩:=small (mo.fdiv 164025)
 have e10:=Iu (σ:=[some (.ref 0),some (.int ce),some (.int mo),some (.ref c),some (pD corner),some (pD way),some (pD right),some (pD down),some (gA corner right down way),some (.int (wide:Nat)),some (.int (high:Nat)),none,none,none,none,none,none]) (S:=S3) (fe:=eN jM aq) (aa:=ak (aj 10) aq) (src:=[none]) (rest:=[]) (λ_=>[]) (h:=high) (by omega) (aL (aC rfl) aW) rfl λy hy=>by
  rw [yN,<-fD,show S3.length+y=(S3++b8 (λ_=>[]) y).length by rw [gQ,jQ]]
  exact bC aW (wF (by show 0<=sizeLine;decide))
 obtain ⟨rr,se⟩:=zmY (K:=500) (bw.le (by omega)) w0 (by omega) LR (by omega)
 have Vj:aK 150 corner:=bc.le (by omega)
 have Vf:aK 150 right:=br.le (by omega)
 have Vi:aK 150 down:=Vg.le (by omega)
 obtain ⟨y1,x1,Uz⟩:=zlv se (by omega) Vj Vf Vi hw hh W3 sc (q1 := .int ce) (q2 := .int mo) (q4:=pD corner) (q5:=pD way) (q6:=pD right) (q7:=pD down)
 unfold jL at Uz
 have hz:∀ zs∈(List.range high).map (d9 rr corner right down wide),zs.length<=10:=λzs h=>by
  obtain ⟨y,_,rfl⟩:=List.mem_map.mp h
  simp [d9];omega
 have MP:((List.range high).map (d9 rr corner right down wide)).length<=10:=by simp;omega
 have W4:=Il W3 (d9 rr corner right down wide) high
 have g4:=DX S3 (d9 rr corner right down wide) high
 have sc4:fB (S3++b8 (d9 rr corner right down wide) high++[O.lst (dY S3.length high)]) c shs t:=(sc.app _).app _
 have F4:jV ns (S3++b8 (d9 rr corner right down wide) high++[O.lst (dY S3.length high)]):=(F3.app _).app _
 have e12:=zmJ se Vj Vf Vi (by omega) hw hh W4 sc4
 generalize hn4:S3.length+high=n4 at *
 generalize hS4:S3++b8 (d9 rr corner right down wide) high++[O.lst (dY S3.length high)]=S4 at *
 have W5:=Il W4 (d9 rr corner right down wide) high
 have g5:=DX S4 (d9 rr corner right down wide) high
 have U9:=(g4.app (b8 (d9 rr corner right down wide) high)).app [.lst (dY S4.length high)]
 have F5:jV ns (S4++b8 (d9 rr corner right down wide) high++[O.lst (dY S4.length high)]):=(F4.app _).app _
 generalize hn5:S4.length+high=n5 at *
 generalize hzss:(List.range high).map (d9 rr corner right down wide)=aZ at *
 generalize hS5:S4++b8 (d9 rr corner right down wide) high++[O.lst (dY S4.length high)]=S5 at *
 obtain ⟨G,Nv⟩:=Z9 g5 MP (σ:=[some (.ref 0),some (.int ce),some (.int mo),some (.ref c),some (pD corner),some (pD way),some (pD right),some (pD down),some (gA corner right down way),some (.int (wide:Nat)),some (.int (high:Nat)),y1,some (.ref n4),x1,some (.ref n5),none,none]) (k:=14) (aC rfl)
 obtain ⟨rs5,l5,_,_⟩:=id g5
 have W6:WF (S5++[.lst (G.map D.bl)]):=W5.snoc (by
  show cA _ _=true
  rw [ji]
  intro x hx
  obtain ⟨z,_,rfl⟩:=List.mem_map.mp hx
  simp [D.lo])
 have F6:=F5.app [O.lst (G.map D.bl)]
 have g6:=g5.app [O.lst (G.map D.bl)]
 have g6d:=U9.app [O.lst (G.map D.bl)]
 generalize hS6:S5++[O.lst (G.map D.bl)]=S6 at *
 have e14:=Iu (σ:=[some (.ref 0),some (.int ce),some (.int mo),some (.ref c),some (pD corner),some (pD way),some (pD right),some (pD down),some (gA corner right down way),some (.int (wide:Nat)),some (.int (high:Nat)),y1,some (.ref n4),x1,some (.ref n5),none,none]) (S:=S6) (fe:=eN (aO 2 Du) (ak (aj 1) (ak (aj 0) (aq)))) (aa:=ak (eB (aH .Mod) (eB (aH .FloorDiv) (aj 2) (eC (.int 164025))) (eC (.int 5))) aq) (src:=[none,some 0]) (rest:=[some (.ref 0)]) (λk=>jk ns (k:Nat)) (h:=nr) (by omega) (by
  rw [<-enr]
  exact aL (aV (aV (aC rfl) aY (kE (by decide))) aY (m8 (by decide))) aW) rfl λy hy=>by
  rw [yN,<-fD,show S6.length+y=(S6++b8 (λk=>jk ns (k:Nat)) y).length by rw [gQ,jQ]]
  exact bC (aL (aC rfl) (aL (aC rfl) aW)) (cJ rfl (Yw hn (y:Nat) (yF W6 _ _) (F6.app _)))
 have g7:=DX S6 (λk=>jk ns (k:Nat)) nr
 have g7t:=(g6.app (b8 (λk=>jk ns (k:Nat)) nr)).app [.lst (dY S6.length nr)]
 have g7d:=(g6d.app (b8 (λk=>jk ns (k:Nat)) nr)).app [.lst (dY S6.length nr)]
 generalize hn6:S6.length+nr=n6 at *
 generalize hS7:S6++b8 (λk=>jk ns (k:Nat)) nr++[O.lst (dY S6.length nr)]=S7 at *
 have e15:=zkw g7 (by omega) (σ:=[some (.ref 0),some (.int ce),some (.int mo),some (.ref c),some (pD corner),some (pD way),some (pD right),some (pD down),some (gA corner right down way),some (.int (wide:Nat)),some (.int (high:Nat)),y1,some (.ref n4),x1,some (.ref n5),some (.ref n6),none]) (k:=15) (aC rfl)
 have U8:=DX S7 (λk=>jk ns (k:Nat)) nr
 have g8:=(g7.app (b8 (λk=>jk ns (k:Nat)) nr)).app [.lst (dY S7.length nr)]
 have g8t:=(g7t.app (b8 (λk=>jk ns (k:Nat)) nr)).app [.lst (dY S7.length nr)]
 have g8d:=(g7d.app (b8 (λk=>jk ns (k:Nat)) nr)).app [.lst (dY S7.length nr)]
 generalize hn7:S7.length+nr=n7 at *
 have hq:∀ zs∈(List.range nr).map (λk:Nat=>jk ns (k:Nat)),zs.length<=10:=λzs h=>by
  obtain ⟨y,_,rfl⟩:=List.mem_map.mp h
  exact zm4 _ _
 have hql:((List.range nr).map (λk:Nat=>jk ns (k:Nat))).length<=10:=by simp;omega
 generalize hqs:(List.range nr).map (λk:Nat=>jk ns (k:Nat))=qss at *
 generalize hS8:S7++b8 (λk=>jk ns (k:Nat)) nr++[O.lst (dY S7.length nr)]=S8 at *
 apply Exists.intro
 apply Exists.intro
 refine aJ (cD (bC (aL (aC rfl) (aL aY aW)) (cJ rfl c0)) (bT rfl)) (aR ?_)
 refine aJ (cD (bC (aL (bC (aL (aC rfl) (aL aY aW)) (cJ rfl c1)) (aL aY aW)) (cJ rfl d1)) (bT rfl)) (aR ?_)
 refine aJ (cD mk3 (bT rfl)) (aR ?_)
 refine aJ (cD (bC (aL (aC rfl) (aL aY aW)) (cJ rfl (eR S3 F3))) (Cv rfl (p7 (bT rfl) (p7 (bT rfl) Dk)))) (aR ?_)
 refine aJ (cD (bC (aL (bC (aL (aV (aC rfl) aY (kE (by decide))) aW) (cJ rfl Uu)) (aL (aC rfl) aW)) (cJ rfl Nm)) (bT rfl)) (aR ?_)
 refine aJ (cD (bC (aL (aV (bC (aL (aC rfl) (aL aY aW)) (cJ rfl (eR2 S3 F3))) aY (gK (z:=pD d2) rfl)) (aL (aC rfl) aW)) (cJ rfl Va)) (bT rfl)) (aR ?_)
 refine aJ (cD (bC (aL (aC rfl) (aL (aC rfl) (aL (aC rfl) (aL (aC rfl) aW)))) (mD (by show 4<=sizeLine;decide))) (bT rfl)) (aR ?_)
 refine aJ (cD (x := .int (wide:Nat)) (by rw [<-ew];exact aV (aV (aC rfl) aY (kE (by decide))) aY (m8 (by decide))) (bT rfl)) (aR ?_)
 refine aJ (cD (x := .int (high:Nat)) (by rw [<-eh];exact aV (aV (aC rfl) aY (kE (by decide))) aY (m8 (by decide))) (bT rfl)) (aR ?_)
 refine aJ (cD e10 (bT rfl)) (aR ?_)
 refine aJ (Uz) (aR ?_)
 refine aJ (cD (bC (aL (aC rfl) (aL (aC rfl) (aL (aC rfl) (aL (aC rfl) aW)))) (cJ rfl e12)) (bT rfl)) (aR ?_)
 refine aJ (eF (b:=false) (rF (eY (aV (aC rfl) (aC rfl) (Xw g5 U9))) (fH rfl (rF (b:=false) (Hy (b:=true) (yG (bC (aL (aC rfl) (aL aY aW)) (Tt l5)) rfl)) (fH rfl (Hy (b:=true) (yG Nv rfl)))))) (fH rfl dJ)) (aR ?_)
 refine aJ (cD e14 (bT rfl)) (aR ?_)
 refine aJ (cD e15 (bT rfl)) (aR ?_)
 exact aJ (dU (CT (b:=true) (aV (bC (aL (aC rfl) aW) (cJ rfl (RD g8 hql hq))) (bC (aL (aC rfl) aW) (cJ rfl (Ql U8 hql hq))) (QX (O9 _))) (fV rfl (CT (b:=true) (aV (aC rfl) (aC rfl) (V0 g8 U8)) (fV rfl (aV (bC (aL (aC rfl) aW) (cJ rfl (RD g8t MP hz))) (bC (aL (aC rfl) aW) (cJ rfl (Ql g8d MP hz))) (QX (O9 _)))))))) cY
end MX.K20
end
section
local macro_rules | `(tactic| wtm_at "sc") => `(tactic| exact ⟨rfl, rfl, rfl, by decide +kernel, by kernel_rfl, by decide +kernel, by decide +kernel⟩)
namespace MX.K20
open PySem PySem.Spec PySem.W PyProof.Rows L2 MX MX.P
abbrev F0:List (Str×Nat×GN):=[]
abbrev E0:CE:={ flds:=[("kept", "Scene"),("tree", "Scene"),("box", "Tree"),("number", "Tree"),("halves", "Tree")],gls:=[("SIGNS", "0123456789abcdefghijklmnopqrstuvwxyz")] }
abbrev F1:List (Str×Nat×GN):=("_law_cell",2,nq)::F0
abbrev F2:List (Str×Nat×GN):=("_law_drawn",2,qe)::F1
abbrev E1:CE:={ E0 with mks:=("Tree",4,xr)::E0.mks }
abbrev F3:List (Str×Nat×GN):=("numbers_at",2,Ef)::F2
abbrev F4:List (Str×Nat×GN):=("box_around",1,wZ)::F3
abbrev F5:List (Str×Nat×GN):=("widest_place",1,JS)::F4
abbrev F6:List (Str×Nat×GN):=("tree_over",1,λ_ _=>none)::F5
abbrev F7:List (Str×Nat×GN):=("tree_over",1,iU 1)::F6
abbrev F8:List (Str×Nat×GN):=("tree_over",1,iU 2)::F7
abbrev F9:List (Str×Nat×GN):=("tree_over",1,iU 3)::F8
abbrev F10:List (Str×Nat×GN):=("tree_over",1,iU 4)::F9
abbrev F11:List (Str×Nat×GN):=("tree_over",1,iU 5)::F10
abbrev F12:List (Str×Nat×GN):=("tree_over",1,iU 6)::F11
abbrev F13:List (Str×Nat×GN):=("tree_about",1,Eg)::F12
abbrev F14:List (Str×Nat×GN):=("are_in_order",2,JR)::F13
abbrev F15:List (Str×Nat×GN):=("is_shape",1,xg)::F14
abbrev F16:List (Str×Nat×GN):=("refuse_no_shape",1,Ky)::F15
abbrev F17:List (Str×Nat×GN):=("bounds",1,uq)::F16
abbrev E2:CE:={ E1 with mks:=("Scene",2,Eu)::E1.mks }
abbrev F18:List (Str×Nat×GN):=("_law_spot",1,qg)::F17
abbrev F19:List (Str×Nat×GN):=("_law_plain",2,Jx)::F18
abbrev F20:List (Str×Nat×GN):=("_law_put",2,yQ)::F19
abbrev F21:List (Str×Nat×GN):=("_law_shape",2,wY)::F20
abbrev F22:List (Str×Nat×GN):=("_law_ray",2,EY)::F21
abbrev F23:List (Str×Nat×GN):=("_law_far",2,DN)::F22
abbrev F24:List (Str×Nat×GN):=("refuse_standing",1,Kz)::F23
abbrev F25:List (Str×Nat×GN):=("times_between",4,Ld)::F24
abbrev F26:List (Str×Nat×GN):=("is_less",2,rO)::F25
abbrev F27:List (Str×Nat×GN):=("span_in",2,uD)::F26
abbrev F28:List (Str×Nat×GN):=("numbers_along",2,Er)::F27
abbrev F29:List (Str×Nat×GN):=("common_divisor",2,Et)::F28
abbrev F30:List (Str×Nat×GN):=("lowest_terms",1,rR)::F29
abbrev F31:List (Str×Nat×GN):=("meets_box",2,JM)::F30
abbrev F32:List (Str×Nat×GN):=("cross",2,iV)::F31
abbrev F33:List (Str×Nat×GN):=("way_between",2,dW)::F32
abbrev F34:List (Str×Nat×GN):=("edges_of",1,uy)::F33
abbrev F35:List (Str×Nat×GN):=("dot",2,eX)::F34
abbrev F36:List (Str×Nat×GN):=("meets_along",3,Kc)::F35
abbrev F37:List (Str×Nat×GN):=("meets_segment",3,Lb)::F36
abbrev F38:List (Str×Nat×GN):=("meets_edges",2,w6)::F37
abbrev F39:List (Str×Nat×GN):=("goes_through",3,o7)::F38
abbrev F40:List (Str×Nat×GN):=("meets_within_plane",3,xH)::F39
abbrev F41:List (Str×Nat×GN):=("meets_triangle",2,mF)::F40
abbrev F42:List (Str×Nat×GN):=("time_at",2,yI)::F41
abbrev E3:CE:={ E2 with mths:=("hits", "Scene",2,Ez)::E2.mths }
abbrev F43:List (Str×Nat×GN):=("is_sooner",2,El)::F42
abbrev E4:CE:={ E3 with mths:=("first", "Scene",2,uE)::E3.mths }
abbrev F44:List (Str×Nat×GN):=("_law_seen",4,JL)::F43
abbrev F45:List (Str×Nat×GN):=("number_met",2,Ed)::F44
abbrev F46:List (Str×Nat×GN):=("moved",3,wJ)::F45
abbrev F47:List (Str×Nat×GN):=("row_seen",5,Dv)::F46
abbrev F48:List (Str×Nat×GN):=("seen",4,G9)::F47
abbrev F49:List (Str×Nat×GN):=("_law_row",2,Du)::F48
abbrev F50:List (Str×Nat×GN):=("sign_for",1,Dw)::F49
abbrev F51:List (Str×Nat×GN):=("row_drawn",1,yW)::F50
abbrev F52:List (Str×Nat×GN):=("drawn",1,CZ)::F51
abbrev F53:List (Str×Nat×GN):=("_law_text",1,Ek)::F52
theorem call:WalkO seen loose (λ_ _=>True) (zsn xb ms defs blt "tree_over" (top 45)).says PySem.Challenge.rw_firsthit_k20_whole_views.row.toRowW lawRec [] λf vs=>PySem.call f vs:=by
 refine zja (k:=77) (x := "_law_script") rfl rfl ⟨rfl,by decide,by decide⟩ ?F
 case F =>
  intro w mg fa h K c KX G hmg hD hB0 hM hX z hC0
  have H:∀ i (h:i<defs.length),d8 K (defs[i]).1 (defs[i]).2:=λi h=>hD _ (List.getElem_mem h)
  have M:∀ i (h:i<ms.length),gh K (ms[i]).1 (ms[i]).2.1 (ms[i]).2.2:=λi h=>hM _ (List.getElem_mem h)
  have hb:=zlY KX G hB0
  unfold xb at hX
  simp only [cR] at hX
  obtain ⟨⟨gM,eE⟩,qj⟩:=hX
  refine zka (m:=40) (n:=17) (fb:=Sw) (y := "tree_over") (fns:=F53) (E:=E4) (k:=76) KX G hb hmg (H 46 (by decide)) (show oU "law" (top 63) ["_law_script"] from gU λ_ _ _ _ _ _ _=>rfl) (by wtm_at "sc") (by decide +kernel) (by kernel_rfl) (by kernel_rfl) (λbase hMd hC hB=>?_) zlD
  ·have e0:aQ PG w K mg base 0 E0:=VL KX G (λy hy=>by
    simp only [List.mem_cons,pH,or_false] at hy
    rcases hy with rfl | rfl | rfl | rfl | rfl
    ·exact ⟨_,eE,by decide⟩
    ·exact ⟨_,eE,by decide⟩
    ·exact ⟨_,gM,by decide⟩
    ·exact ⟨_,gM,by decide⟩
    ·exact ⟨_,gM,by decide⟩) (λy hy=>by
    simp only [List.mem_cons,pH,or_false] at hy
    subst hy
    exact qj)
   have h0:aA PG w K mg base 0 F0:=aA.nil
   have h1:aA PG w K mg base 1 F1:=cW (x := "_law_cell") (st:=top 52) (ps:=["_law_script", "_law_k"]) (n:=2) (fb:=En) (m:=40) h0 e0 KX G hb (H 0 (by decide)) (gH λ_ _ _ _ _ _ _ _=>rfl) (by wtm_at "sc") (by decide +kernel) (by kernel_rfl) (by kernel_rfl)
   have e0:aQ PG w K mg base 1 E0:=e0.mono (by decide)
   have h2:aA PG w K mg base 2 F2:=cW (x := "_law_drawn") (st:=top 53) (ps:=["_law_cell_here", "_law_k"]) (n:=3) (fb:=Ea) (m:=40) h1 e0 KX G hb (H 1 (by decide)) (gH λ_ _ _ _ _ _ _ _=>rfl) (by wtm_at "sc") (by decide +kernel) (by kernel_rfl) (by kernel_rfl)
   have e0:aQ PG w K mg base 2 E0:=e0.mono (by decide)
   have e1m:aQ PG w K mg base 4 E1:=Ro (C := "Tree") (st:=sO 43 0) (ps:=["self", "box", "number", "halves"]) (n:=4) (fb:=KY) (m:=40) h2 e0 hb (Qe KX G gM) (Oj (M 0 (by decide)) gM (by decide)) (λ_ _ _ _ _ _ us hl=>match us,hl with | [_,_,_,_],_=>rfl) (by wtm_at "sc") (by decide +kernel) (by kernel_rfl) (by kernel_rfl)
   have e1:=e1m
   have h2:aA PG w K mg base 4 F2:=h2.mono (by decide)
   have h3:aA PG w K mg base 5 F3:=cW (x := "numbers_at") (st:=top 22) (ps:=["points", "place"]) (n:=2) (fb:=Jw) (m:=40) h2 e1 KX G hb (H 2 (by decide)) (gH λ_ _ _ _ _ _ _ _=>rfl) (by wtm_at "sc") (by decide +kernel) (by kernel_rfl) (by kernel_rfl)
   have e1:aQ PG w K mg base 5 E1:=e1.mono (by decide)
   have h4:aA PG w K mg base 6 F4:=cW (x := "box_around") (st:=top 23) (ps:=["points"]) (n:=3) (fb:=zdt) (m:=40) h3 e1 KX G hb (H 3 (by decide)) (gU λ_ _ _ _ _ _ _=>rfl) (by wtm_at "sc") (by decide +kernel) (by kernel_rfl) (by kernel_rfl)
   have e1:aQ PG w K mg base 6 E1:=e1.mono (by decide)
   have h5:aA PG w K mg base 7 F5:=cW (x := "widest_place") (st:=top 44) (ps:=["box"]) (n:=2) (fb:=Ko) (m:=40) h4 e1 KX G hb (H 4 (by decide)) (gU λ_ _ _ _ _ _ _=>rfl) (by wtm_at "sc") (by decide +kernel) (by kernel_rfl) (by kernel_rfl)
   have e1:aQ PG w K mg base 7 E1:=e1.mono (by decide)
   have h6:aA PG w K mg base 7 F6:=zlM (ps:=["leaves"]) h5 KX G (let ⟨f,fd,a,F,_⟩:=z;⟨f,fd,a,F⟩) (gU λ_ _ _ _ _ _ _=>rfl)
   have h7:aA PG w K mg base 11 F7:=wN (x := "tree_over") (q0 := "leaf") (st:=top 45) (ps:=["leaves"]) (n:=5) (fb:=mG (iU 0)) (m:=40) h6 e1 KX G hb z hC hB (gU λ_ _ _ _ _ _ _=>rfl) (by wtm_at "sc") (by decide +kernel) (λ_ _ _ _ _ _ _ _ _=>rfl) (by kernel_rfl) (by kernel_rfl)
   have e1:aQ PG w K mg base 11 E1:=e1.mono (by decide)
   have h8:aA PG w K mg base 15 F8:=wN (x := "tree_over") (q0 := "leaf") (st:=top 45) (ps:=["leaves"]) (n:=5) (fb:=mG (iU 1)) (m:=40) h7 e1 KX G hb z hC hB (gU λ_ _ _ _ _ _ _=>rfl) (by wtm_at "sc") (by decide +kernel) (λ_ _ _ _ _ _ _ _ _=>rfl) (by kernel_rfl) (by kernel_rfl)
   have e1:aQ PG w K mg base 15 E1:=e1.mono (by decide)
   have h9:aA PG w K mg base 19 F9:=wN (x := "tree_over") (q0 := "leaf") (st:=top 45) (ps:=["leaves"]) (n:=5) (fb:=mG (iU 2)) (m:=40) h8 e1 KX G hb z hC hB (gU λ_ _ _ _ _ _ _=>rfl) (by wtm_at "sc") (by decide +kernel) (λ_ _ _ _ _ _ _ _ _=>rfl) (by kernel_rfl) (by kernel_rfl)
   have e1:aQ PG w K mg base 19 E1:=e1.mono (by decide)
   have h10:aA PG w K mg base 23 F10:=wN (x := "tree_over") (q0 := "leaf") (st:=top 45) (ps:=["leaves"]) (n:=5) (fb:=mG (iU 3)) (m:=40) h9 e1 KX G hb z hC hB (gU λ_ _ _ _ _ _ _=>rfl) (by wtm_at "sc") (by decide +kernel) (λ_ _ _ _ _ _ _ _ _=>rfl) (by kernel_rfl) (by kernel_rfl)
   have e1:aQ PG w K mg base 23 E1:=e1.mono (by decide)
   have h11:aA PG w K mg base 27 F11:=wN (x := "tree_over") (q0 := "leaf") (st:=top 45) (ps:=["leaves"]) (n:=5) (fb:=mG (iU 4)) (m:=40) h10 e1 KX G hb z hC hB (gU λ_ _ _ _ _ _ _=>rfl) (by wtm_at "sc") (by decide +kernel) (λ_ _ _ _ _ _ _ _ _=>rfl) (by kernel_rfl) (by kernel_rfl)
   have e1:aQ PG w K mg base 27 E1:=e1.mono (by decide)
   have h12:aA PG w K mg base 31 F12:=wN (x := "tree_over") (q0 := "leaf") (st:=top 45) (ps:=["leaves"]) (n:=5) (fb:=mG (iU 5)) (m:=40) h11 e1 KX G hb z hC hB (gU λ_ _ _ _ _ _ _=>rfl) (by wtm_at "sc") (by decide +kernel) (λ_ _ _ _ _ _ _ _ _=>rfl) (by kernel_rfl) (by kernel_rfl)
   have e1:aQ PG w K mg base 31 E1:=e1.mono (by decide)
   have h13:aA PG w K mg base 32 F13:=cW (x := "tree_about") (st:=top 46) (ps:=["boxes"]) (n:=2) (fb:=Ec) (m:=40) h12 e1 KX G hb (H 5 (by decide)) (gU λ_ _ _ _ _ _ _=>rfl) (by wtm_at "sc") (by decide +kernel) (by kernel_rfl) (by kernel_rfl)
   have e1:aQ PG w K mg base 32 E1:=e1.mono (by decide)
   have h14:aA PG w K mg base 33 F14:=cW (x := "are_in_order") (st:=top 37) (ps:=["low", "high"]) (n:=2) (fb:=Ke) (m:=40) h13 e1 KX G hb (H 6 (by decide)) (gH λ_ _ _ _ _ _ _ _=>rfl) (by wtm_at "sc") (by decide +kernel) (by kernel_rfl) (by kernel_rfl)
   have e1:aQ PG w K mg base 33 E1:=e1.mono (by decide)
   have h15:aA PG w K mg base 34 F15:=cW (x := "is_shape") (st:=top 38) (ps:=["shape"]) (n:=1) (fb:=DK) (m:=40) h14 e1 KX G hb (H 7 (by decide)) (gU λ_ _ _ _ _ _ _=>rfl) (by wtm_at "sc") (by decide +kernel) (by kernel_rfl) (by kernel_rfl)
   have e1:aQ PG w K mg base 34 E1:=e1.mono (by decide)
   have h16:aA PG w K mg base 35 F16:=cW (x := "refuse_no_shape") (st:=top 39) (ps:=["shape"]) (n:=1) (fb:=K8) (m:=40) h15 e1 KX G hb (H 8 (by decide)) (gU λ_ _ _ _ _ _ _=>rfl) (by wtm_at "sc") (by decide +kernel) (by kernel_rfl) (by kernel_rfl)
   have e1:aQ PG w K mg base 35 E1:=e1.mono (by decide)
   have FJ:aA PG w K mg base 36 F17:=cW (x := "bounds") (st:=top 41) (ps:=["shape"]) (n:=1) (fb:=Ig) (m:=40) h16 e1 KX G hb (H 9 (by decide)) (gU λ_ _ _ _ _ _ _=>rfl) (by wtm_at "sc") (by decide +kernel) (by kernel_rfl) (by kernel_rfl)
   have e1:aQ PG w K mg base 36 E1:=e1.mono (by decide)
   have e2m:aQ PG w K mg base 38 E2:=Ro (C := "Scene") (st:=sO 50 0) (ps:=["self", "shapes"]) (n:=2) (fb:=K4) (m:=40) FJ e1 hb (Qe KX G eE) (Oj (M 1 (by decide)) eE (by decide)) (λ_ _ _ _ _ _ us hl=>match us,hl with | [_,_],_=>rfl) (by wtm_at "sc") (by decide +kernel) (by kernel_rfl) (by kernel_rfl)
   have e2:=e2m
   have FJ:aA PG w K mg base 38 F17:=FJ.mono (by decide)
   have h18:aA PG w K mg base 39 F18:=cW (x := "_law_spot") (st:=top 54) (ps:=["_law_more"]) (n:=1) (fb:=JB) (m:=40) FJ e2 KX G hb (H 10 (by decide)) (gU λ_ _ _ _ _ _ _=>rfl) (by wtm_at "sc") (by decide +kernel) (by kernel_rfl) (by kernel_rfl)
   have e2:aQ PG w K mg base 39 E2:=e2.mono (by decide)
   have h19:aA PG w K mg base 40 F19:=cW (x := "_law_plain") (st:=top 56) (ps:=["_law_script", "_law_k"]) (n:=6) (fb:=Eb) (m:=40) h18 e2 KX G hb (H 11 (by decide)) (gH λ_ _ _ _ _ _ _ _=>rfl) (by wtm_at "sc") (by decide +kernel) (by kernel_rfl) (by kernel_rfl)
   have e2:aQ PG w K mg base 40 E2:=e2.mono (by decide)
   have h20:aA PG w K mg base 41 F20:=cW (x := "_law_put") (st:=top 55) (ps:=["_law_point", "_law_cell_here"]) (n:=3) (fb:=Fg) (m:=40) h19 e2 KX G hb (H 12 (by decide)) (gH λ_ _ _ _ _ _ _ _=>rfl) (by wtm_at "sc") (by decide +kernel) (by kernel_rfl) (by kernel_rfl)
   have e2:aQ PG w K mg base 41 E2:=e2.mono (by decide)
   have h21:aA PG w K mg base 42 F21:=cW (x := "_law_shape") (st:=top 57) (ps:=["_law_script", "_law_k"]) (n:=3) (fb:=Jt) (m:=40) h20 e2 KX G hb (H 13 (by decide)) (gH λ_ _ _ _ _ _ _ _=>rfl) (by wtm_at "sc") (by decide +kernel) (by kernel_rfl) (by kernel_rfl)
   have e2:aQ PG w K mg base 42 E2:=e2.mono (by decide)
   have h22:aA PG w K mg base 43 F22:=cW (x := "_law_ray") (st:=top 58) (ps:=["_law_script", "_law_k"]) (n:=6) (fb:=Kq) (m:=40) h21 e2 KX G hb (H 14 (by decide)) (gH λ_ _ _ _ _ _ _ _=>rfl) (by wtm_at "sc") (by decide +kernel) (by kernel_rfl) (by kernel_rfl)
   have e2:aQ PG w K mg base 43 E2:=e2.mono (by decide)
   have h23:aA PG w K mg base 44 F23:=cW (x := "_law_far") (st:=top 59) (ps:=["_law_way", "_law_cell_here"]) (n:=2) (fb:=Dz) (m:=40) h22 e2 KX G hb (H 15 (by decide)) (gH λ_ _ _ _ _ _ _ _=>rfl) (by wtm_at "sc") (by decide +kernel) (by kernel_rfl) (by kernel_rfl)
   have e2:aQ PG w K mg base 44 E2:=e2.mono (by decide)
   have h24:aA PG w K mg base 45 F24:=cW (x := "refuse_standing") (st:=top 36) (ps:=["ray"]) (n:=1) (fb:=K9) (m:=40) h23 e2 KX G hb (H 16 (by decide)) (gU λ_ _ _ _ _ _ _=>rfl) (by wtm_at "sc") (by decide +kernel) (by kernel_rfl) (by kernel_rfl)
   have e2:aQ PG w K mg base 45 E2:=e2.mono (by decide)
   have h25:aA PG w K mg base 46 F25:=cW (x := "times_between") (st:=top 24) (ps:=["start", "step", "low", "high"]) (n:=4) (fb:=Ep) (m:=40) h24 e2 KX G hb (H 17 (by decide)) (Gh λ_ _ _ _ _ _ _ _ _ _=>rfl) (by wtm_at "sc") (by decide +kernel) (by kernel_rfl) (by kernel_rfl)
   have e2:aQ PG w K mg base 46 E2:=e2.mono (by decide)
   have h26:aA PG w K mg base 47 F26:=cW (x := "is_less") (st:=top 17) (ps:=["one", "other"]) (n:=2) (fb:=DP) (m:=40) h25 e2 KX G hb (H 18 (by decide)) (gH λ_ _ _ _ _ _ _ _=>rfl) (by wtm_at "sc") (by decide +kernel) (by kernel_rfl) (by kernel_rfl)
   have e2:aQ PG w K mg base 47 E2:=e2.mono (by decide)
   have h27:aA PG w K mg base 48 F27:=cW (x := "span_in") (st:=top 25) (ps:=["ray", "box"]) (n:=9) (fb:=yH) (m:=40) h26 e2 KX G hb (H 19 (by decide)) (gH λ_ _ _ _ _ _ _ _=>rfl) (by wtm_at "sc") (by decide +kernel) (by kernel_rfl) (by kernel_rfl)
   have e2:aQ PG w K mg base 48 E2:=e2.mono (by decide)
   have h28:aA PG w K mg base 49 F28:=cW (x := "numbers_along") (st:=top 47) (ps:=["tree", "ray"]) (n:=5) (fb:=La) (m:=40) h27 e2 KX G hb (H 20 (by decide)) (gH λ_ _ _ _ _ _ _ _=>rfl) (by wtm_at "sc") (by decide +kernel) (by kernel_rfl) (by kernel_rfl)
   have e2:aQ PG w K mg base 49 E2:=e2.mono (by decide)
   have h29:aA PG w K mg base 50 F29:=cW (x := "common_divisor") (st:=top 15) (ps:=["one", "other"]) (n:=3) (fb:=K1) (m:=40) h28 e2 KX G hb (H 21 (by decide)) (gH λ_ _ _ _ _ _ _ _=>rfl) (by wtm_at "sc") (by decide +kernel) (by kernel_rfl) (by kernel_rfl)
   have e2:aQ PG w K mg base 50 E2:=e2.mono (by decide)
   have h30:aA PG w K mg base 51 F30:=cW (x := "lowest_terms") (st:=top 16) (ps:=["ratio"]) (n:=2) (fb:=Kf) (m:=40) h29 e2 KX G hb (H 22 (by decide)) (gU λ_ _ _ _ _ _ _=>rfl) (by wtm_at "sc") (by decide +kernel) (by kernel_rfl) (by kernel_rfl)
   have e2:aQ PG w K mg base 51 E2:=e2.mono (by decide)
   have h31:aA PG w K mg base 52 F31:=cW (x := "meets_box") (st:=top 26) (ps:=["ray", "box"]) (n:=3) (fb:=Ei) (m:=40) h30 e2 KX G hb (H 23 (by decide)) (gH λ_ _ _ _ _ _ _ _=>rfl) (by wtm_at "sc") (by decide +kernel) (by kernel_rfl) (by kernel_rfl)
   have e2:aQ PG w K mg base 52 E2:=e2.mono (by decide)
   have h32:aA PG w K mg base 53 F32:=cW (x := "cross") (st:=top 20) (ps:=["one", "other"]) (n:=2) (fb:=CQ) (m:=40) h31 e2 KX G hb (H 24 (by decide)) (gH λ_ _ _ _ _ _ _ _=>rfl) (by wtm_at "sc") (by decide +kernel) (by kernel_rfl) (by kernel_rfl)
   have e2:aQ PG w K mg base 53 E2:=e2.mono (by decide)
   have h33:aA PG w K mg base 54 F33:=cW (x := "way_between") (st:=top 18) (ps:=["one", "other"]) (n:=2) (fb:=Ey) (m:=40) h32 e2 KX G hb (H 25 (by decide)) (gH λ_ _ _ _ _ _ _ _=>rfl) (by wtm_at "sc") (by decide +kernel) (by kernel_rfl) (by kernel_rfl)
   have e2:aQ PG w K mg base 54 E2:=e2.mono (by decide)
   have h34:aA PG w K mg base 55 F34:=cW (x := "edges_of") (st:=top 28) (ps:=["triangle"]) (n:=1) (fb:=DG) (m:=40) h33 e2 KX G hb (H 26 (by decide)) (gU λ_ _ _ _ _ _ _=>rfl) (by wtm_at "sc") (by decide +kernel) (by kernel_rfl) (by kernel_rfl)
   have e2:aQ PG w K mg base 55 E2:=e2.mono (by decide)
   have h35:aA PG w K mg base 56 F35:=cW (x := "dot") (st:=top 19) (ps:=["one", "other"]) (n:=2) (fb:=Cq) (m:=40) h34 e2 KX G hb (H 27 (by decide)) (gH λ_ _ _ _ _ _ _ _=>rfl) (by wtm_at "sc") (by decide +kernel) (by kernel_rfl) (by kernel_rfl)
   have e2:aQ PG w K mg base 56 E2:=e2.mono (by decide)
   have Nh:aA PG w K mg base 57 F36:=cW (x := "meets_along") (st:=top 29) (ps:=["ray", "one", "other"]) (n:=6) (fb:=yP) (m:=40) h35 e2 KX G hb (H 28 (by decide)) (xW λ_ _ _ _ _ _ _ _ _=>rfl) (by wtm_at "sc") (by decide +kernel) (by kernel_rfl) (by kernel_rfl)
   have e2:aQ PG w K mg base 57 E2:=e2.mono (by decide)
   have h37:aA PG w K mg base 58 F37:=cW (x := "meets_segment") (st:=top 30) (ps:=["ray", "one", "other"]) (n:=10) (fb:=rW) (m:=40) Nh e2 KX G hb (H 29 (by decide)) (xW λ_ _ _ _ _ _ _ _ _=>rfl) (by wtm_at "sc") (by decide +kernel) (by kernel_rfl) (by kernel_rfl)
   have e2:aQ PG w K mg base 58 E2:=e2.mono (by decide)
   have h38:aA PG w K mg base 59 F38:=cW (x := "meets_edges") (st:=top 31) (ps:=["ray", "triangle"]) (n:=6) (fb:=Ka) (m:=40) h37 e2 KX G hb (H 30 (by decide)) (gH λ_ _ _ _ _ _ _ _=>rfl) (by wtm_at "sc") (by decide +kernel) (by kernel_rfl) (by kernel_rfl)
   have e2:aQ PG w K mg base 59 E2:=e2.mono (by decide)
   have h39:aA PG w K mg base 60 F39:=cW (x := "goes_through") (st:=top 32) (ps:=["start", "way", "triangle"]) (n:=5) (fb:=Fe) (m:=40) h38 e2 KX G hb (H 31 (by decide)) (xW λ_ _ _ _ _ _ _ _ _=>rfl) (by wtm_at "sc") (by decide +kernel) (by kernel_rfl) (by kernel_rfl)
   have e2:aQ PG w K mg base 60 E2:=e2.mono (by decide)
   have h40:aA PG w K mg base 61 F40:=cW (x := "meets_within_plane") (st:=top 33) (ps:=["ray", "triangle", "upright"]) (n:=3) (fb:=Fi) (m:=40) h39 e2 KX G hb (H 32 (by decide)) (xW λ_ _ _ _ _ _ _ _ _=>rfl) (by wtm_at "sc") (by decide +kernel) (by kernel_rfl) (by kernel_rfl)
   have e2:aQ PG w K mg base 61 E2:=e2.mono (by decide)
   have h41:aA PG w K mg base 62 F41:=cW (x := "meets_triangle") (st:=top 34) (ps:=["ray", "triangle"]) (n:=5) (fb:=nj) (m:=40) h40 e2 KX G hb (H 33 (by decide)) (gH λ_ _ _ _ _ _ _ _=>rfl) (by wtm_at "sc") (by decide +kernel) (by kernel_rfl) (by kernel_rfl)
   have e2:aQ PG w K mg base 62 E2:=e2.mono (by decide)
   have Fz:aA PG w K mg base 63 F42:=cW (x := "time_at") (st:=top 40) (ps:=["ray", "shape"]) (n:=2) (fb:=DQ) (m:=40) h41 e2 KX G hb (H 34 (by decide)) (gH λ_ _ _ _ _ _ _ _=>rfl) (by wtm_at "sc") (by decide +kernel) (by kernel_rfl) (by kernel_rfl)
   have e2:aQ PG w K mg base 63 E2:=e2.mono (by decide)
   have e3m:aQ PG w K mg base 64 E3:=Sv (C := "Scene") (x := "hits") (st:=sO 50 6) (ps:=["self", "ray"]) (n:=5) (fb:=Kp) (m:=40) Fz e2 (QM eE) hb (M 2 (by decide)) (λ_ _ _ _ _ _ us hl=>match us,hl with | [_,_],_=>rfl) (by wtm_at "sc") (by decide +kernel) (by kernel_rfl) (by kernel_rfl)
   have e3:=e3m
   have Fz:aA PG w K mg base 64 F42:=Fz.mono (by decide)
   have Fy:aA PG w K mg base 65 F43:=cW (x := "is_sooner") (st:=top 49) (ps:=["one", "other"]) (n:=2) (fb:=JD) (m:=40) Fz e3 KX G hb (H 35 (by decide)) (gH λ_ _ _ _ _ _ _ _=>rfl) (by wtm_at "sc") (by decide +kernel) (by kernel_rfl) (by kernel_rfl)
   have e3:aQ PG w K mg base 65 E3:=e3.mono (by decide)
   have e4m:aQ PG w K mg base 66 E4:=Sv (C := "Scene") (x := "first") (st:=sO 50 7) (ps:=["self", "ray"]) (n:=4) (fb:=Kd) (m:=40) Fy e3 (QM eE) hb (M 3 (by decide)) (λ_ _ _ _ _ _ us hl=>match us,hl with | [_,_],_=>rfl) (by wtm_at "sc") (by decide +kernel) (by kernel_rfl) (by kernel_rfl)
   have e4:=e4m
   have Fy:aA PG w K mg base 66 F43:=Fy.mono (by decide)
   have h44:aA PG w K mg base 67 F44:=cW (x := "_law_seen") (st:=top 62) (ps:=["_law_scene", "_law_frame", "_law_x", "_law_y"]) (n:=10) (fb:=Jz) (m:=40) Fy e4 KX G hb (H 36 (by decide)) (Gh λ_ _ _ _ _ _ _ _ _ _=>rfl) (by wtm_at "sc") (by decide +kernel) (by kernel_rfl) (by kernel_rfl)
   have e4:aQ PG w K mg base 67 E4:=e4.mono (by decide)
   have h45:aA PG w K mg base 68 F45:=cW (x := "number_met") (st:=top 4) (ps:=["scene", "ray"]) (n:=3) (fb:=Jv) (m:=40) h44 e4 KX G hb (H 37 (by decide)) (gH λ_ _ _ _ _ _ _ _=>rfl) (by wtm_at "sc") (by decide +kernel) (by kernel_rfl) (by kernel_rfl)
   have e4:aQ PG w K mg base 68 E4:=e4.mono (by decide)
   have h46:aA PG w K mg base 69 F46:=cW (x := "moved") (st:=top 3) (ps:=["point", "way", "times"]) (n:=3) (fb:=HY) (m:=40) h45 e4 KX G hb (H 38 (by decide)) (xW λ_ _ _ _ _ _ _ _ _=>rfl) (by wtm_at "sc") (by decide +kernel) (by kernel_rfl) (by kernel_rfl)
   have e4:aQ PG w K mg base 69 E4:=e4.mono (by decide)
   have h47:aA PG w K mg base 70 F47:=cW (x := "row_seen") (st:=top 5) (ps:=["scene", "start", "right", "way", "wide"]) (n:=5) (fb:=Ji) (m:=40) h46 e4 KX G hb (H 39 (by decide)) (Bj λ_ _ _ _ _ _ _ _ _ _ _=>rfl) (by wtm_at "sc") (by decide +kernel) (by kernel_rfl) (by kernel_rfl)
   have e4:aQ PG w K mg base 70 E4:=e4.mono (by decide)
   have h48:aA PG w K mg base 71 F48:=cW (x := "seen") (st:=top 6) (ps:=["scene", "frame", "wide", "high"]) (n:=8) (fb:=Hf) (m:=40) h47 e4 KX G hb (H 40 (by decide)) (Gh λ_ _ _ _ _ _ _ _ _ _=>rfl) (by wtm_at "sc") (by decide +kernel) (by kernel_rfl) (by kernel_rfl)
   have e4:aQ PG w K mg base 71 E4:=e4.mono (by decide)
   have h49:aA PG w K mg base 72 F49:=cW (x := "_law_row") (st:=top 60) (ps:=["_law_script", "_law_k"]) (n:=3) (fb:=Jh) (m:=40) h48 e4 KX G hb (H 41 (by decide)) (gH λ_ _ _ _ _ _ _ _=>rfl) (by wtm_at "sc") (by decide +kernel) (by kernel_rfl) (by kernel_rfl)
   have e4:aQ PG w K mg base 72 E4:=e4.mono (by decide)
   have h50:aA PG w K mg base 73 F50:=cW (x := "sign_for") (st:=top 7) (ps:=["number"]) (n:=1) (fb:=Jj) (m:=40) h49 e4 KX G hb (H 42 (by decide)) (gU λ_ _ _ _ _ _ _=>rfl) (by wtm_at "sc") (by decide +kernel) (by kernel_rfl) (by kernel_rfl)
   have e4:aQ PG w K mg base 73 E4:=e4.mono (by decide)
   have h51:aA PG w K mg base 74 F51:=cW (x := "row_drawn") (st:=top 8) (ps:=["row"]) (n:=1) (fb:=JF) (m:=40) h50 e4 KX G hb (H 43 (by decide)) (gU λ_ _ _ _ _ _ _=>rfl) (by wtm_at "sc") (by decide +kernel) (by kernel_rfl) (by kernel_rfl)
   have e4:aQ PG w K mg base 74 E4:=e4.mono (by decide)
   have h52:aA PG w K mg base 75 F52:=cW (x := "drawn") (st:=top 9) (ps:=["rows"]) (n:=1) (fb:=HX) (m:=40) h51 e4 KX G hb (H 44 (by decide)) (gU λ_ _ _ _ _ _ _=>rfl) (by wtm_at "sc") (by decide +kernel) (by kernel_rfl) (by kernel_rfl)
   have e4:aQ PG w K mg base 75 E4:=e4.mono (by decide)
   have h53:aA PG w K mg base 76 F53:=cW (x := "_law_text") (st:=top 61) (ps:=["_law_rows"]) (n:=5) (fb:=JC) (m:=40) h52 e4 KX G hb (H 45 (by decide)) (gU λ_ _ _ _ _ _ _=>rfl) (by wtm_at "sc") (by decide +kernel) (by kernel_rfl) (by kernel_rfl)
   have e4:aQ PG w K mg base 76 E4:=e4.mono (by decide)
   exact ⟨h53,e4⟩
end MX.K20
theorem PySem.Challenge.cw_firsthit_k20_whole_views_holds : PySem.Challenge.rw_firsthit_k20_whole_views.Holds := by
 exact MX.zlJ (H:=MX.zsn MX.K20.xb MX.K20.ms MX.K20.defs MX.K20.blt "tree_over" (MX.K20.top 45)) (q:=MX.K20.seen) (d:=MX.K20.lawRec) MX.K20.p1 MX.K20.left MX.K20.p2 MX.K20.p3 MX.K20.p4 MX.K20.p5 MX.K20.p6 (by w_witness2) MX.K20.call
#print axioms PySem.Challenge.cw_firsthit_k20_whole_views_holds
end
