import PyProof.Rows.All
import Wide.All
import OpenK.AllK
import Wide.FinOn
import PyProof.EqAt
import PyProof.EqKinds
import PyProof.TupleCall
import KE.KIsAll
import PyProof.DictRoadsH
import PyProof.DictItems
import KE.KMinKey
import KE.KSortTup
import PyProof.EnumFor
import PyProof.EnumMake
import PyProof.EnumStmt
import PyProof.Rows.SeqMore2
import PyProof.Rows.StrWeight2
import Open.Pieces
import PySem.Challenge.RW_firsthit_k17_whole_every_of_a_scene
abbrev fj:=@List.getElem?_eq_some_iff
abbrev cM:=@List.mem_cons_of_mem
abbrev fG:=@List.mem_cons_self
abbrev di:=@Nat.lt_of_lt_of_le
abbrev cN:=@PySem.Heap.get?_push_of_some
abbrev fO:=@Bool.false_ne_true
abbrev vG:=@Nat.le_of_ble_eq_true
abbrev gU:=@PySem.mem_of_lookup
abbrev cG:=@Bool.and_eq_true
abbrev bM:=@Option.bind_some
abbrev cX:=@List.length_map
abbrev dw:=@List.size_toArray
abbrev jE:=@List.length_append
abbrev f9:=@List.append_assoc
abbrev gR:=@List.getElem?_map
abbrev qD:=@Int.fmod_nonneg_of_pos
abbrev tU:=@Int.fmod_lt_of_pos
abbrev gw:=@Nat.lt_irrefl
abbrev lB:=@List.mem_append
abbrev jb:=@List.length_cons
abbrev tV:=@List.map_append
abbrev lW:=@List.getElem?_append_left
abbrev Ac:=@List.getElem?_append_right
abbrev gq:=@PySem.Heap.get?_push_size
abbrev aC:=@PySem.wpAny_bind
abbrev bN:=@PySem.wpAny_pure
abbrev iI:=@PySem.wpAny_mono
abbrev b7:=@PySem.Heap.lt_size
abbrev bT:=@Nat.le_refl
abbrev jN:=@List.all_cons
abbrev fM:=@List.getElem?_eq_getElem
abbrev Ab:=@List.length_nil
abbrev vz:=@List.length_take
abbrev m8:=@Option.map_some
abbrev lV:=@Bool.or_eq_true
abbrev vy:=@Nat.le_of_lt
abbrev cW:=@Nat.ne_of_lt
abbrev Aa:=@PySem.Heap.get?_update_other
abbrev Fe:=@PySem.Heap.get?_update_self
abbrev pO:=@List.take_length
abbrev qC:=@List.mem_nil_iff
abbrev tL:=@decide_eq_true_eq
abbrev iZ:=@List.lookup_cons
abbrev iC:=@List.map_cons
abbrev vq:=@List.nil_append
abbrev kh:=@List.getElem?_eq_none
def aR{α β:Type _}{f:α→β}{x:Option α}{b:β}:x.map f=some b↔∃a,x=some a∧f a=b:=Option.map_eq_some_iff
def aU{α β:Type _}{f:α→Option β}{x:Option α}{b:β}:x.bind f=some b↔∃a,x=some a∧f a=some b:=Option.bind_eq_some_iff
noncomputable section
abbrev FgA:=PySem.W.Frag
set_option Elab.async false
set_option compiler.extract_closed false
set_option linter.all false
set_option maxRecDepth 100000
set_option maxHeartbeats 0
section
namespace MX
open PySem PySem.Spec PySem.W PyProof.Rows
def qQ(a:Addr)(o:Obj):Bool:=match o.data with
 |.freed=>false
 |.dict _ _=>true
 |_=>match o.cls with
  |.none=>Nat.beq a 3
  |_=>true
noncomputable def qW:List Obj->Addr->FgA
 |[],_=>[]
 |o::r,a=>bif qQ a o then(a,o)::qW r (Nat.succ a) else qW r (Nat.succ a)
def iQ(h:Heap):FgA:=qW h.objs.toList 0
noncomputable def Al(K:FgA)(x:Str):Option (Arguments×List Stmt×Scope×Bool):=match nsIn K mainGlobals x with
 |some (some (.ref f))=>match K.lookup f with
  |some ⟨_,_,.func ⟨n,q,ps,.stmts b,sc,g,[],.none,_,_,_,_,cd,_,bn⟩,_⟩=>some (ps,b,sc,n==x&&(q==x&&(Nat.beq g mainGlobals&&(Nat.beq bn builtinsNs&&(codeIn K cd x&&keepIn K (.ref f))))))
  |_=>none
 |_=>none
noncomputable def Gd(K:FgA)(h:Heap)(x:Str):Option Obj×Bool:=match nsIn K mainGlobals x with
 |some (some (.ref f))=>match K.lookup f with
  |some ⟨_,_,.func F,_⟩=>match F.code with
   |.ref c=>match K.lookup c with
    |some ⟨_,_,.fields vs,_⟩=>match(vs[11]?:Option Value) with
     |some (.ref P)=>(h.get? P,codeHdIn K c P&&(K.lookup P).isNone)
     |_=>(none,false)
    |_=>(none,false)
   |_=>(none,false)
  |_=>(none,false)
 |_=>(none,false)
def dA(s:Stmt):Arguments:=match s with
 |.FunctionDef _ a _ _ _ _ _ _ _ _=>a
 |_=>{ posonlyargs:=[],args:=[],vararg:=none,kwonlyargs:=[],kw_defaults:=[],kwarg:=none,defaults:=[] }
def dB(s:Stmt):List Stmt:=match s with
 |.FunctionDef _ _ b _ _ _ _ _ _ _=>b
 |_=>[]
def dS(s:Stmt):Scope:=match s with
 |.FunctionDef _ _ _ _ _ _ c _ _ _=>c
 |_=>{ kind := .function,names:=[],isGenerator:=false,isCoroutine:=false }
def yd(s:Stmt):Pos:=match s with
 |.FunctionDef _ _ _ _ _ _ _ _ _ p=>p
 |_=>⟨0,0,0,0⟩
def Qg(ds:List (Str×Stmt))(blt:List Str)(s:Shared):List (Option (Arguments×List Stmt×Scope×Bool))×List (Option (Option Value)):=(ds.map λy=>Al (iQ s.heap) y.1,blt.map λy=>nsIn (iQ s.heap) mainGlobals y)
def tW(ds:List (Str×Stmt))(blt:List Str):List (Option (Arguments×List Stmt×Scope×Bool))×List (Option (Option Value)):=(ds.map λy=>some (dA y.2,dB y.2,dS y.2,true),blt.map λ_=>some none)
def Qf(ds:List (Str×Stmt))(blt:List Str)(x:Str)(s:Shared):(List (Option (Arguments×List Stmt×Scope×Bool))×List (Option (Option Value)))×Option (Arguments×List Stmt×Scope×Bool)×(Option Obj×Bool):=(Qg ds blt s,Al (iQ s.heap) x,Gd (iQ s.heap) s.heap x)
def O6(ds:List (Str×Stmt))(blt:List Str)(st:Stmt):(List (Option (Arguments×List Stmt×Scope×Bool))×List (Option (Option Value)))×Option (Arguments×List Stmt×Scope×Bool)×(Option Obj×Bool):=(tW ds blt,some (dA st,dB st,dS st,true),(some (tabObj #[]),true))
abbrev gG:List Value:=[.type "ValueError",.type "Exception",.type "BaseException",.type "object"]
def wn:Nat->Str
 |0 => "NoRay"
 |1 => "NoShape"
 |2 => "NotClosed"
 |_ => "BadRow"
noncomputable def vP(K:FgA)(D:Addr):Bool :=
 (findIn K (.ref D) "__getattribute__" == some (some (.builtin "BaseException.__getattribute__"))&&(findIn K (.ref D) "__getattr__" == some none&&mroIn K D (.type "BaseException")==some true))&&((clsIn K D).isSome&&(findIn K (.ref D) "__class__" == some (some (.builtin "object.__class__")) &&
  (specialIn K (.builtin "object.__class__") "__get__" == some (some (.builtin "getset_descriptor.__get__"))&&(takesIn K (.builtin "object.__class__")==some true&&mroIn K D (.type "object")==some true))))
def cj(K:FgA)(x:Str):Addr:=match nsIn K mainGlobals x with
 |some (some (.ref a))=>a
 |_=>0
noncomputable def gY(K:FgA)(x:Str):Addr:=match nsIn K mainGlobals x with
 |some (some (.ref f))=>match K.lookup f with
  |some ⟨_,_,.func F,_⟩=>match F.code with
   |.ref c=>match K.lookup c with
    |some ⟨_,_,.fields vs,_⟩=>match(vs[11]?:Option Value) with
     |some (.ref P)=>P
     |_=>0
    |_=>0
   |_=>0
  |_=>0
 |_=>0
noncomputable def Rf(K:FgA)(i:Nat):Bool:=(vP K (cj K (wn i))&&excIn K (cj K (wn i)) gG "ValueError.__new__")&&(mroIn K (cj K (wn i)) (.ref (cj K "HitError"))==some true &&
 (kitOne K (.ref (cj K (wn i))) (.ref (cj K "HitError"))==some true&&(kitOne K (.ref (cj K (wn i))) (.type "ValueError")==some true &&
  ((List.range 4).all (λj=>kitOne K (.ref (cj K (wn i))) (.ref (cj K (wn j)))==some (decide (i=j)))&&nsIn K mainGlobals (wn i)==some (some (.ref (cj K (wn i))))))))
def sV(K:FgA):Bool:=(List.range 4).all (Rf K)&&((nsIn K mainGlobals "HitError" == some (some (.ref (cj K "HitError")))&&excIn K (cj K "HitError") gG "ValueError.__new__")&&(nsIn K mainGlobals "isinstance" == some none&&nsIn K mainGlobals "ValueError" == some none))
def oX(K:FgA)(D:Addr):Bool:=findIn K (.ref D) "__str__" == some (some (.builtin "BaseException.__str__"))&&mroIn K D (.type "BaseException")==some true
def excB2(K:FgA):Bool:=sV K&&(List.range 4).all λi=>keepIn K (.ref (cj K (wn i)))&&oX K (cj K (wn i))
def obsX(xb:FgA->Bool)(ds:List (Str×Stmt))(blt:List Str)(x:Str)(s:Shared):((List (Option (Arguments×List Stmt×Scope×Bool))×List (Option (Option Value)))×Option (Arguments×List Stmt×Scope×Bool)×(Option Obj×Bool))×Bool:=(Qf ds blt x s,xb (iQ s.heap))
def valX(ds:List (Str×Stmt))(blt:List Str)(st:Stmt):((List (Option (Arguments×List Stmt×Scope×Bool))×List (Option (Option Value)))×Option (Arguments×List Stmt×Scope×Bool)×(Option Obj×Bool))×Bool:=(O6 ds blt st,true)
noncomputable def JB(K:FgA)(C m:Str):Option (Arguments×List Stmt×Scope×Bool):=match findIn K (.ref (cj K C)) m with
 |some (some (.ref f))=>match K.lookup f with
  |some ⟨_,_,.func ⟨n,q,ps,.stmts b,sc,g,[],.none,_,_,_,_,cd,_,bn⟩,_⟩=>some (ps,b,sc,n==m&&(q==C ++ "." ++ m&&(Nat.beq g mainGlobals&&(Nat.beq bn builtinsNs&&(codeIn K cd (C ++ "." ++ m)&&(keepIn K (.ref f)&&isFn K (.ref f)))))))
  |_=>none
 |_=>none
noncomputable def tQ(K:FgA)(C:Str)(fs:List Str):Bool:=(plainGet K (cj K C) Str.empty&&(hasDictIn K (cj K C)&&(plainOver K (cj K C)&&findIn K (.ref (cj K C)) "__setattr__" == some (some (.builtin "object.__setattr__"))))) &&
 ((makesIn K (cj K C)&&(keepIn K (.ref (cj K C))&&nsIn K mainGlobals C==some (some (.ref (cj K C)))))&&fs.all λf=>findIn K (.ref (cj K C)) f==some none)
noncomputable def wV(K:FgA)(x y:Str):Bool:=match nsIn K mainGlobals x with
 |some (some (.str z _))=>z==y
 |_=>false
noncomputable def Ja(os:List Obj)(cd:Value)(x:Str):Bool:=match cd with
 |.ref c=>(match os[c]? with
  |some o=>(match o.data with
   |.fields vs=>(match o.cls with
    |.none=>false
    |_=>(match vs.toList with | _ :: .str n _::_=>n==x | _=>false))
   |_=>false)
  |none=>false)
 |_=>false
noncomputable def Jz(K:FgA)(os:List Obj)(x:Str):Option (Arguments×List Stmt×Scope×Bool):=match nsIn K mainGlobals x with
 |some (some (.ref f))=>match os[f]? with
  |some o=>match o.data with
   |.func ⟨n,q,ps,.stmts b,sc,g,[],.none,_,_,_,_,cd,_,bn⟩=>(match o.cls with
    |.none=>none
    |_=>some (ps,b,sc,n==x&&(q==x&&(Nat.beq g mainGlobals&&(Nat.beq bn builtinsNs&&Ja os cd x)))))
   |_=>none
  |none=>none
 |_=>none
def t7(ds:List (Str×Stmt))(blt:List Str)(s:Shared):List (Option (Arguments×List Stmt×Scope×Bool))×List (Option (Option Value)):=(ds.map λy=>Jz (iQ s.heap) s.heap.objs.toList y.1,blt.map λy=>nsIn (iQ s.heap) mainGlobals y)
abbrev yC:=Option (Arguments×List Stmt×Scope×Bool)
def Ag(ys:List Str)(s:Shared):List (yC×(Option Obj×Bool)):=ys.map λy=>(Al (iQ s.heap) y,Gd (iQ s.heap) s.heap y)
def Fy(ts:List (Str×Stmt)):List (yC×(Option Obj×Bool)):=ts.map λy=>(some (dA y.2,dB y.2,dS y.2,true),(some (tabObj #[]),true))
def su(xb:FgA->Bool)(ms:List (Str×Str×Stmt))(s:Shared):List yC×Bool:=(ms.map λy=>JB (iQ s.heap) y.1 y.2.1,xb (iQ s.heap))
def wK(ms:List (Str×Str×Stmt)):List yC×Bool:=(ms.map λy=>some (dA y.2.2,dB y.2.2,dS y.2.2,true),true)
end MX
end
section
namespace MX
open PySem PySem.Spec PySem.W PyProof.Rows
noncomputable def tQ1:List Obj->BT->Nat->Option (BT×Nat)
 |[],T,n=>some (T,n)
 |o::r,T,n=>match((T.ins n o).get n).isSome with
  |true=>tQ1 r (T.ins n o) (n+1)
  |false=>none
theorem tQ2{v:Life}:∀{l:List Obj}{T:BT}{n:Nat}{T':BT}{n':Nat}{a:Array Obj},absHeap T n v=⟨a,v⟩->tQ1 l T n=some (T',n')->absHeap T' n' v=⟨a++l.toArray,v⟩
 |[],T,n,T',n',a,e,h=>by cases h;rw[e];simp
 |o::r,T,n,T',n',a,e,h=>by
  unfold tQ1 at h;split at h
  . rename_i g;have e2:absHeap (T.ins n o) (n+1) v=⟨a.push o,v⟩:=by rw[absHeap_ins g,e];rfl
    rw[tQ2 e2 h];simp
  . cases h
noncomputable def tQ3(p:Program)(w:World)(m:Nat)(z:Option Value):Nat->SharedT->Thread->Option SharedT
 |0,_,_=>none
 |n+1,s,t=>match through t with
  |true=>some s
  |false=>match stepOk m z t with
   |false=>none
   |true=>match stepT (denote treeTable) p w s t with
    |some (s',t')=>tQ3 p w m z n s' t'
    |none=>none
theorem tQ4{p:Program}{w:World}{m:Nat}{z:Option Value}:∀{n:Nat}{s s':SharedT}{t:Thread},tQ3 p w m z n s t=some s'->topRun treeTable p w m z n s.abs t=some s'.abs
 |0,_,_,_,h=>by cases h
 |n+1,s,s',t,h=>by
  unfold tQ3 at h;unfold topRun;cases ht:through t with
  |true=>rw[ht] at h;cases h;rfl
  |false=>
   rw[ht] at h;cases hk:stepOk m z t with
   |false=>rw[hk] at h;cases h
   |true=>
    rw[hk] at h;cases hs:stepT (denote treeTable) p w s t with
    |none=>rw[hs] at h;cases h
    |some r=>obtain⟨s₂,t₂⟩:=r;rw[hs] at h;rw[stepT_spec hs];exact tQ4 h
noncomputable def tQ5(p:Program)(w:World)(N:Nat)(os:OsState):Option SharedT:=let b:=boot_heap w.params;match b.isNs mainGlobals with
 |false=>none
 |true=>(tQ1 b.objs.toList .nil 0).bind λx=>(tQ3 p w b.objs.size (b.nsMap mainGlobals "__annotations__") N ⟨x.1,x.2,b.life,#[],boot_drawn,boot_toks,os⟩ (topStub p)).bind λs=>match staticsOk (importedModules p.main.body) b s.abs.heap&&namesBound p s.abs.heap&&gensDone s.abs&&laidKept b s.abs.heap with
  |true=>some s
  |false=>none
theorem tQ6{p:Program}{w:World}{N:Nat}{α:Type}{look:Shared->α}{a:α}(e:opening p=plainProg p.main.scope.names)(hN:Nat.ble 600 N=true)(f:∀s,fenceModules? p s=some s)(h:∀os,(tQ5 p w N os).map (λs=>look s.abs)=some a):(openEnds treeTable p w N).map look=some a:=by
 obtain⟨⟨hp,gs,d,k,os⟩,e1,e2⟩:=Option.map_eq_some_iff.mp (boot_open e hN f w);obtain⟨rfl,rfl,rfl,rfl⟩:hp=boot_heap w.params∧gs=#[]∧d=boot_drawn∧k=boot_toks:=by simpa using e2
 obtain⟨s,h1,h2⟩:=Option.map_eq_some_iff.mp (h os);unfold tQ5 at h1;dsimp only at h1;split at h1
 . cases h1
 . rename_i hns;obtain⟨⟨T,n⟩,h3,h4⟩:=Option.bind_eq_some_iff.mp h1;obtain⟨s₂,h5,h6⟩:=Option.bind_eq_some_iff.mp h4;split at h6
   . rename_i hst;cases h6;have z:absHeap T n (boot_heap w.params).life=boot_heap w.params:=by have:=tQ2 (v:=(boot_heap w.params).life) (a:=#[]) rfl h3;rw[this];simp
     have r:=tQ4 h5;rw[show SharedT.abs ⟨T,n,(boot_heap w.params).life,#[],boot_drawn,boot_toks,os⟩=⟨boot_heap w.params,#[],boot_drawn,boot_toks,os⟩ by unfold SharedT.abs;dsimp only;rw[z]] at r
     unfold openEnds;rw[e1];show((topFrom treeTable p w N _)).map look=_;unfold topFrom;dsimp only;rw[hns,r];show(match(_:Bool) with|true=>some s.abs|false=>none).map look=_;rw[hst];exact congrArg some h2
   . cases h6
end MX
end
section
namespace MX.K17
open PySem PySem.Spec PySem.W PyProof.Rows MX
abbrev PP:Program:=PySem.Challenge.pw_firsthit_k17_whole_every_of_a_scene
abbrev PG:Program:=PySem.Challenge.rw_firsthit_k17_whole_every_of_a_scene.prog
def top(i:Nat):Stmt:=PP.main.body.getD i (.Pass ⟨0,0,0,0⟩)
def qm(i j:Nat):Stmt:=match top i with
 |.ClassDef _ _ _ b _ _ _ _ _ _ _=>b.getD j (.Pass ⟨0,0,0,0⟩)
 |_ => .Pass ⟨0,0,0,0⟩
noncomputable def blt:List Str:=["len", "abs", "min", "max", "isinstance", "all", "any", "sum", "sorted", "tuple", "list", "range", "zip", "int", "bool", "str", "enumerate"]
def nm(s:Stmt):Str:=match s with
 |.FunctionDef n _ _ _ _ _ _ _ _ _=>n
 |_ => ""
noncomputable def ix1:List Nat:=[48,47,55,51,53,52,54,15,16,38,40,30,31,32,35,56,29,17,10,18]
noncomputable def ix2:List Nat:=[8,9,19,13,11,21,12,22,23,24,25,26,27,33,34,50,59,41,49,57,58]
def Jb:List (Str×Stmt):=ix1.map λi=>(nm (top i),top i)
def Jc:List (Str×Stmt):=ix2.map λi=>(nm (top i),top i)
abbrev defs:List (Str×Stmt):=Jb++Jc
noncomputable def ms:List (Str×Str×Stmt):=[("Tree", "__init__",qm 37 0),("Scene", "__init__",qm 45 0),("Scene", "hits",qm 45 6),("Scene", "every",qm 45 8)]
def xb(K:Frag):Bool:=tQ K "Tree" ["box", "number", "halves"]&&tQ K "Scene" ["kept", "tree"]&&sV K&&decide ((["tree_over", "in_order", "law"]:List Str).map (gY K)).Nodup
def ts:List (Str×Stmt):=[("tree_over",top 39),("in_order",top 44),("law",top 60)]
def seen:Program:=view PP [60]
noncomputable def loose:List Str:=(["_wall", "HitError", "NoRay", "NoShape", "NotClosed", "BadRow", "common_divisor", "lowest_terms", "is_less", "way_between", "dot", "cross", "numbers_at", "box_around", "times_between", "span_in", "meets_box", "edges_of", "meets_along", "meets_segment", "meets_edges", "goes_through", "meets_within_plane", "meets_triangle", "refuse_standing", "are_in_order", "is_shape", "refuse_no_shape", "time_at", "meets", "bounds", "Tree", "widest_place", "tree_over", "tree_about", "numbers_along", "is_sooner", "in_order", "Scene", "_law_cell", "_law_drawn", "_law_whole", "_law_less", "_law_spot", "_law_put", "_law_plain", "_law_shape", "_law_many", "_law_ray", "_law_word", "_law_told", "_law_all_due"]:List String).map Str.ofString
def lawRec:DefRec:=⟨"law",dA (top 60),dB (top 60),dS (top 60),yd (top 60)⟩
theorem tQ7:opening PP=plainProg PP.main.scope.names:=by kernel_rfl
theorem tQ8:∀s,fenceModules? PP s=some s:=by intro s;kernel_rfl
def leftA:LeftO PP seen loose (λ_=>true) (λ_=>()) (λ_=>()) 5856:=λw=>tQ6 tQ7 rfl tQ8 λos=>by kernel_rfl
def leftB1:∀w,(openEnds treeTable PP w 5856).map (t7 Jb blt)=some (tW Jb blt):=λw=>tQ6 tQ7 rfl tQ8 λos=>by kernel_rfl
def leftB2:∀w,(openEnds treeTable PP w 5856).map (t7 Jc [])=some (tW Jc []):=λw=>tQ6 tQ7 rfl tQ8 λos=>by kernel_rfl
def leftC1:∀w,(openEnds treeTable PP w 5856).map (Ag (ts.map (·.1)))=some (Fy ts):=λw=>tQ6 tQ7 rfl tQ8 λos=>by kernel_rfl
def leftC2:∀w,(openEnds treeTable PP w 5856).map (su xb ms)=some (wK ms):=λw=>tQ6 tQ7 rfl tQ8 λos=>by kernel_rfl
abbrev LW:=PySem.Challenge.rw_firsthit_k17_whole_every_of_a_scene
def p1:LW.wellSaid=true:=by kernel_rfl
def p2:defOf seen LW.name=some (lawRec,[]):=by kernel_rfl
def p3:LW.prog.theDef LW.name=some (lawRec.params,lawRec.body,lawRec.scope):=by kernel_rfl
def p4:kwWritten? lawRec.params.kwonlyargs lawRec.params.kw_defaults=some []:=by kernel_rfl
def p5:(chainsOk seen&&opensWell LW.prog&&(frees LW.row.toRowW&&LW.row.within.isEmpty))=true:=by kernel_rfl
def p6:LW.prog.bare:=⟨rfl,rfl,rfl,rfl,rfl,by decide +kernel⟩
end MX.K17
end
section
namespace L2
open PySem PySem.Spec PyProof.Rows
abbrev Key:=Sum Int Str
def uU:Key->Value->Bool
 |.inl k,v=>Value.isInt k v
 |.inr x,v=>Value.isStrOf x v
noncomputable def lZ(w:World):Key->Int
 |.inl k=>hashInt k
 |.inr x=>hashStr w x
theorem rJ:∀{k:Key} {v:Value},uU k v=true->(∃i t,k=Sum.inl i/\v=Value.int i t)\/(∃x t,k=Sum.inr x/\v=Value.str x t)
 |.inl i,v,h=>by obtain⟨t,e⟩:=Value.isInt_shape (k:=i) (v:=v) h;exact .inl ⟨i,t,rfl,e⟩
 |.inr x,v,h=>by obtain⟨t,e⟩:=Value.isStrOf_shape (x:=x) (v:=v) h;exact .inr ⟨x,t,rfl,e⟩
theorem Zj(a b:Int):decide ((Sum.inl a:Key)=Sum.inl b)=(a==b):=by
 by_cases e:a=b
 .subst e;simp
 .have h:¬(Sum.inl a:Key)=Sum.inl b:=λq=>e (Sum.inl.inj q);rw[decide_eq_false h];exact(beq_eq_false_iff_ne.mpr e).symm
theorem Zn(a b:Str):decide ((Sum.inr a:Key)=Sum.inr b)=decide (a=b):=by
 by_cases e:a=b
 .subst e;simp
 .have h:¬(Sum.inr a:Key)=Sum.inr b:=λq=>e (Sum.inr.inj q);rw[decide_eq_false h,decide_eq_false e]
def Zk(a:Int)(b:Str):decide ((Sum.inl a:Key)=Sum.inr b)=false:=decide_eq_false (λq=>nomatch q)
def Zm(a:Str)(b:Int):decide ((Sum.inr a:Key)=Sum.inl b)=false:=decide_eq_false (λq=>nomatch q)
noncomputable def JD(prog:Program)(w:World):PySem.KeyKind prog w Key where
 is:=uU
 hash:=lZ w
 inj:=λv a b ha hb=>by
  rcases rJ ha with⟨i,t,rfl,rfl⟩|⟨x,t,rfl,rfl⟩
  .rcases rJ hb with⟨j,u,rfl,e⟩|⟨y,u,rfl,e⟩
   .injection e with e1 _;rw[e1]
   .exact nomatch e
  .rcases rJ hb with⟨j,u,rfl,e⟩|⟨y,u,rfl,e⟩
   .exact nomatch e
   .injection e with e1 _;rw[e1]
 byValue:=λk v h=>by rcases rJ h with⟨i,t,rfl,rfl⟩|⟨x,t,rfl,rfl⟩<;>rfl
 pyHash:=λhv h=>by
  rcases rJ hv with⟨i,t,rfl,rfl⟩|⟨x,t,rfl,rfl⟩
  .exact wpAny_pyHash_int h
  .exact wpAny_pyHash_str h
 eqBool:=λhu hv h=>by
  rcases rJ hu with⟨i,t,rfl,rfl⟩|⟨x,t,rfl,rfl⟩
  .rcases rJ hv with⟨j,u,rfl,rfl⟩|⟨y,u,rfl,rfl⟩
   .rw[Zj] at h;exact wpAny_eqBool_int h
   .rw[Zk] at h;exact SeqAt.EqAt.int_str i t y u _ _ _ _ h
  .rcases rJ hv with⟨j,u,rfl,rfl⟩|⟨y,u,rfl,rfl⟩
   .rw[Zm] at h;exact SeqAt.EqAt.str_int x t j u _ _ _ _ h
   .rw[Zn] at h;exact wpAny_eqBool_str h
 «strs»:=λk x t v h=>by
  rcases rJ h with⟨i,u,rfl,e⟩|⟨y,u,rfl,e⟩
  .exact nomatch e
  .injection e with e1 _;subst e1;cases v<;>rfl
inductive V where
 |non|bl (b:Bool)|int (i:Int)|str (x:Str)|byt (b:Array UInt8)|flt (b:UInt64)|ref (a:Addr)|ty (n:String)
 deriving DecidableEq
noncomputable def RelV:V->Value->Prop
 |.non,u=>u=Value.none
 |.bl b,u=>u=Value.bool b
 |.int i,u=>∃t,u=Value.int i t
 |.str x,u=>∃t,u=Value.str x t
 |.byt b,u=>∃t,u=Value.bytes b t
 |.flt b,u=>∃t,u=Value.float b t
 |.ref a,u=>u=Value.ref a
 |.ty n,u=>u=Value.type n
abbrev Vals:List V->List Value->Prop:=Paired RelV
def Vals.length{xs:List V}{us:List Value}(r:Vals xs us):xs.length=us.length:=Paired.length r
theorem Vals.get:∀{xs:List V} {us:List Value} {i:Nat} {x:V},Vals xs us->xs[i]?=some x->∃u,us[i]?=some u/\RelV x u
 |_,_,_,_,.nil,e=>by simp at e
 |_,_,0,_,.cons r _,e=>by simp at e;subst e;exact⟨_,rfl,r⟩
 |_,_,i+1,x,.cons _ t,e=>by obtain⟨u,h1,h2⟩:=Vals.get (i:=i) (x:=x) t (by simpa using e);exact⟨u,by simpa using h1,h2⟩
def Vals.append:∀{xs ys:List V} {us ws:List Value},Vals xs us->Vals ys ws->Vals (xs++ys) (us++ws)
 |_,_,_,_,.nil,s=>s
 |_,_,_,_,.cons r t,s => .cons r (Vals.append t s)
def Vals.take:∀{xs:List V} {us:List Value} (n:Nat),Vals xs us->Vals (xs.take n) (us.take n)
 |_,_,0,_ => .nil
 |_,_,_+1,.nil => .nil
 |_,_,n+1,.cons r t => .cons r (Vals.take n t)
def Vals.drop:∀{xs:List V} {us:List Value} (n:Nat),Vals xs us->Vals (xs.drop n) (us.drop n)
 |_,_,0,r=>r
 |_,_,_+1,.nil => .nil
 |_,_,n+1,.cons _ t=>Vals.drop n t
theorem Vals.none_of:∀{xs:List V} {us:List Value} {i:Nat},Vals xs us->xs[i]?=none->us[i]?=none:=λ{xs us i} r e=>by have h1:=r.length;have h2:xs.length<=i:=List.getElem?_eq_none_iff.mp e;exact List.getElem?_eq_none_iff.mpr (by omega)
def iY:Option V->Option Value->Prop
 |some v,some u=>RelV v u
 |none,none=>True
 |_,_=>False
def KV{κ:Type}:List (κ×V)->List (κ×Value)->Prop:=Paired fun(p:κ×V) (q:κ×Value)=>p.1=q.1/\RelV p.2 q.2
def kV:Key->V
 |.inl i => .int i
 |.inr x => .str x
inductive HO where
 |lst (xs:List V)
 |tup (xs:List V)
 |dK (kvs:List (Key×V))|dT (kvs:List (List Key×V))
 |set (S:Int->Bool) (n:Nat)
 |ins (C dx:Addr) (fs:List (Str×V))
 |own (x:Addr)
 |xd (fs:List (Str×V))
 |met (f x:Addr)
 |rng (lo hi:Int)
 |frz (o:Obj) (u:HO)
 |tbl (ps:Array Value)
 |ext (φ:Heap->Prop)
abbrev Hp:=Addr->Option HO
def upd(H:Hp)(a:Addr)(o:HO):Hp:=λb=>if b=a then some o else H b
def dI{H:Hp}{a:Addr}{o:HO}:upd H a o a=some o:=by unfold upd;rw[if_pos rfl]
def bQ{H:Hp}{a b:Addr}{o:HO}(h:b≠a):upd H a o b=H b:=by unfold upd;rw[if_neg h]
def Ge{H:Hp}{a b:Addr}{o u:HO}(h:H a=some o)(h':H b=some u)(d:o≠u):a≠b:=by intro e;subst e;rw[h] at h';exact d (Option.some.inj h')
def fH{H:Hp}{a b:Addr}{o:HO}(h:H a=some o)(h':H b=none):a≠b:=by intro e;subst e;rw[h] at h';cases h'
section
variable (P:Program)(w:World)
noncomputable def bJ(H:Hp)(h:Heap)(a:Addr):HO->Prop
 |.lst xs=>xs.length<=sizeLine/\∃(its:List Value) (n:Nat),Vals xs its/\h.get? a=some { cls := .type "list",data := .seq its.toArray n }
 |.tup xs=>xs.length<=sizeLine/\∃its:List Value,Vals xs its/\IsTup h a its.toArray
 |.dK kvs=>kvs.length<=sizeLine/\(a==sysModules)=false/\∃vs,KV kvs vs/\h.DictOf (JD P w) a vs
 |.dT kvs=>kvs.length<=sizeLine/\(a==sysModules)=false/\∃xs:List (List Key×Addr×Value),
  Paired (fun(p:List Key×V) (q:List Key×Addr×Value)=>p.1=q.1/\H q.2.1=some (.tup (p.1.map kV))/\RelV p.2 q.2.2) kvs xs /\
  ∃o es ep,h.get? a=some o/\o.ExactDict/\o.data = .dict es ep/\es.toList=xs.map (entryOfKey (tupleKind (JD P w)))/\(xs.map (·.1)).Nodup
 |.set S n=>h.SetOf (intKind P w) a S n
 |.ins C dx fs=>H dx=some (.own a)/\fs.length<=1000/\dx≠a/\h.get? a=some (PySem.W.instObj C dx) /\
  ∃mA,h.Ns1 dx mA/\(∀f,iY (fs.lookup f) (mA f))/\PySem.Within mA (fs.map (·.1))
 |.own _=>∃o,h.get? a=some o
 |.xd fs=>∃mA,h.Ns1 a mA/\∀f,iY (fs.lookup f) (mA f)
 |.rng lo hi=>∃t u v,h.get? a=some { cls := .type "range",data := .fields #[.int lo t,.int hi u,.int 1 v] }
 |.frz o u=>h.get? a=some o/\bJ H h a u
 |.tbl ps=>h.get? a=some { cls := .none,data := .fields ps }/\TriplesOk ps.toList/\∀pos cv,codeAmong pos ps.toList=some cv->∃c q oc vs t,cv=Value.ref c/\H c=some (.own a)/\h.get? c=some oc/\oc.data = .fields vs/\vs[1]?=some (.str q t)
 |.met f x=>h.get? a=some (PySem.W.methodObj (.ref f) (.ref x))
 |.ext φ=>φ h/\(∃o,h.get? a=some o)/\∀h1 h2:Heap,φ h1->(∀o,h1.get? a=some o->h2.get? a=some o)->φ h2
def fD(H:Hp)(h:Heap):Prop:=∀a o,H a=some o->bJ P w H h a o
end
section
variable {P:Program}{w:World}{H H':Hp}{h h':Heap}{a:Addr}{o:HO}
theorem bJ.lt(x:bJ P w H h a o):a<h.objs.size:=by
 cases o with
 |lst xs=>obtain⟨_,_,_,_,e⟩:=x;exact b7 e
 |tup xs=>obtain⟨_,_,_,p⟩:=x;exact p.lt
 |dK kvs=>obtain⟨_,_,_,_,o,_,_,e,_⟩:=x;exact b7 e
 |dT kvs=>obtain⟨_,_,_,_,o,_,_,e,_⟩:=x;exact b7 e
 |set S n=>obtain⟨o,_,_,_,e,_⟩:=x;exact b7 e
 |ins C dx fs=>obtain⟨_,_,_,e,_⟩:=x;exact b7 e
 |own y=>obtain⟨_,e⟩:=x;exact b7 e
 |xd fs=>obtain⟨_,⟨_,_,_,e,_⟩,_⟩:=x;exact b7 e
 |rng lo hi=>obtain⟨_,_,_,e⟩:=x;exact b7 e
 |frz ob u=>obtain⟨e,_⟩:=x;exact b7 e
 |tbl ps=>exact b7 x.1
 |met f y=>exact b7 (show h.get? a=some _ from x)
 |ext φ=>obtain⟨_,⟨_,e⟩,_⟩:=x;exact b7 e
def Paired.mapP{α β:Type}{F G:α->β->Prop}:∀{l₁:List α} {l₂:List β},Paired F l₁ l₂->(∀a b,F a b->G a b)->Paired G l₁ l₂
 |_,_,.nil,_ => .nil
 |_,_,.cons r t,f => .cons (f _ _ r) (Paired.mapP t f)
theorem bJ.stay(x:bJ P w H h a o)(k:∀b u,(b=a\/H b=some (.own a))->h.get? b=some u->h'.get? b=some u)(ho:∀b,H b=some (.own a)->H' b=some (.own a))(ht:∀b xs,H b=some (.tup xs)->H' b=some (.tup xs)):bJ P w H' h' a o:=by
 induction o with
 |lst xs=>obtain⟨z,its,n,r,e⟩:=x;exact⟨z,its,n,r,k _ _ (.inl rfl) e⟩
 |tup xs=>obtain⟨z,its,r,ob,e,c⟩:=x;exact⟨z,its,r,ob,k _ _ (.inl rfl) e,c⟩
 |dK kvs=>obtain⟨z,y,vs,r,ob,es,ep,e,c⟩:=x;exact⟨z,y,vs,r,ob,es,ep,k _ _ (.inl rfl) e,c⟩
 |dT kvs =>
  obtain⟨z,y,xs,r,ob,es,ep,e,c⟩:=x;exact⟨z,y,xs,Paired.mapP r λp q z=>⟨z.1,ht _ _ z.2.1,z.2.2⟩,ob,es,ep,k _ _ (.inl rfl) e,c⟩
 |set S n=>obtain⟨ob,es,ep,t,e,c⟩:=x;exact⟨ob,es,ep,t,k _ _ (.inl rfl) e,c⟩
 |ins C dx fs =>
  obtain⟨d,z,ne,e,mA,⟨od,es,ep,e2,c⟩,r⟩:=x;exact⟨ho _ d,z,ne,k _ _ (.inl rfl) e,mA,⟨od,es,ep,k _ _ (.inr d) e2,c⟩,r⟩
 |own y=>obtain⟨ob,e⟩:=x;exact⟨ob,k _ _ (.inl rfl) e⟩
 |xd fs=>obtain⟨mA,⟨od,es,ep,e,c⟩,r⟩:=x;exact⟨mA,⟨od,es,ep,k _ _ (.inl rfl) e,c⟩,r⟩
 |rng lo hi=>obtain⟨t,u,v,e⟩:=x;exact⟨t,u,v,k _ _ (.inl rfl) e⟩
 |frz ob u ih=>obtain⟨e,q⟩:=x;exact⟨k _ _ (.inl rfl) e,ih q⟩
 |tbl ps =>
  obtain⟨e,h1,h2⟩:=x;refine⟨k a _ (.inl rfl) e,h1,λpos cv q=>?_⟩;obtain⟨c,q,oc,vs,t,e1,e2,e3,e4⟩:=h2 pos cv q;exact⟨c,q,oc,vs,t,e1,ho _ e2,k _ _ (.inr e2) e3,e4⟩
 |met f y =>
  have e:h.get? a=some (PySem.W.methodObj (.ref f) (.ref y)):=x;show h'.get? a=some (PySem.W.methodObj (.ref f) (.ref y));exact k a _ (.inl rfl) e
 |ext φ=>obtain⟨p,⟨o,e⟩,st⟩:=x;exact⟨st _ _ p λo q=>k _ _ (.inl rfl) q,⟨o,k _ _ (.inl rfl) e⟩,st⟩
def fD.lt(x:fD P w H h)(e:H a=some o):a<h.objs.size:=(x a o e).lt
def fD.fresh(x:fD P w H h)(e:h.objs.size<=a):H a=none:=by
 cases q:H a with
 |none=>rfl
 |some u=>exact absurd (di (x.lt q) e) (gw _)
def fD.kept(x:fD P w H h)(k:∀b u,h.get? b=some u->h'.get? b=some u):fD P w H h':=λa o e =>
 (x a o e).stay (λb u _ q=>k b u q) (λ_ q=>q) λ_ _ q=>q
theorem fD.laid(x:fD P w H h)(k:∀b u,h.get? b=some u->h'.get? b=some u)(hp:h.objs.size<=a)(new:bJ P w (upd H a o) h' a o):fD P w (upd H a o) h':=λb u e=>by
 have hn:=x.fresh hp;by_cases hb:b=a
 .subst hb;rw[dI] at e;cases e;exact new
 .rw[bQ hb] at e;exact(x b u e).stay (λc v _ q=>k c v q) (λc q=>by rw[bQ (fH q hn)];exact q) λc xs q=>by rw[bQ (fH q hn)];exact q
end
def Rd(H:Hp)(a:Addr)(u:HO):Prop:=H a=some u\/∃o,H a=some (.frz o u)
theorem Rd.ok{P:Program}{w:World}{H:Hp}{h:Heap}{a:Addr}{u:HO}(r:Rd H a u)(x:fD P w H h):bJ P w H h a u:=by
 rcases r with r|⟨o,r⟩
 .exact x a u r
 .obtain⟨_,q⟩:=x a _ r;exact q
def Iz:Option HO->Prop
 |some (.lst _)=>True
 |some (.dK _)=>True
 |some (.dT _)=>True
 |some (.set _ _)=>True
 |some (.ins _ _ _)=>True
 |some (.ext _)=>True
 |_=>False
section
variable {P:Program}{w:World}{H:Hp}{h h':Heap}{x e:Addr}{o':HO}
theorem fD.write(ok:fD P w H h)(mu:Iz (H x))(he:e=x\/H e=some (.own x))(k:∀b u,b≠e->h.get? b=some u->h'.get? b=some u)(heo:∃u,h'.get? e=some u)(new:bJ P w (upd H x o') h' x o'):fD P w (upd H x o') h':=λb u q=>by
 have Dt:∀c y,H c=some (.own y)->c≠x:=λc y r z=>by subst z;rw[r] at mu;exact mu
 have Qh:∀c xs,H c=some (.tup xs)->c≠x:=λc xs r z=>by subst z;rw[r] at mu;exact mu
 by_cases hb:b=x
 .subst hb;rw[dI] at q;cases q;exact new
 .rw[bQ hb] at q;by_cases hbe:b=e
  .have q':H b=some (.own x):=by
    rcases he with z|z
    .exact absurd (hbe.trans z) hb
    .rw[hbe];exact z
   rw[q] at q';cases q';obtain⟨v,hv⟩:=heo;exact⟨v,by rw[hbe];exact hv⟩
  .refine(ok b u q).stay (λc v hc r=>k c v ?_ r) (λc r=>by rw[bQ (Dt c b r)];exact r) λc xs r=>by rw[bQ (Qh c xs r)];exact r
   rcases hc with rfl|hc
   .exact hbe
   .rintro rfl
    rcases he with z|z
    .exact Dt c b hc z
    .rw[hc] at z;cases z;exact hb rfl
end
structure Un(fs ex:List Addr)(H H':Hp)(h h':Heap):Prop where
 keep:∀b o,h.get? b=some o->H b=none->b∉fs->b∉ex->h'.get? b=some o
 slot:∀b o,h.get? b=some o->H b=none->b∈fs->b∉ex->∃sl,h'.get? b=some { o with slots:=sl }
 free:∀b o,h.get? b=some o->H b=none->b∉ex->H' b=none
 there:∀b o,h.get? b=some o->b∉ex->∃o',h'.get? b=some o'
 tups:∀b xs,H b=some (.tup xs)->H' b=some (.tup xs)
 frzs:∀b o u,H b=some (.frz o u)->H' b=some (.frz o u)
 tbls:∀b ps,H b=some (.tbl ps)->∃more,H' b=some (.tbl (ps++more))
section
variable {fs fs' ex ex':List Addr}{H H1 H2:Hp}{h h1 h2 h':Heap}{a x e:Addr}{o:HO}
theorem Un.any(u:Un fs ex H H1 h h1){b:Addr}{ob:Obj}(q:h.get? b=some ob)(n:H b=none)(hx:b∉ex):∃sl,h1.get? b=some { ob with slots:=sl }:=by
 by_cases hb:b∈fs
 .exact u.slot b ob q n hb hx
 .exact⟨ob.slots,u.keep b ob q n hb hx⟩
theorem Un.kept(k:∀b u,h.get? b=some u->h'.get? b=some u):Un fs ex H H h h' :=
 ⟨λb ob q _ _ _=>k b ob q,λb ob q _ _ _=>⟨ob.slots,k b ob q⟩,λ_ _ _ n _=>n,λb ob q _=>⟨ob,k b ob q⟩,λ_ _ q=>q,λ_ _ _ q=>q,λ_ ps q=>⟨#[],by rw[q];simp⟩⟩
def Un.refl:Un fs ex H H h h:=Un.kept λ_ _ q=>q
theorem Un.laid(k:∀b u,h.get? b=some u->h'.get? b=some u)(hp:h.objs.size<=a)(hn:H a=none):Un fs ex H (upd H a o) h h' where
 keep:=λb u q _ _ _=>k b u q
 slot:=λb u q _ _ _=>⟨u.slots,k b u q⟩
 free:=λb u q n _=>by rw[bQ (cW (di (b7 q) hp))];exact n
 there:=λb u q _=>⟨u,k b u q⟩
 tups:=λb xs q=>by rw[bQ (fH q hn)];exact q
 frzs:=λb u xs q=>by rw[bQ (fH q hn)];exact q
 tbls:=λb ps q=>⟨#[],by rw[bQ (fH q hn),q];simp⟩
theorem Un.write(mu:Iz (H x))(he:e=x\/H e=some (.own x))(k:∀b u,b≠e->h.get? b=some u->h'.get? b=some u)(heo:∃u,h'.get? e=some u):Un fs ex H (upd H x o) h h':=by
 have hx:∀b,H b=none->b≠x:=λb n z=>by subst z;rw[n] at mu;exact mu
 have hb:∀b,H b=none->b≠e:=λb n z=>by
  subst z;rcases he with r|r
  .exact hx b n r
  .rw[n] at r;cases r
 have hm:∀b u,H b=some u->¬Iz (some u)->b≠x:=λb u q nm z=>by subst z;rw[q] at mu;exact nm mu
 refine⟨λb u q n _ _=>k b u (hb b n) q,λb u q n _ _=>⟨u.slots,k b u (hb b n) q⟩,λb u q n _=>by rw[bQ (hx b n)];exact n,λb u q _=>?_,
  λb xs q=>by rw[bQ (hm b _ q λz=>z)];exact q,λb u xs q=>by rw[bQ (hm b _ q λz=>z)];exact q,λb ps q=>⟨#[],by rw[bQ (hm b _ q λz=>z),q];simp⟩⟩
 by_cases hbe:b=e
 .subst hbe;exact heo
 .exact⟨u,k b u hbe q⟩
end
def zQ(h:Heap)(H:Hp):List Addr:=(List.range h.objs.size).filter λa=>(H a).isSome
def pQ(h:Heap)(H:Hp):Heap:=PySem.W.hideAll h (zQ h H)
def zkR(h:Heap)(H:Hp):(pQ h H).objs.size=h.objs.size:=PySem.W.hideAll_size _ _
theorem zmD{h:Heap}{H:Hp}{b:Addr}{o:Obj}(e:h.get? b=some o)(n:H b=none):(pQ h H).get? b=some o :=
 PySem.W.hideAll_get _ e λhm=>by have q:(H b).isSome=true:=(List.mem_filter.mp hm).2;rw[n] at q;simp at q
theorem zo1{h:Heap}{H:Hp}{b:Addr}{o:Obj}(e:(pQ h H).get? b=some o):h.get? b=some o/\H b=none:=by
 have e':h.get? b=some o:=PySem.W.of_hideAll (zQ h H) e;refine⟨e',?_⟩;cases q:H b with
 |none=>rfl
 |some x =>
  have hm:b∈zQ h H:=List.mem_filter.mpr ⟨List.mem_range.mpr (b7 e'),by simp[q]⟩;have z:(pQ h H).get? b=none:=PySem.W.hideAll_none (zQ h H) hm;rw[z] at e;cases e
structure Mod(K:FgA)(mg:Str->Option Value)(base:Heap):Prop where
 kin:K.In base
 glob:base.Ns mainGlobals mg
 blt:∃mb,base.Ns builtinsNs mb/\∀x:Str,x ≠ "__name__" -> mb x=bootBuiltins x
 nolimit:base.NoLimit
structure Cx where
 prog:Program
 w:World
 K:FgA
 mg:Str->Option Value
 base:Heap
 A:Around
 N:List Str
 s₀:Shared
 H₀:Hp
 env:Env
 outer:List Env
 stack:List Env
 ex:List Addr
 fn:Str->Bool
 calm:Bool
 pn:List (Addr×Obj)
 xe:Value->Shared->Prop
def frs(l:List Env):List Addr:=l.filterMap (·.frame)
abbrev Cx.fs(X:Cx):List Addr:=frs X.outer
def qw(sc:Scope)(x:Str):Prop:=sc.names.lookup x=some .local\/sc.names.lookup x=some .cell\/sc.names.lookup x=some .free
def Loc(sc:Scope)(x:Str):Prop:=sc.names.lookup x=some .local\/sc.names.lookup x=some .cell
def Look(env:Env)(h:Heap)(m:Str->Option Value)(x:Str)(u:Value):Prop :=
 (env.kindOf x=some .local/\m x=some u)\/((env.kindOf x=some .cell\/env.kindOf x=some .free)/\∃c,env.cells.lookup x=some c/\h.IsCell c (some u))
structure Cx.Ok(X:Cx):Prop where
 mod:Mod X.K X.mg X.base
 kind:X.env.scope.kind = .function
 glob:X.env.globals=mainGlobals
 blt:X.env.builtins=builtinsNs
 above:X.s₀.heap.objs.size<=X.env.locals
 inj:∀x y c,X.env.cells.lookup x=some c->X.env.cells.lookup y=some c->x=y
 has:∀x,(X.env.kindOf x=some .cell\/X.env.kindOf x=some .free)->∃c,X.env.cells.lookup x=some c
 cab:∀x c,X.fn x=true->X.env.cells.lookup x=some c->X.s₀.heap.objs.size<=c
 hd:X.calm=true->X.A.handled=none
 frames:X.A.frames=some X.stack
 stk:X.stack=X.outer\/(X.stack=X.env::X.outer/\X.env.frame=some X.env.locals)
 exf:∀b∈X.ex,b≠X.env.locals/\∀x c,X.env.cells.lookup x=some c->c≠b
 bs:∀b o,X.base.get? b=some o->X.s₀.heap.get? b=some o/\X.H₀ b=none
 bsz:X.base.objs.size<=X.s₀.heap.objs.size
 noex:∀b o,X.base.get? b=some o->b∉X.ex
 exfs:∀b∈X.ex,b∉X.fs
 funs:X.s₀.heap.FunFrames X.base X.outer
 frf:∀b∈X.fs,X.H₀ b=none
structure Inv(X:Cx)(pz:List (Addr×Obj))(Z:List (Option V))(H:Hp)(s:Shared):Prop where
 ok:X.Ok
 os:s.os=X.s₀.os
 bare:AllBare s.gens
 base:Un X.fs X.ex X.H₀ H X.s₀.heap s.heap
 loc:∃m,s.heap.Ns X.env.locals m/\∀(i:Nat) (x:Str) (v:V),X.N[i]?=some x->Z[i]?=some (some v)->qw X.env.scope x->∃u,RelV v u/\Look X.env s.heap m x u
 cell:∀x c,X.env.cells.lookup x=some c->∃v,s.heap.IsCell c v
 free:H X.env.locals=none
 freeC:∀x c,X.env.cells.lookup x=some c->H c=none
 pin:∀p∈X.pn++pz,s.heap.get? p.1=some p.2/\H p.1=none/\p.1≠X.env.locals/\p.1∉X.fs/\∀v,p.2.data ≠ .cell v
 hok:fD X.prog X.w H s.heap
 len:Z.length=X.N.length
section
variable {X:Cx}{pz:List (Addr×Obj)}{Z:List (Option V)}{H H':Hp}{s:Shared}{h':Heap}
def Cx.Ok.nofr(ok:X.Ok){b:Addr}{o:Obj}(e:X.base.get? b=some o):b∉X.fs:=λhb=>by have:=(ok.funs.mem hb).1;rw[e] at this;cases this
def Inv.bs(I:Inv X pz Z H s):∀b o,X.base.get? b=some o->s.heap.get? b=some o/\H b=none:=λb o e =>
 ⟨I.base.keep b o (I.ok.bs b o e).1 (I.ok.bs b o e).2 (I.ok.nofr e) (I.ok.noex b o e),I.base.free b o (I.ok.bs b o e).1 (I.ok.bs b o e).2 (I.ok.noex b o e)⟩
def Inv.bk(I:Inv X pz Z H s):∀b o,X.base.get? b=some o->s.heap.get? b=some o:=λb o e=>(I.bs b o e).1
def Inv.mod(I:Inv X pz Z H s):Mod X.K X.mg X.base:=I.ok.mod
def Inv.kIn(I:Inv X pz Z H s):X.K.In s.heap:=I.ok.mod.kin.keeps I.bk
def Inv.lt(I:Inv X pz Z H s):X.env.locals<s.heap.objs.size:=let ⟨_,hn,_⟩:=I.loc;hn.lt
def Inv.sz(I:Inv X pz Z H s):X.s₀.heap.objs.size<=s.heap.objs.size:=Nat.le_trans I.ok.above (vy I.lt)
theorem Inv.nofs(I:Inv X pz Z H s){a:Addr}(h:s.heap.objs.size<=a):a∉X.fs:=λhb=>by obtain⟨_,o,ho,_⟩:=I.ok.funs.mem hb;exact absurd (di (b7 ho) (Nat.le_trans I.sz h)) (gw _)
theorem Inv.cne(I:Inv X pz Z H s):∀x c,X.env.cells.lookup x=some c->c≠X.env.locals:=λx c e z=>by obtain⟨v,o,ho,hd⟩:=I.cell x c e;obtain⟨m,⟨o',es,ep,ho',hd',_⟩,_⟩:=I.loc;rw[z,ho'] at ho;cases ho;rw[hd'] at hd;cases hd
theorem Inv.funs(I:Inv X pz Z H s):s.heap.FunFrames X.base X.outer:=by
 have all:∀(l:List Env),(∀b∈frs l,b∈X.fs)->X.s₀.heap.FunFrames X.base l->s.heap.FunFrames X.base l:=by
  intro l
  induction l with
  |nil=>intro _ _;trivial
  |cons env r ih =>
   intro hs hl;obtain⟨hk,⟨L,o,hf,hn,ho,hd⟩,hr⟩:=hl;have hL:L∈X.fs:=hs L (by unfold frs;rw[List.filterMap_cons,hf];exact fG);obtain⟨sl,e⟩:=I.base.slot L o ho (I.ok.frf L hL) hL λz=>I.ok.exfs L z hL;exact⟨hk,⟨L,_,hf,hn,e,hd⟩,ih (λb hb=>hs b (by unfold frs;rw[List.filterMap_cons,hf];exact cM _ hb)) hr⟩
 exact all X.outer (λ_ hb=>hb) I.ok.funs
theorem Inv.stack(I:Inv X pz Z H s):s.heap.FunFrames X.base X.stack:=by
 rcases I.ok.stk with e|⟨e,hf⟩
 .rw[e];exact I.funs
 .rw[e];obtain⟨m,hn,_⟩:=I.loc;refine .cons (by rw[I.ok.kind];decide) hf hn ?_ I.funs;exact Heap.get?_none_of_le (Nat.le_trans I.ok.bsz I.ok.above)
theorem Inv.stkSub(I:Inv X pz Z H s):∀b∈frs X.stack,b∈X.env.locals::X.fs:=λb hb=>by
 rcases I.ok.stk with e|⟨e,hf⟩
 .rw[e] at hb;exact cM _ hb
 .rw[e] at hb;unfold frs at hb;rw[List.filterMap_cons,hf] at hb;exact hb
theorem Inv.stkFree(I:Inv X pz Z H s):∀b∈frs X.stack,H b=none:=λb hb=>by
 rcases List.mem_cons.mp (I.stkSub b hb) with e|hb
 .rw[e];exact I.free
 .obtain⟨_,o,ho,_⟩:=I.ok.funs.mem hb;exact I.base.free b o ho (I.ok.frf b hb) λz=>I.ok.exfs b z hb
theorem Inv.step{g':Array GenState}{t':Nat}{d':Drawn}{ch:List Addr}(I:Inv X pz Z H s)(hch:∀b∈ch,(b∈X.ex\/X.s₀.heap.objs.size<=b)/\b≠X.env.locals/\(∀x c,X.env.cells.lookup x=some c->c≠b)/\∀p∈X.pn++pz,p.1≠b)(keep:∀b o,b≠X.env.locals->b∉X.fs->b∉ch->s.heap.get? b=some o->H b=none->h'.get? b=some o)(slot:∀b o,b≠X.env.locals->b∈X.fs->b∉ch->s.heap.get? b=some o->H b=none->∃sl,h'.get? b=some { o with slots:=sl })(free:∀b o,b∉ch->s.heap.get? b=some o->H b=none->H' b=none)(there:∀b o,b∉ch->s.heap.get? b=some o->∃o',h'.get? b=some o')(tups:∀b xs,H b=some (.tup xs)->H' b=some (.tup xs))(frzs:∀b o u,H b=some (.frz o u)->H' b=some (.frz o u))(tbls:∀b ps,H b=some (.tbl ps)->∃more,H' b=some (.tbl (ps++more)))(ns:∀m,s.heap.Ns X.env.locals m->h'.Ns X.env.locals m)(hok:fD X.prog X.w H' h')(hg:AllBare g'):
 Inv X pz Z H' { s with heap:=h',gens:=g',drawn:=d',toks:=t' }:=by
 have Yk:∀b o,X.s₀.heap.get? b=some o->b≠X.env.locals:=λb o e=>cW (di (b7 e) I.ok.above);have uR:∀b o,X.s₀.heap.get? b=some o->b∉X.ex->b∉ch:=λb o e hx hb=>by
  rcases(hch b hb).1 with z|z
  .exact hx z
  .exact absurd (di (b7 e) z) (gw _)
 have cellK:∀x c,X.env.cells.lookup x=some c->∀v,s.heap.IsCell c v->h'.IsCell c v:=λx c e v ⟨o,ho,hd⟩=>by
  have o7:c∉ch:=λz=>(hch c z).2.2.1 x c e rfl;by_cases hc:c∈X.fs
  .obtain⟨sl,q⟩:=slot c o (I.cne x c e) hc o7 ho (I.freeC x c e);exact⟨_,q,hd⟩
  .exact⟨o,keep c o (I.cne x c e) hc o7 ho (I.freeC x c e),hd⟩
 refine⟨I.ok,I.os,hg,⟨λb o e n hb hx=>?_,λb o e n hb hx=>?_,λb o e n hx=>?_,λb o e hx=>?_,λb xs e=>tups b xs (I.base.tups b xs e),λb o xs e=>frzs b o xs (I.base.frzs b o xs e),λb ps e=>?_⟩,?_,λx c e=>?_,?_,λx c e=>?_,λp hp=>?_,hok,I.len⟩
 .exact keep b o (Yk b o e) hb (uR b o e hx) (I.base.keep b o e n hb hx) (I.base.free b o e n hx)
 .obtain⟨sl,e1⟩:=I.base.slot b o e n hb hx;obtain⟨sl',e2⟩:=slot b _ (Yk b o e) hb (uR b o e hx) e1 (I.base.free b o e n hx);exact⟨sl',e2⟩
 .obtain⟨o',e1⟩:=I.base.there b o e hx;exact free b o' (uR b o e hx) e1 (I.base.free b o e n hx)
 .obtain⟨o',e1⟩:=I.base.there b o e hx;exact there b o' (uR b o e hx) e1
 .obtain⟨m1,e1⟩:=I.base.tbls b ps e;obtain⟨m2,e2⟩:=tbls b _ e1;exact⟨m1++m2,by rw[e2,Array.append_assoc]⟩
 .obtain⟨m,hn,hl⟩:=I.loc;refine⟨m,ns m hn,λi x v e1 e2 e3=>?_⟩;obtain⟨u,r,l⟩:=hl i x v e1 e2 e3;refine⟨u,r,?_⟩;rcases l with l|⟨k,c,e,z⟩
  .exact .inl l
  .exact .inr ⟨k,c,e,cellK x c e _ z⟩
 .obtain⟨v,z⟩:=I.cell x c e;exact⟨v,cellK x c e v z⟩
 .obtain⟨m,⟨o,_,_,ho,_⟩,_⟩:=I.loc;exact free _ o (λz=>(hch _ z).2.1 rfl) ho I.free
 .obtain⟨v,o,ho,hd⟩:=I.cell x c e;exact free c o (λz=>(hch c z).2.2.1 x c e rfl) ho (I.freeC x c e)
 .obtain⟨e,n,ne,nf,d⟩:=I.pin p hp;have o7:p.1∉ch:=λz=>(hch p.1 z).2.2.2 p hp rfl;exact⟨keep p.1 p.2 ne nf o7 e n,free p.1 p.2 o7 e n,ne,nf,d⟩
theorem Inv.un{t':Nat}(I:Inv X pz Z H s)(u:Un X.fs [] H H' s.heap h')(hok:fD X.prog X.w H' h'):Inv X pz Z H' { s with heap:=h',toks:=t' }:=by
 obtain⟨m,⟨o,es,ep,ho,r⟩,_⟩:=id I.loc;obtain⟨sl,hL⟩:=u.any ho I.free (by simp);exact I.step (g':=s.gens) (d':=s.drawn) (ch:=[]) (λ_ z=>nomatch z) (λb o _ hb _ e n=>u.keep b o e n hb (by simp)) (λb o _ hb _ e n=>u.slot b o e n hb (by simp)) (λb o _ e n=>u.free b o e n (by simp)) (λb o _ e=>u.there b o e (by simp)) u.tups u.frzs u.tbls (λm' hm=>by
  obtain⟨o',es',ep',ho',r'⟩:=hm;rw[ho] at ho';cases ho';exact⟨_,es',ep',hL,r'⟩) hok I.bare
theorem Inv.call{g':Array GenState}{t':Nat}{d':Drawn}{ch:List Addr}(I:Inv X pz Z H s)(u:Un (frs X.stack) ch H H' s.heap h')(hok:fD X.prog X.w H' h')(hg:AllBare g')(hch:∀b∈ch,(b∈X.ex\/X.s₀.heap.objs.size<=b)/\b≠X.env.locals/\(∀x c,X.env.cells.lookup x=some c->c≠b)/\∀p∈X.pn++pz,p.1≠b):
 Inv X pz Z H' { s with heap:=h',gens:=g',drawn:=d',toks:=t' }:=by
 obtain⟨m,⟨o,es,ep,ho,r⟩,_⟩:=id I.loc;obtain⟨sl,hL⟩:=u.any ho I.free λz=>(hch _ z).2.1 rfl;exact I.step (ch:=ch) hch (λb o hL hb hc e n=>u.keep b o e n (λz=>(List.mem_cons.mp (I.stkSub b z)).elim hL hb) hc) (λb o _ _ hc e n=>u.any e n hc) (λb o hc e n=>u.free b o e n hc) (λb o hc e=>u.there b o e hc) u.tups u.frzs u.tbls (λm' hm=>by
  obtain⟨o',es',ep',ho',r'⟩:=hm;rw[ho] at ho';cases ho';exact⟨_,es',ep',hL,r'⟩) hok hg
theorem Inv.turned{t':Nat}{it:Addr}(I:Inv X pz Z H s)(k:∀b o,b≠it->s.heap.get? b=some o->h'.get? b=some o)(hn:H it=none)(hL:it≠X.env.locals)(h1:it∈X.ex\/X.s₀.heap.objs.size<=it)(h2:∀x c,X.env.cells.lookup x=some c->c≠it)(h3:∀p∈X.pn++pz,p.1≠it):Inv X pz Z H { s with heap:=h',toks:=t' }:=by
 have Yi:∀b u,H b=some u->b≠it:=λb u e z=>by rw[z,hn] at e;cases e
 refine I.step (g':=s.gens) (d':=s.drawn) (ch:=[it]) (λb hb=>?_) (λb o _ _ hc e _=>k b o (λz=>hc (by simp[z])) e) (λb o _ _ hc e _=>⟨o.slots,k b o (λz=>hc (by simp[z])) e⟩) (λ_ _ _ _ n=>n)
  (λb o hc e=>⟨o,k b o (λz=>hc (by simp[z])) e⟩) (λ_ _ e=>e) (λ_ _ _ e=>e) (λb ps e=>⟨#[],by rw[e];simp⟩) (λm hm=>?_) (λb u e=>?_) I.bare
 .have e:b=it:=by simpa using hb
  subst e;exact⟨h1,hL,h2,h3⟩
 .obtain⟨o,es,ep,ho,r⟩:=hm;exact⟨o,es,ep,k _ o (Ne.symm hL) ho,r⟩
 .refine(I.hok b u e).stay (λc v hc q=>k c v ?_ q) (λ_ q=>q) λ_ _ q=>q;rcases hc with z|z
  .rw[z];exact Yi b u e
  .exact Yi c _ z
def Inv.tok(I:Inv X pz Z H s)(t:Nat):Inv X pz Z H { s with toks:=t }:=I.un (h':=s.heap) (t':=t) Un.refl I.hok
def Inv.kept{t':Nat}(I:Inv X pz Z H s)(k:∀b u,s.heap.get? b=some u->h'.get? b=some u):Inv X pz Z H { s with heap:=h',toks:=t' }:=I.un (Un.kept k) (I.hok.kept k)
def Inv.laid{a:Addr}{o:HO}{t':Nat}(I:Inv X pz Z H s)(k:∀b u,s.heap.get? b=some u->h'.get? b=some u)(hp:s.heap.objs.size<=a)(new:bJ X.prog X.w (upd H a o) h' a o):
 Inv X pz Z (upd H a o) { s with heap:=h',toks:=t' }:=I.un (Un.laid k hp (I.hok.fresh hp)) (I.hok.laid k hp new)
def Inv.write{x e:Addr}{o:HO}{t':Nat}(I:Inv X pz Z H s)(mu:Iz (H x))(he:e=x\/H e=some (.own x))(k:∀b u,b≠e->s.heap.get? b=some u->h'.get? b=some u)(heo:∃u,h'.get? e=some u)(new:bJ X.prog X.w (upd H x o) h' x o):Inv X pz Z (upd H x o) { s with heap:=h',toks:=t' }:=I.un (Un.write mu he k heo) (I.hok.write mu he k heo new)
def Inv.pins_of{uQ:List (Addr×Obj)}(I:Inv X pz Z H s)(h:∀p∈uQ,s.heap.get? p.1=some p.2/\H p.1=none/\p.1≠X.env.locals/\p.1∉X.fs/\∀v,p.2.data ≠ .cell v):Inv X uQ Z H s :=
 ⟨I.ok,I.os,I.bare,I.base,I.loc,I.cell,I.free,I.freeC,λp hp=>(lB.mp hp).elim (λz=>I.pin p (List.mem_append_left _ z)) (h p),I.hok,I.len⟩
theorem U6{N:List Str}(hN:N.Nodup){i j:Nat}{x:Str}(a:N[i]?=some x)(b:N[j]?=some x):i=j:=by obtain⟨h1,e1⟩:=fj.mp a;obtain⟨h2,e2⟩:=fj.mp b;exact(List.getElem_inj hN).mp (e1.trans e2.symm)
theorem zjF{M:Model}{A:Around}{E:Value->Shared->Prop}{i:Nat}{x:Str}{v:V}{u:Value}{Q:Unit->Shared->Prop}(I:Inv X pz Z H s)(hN:X.N.Nodup)(hi:X.N[i]?=some x)(hx:Loc X.env.scope x)(r:RelV v u)(h:∀s',Inv X pz (Z.set i (some v)) H s'->(∃a,Heap.SameBut a s.heap s'.heap/\(a=X.env.locals\/X.env.cells.lookup x=some a))->Q () s')(hf:X.fn x=true\/X.env.scope.names.lookup x=some .local:=by first|exact .inl rfl|exact .inr rfl|assumption):wpAny M A (storeName X.env x u) Q E s:=by
 obtain⟨m,hn,hl⟩:=id I.loc;have hcls:(X.env.scope.kind == .class||(X.env.scope.kind == .module&&X.env.locals != X.env.globals))=false:=by rw[I.ok.kind];rfl
 have hiσ:i<Z.length:=by rw[I.len];exact(fj.mp hi).1
 have cne:=I.cne;have tracked:∀{a:Addr} {h':Heap},(∃o,s.heap.get? a=some o/\H a=none)->Heap.SameBut a s.heap h'->fD X.prog X.w H h':=λ{a h'} ha hs b ob e=>by
  obtain⟨_,_,hfree⟩:=ha;refine(I.hok b ob e).stay (λc w' hc q=>(hs.2 c ?_).trans q) (λ_ q=>q) λ_ _ q=>q
  rintro rfl
  rcases hc with rfl|hc
  .rw[hfree] at e;cases e
  .rw[hfree] at hc;cases hc
 rcases hx with hk|hk
 .refine wpAny_storeName_local hk hn (λh' hn' hs=>?_) hcls;obtain⟨oL,_,_,hoL,_⟩:=id hn;refine h _ ⟨I.ok,I.os,I.bare,⟨λb o e n hb hx=>?_,λb o e n hb hx=>?_,I.base.free,λb o e hx=>?_,I.base.tups,I.base.frzs,I.base.tbls⟩,⟨_,hn',λj y v' e1 e2 e3=>?_⟩,λy c e=>?_,I.free,I.freeC,λp hp=>?_,tracked ⟨oL,hoL,I.free⟩ hs,by simpa using I.len⟩ ⟨_,hs,.inl rfl⟩
  .exact(hs.2 b (cW (di (b7 e) I.ok.above))).trans (I.base.keep b o e n hb hx)
  .obtain⟨sl,e1⟩:=I.base.slot b o e n hb hx;exact⟨sl,(hs.2 b (cW (di (b7 e) I.ok.above))).trans e1⟩
  .obtain⟨o',e1⟩:=I.base.there b o e hx;exact⟨o',(hs.2 b (cW (di (b7 e) I.ok.above))).trans e1⟩
  .by_cases hj:j=i
   .subst hj;rw[hi] at e1;cases e1;rw[List.getElem?_set_self hiσ] at e2;cases e2;exact⟨u,r,.inl ⟨hk,by simp⟩⟩
   .rw[List.getElem?_set_ne (Ne.symm hj)] at e2;obtain⟨u',r',q⟩:=hl j y v' e1 e2 e3;refine⟨u',r',?_⟩;rcases q with⟨k,e⟩|⟨k,c,e,z⟩
    .refine .inl ⟨k,?_⟩;have:y≠x:=λe=>hj (U6 hN e1 (e ▸ hi));simp[this,e]
    .exact .inr ⟨k,c,e,z.sameBut hs (cne y c e)⟩
  .obtain⟨w',z⟩:=I.cell y c e;exact⟨w',z.sameBut hs (cne y c e)⟩
  .obtain⟨e,n,ne,nf,d⟩:=I.pin p hp;exact⟨(hs.2 p.1 ne).trans e,n,ne,nf,d⟩
 .have hfn:X.fn x=true:=by
   rcases hf with z|z
   .exact z
   .rw[z] at hk;cases hk
  obtain⟨c,hc⟩:=I.ok.has x (.inl hk);obtain⟨w',z⟩:=I.cell x c hc;refine wpAny_storeName_cell I.ok.kind hk hc z (λh' hc' hs=>?_);obtain⟨oc,hoc,Qq⟩:=id z;refine h { s with heap:=h' } ⟨I.ok,I.os,I.bare,⟨λb o e n hb hx=>?_,λb o e n hb hx=>?_,I.base.free,λb o e hx=>?_,I.base.tups,I.base.frzs,I.base.tbls⟩,⟨m,hn.sameBut hs (Ne.symm (cne x c hc)),λj y v' e1 e2 e3=>?_⟩,λy c' e=>?_,I.free,I.freeC,λp hp=>?_,tracked ⟨oc,hoc,I.freeC x c hc⟩ hs,by simpa using I.len⟩ ⟨c,hs,.inr hc⟩
  .exact(hs.2 b (cW (di (b7 e) (I.ok.cab x c hfn hc)))).trans (I.base.keep b o e n hb hx)
  .obtain⟨sl,e1⟩:=I.base.slot b o e n hb hx;exact⟨sl,(hs.2 b (cW (di (b7 e) (I.ok.cab x c hfn hc)))).trans e1⟩
  .obtain⟨o',e1⟩:=I.base.there b o e hx;exact⟨o',(hs.2 b (cW (di (b7 e) (I.ok.cab x c hfn hc)))).trans e1⟩
  .by_cases hj:j=i
   .subst hj;rw[hi] at e1;cases e1;rw[List.getElem?_set_self hiσ] at e2;cases e2;exact⟨u,r,.inr ⟨.inl hk,c,hc,hc'⟩⟩
   .rw[List.getElem?_set_ne (Ne.symm hj)] at e2;obtain⟨u',r',q⟩:=hl j y v' e1 e2 e3;refine⟨u',r',?_⟩;rcases q with q|⟨k,c',e,z'⟩
    .exact .inl q
    .refine .inr ⟨k,c',e,z'.sameBut hs ?_⟩
     rintro rfl
     exact hj (U6 hN e1 (I.ok.inj _ _ _ e hc ▸ hi))
  .by_cases hcc:c'=c
   .subst hcc;exact⟨_,hc'⟩
   .obtain⟨w2,z2⟩:=I.cell y c' e;exact⟨w2,z2.sameBut hs hcc⟩
  .obtain⟨e,n,ne,nf,d⟩:=I.pin p hp;refine⟨(hs.2 p.1 ?_).trans e,n,ne,nf,d⟩;intro q;rw[q,hoc] at e;have q':oc=p.2:=Option.some.inj e;exact d w' (by rw[<-q'];exact Qq)
theorem G6{M:Model}{A:Around}{E:Value->Shared->Prop}{i:Nat}{x:Str}{v:V}{u:Value}{Q:Unit->Shared->Prop}(I:Inv X pz Z H s)(hN:X.N.Nodup)(hi:X.N[i]?=some x)(hx:Loc X.env.scope x)(r:RelV v u)(h:∀s',Inv X pz (Z.set i (some v)) H s'->Q () s')(hf:X.fn x=true\/X.env.scope.names.lookup x=some .local:=by first|exact .inl rfl|exact .inr rfl|assumption):wpAny M A (storeName X.env x u) Q E s :=
 zjF I hN hi hx r (λs' I' _=>h s' I') hf
theorem Inv.call'{s':Shared}{ch:List Addr}(I:Inv X pz Z H s)(ho:s'.os=s.os)(u:Un (frs X.stack) ch H H' s.heap s'.heap)(hok:fD X.prog X.w H' s'.heap)(hg:AllBare s'.gens)(hch:∀b∈ch,(b∈X.ex\/X.s₀.heap.objs.size<=b)/\b≠X.env.locals/\(∀x c,X.env.cells.lookup x=some c->c≠b)/\∀p∈X.pn++pz,p.1≠b):Inv X pz Z H' s':=by obtain⟨h',g',d',t',o'⟩:=s';have e:o'=s.os:=ho;subst e;exact I.call (g':=g') (t':=t') (d':=d') u hok hg hch
end
abbrev XK:=Value->Option Addr->Hp->Prop
abbrev St:=List (Option V)
abbrev VK:=V->Hp->Prop
abbrev TE:=St->Hp->VK->Prop
abbrev TT:=St->Hp->(Bool->Hp->Prop)->Prop
abbrev TA:=St->Hp->(List V->Hp->Prop)->Prop
structure qF where
 nx:St->Hp->Prop
 rt:VK
 bk:St->Hp->Prop:=λ_ _=>False
 ct:St->Hp->Prop:=λ_ _=>False
abbrev TS:=qF->St->Hp->Prop
def EP(X:Cx)(pz:List (Addr×Obj))(Z:St)(Q:VK)(u:Value)(s':Shared):Prop:=∃v H',Inv X pz Z H' s'/\RelV v u/\Q v H'
def TP(X:Cx)(pz:List (Addr×Obj))(Z:St)(Q:Bool->Hp->Prop)(b:Bool)(s':Shared):Prop:=∃H',Inv X pz Z H' s'/\Q b H'
def AP(X:Cx)(pz:List (Addr×Obj))(Z:St)(Q:List V->Hp->Prop)(us:List Value)(s':Shared):Prop:=∃vs H',Inv X pz Z H' s'/\Vals vs us/\Q vs H'
noncomputable def SP(X:Cx)(pz:List (Addr×Obj))(D:qF)(f:Flow)(s':Shared):Prop :=
 match f with
 |.next=>∃Z' H',Inv X pz Z' H' s'/\D.nx Z' H'
 |.brk=>∃Z' H',Inv X pz Z' H' s'/\D.bk Z' H'
 |.cont=>∃Z' H',Inv X pz Z' H' s'/\D.ct Z' H'
 |.ret u=>∃v Z' H',Inv X pz Z' H' s'/\RelV v u/\D.rt v H'
def PE(X:Cx)(e:Expr)(t:TE):Prop :=
 ∀(pz:List (Addr×Obj)) (s:Shared) (Z:St) (H:Hp) (Q:VK),Inv X pz Z H s->t Z H Q->wpAny (model X.prog X.w) X.A (eval e X.env) (EP X pz Z Q) X.xe s
def PT(X:Cx)(e:Expr)(t:TT):Prop :=
 ∀(pz:List (Addr×Obj)) (s:Shared) (Z:St) (H:Hp) (Q:Bool->Hp->Prop),Inv X pz Z H s->t Z H Q->wpAny (model X.prog X.w) X.A (isTrue e X.env (eval e X.env)) (TP X pz Z Q) X.xe s
noncomputable def PW(X:Cx)(e:Expr)(t:TT):Prop :=
 ∀(whole:Sem Value) (pz:List (Addr×Obj)) (s:Shared) (Z:St) (H:Hp) (Q:Bool->Hp->Prop),Inv X pz Z H s->t Z H Q->wpAny (model X.prog X.w) X.A (isTrue e X.env whole) (TP X pz Z Q) X.xe s
def PW.pt{X:Cx}{e:Expr}{t:TT}(h:PW X e t):PT X e t:=h _
noncomputable def PA(X:Cx)(es:List Expr)(t:TA):Prop :=
 ∀(pos:Pos) (pz:List (Addr×Obj)) (s:Shared) (Z:St) (H:Hp) (Q:List V->Hp->Prop),Inv X pz Z H s->t Z H Q->wpAny (model X.prog X.w) X.A (spliced (backTo pos (starEach es X.env))) (AP X pz Z Q) X.xe s
def PS(X:Cx)(st:Stmt)(t:TS):Prop :=
 ∀(pz:List (Addr×Obj)) (s:Shared) (Z:St) (H:Hp) (D:qF),Inv X pz Z H s->t D Z H->wpAny (model X.prog X.w) X.A (exec st X.env) (SP X pz D) X.xe s
def fL(X:Cx)(st:List Stmt)(t:TS):Prop :=
 ∀(pz:List (Addr×Obj)) (s:Shared) (Z:St) (H:Hp) (D:qF),Inv X pz Z H s->t D Z H->wpAny (model X.prog X.w) X.A (execs st X.env) (SP X pz D) X.xe s
def bK{α:Type}{t:Sem α}{Q Q':α->Shared->Prop}{M:Model}{A:Around}{E:Value->Shared->Prop}{s:Shared}(h:wpAny M A t Q E s)(hQ:∀a s,Q a s->Q' a s):wpAny M A t Q' E s:=iI h hQ λ_ _ x=>x
section
variable {X:Cx}
def oV(i:Nat):TE:=λZ H Q=>∃v,Z[i]?=some (some v)/\Q v H
def tC(v:V):TE:=λ_ H Q=>Q v H
theorem yW{i:Nat}{x:Str}{pos:Pos}(hN:X.N[i]?=some x)(hv:qw X.env.scope x)(hd:(x==("__debug__" : Str))=false:=by decide)(hcd:(x==("__classdict__" : Str))=false:=by decide):PE X (.Name x pos) (oV i):=by
 intro pz s Z H Q I h;obtain⟨v,e,h⟩:=h;obtain⟨m,hn,hl⟩:=I.loc;obtain⟨u,r,l⟩:=hl i x v hN e hv;have fin:EP X pz Z Q u s:=⟨v,H,I,r,h⟩
 rcases l with⟨hk,hm⟩|⟨hk,c,hc,hcell⟩
 .exact wpAny_Name (wpAny_loadName_local I.ok.kind hk hn hm fin) hd
 .rcases hk with hk|hk
  .exact wpAny_Name (wpAny_loadName_cell I.ok.kind hk hc hcell fin) hd
  .exact wpAny_Name (wpAny_loadName_free I.ok.kind hk hc hcell fin hcd) hd
def RP{i j pos}:PE X (.Constant (.int i) j pos) (tC (.int i)):=λ_ _ _ H _ I h=>wpAny_Constant_int ⟨.int i,H,I.tok _,⟨_,rfl⟩,h⟩
def JP{b j pos}:PE X (.Constant (.bool b) j pos) (tC (.bl b)):=λ_ _ _ H _ I h=>Constant_bool ⟨.bl b,H,I,rfl,h⟩
def zq7{j pos}:PE X (.Constant .none j pos) (tC .non):=λ_ _ _ H _ I h=>Constant_none ⟨.non,H,I,rfl,h⟩
def vX{x j pos}:PE X (.Constant (.str x) j pos) (tC (.str x)):=λ_ _ _ H _ I h=>Calls.Constant_str ⟨.str x,H,I.tok _,⟨_,rfl⟩,h⟩
def Gl(X:Cx)(x:Str):Prop:=X.env.kindOf x=some .globalImplicit
theorem rC{E:Value->Shared->Prop}{pz:List (Addr×Obj)}{s:Shared}{Z:St}{H:Hp}{x:Str}{u:Value}{pos:Pos}{Q:Value->Shared->Prop}(I:Inv X pz Z H s)(hg:Gl X x)(hm:X.mg x=some u)(h:Q u s)(hd:(x==("__debug__" : Str))=false:=by decide):wpAny (model X.prog X.w) X.A (eval (.Name x pos) X.env) Q E s :=
 Calls.Name_function_global I.ok.kind hg (Calls.loadGlobal_global (by rw[I.ok.glob];exact I.mod.glob.keeps I.bk) hm h) hd
theorem rA{E:Value->Shared->Prop}{pz:List (Addr×Obj)}{s:Shared}{Z:St}{H:Hp}{x:Str}{u:Value}{pos:Pos}{Q:Value->Shared->Prop}(I:Inv X pz Z H s)(hg:Gl X x)(hm:X.mg x=none)(hv:bootBuiltins x=some u)(h:Q u s)(hn:x ≠ "__name__" := by decide)(hd:(x==("__debug__" : Str))=false:=by decide):wpAny (model X.prog X.w) X.A (eval (.Name x pos) X.env) Q E s:=by obtain⟨mb,h1,h2⟩:=I.mod.blt;exact Calls.Name_function_global I.ok.kind hg (Calls.loadGlobal_builtin (by rw[I.ok.glob];exact I.mod.glob.keeps I.bk) hm (by rw[I.ok.blt];exact h1.keeps I.bk) ((h2 x hn).trans hv) h) hd
theorem Uk{x:Str}{v:V}{u:Value}{pos:Pos}(hg:Gl X x)(hm:X.mg x=some u)(r:RelV v u)(hd:(x==("__debug__" : Str))=false:=by decide):PE X (.Name x pos) (tC v) :=
 λ_ _ _ H _ I h=>rC I hg hm ⟨v,H,I,r,h⟩ hd
theorem Tn{x:Str}{v:V}{u:Value}{pos:Pos}(hg:Gl X x)(hm:X.mg x=none)(hv:bootBuiltins x=some u)(r:RelV v u)(hn:x ≠ "__name__" := by decide)(hd:(x==("__debug__" : Str))=false:=by decide):PE X (.Name x pos) (tC v) :=
 λ_ _ _ H _ I h=>rA I hg hm hv ⟨v,H,I,r,h⟩ hn hd
variable {a b:Expr}{ta tb:TE}{pos:Pos}
def tB(t:TE):TT:=λZ H Q=>t Z H λx H1=>∃c,x = .bl c/\Q c H1
theorem RV{e:Expr}{t:TE}(h:PE X e t)(he:∀whole,isTrue e X.env whole=(do let v <-whole;standAt e.pos;holding [v] (truthy v)):=by intro _;rfl):PT X e (tB t):=by intro pz s Z H Q I hw;refine isTrue_plain (bK (h pz s Z H _ I hw) λv s1 ⟨x,H1,I1,r1,q1⟩=>?_) (he _);obtain⟨d,rfl,q⟩:=q1;cases r1;exact wpAny_truthy_bool ⟨H1,I1,q⟩
variable {tA Ia:TT}{rest:List Expr}
def Pr(t u:TT):TT:=λZ H Q=>t Z H λc H1=>if c=true then u Z H1 Q else Q false H1
def Pb(t u:TT):TT:=λZ H Q=>t Z H λc H1=>if c=true then Q true H1 else u Z H1 Q
def wO(t:TT):TT:=λZ H Q=>t Z H λc H1=>Q (!c) H1
theorem zon(ha:PT X a tA):PW X (.BoolOp .And [a] pos) tA:=by
 intro wh pz s Z H Q I h;refine isTrue_and (bK (ha pz s Z H Q I h) λc s1 e=>?_);cases c with
 |true=>exact isTrue_and_nil e
 |false=>exact e
theorem RX(ha:PT X a tA):PW X (.BoolOp .Or [a] pos) tA:=by
 intro wh pz s Z H Q I h;refine isTrue_or (bK (ha pz s Z H Q I h) λc s1 e=>?_);cases c with
 |false=>exact isTrue_or_nil e
 |true=>exact e
theorem zqV(ha:PT X a tA)(hb:PW X (.BoolOp .And (b::rest) pos) Ia):PW X (.BoolOp .And (a::b::rest) pos) (Pr tA Ia):=by
 intro wh pz s Z H Q I h;refine isTrue_and (bK (ha pz s Z H _ I h) λc s1 ⟨H1,I1,q1⟩=>?_);cases c with
 |true=>exact hb wh pz s1 Z H1 Q I1 q1
 |false=>exact⟨H1,I1,q1⟩
theorem JN(ha:PT X a tA)(hb:PW X (.BoolOp .Or (b::rest) pos) Ia):PW X (.BoolOp .Or (a::b::rest) pos) (Pb tA Ia):=by
 intro wh pz s Z H Q I h;refine isTrue_or (bK (ha pz s Z H _ I h) λc s1 ⟨H1,I1,q1⟩=>?_);cases c with
 |true=>exact⟨H1,I1,q1⟩
 |false=>exact hb wh pz s1 Z H1 Q I1 q1
def Kc(ha:PT X a tA):PT X (.UnaryOp .Not a pos) (wO tA):=by intro pz s Z H Q I h;exact isTrue_not (ha pz s Z H (λc H1=>Q (!c) H1) I h)
def CK(ta tb:TE):TE:=λZ H Q=>ta Z H λx H1=>∃c,x = .bl c/\if c=true then tb Z H1 Q else Q (.bl false) H1
def Pa(ta tb:TE):TE:=λZ H Q=>ta Z H λx H1=>∃c,x = .bl c/\if c=true then Q (.bl true) H1 else tb Z H1 Q
def Cv(ta:TE):TE:=λZ H Q=>ta Z H λx H1=>∃c,x = .bl c/\Q (.bl (!c)) H1
def zq5{op}{t:TE}(h:PE X a t):PE X (.BoolOp op [a] pos) t:=λpz s Z H Q I hw=>BoolOp_one (h pz s Z H Q I hw)
theorem ZL(ha:PE X a ta)(hb:PE X (.BoolOp .And (b::rest) pos) tb):PE X (.BoolOp .And (a::b::rest) pos) (CK ta tb):=by
 intro pz s Z H Q I h;refine BoolOp_and (bK (ha pz s Z H _ I h) λv s1 ⟨x,H1,I1,r1,q1⟩=>?_);obtain⟨c,rfl,q1⟩:=q1;cases r1;refine wpAny_truthy_bool ?_;cases c with
 |true=>exact hb pz s1 Z H1 Q I1 q1
 |false=>exact⟨.bl false,H1,I1,rfl,q1⟩
theorem Y7(ha:PE X a ta)(hb:PE X (.BoolOp .Or (b::rest) pos) tb):PE X (.BoolOp .Or (a::b::rest) pos) (Pa ta tb):=by
 intro pz s Z H Q I h;refine BoolOp_or (bK (ha pz s Z H _ I h) λv s1 ⟨x,H1,I1,r1,q1⟩=>?_);obtain⟨c,rfl,q1⟩:=q1;cases r1;refine wpAny_truthy_bool ?_;cases c with
 |false=>exact hb pz s1 Z H1 Q I1 q1
 |true=>exact⟨.bl true,H1,I1,rfl,q1⟩
theorem zq6(ha:PE X a ta):PE X (.UnaryOp .Not a pos) (Cv ta):=by intro pz s Z H Q I h;refine UnaryOp_ (bK (ha pz s Z H _ I h) λv s1 ⟨x,H1,I1,r1,q1⟩=>?_);obtain⟨c,rfl,q1⟩:=q1;cases r1;exact not_of (wpAny_truthy_bool ⟨.bl (!c),H1,I1,rfl,q1⟩)
def tIf(t:TT)(ta tb:TE):TE:=λZ H Q=>t Z H λc H1=>if c=true then ta Z H1 Q else tb Z H1 Q
theorem zmi{c:Expr}(hc:PT X c tA)(ha:PE X a ta)(hb:PE X b tb):PE X (.IfExp c a b pos) (tIf tA ta tb):=by
 intro pz s Z H Q I h;refine wpAny_IfExp (bK (hc pz s Z H _ I h) λd s1 ⟨H1,I1,q1⟩=>?_);cases d with
 |true=>exact ha pz s1 Z H1 Q I1 q1
 |false=>exact hb pz s1 Z H1 Q I1 q1
end
def cU(K:FgA)(H:Hp)(a:Addr)(xs:List V):Prop :=
 Rd H a (.lst xs) \/
  ∃(o:Obj) (its:Array Value) (n:Nat),K.lookup a=some o/\o.cls = .type "list" /\ o.dict=none/\o.data = .seq its n/\its.size<=sizeLine/\Vals xs its.toList
def dF(K:FgA)(H:Hp)(a:Addr)(xs:List V):Prop :=
 Rd H a (.tup xs) \/
  ∃(o:Obj) (its:Array Value) (n:Nat),K.lookup a=some o/\o.cls = .type "tuple" /\ o.data = .seq its n/\its.size<=sizeLine/\Vals xs its.toList
noncomputable def QS:Value->Option V
 |.none=>some .non
 |.bool b=>some (.bl b)
 |.int i _=>some (.int i)
 |.str x _=>some (.str x)
 |.bytes b _=>some (.byt b)
 |.float b _=>some (.flt b)
 |.ref a=>some (.ref a)
 |.type n=>some (.ty n)
 |_=>none
theorem RelV.abs{x:V}{u:Value}(r:RelV x u):QS u=some x:=by
 cases x with
 |non=>cases r;rfl
 |bl _=>cases r;rfl
 |int _=>obtain⟨t,rfl⟩:=r;rfl
 |str _=>obtain⟨t,rfl⟩:=r;rfl
 |byt _=>obtain⟨t,rfl⟩:=r;rfl
 |flt _=>obtain⟨t,rfl⟩:=r;rfl
 |ref _=>cases r;rfl
 |ty _=>cases r;rfl
def RelV.inj{x y:V}{u:Value}(r:RelV x u)(q:RelV y u):x=y:=Option.some.inj (r.abs.symm.trans q.abs)
theorem Vals.inj:∀{xs ys:List V} {us:List Value},Vals xs us->Vals ys us->xs=ys
 |_,_,_,.nil,.nil=>rfl
 |_,_,_,.cons r t,.cons r' t'=>by rw[r.inj r',Vals.inj t t']
section
variable {X:Cx}{pz:List (Addr×Obj)}{Z:St}{H:Hp}{s:Shared}{a:Addr}{xs ys:List V}
def cU.of{K:FgA}(h:H a=some (.lst xs)):cU K H a xs := .inl (.inl h)
def dF.of{K:FgA}(h:H a=some (.tup xs)):dF K H a xs := .inl (.inl h)
theorem Inv.list(I:Inv X pz Z H s)(h:cU X.K H a xs):∃its:List Value,Vals xs its/\PlainL s.heap a its.toArray/\xs.length<=sizeLine:=by
 rcases h with h|⟨o,its,n,hk,hc,hd,hs,hz,r⟩
 .obtain⟨z,its,n,r,e⟩:=h.ok I.hok;exact⟨its,r,⟨_,n,e,rfl,rfl,rfl⟩,z⟩
 .refine⟨its.toList,r,⟨o,n,I.kIn a o hk,hc,hd,by simpa using hs⟩,?_⟩;have e:=r.length;simp only[Array.length_toList] at e;omega
theorem Inv.tuple(I:Inv X pz Z H s)(h:dF X.K H a xs):∃its:List Value,Vals xs its/\IsTup s.heap a its.toArray/\xs.length<=sizeLine:=by
 rcases h with h|⟨o,its,n,hk,hc,hs,hz,r⟩
 .obtain⟨z,its,r,p⟩:=h.ok I.hok;exact⟨its,r,p,z⟩
 .refine⟨its.toList,r,⟨o,I.kIn a o hk,hc,n,by simpa using hs⟩,?_⟩;have e:=r.length;simp only[Array.length_toList] at e;omega
theorem Inv.list_inj(I:Inv X pz Z H s)(h:cU X.K H a xs)(h':cU X.K H a ys):xs=ys:=by
 obtain⟨its,r,⟨o,n,e,_,_,d⟩,_⟩:=I.list h;obtain⟨its',r',⟨o',n',e',_,_,d'⟩,_⟩:=I.list h';rw[e] at e';cases e';rw[d] at d';injection d' with d1 _;have:its=its':=by simpa using congrArg Array.toList d1
 subst this;exact r.inj r'
theorem Inv.tuple_inj(I:Inv X pz Z H s)(h:dF X.K H a xs)(h':dF X.K H a ys):xs=ys:=by
 obtain⟨its,r,⟨o,e,_,n,d⟩,_⟩:=I.tuple h;obtain⟨its',r',⟨o',e',_,n',d'⟩,_⟩:=I.tuple h';rw[e] at e';cases e';rw[d] at d';injection d' with d1 _;have:its=its':=by simpa using congrArg Array.toList d1
 subst this;exact r.inj r'
end
abbrev Cx.wish(X:Cx)(E:Value->Shared->Prop):Cx:={ X with xe:=E }
abbrev Cx.nox(X:Cx):Cx:=X.wish λ_ _=>False
def Cx.Ok.wish{X:Cx}(ok:X.Ok)(E:Value->Shared->Prop):(X.wish E).Ok :=
 ⟨ok.mod,ok.kind,ok.glob,ok.blt,ok.above,ok.inj,ok.has,ok.cab,ok.hd,ok.frames,ok.stk,ok.exf,ok.bs,ok.bsz,ok.noex,ok.exfs,ok.funs,ok.frf⟩
def Cx.Ok.unwish{X:Cx}{E:Value->Shared->Prop}(ok:(X.wish E).Ok):X.Ok :=
 ⟨ok.mod,ok.kind,ok.glob,ok.blt,ok.above,ok.inj,ok.has,ok.cab,ok.hd,ok.frames,ok.stk,ok.exf,ok.bs,ok.bsz,ok.noex,ok.exfs,ok.funs,ok.frf⟩
section
variable {X:Cx}{pz:List (Addr×Obj)}{Z:St}{H:Hp}{s:Shared}{E:Value->Shared->Prop}
def Inv.wish(I:Inv X pz Z H s)(E:Value->Shared->Prop):Inv (X.wish E) pz Z H s:=⟨I.ok.wish E,I.os,I.bare,I.base,I.loc,I.cell,I.free,I.freeC,I.pin,I.hok,I.len⟩
def Inv.unwish(I:Inv (X.wish E) pz Z H s):Inv X pz Z H s:=⟨I.ok.unwish,I.os,I.bare,I.base,I.loc,I.cell,I.free,I.freeC,I.pin,I.hok,I.len⟩
theorem SP.unwish{D:qF}{f:Flow}{s':Shared}(h:SP (X.wish E) pz D f s'):SP X pz D f s':=by
 cases f with
 |next=>obtain⟨Z',H',I,q⟩:=h;exact⟨Z',H',I.unwish,q⟩
 |brk=>obtain⟨Z',H',I,q⟩:=h;exact⟨Z',H',I.unwish,q⟩
 |cont=>obtain⟨Z',H',I,q⟩:=h;exact⟨Z',H',I.unwish,q⟩
 |ret u=>obtain⟨v,Z',H',I,r,q⟩:=h;exact⟨v,Z',H',I.unwish,r,q⟩
def PE.nox{e:Expr}{t:TE}(h:PE X.nox e t):PE X e t:=λpz s Z H Q I hw =>
 iI (h pz s Z H Q (I.wish _) hw) (λ_ _ ⟨v,H',I',r,q⟩=>⟨v,H',I'.unwish,r,q⟩) λ_ _ z=>False.elim z
def fL.nox{st:List Stmt}{t:TS}(h:fL X.nox st t):fL X st t:=λpz s Z H D I hw =>
 iI (h pz s Z H D (I.wish _) hw) (λ_ _ q=>q.unwish) λ_ _ z=>False.elim z
end
section
variable {X:Cx}{st:Stmt}{rest:List Stmt}{t u:TS}{e:Expr}{te:TE}{pos:Pos}
def yM:TS:=λD Z H=>D.nx Z H
def oW(t u:TS):TS:=λD Z H=>t { D with nx:=u D } Z H
def Gy:fL X [] yM:=λ_ _ Z H _ I h=>wpAny_execs_nil ⟨Z,H,I,h⟩
theorem uq(h1:PS X st t)(h2:fL X rest u):fL X (st::rest) (oW t u):=by
 intro pz s Z H D I h;refine wpAny_execs_cons (bK (h1 pz s Z H { D with nx:=u D } I h) λf s1 q=>?_);cases f with
 |next =>
  obtain⟨Z',H',I',q⟩:=q;exact h2 pz s1 Z' H' D I' q
 |ret v=>exact q
 |brk=>exact q
 |cont=>exact q
theorem Uo(h1:PS X st t):fL X [st] t:=by
 intro pz s Z H D I h;refine wpAny_execs_cons (bK (h1 pz s Z H D I h) λf s1 q=>?_);cases f with
 |next=>exact wpAny_execs_nil q
 |ret v=>exact q
 |brk=>exact q
 |cont=>exact q
def wR:TS:=λD Z H=>D.bk Z H
def CG:TS:=λD Z H=>D.ct Z H
def zos:PS X (.Pass pos) yM:=λ_ _ Z H _ I h=>wpAny_Pass ⟨Z,H,I,h⟩
def zmc:PS X (.Break pos) wR:=λ_ _ Z H _ I h=>wpAny_Break ⟨Z,H,I,h⟩
def zhl:PS X (.Continue pos) CG:=λ_ _ Z H _ I h=>wpAny_Continue ⟨Z,H,I,h⟩
def Inv.quiet{pz:List (Addr×Obj)}{Z:St}{H:Hp}{s:Shared}(I:Inv X pz Z H s):interactive X.env=false:=by simp[interactive,I.ok.kind]
def zq0{x j pos pos'}:PS X (.Expr (.Constant (.str x) j pos) pos') yM:=λ_ s Z H _ I h=>wpAny_Expr (Calls.Constant_str (show SP X _ _ .next { s with toks:=s.toks+1 } from⟨Z,H,I.tok _,h⟩)) I.quiet
def Cz(te:TE):TS:=λD Z H=>te Z H λ_ H1=>D.nx Z H1
theorem Um(he:PE X e te)(hs:swapsWith e none pos.line X.env=pure false:=by rfl):PS X (.Expr e pos) (Cz te):=by intro pz s Z H D I h;exact wpAny_Expr_any (bK (he pz s Z H _ I h) λv s1 ⟨x,H1,I1,r1,q1⟩=>⟨Z,H1,I1,q1⟩) I.quiet hs
def rO(te:TE):TS:=λD Z H=>te Z H D.rt
theorem Ay(he:PE X e te):PS X (.Return (some e) pos) (rO te):=by intro pz s Z H D I h;exact wpAny_Return_some (bK (he pz s Z H _ I h) λv s1 ⟨x,H1,I1,r1,q1⟩=>⟨x,Z,H1,I1,r1,q1⟩)
def Cr:TS:=λD _ H=>D.rt .non H
def zor:PS X (.Return none pos) Cr:=λ_ _ Z H _ I h=>wpAny_Return_none ⟨.non,Z,H,I,rfl,h⟩
def Cy(c:TT)(t u:TS):TS:=λD Z H=>c Z H λb H1=>if b=true then t D Z H1 else u D Z H1
theorem JM{c:Expr}{a b:List Stmt}{tc:TT}(hc:PT X c tc)(ha:fL X a t)(hb:fL X b u):PS X (.If c a b pos) (Cy tc t u):=by
 intro pz s Z H D I h;refine wpAny_If (bK (hc pz s Z H _ I h) λd s1 ⟨H1,I1,q1⟩=>?_);cases d with
 |true=>exact ha pz s1 Z H1 D I1 q1
 |false=>exact hb pz s1 Z H1 D I1 q1
end
abbrev TG:=V->St->Hp->(St->Hp->Prop)->Prop
abbrev qx:=List V->St->Hp->(St->Hp->Prop)->Prop
noncomputable def PG(X:Cx)(target:Expr)(t:TG):Prop :=
 ∀(pz:List (Addr×Obj)) (s:Shared) (Z:St) (H:Hp) (v:V) (u:Value) (Q:St->Hp->Prop),Inv X pz Z H s->RelV v u->t v Z H Q ->
  wpAny (model X.prog X.w) X.A (assign target X.env u) (λ_ s'=>∃Z' H',Inv X pz Z' H' s'/\Q Z' H') X.xe s
noncomputable def zX(X:Cx)(ts:List Expr)(t:qx):Prop :=
 ∀(pz:List (Addr×Obj)) (s:Shared) (Z:St) (H:Hp) (vs:List V) (us:List Value) (Q:St->Hp->Prop),Inv X pz Z H s->Vals vs us->t vs Z H Q ->
  wpAny (model X.prog X.w) X.A (assignInOrder ((assignEach ts X.env).map (·.2)) us) (λ_ s'=>∃Z' H',Inv X pz Z' H' s'/\Q Z' H') X.xe s
section
variable {X:Cx}{pos:Pos}
def Jd(i:Nat):TG:=λv Z H Q=>Q (Z.set i (some v)) H
theorem zoA{i:Nat}{x:Str}(hN:X.N.Nodup)(hi:X.N[i]?=some x)(hx:Loc X.env.scope x)(hf:X.fn x=true\/X.env.scope.names.lookup x=some .local:=by first|exact .inl rfl|exact .inr rfl|assumption):PG X (.Name x pos) (Jd i):=by intro pz s Z H v u Q I r h;exact wpAny_assign_Name (G6 I hN hi hx r (λs' I'=>⟨_,H,I',h⟩) hf)
def QB:qx:=λvs Z H Q=>vs=[]/\Q Z H
def Ei(t:TG)(u:qx):qx:=λvs Z H Q=>∃v r,vs=v::r/\t v Z H λZ' H'=>u r Z' H' Q
def zoy:zX X [] QB:=by intro pz s Z H vs us Q I r h;obtain⟨e,h⟩:=h;subst e;cases r;exact assignInOrder_nil ⟨Z,H,I,h⟩
theorem zmf{e:Expr}{es:List Expr}{t:TG}{u:qx}(h1:PG X e t)(h2:zX X es u)(hs:(assignEach (e::es) X.env).map (·.2)=assign e X.env::(assignEach es X.env).map (·.2):=by rfl):zX X (e::es) (Ei t u):=by
 intro pz s Z H vs us Q I r h;obtain⟨v,vr,e1,h⟩:=h;subst e1;cases r with
 |cons r rr =>
  rw[hs];refine assignInOrder_cons (bK (h1 pz s Z H _ _ _ I r h) λ_ s1 ⟨σ1,H1,I1,q1⟩=>?_);exact h2 pz s1 σ1 H1 _ _ Q I1 rr q1
def b8(K:FgA)(n:Nat)(t:qx):TG:=λv Z H Q=>∃a xs,v = .ref a/\dF K H a xs/\xs.length=n/\t xs Z H Q
theorem zq4{es:List Expr}{k:Nat}{t:qx}{n:Nat}(hc:X.calm=true)(h:zX X es t)(hn:(assignEach es X.env).length=n:=by rfl)(hst:(assignEach es X.env).findIdx? (·.1)=none:=by rfl):PG X (.Tuple es k pos) (b8 X.K n t):=by intro pz s Z H v u Q I r hw;obtain⟨a,xs,e1,hq,hl,hw⟩:=hw;subst e1;cases r;obtain⟨its,rv,ht,hz⟩:=I.tuple hq;refine assign_Tuple_tuple (I.ok.hd hc) ht (by simp[hn,<-hl,rv.length]) hst λh' hx=>?_;have I1:Inv X pz Z H { s with heap:=h' }:=I.kept (t':=s.toks) λb o e=>hx b o (cW (b7 e)) e;exact h pz _ Z H xs _ Q I1 (by simpa using rv) hw
def wU(te:TE)(g:TG):TS:=λD Z H=>te Z H λx H1=>g x Z H1 D.nx
theorem zq1{tg e:Expr}{te:TE}{g:TG}(he:PE X e te)(hg:PG X tg g)(hs:swapsWithSole [tg] e pos.line X.env=pure false:=by rfl)(hw:swappedStores [tg] e X.env=pure none:=by rfl)(h1:(assignEach [tg] X.env).map (·.2)=[assign tg X.env]:=by rfl):PS X (.Assign [tg] e pos) (wU te g):=by intro pz s Z H D I h;refine wpAny_Assign_stores (bK (he pz s Z H _ I h) λv s1 ⟨x,H1,I1,r1,q1⟩=>?_) hs hw;rw[h1];exact bK (hg pz s1 Z H1 x v _ I1 r1 q1) λ_ s2 q=>q
theorem RT{i:Nat}{x:Str}{e:Expr}{te:TE}{pos':Pos}(hN:X.N.Nodup)(hi:X.N[i]?=some x)(hx:Loc X.env.scope x)(he:PE X e te)(hs:swapsWith e (some (.Name x pos')) pos.line X.env=pure false:=by rfl)(hf:X.fn x=true\/X.env.scope.names.lookup x=some .local:=by first|exact .inl rfl|exact .inr rfl|assumption):
 PS X (.Assign [.Name x pos'] e pos) (wU te (Jd i)):=by
 intro pz s Z H D I h;refine wpAny_Assign_Name (bK (he pz s Z H _ I h) λv s1 ⟨y,H1,I1,r1,q1⟩=>?_) hs;exact G6 I1 hN hi hx r1 (λs2 I2=>⟨_,H1,I2,q1⟩) hf
end
section
variable {X:Cx}{pos:Pos}
noncomputable def wM(c:TT)(tb:TS):TS:=λD Z H=>∃W:Nat->St->Hp->Prop,(∃m,W m Z H)/\∀m Z H,W m Z H ->
 c Z H λb H1=>if b=true then ∃N:St->Hp->Prop,(∀Z' H',N Z' H'->∃m',m'<m/\W m' Z' H')/\tb { D with nx:=N,ct:=N,bk:=D.nx } Z H1 else D.nx Z H1
theorem zma{c:Expr}{body:List Stmt}{tc:TT}{tb:TS}(hp:PassesOwn (model X.prog X.w) X.A X.env X.xe)(hc:PT X c tc)(hb:fL X body tb):PS X (.While c body [] pos) (wM tc tb):=by
 intro pz s Z H D I h;obtain⟨W,⟨m0,w0⟩,turn⟩:=h;refine wpAny_While (codeAny_whileLoop (λn s'=>∃Z' H',Inv X pz Z' H' s'/\W n Z' H') ?_ m0 ⟨Z,H,I,w0⟩)
 rintro n s1 ⟨σ1,H1,I1,w1⟩
 refine wpAny_passesOwn hp (bK (hc pz s1 σ1 H1 _ I1 (turn n σ1 H1 w1)) λb s2 ⟨H2,I2,q2⟩=>?_);cases b with
 |true =>
  obtain⟨N,hN,q2⟩:=q2;rw[if_pos rfl];refine wpAny_passesOwn hp (bK (hb pz s2 σ1 H2 _ I2 q2) λf s3 q3=>?_);cases f with
  |next =>
   obtain⟨σ3,H3,I3,n3⟩:=q3;obtain⟨m',hm,w3⟩:=hN σ3 H3 n3;exact⟨m',hm,σ3,H3,I3,w3⟩
  |cont =>
   obtain⟨σ3,H3,I3,n3⟩:=q3;obtain⟨m',hm,w3⟩:=hN σ3 H3 n3;exact⟨m',hm,σ3,H3,I3,w3⟩
  |brk=>exact q3
  |ret v=>exact q3
 |false =>
  rw[if_neg fO];exact wpAny_execs_nil ⟨σ1,H2,I2,q2⟩
end
structure It where
 go:Nat->Hp->Prop
 yld:Nat->Hp->V->Hp->Prop
 stop:Nat->Hp->Prop
def jO(X:Cx)(pz:List (Addr×Obj))(H:Hp)(b:Addr):Prop :=
 H b=none/\b≠X.env.locals/\b∉X.fs/\(b∈X.ex\/X.s₀.heap.objs.size<=b)/\(∀x c,X.env.cells.lookup x=some c->c≠b)/\∀p∈X.pn++pz,p.1≠b
theorem Inv.fpOk{X:Cx}{pz:List (Addr×Obj)}{Z:St}{H H':Hp}{s:Shared}{b:Addr}(I:Inv X pz Z H s)(hb:s.heap.objs.size<=b)(hn:H' b=none):jO X pz H' b:=by
 refine⟨hn,Nat.ne_of_gt (di I.lt hb),I.nofs hb,.inr (Nat.le_trans I.sz hb),λx c e z=>?_,λp hp z=>?_⟩
 .obtain⟨v,q⟩:=I.cell x c e;exact absurd (di q.lt (by rw[z];exact hb)) (gw _)
 .exact absurd (di (b7 (I.pin p hp).1) (by rw[z];exact hb)) (gw _)
structure vI(P:Program)(w:World)(K:FgA)(tg:Expr)(J:It)(fp:List Addr)(it:Addr)(tn:Nat->Heap->Prop):Prop where
 mem:it∈fp
 obj:∀i h,tn i h->∀b∈fp,∃o,h.get? b=some o/\∀v,o.data ≠ .cell v
 keep:∀i h h',tn i h->(∀b∈fp,∀o,h.get? b=some o->h'.get? b=some o)->tn i h'
 item:∀(X:Cx),X.prog=P->X.w=w->X.K=K->X.calm=true->∀(i:Nat) (pz:List (Addr×Obj)) (s:Shared) (Z:St) (H:Hp) (E:Value->Shared->Prop),Inv X pz Z H s->(∀b∈fp,jO X pz H b)->tn i s.heap->J.go i H ->
  wpAny (model P w) X.A (pyNext (.ref it)) (λr s1=>∃u,r=some u /\
   wpAny (model P w) X.A (letOwnedTupleGo tg (.ref it) u) (λ_ s2=>∃x H',Inv X pz Z H' s2/\RelV x u/\J.yld i H x H'/\tn (i+1) s2.heap/\∀b∈fp,H' b=none) E s1) E s
 done:∀(X:Cx),X.prog=P->X.w=w->X.K=K->X.calm=true->∀(i:Nat) (pz:List (Addr×Obj)) (s:Shared) (Z:St) (H:Hp) (E:Value->Shared->Prop),Inv X pz Z H s->(∀b∈fp,jO X pz H b)->tn i s.heap->J.stop i H ->
  wpAny (model P w) X.A (pyNext (.ref it)) (λr s1=>r=none/\Inv X pz Z H s1) E s
 self:∀(A:Around) (i:Nat) (s:Shared) (Q:Value->Shared->Prop) (E:Value->Shared->Prop),tn i s.heap->Q (.ref it) s->wpAny (model P w) A (pyIter (.ref it)) Q E s
abbrev TI:=St->Hp->(It->Hp->Prop)->Prop
noncomputable def PIE(X:Cx)(pz:List (Addr×Obj))(Z:St)(tg:Expr)(R:It->Hp->Prop)(itv:Value)(s2:Shared):Prop :=
 ∃(it:Addr) (fp:List Addr) (tn:Nat->Heap->Prop) (J:It) (H':Hp),itv = .ref it/\Inv X pz Z H' s2/\vI X.prog X.w X.K tg J fp it tn/\tn 0 s2.heap/\(∀b∈fp,jO X pz H' b)/\R J H'
noncomputable def PI(X:Cx)(tg iter:Expr)(wi:TI):Prop :=
 ∀(pz:List (Addr×Obj)) (s:Shared) (Z:St) (H:Hp) (R:It->Hp->Prop),Inv X pz Z H s->wi Z H R ->
  wpAny (model X.prog X.w) X.A (eval iter X.env) (λv s1=>wpAny (model X.prog X.w) X.A (pyIter v) (PIE X pz Z tg R) X.xe s1) X.xe s
theorem JF{M:Model}{A:Around}{E:Value->Shared->Prop}{s:Shared}{tg:Expr}{it:Addr}{u:Value}{o:Obj}{n:String}{vs:Array Value}{Q:Unit->Shared->Prop}(ho:s.heap.get? it=some o)(hc:o.cls = .type n)(hd:o.data = .fields vs)(hn:["enumerate", "zip", "dict_itemiterator", "dict_reverseitemiterator", "odict_iterator", "itertools.zip_longest", "itertools.pairwise"].contains n=false)(hQ:Q () s):wpAny M A (letOwnedTupleGo tg (.ref it) u) Q E s:=by
 unfold letOwnedTupleGo;cases tg<;>first
  |exact bN hQ
  | (cases u<;>first
   |exact bN hQ
   | (refine aC (wpAny_load ho ?_)
      rw[hc,hd];show wpAny M A (if(["enumerate", "zip", "dict_itemiterator", "dict_reverseitemiterator", "odict_iterator", "itertools.zip_longest", "itertools.pairwise"].contains n&&vs[0]?==some (rawInt _))=true then _ else _) Q E s;rw[if_neg (by intro h;rw[hn,Bool.false_and] at h;cases h)];exact bN hQ))
def zY(K:FgA)(a:Addr):It :=
 ⟨λi H=>∃xs x,cU K H a xs/\xs[i]?=some x,λi H x H'=>H'=H/\∀xs,cU K H a xs->xs[i]?=some x,λi H=>∃xs,cU K H a xs/\xs.length<=i⟩
def QZ(K:FgA)(a:Addr):It :=
 ⟨λi H=>∃xs x,dF K H a xs/\xs[i]?=some x,λi H x H'=>H'=H/\∀xs,dF K H a xs->xs[i]?=some x,λi H=>∃xs,dF K H a xs/\xs.length<=i⟩
def Ez(lo:Int)(n:Nat):It:=⟨λi _=>i<n,λi H x H'=>H'=H/\x = .int (lo+i),λi _=>n<=i⟩
theorem zjy{P:Program}{w:World}{K:FgA}{tg:Expr}(a it:Addr):vI P w K tg (zY K a) [it] it (λi h=>h.IsListIter it a i) where
 mem:=by simp
 obj:=λi h st b hb=>by
  have e:b=it:=by simpa using hb
  subst e;obtain⟨o,e,c,d⟩:=st;exact⟨o,e,λv z=>by rw[d] at z;cases z⟩
 keep:=λi h h' st k=>st.at λo e=>k it (by simp) o e
 item:=by intro X hP hw hK hc i pz s Z H E I hf st hg;subst hP hw hK;obtain⟨xs,x,hq,hx⟩:=hg;obtain⟨its,rv,p,hz⟩:=I.list hq;obtain⟨u,hu,ru⟩:=rv.get hx;obtain⟨f0,f1,f2,f3,f4,f5⟩:=hf it (by simp);refine wpAny_pyNext_list_item st p.isList (x:=u) (by simpa using hu) λh' st' sb=>?_;have I1:Inv X pz Z H { s with heap:=h' }:=I.turned (t':=s.toks) (λb o hb e=>(sb.2 b hb).trans e) f0 f1 f3 f4 f5;obtain⟨o,e,c,d⟩:=id st';exact⟨u,rfl,JF (s:={ s with heap:=h' }) e c d (by decide) ⟨x,H,I1,ru,⟨rfl,λys hy=>by rw[I.list_inj hy hq];exact hx⟩,st',λb hb=>(hf b hb).1⟩⟩
 done:=by intro X hP hw hK hc i pz s Z H E I hf st hg;subst hP hw hK;obtain⟨xs,hq,hx⟩:=hg;obtain⟨its,rv,p,hz⟩:=I.list hq;obtain⟨f0,f1,f2,f3,f4,f5⟩:=hf it (by simp);have hl:=rv.length;exact wpAny_pyNext_list_end (I.ok.hd hc) st p.isList (by simp;omega) λh' eb=>⟨rfl,I.turned (t':=s.toks) (λb o hb e=>eb b o hb e) f0 f1 f3 f4 f5⟩
 self:=λ_ _ _ _ _ st h=>wpAny_pyIter_listiter st h
theorem ziH{P:Program}{w:World}{K:FgA}{tg:Expr}(a it:Addr):vI P w K tg (QZ K a) [it] it (λi h=>h.IsTupleIter it a i) where
 mem:=by simp
 obj:=λi h st b hb=>by
  have e:b=it:=by simpa using hb
  subst e;obtain⟨o,e,c,d⟩:=st;exact⟨o,e,λv z=>by rw[d] at z;cases z⟩
 keep:=λi h h' st k=>st.at λo e=>k it (by simp) o e
 item:=by intro X hP hw hK hc i pz s Z H E I hf st hg;subst hP hw hK;obtain⟨xs,x,hq,hx⟩:=hg;obtain⟨its,rv,p,hz⟩:=I.tuple hq;obtain⟨u,hu,ru⟩:=rv.get hx;obtain⟨f0,f1,f2,f3,f4,f5⟩:=hf it (by simp);refine wpAny_pyNext_tuple_item st (show s.heap.IsTuple a its.toArray from p) (x:=u) (by simpa using hu) λh' st' sb=>?_;have I1:Inv X pz Z H { s with heap:=h' }:=I.turned (t':=s.toks) (λb o hb e=>(sb.2 b hb).trans e) f0 f1 f3 f4 f5;obtain⟨o,e,c,d⟩:=id st';exact⟨u,rfl,JF (s:={ s with heap:=h' }) e c d (by decide) ⟨x,H,I1,ru,⟨rfl,λys hy=>by rw[I.tuple_inj hy hq];exact hx⟩,st',λb hb=>(hf b hb).1⟩⟩
 done:=by intro X hP hw hK hc i pz s Z H E I hf st hg;subst hP hw hK;obtain⟨xs,hq,hx⟩:=hg;obtain⟨its,rv,p,hz⟩:=I.tuple hq;obtain⟨f0,f1,f2,f3,f4,f5⟩:=hf it (by simp);have hl:=rv.length;exact wpAny_pyNext_tuple_end (I.ok.hd hc) st (show s.heap.IsTuple a its.toArray from p) (by simp;omega) λh' eb=>⟨rfl,I.turned (t':=s.toks) (λb o hb e=>eb b o hb e) f0 f1 f3 f4 f5⟩
 self:=λ_ _ _ _ _ st h=>wpAny_pyIter_tupleiter st h
theorem ziI{P:Program}{w:World}{K:FgA}{tg:Expr}(it:Addr)(lo:Int)(n:Nat):vI P w K tg (Ez lo n) [it] it (λi h=>IsRangeIter h it (lo+(i:Nat)*1) ((n:Int) - (i:Nat)) 1) where
 mem:=by simp
 obj:=λi h st b hb=>by
  have e:b=it:=by simpa using hb
  subst e;exact⟨_,st,λv z=>by
   have z':Data.fields _=Data.cell v:=z;cases z'⟩
 keep:=λi h h' st k=>k it (by simp) _ st
 item:=by intro X hP hw hK hc i pz s Z H E I hf st hg;subst hP hw hK;obtain⟨f0,f1,f2,f3,f4,f5⟩:=hf it (by simp);have W:=Walks.range (prog:=X.prog) (w:=X.w) (I.ok.hd hc) it lo 1 n;refine W.item i s _ _ hg st λv h' tk hv st' kk=>?_;obtain⟨t,rfl⟩:=hv;have I1:Inv X pz Z H { s with heap:=h',toks:=tk }:=I.turned (λb o hb e=>kk b o (by simpa using hb) e) f0 f1 f3 f4 f5;refine⟨_,rfl,JF (s:={ s with heap:=h',toks:=tk }) (n := "range_iterator") st' rfl rfl (by decide) ⟨.int (lo+i),H,I1,⟨t,?_⟩,⟨rfl,rfl⟩,st',λb hb=>(hf b hb).1⟩⟩;rw[Int.mul_one]
 done:=by intro X hP hw hK hc i pz s Z H E I hf st hg;subst hP hw hK;obtain⟨f0,f1,f2,f3,f4,f5⟩:=hf it (by simp);exact wpAny_pyNext_range_end (I.ok.hd hc) st (by have:n<=i:=hg;omega) λh' eb=>⟨rfl,I.turned (t':=s.toks) (λb o hb e=>eb b o hb e) f0 f1 f3 f4 f5⟩
 self:=λ_ _ _ _ _ st h=>wpAny_pyIter_rangeiter st h
section
variable {X:Cx}{tg:Expr}
def DX(K:FgA)(tl:TE):TI:=λZ H R=>tl Z H λx H1=>∃a,x = .ref a/\(∃xs,cU K H1 a xs)/\R (zY K a) H1
def Qn(K:FgA)(tl:TE):TI:=λZ H R=>tl Z H λx H1=>∃a,x = .ref a/\(∃xs,dF K H1 a xs)/\R (QZ K a) H1
theorem zox{l:Expr}{tl:TE}(hl:PE X l tl):PI X tg l (DX X.K tl):=by
 intro pz s Z H R I h;refine bK (hl pz s Z H _ I h) λv s1 ⟨x,H1,I1,r1,q1⟩=>?_;obtain⟨a,e,⟨xs,hq⟩,q⟩:=q1;subst e;cases r1;obtain⟨its,rv,p,hz⟩:=I1.list hq;refine wpAny_pyIter_list p.isList ?_;refine⟨s1.heap.objs.size,[s1.heap.objs.size],_,_,H1,rfl,I1.kept (t':=s1.toks) λb o e=>cN _ e,zjy a _,⟨_,gq _ rfl,rfl,rfl⟩,λb hb=>?_,q⟩;have e:b=s1.heap.objs.size:=by simpa using hb
 subst e;exact I1.fpOk (bT _) (I1.hok.fresh (bT _))
theorem zq3{l:Expr}{tl:TE}(hl:PE X l tl):PI X tg l (Qn X.K tl):=by
 intro pz s Z H R I h;refine bK (hl pz s Z H _ I h) λv s1 ⟨x,H1,I1,r1,q1⟩=>?_;obtain⟨a,e,⟨xs,hq⟩,q⟩:=q1;subst e;cases r1;obtain⟨its,rv,p,hz⟩:=I1.tuple hq;refine wpAny_pyIter_tuple (show s1.heap.IsTuple a its.toArray from p) ?_;refine⟨s1.heap.objs.size,[s1.heap.objs.size],_,_,H1,rfl,I1.kept (t':=s1.toks) λb o e=>cN _ e,ziH a _,⟨_,gq _ rfl,rfl,rfl⟩,λb hb=>?_,q⟩;have e:b=s1.heap.objs.size:=by simpa using hb
 subst e;exact I1.fpOk (bT _) (I1.hok.fresh (bT _))
theorem Vl{pz:List (Addr×Obj)}{Z:St}{H:Hp}{s:Shared}{R:It->Hp->Prop}{E:Value->Shared->Prop}{lo hi:Int}{t u v:Tok}{tk:Nat}(I:Inv X pz Z H s)(h1 : -(2 ^ 62)<=lo)(h2:lo<2 ^ 62)(h3 : -(2 ^ 62)<=hi)(h4:hi<2 ^ 62)(q:R (Ez lo (hi - lo).toNat) H):wpAny (model X.prog X.w) X.A (pyIter (.ref s.heap.objs.size)) (PIE X pz Z tg R) E { s with heap:=s.heap.push { cls := .type "range",data := .fields #[.int lo t,.int hi u,.int 1 v] },toks:=tk }:=by
 refine wpAny_pyIter_range (IsRange.new ..) (small_one h1 h2 h3 h4) ?_;have I1:Inv X pz Z H { s with heap:=s.heap.push { cls := .type "range",data := .fields #[.int lo t,.int hi u,.int 1 v] },toks:=tk }:=I.kept λb o e=>cN _ e;refine⟨(s.heap.push { cls := .type "range",data := .fields #[.int lo t,.int hi u,.int 1 v] }).objs.size,[(s.heap.push { cls := .type "range",data := .fields #[.int lo t,.int hi u,.int 1 v] }).objs.size],_,_,H,rfl,
  I1.kept (t':=tk) λb o e=>cN _ e,ziI _ lo (hi - lo).toNat,?_,λb hb=>?_,q⟩
 .have e1:lo+((0:Nat):Int)*1=lo:=by simp
  have e2:(((hi - lo).toNat:Nat):Int) - ((0:Nat):Int)=Builtin.Range.rangeSize lo hi 1:=by rw[rangeSize_one];split<;>omega
  show IsRangeIter _ _ (lo+((0:Nat):Int)*1) ((((hi - lo).toNat:Nat):Int) - ((0:Nat):Int)) 1;rw[e1,e2];exact gq _ rfl
 .have e:b=(s.heap.push { cls := .type "range",data := .fields #[.int lo t,.int hi u,.int 1 v] }).objs.size:=by simpa using hb
  subst e;exact I1.fpOk (bT _) (I1.hok.fresh (bT _))
def DW(ta:TA):TI:=λZ H R=>ta Z H λvs H1=>∃j:Int,vs=[.int j] /\ -(2 ^ 62)<=j/\j<2 ^ 62/\R (Ez 0 j.toNat) H1
def DQ(ta:TA):TI:=λZ H R=>ta Z H λvs H1=>∃i j:Int,vs=[.int i,.int j]/\(-(2 ^ 62)<=i/\i<2 ^ 62 /\ -(2 ^ 62)<=j/\j<2 ^ 62)/\R (Ez i (j - i).toNat) H1
theorem zj6{a:Expr}{ta:TA}{p pos:Pos}(hg:Gl X "range")(hm:X.mg "range" = none)(ha:PA X [a] ta)(hs:starEach [a] X.env=[(false,eval a X.env)]:=by rfl):PI X tg (.Call (.Name "range" p) [a] [] pos) (DW ta):=by
 intro pz s Z H R I h;refine Call_ (rA I hg hm boot_range (PyProof.Rows.callWith_type1 (bK (ha pos pz s Z H _ I h) λus s1 ⟨vs,H1,I1,r1,q1⟩=>?_) hs rfl));obtain⟨j,e,q1,q2,q⟩:=q1;subst e;cases r1 with
 |cons r rr =>
  cases rr;obtain⟨t,rfl⟩:=r;exact call_range_1 (Vl I1 (by omega) (by omega) q1 q2 (by simpa using q))
theorem zj5{a b:Expr}{ta:TA}{p pos:Pos}(hg:Gl X "range")(hm:X.mg "range" = none)(ha:PA X [a,b] ta)(hs:starEach [a,b] X.env=[(false,eval a X.env),(false,eval b X.env)]:=by rfl)(hs2:starEach [b] X.env=[(false,eval b X.env)]:=by rfl):
 PI X tg (.Call (.Name "range" p) [a,b] [] pos) (DQ ta):=by
 intro pz s Z H R I h;refine Call_ (rA I hg hm boot_range (PyProof.Rows.callWith_type1 (bK (ha pos pz s Z H _ I h) λus s1 ⟨vs,H1,I1,r1,q1⟩=>?_) (by rw[hs,hs2]) (by rw[hs2];rfl)));obtain⟨i,j,e,⟨q1,q2,q3,q4⟩,q⟩:=q1;subst e;cases r1 with
 |cons r rr =>
  cases rr with
  |cons r' rr =>
   cases rr;obtain⟨t,rfl⟩:=r;obtain⟨t',rfl⟩:=r';exact call_range_2 (Vl I1 q1 q2 q3 q4 q)
noncomputable def Ph(wi:TI)(g:TG)(tb:TS):TS:=λD Z H=>wi Z H λJ H1=>∃W:Nat->Nat->St->Hp->Prop,(∃m,W 0 m Z H1)/\∀i m Z H,W i m Z H ->
 (J.stop i H/\D.nx Z H)\/(J.go i H/\∃N:St->Hp->Prop,(∀Z' H',N Z' H'->∃m',m'<m/\W (i+1) m' Z' H')/\∀x H',J.yld i H x H'->g x Z H' λσ2 H2=>tb { D with nx:=N,ct:=N,bk:=D.nx } σ2 H2)
def Ak(fp:List Addr)(h:Heap):List (Addr×Obj):=fp.filterMap λb=>(h.get? b).map λo=>(b,o)
def Nb{fp:List Addr}{h:Heap}{b:Addr}{o:Obj}(hb:b∈fp)(e:h.get? b=some o):(b,o)∈Ak fp h:=List.mem_filterMap.mpr ⟨b,hb,by rw[e];rfl⟩
theorem zkg{fp:List Addr}{h:Heap}{p:Addr×Obj}(hp:p∈Ak fp h):p.1∈fp/\h.get? p.1=some p.2:=by
 obtain⟨b,hb,e⟩:=List.mem_filterMap.mp hp;cases q:h.get? b with
 |none=>rw[q] at e;cases e
 |some o =>
  rw[q] at e;have e':(b,o)=p:=Option.some.inj e;subst e';exact⟨hb,q⟩
theorem Inv.pinned{pz:List (Addr×Obj)}{Z:St}{H:Hp}{s:Shared}{fp:List Addr}(I:Inv X pz Z H s)(hf:∀b∈fp,jO X pz H b)(ho:∀b∈fp,∃o,s.heap.get? b=some o/\∀v,o.data ≠ .cell v):Inv X (pz++Ak fp s.heap) Z H s :=
 I.pins_of λp hp=>(lB.mp hp).elim (λz=>I.pin p (List.mem_append_right _ z)) λz=>by obtain⟨hb,e⟩:=zkg z;obtain⟨f0,f1,f2,_⟩:=hf p.1 hb;obtain⟨o,e',d⟩:=ho p.1 hb;rw[e] at e';cases e';exact⟨e,f0,f1,f2,d⟩
def Inv.unpinned{pz pl:List (Addr×Obj)}{Z:St}{H:Hp}{s:Shared}(I:Inv X (pz++pl) Z H s):Inv X pz Z H s:=I.pins_of λp hp=>I.pin p (List.mem_append_right _ (List.mem_append_left _ hp))
theorem zqY{iter:Expr}{body:List Stmt}{wi:TI}{g:TG}{tb:TS}{pos:Pos}(hp:PassesOwn (model X.prog X.w) X.A X.env X.xe)(hc:X.calm=true)(hi:PI X tg iter wi)(hg:PG X tg g)(hb:fL X body tb)(hs:∀x,foldedSetIterable iter X.env x=pure x:=by intro _;rfl):PS X (.For tg iter body [] pos) (Ph wi g tb):=by
 intro pz s Z H D I h;refine wpAny_For (bK (hi pz s Z H _ I h) λv s1 h1=>bK h1 λitv s2 h2=>?_) hs;obtain⟨it,fp,tn,J,H2,e,I2,T,st2,f2,W,⟨m0,w0⟩,turn⟩:=h2;subst e;have stat:∀{H':Hp},(∀b∈fp,H' b=none)->∀b∈fp,jO X pz H' b:=λhn b hb=>⟨hn b hb,(f2 b hb).2⟩
 refine codeAny_forLoop_any (λn s'=>∃i Z' H',Inv X pz Z' H' s'/\tn i s'.heap/\(∀b∈fp,H' b=none)/\W i n Z' H') ?_ m0 ⟨0,Z,H2,I2,st2,λb hb=>(f2 b hb).1,w0⟩
 rintro n s3 ⟨i,σ3,H3,I3,st3,Io,w3⟩
 rcases turn i n σ3 H3 w3 with⟨stop,qn⟩|⟨go,N,hN,step⟩
 .refine wpAny_passesOwn hp (bK (T.done X rfl rfl rfl hc i pz s3 σ3 H3 X.xe I3 (stat Io) st3 stop) λr s4 ⟨hr,I4⟩=>?_);subst hr;exact wpAny_execs_nil ⟨σ3,H3,I4,qn⟩
 .refine wpAny_passesOwn hp (bK (T.item X rfl rfl rfl hc i pz s3 σ3 H3 X.xe I3 (stat Io) st3 go) λr s4 ⟨u,hr,h4⟩=>?_);subst hr;refine wpAny_passesOwn hp (bK h4 λ_ s5 ⟨x,H5,I5,r5,y5,wW,QC⟩=>?_);have Q5:=I5.pinned (stat QC) (T.obj _ _ wW);refine wpAny_passesOwn hp (bK (hg _ s5 σ3 H5 x u _ Q5 r5 (step x H5 y5)) λ_ s6 ⟨σ6,H6,I6,q6⟩=>?_);refine wpAny_passesOwn hp (bK (hb _ s6 σ6 H6 _ I6 q6) λf s7 q7=>?_);have again:∀{σ7:St} {H7:Hp},Inv X (pz++Ak fp s5.heap) σ7 H7 s7->N σ7 H7->∃m,m<n/\∃i Z' H',Inv X pz Z' H' s7/\tn i s7.heap/\(∀b∈fp,H' b=none)/\W i m Z' H':=λ{σ7 H7} I7 n7=>by obtain⟨m',hm,w7⟩:=hN σ7 H7 n7;refine⟨m',hm,i+1,σ7,H7,I7.unpinned,T.keep _ _ _ wW λb hb o e=>(I7.pin (b,o) (List.mem_append_right _ (List.mem_append_right _ (Nb hb e)))).1,λb hb=>?_,w7⟩;obtain⟨o,e,d⟩:=T.obj _ _ wW b hb;exact(I7.pin (b,o) (List.mem_append_right _ (List.mem_append_right _ (Nb hb e)))).2.1
  cases f with
  |next=>obtain⟨σ7,H7,I7,n7⟩:=q7;exact again I7 n7
  |cont=>obtain⟨σ7,H7,I7,n7⟩:=q7;exact again I7 n7
  |brk=>obtain⟨σ7,H7,I7,q7⟩:=q7;exact⟨σ7,H7,I7.unpinned,q7⟩
  |ret v=>obtain⟨x7,σ7,H7,I7,r7,q7⟩:=q7;exact⟨x7,σ7,H7,I7.unpinned,r7,q7⟩
end
abbrev R2:=V->V->Hp->VK->Prop
noncomputable def dZ(X:Cx)(f:Value->Value->Sem Value)(r:R2):Prop :=
 ∀(pz:List (Addr×Obj)) (s:Shared) (Z:St) (H:Hp) (x y:V) (v u:Value) (Q:VK),Inv X pz Z H s->RelV x v->RelV y u->r x y H Q ->
  wpAny (model X.prog X.w) X.A (f v u) (EP X pz Z Q) X.xe s
noncomputable def QT(X:Cx)(f:Value->Sem Value)(r:V->Hp->VK->Prop):Prop :=
 ∀(pz:List (Addr×Obj)) (s:Shared) (Z:St) (H:Hp) (x:V) (v:Value) (Q:VK),Inv X pz Z H s->RelV x v->r x H Q ->
  wpAny (model X.prog X.w) X.A (f v) (EP X pz Z Q) X.xe s
noncomputable def gW(X:Cx)(f:Value)(r:List V->Hp->VK->Prop):Prop :=
 ∀(pz:List (Addr×Obj)) (s:Shared) (Z:St) (H:Hp) (xs:List V) (us:List Value) (Q:VK),Inv X pz Z H s->Vals xs us->r xs H Q ->
  wpAny (model X.prog X.w) X.A (call f us) (EP X pz Z Q) X.xe s
noncomputable def QV(X:Cx)(r:V->Hp->(Bool->Hp->Prop)->Prop):Prop :=
 ∀(pz:List (Addr×Obj)) (s:Shared) (Z:St) (H:Hp) (x:V) (v:Value) (Q:Bool->Hp->Prop),Inv X pz Z H s->RelV x v->r x H Q ->
  wpAny (model X.prog X.w) X.A (truthy v) (TP X pz Z Q) X.xe s
def zR(r:R2)(ta tb:TE):TE:=λZ H Q=>ta Z H λx H1=>tb Z H1 λy H2=>r x y H2 Q
def tUn(r:V->Hp->VK->Prop)(ta:TE):TE:=λZ H Q=>ta Z H λx H1=>r x H1 Q
def rI(C:Int->Int->Prop)(g:Int->Int->V):R2:=λx y H Q=>∃i j,x = .int i/\y = .int j/\C i j/\Q (g i j) H
def nY(g:Int->Int->V):R2:=λx y H Q=>∃i j,x = .int i/\y = .int j/\Q (g i j) H
def rU(g:Int->V):V->Hp->VK->Prop:=λx H Q=>∃i,x = .int i/\Q (g i) H
section
variable {X:Cx}{a b c:Expr}{ta tb tc:TE}{pos:Pos}
theorem yp(ha:PE X a ta)(hb:PE X b tb){pz:List (Addr×Obj)}{s:Shared}{Z:St}{H:Hp}{R:V->V->Hp->Prop}(I:Inv X pz Z H s)(h:ta Z H λx H1=>tb Z H1 λy H2=>R x y H2){Q:Value->Shared->Prop}{f:Value->Value->Sem Value}(hf:∀v u s2 x y H2,Inv X pz Z H2 s2->RelV x v->RelV y u->R x y H2->wpAny (model X.prog X.w) X.A (f v u) Q X.xe s2):
 wpAny (model X.prog X.w) X.A (eval a X.env) (λv s₁=>wpAny (model X.prog X.w) X.A (eval b X.env) (λu s₂=>wpAny (model X.prog X.w) X.A (f v u) Q X.xe s₂) X.xe s₁) X.xe s:=by
 refine bK (ha pz s Z H _ I h) λv s1 ⟨x,H1,I1,r1,q1⟩=>?_;refine bK (hb pz s1 Z H1 _ I1 q1) λu s2 ⟨y,H2,I2,r2,q2⟩=>?_;exact hf v u s2 x y H2 I2 r1 r2 q2
theorem Y6{op:Operator}{r:R2}(ho:dZ X (binaryOp op) r)(ha:PE X a ta)(hb:PE X b tb):PE X (.BinOp a op b pos) (zR r ta tb):=by intro pz s Z H Q I h;exact wpAny_BinOp (yp ha hb I h λv u s2 x y H2 I2 rx ry q=>ho pz s2 Z H2 x y v u Q I2 rx ry q)
theorem Y8{op:UnaryOp}{r:V->Hp->VK->Prop}(ho:QT X (unaryOp op) r)(ha:PE X a ta):PE X (.UnaryOp op a pos) (tUn r ta):=by intro pz s Z H Q I h;exact UnaryOp_ (bK (ha pz s Z H _ I h) λv s1 ⟨x,H1,I1,r1,q1⟩=>ho pz s1 Z H1 x v Q I1 r1 q1)
theorem Dr{f:Value->Value->Sem Value}{C:Int->Int->Prop}{g:Int->Int->Int}(rule:∀(i j:Int) (t u:Tok) (s:Shared) (Q:Value->Shared->Prop) (E:Value->Shared->Prop),C i j->Q (.int (g i j) s.toks) { s with toks:=s.toks+1 }->wpAny (model X.prog X.w) X.A (f (.int i t) (.int j u)) Q E s):
 dZ X f (rI C λi j => .int (g i j)):=by
 intro pz s Z H x y v u Q I rx ry h;obtain⟨i,j,rfl,rfl,hc,q⟩:=h;obtain⟨t,rfl⟩:=rx;obtain⟨t',rfl⟩:=ry;exact rule i j t t' s _ _ hc ⟨.int (g i j),H,I.tok _,⟨_,rfl⟩,q⟩
theorem Dq{f:Value->Value->Sem Value}{g:Int->Int->Int}(rule:∀(i j:Int) (t u:Tok) (s:Shared) (Q:Value->Shared->Prop) (E:Value->Shared->Prop),Q (.int (g i j) s.toks) { s with toks:=s.toks+1 }->wpAny (model X.prog X.w) X.A (f (.int i t) (.int j u)) Q E s):
 dZ X f (nY λi j => .int (g i j)):=by
 intro pz s Z H x y v u Q I rx ry h;obtain⟨i,j,rfl,rfl,q⟩:=h;obtain⟨t,rfl⟩:=rx;obtain⟨t',rfl⟩:=ry;exact rule i j t t' s _ _ ⟨.int (g i j),H,I.tok _,⟨_,rfl⟩,q⟩
theorem mJ{f:Value->Value->Sem Value}{g:Int->Int->Bool}(rule:∀(i j:Int) (t u:Tok) (s:Shared) (Q:Value->Shared->Prop) (E:Value->Shared->Prop),Q (.bool (g i j)) s->wpAny (model X.prog X.w) X.A (f (.int i t) (.int j u)) Q E s):
 dZ X f (nY λi j => .bl (g i j)):=by
 intro pz s Z H x y v u Q I rx ry h;obtain⟨i,j,rfl,rfl,q⟩:=h;obtain⟨t,rfl⟩:=rx;obtain⟨t',rfl⟩:=ry;exact rule i j t t' s _ _ ⟨.bl (g i j),H,I,rfl,q⟩
def Fd(i j:Int):Prop:=0<=j/\j<=1000000/\i.natAbs<2 ^ 64
def ZC:dZ X (binaryOp .Add) (nY λi j => .int (i+j)):=Dq λ_ _ _ _ _ _ _ q=>add_int q
def ZK:dZ X (binaryOp .Sub) (nY λi j => .int (i - j)):=Dq λ_ _ _ _ _ _ _ q=>sub_int q
def zoX:dZ X (binaryOp .Mod) (rI (λ_ j=>j≠0) λi j => .int (i.fmod j)):=Dr λ_ _ _ _ _ _ _ hc q=>mod_int' hc q
def ZG:dZ X (binaryOp .Pow) (rI Fd λi j => .int (i ^ j.toNat)):=Dr λ_ _ _ _ _ _ _ hc q=>pow_int_small hc.1 hc.2.1 hc.2.2 q
def ZJ:dZ X (binaryOp .LShift) (rI Fd λi j => .int (i*2 ^ j.toNat)):=Dr λ_ _ _ _ _ _ _ hc q=>lshift_int_small hc.1 hc.2.1 hc.2.2 q
theorem unI{f:Value->Sem Value}{g:Int->Int}(rule:∀(i:Int) (t:Tok) (s:Shared) (Q:Value->Shared->Prop) (E:Value->Shared->Prop),Q (.int (g i) s.toks) { s with toks:=s.toks+1 }->wpAny (model X.prog X.w) X.A (f (.int i t)) Q E s):
 QT X f (rU λi => .int (g i)):=by
 intro pz s Z H x v Q I rx h;obtain⟨i,rfl,q⟩:=h;obtain⟨t,rfl⟩:=rx;exact rule i t s _ _ ⟨.int (g i),H,I.tok _,⟨_,rfl⟩,q⟩
def zp0:QT X (unaryOp .USub) (rU λi => .int (-i)):=unI λ_ _ _ _ _ q=>neg_int q
end
noncomputable def Py:V->V->Bool
 |.non,.non=>true|.non,.int _=>true|.int _,.non=>true|.non,.bl _=>true|.bl _,.non=>true|.non,.str _=>true|.str _,.non=>true
 |.int _,.int _=>true|.bl _,.bl _=>true|.str _,.str _=>true|.byt _,.byt _=>true
 |.int _,.str _=>true|.str _,.int _=>true|.bl _,.str _=>true|.str _,.bl _=>true
 |_,_=>false
def Ye:R2:=λx y H Q=>Py x y=true/\Q (.bl (!decide (x=y))) H
def zpE{i j:Int}:decide (V.int i=V.int j)=(i==j):=by rw[Bool.eq_iff_iff];simp
def ZW{i j:Bool}:decide (V.bl i=V.bl j)=(i==j):=by rw[Bool.eq_iff_iff];simp
def zpD{i j:Str}:decide (V.str i=V.str j)=(i==j):=by rw[Bool.eq_iff_iff];simp
def zpF{i j:Array UInt8}:decide (V.byt i=V.byt j)=(i.toList==j.toList):=by rw[Bool.eq_iff_iff];cases i;cases j;simp
section
variable {X:Cx}{a b c:Expr}{ta tb tc:TE}{pos:Pos}
theorem jk{pz:List (Addr×Obj)}{Z:St}{H:Hp}{s:Shared}{Q:VK}{k k':Bool}(I:Inv X pz Z H s)(q:Q (.bl k) H)(e:k=k'):EP X pz Z Q (.bool k') s:=by subst e;exact⟨.bl k,H,I,rfl,q⟩
theorem YX:dZ X (compareOp .NotEq) Ye:=by
 intro pz s Z H x y v u Q I rx ry h;obtain⟨hs,q⟩:=h;cases x with
 |non =>
  cases rx;cases y with
  |non=>cases ry;exact PySem.EqNone.ne_none_none (jk I q (by simp))
  |bl j=>cases ry;exact PySem.EqNone.ne_none_bool (jk I q (by simp))
  |int j=>obtain⟨t',rfl⟩:=ry;exact PySem.EqNone.ne_none_int (jk I q (by simp))
  |str j=>obtain⟨t',rfl⟩:=ry;exact PySem.EqNone.ne_none_str (jk I q (by simp))
  |_=>exact absurd (show false=true from hs) fO
 |bl i =>
  cases rx;cases y with
  |non=>cases ry;exact PySem.EqNone.ne_bool_none (jk I q (by simp))
  |bl j=>cases ry;exact ne_bool (jk I q (congrArg not ZW))
  |str j=>obtain⟨t',rfl⟩:=ry;exact PySem.EqMixed.ne_bool_str (jk I q (by simp))
  |_=>exact absurd (show false=true from hs) fO
 |int i =>
  obtain⟨t,rfl⟩:=rx;cases y with
  |non=>cases ry;exact PySem.EqNone.ne_int_none (jk I q (by simp))
  |int j=>obtain⟨t',rfl⟩:=ry;exact ne_int (jk I q (congrArg not zpE))
  |str j=>obtain⟨t',rfl⟩:=ry;exact PySem.EqMixed.ne_int_str (jk I q (by simp))
  |_=>exact absurd (show false=true from hs) fO
 |str i =>
  obtain⟨t,rfl⟩:=rx;cases y with
  |non=>cases ry;exact PySem.EqNone.ne_str_none (jk I q (by simp))
  |bl j=>cases ry;exact PySem.EqMixed.ne_str_bool (jk I q (by simp))
  |int j=>obtain⟨t',rfl⟩:=ry;exact PySem.EqMixed.ne_str_int (jk I q (by simp))
  |str j=>obtain⟨t',rfl⟩:=ry;exact ne_str (jk I q (congrArg not zpD))
  |_=>exact absurd (show false=true from hs) fO
 |byt i =>
  obtain⟨t,rfl⟩:=rx;cases y with
  |byt j=>obtain⟨t',rfl⟩:=ry;exact PySem.W.ne_bytes (jk I q (congrArg not zpF))
  |_=>exact absurd (show false=true from hs) fO
 |_=>cases y<;>exact absurd (show false=true from hs) fO
def YW:dZ X (compareOp .Lt) (nY λi j => .bl (decide (i<j))):=mJ λ_ _ _ _ _ _ _ q=>lt_int q
def YT:dZ X (compareOp .LtE) (nY λi j => .bl (decide (i<=j))):=mJ λ_ _ _ _ _ _ _ q=>le_int q
def YS:dZ X (compareOp .Gt) (nY λi j => .bl (decide (j<i))):=mJ λ_ _ _ _ _ _ _ q=>gt_int q
def YQ:dZ X (compareOp .GtE) (nY λi j => .bl (decide (j<=i))):=mJ λ_ _ _ _ _ _ _ q=>ge_int q
theorem ZF:dZ X (compareOp .Is) (λx y H Q=>y = .non/\Q (.bl (decide (x = .non))) H):=by
 intro pz s Z H x y v u Q I rx ry h;obtain⟨rfl,q⟩:=h;cases ry;refine is_none_gen (jk I q ?_);cases x<;>first
  | (cases rx;rfl)
  | (obtain⟨t,rfl⟩:=rx;rfl)
theorem zoV:dZ X (compareOp .IsNot) (λx y H Q=>y = .non/\Q (.bl (!decide (x = .non))) H):=by
 intro pz s Z H x y v u Q I rx ry h;obtain⟨rfl,q⟩:=h;cases ry;refine isnot_none_gen (jk I q ?_);cases x<;>first
  | (cases rx;rfl)
  | (obtain⟨t,rfl⟩:=rx;rfl)
theorem Jw(b:Expr){op:CmpOp}(h:op ≠ .In:=by decide)(h2:op ≠ .NotIn:=by decide):behindInMarks op b=false:=by
 have e1:(op==CmpOp.In)=false:=by cases op<;>first|rfl|exact absurd rfl h
 have e2:(op==CmpOp.NotIn)=false:=by cases op<;>first|rfl|exact absurd rfl h2
 cases b<;>simp[behindInMarks,e1,e2]
theorem zoD{op:CmpOp}{r:R2}(ho:dZ X (compareOp op) r)(ha:PE X a ta)(hb:PE X b tb)(hm:behindInMarks op b=false):PE X (.Compare a [op] [b] pos) (zR r ta tb):=by intro pz s Z H Q I h;exact wpAny_Compare1 (yp ha hb I h λv u s2 x y H2 I2 rx ry q=>ho pz s2 Z H2 x y v u Q I2 rx ry q) hm
def uJ(t:TE):TT:=λZ H Q=>t Z H λx H'=>∃k,x = .bl k/\Q k H'
theorem Uq{op:CmpOp}{r:R2}(ho:dZ X (compareOp op) r)(ha:PE X a ta)(hb:PE X b tb)(hm:behindInMarks op b=false):PT X (.Compare a [op] [b] pos) (uJ (zR r ta tb)):=by
 intro pz s Z H Q I h;refine wpAny_isTrue_Compare1 (bK (ha pz s Z H _ I h) λv s1 ⟨x,H1,I1,r1,q1⟩=>bK (hb pz s1 Z H1 _ I1 q1) λu s2 ⟨y,H2,I2,r2,q2⟩ =>
  bK (ho pz s2 Z H2 x y v u _ I2 r1 r2 q2) λc s3 ⟨z,H3,I3,r3,k,e,q3⟩=>?_) hm
 subst e;cases r3;exact wpAny_truthy_bool ⟨H3,I3,q3⟩
noncomputable def yr(K:FgA)(x:V)(H:Hp)(k:Bool):Prop :=
 match x with
 |.non=>k=false
 |.bl b=>k=b
 |.int i=>k=(i != 0)
 |.str y=>y.length<=sizeLine/\k=((y.length:Int) != 0)
 |.byt y=>y.size<=sizeLine/\k=((y.size:Int) != 0)
 |.ref p=>(∃xs,cU K H p xs/\k = !xs.isEmpty)\/(∃xs,dF K H p xs/\k = !xs.isEmpty)\/∃kvs,H p=some (.dK kvs)/\k = !kvs.isEmpty
 |_=>False
def zjh{κ:Type}{kvs:List (κ×V)}{vs:List (κ×Value)}(r:KV kvs vs):(!vs.isEmpty) = !kvs.isEmpty:=by cases r<;>rfl
def Wj{xs:List V}{its:List Value}(r:Vals xs its):(!its.toArray.isEmpty) = !xs.isEmpty:=by cases r<;>simp
def vQ:(sizeLine:Nat)<2 ^ 63:=by rw[sizeLine_eq];decide
theorem zp2:QV X (λx H Q=>∃k,yr X.K x H k/\Q k H):=by
 intro pz s Z H x v Q I rx h;obtain⟨k,e,q⟩:=h;have hl:=vQ;have hs:sizeLine=16777216:=sizeLine_eq;cases x with
 |non =>
  cases rx;have e':k=false:=e;subst e';exact truthy_none ⟨H,I,q⟩
 |bl b =>
  cases rx;have e':k=b:=e;subst e';exact wpAny_truthy_bool ⟨H,I,q⟩
 |int i =>
  obtain⟨t,rfl⟩:=rx;have e':k=(i != 0):=e;subst e';exact PySem.P.truthy_int ⟨H,I,q⟩
 |str y =>
  obtain⟨t,rfl⟩:=rx;obtain⟨hy,e'⟩:y.length<=sizeLine/\k=((y.length:Int) != 0):=e;subst e';exact PySem.P.truthy_str (by omega) ⟨H,I.tok _,q⟩
 |byt y =>
  obtain⟨t,rfl⟩:=rx;obtain⟨hy,e'⟩:y.size<=sizeLine/\k=((y.size:Int) != 0):=e;subst e';exact PySem.W.truthy_bytes (by omega) ⟨H,I.tok _,q⟩
 |ref p =>
  cases rx;have e':(∃xs,cU X.K H p xs/\k = !xs.isEmpty)\/(∃xs,dF X.K H p xs/\k = !xs.isEmpty)\/∃kvs,H p=some (.dK kvs)/\k = !kvs.isEmpty:=e;rcases e' with⟨xs,hx,e'⟩|⟨xs,hx,e'⟩|⟨kvs,hx,e'⟩
  .subst e';obtain⟨its,r,pl,hz⟩:=I.list hx;have hlen:=r.length;exact wpAny_truthy_list pl.isList (by simp only[dw];omega) ⟨H,I.tok _,by rw[Wj r];exact q⟩
  .subst e';obtain⟨its,r,pl,hz⟩:=I.tuple hx;have hlen:=r.length;exact truthy_tuple pl (by simp only[dw];omega) ⟨H,I.tok _,by rw[Wj r];exact q⟩
  .subst e';obtain⟨hz,hS,vs,r,m⟩:kvs.length<=sizeLine/\(p==sysModules)=false/\∃vs,KV kvs vs/\s.heap.DictOf (JD X.prog X.w) p vs:=I.hok p _ hx;have hlen:kvs.length=vs.length:=Paired.length r;exact wpAny_truthy_dict hS m (by omega) ⟨H,I.tok _,by rw[zjh r];exact q⟩
 |_=>exact(show False from e).elim
theorem zl9(ha:PE X a ta)(he:∀whole,isTrue a X.env whole=(do let v <-whole;standAt a.pos;holding [v] (truthy v))):
 PT X a (λZ H Q=>ta Z H λx H'=>∃k,yr X.K x H' k/\Q k H'):=by
 intro pz s Z H Q I h;exact isTrue_plain (bK (ha pz s Z H _ I h) λv s1 ⟨x,H1,I1,r1,q1⟩=>zp2 pz s1 Z H1 x v Q I1 r1 q1) (he _)
theorem zi2:dZ X (binaryOp .Add) (λx y H Q=>∃i j,x = .str i/\y = .str j/\i.length+j.length<=sizeLine/\Q (.str (i++j)) H):=by intro pz s Z H x y v u Q I rx ry h;obtain⟨i,j,rfl,rfl,hz,q⟩:=h;obtain⟨t,rfl⟩:=rx;obtain⟨t',rfl⟩:=ry;exact add_str (λt' tk=>⟨.str (i++j),H,I.tok _,⟨_,rfl⟩,q⟩) hz
def pZ{x:V}{us:List Value}(r:Vals [x] us):∃u,us=[u]/\RelV x u:=by
 cases r with
 |cons r1 r2=>cases r2;exact⟨_,rfl,r1⟩
theorem Fz{x y:V}{us:List Value}(r:Vals [x,y] us):∃u w',us=[u,w']/\RelV x u/\RelV y w':=by
 cases r with
 |cons r1 r2 =>
  cases r2 with
  |cons r3 r4=>cases r4;exact⟨_,_,rfl,r1,r3⟩
theorem zmW:gW X (.builtin "abs") (λxs H Q=>∃i,xs=[.int i]/\Q (.int (if i<0 then -i else i)) H):=by intro pz s Z H xs us Q I r h;obtain⟨i,rfl,q⟩:=h;obtain⟨u,rfl,t,rfl⟩:=pZ r;exact call_abs_int λu tk=>⟨.int (if i<0 then -i else i),H,I.tok _,⟨_,rfl⟩,q⟩
theorem zlp(hc:X.calm=true):gW X (.builtin "max") (λxs H Q=>∃i j,xs=[.int i,.int j]/\Q (.int (if j>i then j else i)) H):=by
 intro pz s Z H xs us Q I r h;obtain⟨i,j,rfl,q⟩:=h;obtain⟨u,w',rfl,⟨t,rfl⟩,⟨t',rfl⟩⟩:=Fz r;refine max_two_ints (I.ok.hd hc) λh' tk k=>⟨_,H,I.kept k,?_,q⟩
 by_cases hj:j>i
 .rw[if_pos hj,if_pos hj];exact⟨_,rfl⟩
 .rw[if_neg hj,if_neg hj];exact⟨_,rfl⟩
theorem zlo(hc:X.calm=true):gW X (.builtin "min") (λxs H Q=>∃i j,xs=[.int i,.int j]/\Q (.int (if j<i then j else i)) H):=by
 intro pz s Z H xs us Q I r h;obtain⟨i,j,rfl,q⟩:=h;obtain⟨u,w',rfl,⟨t,rfl⟩,⟨t',rfl⟩⟩:=Fz r;refine min_two_ints (I.ok.hd hc) λh' tk k=>⟨_,H,I.kept k,?_,q⟩
 by_cases hj:j<i
 .rw[if_pos hj,if_pos hj];exact⟨_,rfl⟩
 .rw[if_neg hj,if_neg hj];exact⟨_,rfl⟩
end
structure lz(h:Heap)(x dx C:Addr)(mA:Str->Option Value):Prop where
 obj:h.get? x=some (PySem.W.instObj C dx)
 ns:h.Ns1 dx mA
 ne:dx≠x
theorem zkw{h:Heap}{dx:Addr}{mA:Str->Option Value}(n:h.Ns1 dx mA):∃od,h.get? dx=some od/\∀name,PySem.W.lookIn name od=some (mA name):=by
 obtain⟨o,es,ep,ho,hd,hk,_,hm⟩:=n;refine⟨o,ho,λname=>?_⟩;have e:=hm name;unfold nsFind findBy at e;rw[<-Array.find?_toList] at e;unfold PySem.W.lookIn;rw[hd];dsimp only;split
 .rename_i y q;rw[q] at e;exact congrArg some e
 .rename_i q;rw[q] at e;have a:es.toList.any (·.refKey)=false:=by rw[List.any_eq_false];intro y hy;obtain⟨z,t,hkey⟩:=hk y (Array.mem_toList_iff.mp hy);simp[DictEntry.refKey,hkey]
  have a':¬es.toList.any (·.refKey)=true:=by rw[a];exact fO
  rw[if_neg a'];exact congrArg some e
def lz.look{h:Heap}{x dx C:Addr}{mA:Str->Option Value}(I:lz h x dx C mA):∃od,PySem.W.InstAt h x (PySem.W.instObj C dx) C (some od)/\∀name,PySem.W.lookIn name od=some (mA name) :=
 let ⟨od,ho,hl⟩:=zkw I.ns
 ⟨od,⟨I.obj,rfl,rfl,ho⟩,hl⟩
section
variable {prog:Program}{w:World}{A:Around}{E:Value->Shared->Prop}{s:Shared}{K:FgA}{x dx C f:Addr}{mA:Str->Option Value}{name:Str}{v:Value}
theorem zpo{expr:Bool}{Q:Value->Shared->Prop}(X:K.In s.heap)(I:lz s.heap x dx C mA)(hg:PySem.W.plainGet K C name=true)(hh:PySem.W.hasDictIn K C=true)(ha:PySem.W.findIn K (.ref C) name=some none)(hv:mA name=some v)(hv':PySem.W.handedIn v=true)(h:Q v { s with toks:=s.toks+1 }):
 wpAny (model prog w) A (getAttr (.ref x) name expr) Q E s:=by
 obtain⟨od,J,hl⟩:=I.look;exact PySem.W.get_value X J (PySem.W.plainGet_of hg).1 (PySem.W.findObj_own hh ha rfl (by rw[hl,hv])) hv' h
theorem zmF{pl:Sem Bool}{Q:Value×List Value->Shared->Prop}(X:K.In s.heap)(I:lz s.heap x dx C mA)(hg:PySem.W.plainGet K C name=true)(hf:PySem.W.findIn K (.ref C) name=some (some (.ref f)))(ht:PySem.W.isFn K (.ref f)=true)(hv:mA name=none)(h:Q (.ref f,[.ref x]) s):
 wpAny (model prog w) A (getMethod (.ref x) name pl) Q E s:=by
 obtain⟨od,J,hl⟩:=I.look;exact PySem.W.method_fn X J (PySem.W.plainGet_of hg).1 (PySem.W.plainGet_of hg).2 hf (beq_iff_eq.mp ht) (by show(PySem.W.lookIn name od).map (·.isSome)=some false;rw[hl,hv];rfl) h
theorem zoe{ns:List Str}{Q:Unit->Shared->Prop}(X:K.In s.heap)(I:lz s.heap x dx C mA)(hs:PySem.W.findIn K (.ref C) "__setattr__" = some (some (.builtin "object.__setattr__")))(hp:PySem.W.plainOver K C=true)(ht:PySem.W.takerIn K C name=some none)(hh:PySem.W.hasDictIn K C=true)(hw:PySem.Within mA ns)(hsz:ns.length<=sizeLine)(h:∀h',lz h' x dx C (λy=>if y=name then some v else mA y)->Heap.SameBut dx s.heap h'->Q () { s with heap:=h',toks:=s.toks+2 }):
 wpAny (model prog w) A (setAttr (.ref x) name v) Q E s:=by
 obtain⟨od,J,hl⟩:=I.look;refine PySem.W.set_plain X J hs (PySem.W.osa_open (s:={ s with toks:=s.toks+1 }) (r:=none) X J hp ht λb=>?_);obtain⟨cd,hc,hd'⟩:=PySem.W.any_some hh;have hx:s.heap.get? x=some ⟨.ref C,some dx,.plain,#[]⟩:=I.obj;refine aC (bN (aC (aC (wpAny_loadPart hx (aC (PySem.W.Looks.here (s:={ s with toks:=s.toks+1 }) (PySem.W.looks_clsIn X hc) ?_))))));rw[hd'];refine bN (a:=some dx) (aC (bN (aC ?_)));refine wpAny_nsSet1 (s:={ s with toks:=s.toks+1 }) I.ns λh' hn2 hs2=>?_;obtain⟨oD,esD,epD,hoD,hdD,hcD⟩:=hn2.count (PySem.Within.cons name v hw);refine aC (wpAny_lookBehind hoD (by rw[hdD];exact pastItsLine_dict (Nat.le_trans hcD (by rw[jb];omega))) ?_);exact bN (h _ ⟨(hs2.2 _ (Ne.symm I.ne)).trans I.obj,hn2,I.ne⟩ hs2)
theorem zmr{R:Result->Shared->Prop}{vs:List Value}{kw:List (Str×Value)}(X:K.In s.heap)(hm:PySem.W.makesIn K C=true)(hi:PySem.W.findIn K (.ref C) "__init__" = some (some (.ref f)))(hf:PySem.W.typeIn K (.ref f)=some (.type "function"))(h:codeAny (model prog w) (A.under (.builtin "type.__call__" ⟨.ref C::vs,kw⟩)) (.call (.ref f) ⟨.ref (s.heap.objs.size+1)::vs,kw⟩) (PySem.W.InitBack (s.heap.objs.size+1) R)
  { s with heap:=(s.heap.push PySem.W.emptyDict).push (PySem.W.instObj C s.heap.objs.size) }):
 codeAny (model prog w) A (.call (.ref C) ⟨vs,kw⟩) R s:=by
 obtain⟨hh,g,d,t,os⟩:=s;exact PySem.W.make_core (PySem.W.makes_of X hm) (PySem.W.looks_findIn X hi) (λself=>PySem.W.bind_fn X self hf) (.inl rfl) h
end
noncomputable def jg(f:Str)(v:V):List (Str×V)->List (Str×V)
 |[]=>[(f,v)]
 | (g,x)::r=>if g=f then(g,v)::r else(g,x)::jg f v r
theorem Xd(f g:Str)(v:V):∀fs:List (Str×V),(jg f v fs).lookup g=if g=f then some v else fs.lookup g
 |[]=>by
  show List.lookup g [(f,v)]=_;by_cases h:g=f
  .have hb:(g==f)=true:=beq_iff_eq.mpr h;simp only[List.lookup,hb,if_pos h]
  .have hb:(g==f)=false:=beq_eq_false_iff_ne.mpr h;simp only[List.lookup,hb,if_neg h]
 | (k,x)::r=>by
   have ih:=Xd f g v r;rw[show jg f v ((k,x)::r)=(if k=f then(k,v)::r else(k,x)::jg f v r) from rfl];by_cases hk:k=f
   .rw[if_pos hk];by_cases h:g=k
    .have hb:(g==k)=true:=beq_iff_eq.mpr h;simp only[List.lookup,hb,if_pos (h.trans hk)]
    .have hb:(g==k)=false:=beq_eq_false_iff_ne.mpr h;simp only[List.lookup,hb,if_neg (λe:g=f=>h (e.trans hk.symm))]
   .rw[if_neg hk];by_cases h:g=k
    .have hb:(g==k)=true:=beq_iff_eq.mpr h;simp only[List.lookup,hb,if_neg (λe:g=f=>hk (h.symm.trans e))]
    .have hb:(g==k)=false:=beq_eq_false_iff_ne.mpr h;simp only[List.lookup,hb];exact ih
theorem Mj(f:Str)(v:V):∀fs:List (Str×V),f∈(jg f v fs).map (·.1)/\∀g,g∈fs.map (·.1)->g∈(jg f v fs).map (·.1)
 |[]=>⟨by simp[jg],λg h=>by simp at h⟩
 | (k,x)::r=>by
   obtain⟨i1,i2⟩:=Mj f v r;rw[show jg f v ((k,x)::r)=(if k=f then(k,v)::r else(k,x)::jg f v r) from rfl];by_cases hk:k=f
   .rw[if_pos hk];subst hk;exact⟨by simp,λg h=>by simpa using h⟩
   .rw[if_neg hk];refine⟨?_,λg h=>?_⟩
    .rw[iC];exact cM _ i1
    .rw[iC] at h ⊢;rcases List.mem_cons.mp h with e|e
     .exact List.mem_cons.mpr (.inl e)
     .exact cM _ (i2 g e)
theorem Xc(f:Str)(v:V):∀fs:List (Str×V),(jg f v fs).length<=fs.length+1
 |[]=>by simp[jg]
 | (k,x)::r=>by
   have ih:=Xc f v r;rw[show jg f v ((k,x)::r)=(if k=f then(k,v)::r else(k,x)::jg f v r) from rfl];by_cases hk:k=f
   .rw[if_pos hk,jb,jb];omega
   .rw[if_neg hk,jb,jb];omega
theorem iY.some_of{v:V}{o:Option Value}(r:iY (some v) o):∃u,o=some u/\RelV v u:=by
 cases o with
 |none=>exact(show False from r).elim
 |some u=>exact⟨u,rfl,r⟩
def iY.none_of{o:Option Value}(r:iY none o):o=none:=by
 cases o with
 |none=>rfl
 |some u=>exact(show False from r).elim
theorem zkT{v:V}{u:Value}(r:RelV v u):PySem.W.handedIn u=true:=by
 cases v with
 |non=>cases (show u=Value.none from r);rfl
 |bl b=>cases (show u=Value.bool b from r);rfl
 |int i=>obtain⟨t,e⟩:=(show ∃t,u=Value.int i t from r);cases e;rfl
 |str x=>obtain⟨t,e⟩:=(show ∃t,u=Value.str x t from r);cases e;rfl
 |byt b=>obtain⟨t,e⟩:=(show ∃t,u=Value.bytes b t from r);cases e;rfl
 |flt b=>obtain⟨t,e⟩:=(show ∃t,u=Value.float b t from r);cases e;rfl
 |ref a=>cases (show u=Value.ref a from r);rfl
 |ty n=>cases (show u=Value.type n from r);rfl
section
variable {P:Program}{w:World}{H H':Hp}{h h':Heap}{a C dx:Addr}{fs fs':List (Str×V)}
theorem GP(hok:fD P w H h)(e:H a=some (.ins C dx fs)):∃mA,lz h a dx C mA/\(∀f,iY (fs.lookup f) (mA f))/\PySem.Within mA (fs.map (·.1))/\fs.length<=1000/\H dx=some (.own a):=by
 obtain⟨d,z,ne,ob,mA,n,r,q⟩:=(show bJ P w H h a (.ins C dx fs) from hok a _ e)
 exact⟨mA,⟨ob,n,ne⟩,r,q,z,d⟩
end
structure je(K:FgA)(C:Addr):Prop where
 pg:PySem.W.plainGet K C Str.empty=true
 hd:PySem.W.hasDictIn K C=true
 po:PySem.W.plainOver K C=true
 sa:PySem.W.findIn K (.ref C) "__setattr__" = some (some (.builtin "object.__setattr__"))
def je.get{K:FgA}{C:Addr}(c:je K C)(f:Str):PySem.W.plainGet K C f=true:=c.pg
def dW(K:FgA)(C:Addr)(f:Str):Prop:=PySem.W.findIn K (.ref C) f=some none
theorem dW.taker{K:FgA}{C:Addr}{f:Str}(n:dW K C f):PySem.W.takerIn K C f=some none:=by unfold PySem.W.takerIn;rw[show PySem.W.findIn K (.ref C) f=some none from n];rfl
structure tO(K:FgA)(C:Addr)(m:Str)(f:Addr):Prop where
 at_:PySem.W.findIn K (.ref C) m=some (some (.ref f))
 fn:PySem.W.isFn K (.ref f)=true
 kp:PySem.W.keepIn K (.ref f)=true
section
variable {X:Cx}{pz:List (Addr×Obj)}{Z:St}{H:Hp}{s:Shared}{a C dx:Addr}{fs:List (Str×V)}{f:Str}{v:V}{A:Around}{E:Value->Shared->Prop}
theorem zji{b:Bool}{Q:Value->Shared->Prop}(I:Inv X pz Z H s)(e:H a=some (.ins C dx fs))(c:je X.K C)(n:dW X.K C f)(l:fs.lookup f=some v)(h:∀u s',Inv X pz Z H s'->RelV v u->Q u s'):wpAny (model X.prog X.w) A (getAttr (.ref a) f b) Q E s:=by obtain⟨mA,O,r,_,_,_⟩:=GP I.hok e;obtain⟨u,hu,ru⟩:=iY.some_of (v:=v) (o:=mA f) (by rw[<-l];exact r f);exact zpo I.kIn O (c.get f) c.hd n hu (zkT ru) (h u _ (I.tok _) ru)
theorem WN{m:Str}{g:Addr}{pl:Sem Bool}{Q:Value×List Value->Shared->Prop}(I:Inv X pz Z H s)(e:H a=some (.ins C dx fs))(c:je X.K C)(k:tO X.K C m g)(l:fs.lookup m=none)(h:Q (.ref g,[.ref a]) s):wpAny (model X.prog X.w) A (getMethod (.ref a) m pl) Q E s:=by obtain⟨mA,O,r,_,_,_⟩:=GP I.hok e;have hn:mA m=none:=iY.none_of (by rw[<-l];exact r m);exact zmF I.kIn O (c.get m) k.at_ k.fn hn h
theorem ziW{y:V}{u:Value}{Q:Unit->Shared->Prop}(I:Inv X pz Z H s)(e:H a=some (.ins C dx fs))(c:je X.K C)(n:dW X.K C f)(hl:fs.length<1000)(ry:RelV y u)(h:∀s',Inv X pz Z (upd H a (.ins C dx (jg f y fs))) s'->Q () s'):wpAny (model X.prog X.w) A (setAttr (.ref a) f u) Q E s:=by
 obtain⟨mA,O,r,wi,_,ho⟩:=GP I.hok e;have hz:(fs.map (·.1)).length<=sizeLine:=by rw[cX,sizeLine_eq];omega
 refine zoe I.kIn O c.sa c.po n.taker c.hd wi hz λh' O' sb=>h _ ?_;have hd:∃o,h'.get? dx=some o:=let ⟨o,_,_,e',_⟩:=O'.ns;⟨o,e'⟩;refine I.write (x:=a) (e:=dx) (by rw[e];exact True.intro) (.inr ho) (λb q hb z=>(sb.2 b hb).trans z) hd ?_;refine⟨by rw[bQ O.ne];exact ho,?_,O.ne,O'.obj,_,O'.ns,λg=>?_,λg hg=>?_⟩
 .have:=Xc f y fs;omega
 .show iY ((jg f y fs).lookup g) (if g=f then some u else mA g);rw[Xd];by_cases q:g=f
  .rw[if_pos q,if_pos q];exact ry
  .rw[if_neg q,if_neg q];exact r g
 .by_cases q:g=f
  .rw[q];exact(Mj f y fs).1
  .refine(Mj f y fs).2 g (wi g λz=>hg ?_);show(if g=f then some u else mA g)=none;rw[if_neg q];exact z
theorem Inv.made(I:Inv X pz Z H s):Inv X pz Z (upd (upd H s.heap.objs.size (.own (s.heap.objs.size+1))) (s.heap.objs.size+1) (.ins C s.heap.objs.size []))
 { s with heap:=(s.heap.push PySem.W.emptyDict).push (PySem.W.instObj C s.heap.objs.size) }:=by
 have e1:(s.heap.push PySem.W.emptyDict).get? s.heap.objs.size=some PySem.W.emptyDict:=gq s.heap rfl;have e2:((s.heap.push PySem.W.emptyDict).push (PySem.W.instObj C s.heap.objs.size)).get? (s.heap.objs.size+1)=some (PySem.W.instObj C s.heap.objs.size):=by
  have:=gq (s.heap.push PySem.W.emptyDict) (o:=PySem.W.instObj C s.heap.objs.size) rfl
  rwa [Heap.size_push] at this
 have e3:(s.heap.push PySem.W.emptyDict).Ns s.heap.objs.size (λ_=>none):=⟨PySem.W.emptyDict,#[],_,e1,rfl,(λe he=>absurd he (by simp)),λ_=>rfl⟩
 have I1:=I.laid (a:=s.heap.objs.size) (o := .own (s.heap.objs.size+1)) (h':=s.heap.push PySem.W.emptyDict) (t':=s.toks) (λb u q=>cN _ q) (bT _) ⟨_,e1⟩;refine I1.laid (a:=s.heap.objs.size+1) (o := .ins C s.heap.objs.size []) (t':=s.toks) (λb u q=>cN _ q) (Nat.le_of_eq (Heap.size_push _ _)) ?_;have ne:s.heap.objs.size≠s.heap.objs.size+1:=cW (Nat.lt_succ_self _);refine⟨by rw[bQ ne,dI],Nat.zero_le _,ne,e2,λ_=>none,(Heap.Ns1.of_empty e3).at λo q=>cN _ q,λ_=>True.intro,λy hy=>absurd rfl hy⟩
theorem zpT{prog:Program}{w:World}{env:Env}{e:Expr}{f:Str}{pos:Pos}{s:Shared}{Q:Value->Shared->Prop}(hb:attributeBase e f env (eval e env)=eval e env)(h:wpAny (model prog w) A (eval e env) (λo s₁=>wpAny (model prog w) A (getAttr o f true) Q E s₁) E s):wpAny (model prog w) A (eval (.Attribute e f pos) env) Q E s :=
 Attribute_any_ h (by rw[arm_eval_Attribute,hb])
end
def Pj(K:FgA)(ta:TE)(f:Str):TE:=λZ H Q=>ta Z H λx H1=>∃a C dx fs v,x = .ref a/\H1 a=some (.ins C dx fs)/\je K C/\dW K C f/\fs.lookup f=some v/\Q v H1
def PB(K:FgA)(ta tv:TE)(f:Str):TS:=λD Z H=>tv Z H λy H1=>ta Z H1 λx H2=>∃a C dx fs,x = .ref a/\H2 a=some (.ins C dx fs)/\je K C/\dW K C f/\fs.length<1000 /\
 D.nx Z (upd H2 a (.ins C dx (jg f y fs)))
section
variable {X:Cx}{o e value:Expr}{f:Str}{pos pos' tpos:Pos}{ta tv:TE}
theorem zq9(he:PE X e ta)(hb:attributeBase e f X.env (eval e X.env)=eval e X.env):PE X (.Attribute e f pos) (Pj X.K ta f):=by intro pz s Z H Q I h;refine zpT hb (bK (he pz s Z H _ I h) λu s1 ⟨x,H1,I1,rx,a,C,dx,fs,v,ex,ea,c,n,l,q⟩=>?_);subst ex;obtain rfl:u=Value.ref a:=rx;exact zji I1 ea c n l λu' s2 I2 ru=>⟨v,H1,I2,ru,q⟩
theorem zqZ(ha:PE X o ta)(hv:PE X value tv)(hs:swapsWith value (some (.Attribute o f pos')) pos.line X.env=pure false):PS X (.Assign [.Attribute o f pos'] value pos) (PB X.K ta tv f):=by intro pz s Z H D I h;refine plainObj_wpAny_Assign_Attribute (bK (hv pz s Z H _ I h) λu s1 ⟨y,H1,I1,ry,q⟩=>bK (ha pz s1 Z H1 _ I1 q) λov s2 ⟨x,H2,I2,rx,a,C,dx,fs,ex,ea,c,n,l,q2⟩=>?_) hs;subst ex;obtain rfl:ov=Value.ref a:=rx;exact ziW I2 ea c n l ry λs3 I3=>⟨Z,_,I3,q2⟩
end
section
variable {X:Cx}{pz:List (Addr×Obj)}{Z:St}{H:Hp}{s:Shared}{A:Around}{E:Value->Shared->Prop}{Q:Value->Shared->Prop}{c:Value}{b:Bool}
inductive lX(K:FgA)(H:Hp):V->Value->Prop where
 |non:lX K H .non (.type "NoneType")
 |bl (x:Bool):lX K H (.bl x) (.type "bool")
 |int (i:Int):lX K H (.int i) (.type "int")
 |str (x:Str):lX K H (.str x) (.type "str")
 |flt (x:UInt64):lX K H (.flt x) (.type "float")
 |lst {a:Addr} {xs:List V} (e:H a=some (.lst xs)):lX K H (.ref a) (.type "list")
 |frz {a:Addr} {o:Obj} {xs:List V} (e:H a=some (.frz o (.lst xs))):lX K H (.ref a) (.type "list")
 |tup {a:Addr} {xs:List V} (e:H a=some (.tup xs)):lX K H (.ref a) (.type "tuple")
 |dK {a:Addr} {kvs:List (Key×V)} (e:H a=some (.dK kvs)):lX K H (.ref a) (.type "dict")
 |dT {a:Addr} {kvs:List (List Key×V)} (e:H a=some (.dT kvs)):lX K H (.ref a) (.type "dict")
 |ins {a C dx:Addr} {fs:List (Str×V)} (e:H a=some (.ins C dx fs)) (cl:je K C) (ha:PySem.W.findIn K (.ref C) "__class__" = some (some (.builtin "object.__class__")))
  (hn:PySem.W.specialIn K (.builtin "object.__class__") "__get__" = some (some (.builtin "getset_descriptor.__get__"))) (htk:PySem.W.takesIn K (.builtin "object.__class__")=some true)
  (hm:PySem.W.mroIn K C (.type "object")=some true):lX K H (.ref a) (.ref C)
theorem zkI{x:V}{u t:Value}(I:Inv X pz Z H s)(rx:RelV x u)(ty:lX X.K H x t)(e:PySem.W.kitOne X.K t c=some b)(h:∀tk,Q (.bool b) { s with toks:=tk }):
 wpAny (model X.prog X.w) A (call (.builtin "isinstance") [u,c]) Q E s:=by
 cases ty with
 |non=>cases (show u=Value.none from rx);exact PySem.W.kia_one PySem.W.kitx_none I.kIn True.intro e (λz=>nomatch z) h
 |bl y=>cases (show u=Value.bool y from rx);exact PySem.W.kia_one PySem.W.kitx_bool I.kIn True.intro e (λz=>nomatch z) h
 |int i=>obtain⟨t,q⟩:=(show ∃t,u=Value.int i t from rx);cases q;exact PySem.W.kia_one PySem.W.kitx_int I.kIn True.intro e (λz=>nomatch z) h
 |str y=>obtain⟨t,q⟩:=(show ∃t,u=Value.str y t from rx);cases q;exact PySem.W.kia_one PySem.W.kitx_str I.kIn True.intro e (λz=>nomatch z) h
 |flt y=>obtain⟨t,q⟩:=(show ∃t,u=Value.float y t from rx);cases q;exact PySem.W.kia_one PySem.W.kitx_float I.kIn True.intro e (λz=>nomatch z) h
 |@lst a xs ea =>
  cases (show u=Value.ref a from rx);obtain⟨_,_,n,_,h1⟩:=(show bJ X.prog X.w H s.heap a (.lst xs) from I.hok a _ ea)
  exact PySem.W.kia_one PySem.W.kitx_list I.kIn ⟨_,h1,rfl⟩ e (λz=>nomatch z) h
 |@frz a ob xs ea =>
  cases (show u=Value.ref a from rx);obtain⟨_,_,_,n,_,h1⟩:=(show bJ X.prog X.w H s.heap a (.frz ob (.lst xs)) from I.hok a _ ea)
  exact PySem.W.kia_one PySem.W.kitx_list I.kIn ⟨_,h1,rfl⟩ e (λz=>nomatch z) h
 |@tup a xs ea =>
  cases (show u=Value.ref a from rx);obtain⟨_,_,_,p⟩:=(show bJ X.prog X.w H s.heap a (.tup xs) from I.hok a _ ea)
  obtain⟨o,h1,h2,_⟩:=p;exact PySem.W.kia_one PySem.W.kitx_tuple I.kIn ⟨o,h1,h2⟩ e (λz=>nomatch z) h
 |@dK a kvs ea =>
  cases (show u=Value.ref a from rx);obtain⟨_,_,vs,_,p⟩:=(show bJ X.prog X.w H s.heap a (.dK kvs) from I.hok a _ ea)
  obtain⟨o,es,ep,h1,h2,_⟩:=p;exact PySem.W.kia_one PySem.W.kitx_dict I.kIn ⟨o,h1,h2.1⟩ e (λz=>nomatch z) h
 |@dT a kvs ea =>
  cases (show u=Value.ref a from rx);obtain⟨_,_,xs,_,o,es,ep,h1,h2,_⟩:=(show bJ X.prog X.w H s.heap a (.dT kvs) from I.hok a _ ea)
  exact PySem.W.kia_one PySem.W.kitx_dict I.kIn ⟨o,h1,h2.1⟩ e (λz=>nomatch z) h
 |@ins a C dx fs ea cl ha hn htk hm =>
  cases (show u=Value.ref a from rx);obtain⟨mA,O,_⟩:=GP I.hok ea;obtain⟨od,J,_⟩:=O.look;exact PySem.W.kia_one (PySem.W.kitx_own (cl.get _) cl.hd ha hn htk hm) I.kIn J e (λz=>nomatch z) h
end
structure aV(k:Nat)(A:Around):Prop where
 hd:A.handled=none
 dp:A.depth+3*k+5<recursionLimit
 un:A.units+16*k+200<cLine
def aV.mono{j k:Nat}{A:Around}(r:aV k A)(h:j<=k):aV j A:=⟨r.hd,by have:=r.dp;omega,by have:=r.un;omega⟩
theorem aV.deeper{k:Nat}{A:Around}(r:aV (k+1) A)(env:Env):aV k (A.deeper env) :=
 ⟨r.hd,by have:=r.dp;show A.depth+1+3*k+5<_;omega,by have:=r.un;show A.units+3+16*k+200<_;omega⟩
def aV.in1{k:Nat}{A:Around}(r:aV (k+1) A):aV k A.in1 :=
 ⟨r.hd,by have:=r.dp;show A.depth+3*k+5<_;omega,by have:=r.un;show A.units+1+16*k+200<_;omega⟩
theorem zjc{A:Around}{C:Addr}{us:List Value}{kw:List (Str×Value)}:(A.under (.builtin "type.__call__" ⟨.ref C::us,kw⟩)).depth=A.depth+1:=by
 first|rfl|simp[Around.under,Code.weight,Code.isCreation,Code.isGuard,Code.isCaller,Code.frames,Code.isFrame,guardIds]
theorem zjb{A:Around}{C:Addr}{us:List Value}{kw:List (Str×Value)}:(A.under (.builtin "type.__call__" ⟨.ref C::us,kw⟩)).units=A.units+1:=by
 first|rfl|simp[Around.under,Code.cUnits,Code.frames,Code.isFrame]
theorem aV.make{k:Nat}{A:Around}(r:aV (k+1) A)(C:Addr)(us:List Value)(kw:List (Str×Value)):aV k (A.under (.builtin "type.__call__" ⟨.ref C::us,kw⟩)) :=
 ⟨r.hd,by have:=r.dp;rw[zjc];omega,by have:=r.un;rw[zjb];omega⟩
def aV.depth{k:Nat}{A:Around}(r:aV k A):A.depth<recursionLimit:=by have:=r.dp;omega
def aV.units{k:Nat}{A:Around}(r:aV k A):A.units+64<cLine:=by have:=r.un;omega
def qL:TA:=λ_ H Q=>Q [] H
def jV(ta:TE)(tr:TA):TA:=λZ H Q=>ta Z H λx H1=>tr Z H1 λxs H2=>Q (x::xs) H2
section
variable {X:Cx}{e:Expr}{es:List Expr}{te:TE}{t:TA}{pos:Pos}
def uo:PA X [] qL:=λ_ _ _ _ H Q I h=>Calls.spliced_nil ⟨[],H,I,.nil,h⟩
theorem jW(ha:PE X e te)(hr:PA X es t)(hs:starEach (e::es) X.env=(false,eval e X.env)::starEach es X.env:=by rfl):PA X (e::es) (jV te t):=by intro pos pz s Z H Q I h;rw[hs];show wpAny _ _ (spliced ((false,eval e X.env)::backTo pos (starEach es X.env))) _ _ s;refine Calls.spliced_cons (bK (ha pz s Z H _ I h) λu s1 ⟨x,H1,I1,r1,q1⟩=>?_);exact bK (hr pos pz s1 Z H1 _ I1 q1) λus s2 ⟨xs,H2,I2,r2,q2⟩=>⟨x::xs,H2,I2,.cons r1 r2,q2⟩
def Cq(t:TA):TE:=λZ H Q=>t Z H λxs H1=>xs.length<=sizeLine/\∀p,H1 p=none->Q (.ref p) (upd H1 p (.tup xs))
def wQ(t:TA):TE:=λZ H Q=>t Z H λxs H1=>xs.length<=sizeLine/\∀p,H1 p=none->Q (.ref p) (upd H1 p (.lst xs))
theorem RQ{x1}(h:PA X es t):PE X (.Tuple es x1 pos) (Cq t):=by intro pz s Z H Q I hq;refine wpAny_Tuple_spliced (bK (h pos pz s Z H _ I hq) λus s1 ⟨xs,H1,I1,r,z,q⟩=>⟨by rw[<-r.length];exact z,?_⟩);have hf:H1 s1.heap.objs.size=none:=I1.hok.fresh (bT _);refine⟨.ref s1.heap.objs.size,upd H1 s1.heap.objs.size (.tup xs),I1.laid (t':=s1.toks) (λb u e=>cN _ e) (bT _) ?_,rfl,q _ hf⟩;exact⟨z,us,r,⟨_,gq _ rfl,rfl,_,rfl⟩⟩
theorem Kl(h:PA X es t):PE X (.List es pos) (wQ t):=by intro pz s Z H Q I hq;refine wpAny_List_spliced (bK (h pos pz s Z H _ I hq) λus s1 ⟨xs,H1,I1,r,z,q⟩=>⟨by rw[<-r.length];exact z,?_⟩);have hf:H1 s1.heap.objs.size=none:=I1.hok.fresh (bT _);refine⟨.ref s1.heap.objs.size,upd H1 s1.heap.objs.size (.lst xs),I1.laid (t':=s1.toks) (λb u e=>cN _ e) (bT _) ?_,rfl,q _ hf⟩;exact⟨z,us,0,r,gq _ rfl⟩
end
abbrev Sp:=List V->Hp->VK->XK->Prop
abbrev m7:=List Env->Hp->Shared->XK->Value->Shared->Prop
structure iB(P:Program)(w:World)(K:FgA)(mg:Str->Option Value)(base:Heap)(A:Around)(outer:List Env)(s:Shared)(H:Hp):Prop where
 frames:A.frames=some outer
 mod:Mod K mg base
 bs:∀b o,base.get? b=some o->s.heap.get? b=some o/\H b=none
 bsz:base.objs.size<=s.heap.objs.size
 funs:s.heap.FunFrames base outer
 frf:∀b∈frs outer,H b=none
 hok:fD P w H s.heap
 bare:AllBare s.gens
def CE(outer:List Env)(P:Program)(w:World)(H:Hp)(s:Shared)(Q:VK)(u:Value)(s':Shared):Prop :=
 ∃v H',s'.os=s.os/\AllBare s'.gens/\Un (frs outer) [] H H' s.heap s'.heap/\fD P w H' s'.heap/\RelV v u/\Q v H'
def CR(CX:m7)(outer:List Env)(P:Program)(w:World)(H:Hp)(s:Shared)(Q:VK)(E:XK)(r:Result)(s':Shared):Prop :=
 match r with
 |.ok (.ret u)=>CE outer P w H s Q u s'
 |.ok _=>False
 |.error e=>CX outer H s E e s'
structure bR(P:Program)(w:World)(K:FgA)(mg:Str->Option Value)(base:Heap)(CX:m7)(k:Nat)(f:Addr)(fd:FuncData)(ps:List Str)(sp:Sp):Prop where
 len:∀vs H Q E,sp vs H Q E->vs.length=ps.length
 run:∀(A:Around) (outer:List Env) (s:Shared) (H:Hp) (args:Args) (us:List Value) (vs:List V) (Q:VK) (E:XK),aV k A->iB P w K mg base A outer s H->BindsTo s fd args (ps.zip us)->Vals vs us->sp vs H Q E ->
  codeAny (model P w) A (.call (.ref f) args) (CR CX outer P w H s Q E) s
def bR.mono{P:Program}{w:World}{K:FgA}{mg:Str->Option Value}{base:Heap}{CX:m7}{j k:Nat}{f:Addr}{fd:FuncData}{ps:List Str}{sp:Sp}(F:bR P w K mg base CX j f fd ps sp)(h:j<=k):
 bR P w K mg base CX k f fd ps sp:=⟨F.len,λA outer s H args us vs Q E hr=>F.run A outer s H args us vs Q E (hr.mono h)⟩
theorem iB.make{P:Program}{w:World}{K:FgA}{mg:Str->Option Value}{base:Heap}{A:Around}{outer:List Env}{s:Shared}{H:Hp}(e:iB P w K mg base A outer s H)(C:Addr)(us:List Value)(kw:List (Str×Value)):
 iB P w K mg base (A.under (.builtin "type.__call__" ⟨.ref C::us,kw⟩)) outer s H:=⟨by first|exact e.frames|(simpa[Around.under,Code.envs,Code.isFrame,pushEnvs] using e.frames),e.mod,e.bs,e.bsz,e.funs,e.frf,e.hok,e.bare⟩
section
variable {X:Cx}{pz:List (Addr×Obj)}{Z:St}{H:Hp}{s s':Shared}
def Inv.env0(I:Inv X pz Z H s):iB X.prog X.w X.K X.mg X.base X.A X.stack s H :=
 ⟨I.ok.frames,I.ok.mod,I.bs,Nat.le_trans I.ok.bsz I.sz,I.stack,I.stkFree,I.hok,I.bare⟩
theorem Inv.after{Q:VK}{u:Value}(I:Inv X pz Z H s)(h:CE X.stack X.prog X.w H s Q u s'):EP X pz Z Q u s':=by obtain⟨v,H',os,bare,un,hok,r,q⟩:=h;obtain⟨hh,g,d,t,os'⟩:=s';obtain rfl:os'=s.os:=os;exact⟨v,H',I.call (h':=hh) (g':=g) (d':=d) (t':=t) (ch:=[]) un hok bare (λb z=>absurd z (by simp)),r,q⟩
end
def CJ(sp:Sp)(iV:List V)(E:XK)(t:TA):TE:=λZ H Q=>t Z H λvs H1=>sp (vs++iV) H1 Q E
def uK(C:Addr)(m:Str)(sp:Sp)(iV:List V)(E:XK)(ta:TE)(t:TA):TE:=λZ H Q=>ta Z H λx H1=>∃a dx fs,x = .ref a/\H1 a=some (.ins C dx fs)/\fs.lookup m=none /\
 t Z H1 λvs H2=>sp (x::(vs++iV)) H2 Q E
def Cw(C:Addr)(sp:Sp)(iV:List V)(E:XK)(t:TA):TE:=λZ H Q=>t Z H λvs H1=>∀x dx,H1 x=none->H1 dx=none->dx≠x ->
 sp (.ref x::(vs++iV)) (upd (upd H1 dx (.own x)) x (.ins C dx [])) (λv H2=>v = .non/\Q (.ref x) H2) E
def Binds(K:FgA)(fd:FuncData)(ps:List Str)(ds:List Value):Prop :=
 ∀(s:Shared) (us:List Value),K.In s.heap->(us++ds).length=ps.length->BindsTo s fd ⟨us,[]⟩ (ps.zip (us++ds))
theorem Binds.all{K:FgA}{fd:FuncData}{ps:List Str}(h:∀us:List Value,us.length=ps.length->bindArgs fd ⟨us,[]⟩=pure (ps.zip us)):Binds K fd ps []:=λs us _ hl=>by rw[List.append_nil] at hl ⊢;exact .of_eq (h us hl)
def uh(CX:m7)(X:Cx)(E:XK):Prop:=∀(pz:List (Addr×Obj)) (Z:St) (H:Hp) (s:Shared) (e:Value) (s':Shared),Inv X pz Z H s->CX X.stack H s E e s'->X.xe e s'
section
variable {X:Cx}{CX:m7}{k:Nat}{f C:Addr}{fd:FuncData}{ps:List Str}{sp:Sp}{iV:List V}{ds:List Value}{E:XK}{x m:Str}{p pos apos:Pos}{e o:Expr}{es:List Expr}{ta:TE}{t:TA}
theorem Kd{pz:List (Addr×Obj)}{Z:St}{H:Hp}{s:Shared}{Q:VK}{us:List Value}{vs:List V}(F:bR X.prog X.w X.K X.mg X.base CX k f fd ps sp)(hr:aV k X.A)(hb:Binds X.K fd ps ds)(hd:Vals iV ds)(hx:uh CX X E)(I:Inv X pz Z H s)(r:Vals vs us)(h:sp (vs++iV) H Q E):wpAny (model X.prog X.w) X.A (call (.ref f) us) (EP X pz Z Q) X.xe s:=by
 have r2:Vals (vs++iV) (us++ds):=r.append hd;have hl:(us++ds).length=ps.length:=by rw[<-r2.length];exact F.len _ _ _ _ h
 refine wpAny_call (codeAny_mono (F.run X.A X.stack s H ⟨us,[]⟩ (us++ds) (vs++iV) Q E hr I.env0 (hb s us I.kIn hl) r2 h) λr s' hq=>?_);cases r with
 |error e=>exact hx pz Z H s e s' I hq
 |ok fl =>
  cases fl with
  |ret u=>exact I.after hq
  |next=>exact False.elim hq
  |brk=>exact False.elim hq
  |cont=>exact False.elim hq
theorem Tp(F:bR X.prog X.w X.K X.mg X.base CX k f fd ps sp)(hr:aV k X.A)(hg:Gl X x)(hm:X.mg x=some (.ref f))(hk:PySem.W.keepIn X.K (.ref f)=true)(hb:Binds X.K fd ps ds)(hd:Vals iV ds)(hx:uh CX X E)(ha:PA X (e::es) t)(hdb:(x==("__debug__" : Str))=false:=by decide)(he:starEach (e::es) X.env=(false,eval e X.env)::starEach es X.env:=by rfl)(hpl:(backTo pos (starEach es X.env)).any (·.1)=false:=by rfl):
 PE X (.Call (.Name x p) (e::es) [] pos) (CJ sp iV E t):=by
 intro pz s Z H Q I h;refine wpAny_Call_Name_kw (rC I hg hm ?_ hdb);refine PySem.W.callWith_K (h₀:=X.base) I.ok.mod.kin hk (bK (ha pos pz s Z H _ I h) λus s1 ⟨vs,H1,I1,r,q⟩=>⟨I1.kIn,?_⟩) he hpl;exact Kd F hr hb hd hx I1 r q
theorem Ul{pl:Sem Bool}(he:PE X o ta)(c:je X.K C)(hm:tO X.K C m f)(F:bR X.prog X.w X.K X.mg X.base CX k f fd ps sp)(hr:aV k X.A)(hb:Binds X.K fd ps ds)(hd:Vals iV ds)(hx:uh CX X E)(ha:PA X (e::es) t)(hst:starEach (e::es) X.env=(false,eval e X.env)::starEach es X.env:=by rfl)(hpl:(backTo pos (starEach es X.env)).any (·.1)=false:=by rfl)(ht:eval (.Call (.Attribute o m apos) (e::es) [] pos) X.env=(do
  let ov <-eval o X.env
  standAt apos.atName
  let (f,first) <-holding [ov] (getMethod ov m pl)
  callWith pos f first (backTo pos (starEach (e::es) X.env)) (backToKw pos (keywordEach [] X.env))):=by rfl):
 PE X (.Call (.Attribute o m apos) (e::es) [] pos) (uK C m sp iV E ta t):=by
 intro pz s Z H Q I h;refine PySem.W.methodCall_KW (pl:=pl) (bK (he pz s Z H _ I h) λu s1 ⟨x,H1,I1,rx,a,dx,fs,ex,ea,l,q⟩=>?_) ht;subst ex;obtain rfl:u=Value.ref a:=rx;refine WN I1 ea c hm l ?_;refine PySem.W.callWith_K (first:=[.ref a]) (h₀:=X.base) I.ok.mod.kin hm.kp (bK (ha pos pz s1 Z H1 _ I1 q) λus s2 ⟨vs,H2,I2,r,q2⟩=>⟨I2.kIn,?_⟩) hst hpl;exact Kd (us := .ref a::us) (vs := .ref a::vs) F hr hb hd hx I2 (.cons rfl r) q2
theorem zmh{pl:Sem Bool}(he:PE X o ta)(c:je X.K C)(hm:tO X.K C m f)(F:bR X.prog X.w X.K X.mg X.base CX k f fd ps sp)(hr:aV k X.A)(hb:Binds X.K fd ps ds)(hd:Vals iV ds)(hx:uh CX X E)(ht:eval (.Call (.Attribute o m apos) [] [] pos) X.env=(do
  let ov <-eval o X.env
  standAt apos.atName
  let (f,first) <-holding [ov] (getMethod ov m pl)
  callWith pos f first (backTo pos (starEach [] X.env)) (backToKw pos (keywordEach [] X.env))):=by rfl):
 PE X (.Call (.Attribute o m apos) [] [] pos) (uK C m sp iV E ta qL):=by
 intro pz s Z H Q I h;refine PySem.W.methodCall_KW (pl:=pl) (bK (he pz s Z H _ I h) λu s1 ⟨x,H1,I1,rx,a,dx,fs,ex,ea,l,q⟩=>?_) ht;subst ex;obtain rfl:u=Value.ref a:=rx;refine WN I1 ea c hm l ?_;exact PySem.W.callWith_K0 (first:=[.ref a]) I1.kIn hm.kp (Kd (us:=[.ref a]) (vs:=[.ref a]) F hr hb hd hx I1 (.cons rfl .nil) q)
structure Mk(K:FgA)(C f:Addr):Prop where
 makes:PySem.W.makesIn K C=true
 init:PySem.W.findIn K (.ref C) "__init__" = some (some (.ref f))
 fn:PySem.W.isFn K (.ref f)=true
 kp:PySem.W.keepIn K (.ref C)=true
theorem zl8{pz:List (Addr×Obj)}{Z:St}{H:Hp}{s:Shared}{Q:VK}{us:List Value}{vs:List V}(M:Mk X.K C f)(F:bR X.prog X.w X.K X.mg X.base CX k f fd ps sp)(hr:aV (k+1) X.A)(hb:Binds X.K fd ps ds)(hd:Vals iV ds)(hx:uh CX X E)(I:Inv X pz Z H s)(r:Vals vs us)(h:∀x dx,H x=none->H dx=none->dx≠x->sp (.ref x::(vs++iV)) (upd (upd H dx (.own x)) x (.ins C dx [])) (λv H2=>v = .non/\Q (.ref x) H2) E):
 wpAny (model X.prog X.w) X.A (call (.ref C) us) (EP X pz Z Q) X.xe s:=by
 have hq:=h (s.heap.objs.size+1) s.heap.objs.size (I.hok.fresh (Nat.le_succ _)) (I.hok.fresh (bT _)) (cW (Nat.lt_succ_self _));have I2:=Inv.made (C:=C) I;have r2:Vals (V.ref (s.heap.objs.size+1)::(vs++iV)) (Value.ref (s.heap.objs.size+1)::(us++ds)) := .cons rfl (r.append hd);have hl:(Value.ref (s.heap.objs.size+1)::us++ds).length=ps.length:=by have e:=r2.length;rw[F.len _ _ _ _ hq] at e;exact e.symm
 refine wpAny_call (zmr (f:=f) I.kIn M.makes M.init (beq_iff_eq.mp M.fn) (codeAny_mono (F.run _ X.stack _ _ ⟨Value.ref (s.heap.objs.size+1)::us,[]⟩ (Value.ref (s.heap.objs.size+1)::(us++ds)) _ _ E (hr.make C us [])
  (I2.env0.make C us []) (hb _ (Value.ref (s.heap.objs.size+1)::us) I2.kIn hl) r2 hq) λr s' hq'=>?_))
 cases r with
 |error e=>exact hx pz Z _ _ e s' I2 hq'
 |ok fl =>
  cases fl with
  |ret u =>
   obtain⟨v,H',I3,rv,ev,q3⟩:=I2.after hq';subst ev;exact⟨rv,⟨V.ref (s.heap.objs.size+1),H',I3,rfl,q3⟩⟩
  |next=>exact False.elim hq'
  |brk=>exact False.elim hq'
  |cont=>exact False.elim hq'
theorem zoC(M:Mk X.K C f)(F:bR X.prog X.w X.K X.mg X.base CX k f fd ps sp)(hr:aV (k+1) X.A)(hg:Gl X x)(hm:X.mg x=some (.ref C))(hb:Binds X.K fd ps ds)(hd:Vals iV ds)(hx:uh CX X E)(ha:PA X (e::es) t)(hdb:(x==("__debug__" : Str))=false:=by decide)(he:starEach (e::es) X.env=(false,eval e X.env)::starEach es X.env:=by rfl)(hpl:(backTo pos (starEach es X.env)).any (·.1)=false:=by rfl):
 PE X (.Call (.Name x p) (e::es) [] pos) (Cw C sp iV E t):=by
 intro pz s Z H Q I h;refine wpAny_Call_Name_kw (rC I hg hm ?_ hdb);refine PySem.W.callWith_K (h₀:=X.base) I.ok.mod.kin M.kp (bK (ha pos pz s Z H _ I h) λus s1 ⟨vs,H1,I1,r,q⟩=>⟨I1.kIn,?_⟩) he hpl;exact zl8 M F hr hb hd hx I1 r q
end
structure jJ(N P:List Str)(sc:Scope):Prop where
 kind:sc.kind = .function
 co:sc.isCoroutine=false
 gen:sc.isGenerator=false
 nd:N.Nodup
 pre:N.take P.length=P
 par:∀x∈P,sc.names.lookup x=some .local\/sc.names.lookup x=some .cell
 nofree:∀y∈sc.names,y.2 ≠ .free
theorem Wh{kindOf:Str->Option NameKind}{x:Str}:∀{binds:List (Str×Value)} {m:Str->Option Value},(∀v,(x,v)∉binds)->bindL kindOf binds m x=m x
 |[],_,_=>rfl
 | (n,v)::r,m,h=>by
   unfold bindL;rw[Wh λw hw=>h w (cM _ hw)];split
   .have:x≠n:=by rintro rfl;exact h v fG
    simp[this]
   .rfl
theorem Wd{kindOf:Str->Option NameKind}{x:Str}:∀{binds:List (Str×Value)} {m:Str->Option Value},(∀v,(x,v)∉binds)->bindC kindOf binds m x=m x
 |[],_,_=>rfl
 | (n,v)::r,m,h=>by
   unfold bindC;rw[Wd λw hw=>h w (cM _ hw)];split
   .rfl
   .have:x≠n:=by rintro rfl;exact h v fG
    simp[this]
theorem Wg{kindOf:Str->Option NameKind}{x:Str}{v:Value}:∀{P:List Str} {vs:List Value} {i:Nat} {m:Str->Option Value},P.Nodup->P[i]?=some x->vs[i]?=some v->kindOf x=some .local ->
 bindL kindOf (P.zip vs) m x=some v
 |[],_,_,_,_,h,_,_=>by simp at h
 |_::_,[],_,_,_,_,h,_=>by simp at h
 |p::P,w::vs,0,m,nd,h1,h2,hk=>by simp at h1 h2;subst h1;subst h2;show bindL kindOf ((p,w)::P.zip vs) m p=_;unfold bindL;rw[Wh λv hv=>(List.nodup_cons.mp nd).1 (List.of_mem_zip hv).1,if_pos hk];simp
 |p::P,w::vs,i+1,m,nd,h1,h2,hk=>by show bindL kindOf ((p,w)::P.zip vs) m x=_;unfold bindL;exact Wg (i:=i) (List.nodup_cons.mp nd).2 (by simpa using h1) (by simpa using h2) hk
theorem Wc{kindOf:Str->Option NameKind}{x:Str}{v:Value}:∀{P:List Str} {vs:List Value} {i:Nat} {m:Str->Option Value},P.Nodup->P[i]?=some x->vs[i]?=some v->kindOf x≠some .local ->
 bindC kindOf (P.zip vs) m x=some v
 |[],_,_,_,_,h,_,_=>by simp at h
 |_::_,[],_,_,_,_,h,_=>by simp at h
 |p::P,w::vs,0,m,nd,h1,h2,hk=>by simp at h1 h2;subst h1;subst h2;show bindC kindOf ((p,w)::P.zip vs) m p=_;unfold bindC;rw[Wd λv hv=>(List.nodup_cons.mp nd).1 (List.of_mem_zip hv).1,if_neg hk];simp
 |p::P,w::vs,i+1,m,nd,h1,h2,hk=>by show bindC kindOf ((p,w)::P.zip vs) m x=_;unfold bindC;exact Wc (i:=i) (List.nodup_cons.mp nd).2 (by simpa using h1) (by simpa using h2) hk
def start(N:List Str)(vs:List V):St:=vs.map some++List.replicate (N.length - vs.length) none
noncomputable def kE(CX:m7)(P:Program)(w:World)(K:FgA)(mg:Str->Option Value)(base:Heap)(N:List Str)(qual:Str)(scope:Scope)(f:Addr)(cd:Value)(A:Around)(outer:List Env)(s:Shared)(H:Hp)(E:XK):Cx where
 prog:=P
 w:=w
 K:=K
 mg:=mg
 base:=base
 A:=A.deeper (envOfC qual scope s.heap.objs.size f cd)
 N:=N
 s₀:=s
 H₀:=H
 env:=envOfC qual scope s.heap.objs.size f cd
 outer:=outer
 stack:=envOfC qual scope s.heap.objs.size f cd::outer
 ex:=[]
 calm:=true
 fn:=λ_=>true
 pn:=[]
 xe:=λe s'=>wpAny (model P w) (A.deeper (envOfC qual scope s.heap.objs.size f cd)) (leaving (envOfC qual scope s.heap.objs.size f cd) e) (λ_ s''=>CX outer H s E e s'') (λe' s''=>CX outer H s E e' s'') s'
theorem U9{sc:Scope}{n:Nat}{x:Str}(h:sc.names.lookup x=some .cell):∃c,(cellsFrom n sc.names []).lookup x=some c:=by have q:=PySem.W.cellsFrom_some sc.names n [] (.inl h);exact Option.isSome_iff_exists.mp q
theorem VR{CX:m7}{P:Program}{w:World}{K:FgA}{mg:Str->Option Value}{base:Heap}{N ps:List Str}{qual:Str}{scope:Scope}{f:Addr}{cd:Value}{A:Around}{outer:List Env}{s s1:Shared}{H:Hp}{E:XK}{us:List Value}{vs:List V}(S:jJ N ps scope)(hd:A.handled=none)(e0:iB P w K mg base A outer s H)(hl:vs.length=ps.length)(r:Vals vs us)(x:InCallC s s.heap.objs.size (bindL (envOfC qual scope s.heap.objs.size f cd).kindOf (ps.zip us) λ_=>none) (cellsFrom (s.heap.objs.size+1) scope.names []) (bindC (envOfC qual scope s.heap.objs.size f cd).kindOf (ps.zip us) λ_=>none) s1):
 Inv (kE CX P w K mg base N qual scope f cd A outer s H E) [] (start N vs) H s1:=by
 have hpl:ps.length<=N.length:=by have:=congrArg List.length S.pre;rw[vz] at this;omega
 obtain⟨h1,tk,rfl,hk⟩:=x.done;have mK:∀b:Addr,b∉(kE CX P w K mg base N qual scope f cd A outer s H E).ex:=λb z=>absurd (show b∈([]:List Addr) from z) (by simp);refine⟨⟨e0.mod,S.kind,rfl,rfl,bT _,λy z c h1 h2=>?_,λy hy=>?_,λy c _ h=>?_,λ_=>hd,Around.frames_deeper e0.frames,.inr ⟨rfl,rfl⟩,λb z=>absurd z (mK b),e0.bs,e0.bsz,λb _ _=>mK b,λb z=>absurd z (mK b),e0.funs,e0.frf⟩,
  rfl,e0.bare,Un.kept hk,⟨_,x.toInCall.ns,λi y v h1 h2 h3=>?_⟩,λy c h=>⟨_,x.cell y c h⟩,e0.hok.fresh (bT _),λy c h=>?_,λp hp=>absurd (show p∈([]:List (Addr×Obj)) from hp) (by simp),e0.hok.kept hk,?_⟩
 .exact name_of_addr x.apart (gU h1) (gU h2)
 .have hy:scope.names.lookup y=some .cell\/scope.names.lookup y=some .free:=hy;rcases hy with hy|hy
  .exact U9 hy
  .exact absurd rfl (S.nofree _ (gU hy))
 .exact vy (x.above y c (gU h))
 .have hi:i<vs.length:=by
   unfold start at h2;by_cases hi:i<vs.length
   .exact hi
   .rw[Ac (by simpa using hi)] at h2;rw[List.getElem?_replicate] at h2;split at h2<;>cases h2
  have ha:vs[i]?=some v:=by
   unfold start at h2;rw[lW (by simpa using hi),gR] at h2;cases e:vs[i]? with
   |none=>rw[e] at h2;cases h2
   |some a=>rw[e] at h2;cases h2;rfl
  obtain⟨u,hu,rv⟩:=r.get ha;have hp:ps[i]?=some y:=by rw[<-S.pre,List.getElem?_take_of_lt (by omega)];exact h1
  have Yl:ps.Nodup:=by rw[<-S.pre];exact S.nd.sublist (List.take_sublist _ _)
  refine⟨u,rv,?_⟩;rcases S.par y (List.mem_of_getElem? hp) with k|k
  .exact .inl ⟨k,Wg Yl hp hu k⟩
  .obtain⟨c,e⟩:=U9 (n:=s.heap.objs.size+1) k;refine .inr ⟨.inl k,c,e,?_⟩;have q:=x.cell y c e;rw[Wc Yl hp hu (by show scope.names.lookup y≠_;rw[k];decide)] at q;exact q
 .exact e0.hok.fresh (vy (x.above y c (gU h)))
 .unfold start;show _=N.length;rw[jE,cX,List.length_replicate];omega
theorem Ao{CX:m7}{P:Program}{w:World}{K:FgA}{mg:Str->Option Value}{base:Heap}{k:Nat}{f:Addr}{name qual:Str}{params:Arguments}{body:List Stmt}{scope:Scope}{dV kV doc pm cdv ct oc:Value}{an od:Option Addr}{osl:Array (Option Value)}{N ps:List Str}{sp:Sp}(lk:K.lookup f=some ⟨oc,od,.func (PySem.W.fnOf name qual params body scope dV kV doc pm an cdv ct),osl⟩)(hcd:PySem.W.codeIn K cdv qual=true)(S:jJ N ps scope)(len:∀vs H Q E,sp vs H Q E->vs.length=ps.length)(hbody:∀(A:Around) (outer:List Env) (s:Shared) (H:Hp) (vs:List V) (Q:VK) (E:XK),aV k (A.deeper (envOfC qual scope s.heap.objs.size f cdv))->sp vs H Q E ->
  ∃t,fL (kE CX P w K mg base N qual scope f cdv A outer s H E) body t/\t { nx:=λ_ H'=>Q .non H',rt:=Q } (start N vs) H):
 bR P w K mg base CX (k+1) f (PySem.W.fnOf name qual params body scope dV kV doc pm an cdv ct) ps sp:=by
 refine⟨len,λA outer s H args us vs Q E hr e0 hb r hsp=>?_⟩;have hl:=len _ _ _ _ hsp;have KX:K.In s.heap:=e0.mod.kin.keeps λb o e=>(e0.bs b o e).1;have lim:s.heap.NoLimit:=e0.mod.nolimit.keeps λb o e=>(e0.bs b o e).1;have hkind:∀y∈ps.zip us,scope.names.lookup y.1=some .local\/(scope.names.lookup y.1=some .cell/\((cellsFrom (s.heap.objs.size+1) scope.names []).lookup y.1).isSome=true):=fun⟨n,v⟩ hy=>by
  rcases S.par n (List.of_mem_zip hy).1 with q|q
  .exact .inl q
  .exact .inr ⟨q,PySem.W.cellsFrom_some _ _ _ (.inl q)⟩
 refine codeAny_call_function hr.depth (KX _ _ lk) rfl S.co S.gen rfl (PySem.W.codeRec_of KX hcd) (hb _ _ _ _ ?_);refine wpAny_newFunctionEnv_cells S.kind hkind λenv he s1 x=>?_;subst he;refine⟨lim.keeps x.toInCall.keep,codeAny_func ?_⟩;obtain⟨t,ht,hq⟩:=hbody A outer s H vs Q E (hr.deeper _) hsp;have I:Inv (kE CX P w K mg base N qual scope f cdv A outer s H E) [] (start N vs) H s1:=VR S hr.hd e0 hl r x;refine iI (ht [] s1 (start N vs) H _ I hq) (λfl s' hs=>?_) λe s' hs=>hs;have fin:∀{Z':St} {H':Hp} {v:V} {u:Value},Inv (kE CX P w K mg base N qual scope f cdv A outer s H E) [] Z' H' s'->RelV v u->Q v H'->CE outer P w H s Q u s' :=
  λ{Z' H' v u} J rv q=>⟨v,H',J.os,J.bare,J.base,J.hok,rv,q⟩
 cases fl with
 |ret u =>
  obtain⟨v,Z',H',J,rv,q⟩:=hs;exact fin J rv q
 |next =>
  obtain⟨Z',H',J,q⟩:=hs;exact fin (v:=V.non) (u:=Value.none) J rfl q
 |brk =>
  obtain⟨_,_,_,q⟩:=hs;exact False.elim q
 |cont =>
  obtain⟨_,_,_,q⟩:=hs;exact False.elim q
section
variable {X:Cx}{x:Str}{p pos:Pos}{e:Expr}{es:List Expr}{t:TA}{id T:String}{r:List V->Hp->VK->Prop}
def Pk(r:List V->Hp->VK->Prop)(t:TA):TE:=λZ H Q=>t Z H λvs H1=>r vs H1 Q
theorem Vj(hc:gW X (.builtin id) r)(hg:Gl X x)(hm:X.mg x=none)(hv:bootBuiltins x=some (.builtin id))(ha:PA X (e::es) t)(hn:x ≠ "__name__" := by decide)(hdb:(x==("__debug__" : Str))=false:=by decide)(he:starEach (e::es) X.env=(false,eval e X.env)::starEach es X.env:=by rfl)(hpl:(backTo pos (starEach es X.env)).any (·.1)=false:=by rfl):PE X (.Call (.Name x p) (e::es) [] pos) (Pk r t):=by intro pz s Z H Q I h;refine wpAny_Call_Name_kw (rA I hg hm hv ?_ hn hdb);exact PyProof.Rows.callWith_builtin1 (bK (ha pos pz s Z H _ I h) λus s1 ⟨vs,H1,I1,r1,q1⟩=>hc pz s1 Z H1 vs us Q I1 r1 q1) he hpl
theorem zka(hc:gW X (.type T) r)(hg:Gl X x)(hm:X.mg x=none)(hv:bootBuiltins x=some (.type T))(ha:PA X (e::es) t)(hn:x ≠ "__name__" := by decide)(hdb:(x==("__debug__" : Str))=false:=by decide)(he:starEach (e::es) X.env=(false,eval e X.env)::starEach es X.env:=by rfl)(hpl:(backTo pos (starEach es X.env)).any (·.1)=false:=by rfl):PE X (.Call (.Name x p) (e::es) [] pos) (Pk r t):=by intro pz s Z H Q I h;refine wpAny_Call_Name_kw (rA I hg hm hv ?_ hn hdb);exact PyProof.Rows.callWith_type1 (bK (ha pos pz s Z H _ I h) λus s1 ⟨vs,H1,I1,r1,q1⟩=>hc pz s1 Z H1 vs us Q I1 r1 q1) he hpl
end
end L2
namespace HT
open PySem PyProof.Rows
section
variable {prog:Program}{w:World}{A:Around}{E:Value->Shared->Prop}{s:Shared}
theorem zpN{t b:Addr}{vs ws:List Value}{Q:Value->Shared->Prop}(ht:IsTup s.heap t vs.toArray)(hb:IsTup s.heap b ws.toArray)(hv:vs≠[])(h1:ws=[]->Q (.ref t) s)(h2:ws≠[]->Q (.ref s.heap.objs.size) { s with heap:=s.heap.push { cls := .type "tuple",data := .seq (vs++ws).toArray } })(hsz:vs.length+ws.length<=sizeLine):wpAny (model prog w) A (binaryOp .Add (.ref t) (.ref b)) Q E s:=by
 obtain⟨⟨cls,dd,data,sl⟩,ho,hc,n,hd⟩:=id ht;obtain⟨⟨cls2,dd2,data2,sl2⟩,ho2,hc2,n2,hd2⟩:=id hb;simp only at hc hd hc2 hd2;subst hc hd hc2 hd2;have e:vs.toArray++ws.toArray=(vs++ws).toArray:=by simp
 by_cases hw:ws=[]
 .exact concat_meets ⟨_,ho,rfl⟩ ⟨_,ho2,rfl⟩ noFill_tuple_add seq_tuple_add PySem.F.slot_tuple_add PySem.F.entry_tuple_add (PySem.F.args_tuple_add_2 _ _)
   (tuple_addW1 t b vs.toArray ws.toArray n n2 dd dd2 sl sl2 (by simpa using hv) (by simp[hw])) ⟨ho,ho2,h1 hw⟩
 .refine concat_meets ⟨_,ho,rfl⟩ ⟨_,ho2,rfl⟩ noFill_tuple_add seq_tuple_add PySem.F.slot_tuple_add PySem.F.entry_tuple_add (PySem.F.args_tuple_add_2 _ _)
   (tuple_addW2 t b vs.toArray ws.toArray n n2 dd dd2 sl sl2 (by simpa using hv) (by simpa using hw) (by rw[dw,dw];exact hsz)) ⟨ho,ho2,?_⟩
  rw[e];exact h2 hw
noncomputable def sIx(n d:Nat):Option Int->Nat
 |none=>d
 |some v=>if v<0 then(v+(n:Int)).toNat else min v.toNat n
def zh3(n d:Nat):sIx n d none=d:=rfl
theorem zjV(n d k:Nat):sIx n d (some (k:Int))=min k n:=by show(if(k:Int)<0 then((k:Int)+(n:Int)).toNat else min (k:Int).toNat n)=min k n;rw[if_neg (by omega),Int.toNat_natCast]
theorem zqU(n d:Nat)(hd:d<=n)(o:Option Int):sIx n d o<=n:=by
 cases o with
 |none=>exact hd
 |some v =>
  show(if v<0 then(v+(n:Int)).toNat else min v.toNat n)<=n;by_cases hv:v<0
  .rw[if_pos hv];omega
  .rw[if_neg hv];exact Nat.min_le_right _ _
theorem Sx(v:Int)(n d:Nat):(if v<0 then max (v+(n:Int)) 0 else min v (n:Int))=((sIx n d (some v):Nat):Int):=by
 show(if v<0 then max (v+(n:Int)) 0 else min v (n:Int))=(((if v<0 then(v+(n:Int)).toNat else min v.toNat n):Nat):Int)
 by_cases hv:v<0
 .simp only[if_pos hv];omega
 .simp only[if_neg hv];omega
theorem zjt(lo hi:Option Int)(n:Nat):Builtin.Slice.sliceAdjust lo hi 1 (n:Int)=(((sIx n 0 lo:Nat):Int),((sIx n n hi:Nat):Int)):=by
 have h1:¬((1:Int)<0):=by omega
 unfold Builtin.Slice.sliceAdjust;simp only[h1,if_false];refine Prod.ext ?_ ?_
 .cases lo with
  |none=>rfl
  |some v=>exact Sx v n 0
 .cases hi with
  |none=>rfl
  |some v=>exact Sx v n n
theorem zi0(i j:Nat):Builtin.Slice.slicePlaces (i:Int) (j:Int) 1=j - i:=by
 unfold Builtin.Slice.slicePlaces;have h1:(1:Int)>0:=by omega
 simp only[h1,if_true,Int.ediv_one];split<;>omega
theorem Wn{v:Value}{o:Option Int}{Q:Option Int->Shared->Prop}(p:IsPart v o)(h:Q o s):wpAny (model prog w) A (Builtin.Slice.slicePartIndex v) Q E s:=by
 cases p with
 |none=>exact slicePart_none h
 |int i t=>exact slicePart_int h
theorem zcW{sl:Addr}{vl vu:Value}{lo hi:Option Int}{n:Nat}{Q:Int×Int×Nat->Shared->Prop}(hs:s.heap.IsSliceOf sl vl vu .none)(pl:IsPart vl lo)(pu:IsPart vu hi)(h:Q (((sIx n 0 lo:Nat):Int),1,sIx n n hi - sIx n 0 lo) s):wpAny (model prog w) A (Builtin.Slice.sliceApplied (.ref sl) (pure (n:Int))) Q E s:=by obtain⟨os,hos,hcs,hds⟩:=id hs;unfold Builtin.Slice.sliceApplied Builtin.Slice.sliceFields;refine aC (aC (wpAny_field hos hds (x:=vl) rfl (aC (wpAny_field hos hds (x:=vu) rfl (aC (wpAny_field hos hds (x := .none) rfl (bN ?_)))))));refine aC (slicePart_none ?_);show wpAny _ _ (if((1:Int)==0)=true then _ else _) _ _ s;rw[if_neg (by decide)];refine aC (Wn pl (aC (Wn pu (aC (bN ?_)))));show wpAny _ _ (match Builtin.Slice.sliceAdjust lo hi 1 (n:Int) with|(lo,hi)=>pure (lo,(1:Int),Builtin.Slice.slicePlaces lo hi 1)) _ _ s;rw[zjt lo hi n];show wpAny _ _ (pure (((sIx n 0 lo:Nat):Int),(1:Int),Builtin.Slice.slicePlaces ((sIx n 0 lo:Nat):Int) ((sIx n n hi:Nat):Int) 1)) _ _ s;rw[zi0];exact bN h
theorem zme(xs:Array Value)(i k:Nat):((List.range k).filterMap fun(m:Nat)=>xs[((i:Int)+(m:Int)*1).toNat]?).toArray=((xs.toList.drop i).take k).toArray:=by
 have e:(fun(m:Nat)=>xs[((i:Int)+(m:Int)*1).toNat]?)=λm=>xs[i+m]?:=by
  funext m;have:((i:Int)+(m:Int)*1).toNat=i+m:=by omega
  rw[this]
 rw[e];have:=pick_run xs i k;rw[List.filterMap_map] at this;have e2:((λx=>xs[x]?) ∘ λx=>i+x)=λm=>xs[i+m]?:=rfl;rw[e2] at this;rw[this]
theorem zd8{t sl:Addr}{items:Array Value}{vl vu:Value}{lo hi:Option Int}{Q:Value->Shared->Prop}(ht:IsTup s.heap t items)(hs:s.heap.IsSliceOf sl vl vu .none)(pl:IsPart vl lo)(pu:IsPart vu hi)(hw:¬(sIx items.size 0 lo=0/\sIx items.size items.size hi=items.size))(h:Q (.ref s.heap.objs.size) { s with heap:=s.heap.push { cls := .type "tuple",data := .seq ((items.toList.drop (sIx items.size 0 lo)).take (sIx items.size items.size hi - sIx items.size 0 lo)).toArray } })(hsz:items.size<=sizeLine):wpAny (model prog w) A (getItem (.ref t) (.ref sl)) Q E s:=by
 have iy:sizeOk (.seq ((items.toList.drop (sIx items.size 0 lo)).take (sIx items.size items.size hi - sIx items.size 0 lo)).toArray):=by show((items.toList.drop (sIx items.size 0 lo)).take (sIx items.size items.size hi - sIx items.size 0 lo)).toArray.size<=sizeLine;rw[dw,vz,List.length_drop,Array.length_toList];omega
 have hj:sIx items.size items.size hi<=items.size:=zqU _ _ (bT _) hi;obtain⟨os,hos,hcs,hds⟩:=id hs;have hTs:s.TypeIs (.ref sl) "slice" := ⟨os,hos,hcs⟩
 unfold getItem
 try with_reducible refine wpAny_holding ?_
 first|refine aC (bN ?_)|skip
 refine aC (wpAny_sequenceKey ht.typeIs (by decide) ?_);refine aC (wpAny_callSpecial?_slot (name:=Str.ofString "__getitem__") ht.typeIs PyProof.Rows.slot_tuple_getitem
  (wpAny_call_entry PyProof.Rows.slot_tuple_getitem ht.typeIs entry_tuple_getitem ?_ (args_tuple_getitem _ _)))
 show wpAny _ _ (Builtin.Tuple.tupleItemsOf (.ref t) >>= _) _ _ s;refine aC (tupleItemsOf_ ht ?_);refine aC (wpAny_typeOf hTs ?_);rw[if_pos (by decide)];refine aC (zcW hs pl pu ?_);have hno:¬((((sIx items.size 0 lo:Nat):Int)==0&&(1:Int)==1&&(sIx items.size items.size hi - sIx items.size 0 lo)==items.size)=true):=by intro q;rw[cG,cG] at q;have q1:((sIx items.size 0 lo:Nat):Int)=0:=eq_of_beq q.1.1;have q2:sIx items.size items.size hi - sIx items.size 0 lo=items.size:=eq_of_beq q.2;exact hw ⟨by omega,by omega⟩
 show wpAny _ _ (if(((sIx items.size 0 lo:Nat):Int)==0&&(1:Int)==1&&(sIx items.size items.size hi - sIx items.size 0 lo)==items.size)=true then _ else _) _ _ s;rw[if_neg hno,zme]
 first
  |exact aC (m:=Builtin.Tuple.tupleExact _) (wpAny_newObj_type (bN ⟨_,rfl,bN h⟩) iy)
  |exact aC (m:=Builtin.Tuple.tupleExact _) (wpAny_newObj_type (aC (bN (bN ⟨_,rfl,bN h⟩))) iy)
  |exact aC (aC (m:=Builtin.Tuple.tupleExact _) (wpAny_newObj_type (bN (bN ⟨_,rfl,bN h⟩)) iy))
  |exact aC (aC (m:=Builtin.Tuple.tupleExact _) (wpAny_newObj_type (bN ⟨_,rfl,bN h⟩) iy))
end
end HT
namespace L2
open PySem PySem.Spec PyProof.Rows
abbrev TO:=St->Hp->(Option Int->Hp->Prop)->Prop
noncomputable def PO(X:Cx)(e:Option Expr)(t:TO):Prop :=
 ∀(pz:List (Addr×Obj)) (s:Shared) (Z:St) (H:Hp) (Q:Option Int->Hp->Prop),Inv X pz Z H s->t Z H Q ->
  wpAny (model X.prog X.w) X.A (evalPart e X.env) (λu s'=>∃o H',Inv X pz Z H' s'/\IsPart u o/\Q o H') X.xe s
def rP:TO:=λ_ H Q=>Q none H
def Cu(t:TE):TO:=λZ H Q=>t Z H λx H1=>∃i,x = .int i/\Q (some i) H1
section
variable {X:Cx}{e:Expr}{te:TE}{lo hi:Option Expr}{tl th:TO}{pos p2:Pos}
def zov:PO X none rP:=by intro pz s Z H Q I h;rw[evalPart_none];exact bN ⟨none,H,I,.none,h⟩
theorem zou(h:PE X e te):PO X (some e) (Cu te):=by intro pz s Z H Q I hw;rw[evalPart_some];refine bK (h pz s Z H _ I hw) λu s1 ⟨x,H1,I1,r1,q1⟩=>?_;obtain⟨i,rfl,q⟩:=q1;obtain⟨t,rfl⟩:=r1;exact⟨some i,H1,I1,.int i t,q⟩
noncomputable def qy(X:Cx)(r:V->Option Int->Option Int->Hp->VK->Prop):Prop :=
 ∀(pz:List (Addr×Obj)) (s:Shared) (Z:St) (H:Hp) (x:V) (v vl vu:Value) (lo hi:Option Int) (sl:Addr) (Q:VK),Inv X pz Z H s->RelV x v->s.heap.IsSliceOf sl vl vu .none->IsPart vl lo->IsPart vu hi->r x lo hi H Q ->
  ∃T id,typeLookup (.type T) "__getitem__" = pure (some (.builtin id))/\s.TypeIs v T/\wpAny (model X.prog X.w) X.A (getItem v (.ref sl)) (EP X pz Z Q) X.xe s
theorem qy.or{r r':V->Option Int->Option Int->Hp->VK->Prop}(h:qy X r)(h':qy X r'):qy X (λx lo hi H Q=>r x lo hi H Q\/r' x lo hi H Q):=by
 intro pz s Z H x v vl vu lo hi sl Q I rx hs pl pu q;rcases q with q|q
 .exact h pz s Z H x v vl vu lo hi sl Q I rx hs pl pu q
 .exact h' pz s Z H x v vl vu lo hi sl Q I rx hs pl pu q
def tSl(r:V->Option Int->Option Int->Hp->VK->Prop)(te:TE)(tl th:TO):TE:=λZ H Q=>te Z H λx H1=>tl Z H1 λl H2=>th Z H2 λu H3=>r x l u H3 Q
theorem zmg{r:V->Option Int->Option Int->Hp->VK->Prop}(hr:qy X r)(he:PE X e te)(hl:PO X lo tl)(hu:PO X hi th):PE X (.Subscript e (.Slice lo hi none p2) pos) (tSl r te tl th):=by intro pz s Z H Q I h;refine Subscript_ (bK (he pz s Z H _ I h) λv s1 ⟨x,H1,I1,r1,q1⟩=>?_);refine wpAny_Slice (bK (hl pz s1 Z H1 _ I1 q1) λvl s2 ⟨l,H2,I2,pl,q2⟩=>bK (hu pz s2 Z H2 _ I2 q2) λvu s3 ⟨u,H3,I3,pu,q3⟩=>?_);rw[evalPart_none];refine bN ?_;have I4:Inv X pz Z H3 { s3 with heap:=s3.heap.push { cls := .type "slice",data := .fields #[vl,vu,.none] } }:=I3.kept (t':=s3.toks) λb ob q=>cN _ q;obtain⟨T,id,hT,ht,hg⟩:=hr pz { s3 with heap:=s3.heap.push { cls := .type "slice",data := .fields #[vl,vu,.none] } } Z H3 x v vl vu l u s3.heap.objs.size Q I4 r1 (Heap.IsSliceOf.new ..) pl pu q3;show wpAny (model X.prog X.w) X.A (subscriptTail e (.Slice lo hi none p2) v (.ref s3.heap.objs.size)) (EP X pz Z Q) X.xe { s3 with heap:=s3.heap.push { cls := .type "slice",data := .fields #[vl,vu,.none] } };exact tail_any (ops:=[.ref s3.heap.objs.size,v]) ht hT hg (by with_unfolding_all rfl)
def qH(xs:List V)(lo hi:Option Int):List V:=(xs.drop (HT.sIx xs.length 0 lo)).take (HT.sIx xs.length xs.length hi - HT.sIx xs.length 0 lo)
def Wx(xs:List V)(lo hi:Option Int):(qH xs lo hi).length<=xs.length:=by unfold qH;rw[vz,List.length_drop];omega
noncomputable def Dk(K:FgA):V->Option Int->Option Int->Hp->VK->Prop:=λx lo hi H Q=>∃a xs,x = .ref a/\dF K H a xs /\
 ¬(HT.sIx xs.length 0 lo=0/\HT.sIx xs.length xs.length hi=xs.length)/\∀p,H p=none->Q (.ref p) (upd H p (.tup (qH xs lo hi)))
theorem zqw:qy X (Dk X.K):=by
 intro pz s Z H x v vl vu lo hi sl Q I rx hs pl pu h;obtain⟨a,xs,rfl,hx,hw,q⟩:=h;cases rx;obtain⟨its,r,ht,hz⟩:=I.tuple hx;have hlen:its.toArray.size=xs.length:=by rw[dw];exact r.length.symm
 refine⟨"tuple",_,PyProof.Rows.slot_tuple_getitem.lookup,ht.typeIs,?_⟩;refine HT.zd8 ht hs pl pu (by rw[hlen];exact hw) ?_ (by rw[hlen];exact hz);rw[hlen];refine⟨.ref s.heap.objs.size,_,I.laid (t':=s.toks) (o := .tup (qH xs lo hi)) (λb ob q=>cN _ q) (bT _) ?_,rfl,q _ (I.hok.fresh (bT _))⟩;exact⟨Nat.le_trans (Wx xs lo hi) hz,_,(r.drop (HT.sIx xs.length 0 lo)).take (HT.sIx xs.length xs.length hi - HT.sIx xs.length 0 lo),IsTup.new _ _⟩
def Dp(K:FgA):R2:=λx y H Q=>∃a b xs ys,x = .ref a/\y = .ref b/\dF K H a xs/\dF K H b ys/\xs≠[]/\xs.length+ys.length<=sizeLine /\
 (ys=[]->Q (.ref a) H)/\(ys≠[]->∀p,H p=none->Q (.ref p) (upd H p (.tup (xs++ys))))
def Vals.nil_iff{xs:List V}{us:List Value}(r:Vals xs us):us=[]↔xs=[]:=by
 cases r with
 |nil=>simp
 |cons _ _=>simp
theorem zoZ:dZ X (binaryOp .Add) (Dp X.K):=by intro pz s Z H x y v u Q I rx ry h;obtain⟨a,b,xs,ys,rfl,rfl,ha,hb,hx,hz,q1,q2⟩:=h;cases rx;cases ry;obtain⟨its,r1,p1,_⟩:=I.tuple ha;obtain⟨its2,r2,p2,_⟩:=I.tuple hb;refine HT.zpN p1 p2 (λz=>hx (r1.nil_iff.mp z)) (λz=>⟨.ref a,H,I,rfl,q1 (r2.nil_iff.mp z)⟩) (λz=>?_) (by rw[<-r1.length,<-r2.length];exact hz);refine⟨.ref s.heap.objs.size,_,I.laid (t':=s.toks) (o := .tup (xs++ys)) (λb ob q=>cN _ q) (bT _) ?_,rfl,q2 (λw=>z (r2.nil_iff.mpr w)) _ (I.hok.fresh (bT _))⟩;exact⟨by rw[jE];exact hz,_,r1.append r2,IsTup.new _ _⟩
end
def uV(n:Nat)(i:Int):Option Nat:=if 0<=i then(if i<n then some i.toNat else none) else if -(n:Int)<=i then some (i+n).toNat else none
def fX{α:Type}(xs:List α)(i:Int):Option α:=(uV xs.length i).bind λj=>xs[j]?
theorem zpe{n:Nat}{i:Int}{j:Nat}(h:uV n i=some j):seqIndex? i n=some j/\j<n /\ -(n:Int)<=i/\i<n:=by
 unfold uV at h;by_cases h0:0<=i
 .rw[if_pos h0] at h;by_cases h1:i<n
  .rw[if_pos h1] at h;have e:i.toNat=j:=Option.some.inj h;exact⟨by rw[seqIndex_of h0 h1,e],by omega,by omega,h1⟩
  .rw[if_neg h1] at h;cases h
 .rw[if_neg h0] at h;by_cases h1 : -(n:Int)<=i
  .rw[if_pos h1] at h;have e:(i+n).toNat=j:=Option.some.inj h;exact⟨by rw[seqIndex_neg (by omega) h1,e],by omega,h1,by omega⟩
  .rw[if_neg h1] at h;cases h
theorem KJ{α:Type}{xs:List α}{i:Int}{v:α}(h:fX xs i=some v):∃j,seqIndex? i xs.length=some j/\xs[j]?=some v/\j<xs.length /\ -(xs.length:Int)<=i/\i<xs.length:=by
 unfold fX at h;cases e:uV xs.length i with
 |none=>rw[e] at h;cases h
 |some j =>
  rw[e] at h;obtain⟨h1,h2,h3,h4⟩:=zpe e;exact⟨j,h1,h,h2,h3,h4⟩
theorem Gq{α:Type}{xs:List α}{j:Nat}{v:α}(h:xs[j]?=some v):fX xs (j:Int)=some v:=by
 have hj:j<xs.length:=(fj.mp h).1;have e:uV xs.length (j:Int)=some j:=by unfold uV;rw[if_pos (by omega),if_pos (by omega)];simp
 unfold fX;rw[e];exact h
def JC(b:Expr):Prop:=∀o i,subscripted b false o i=operate [o,i] (getItem o i)
noncomputable def Ey(X:Cx)(r:R2):Prop :=
 ∀(value slice:Expr) (pz:List (Addr×Obj)) (s:Shared) (Z:St) (H:Hp) (x y:V) (v u:Value) (Q:VK),Inv X pz Z H s->RelV x v->RelV y u->r x y H Q ->
  subscripted slice false v u=operate [v,u] (getItem v u)->wpAny (model X.prog X.w) X.A (subscriptTail value slice v u) (EP X pz Z Q) X.xe s
noncomputable def mX(X:Cx)(id:String)(r:V->List V->Hp->VK->Prop):Prop :=
 ∀(pz:List (Addr×Obj)) (s:Shared) (Z:St) (H:Hp) (x:V) (xs:List V) (v:Value) (us:List Value) (Q:VK),Inv X pz Z H s->RelV x v->Vals xs us->r x xs H Q ->
  wpAny (model X.prog X.w) X.A (call (.builtin id) (v::us)) (EP X pz Z Q) X.xe s
section
variable {X:Cx}{a b:Expr}{ta tb:TE}{pos:Pos}
theorem Rv{r:R2}(hr:Ey X r)(ha:PE X a ta)(hb:PE X b tb)(hs:JC b):PE X (.Subscript a b pos) (zR r ta tb):=by intro pz s Z H Q I h;exact Subscript_ (yp ha hb I h λv u s2 x y H2 I2 rx ry q=>hr a b pz s2 Z H2 x y v u Q I2 rx ry q (hs _ _))
def Dm(K:FgA):R2:=λx y H Q=>∃p xs i v,x = .ref p/\y = .int i/\cU K H p xs/\fX xs i=some v/\Q v H
def PN(K:FgA):R2:=λx y H Q=>∃p xs i v,x = .ref p/\y = .int i/\dF K H p xs/\fX xs i=some v/\Q v H
def PX:R2:=λx y H Q=>∃z i c,x = .str z/\y = .int i/\z.length<=sizeLine/\fX z.cps.toList i=some c/\Q (.str ⟨#[c]⟩) H
theorem Kr:Ey X (Dm X.K):=by
 intro value slice pz s Z H x y v u Q I rx ry h hs;obtain⟨p,xs,i,z,rfl,rfl,hq,he,q⟩:=h;cases rx;obtain⟨t,rfl⟩:=ry;obtain⟨its,r,pl,hz⟩:=I.list hq;obtain⟨j,h1,h2,h3,h4,h5⟩:=KJ he;obtain⟨w,ew,fJ⟩:=r.get h2;have hl:=r.length;have hn:=vQ;have fin:EP X pz Z Q w s:=⟨z,H,I,fJ,q⟩
 by_cases h0:0<=i
 .have hj:i.toNat=j:=by rw[seqIndex_of h0 h5] at h1;exact Option.some.inj h1
  exact item_listR pl.isList h0 (by omega) (by rw[hj];simpa using ew) fin hs
 .have hj:(i+(its.toArray.size:Int)).toNat=j:=by rw[seqIndex_neg (by omega) h4] at h1;rw[dw,<-hl];exact Option.some.inj h1
  exact subscriptTail_builtinR (x:=w) pl.isList.typeIs slot_list_getitem.lookup
   (wpAny_getItem_list_neg (Q:=λr s'=>r=w/\EP X pz Z Q r s') pl.isList (by omega) (by rw[dw]<;>omega) (by omega) (by rw[hj];simpa using ew) ⟨rfl,fin⟩) hs
theorem Zi:Ey X (PN X.K):=by
 intro value slice pz s Z H x y v u Q I rx ry h hs;obtain⟨p,xs,i,z,rfl,rfl,hq,he,q⟩:=h;cases rx;obtain⟨t,rfl⟩:=ry;obtain⟨its,r,pl,hz⟩:=I.tuple hq;obtain⟨j,h1,h2,h3,h4,h5⟩:=KJ he;obtain⟨w,ew,fJ⟩:=r.get h2;have hl:=r.length;have hn:=vQ;have fin:EP X pz Z Q w s:=⟨z,H,I,fJ,q⟩
 exact subscriptTail_builtinR (x:=w) pl.typeIs slot_tuple_getitem.lookup
  (getItem_tuple (j:=j) (Q:=λr s'=>r=w/\EP X pz Z Q r s') pl (by omega) (by omega) (by rw[dw,<-hl];exact h1) (by simpa using ew) ⟨rfl,fin⟩) hs
theorem Zh:Ey X PX:=by
 intro value slice pz s Z H x y v u Q I rx ry h hs;obtain⟨z,i,c,rfl,rfl,hz,he,q⟩:=h;obtain⟨t,rfl⟩:=rx;obtain⟨t',rfl⟩:=ry;obtain⟨j,h1,h2,h3,h4,h5⟩:=KJ he;have hl:z.cps.toList.length=z.length:=by simp[Str.length]
 rw[hl] at h1 h4 h5;have hn:=vQ;exact tail_any (typeIs_str s z t) slot_str_getitem.lookup (getItem_str (c:=c) (by
  have e1:decide (i < -(2 ^ 63:Int))=false:=decide_eq_false (by omega);have e2:decide (i ≥ 2 ^ 63)=false:=decide_eq_false (by omega);rw[e1,e2,Bool.or_false]) (by rw[h1];simpa using h2) ⟨.str ⟨#[c]⟩,H,I.tok _,⟨_,rfl⟩,q⟩) hs
theorem zgu(lo hi:Option Int)(n:Nat):(sliceBounds lo hi none n).1=((HT.sIx n 0 lo:Nat):Int)/\(sliceBounds lo hi none n).2.1=((HT.sIx n n hi:Nat):Int)/\(sliceBounds lo hi none n).2.2=1:=by
 refine⟨?_,?_,rfl⟩
 .cases lo with
  |none=>simp[sliceBounds,HT.sIx]
  |some i =>
   simp only[sliceBounds,HT.sIx,Option.getD_none,show(1:Int)>0 by decide,if_true];by_cases h:i<0
   .simp only[h,if_true]<;>omega
   .simp only[h,if_false]<;>omega
 .cases hi with
  |none=>simp[sliceBounds,HT.sIx]
  |some i =>
   simp only[sliceBounds,HT.sIx,Option.getD_none,show(1:Int)>0 by decide,if_true];by_cases h:i<0
   .simp only[h,if_true]<;>omega
   .simp only[h,if_false]<;>omega
theorem zfQ(its:List Value)(lo hi:Option Int):slicePick its.toArray lo hi none=((its.drop (HT.sIx its.length 0 lo)).take (HT.sIx its.length its.length hi - HT.sIx its.length 0 lo)).toArray:=by obtain⟨h1,h2,h3⟩:=zgu lo hi its.toArray.size;unfold slicePick;rw[h1,h2,h3];simp only[sliceRange_one,pick_run,dw]<;>rfl
def Dl(K:FgA):V->Option Int->Option Int->Hp->VK->Prop:=λx lo hi H Q=>∃a xs,x = .ref a/\cU K H a xs/\∀p,H p=none->Q (.ref p) (upd H p (.lst (qH xs lo hi)))
theorem zn7:qy X (Dl X.K):=by intro pz s Z H x v vl vu lo hi sl Q I rx hs pl pu h;obtain⟨a,xs,rfl,hx,q⟩:=h;cases rx;obtain⟨its,r,ht,hz⟩:=I.list hx;have hlen:=r.length;refine⟨"list",_,slot_list_getitem.lookup,ht.isList.typeIs,?_⟩;refine wpAny_getItem_list_slice ht.isList hs pl pu .none (by simp) ?_ (by rw[dw]<;>omega);rw[zfQ,<-hlen];refine⟨.ref s.heap.objs.size,_,I.laid (t':=s.toks) (o := .lst (qH xs lo hi)) (λb ob q=>cN _ q) (bT _) ?_,rfl,q _ (I.hok.fresh (bT _))⟩;exact⟨Nat.le_trans (Wx xs lo hi) hz,_,0,(r.drop (HT.sIx xs.length 0 lo)).take (HT.sIx xs.length xs.length hi - HT.sIx xs.length 0 lo),gq _ rfl⟩
theorem WX:gW X (.builtin "len") (λxs H Q=>∃p ys,xs=[.ref p]/\(cU X.K H p ys\/dF X.K H p ys)/\Q (.int ys.length) H):=by
 intro pz s Z H xs us Q I r h;obtain⟨p,ys,rfl,hq,q⟩:=h;obtain⟨u,rfl,rx⟩:=pZ r;cases rx;have hn:=vQ;rcases hq with hq|hq
 .obtain⟨its,r',pl,hz⟩:=I.list hq;have hlen:=r'.length;exact Calls.call_len_list pl.isList (by simp only[dw]<;>omega) ⟨.int ys.length,H,I.tok _,⟨s.toks+1,by rw[dw,hlen]⟩,q⟩
 .obtain⟨its,r',pl,hz⟩:=I.tuple hq;have hlen:=r'.length;exact len_tuple pl (by simp only[dw]<;>omega) ⟨.int ys.length,H,I.tok _,⟨s.toks+1,by rw[dw,hlen]⟩,q⟩
theorem zg0:gW X (.builtin "len") (λxs H Q=>∃z,xs=[.str z]/\z.length<=sizeLine/\Q (.int z.length) H):=by intro pz s Z H xs us Q I r h;obtain⟨z,rfl,hz,q⟩:=h;obtain⟨u,rfl,t,rfl⟩:=pZ r;have hn:=vQ;exact len_str (by omega) ⟨.int z.length,H,I.tok _,⟨_,rfl⟩,q⟩
theorem WY:gW X (.type "list") (λxs H Q=>∃p ys,xs=[.ref p]/\(cU X.K H p ys\/dF X.K H p ys)/\∀l,H l=none->Q (.ref l) (upd H l (.lst ys))):=by
 intro pz s Z H xs us Q I r h;obtain⟨p,ys,rfl,hq,q⟩:=h;obtain⟨u,rfl,rx⟩:=pZ r;cases rx;have fin:∀(its:List Value),Vals ys its->ys.length<=sizeLine->∀(h':Heap) (c':Nat),(∀b o',s.heap.get? b=some o'->h'.get? b=some o') ->
  h'.get? s.heap.objs.size=some { cls := .type "list",dict:=none,data := .seq its.toArray c',slots:=#[] }->EP X pz Z Q (.ref s.heap.objs.size) { s with heap:=h' }:=λits r' hz h' c' kp e =>
  ⟨.ref s.heap.objs.size,_,I.laid (t':=s.toks) kp (bT _) (show bJ X.prog X.w _ h' _ (.lst ys) from⟨hz,its,c',r',e⟩),rfl,q _ (I.hok.fresh (bT _))⟩
 rcases hq with hq|hq
 .obtain⟨its,r',pl,hz⟩:=I.list hq;have hlen:=r'.length;obtain⟨o,ho,hc,n,hd⟩:=pl.isList;exact call_list_seq p (.inl rfl) ho hc hd (λh' c' kp e=>fin its r' hz h' c' kp e) (by simp only[dw]<;>omega)
 .obtain⟨its,r',pl,hz⟩:=I.tuple hq;have hlen:=r'.length;obtain⟨o,ho,hc,n,hd⟩:=pl;exact call_list_seq p (.inr rfl) ho hc hd (λh' c' kp e=>fin its r' hz h' c' kp e) (by simp only[dw]<;>omega)
theorem Xr:gW X (.type "tuple") (λxs H Q=>∃p ys,xs=[.ref p]/\((cU X.K H p ys/\∀l,H l=none->Q (.ref l) (upd H l (.tup ys)))\/(dF X.K H p ys/\Q (.ref p) H))):=by
 intro pz s Z H xs us Q I r h;obtain⟨p,ys,rfl,h⟩:=h;obtain⟨u,rfl,rx⟩:=pZ r;cases rx;rcases h with⟨hq,q⟩|⟨hq,q⟩
 .obtain⟨its,r',pl,hz⟩:=I.list hq;have hlen:=r'.length;refine call_tuple_list pl.isList (λh' kp=>?_) (by simp only[dw]<;>omega);have I1:Inv X pz Z H { s with heap:=h' }:=I.kept (t':=s.toks) kp;have I2:Inv X pz Z (upd H h'.objs.size (.tup ys)) { s with heap:=h'.push { cls := .type "tuple",data := .seq its.toArray } } :=
   I1.laid (t':=s.toks) (λb o e=>cN _ e) (bT _) (show bJ X.prog X.w _ _ _ (.tup ys) from⟨hz,its,r',IsTup.new _ _⟩)
  exact⟨.ref h'.objs.size,_,I2,rfl,q _ (I1.hok.fresh (bT _))⟩
 .obtain⟨its,r',pl,hz⟩:=I.tuple hq;exact call_tuple_same pl ⟨.ref p,H,I,rfl,q⟩
noncomputable def O8(K:FgA)(T:String)(x:V)(H:Hp):Prop:=match x with
 |.str _=>T = "str"
 |.int _=>T = "int"
 |.ref p=>(T = "list" /\ ∃xs,cU K H p xs)\/(T = "tuple" /\ ∃o,K.lookup p=some o/\o.cls = .type "tuple" /\ o.dict=none) \/
  (T = "dict" /\ ((∃kvs,H p=some (.dK kvs))\/∃kvs,H p=some (.dT kvs)))\/(T = "set" /\ ∃S n,H p=some (.set S n))
 |_=>False
theorem Sd{pz:List (Addr×Obj)}{Z:St}{H:Hp}{s:Shared}{T:String}{x:V}{v:Value}(I:Inv X pz Z H s)(r:RelV x v)(ty:O8 X.K T x H):
 s.TypeIs v T/\∀a,v = .ref a->∃ob,s.heap.get? a=some ob/\ob.dict=none:=by
 cases x with
 |str z =>
  obtain⟨t,rfl⟩:=r;cases (show T = "str" from ty);exact⟨typeIs_str s z t,λ_ e=>nomatch e⟩
 |int i =>
  obtain⟨t,rfl⟩:=r;cases (show T = "int" from ty);exact⟨typeIs_int s i t,λ_ e=>nomatch e⟩
 |ref p =>
  cases r;rcases ty with⟨rfl,xs,hq⟩|⟨rfl,o,hk,hc,hd⟩|⟨rfl,hk⟩|⟨rfl,S,n,hk⟩
  .obtain⟨its,_,pl,_⟩:=I.list hq;refine⟨pl.isList.typeIs,λa e=>?_⟩;cases e;obtain⟨o,n,e,c,hd,_⟩:=pl;exact⟨o,e,hd⟩
  .refine⟨⟨o,I.kIn p o hk,hc⟩,λa e=>?_⟩;cases e;exact⟨o,I.kIn _ o hk,hd⟩
  .have z:∃o,s.heap.get? p=some o/\o.ExactDict:=by
    rcases hk with⟨kvs,hk⟩|⟨kvs,hk⟩
    .obtain⟨_,_,_,_,o,_,_,e,ex,_⟩:=I.hok p _ hk;exact⟨o,e,ex⟩
    .obtain⟨_,_,_,_,o,_,_,e,ex,_⟩:=I.hok p _ hk;exact⟨o,e,ex⟩
   obtain⟨o,e,ex⟩:=z;refine⟨⟨o,e,ex.1⟩,λa e2=>?_⟩;cases e2;exact⟨o,e,ex.2.1⟩
  .obtain⟨o,_,_,_,e,ex,_⟩:=I.hok p _ hk;refine⟨⟨o,e,ex.1⟩,λa e2=>?_⟩;cases e2;exact⟨o,e,ex.2.1⟩
 |_=>exact False.elim ty
def Pn(K:FgA)(T:String)(r:V->List V->Hp->VK->Prop)(to:TE):TE:=λZ H Q=>to Z H λx H1=>O8 K T x H1/\r x [] H1 Q
def Pq(K:FgA)(T:String)(r:V->List V->Hp->VK->Prop)(to:TE)(t:TA):TE:=λZ H Q=>to Z H λx H1=>O8 K T x H1/\t Z H1 λxs H2=>r x xs H2 Q
variable {o e:Expr}{es:List Expr}{to:TE}{t:TA}{name:Str}{apos cpos:Pos}{T id:String}{r:V->List V->Hp->VK->Prop}
theorem ZM(pa:PlainAttrs T)(slot:Slot T name id)(hty:typeOf (.builtin id)=pure (.type "method_descriptor"))(hm:mX X id r)(ho:PE X o to)(hbase:attributeBase o name X.env (eval o X.env)=eval o X.env:=by rfl)(hline:(apos.endLine==cpos.line)=true:=by rfl):PE X (.Call (.Attribute o name apos) [] [] cpos) (Pn X.K T r to):=by intro pz s Z H Q I h;refine wpAny_Call_method0_late hbase hline (bK (ho pz s Z H _ I h) λv s1 ⟨x,H1,I1,r1,ty,q1⟩=>?_);obtain⟨h1,h2⟩:=Sd I1 r1 ty;exact⟨T,id,pa,slot,hty,h1,h2,Calls.callWith_builtin rfl (PySem.evalArgs_none (hm pz s1 Z H1 x [] v [] Q I1 r1 .nil q1))⟩
theorem JQ(pa:PlainAttrs T)(slot:Slot T name id)(hty:typeOf (.builtin id)=pure (.type "method_descriptor"))(hm:mX X id r)(ho:PE X o to)(ha:PA X (e::es) t)(hbase:attributeBase o name X.env (eval o X.env)=eval o X.env:=by rfl)(hfew:((backTo cpos (starEach (e::es) X.env)).all (λx => !x.1)&&(backToKw cpos (keywordEach [] X.env)).all (λx=>x.1.isSome)
  && decide ((e::es).length+([]:List Keyword).length+(if([]:List Keyword).isEmpty then 0 else 1)<30))=true:=by rfl)(hline:(apos.endLine==cpos.line)=true:=by rfl)(hs:starEach (e::es) X.env=(false,eval e X.env)::starEach es X.env:=by rfl)(hplain:(backTo cpos (starEach es X.env)).any (·.1)=false:=by rfl):
 PE X (.Call (.Attribute o name apos) (e::es) [] cpos) (Pq X.K T r to t):=by
 intro pz s Z H Q I h;refine wpAny_Call_method_late hbase hfew hline rfl (bK (ho pz s Z H _ I h) λv s1 ⟨x,H1,I1,r1,ty,q1⟩=>?_);obtain⟨h1,h2⟩:=Sd I1 r1 ty;refine⟨T,id,pa,slot,hty,h1,h2,?_⟩;have hA:=ha cpos pz s1 Z H1 _ I1 q1;rw[hs] at hA ⊢;refine Calls.callWith_builtin (by show(false||(backTo cpos (starEach es X.env)).any (·.1))=false;rw[hplain]<;>rfl) (Calls.evalArgs_plain ?_);exact bK hA λus s2 ⟨vs,H2,I2,r2,q2⟩=>hm pz s2 Z H2 x vs v us Q I2 r1 r2 q2
end
noncomputable def Eu(X:Cx)(id:String)(r:V->List V->Hp->VK->Prop):Prop :=
 ∀(pz:List (Addr×Obj)) (s:Shared) (Z:St) (H:Hp) (x:V) (xs:List V) (v:Value) (us:List Value) (Q:VK),Inv X pz Z H s->RelV x v->Vals xs us->r x xs H Q ->
  wpAny (model X.prog X.w) X.A (call (.builtin id) (v::us)) (EP X pz Z Q) X.xe s
def Vals.one{x:V}{us:List Value}(h:Vals [x] us):∃u,us=[u]/\RelV x u:=by
 cases h with
 |cons r t=>cases t;exact⟨_,rfl,r⟩
theorem Vals.two{x y:V}{us:List Value}(h:Vals [x,y] us):∃u v,us=[u,v]/\RelV x u/\RelV y v:=by
 cases h with
 |cons r t =>
  obtain⟨v,rfl,q⟩:=Vals.one t;exact⟨_,v,rfl,r,q⟩
def Vals.zero:∀{us:List Value},Vals [] us->us=[]
 |_,.nil=>rfl
theorem Vals.dropLast{xs:List V}{us:List Value}(h:Vals xs us):Vals xs.dropLast us.dropLast:=by
 induction h with
 |nil=>exact .nil
 |cons r t ih =>
  cases t with
  |nil=>exact .nil
  |cons q t'=>exact .cons r ih
def Vals.eraseIdx:∀{xs:List V} {us:List Value} (i:Nat),Vals xs us->Vals (xs.eraseIdx i) (us.eraseIdx i)
 |_,_,_,.nil => .nil
 |_,_,0,.cons _ t=>t
 |_,_,i+1,.cons r t => .cons r (Vals.eraseIdx i t)
theorem Vals.reverse{xs:List V}{us:List Value}(h:Vals xs us):Vals xs.reverse us.reverse:=by
 induction h with
 |nil=>exact .nil
 |cons r t ih=>rw[List.reverse_cons,List.reverse_cons];exact Vals.append ih (.cons r .nil)
theorem zjn{α:Type}(l:List α):l.eraseIdx (l.length - 1)=l.dropLast:=by
 induction l with
 |nil=>rfl
 |cons a r ih =>
  cases r with
  |nil=>rfl
  |cons b r =>
   have e:(a::b::r).length - 1=((b::r).length - 1)+1:=by have h1:(a::b::r).length=r.length+2:=rfl;have h2:(b::r).length=r.length+1:=rfl;omega
   rw[e,List.eraseIdx_cons_succ,ih]
   all_goals rfl
def V4{α:Type}:∀(l:List α) (i:Nat),(l.eraseIdx i).length<=l.length
 |[],_=>bT _
 |_::_,0=>Nat.le_succ _
 |_::r,i+1=>Nat.succ_le_succ (V4 r i)
section
variable {X:Cx}{pz:List (Addr×Obj)}{Z:St}{H:Hp}{s:Shared}{l b:Addr}{xs ys zs:List V}
theorem Inv.lset{its its':List Value}{n:Nat}{f:Array Value->Array Value}{t':Nat}(I:Inv X pz Z H s)(hH:H l=some (.lst xs))(e:s.heap.get? l=some { cls := .type "list",data := .seq its.toArray n })(hf:f its.toArray=its'.toArray)(hv:Vals ys its')(hz:ys.length<=sizeLine):
 Inv X pz Z (upd H l (.lst ys)) { s with heap:=s.heap.update l (Obj.mapSeq f),toks:=t' }:=by
 have q:=PySem.IsL.update e f;rw[hf] at q;refine I.write (x:=l) (e:=l) (by rw[hH];exact trivial) (.inl rfl) (λb' u hb hu=>(Aa s.heap (Obj.mapSeq f) (Ne.symm hb)).trans hu) ⟨_,q⟩ ?_;exact⟨hz,its',_,hv,q⟩
def Inv.lnew{its:List Value}{t':Nat}(I:Inv X pz Z H s)(hv:Vals ys its)(hz:ys.length<=sizeLine):
 Inv X pz Z (upd H s.heap.objs.size (.lst ys)) { s with heap:=s.heap.push { cls := .type "list",data := .seq its.toArray },toks:=t' } :=
 I.laid (λ_ _ q=>cN _ q) (bT _) ⟨hz,its,0,hv,gq _ rfl⟩
def Inv.fresh(I:Inv X pz Z H s):H s.heap.objs.size=none:=I.hok.fresh (bT _)
theorem Inv.lstM(I:Inv X pz Z H s)(hH:H l=some (.lst xs)):xs.length<=sizeLine/\∃(its:List Value) (n:Nat),Vals xs its/\xs.length=its.length/\s.heap.get? l=some { cls := .type "list",data := .seq its.toArray n }:=by obtain⟨z,its,n,r,e⟩:=I.hok l _ hH;exact⟨z,its,n,r,r.length,e⟩
def Rn{n:Nat}(h:n<=sizeLine):Builtin.List.listTooLong n=false:=by unfold Builtin.List.listTooLong;exact decide_eq_false (by omega)
end
section
variable {X:Cx}
def rY:V->List V->Hp->VK->Prop:=λx vs H Q=>∃l xs y,x = .ref l/\vs=[y]/\H l=some (.lst xs)/\xs.length<sizeLine/\Q .non (upd H l (.lst (xs++[y])))
theorem zkp:Eu X "list.append" rY:=by intro pz s Z H x vs v us Q I rx rv h;obtain⟨l,xs,y,rfl,rfl,hH,hz,q⟩:=h;cases rx;obtain⟨u,rfl,ru⟩:=rv.one;obtain⟨z,its,n,r,hl,e⟩:=I.lstM hH;refine call_meets F.slot_list_append ⟨_,e,rfl⟩ F.entry_list_append (F.args_list_append_2 _ _) (PySem.list_append l its.toArray n u (by rw[dw];omega)) ⟨e,?_⟩;refine⟨.non,_,I.lset (its':=its++[u]) hH e (by simp) (r.append (.cons ru .nil)) ?_,rfl,q⟩;rw[jE,List.length_singleton];omega
def rW:V->List V->Hp->VK->Prop:=λx vs H Q=>∃l b xs zs,x = .ref l/\vs=[.ref b]/\H l=some (.lst xs)/\H b=some (.lst zs)/\xs.length+zs.length<=sizeLine/\Q .non (upd H l (.lst (xs++zs)))
theorem zkn:Eu X "list.extend" rW:=by
 intro pz s Z H x vs v us Q I rx rv h;obtain⟨l,b,xs,zs,rfl,rfl,hH,hB,hz,q⟩:=h;cases rx;obtain⟨u,rfl,ru⟩:=rv.one;cases ru;obtain⟨z,its,n,r,hl,e⟩:=I.lstM hH;obtain⟨z2,its2,n2,r2,hl2,e2⟩:=I.lstM hB;have hsz:its.toArray.size+its2.toArray.size<=sizeLine:=by rw[dw,dw];omega
 have pC:¬(!its.toArray.isEmpty&&Builtin.List.listTooLong (its.toArray.size+its2.toArray.size))=true:=by rw[Rn hsz,Bool.and_false];exact fO
 refine call_meets F.slot_list_extend ⟨_,e,rfl⟩ F.entry_list_extend (F.args_list_extend_2 _ _)
  (AutoSeq1.list_extend_list_list_0 l its.toArray n b its2.toArray n2 pC (by rw[dw];omega) (by omega)) ⟨e,e2,?_⟩
 refine⟨.non,_,I.lset (its':=its++its2) hH e (by simp) (r.append r2) ?_,rfl,q⟩;rw[jE];omega
def PL:V->List V->Hp->VK->Prop:=λx vs H Q=>∃l xs y,x = .ref l/\vs=[]/\H l=some (.lst xs)/\xs[xs.length - 1]?=some y/\Q y (upd H l (.lst xs.dropLast))
theorem Zx:Eu X "list.pop" PL:=by
 intro pz s Z H x vs v us Q I rx rv h;obtain⟨l,xs,y,rfl,rfl,hH,hy,q⟩:=h;cases rx;have hus:=rv.zero;subst hus;obtain⟨z,its,n,r,hl,e⟩:=I.lstM hH;obtain⟨u,hu,ru⟩:=r.get hy;have hy':its.toArray[its.toArray.size - 1]?=some u:=by show its.toArray[its.length - 1]?=some u;rw[<-Array.getElem?_toList,<-hl];exact hu
 refine call_meets F.slot_list_pop ⟨_,e,rfl⟩ F.entry_list_pop (F.args_list_pop_1 _) (MeetsSeq.list_pop_last l its.toArray n u hy' (by rw[dw];omega)) ⟨e,?_⟩;refine⟨y,_,I.lset (its':=its.dropLast) hH e ?_ r.dropLast ?_,ru,q⟩
 .show its.toArray.eraseIdxIfInBounds (its.toArray.size - 1)=its.dropLast.toArray;rw[dw,List.eraseIdxIfInBounds_toArray,zjn]
 .rw[List.length_dropLast];omega
def wZ:V->List V->Hp->VK->Prop:=λx vs H Q=>∃l xs i k y,x = .ref l/\vs=[.int i]/\H l=some (.lst xs) /\ -(2 ^ 63)<=i/\i<2 ^ 63/\seqIndex? i xs.length=some k/\xs[k]?=some y/\Q y (upd H l (.lst (xs.eraseIdx k)))
theorem zmn:Eu X "list.pop" wZ:=by
 intro pz s Z H x vs v us Q I rx rv h;obtain⟨l,xs,i,k,y,rfl,rfl,hH,h1,h2,hk,hy,q⟩:=h;cases rx;obtain⟨u,rfl,ru⟩:=rv.one;obtain⟨t,rfl⟩:=ru;obtain⟨z,its,n,r,hl,e⟩:=I.lstM hH;obtain⟨w,hw,fJ⟩:=r.get hy;refine call_meets F.slot_list_pop ⟨_,e,rfl⟩ F.entry_list_pop (F.args_list_pop_2 _ _)
  (MeetsSeq.list_pop_at l its.toArray n i t k w (fitsIndex_both h1 h2) (by rw[dw,<-hl];exact hk) (by rw[<-Array.getElem?_toList];exact hw) (by rw[dw];omega)) ⟨e,?_⟩
 refine⟨y,_,I.lset (its':=its.eraseIdx k) hH e ?_ (r.eraseIdx k) ?_,fJ,q⟩
 .show its.toArray.eraseIdxIfInBounds k=(its.eraseIdx k).toArray;rw[List.eraseIdxIfInBounds_toArray]
 .have:=V4 xs k;omega
def o6:V->List V->Hp->VK->Prop:=λx vs H Q=>∃l xs,x = .ref l/\vs=[]/\H l=some (.lst xs)/\Q .non (upd H l (.lst xs.reverse))
theorem zi7:Eu X "list.reverse" o6:=by intro pz s Z H x vs v us Q I rx rv h;obtain⟨l,xs,rfl,rfl,hH,q⟩:=h;cases rx;have hus:=rv.zero;subst hus;obtain⟨z,its,n,r,hl,e⟩:=I.lstM hH;refine call_meets F.slot_list_reverse ⟨_,e,rfl⟩ F.entry_list_reverse (F.args_list_reverse_1 _) (AutoSeq1.list_reverse_list_0 l its.toArray n (by rw[dw];omega)) ⟨e,?_⟩;refine⟨.non,_,I.lset (its':=its.reverse) hH e (by simp) r.reverse ?_,rfl,q⟩;rw[List.length_reverse];omega
def P0:R2:=λx y H Q=>∃l b xs zs,x = .ref l/\y = .ref b/\H l=some (.lst xs)/\H b=some (.lst zs)/\xs.length+zs.length<=sizeLine/\∀p,H p=none->Q (.ref p) (upd H p (.lst (xs++zs)))
theorem ZD:dZ X (binaryOp .Add) P0:=by
 intro pz s Z H x y v u Q I rx ry h;obtain⟨l,b,xs,zs,rfl,rfl,hH,hB,hz,q⟩:=h;cases rx;cases ry;obtain⟨z,its,n,r,hl,e⟩:=I.lstM hH;obtain⟨z2,its2,n2,r2,hl2,e2⟩:=I.lstM hB;refine PySem.P.add_list e e2 ?_ (by rw[dw,dw];omega);have ea:its.toArray++its2.toArray=(its++its2).toArray:=by simp
 rw[ea];exact⟨.ref _,_,I.lnew (t':=s.toks) (r.append r2) (by rw[jE];omega),rfl,q _ I.fresh⟩
end
end L2
namespace YC
open PySem PySem.W PySem.Calls PyProof.Rows
theorem ze1{P:Params}{h:Heap}:∀(ns:List Int) (vs:List Value),WellAll P h vs (ns.map WData.int)->IntsAre vs ns:=by
 intro ns
 induction ns with
 |nil =>
  intro vs w;rw[List.map_nil] at w;cases w;exact .nil
 |cons n ns ih =>
  intro vs w;rw[iC] at w;cases w with
  |cons a b =>
   cases a;exact .cons _ _ (ih _ b)
theorem zjU{l:OpenLaw}{n:Nat}(hn:l.most=some n){P:Params}{h:Heap}{args:List WData}{vals:List Value}(hpre:l.row.toRowW.claim.pre args=true)(hwl:WellAll P h vals args):
 ∃a vs ns,vals=[Value.ref a]/\args=[WData.list (ns.map WData.int)]/\h.get? a=some { cls := .type "list",data := .seq vs.toArray }/\IntsAre vs ns/\ns.length<=n:=by
 have hsh:WShape.hasAll [] args [.list .int]=true:=(pre_splitW hpre).1;have hc:l.pre.holds [] { args:=args }=true:=(pre_splitW hpre).2;obtain⟨d,r,rfl,h1,h2⟩:=hasAllW_cons hsh;obtain rfl:=hasAllW_nil h2;obtain⟨xs,rfl,h3⟩:=hasW_list h1;obtain⟨ns,rfl⟩:=items_int h3;have hlen:ns.length<=n:=by
  unfold OpenLaw.pre at hc;have h4:(WTm.not (.lt (.lit (.int (n:Int))) (.len (.arg 0)))).holds [] { args:=[.list (ns.map .int)] }=true:=by have h4:=(holds_andW hc).1;rw[hn] at h4;exact h4
  have h5:=condW_of h4 (w_not (w_lt w_lit (w_len_list (w_arg rfl))));rw[cX] at h5;refine Nat.le_of_not_lt λq=>?_;have q':(n:Int)<((ns.length:Nat):Int):=by omega
  first
   | (rw[decide_eq_true q'] at h5;exact absurd h5 (by decide))
   | (simp at h5;omega)
 cases hwl with
 |cons w1 w2 =>
  cases w2;cases w1 with
  |list ho hall=>exact⟨_,_,ns,rfl,rfl,ho,ze1 ns _ hall,hlen⟩
theorem zj3(l:OpenLaw)(args:List WData):l.row.toRowW.claim.post args (.bool true) args=true :=
 postW_of (r:=l.row.toRowW) (X:=(true==true))
  (show WShape.has [] (.bool true) .bool=true by first|rfl|decide|simp[WShape.has,WShape.arms,WShape.armsAll])
  (show(WTm.eq .res (.lit (.bool true))).value [] { args:=args,res:=some (.bool true),after:=args }=some (.bool (true==true)) from w_eq_bool (w_res rfl) w_lit) rfl
theorem zhM{l:OpenLaw}{n:Nat}{q:Program}{loose:List Str}{XP:(Str->Option Value)->Heap->Prop}{YP:World->Heap->Prop}{d:DefRec}(hn:l.most=some n)(hdf:d.params.defaults=[])(call:∀(w:World) (s₀ s₁:Shared) (mg mb:Str->Option Value) (fa:Addr) (o:Obj) (pm cd doc:Value) (a:Addr) (vs:List Value) (ns:List Int),
  Ground q loose [] XP w s₀ mg mb s₁.heap->YP w s₁.heap ->
  s₁.heap.get? fa=some o->o.data = .func (docDef d.name d.params d.body d.scope pm cd doc)->s₁.heap.CodeRec cd d.name->mg d.name=some (.ref fa) ->
  s₁.heap.get? a=some { cls := .type "list",data := .seq vs.toArray }->IntsAre vs ns->ns.length<=n->s₁.gens=#[] ->
  codeAny (model l.prog w) callerA (.call (.ref fa) ⟨[.ref a],[]⟩) (λr s'=>r = .ok (.ret (.bool true))/\OldK s₁.heap s'.heap/\s'.os=s₁.os/\AllBare s'.gens) s₁):
 WalkO q loose XP YP l.row.toRowW d [] (λf vs=>PySem.call f vs):=by
 intro w s₀ s₁ mg mb G Y fa o pm cd doc dV kV ho hd hcd hD hmg hg args vals as hpre hlay hrd hwl hlo;obtain rfl:dV = .none:=Dflts.none hD hdf;obtain rfl:kV = .none:=Dflts.noKw hD;obtain⟨a,vs,ns,rfl,rfl,hobj,hints,hlen⟩:=zjU hn hpre hwl;refine enter_call (codeAny_mono (call w s₀ s₁ mg mb fa o pm cd doc a vs ns G Y ho (fd_plain hd) hcd hmg hobj hints hlen hg) λr s' hq=>?_);obtain⟨rfl,h2,h3,h4⟩:=hq;exact⟨.inl ⟨.bool true,.bool true,[],rfl,λ_=>rfl,.bool true,zj3 l _,λ_=>⟨List.Pairwise.nil,λ_ hm=>(nomatch hm)⟩⟩,h2,h3,h4⟩
end YC
namespace L2
open PySem PySem.Spec PyProof.Rows
def Vy:∀{vs:List Value} {ns:List Int},IntsAre vs ns->Vals (ns.map V.int) vs
 |_,_,.nil => .nil
 |_,_,.cons n t h => .cons ⟨t,rfl⟩ (Vy h)
def mF(s:Stmt):Arguments:=match s with
 |.FunctionDef _ a _ _ _ _ _ _ _ _=>a
 |_=>{ posonlyargs:=[],args:=[],vararg:=none,kwonlyargs:=[],kw_defaults:=[],kwarg:=none,defaults:=[] }
def fV(s:Stmt):List Stmt:=match s with
 |.FunctionDef _ _ b _ _ _ _ _ _ _=>b
 |_=>[]
def aY(s:Stmt):Scope:=match s with
 |.FunctionDef _ _ _ _ _ _ sc _ _ _=>sc
 |_=>{ kind := .function,names:=[],isGenerator:=false,isCoroutine:=false }
abbrev fU:m7:=λ_ _ _ _ _ _=>False
abbrev E0:XK:=λ_ _ _=>False
def Fq{X:Cx}:uh fU X E0:=λ_ _ _ _ _ _ _ h=>h.elim
structure n8(K:FgA)(x qual:Str)(st:Stmt)(f:Addr)(fd:FuncData):Prop where
 ex:∃(oc:Value) (od:Option Addr) (kV doc pm:Value) (an:Option Addr) (cdv ct:Value) (osl:Array (Option Value)),
  fd=PySem.W.fnOf x qual (mF st) (fV st) (aY st) .none kV doc pm an cdv ct/\K.lookup f=some ⟨oc,od,.func fd,osl⟩/\PySem.W.codeIn K cdv qual=true
 kp:PySem.W.keepIn K (.ref f)=true
section
variable {P:Program}{w:World}{K:FgA}{mg:Str->Option Value}{base:Heap}
theorem n8.ok{x qual:Str}{st:Stmt}{f:Addr}{fd:FuncData}{N ps:List Str}{k:Nat}{sp:Sp}(F:n8 K x qual st f fd)(S:jJ N ps (aY st))(len:∀vs H Q E,sp vs H Q E->vs.length=ps.length)(hbody:∀(cdv:Value) (A:Around) (outer:List Env) (s:Shared) (H:Hp) (vs:List V) (Q:VK) (E:XK),aV k (A.deeper (envOfC qual (aY st) s.heap.objs.size f cdv))->sp vs H Q E ->
  ∃t,fL (kE fU P w K mg base N qual (aY st) f cdv A outer s H E).nox (fV st) t/\t { nx:=λ_ H'=>Q .non H',rt:=Q } (start N vs) H):bR P w K mg base fU (k+1) f fd ps sp:=by
 obtain⟨oc,od,kV,doc,pm,an,cdv,ct,osl,rfl,lk,hcd⟩:=F.ex;refine Ao lk hcd S len λA outer s H vs Q E hr hsp=>?_;obtain⟨t,h,q⟩:=hbody cdv A outer s H vs Q E hr hsp;exact⟨t,h.nox,q⟩
theorem n8.binds{x qual:Str}{st:Stmt}{f:Addr}{fd:FuncData}{ps:List Str}(F:n8 K x qual st f fd)(h:∀(kV doc pm:Value) (an:Option Addr) (cdv ct:Value) (us:List Value),us.length=ps.length->bindArgs (PySem.W.fnOf x qual (mF st) (fV st) (aY st) .none kV doc pm an cdv ct) ⟨us,[]⟩=pure (ps.zip us)):Binds K fd ps []:=by obtain⟨oc,od,kV,doc,pm,an,cdv,ct,osl,rfl,lk,hcd⟩:=F.ex;exact .all (h kV doc pm an cdv ct)
theorem RJ{x qual:Str}{st:Stmt}{f:Addr}{oc:Value}{od an:Option Addr}{osl:Array (Option Value)}{kV doc pm cdv ct:Value}(l:K.lookup f=some ⟨oc,od,.func (PySem.W.fnOf x qual (mF st) (fV st) (aY st) .none kV doc pm an cdv ct),osl⟩)(c:PySem.W.codeIn K cdv qual=true)(k:PySem.W.keepIn K (.ref f)=true):n8 K x qual st f (PySem.W.fnOf x qual (mF st) (fV st) (aY st) .none kV doc pm an cdv ct):=⟨⟨oc,od,kV,doc,pm,an,cdv,ct,osl,rfl,l,c⟩,k⟩
end
def Same(H H':Hp):Prop:=∀b o,H b=some o->H' b=some o
def Same.refl(H:Hp):Same H H:=λ_ _ h=>h
end L2
end
section
namespace MX
open PySem PySem.Spec PyProof.Rows L2
abbrev NK:=List (List Int)
def Ed(k:NK):Int:=reduceHash (Builtin.Tuple.tupleHashOf (k.map λks=>reduceHash (Builtin.Tuple.tupleHashOf (ks.map hashInt))))
def QH(x:NK×Addr×Value):DictEntry:=⟨Ed x.1,.ref x.2.1,x.2.2⟩
def Q0(h:Heap)(d:Addr)(xs:List (NK×Addr×Value)):Prop:=∃o es,h.get? d=some o/\o.ExactDict/\o.data = .dict es xs.length/\es.toList=xs.map QH/\(xs.map (·.1)).Nodup
def QJ(a:Addr)(xs:List (NK×Addr×Value)):HO := .ext λh=>(a==sysModules)=false/\xs.length<=sizeLine/\Q0 h a xs
def tG(K:FgA)(H:Hp)(k:NK)(b:Addr):Prop:=∃bs:List Addr,dF K H b (bs.map V.ref)/\Paired (fun(ks:List Int) (c:Addr)=>dF K H c (ks.map V.int)) k bs
theorem tG.mono{K:FgA}{H H':Hp}{k:NK}{b:Addr}(t:∀a vs,dF K H a vs->dF K H' a vs)(h:tG K H k b):tG K H' k b:=by
 obtain⟨bs,h1,h2⟩:=h;refine⟨bs,t _ _ h1,?_⟩;clear h1
 induction h2 with
 |nil=>exact .nil
 |cons hc _ ih=>exact .cons (t _ _ hc) ih
inductive DR(K:FgA)(H:Hp):List (NK×Int)->List (NK×Addr×Value)->Prop
 |nil:DR K H [] []
 |cons {k:NK} {i:Int} {b:Addr} {t:Tok} {xs:List (NK×Int)} {ys:List (NK×Addr×Value)}:tG K H k b->DR K H xs ys->DR K H ((k,i)::xs) ((k,b,.int i t)::ys)
section
variable {K:FgA}{H H':Hp}{xs:List (NK×Int)}{ys:List (NK×Addr×Value)}
theorem DR.mono(t:∀a vs,dF K H a vs->dF K H' a vs)(h:DR K H xs ys):DR K H' xs ys:=by
 induction h with
 |nil=>exact .nil
 |cons hc _ ih=>exact .cons (hc.mono t) ih
end
section
variable {X:Cx}{pz:List (Addr×Obj)}{Z:L2.St}{H:Hp}{s:Shared}
theorem zlM(I:Inv X pz Z H s){b:Addr}{xs:List V}(h:dF X.K H b xs):∃o items n,s.heap.get? b=some o/\o.cls = .type "tuple" /\ o.data = .seq items n/\Vals xs items.toList:=by
 rcases h with h|⟨o,its,n,h1,h2,h3,_,h5⟩
 .obtain⟨_,its,r,o,h1,h2,n,h3⟩:=(show bJ X.prog X.w H s.heap b (.tup xs) from h.ok I.hok)
  exact⟨o,its.toArray,n,h1,h2,h3,by simpa using r⟩
 .exact⟨o,its,n,I.kIn _ _ h1,h2,h3,h5⟩
end
section
variable {prog:Program}{w:World}{A:Around}{E:Value->Shared->Prop}
theorem Ry{it l:Addr}{us:Array Value}(ne:l≠it):∀(n i:Nat) (t:Shared) (Q:List Value->Shared->Prop),t.heap.IsListIter it l i->t.heap.IsList l us->i+n<=us.size ->
 (∀h',h'.IsListIter it l (i+n)->Heap.SameBut it t.heap h'->Q ((us.toList.drop i).take n) { t with heap:=h' })->wpAny (model prog w) A (draw (.ref it) n) Q E t
 |0,i,t,Q,g,_,_,q=>by show wpAny _ _ (pure []) Q E t;exact bN (by simpa using q t.heap g (Heap.SameBut.refl ..))
 |n+1,i,t,Q,g,gl,le,q=>by
  have lt:i<us.size:=by omega
  show wpAny _ _ (pyNext (.ref it) >>= _) Q E t;refine aC (wpAny_pyNext_list_item g gl (x:=us[i]) (by simp[lt]) λk₁ g₁ s₁=>?_);have gl₁:k₁.IsList l us:=let ⟨o,e,r⟩:=gl;⟨o,s₁.extBut _ _ ne e,r⟩;refine aC (wpAny_holding (Ry ne n (i+1) _ _ g₁ gl₁ (by omega) λk₂ g₂ s₂=>bN ?_));have e:us.toList.drop i=us[i]::us.toList.drop (i+1):=by simp[List.drop_eq_getElem_cons,lt]
  have z:=q k₂ (by rw[show i+(n+1)=i+1+n by omega];exact g₂) (s₁.trans s₂);rw[e,List.take_succ_cons] at z;exact z
theorem zlB{l:Addr}{us:Array Value}{t:Shared}{Q:List Value->Shared->Prop}(hh:A.handled=none)(gl:t.heap.IsList l us)(q:∀h',Heap.ExtBut t.heap.objs.size t.heap h'->Q us.toList { t with heap:=h' }):wpAny (model prog w) A (unpackItems (.ref l) us.size none) Q E t:=by
 have ne:l≠t.heap.objs.size:=by obtain⟨o,e,_⟩:=gl;exact cW (b7 e)
 have gp:∀o,(t.heap.push o).IsList l us:=λo=>let ⟨u,e,r⟩:=gl;⟨u,cN _ e,r⟩;unfold unpackItems notIterableAtAll;refine aC (aC (wpAny_specialOf gl.typeIs slot_list_iter.lookup (bN ?_)));simp only[Bool.false_eq_true,if_false];refine aC (wpAny_holding (wpAny_pyIter_list gl (aC (wpAny_holding (Ry ne us.size 0 _ _ ⟨_,gq _ rfl,rfl,rfl⟩ (gp _) (by omega) λk₁ g₁ s₁=>?_)))));rw[show List.take us.size (List.drop 0 us.toList)=us.toList by rw[List.drop_zero];exact List.take_of_length_le (by simp),if_neg (by simp)];have gl₁:k₁.IsList l us:=let ⟨o,e,r⟩:=gp _;⟨o,s₁.extBut _ _ ne e,r⟩;refine aC (wpAny_holding (wpAny_pyNext_list_end hh g₁ gl₁ (by simp) λk₂ e₂=>?_));simp only[Option.isSome_none,Bool.false_eq_true,if_false];exact bN (q k₂ λc o hc e=>e₂ c o hc (s₁.extBut c o hc (cN _ e)))
end
def Eg(K:FgA)(n:Nat)(t:qx):TG:=λv Z H Q=>∃a xs,v = .ref a/\cU K H a xs/\xs.length=n/\t xs Z H Q
theorem zoz{X:Cx}{pos:Pos}{es:List Expr}{k:Nat}{t:qx}{n:Nat}(hc:X.calm=true)(h:zX X es t)(hn:(assignEach es X.env).length=n)(hst:(assignEach es X.env).findIdx? (·.1)=none):PG X (.Tuple es k pos) (Eg X.K n t):=by
 intro pz s Z H v u Q I r hw;obtain⟨a,xs,rfl,hq,hl,hw⟩:=hw;cases r;obtain⟨its,rv,ht,hz⟩:=I.list hq;rw[arm_assign_Tuple];refine aC (wpAny_standAt ?_);unfold unpack;have el:(assignEach es X.env).length=its.toArray.size:=by simp[hn,<-hl,rv.length]
 rw[el,hst];refine aC (wpAny_holding (zlB (I.ok.hd hc) ht.isList λh' hx=>?_));have I1:Inv X pz Z H { s with heap:=h' }:=I.kept (t':=s.toks) λb o e=>hx b o (cW (b7 e)) e;exact h pz _ Z H xs _ Q I1 (by simpa using rv) hw
theorem PG.or{X:Cx}{e:Expr}{t t':TG}(h:PG X e t)(h':PG X e t'):PG X e (λv Z H Q=>t v Z H Q\/t' v Z H Q):=λpz s Z H v u Q I r q=>by
 rcases q with q|q
 .exact h pz s Z H v u Q I r q
 .exact h' pz s Z H v u Q I r q
inductive D where
 |non|bl (b:Bool)|int (i:Int)|str (x:Str)|tup (xs:List D)|ref (n:Nat)
 |ty (n:String)|adr (a:Addr)
 |obj (C:Str) (ks:List Str) (xs:List D)
inductive O where
 |lst (xs:List D)
 |frz (xs:List D)
 |ins (C:Str) (fs:List (Str×D))
 |dct (xs:List (NK×Int))
 |tbl (x:Str)
abbrev Sg:=List (Option D)
abbrev So:=List O
mutual
inductive Rep(K:FgA)(H:Hp)(α:List Addr):D->V->Prop
 |non:Rep K H α .non .non
 |bl (b:Bool):Rep K H α (.bl b) (.bl b)
 |int (i:Int):Rep K H α (.int i) (.int i)
 |str (x:Str):Rep K H α (.str x) (.str x)
 |tup {a:Addr} {ds:List D} {vs:List V}:dF K H a vs->aA K H α ds vs->Rep K H α (.tup ds) (.ref a)
 |ref {n:Nat} {a:Addr}:α[n]?=some a->Rep K H α (.ref n) (.ref a)
 |ty (n:String):Rep K H α (.ty n) (.ty n)
 |adr (a:Addr):Rep K H α (.adr a) (.ref a)
 |obj {a:Addr} {C:Str} {dx:Addr} {gs:List (Str×V)} {ks:List Str} {ds:List D} {vs:List V}:H a=some (.ins (cj K C) dx gs)->3<=gs.length->gs.map (·.1)=ks->gs.map (·.2)=vs->aA K H α ds vs->Rep K H α (.obj C ks ds) (.ref a)
inductive aA(K:FgA)(H:Hp)(α:List Addr):List D->List V->Prop
 |nil:aA K H α [] []
 |cons {d:D} {v:V} {ds:List D} {vs:List V}:Rep K H α d v->aA K H α ds vs->aA K H α (d::ds) (v::vs)
end
structure Ext(K:FgA)(H:Hp)(α:List Addr)(H':Hp)(α':List Addr):Prop where
 tups:∀a vs,dF K H a vs->dF K H' a vs
 pre:∀(n:Nat) a,α[n]?=some a->α'[n]?=some a
 insts:∀a c dx gs,3<=gs.length->H a=some (.ins c dx gs)->H' a=some (.ins c dx gs)
section
variable {K:FgA}{H H' Fb:Hp}{α α' α'':List Addr}
def Ext.refl:Ext K H α H α:=⟨λ_ _ h=>h,λ_ _ h=>h,λ_ _ _ _ _ h=>h⟩
def Ext.trans(a:Ext K H α H' α')(b:Ext K H' α' Fb α''):Ext K H α Fb α'':=⟨λc vs h=>b.tups c vs (a.tups c vs h),λn c h=>b.pre n c (a.pre n c h),λx c d g l h=>b.insts x c d g l (a.insts x c d g l h)⟩
mutual
theorem Rep.mono(e:Ext K H α H' α'):∀{d:D} {v:V},Rep K H α d v->Rep K H' α' d v
 |_,_,.non => .non
 |_,_,.bl b => .bl b
 |_,_,.int i => .int i
 |_,_,.str x => .str x
 |_,_,.tup h r => .tup (e.tups _ _ h) (aA.mono e r)
 |_,_,.ref h => .ref (e.pre _ _ h)
 |_,_,.ty n => .ty n
 |_,_,.adr a => .adr a
 |_,_,.obj h l k v r => .obj (e.insts _ _ _ _ l h) l k v (aA.mono e r)
theorem aA.mono(e:Ext K H α H' α'):∀{ds:List D} {vs:List V},aA K H α ds vs->aA K H' α' ds vs
 |_,_,.nil => .nil
 |_,_,.cons h r => .cons (Rep.mono e h) (aA.mono e r)
end
def aA.length:∀{ds:List D} {vs:List V},aA K H α ds vs->ds.length=vs.length
 |_,_,.nil=>rfl
 |_,_,.cons _ r=>by simp[aA.length r]
theorem aA.get:∀{ds:List D} {vs:List V} {i:Nat} {d:D},aA K H α ds vs->ds[i]?=some d->∃v,vs[i]?=some v/\Rep K H α d v
 |_,_,_,_,.nil,e=>by simp at e
 |_,_,0,_,.cons h _,e=>by simp at e;subst e;exact⟨_,rfl,h⟩
 |_,_,i+1,_,.cons _ r,e=>by obtain⟨v,h1,h2⟩:=aA.get (i:=i) r (by simpa using e);exact⟨v,by simpa using h1,h2⟩
theorem aA.getV:∀{ds:List D} {vs:List V} {i:Nat} {v:V},aA K H α ds vs->vs[i]?=some v->∃d,ds[i]?=some d/\Rep K H α d v
 |_,_,_,_,.nil,e=>by simp at e
 |_,_,0,_,.cons h _,e=>by simp at e;subst e;exact⟨_,rfl,h⟩
 |_,_,i+1,_,.cons _ r,e=>by obtain⟨v,h1,h2⟩:=aA.getV (i:=i) r (by simpa using e);exact⟨v,by simpa using h1,h2⟩
def aA.append:∀{ds es:List D} {vs ws:List V},aA K H α ds vs->aA K H α es ws->aA K H α (ds++es) (vs++ws)
 |_,_,_,_,.nil,s=>s
 |_,_,_,_,.cons h r,s => .cons h (aA.append r s)
theorem aA.take:∀{ds:List D} {vs:List V} (n:Nat),aA K H α ds vs->aA K H α (ds.take n) (vs.take n)
 |_,_,0,_=>by simp;exact .nil
 |_,_,_+1,.nil => .nil
 |_,_,n+1,.cons h r => .cons h (aA.take n r)
theorem aA.drop:∀{ds:List D} {vs:List V} (n:Nat),aA K H α ds vs->aA K H α (ds.drop n) (vs.drop n)
 |_,_,0,r=>by simpa using r
 |_,_,_+1,.nil => .nil
 |_,_,n+1,.cons h r=>by simpa using aA.drop n r
theorem aA.reverse{ds:List D}{vs:List V}(r:aA K H α ds vs):aA K H α ds.reverse vs.reverse:=by
 induction ds generalizing vs with
 |nil=>cases r;exact .nil
 |cons d ds ih =>
  cases r with
  |cons h r =>
   rw[List.reverse_cons,List.reverse_cons];exact(ih r).append (.cons h .nil)
theorem Same.tups(s:Same H H'):∀a vs,dF K H a vs->dF K H' a vs:=λa vs h=>by
 rcases h with(h|⟨o,h⟩)|h
 .exact .inl (.inl (s _ _ h))
 .exact .inl (.inr ⟨o,s _ _ h⟩)
 .exact .inr h
def Same.ext(s:Same H H'):Ext K H α H' α:=⟨Same.tups s,λ_ _ h=>h,λ_ _ _ _ _ h=>s _ _ h⟩
def lM{p:Addr}{o:HO}(h:H p=none):Same H (upd H p o):=λb u e=>by rw[bQ (fH e h)];exact e
def qz(K:FgA)(H:Hp)(a:Addr)(xs:List V):Prop :=
 (∃o,H a=some (.frz o (.lst xs))) \/
  ∃(o:Obj) (its:Array Value) (n:Nat),K.lookup a=some o/\o.cls = .type "list" /\ o.dict=none/\o.data = .seq its n/\its.size<=sizeLine/\Vals xs its.toList
def qz.sq{a:Addr}{xs:List V}(h:qz K H a xs):cU K H a xs:=by
 rcases h with h|h
 .exact .inl (.inr h)
 .exact .inr h
def qz.same{a:Addr}{xs:List V}(s:Same H H')(h:qz K H a xs):qz K H' a xs:=by
 rcases h with⟨o,h⟩|h
 .exact .inl ⟨o,s _ _ h⟩
 .exact .inr h
def O.own:O->Bool
 |.frz _=>false
 |_=>true
noncomputable def fY(K:FgA)(H:Hp)(α:List Addr)(a:Addr):O->Prop
 |.lst ds=>∃vs,H a=some (.lst vs)/\aA K H α ds vs
 |.frz ds=>∃vs,qz K H a vs/\aA K H α ds vs
 |.ins C fs=>∃dx gs,H a=some (.ins (cj K C) dx gs)/\fs.map (·.1)=gs.map (·.1)/\aA K H α (fs.map (·.2)) (gs.map (·.2))
 |.dct xs=>∃ys,H a=some (QJ a ys)/\DR K H xs ys
 |.tbl x=>a=gY K x/\∃ps,H a=some (.tbl ps)
structure aq(K:FgA)(H:Hp)(α:List Addr)(S:So):Prop where
 len:α.length=S.length
 nd:∀(n m:Nat) o o' a,S[n]?=some o->S[m]?=some o'->O.own o=true->O.own o'=true->α[n]?=some a->α[m]?=some a->n=m
 obj:∀(n:Nat) o a,S[n]?=some o->α[n]?=some a->fY K H α a o
def bA(K:FgA)(H:Hp)(α:List Addr)(σd:Sg)(Z:L2.St):Prop :=
 σd.length=Z.length/\∀(i:Nat) d,σd[i]?=some (some d)->∃v,Z[i]?=some (some v)/\Rep K H α d v
def bA.mono{σd:Sg}{Z:L2.St}(e:Ext K H α H' α')(h:bA K H α σd Z):bA K H' α' σd Z :=
 ⟨h.1,λi d q=>let ⟨v,h1,h2⟩:=h.2 i d q;⟨v,h1,h2.mono e⟩⟩
theorem bA.set{σd:Sg}{Z:L2.St}{d:D}{v:V}(h:bA K H α σd Z)(r:Rep K H α d v)(i:Nat):bA K H α (σd.set i (some d)) (Z.set i (some v)):=by
 refine⟨by simpa using h.1,λj e q=>?_⟩;by_cases hj:j=i
 .subst hj;by_cases hlt:j<σd.length
  .rw[List.getElem?_set_self hlt] at q;cases q;exact⟨v,by rw[List.getElem?_set_self (by rw[<-h.1];exact hlt)],r⟩
  .rw[kh (by simpa using hlt)] at q;cases q
 .rw[List.getElem?_set_ne (Ne.symm hj)] at q;obtain⟨u,h1,h2⟩:=h.2 j e q;exact⟨u,by rw[List.getElem?_set_ne (Ne.symm hj)];exact h1,h2⟩
theorem fY.mono{a:Addr}{o:O}(s:Same H H')(e:Ext K H α H' α')(h:fY K H α a o):fY K H' α' a o:=by
 cases o with
 |lst ds=>obtain⟨vs,h1,h2⟩:=h;exact⟨vs,s _ _ h1,h2.mono e⟩
 |frz ds=>obtain⟨vs,h1,h2⟩:=h;exact⟨vs,qz.same s h1,h2.mono e⟩
 |ins C fs=>obtain⟨dx,gs,h1,h2,h3⟩:=h;exact⟨dx,gs,s _ _ h1,h2,h3.mono e⟩
 |dct xs=>obtain⟨ys,h1,h2⟩:=h;exact⟨ys,s _ _ h1,h2.mono e.tups⟩
 |tbl x=>obtain⟨h0,ps,h1⟩:=h;exact⟨h0,ps,s _ _ h1⟩
def aq.mono{S:So}(s:Same H H')(h:aq K H α S):aq K H' α S :=
 ⟨h.len,h.nd,λn o a h1 h2=>(h.obj n o a h1 h2).mono s (Same.ext s)⟩
theorem fY.some{a:Addr}{o:O}(h:fY K H α a o)(w:O.own o=true):∃u,H a=some u:=by
 cases o with
 |lst ds=>obtain⟨vs,h1,_⟩:=h;exact⟨_,h1⟩
 |frz ds=>cases w
 |ins C fs=>obtain⟨dx,gs,h1,_⟩:=h;exact⟨_,h1⟩
 |dct xs=>obtain⟨ys,h1,_⟩:=h;exact⟨_,h1⟩
 |tbl x=>obtain⟨_,ps,h1⟩:=h;exact⟨_,h1⟩
theorem getElem?pM{α:Type}{l:List α}{x y:α}{n:Nat}(h:(l++[x])[n]?=some y):l[n]?=some y\/(n=l.length/\y=x):=by
 by_cases hn:n<l.length
 .rw[lW hn] at h;exact .inl h
 .rw[Ac (by omega)] at h;by_cases h0:n - l.length=0
  .rw[h0] at h;simp at h;exact .inr ⟨by omega,h.symm⟩
  .rw[kh (by simp;omega)] at h;cases h
theorem aq.snoc{S:So}{p:Addr}{o:O}{u:HO}(h:aq K H α S)(hp:H p=none)(ho:∀α',Ext K H α (upd H p u) α'->fY K (upd H p u) α' p o):
 aq K (upd H p u) (α++[p]) (S++[o])/\Ext K H α (upd H p u) (α++[p]):=by
 have s:Same H (upd H p u):=lM hp;have e:Ext K H α (upd H p u) (α++[p]):=⟨Same.tups s,λn a q=>by rw[lW (fj.mp q).1];exact q,λ_ _ _ _ _ h=>s _ _ h⟩
 have old:∀{n:Nat} {o':O} {a:Addr},S[n]?=some o'->(α++[p])[n]?=some a->α[n]?=some a:=λ{n o' a} h1 h2=>by
  have hn:n<α.length:=by rw[h.len];exact(fj.mp h1).1
  rw[lW hn] at h2;exact h2
 have o9:(α++[p])[S.length]?=some p:=by rw[<-h.len];simp
 have apart:∀{n:Nat} {o':O},S[n]?=some o'->O.own o'=true->¬(α++[p])[n]?=some p:=λ{n o'} h1 w h2=>by obtain⟨u,z⟩:=(h.obj n o' p h1 (old h1 h2)).some w;rw[hp] at z;cases z
 refine⟨⟨by simp[h.len],λn m o1 o2 a h1 h2 w1 w2 a1 a2=>?_,λn o' a h1 h2=>?_⟩,e⟩
 .rcases getElem?pM h1 with q1|⟨e1,e2⟩<;>rcases getElem?pM h2 with q2|⟨e3,e4⟩
  .exact h.nd n m o1 o2 a q1 q2 w1 w2 (old q1 a1) (old q2 a2)
  .rw[e3,o9] at a2;cases a2;exact absurd a1 (apart q1 w1)
  .rw[e1,o9] at a1;cases a1;exact absurd a2 (apart q2 w2)
  .rw[e1,e3]
 .rcases getElem?pM h1 with h1|⟨rfl,rfl⟩
  .exact(h.obj n o' a h1 (old h1 h2)).mono s e
  .rw[o9] at h2;cases h2;exact ho _ e
theorem aq.put'{S:So}{n:Nat}{a:Addr}{o₀ o:O}{u₀ u:HO}(h:aq K H α S)(hn:S[n]?=some o₀)(w₀:O.own o₀=true)(w:O.own o=true)(ha:α[n]?=some a)(hv:H a=some u₀)(nt:∀ws,HO.tup ws≠u₀)(nf:∀ob x,HO.frz ob x≠u₀)(ni:∀c dx gs,3<=gs.length->HO.ins c dx gs≠u₀)(ho:Ext K H α (upd H a u) α->fY K (upd H a u) α a o):aq K (upd H a u) α (S.set n o)/\Ext K H α (upd H a u) α:=by
 have e:Ext K H α (upd H a u) α:=⟨λb ws q=>by
  rcases q with(q|⟨o,q⟩)|q
  .exact .inl (.inl (by rw[bQ (Ge q hv (nt _))];exact q))
  .exact .inl (.inr ⟨o,by rw[bQ (Ge q hv (nf _ _))];exact q⟩)
  .exact .inr q,λ_ _ q=>q,λb c dx gs l q=>by rw[bQ (Ge q hv (ni _ _ _ l))];exact q⟩
 have hlt:n<S.length:=(fj.mp hn).1;have at':∀{m:Nat} {o':O},(S.set n o)[m]?=some o'->(m=n/\o'=o)\/(m≠n/\S[m]?=some o'):=λ{m o'} h1=>by
  by_cases hm:m=n
  .subst hm;rw[List.getElem?_set_self hlt] at h1;exact .inl ⟨rfl,(Option.some.inj h1).symm⟩
  .rw[List.getElem?_set_ne (Ne.symm hm)] at h1;exact .inr ⟨hm,h1⟩
 refine⟨⟨by simpa using h.len,λm k o1 o2 b h1 h2 w1 w2 b1 b2=>?_,λm o' b h1 h2=>?_⟩,e⟩
 .rcases at' h1 with⟨e1,e2⟩|⟨n1,q1⟩<;>rcases at' h2 with⟨e3,e4⟩|⟨n2,q2⟩
  .rw[e1,e3]
  .rw[e1] at b1 ⊢;exact h.nd _ _ o₀ o2 b hn q2 w₀ w2 b1 b2
  .rw[e3] at b2 ⊢;exact h.nd _ _ o1 o₀ b q1 hn w1 w₀ b1 b2
  .exact h.nd _ _ o1 o2 b q1 q2 w1 w2 b1 b2
 .rcases at' h1 with⟨rfl,rfl⟩|⟨hm,h1⟩
  .rw[ha] at h2;cases h2;exact ho e
  .have q:=h.obj m o' b h1 h2;have hba:O.own o'=true->b≠a:=λw' z=>hm (by subst z;exact h.nd m n o' o₀ b h1 hn w' w₀ h2 ha);cases o' with
   |lst ds=>obtain⟨ws,q1,q2⟩:=q;exact⟨ws,by rw[bQ (hba rfl)];exact q1,q2.mono e⟩
   |frz ds =>
    obtain⟨ws,q1,q2⟩:=q;refine⟨ws,?_,q2.mono e⟩;rcases q1 with⟨ob,q1⟩|q1
    .exact .inl ⟨ob,by rw[bQ (Ge q1 hv (nf _ _))];exact q1⟩
    .exact .inr q1
   |ins C fs=>obtain⟨dx,gs,q1,q2,q3⟩:=q;exact⟨dx,gs,by rw[bQ (hba rfl)];exact q1,q2,q3.mono e⟩
   |dct xs=>obtain⟨ys,q1,q2⟩:=q;exact⟨ys,by rw[bQ (hba rfl)];exact q1,q2.mono e.tups⟩
   |tbl x=>obtain⟨q0,ps,q1⟩:=q;exact⟨q0,ps,by rw[bQ (hba rfl)];exact q1⟩
theorem aq.put{S:So}{n:Nat}{a:Addr}{o₀ o:O}{u₀ u:HO}(h:aq K H α S)(hn:S[n]?=some o₀)(w₀:O.own o₀=true)(w:O.own o=true)(ha:α[n]?=some a)(hv:H a=some u₀)(hu:(∃vs,u₀ = .lst vs)\/∃f,u₀ = .ext f)(ho:Ext K H α (upd H a u) α->fY K (upd H a u) α a o):aq K (upd H a u) α (S.set n o)/\Ext K H α (upd H a u) α :=
 h.put' hn w₀ w ha hv (λws z=>by rcases hu with⟨vs,e⟩|⟨f,e⟩<;>(rw[e] at z;cases z)) (λob x z=>by rcases hu with⟨vs,e⟩|⟨f,e⟩<;>(rw[e] at z;cases z)) (λc dx gs _ z=>by rcases hu with⟨vs,e⟩|⟨f,e⟩<;>(rw[e] at z;cases z)) ho
end
mutual
def D.lo(n:Nat):D->Bool
 |.tup xs=>cL n xs
 |.obj _ _ xs=>cL n xs
 |.ref m=>decide (m<n)
 |_=>true
def cL(n:Nat):List D->Bool
 |[]=>true
 |d::ds=>D.lo n d&&cL n ds
end
def O.lo(n:Nat):O->Bool
 |.lst xs=>cL n xs
 |.frz xs=>cL n xs
 |.ins _ fs=>cL n (fs.map (·.2))
 |.dct _=>true
 |.tbl _=>true
section
variable {K:FgA}{H:Hp}{α β:List Addr}
mutual
theorem Rep.lo:∀{d:D} {v:V},Rep K H α d v->D.lo α.length d=true
 |_,_,.non=>by simp[D.lo]
 |_,_,.bl _=>by simp[D.lo]
 |_,_,.int _=>by simp[D.lo]
 |_,_,.str _=>by simp[D.lo]
 |_,_,.tup _ r=>by rw[D.lo];exact aA.lo r
 |_,_,.ref h=>by rw[D.lo];exact decide_eq_true (fj.mp h).1
 |_,_,.ty _=>by simp[D.lo]
 |_,_,.adr _=>by simp[D.lo]
 |_,_,.obj _ _ _ _ r=>by rw[D.lo];exact aA.lo r
theorem aA.lo:∀{ds:List D} {vs:List V},aA K H α ds vs->cL α.length ds=true
 |_,_,.nil=>by simp[cL]
 |_,_,.cons h r=>by rw[cL,Rep.lo h,aA.lo r];rfl
end
mutual
theorem Rep.cut(n:Nat):∀{d:D} {v:V},Rep K H α d v->D.lo n d=true->Rep K H (α.take n) d v
 |_,_,.non,_ => .non
 |_,_,.bl b,_ => .bl b
 |_,_,.int i,_ => .int i
 |_,_,.str x,_ => .str x
 |_,_,.tup h r,b => .tup h (aA.cut n r (by rw[D.lo] at b;exact b))
 |_,_,.ref h,b => .ref (by
  rw[D.lo] at b;rw[List.getElem?_take_of_lt (of_decide_eq_true b)];exact h)
 |_,_,.ty n,_ => .ty n
 |_,_,.adr a,_ => .adr a
 |_,_,.obj h l k v r,b => .obj h l k v (aA.cut n r (by rw[D.lo] at b;exact b))
theorem aA.cut(n:Nat):∀{ds:List D} {vs:List V},aA K H α ds vs->cL n ds=true->aA K H (α.take n) ds vs
 |_,_,.nil,_ => .nil
 |_,_,.cons h r,b=>by rw[cL,cG] at b;exact .cons (Rep.cut n h b.1) (aA.cut n r b.2)
end
theorem fY.lo{a:Addr}{o:O}(h:fY K H α a o):O.lo α.length o=true:=by
 cases o with
 |lst ds=>obtain⟨_,_,r⟩:=h;exact r.lo
 |frz ds=>obtain⟨_,_,r⟩:=h;exact r.lo
 |ins C fs=>obtain⟨_,_,_,_,r⟩:=h;exact r.lo
 |dct xs=>rfl
 |tbl x=>rfl
theorem fY.cut{a:Addr}{o:O}(n:Nat)(h:fY K H α a o)(b:O.lo n o=true):fY K H (α.take n) a o:=by
 cases o with
 |lst ds=>obtain⟨vs,h1,r⟩:=h;exact⟨vs,h1,r.cut n b⟩
 |frz ds=>obtain⟨vs,h1,r⟩:=h;exact⟨vs,h1,r.cut n b⟩
 |ins C fs=>obtain⟨dx,gs,h1,h2,r⟩:=h;exact⟨dx,gs,h1,h2,r.cut n b⟩
 |dct xs=>exact h
 |tbl x=>exact h
def WF(S:So):Prop:=∀o∈S,O.lo S.length o=true
theorem aq.wf{S:So}(h:aq K H α S):WF S:=λo ho=>by
 obtain⟨n,hn,e⟩:=List.mem_iff_getElem.mp ho;have hn':n<α.length:=by rw[h.len];exact hn
 have:=(h.obj n o α[n] (by rw[fj];exact⟨hn,e⟩) (by simp)).lo;rw[h.len] at this;exact this
theorem aq.cut{S:So}(h:aq K H α S)(n:Nat)(b:∀o∈S.take n,O.lo n o=true):aq K H (α.take n) (S.take n):=by
 have lt:∀{m:Nat} {o:O},(S.take n)[m]?=some o->m<n:=λ{m o} h1=>by have:=(fj.mp h1).1;simp at this;omega
 refine⟨by simp[h.len],λm k o1 o2 a h1 h2 w1 w2 a1 a2=>?_,λm o a h1 h2=>?_⟩
 .have l1:=lt h1;have l2:=lt h2;rw[List.getElem?_take_of_lt l1] at h1 a1;rw[List.getElem?_take_of_lt l2] at h2 a2;exact h.nd m k o1 o2 a h1 h2 w1 w2 a1 a2
 have hm:m<n:=by have:=(fj.mp h1).1;simp at this;omega
 have b1:=b o (List.mem_of_getElem? h1);rw[List.getElem?_take_of_lt hm] at h1 h2;exact(h.obj m o a h1 h2).cut n b1
end
def kD(k:NK):D := .tup (k.map λks => .tup (ks.map .int))
section
variable {K:FgA}{H:Hp}{α:List Addr}
def Vq:∀l:List Int,aA K H α (l.map .int) (l.map V.int)
 |[] => .nil
 |i::l => .cons (.int i) (Vq l)
end
end MX
end
section
namespace MX
open PySem PySem.Spec PyProof.Rows L2
open Builtin.Int (intBits)
abbrev EF:=Sg->So->Option (D×So)
def Kt(K:FgA)(H:Hp)(α:List Addr)(z:D)(S':So)(Q:VK):Prop :=
 ∀w H' α',aq K H' α' S'->Ext K H α H' α'->Rep K H' α' z w->Q w H'
def wY(K:FgA)(f:EF):TE:=λZ H Q=>∃σd S α z S',bA K H α σd Z/\aq K H α S/\f σd S=some (z,S')/\Kt K H α z S' Q
def SE(X:Cx)(e:Expr)(f:EF):Prop:=PE X e (wY X.K f)
def PE.imp{X:Cx}{e:Expr}{t t':TE}(h:PE X e t)(k:∀Z H Q,t' Z H Q->t Z H Q):PE X e t':=λpz s Z H Q I q=>h pz s Z H Q I (k Z H Q q)
abbrev G2:=D->D->So->Option (D×So)
abbrev GN:=List D->So->Option (D×So)
def mj(K:FgA)(g:G2):R2:=λv u H Q=>∃S α x y z S',aq K H α S/\Rep K H α x v/\Rep K H α y u/\g x y S=some (z,S')/\Kt K H α z S' Q
def jC(K:FgA)(g:GN):List V->Hp->VK->Prop:=λvs H Q=>∃S α ds z S',aq K H α S/\aA K H α ds vs/\g ds S=some (z,S')/\Kt K H α z S' Q
def Kt.same{K:FgA}{H:Hp}{α:List Addr}{z:D}{S:So}{Q:VK}{w:V}(k:Kt K H α z S Q)(s:aq K H α S)(r:Rep K H α z w):Q w H:=k w H α s Ext.refl r
def Kt.new{K:FgA}{H H':Hp}{α:List Addr}{z:D}{S:So}{Q:VK}{w:V}(k:Kt K H α z S Q)(s:aq K H α S)(m:Same H H')(r:Rep K H' α z w):Q w H':=k w H' α (s.mono m) (Same.ext m) r
def Kt.trans{K:FgA}{H H1:Hp}{α α1:List Addr}{z:D}{S':So}{Q:VK}(k:Kt K H α z S' Q)(e:Ext K H α H1 α1):Kt K H1 α1 z S' Q:=λw H' α' s x r=>k w H' α' s (e.trans x) r
def cO(i j:Int):Bool:=decide (intBits i<=64)||decide (intBits j<=64)||decide (intBits i+intBits j<=134217728)
theorem cO.ok{i j:Int}(h:cO i j=true):IntMulOk i j:=by
 unfold cO at h;rw[lV,lV] at h;rcases h with(h|h)|h
 .exact .of_left (of_decide_eq_true h)
 .exact .of_right (of_decide_eq_true h)
 .exact IntMulOk.of_le (bT _) (bT _) (of_decide_eq_true h)
def eX(j:Int):Bool:=decide (j≠0)&&decide (intBits j<=8000)
theorem eX.ok{i j:Int}(h:eX j=true):j≠0/\Builtin.divisionGoesByPylong i j=false:=by
 unfold eX at h;rw[cG] at h;have h1:j≠0:=of_decide_eq_true h.1;have h2:intBits j<=8000:=of_decide_eq_true h.2;refine⟨h1,PyProof.noPylong_of_log2 ?_⟩;have hb:(j==0)=false:=by simpa using h1
 unfold Builtin.Int.intBits at h2;rw[hb] at h2;simp only[Bool.false_eq_true,if_false] at h2;omega
section
variable {X:Cx}
def zoW:dZ X (binaryOp .Mult) (rI (λi j=>cO i j=true) λi j => .int (i*j)):=Dr λ_ _ _ _ _ _ _ hc q=>mul_int q (cO.ok hc)
def zoY:dZ X (binaryOp .FloorDiv) (rI (λ_ j=>eX j=true) λi j => .int (i.fdiv j)):=Dr λ_ _ _ _ _ _ _ hc q=>floordiv_int (eX.ok (i:=0) hc).1 q (.inl (eX.ok hc).2)
end
noncomputable def pH:G2
 |.int i,.int j,S=>some (.int (i+j),S)
 |.str a,.str b,S=>if a.length+b.length<=sizeLine then some (.str (a++b),S) else none
 |.tup xs,.tup ys,S=>if xs≠[]/\xs.length+ys.length<=sizeLine then some (.tup (xs++ys),S) else none
 |.ref n,.ref m,S=>match S[n]?,S[m]? with
  |some (.lst xs),some (.lst ys)=>if xs.length+ys.length<=sizeLine then some (.ref S.length,S++[.lst (xs++ys)]) else none
  |_,_=>none
 |_,_,_=>none
noncomputable def xQ:G2
 |.int i,.int j,S=>some (.int (i - j),S)
 |_,_,_=>none
noncomputable def sJ:G2
 |.int i,.int j,S=>if cO i j=true then some (.int (i*j),S) else none
 |_,_,_=>none
noncomputable def sU:G2
 |.int i,.int j,S=>if eX j=true then some (.int (i.fdiv j),S) else none
 |_,_,_=>none
noncomputable def sO:G2
 |.int i,.int j,S=>if j≠0 then some (.int (i.fmod j),S) else none
 |_,_,_=>none
noncomputable def sI:G2
 |.int i,.int j,S=>if 0<=j/\j<=1000000/\i.natAbs<2 ^ 64 then some (.int (i*2 ^ j.toNat),S) else none
 |_,_,_=>none
noncomputable def xU:G2
 |.int i,.int j,S=>if 0<=j/\j<=1000000/\i.natAbs<2 ^ 64 then some (.int (i ^ j.toNat),S) else none
 |_,_,_=>none
noncomputable def aN:Operator->G2
 |.Add=>pH
 |.Sub=>xQ
 |.Mult=>sJ
 |.FloorDiv=>sU
 |.Mod=>sO
 |.LShift=>sI
 |.Pow=>xU
 |_=>λ_ _ _=>none
section
variable {X:Cx}
theorem zoU:dZ X (binaryOp .Add) (mj X.K pH):=by
 intro pz s Z H v u vv uu Q I rv ru h;obtain⟨S,α,x,y,z,S',hs,rx,ry,hg,k⟩:=h;unfold pH at hg;split at hg
 .cases hg;cases rx;cases ry;exact ZC pz s Z H _ _ _ _ Q I rv ru ⟨_,_,rfl,rfl,k.same hs (.int _)⟩
 .split at hg
  .rename_i hl;cases hg;cases rx;cases ry;exact zi2 pz s Z H _ _ _ _ Q I rv ru ⟨_,_,rfl,rfl,hl,k.same hs (.str _)⟩
  .cases hg
 .split at hg
  .rename_i hl;cases hg;cases rx with
   |tup h1 r1 =>
    cases ry with
    |tup h2 r2 =>
     refine zoZ pz s Z H _ _ _ _ Q I rv ru ⟨_,_,_,_,rfl,rfl,h1,h2,?_,?_,?_,?_⟩
     .intro e;subst e;cases r1;exact hl.1 rfl
     .rw[<-r1.length,<-r2.length];exact hl.2
     .intro e;subst e;cases r2;exact k.same hs (.tup h1 (by rw[List.append_nil];exact r1))
     .intro _ p hp;exact k.new hs (lM hp) (.tup (dF.of dI) ((r1.append r2).mono (Same.ext (lM hp))))
  .cases hg
 .split at hg
  .rename_i n m xs ys e1 e2;split at hg
   .rename_i hl;cases hg;cases rx with
    |ref a1 =>
     cases ry with
     |ref a2 =>
      obtain⟨vs,h1,r1⟩:=hs.obj _ _ _ e1 a1;obtain⟨ws,h2,r2⟩:=hs.obj _ _ _ e2 a2;refine ZD pz s Z H _ _ _ _ Q I rv ru ⟨_,_,_,_,rfl,rfl,h1,h2,by rw[<-r1.length,<-r2.length];exact hl,λp hp=>?_⟩;obtain⟨s',e'⟩:=hs.snoc (p:=p) (o := .lst (xs++ys)) (u := .lst (vs++ws)) hp λα' e=>⟨_,dI,(r1.append r2).mono e⟩
      exact k _ _ _ s' e' (.ref (by rw[<-hs.len];simp))
   .cases hg
  .cases hg
 .cases hg
theorem zoJ:dZ X (binaryOp .Sub) (mj X.K xQ):=by
 intro pz s Z H v u vv uu Q I rv ru h;obtain⟨S,α,x,y,z,S',hs,rx,ry,hg,k⟩:=h;unfold xQ at hg;split at hg
 .cases hg;cases rx;cases ry;exact ZK pz s Z H _ _ _ _ Q I rv ru ⟨_,_,rfl,rfl,k.same hs (.int _)⟩
 .cases hg
theorem zoO:dZ X (binaryOp .Mult) (mj X.K sJ):=by
 intro pz s Z H v u vv uu Q I rv ru h;obtain⟨S,α,x,y,z,S',hs,rx,ry,hg,k⟩:=h;unfold sJ at hg;split at hg
 .split at hg
  .rename_i hc;cases hg;cases rx;cases ry;exact zoW pz s Z H _ _ _ _ Q I rv ru ⟨_,_,rfl,rfl,hc,k.same hs (.int _)⟩
  .cases hg
 .cases hg
theorem zoS:dZ X (binaryOp .FloorDiv) (mj X.K sU):=by
 intro pz s Z H v u vv uu Q I rv ru h;obtain⟨S,α,x,y,z,S',hs,rx,ry,hg,k⟩:=h;unfold sU at hg;split at hg
 .split at hg
  .rename_i hc;cases hg;cases rx;cases ry;exact zoY pz s Z H _ _ _ _ Q I rv ru ⟨_,_,rfl,rfl,hc,k.same hs (.int _)⟩
  .cases hg
 .cases hg
theorem zoP:dZ X (binaryOp .Mod) (mj X.K sO):=by
 intro pz s Z H v u vv uu Q I rv ru h;obtain⟨S,α,x,y,z,S',hs,rx,ry,hg,k⟩:=h;unfold sO at hg;split at hg
 .split at hg
  .rename_i hc;cases hg;cases rx;cases ry;exact zoX pz s Z H _ _ _ _ Q I rv ru ⟨_,_,rfl,rfl,hc,k.same hs (.int _)⟩
  .cases hg
 .cases hg
theorem zoK:dZ X (binaryOp .LShift) (mj X.K sI):=by
 intro pz s Z H v u vv uu Q I rv ru h;obtain⟨S,α,x,y,z,S',hs,rx,ry,hg,k⟩:=h;unfold sI at hg;split at hg
 .split at hg
  .rename_i hc;cases hg;cases rx;cases ry;exact ZJ pz s Z H _ _ _ _ Q I rv ru ⟨_,_,rfl,rfl,hc,k.same hs (.int _)⟩
  .cases hg
 .cases hg
theorem zoL:dZ X (binaryOp .Pow) (mj X.K xU):=by
 intro pz s Z H v u vv uu Q I rv ru h;obtain⟨S,α,x,y,z,S',hs,rx,ry,hg,k⟩:=h;unfold xU at hg;split at hg
 .split at hg
  .rename_i hc;cases hg;cases rx;cases ry;exact ZG pz s Z H _ _ _ _ Q I rv ru ⟨_,_,rfl,rfl,hc,k.same hs (.int _)⟩
  .cases hg
 .cases hg
theorem zoT:∀op:Operator,dZ X (binaryOp op) (mj X.K (aN op)):=by
 intro op;cases op
 case Add=>exact zoU
 case Sub=>exact zoJ
 case Mult=>exact zoO
 case FloorDiv=>exact zoS
 case Mod=>exact zoP
 case LShift=>exact zoK
 case Pow=>exact zoL
 all_goals
  intro pz s Z H v u vv uu Q I rv ru h;obtain⟨S,α,x,y,z,S',hs,rx,ry,hg,k⟩:=h;exact absurd hg (by simp[aN])
end
noncomputable def nu(f:D->Option PyData):List D->Option (List PyData)
 |[]=>some []
 |d::ds=>(f d).bind λp=>(nu f ds).map λps=>p::ps
noncomputable def dU(S:So):Nat->D->Option PyData
 |0,_=>none
 |_+1,.non=>some .none
 |_+1,.bl b=>some (.bool b)
 |_+1,.int i=>some (.int i)
 |_+1,.str x=>some (.str x)
 |n+1,.tup ds=>(nu (dU S n) ds).map .tuple
 |n+1,.ref m=>match S[m]? with
  |some (.lst ds)=>(nu (dU S n) ds).map .list
  |some (.frz ds)=>(nu (dU S n) ds).map .list
  |_=>none
 |_+1,_=>none
theorem Wu{X:Cx}{s:Shared}{H:Hp}{α:List Addr}{f:D->Option PyData}(hf:∀d v u p,Rep X.K H α d v->RelV v u->f d=some p->∃as,Reads s.heap u p as):
 ∀ds vs us ps,aA X.K H α ds vs->Vals vs us->nu f ds=some ps->∃as,ReadsAll s.heap us ps as
 |_,_,_,_,.nil,.nil,e=>by simp[nu] at e;subst e;exact⟨_,.nil⟩
 |_,_,_,_,.cons r rr,.cons rv rvs,e=>by simp only[nu,aU,aR] at e;obtain⟨p,e1,ps,e2,rfl⟩:=e;obtain⟨as,ra⟩:=hf _ _ _ _ r rv e1;obtain⟨bs,rb⟩:=Wu hf _ _ _ _ rr rvs e2;exact⟨_,.cons ra rb⟩
theorem Bt{X:Cx}{pz:List (Addr×Obj)}{s:Shared}{Z:L2.St}{H:Hp}{α:List Addr}{S:So}(I:Inv X pz Z H s)(hs:aq X.K H α S):∀(n:Nat) d v u p,Rep X.K H α d v->RelV v u->dU S n d=some p->∃as,Reads s.heap u p as
 |0,d,v,u,p,_,_,e=>by simp[dU] at e
 |n+1,d,v,u,p,r,rv,e=>by
  have ih:=Wu (X:=X) (s:=s) (Bt I hs n);cases r with
  |non=>cases rv;simp[dU] at e;subst e;exact⟨_,.none⟩
  |bl b=>cases rv;simp[dU] at e;subst e;exact⟨_,.bool b⟩
  |int i=>obtain⟨t,rfl⟩:=rv;simp[dU] at e;subst e;exact⟨_,.int i t⟩
  |str x=>obtain⟨t,rfl⟩:=rv;simp[dU] at e;subst e;exact⟨_,.str x t⟩
  |tup h r =>
   cases rv;simp only[dU,aR] at e;obtain⟨ps,e1,rfl⟩:=e;obtain⟨its,r',⟨o,ho,hc,m,hd⟩,_⟩:=I.tuple h;obtain⟨as,ra⟩:=ih _ _ _ _ r r' e1;exact⟨_,.tuple ho hc hd (by simpa using ra)⟩
  |@ref m a h =>
   cases rv;simp only[dU] at e;cases hm:S[m]? with
   |none=>rw[hm] at e;simp at e
   |some o =>
    rw[hm] at e;have hob:=hs.obj _ _ _ hm h;cases o with
    |lst ds =>
     simp only[aR] at e;obtain⟨ps,e1,rfl⟩:=e;obtain⟨vs,h1,r⟩:=hob;obtain⟨its,r',⟨o,m,ho,hc,hdd,hd⟩,_⟩:=I.list (cU.of (K:=X.K) h1);obtain⟨as,ra⟩:=ih _ _ _ _ r r' e1;exact⟨_,.list ho hc hd (by simpa using ra)⟩
    |frz ds =>
     simp only[aR] at e;obtain⟨ps,e1,rfl⟩:=e;obtain⟨vs,h1,r⟩:=hob;obtain⟨its,r',⟨o,m,ho,hc,hdd,hd⟩,_⟩:=I.list h1.sq;obtain⟨as,ra⟩:=ih _ _ _ _ r r' e1;exact⟨_,.list ho hc hd (by simpa using ra)⟩
    |ins C fs=>simp at e
    |dct xs=>simp at e
    |tbl x=>simp at e
  |ty n=>simp[dU] at e
  |adr a=>simp[dU] at e
  |obj _ _ _ _ _=>simp[dU] at e
noncomputable def lQ(S:So)(x y:D):Option Bool:=(dU S 24 x).bind λp=>(dU S 24 y).bind λq=>if SeqAt.shaped p=true/\SeqAt.shaped q=true then some (PyData.eqv p q) else none
def mD:D->Bool
 |.non=>true
 |_=>false
def D.int?:D->Option Int
 |.int i=>some i
 |_=>none
def int?_eq{x:D}{i:Int}(h:x.int?=some i):x = .int i:=by cases x<;>cases h;rfl
def D.bl?:D->Option Bool
 |.bl b=>some b
 |_=>none
def bl?_eq{x:D}{i:Bool}(h:x.bl?=some i):x = .bl i:=by cases x<;>cases h;rfl
def mV(f:Int->Int->Bool):G2:=λx y S=>x.int?.bind λi=>y.int?.map λj=>(.bl (f i j),S)
noncomputable def Iu(f:Bool->Bool):G2:=λx y S=>match x.int?.bind λi=>y.int?.map λj=>decide (i=j) with
 |some b=>some (.bl (f b),S)
 |none=>(lQ S x y).map λb=>(.bl (f b),S)
noncomputable def Ik(f:Bool->Bool):G2:=λx y S=>if mD y=true then some (.bl (f (mD x)),S) else x.bl?.bind λa=>y.bl?.map λb=>(.bl (f (a==b)),S)
noncomputable def bB:CmpOp->G2
 |.Lt=>mV λi j=>decide (i<j)
 |.LtE=>mV λi j=>decide (i<=j)
 |.Gt=>mV λi j=>decide (j<i)
 |.GtE=>mV λi j=>decide (j<=i)
 |.Eq=>Iu λb=>b
 |.NotEq=>Iu λb => !b
 |.Is=>Ik λb=>b
 |.IsNot=>Ik λb => !b
 |_=>λ_ _ _=>none
def Uc{K:FgA}{H:Hp}{α:List Addr}{x:D}{v:V}(r:Rep K H α x v):decide (v = .non)=mD x:=by cases r<;>simp[mD]
section
variable {X:Cx}
def zoQ:dZ X (compareOp .Eq) (nY λi j => .bl (decide (i=j))):=mJ λ_ _ _ _ _ _ _ q=>eq_int (by rw[Bool.beq_eq_decide_eq];exact q)
def zoM:dZ X (compareOp .NotEq) (nY λi j => .bl (!decide (i=j))):=mJ λ_ _ _ _ _ _ _ q=>ne_int (by rw[bne,Bool.beq_eq_decide_eq];exact q)
theorem zoR{pz:List (Addr×Obj)}{s:Shared}{Z:L2.St}{H:Hp}{v u:V}{vv uu:Value}{Q:VK}{S:So}{α:List Addr}{x y:D}{b:Bool}(hu:X.A.units+64<cLine)(I:Inv X pz Z H s)(rv:RelV v vv)(ru:RelV u uu)(hs:aq X.K H α S)(rx:Rep X.K H α x v)(ry:Rep X.K H α y u)(hg:lQ S x y=some b)(k:Q (.bl b) H):wpAny (model X.prog X.w) X.A (compareOp .Eq vv uu) (EP X pz Z Q) X.xe s:=by
 unfold lQ at hg;simp only[aU] at hg;obtain⟨p,e1,q,e2,hg⟩:=hg;split at hg
 .rename_i hc;obtain⟨as,ra⟩:=Bt I hs 24 _ _ _ _ rx rv e1;obtain⟨bs,rb⟩:=Bt I hs 24 _ _ _ _ ry ru e2;cases hg;exact SeqAt.compareEq_shaped ra rb hc.1 hc.2 hu ⟨.bl _,H,I,rfl,k⟩
 .cases hg
theorem zoN{pz:List (Addr×Obj)}{s:Shared}{Z:L2.St}{H:Hp}{v u:V}{vv uu:Value}{Q:VK}{S:So}{α:List Addr}{x y:D}{b:Bool}(hu:X.A.units+64<cLine)(I:Inv X pz Z H s)(rv:RelV v vv)(ru:RelV u uu)(hs:aq X.K H α S)(rx:Rep X.K H α x v)(ry:Rep X.K H α y u)(hg:lQ S x y=some b)(k:Q (.bl (!b)) H):wpAny (model X.prog X.w) X.A (compareOp .NotEq vv uu) (EP X pz Z Q) X.xe s:=by
 unfold lQ at hg;simp only[aU] at hg;obtain⟨p,e1,q,e2,hg⟩:=hg;split at hg
 .rename_i hc;obtain⟨as,ra⟩:=Bt I hs 24 _ _ _ _ rx rv e1;obtain⟨bs,rb⟩:=Bt I hs 24 _ _ _ _ ry ru e2;cases hg;exact SeqAt.compareNe_shaped ra rb hc.1 hc.2 hu ⟨.bl _,H,I,rfl,k⟩
 .cases hg
def zmy{x:D}(h:mD x=true):x = .non:=by cases x<;>first|rfl|cases h
theorem Gx{op:CmpOp}{f:Int->Int->Bool}(h:dZ X (compareOp op) (nY λi j => .bl (f i j))):dZ X (compareOp op) (mj X.K (mV f)):=by
 rintro pz s Z H v u vv uu Q I rv ru ⟨S,α,x,y,z,S',hs,rx,ry,hg,k⟩
 simp only[mV,aU,aR] at hg;obtain⟨i,e1,j,e2,hg⟩:=hg;cases hg;rw[int?_eq e1] at rx;rw[int?_eq e2] at ry;cases rx;cases ry;exact h pz s Z H _ _ _ _ Q I rv ru ⟨_,_,rfl,rfl,k.same hs (.bl _)⟩
theorem Tj{op:CmpOp}{f:Bool->Bool}(h1:dZ X (compareOp op) (nY λi j => .bl (f (decide (i=j)))))(h2:∀{pz:List (Addr×Obj)} {s:Shared} {Z:L2.St} {H:Hp} {v u:V} {vv uu:Value} {Q:VK} {S:So} {α:List Addr} {x y:D} {b:Bool},Inv X pz Z H s->RelV v vv->RelV u uu->aq X.K H α S->Rep X.K H α x v->Rep X.K H α y u->lQ S x y=some b->Q (.bl (f b)) H->wpAny (model X.prog X.w) X.A (compareOp op vv uu) (EP X pz Z Q) X.xe s):dZ X (compareOp op) (mj X.K (Iu f)):=by
 rintro pz s Z H v u vv uu Q I rv ru ⟨S,α,x,y,z,S',hs,rx,ry,hg,k⟩
 unfold Iu at hg;split at hg
 .rename_i b e;simp only[aU,aR] at e;obtain⟨i,e1,j,e2,rfl⟩:=e;cases hg;rw[int?_eq e1] at rx;rw[int?_eq e2] at ry;cases rx;cases ry;exact h1 pz s Z H _ _ _ _ Q I rv ru ⟨_,_,rfl,rfl,k.same hs (.bl _)⟩
 .obtain⟨b,e,hg⟩:=aR.mp hg;cases hg;exact h2 I rv ru hs rx ry e (k.same hs (.bl _))
theorem Tg(hu:X.A.units+64<cLine):∀op:CmpOp,dZ X (compareOp op) (mj X.K (bB op)):=by
 have is:∀{f:Bool->Bool} {x y z:D} {S S':So},Ik f x y S=some (z,S')->S'=S/\((y = .non/\z = .bl (f (mD x)))\/∃a b,x = .bl a/\y = .bl b/\z = .bl (f (a==b))):=λ{f x y z S S'} hg=>by
  unfold Ik at hg;split at hg
  .rename_i h;cases hg;exact⟨rfl,.inl ⟨zmy h,rfl⟩⟩
  .simp only[aU,aR] at hg;obtain⟨a,e1,b,e2,hg⟩:=hg;cases hg;exact⟨rfl,.inr ⟨a,b,bl?_eq e1,bl?_eq e2,rfl⟩⟩
 intro op;cases op with
 |Lt=>exact Gx YW
 |LtE=>exact Gx YT
 |Gt=>exact Gx YS
 |GtE=>exact Gx YQ
 |Eq=>exact Tj (f:=λb=>b) zoQ (zoR hu)
 |NotEq=>exact Tj (f:=λb => !b) zoM (zoN hu)
 |Is =>
  rintro pz s Z H v u vv uu Q I rv ru ⟨S,α,x,y,z,S',hs,rx,ry,hg,k⟩
  obtain⟨rfl,⟨rfl,rfl⟩|⟨a,b,rfl,rfl,rfl⟩⟩:=is (f:=λb=>b) (x:=x) (y:=y) (z:=z) (S:=S) (S':=S') hg
  .cases ry;exact ZF pz s Z H _ _ _ _ Q I rv ru ⟨rfl,by rw[Uc rx];exact k.same hs (.bl _)⟩
  .cases rx;cases ry;cases rv;cases ru;exact is_bool (jk I (k.same hs (.bl _)) rfl)
 |IsNot =>
  rintro pz s Z H v u vv uu Q I rv ru ⟨S,α,x,y,z,S',hs,rx,ry,hg,k⟩
  obtain⟨rfl,⟨rfl,rfl⟩|⟨a,b,rfl,rfl,rfl⟩⟩:=is (f:=λb => !b) (x:=x) (y:=y) (z:=z) (S:=S) (S':=S') hg
  .cases ry;refine zoV pz s Z H _ _ _ _ Q I rv ru ⟨rfl,?_⟩;rw[Uc rx];exact k.same hs (.bl _)
  .cases rx;cases ry;cases rv;cases ru;exact isnot_bool (jk I (k.same hs (.bl _)) rfl)
 |In=>exact λ_ _ _ _ _ _ _ _ _ _ _ _ ⟨_,_,_,_,_,_,_,_,_,hg,_⟩=>nomatch hg
 |NotIn=>exact λ_ _ _ _ _ _ _ _ _ _ _ _ ⟨_,_,_,_,_,_,_,_,_,hg,_⟩=>nomatch hg
end
noncomputable def aH:G2
 |.tup xs,.int i,S=>(fX xs i).map λz=>(z,S)
 |.ref n,.int i,S=>match S[n]? with
  |some (.lst xs)=>(fX xs i).map λz=>(z,S)
  |some (.frz xs)=>(fX xs i).map λz=>(z,S)
  |_=>none
 |.str z,.int i,S=>if z.length<=sizeLine then(fX z.cps.toList i).map λc=>(.str ⟨#[c]⟩,S) else none
 |_,_,_=>none
theorem KN{K:FgA}{H:Hp}{α:List Addr}{ds:List D}{vs:List V}{i:Int}{z:D}(r:aA K H α ds vs)(h:fX ds i=some z):∃w,fX vs i=some w/\Rep K H α z w:=by
 unfold fX at h ⊢;rw[<-r.length];cases e:uV ds.length i with
 |none=>rw[e] at h;simp at h
 |some j =>
  rw[e] at h;exact r.get h
theorem ixs{X:Cx}:Ey X (mj X.K aH):=by
 intro value slice pz s Z H v u vv uu Q I rv ru h hsub;obtain⟨S,α,x,y,z,S',hs,rx,ry,hg,k⟩:=h;unfold aH at hg;split at hg
 .simp only[aR] at hg;obtain⟨b,e,hg⟩:=hg;cases hg;cases ry;cases rx with
  |tup h r =>
   obtain⟨w,e',fJ⟩:=KN r e;exact Zi value slice pz s Z H _ _ _ _ Q I rv ru ⟨_,_,_,_,rfl,rfl,h,e',k.same hs fJ⟩ hsub
 .cases ry;cases rx with
  |ref h =>
   rename_i n i a;cases hm:S[n]? with
   |none=>rw[hm] at hg;simp at hg
   |some o =>
    rw[hm] at hg;have hob:=hs.obj _ _ _ hm h;cases o with
    |lst ds =>
     simp only[aR] at hg;obtain⟨b,e,hg⟩:=hg;cases hg;obtain⟨vs,h1,r⟩:=hob;obtain⟨w,e',fJ⟩:=KN r e;exact Kr value slice pz s Z H _ _ _ _ Q I rv ru ⟨_,_,_,_,rfl,rfl,cU.of h1,e',k.same hs fJ⟩ hsub
    |frz ds =>
     simp only[aR] at hg;obtain⟨b,e,hg⟩:=hg;cases hg;obtain⟨vs,h1,r⟩:=hob;obtain⟨w,e',fJ⟩:=KN r e;exact Kr value slice pz s Z H _ _ _ _ Q I rv ru ⟨_,_,_,_,rfl,rfl,h1.sq,e',k.same hs fJ⟩ hsub
    |ins C fs=>simp at hg
    |dct xs=>simp at hg
    |tbl x=>simp at hg
 .split at hg
  .rename_i hl;simp only[aR] at hg;obtain⟨b,e,hg⟩:=hg;cases hg;cases rx;cases ry;exact Zh value slice pz s Z H _ _ _ _ Q I rv ru ⟨_,_,_,rfl,rfl,hl,e,k.same hs (.str _)⟩ hsub
  .cases hg
 .cases hg
end MX
end
section
namespace MX
open PySem PySem.Spec PyProof.Rows L2
theorem G8(names:List (Str×NameKind)):∀(n:Nat) (acc:List (Str×Addr)),cellsFrom n names acc=cellsFrom n names []++acc:=by
 induction names with
 |nil=>intro n acc;simp[cellsFrom]
 |cons p r ih =>
  intro n acc;obtain⟨x,k⟩:=p;unfold cellsFrom;split
  .rw[ih,ih _ [(x,n)],f9];rfl
  .exact ih n acc
theorem Gp{names:List (Str×NameKind)}:∀{n:Nat} {x:Str} {c:Addr},(x,c)∈cellsFrom n names []->n<=c/\(x,NameKind.cell)∈names:=by
 induction names with
 |nil=>intro n x c h;simp[cellsFrom] at h
 |cons p r ih =>
  intro n x c h;obtain⟨y,k⟩:=p;unfold cellsFrom at h;split at h
  .rename_i hk;rw[G8,lB] at h;rcases h with h|h
   .have:=ih h;exact⟨by omega,cM _ this.2⟩
   .have e:(x,c)=(y,n):=by simpa using h
    cases e;have:k=NameKind.cell:=by simpa using hk
    subst this;exact⟨bT _,fG⟩
  .have:=ih h;exact⟨this.1,cM _ this.2⟩
theorem HX{α:Type}(x:Str):∀(l r:List (Str×α)),(l++r).lookup x=(l.lookup x).or (r.lookup x)
 |[],r=>by simp
 | (k,v)::l,r=>by
   rw[List.cons_append,iZ,iZ];cases x==k with
   |true=>rfl
   |false=>exact HX x l r
theorem Ln{names:List (Str×NameKind)}{n:Nat}{acc:List (Str×Addr)}{x:Str}{c:Addr}(h:(cellsFrom n names acc).lookup x=some c):
 ((cellsFrom n names []).lookup x=some c)\/((cellsFrom n names []).lookup x=none/\acc.lookup x=some c):=by
 rw[G8,HX] at h;cases e:(cellsFrom n names []).lookup x with
 |some d=>rw[e] at h;exact .inl h
 |none=>rw[e] at h;exact .inr ⟨rfl,h⟩
theorem K9{env:Env}(f:Str×NameKind->List (Str×Addr)->Sem (ForInStep (List (Str×Addr))))(hf:∀name kind cs,f (name,kind) cs=if(kind==NameKind.free)=true then(do let a <-cellOf env name;pure (.yield ((name,a)::cs))) else pure (.yield cs)):
 ∀(names:List (Str×NameKind)) (acc:List (Str×Addr)),(∀y∈names,y.2 = .free->∃c,env.cells.lookup y.1=some c)->∃cl,forIn names acc f=pure cl /\
  (∀x c,cl.lookup x=some c->acc.lookup x=some c\/((x,NameKind.free)∈names/\env.cells.lookup x=some c))/\∀x,((x,NameKind.free)∈names\/∃c,acc.lookup x=some c)->∃c,cl.lookup x=some c
 |[],acc,_=>⟨acc,by rw[List.forIn_nil],λx c h => .inl h,λx h=>by
  rcases h with h|h
  .cases h
  .exact h⟩
 | (y,k)::r,acc,h=>by
   by_cases hk:k=NameKind.free
   .subst hk;obtain⟨c,hc⟩:=h (y,.free) fG rfl;obtain⟨cl,e,h1,h2⟩:=K9 f hf r ((y,c)::acc) λz hz=>h z (cM _ hz);refine⟨cl,?_,λx d hx=>?_,λx hx=>h2 x ?_⟩
    .rw[List.forIn_cons,hf];have e1:cellOf env y=pure c:=by unfold cellOf;rw[hc]
     simp only[beq_self_eq_true,if_true,e1,pure_bind];exact e
    .rcases h1 x d hx with q|⟨q1,q2⟩
     .rw[iZ] at q;cases hb:x==y with
      |true =>
       rw[hb] at q;cases q;obtain rfl:x=y:=by simpa using hb
       exact .inr ⟨fG,hc⟩
      |false=>rw[hb] at q;exact .inl q
     .exact .inr ⟨cM _ q1,q2⟩
    .rcases hx with hx|⟨d,hx⟩
     .rcases List.mem_cons.mp hx with q|q
      .cases q;exact .inr ⟨c,by simp⟩
      .exact .inl q
     .cases hb:x==y with
      |true=>exact .inr ⟨c,by rw[iZ,hb]⟩
      |false=>exact .inr ⟨d,by rw[iZ,hb];exact hx⟩
   .have hb:(k==NameKind.free)=false:=by simpa using hk
    obtain⟨cl,e,h1,h2⟩:=K9 f hf r acc λz hz=>h z (cM _ hz);refine⟨cl,?_,λx d hx=>?_,λx hx=>h2 x ?_⟩
    .rw[List.forIn_cons,hf,hb];simp only[Bool.false_eq_true,if_false,pure_bind];exact e
    .rcases h1 x d hx with q|⟨q1,q2⟩
     .exact .inl q
     .exact .inr ⟨cM _ q1,q2⟩
    .rcases hx with hx|hx
     .rcases List.mem_cons.mp hx with q|q
      .cases q;exact absurd rfl hk
      .exact .inl q
     .exact .inr hx
theorem zpM{scope:Scope}{env:Env}(h:∀y∈scope.names,y.2 = .free->∃c,env.cells.lookup y.1=some c):∃cl,closureFor scope env=pure cl /\
 (∀x c,cl.lookup x=some c->(x,NameKind.free)∈scope.names/\env.cells.lookup x=some c)/\∀x,(x,NameKind.free)∈scope.names->∃c,cl.lookup x=some c:=by
 obtain⟨cl,e,h1,h2⟩:=K9 (env:=env) (λx cs=>if(x.2==NameKind.free)=true then(do let a <-cellOf env x.1;pure (.yield ((x.1,a)::cs))) else pure (.yield cs)) (λ_ _ _=>rfl) scope.names [] h;refine⟨cl,?_,λx c q=>?_,λx q=>h2 x (.inl q)⟩
 .unfold closureFor;show(forIn scope.names [] _ >>= λcs=>pure cs)=_;rw[show(forIn scope.names ([]:List (Str×Addr)) _:Sem (List (Str×Addr)))=_ from e];rfl
 .rcases h1 x c q with z|z
  .simp at z
  .exact z
theorem Nt{env:Env}:∀{names:List (Str×NameKind)} {x:Str},
 (names.map fun(n,k)=>if(k==NameKind.free&&env.scope.kind == .function&&env.kindOf n==some .cell) then(n,NameKind.cell) else(n,k)).lookup x =
  (names.lookup x).map λk=>if(k==NameKind.free&&env.scope.kind == .function&&env.kindOf x==some .cell) then NameKind.cell else k
 |[],_=>rfl
 | (n,k)::r,x=>by
   have ih:=@Nt env r x;show List.lookup x ((if(k==NameKind.free&&env.scope.kind == .function&&env.kindOf n==some .cell)=true then(n,NameKind.cell) else(n,k))::_)=_;cases hx:x==n with
   |true =>
    obtain rfl:x=n:=by simpa using hx
    by_cases hc:(k==NameKind.free&&env.scope.kind == .function&&env.kindOf x==some .cell)=true
    .rw[if_pos hc];simp only[iZ,hx,m8,if_pos hc]
    .rw[if_neg hc];simp only[iZ,hx,m8,if_neg hc]
   |false =>
    by_cases hc:(k==NameKind.free&&env.scope.kind == .function&&env.kindOf n==some .cell)=true
    .rw[if_pos hc];simp only[iZ,hx];exact ih
    .rw[if_neg hc];simp only[iZ,hx];exact ih
theorem ziF{M:Model}{A:Around}{E:Value->Shared->Prop}{s:Shared}{scope:Scope}{globals:Addr}{cl:List (Str×Addr)}{qual:Str}{env:Env}{Q:Env->Shared->Prop}(h:Q { scope:=scope,locals:=s.heap.objs.size,globals:=globals,cells:=cellsFrom (s.heap.objs.size+1) scope.names cl,qual:=qual,func:=none,code:=env.code,frame:=env.frame,builtins:=env.builtins }
  { s with heap:=pushCells (s.heap.push { cls := .type "dict",data := .dict #[] }) scope.names }):
 wpAny M A (newFunctionEnv scope globals cl [] qual none .none (some env)) Q E s:=by
 simp only[newFunctionEnv,Option.isSome_some,if_true];refine aC (wpAny_alloc ?_);refine aC (wpAny_layCells _ (λname kind cells=>by cases hkc:kind==NameKind.cell<;>simp[hkc]) _ _ _ _ ?_);rw[show({ s with heap:=s.heap.push { cls := .type "dict",data := .dict #[] } }:Shared).heap.objs.size=s.heap.objs.size+1 from Heap.size_push ..];rw[List.forIn_nil];exact aC (bN (bN h))
structure qX(X:Cx)(scope:Scope)(N':List Str)(src:List (Option Nat)):Prop where
 kind:scope.kind = .function
 uniq:∀y∈scope.names,scope.names.lookup y.1=some y.2
 free:∀y∈scope.names,y.2 = .free->(X.env.kindOf y.1=some .cell\/X.env.kindOf y.1=some .free)
 len:src.length=N'.length
 src:∀(j i:Nat) x,N'[j]?=some x->src[j]?=some (some i)->X.N[i]?=some x/\scope.names.lookup x=some .free
def mq(src:List (Option Nat))(Z:L2.St):L2.St:=src.map λo=>o.bind λi=>(Z[i]?).join
noncomputable def qY(X:Cx)(scope:Scope)(N':List Str)(cl:List (Str×Addr))(s₂:Shared)(H₂:Hp)(fp:List Addr):Cx where
 prog:=X.prog
 w:=X.w
 K:=X.K
 mg:=X.mg
 base:=X.base
 A:=X.A
 N:=N'
 s₀:=s₂
 H₀:=H₂
 env:={ scope:=relabel scope X.env,locals:=s₂.heap.objs.size+1,globals:=X.env.globals,cells:=cellsFrom (s₂.heap.objs.size+1+1) scope.names cl,qual:=X.env.qual,func:=none,code:=X.env.code,frame:=X.env.frame,builtins:=X.env.builtins }
 outer:=X.stack
 stack:=X.stack
 ex:=fp
 fn:=λx=>decide (scope.names.lookup x=some .cell)
 calm:=X.calm
 pn:=[]
 xe:=λ_ _=>False
structure oJ(X:Cx)(scope:Scope)(N':List Str)(Y:Cx):Prop where
 prog:Y.prog=X.prog
 w:Y.w=X.w
 K:Y.K=X.K
 mg:Y.mg=X.mg
 base:Y.base=X.base
 A:Y.A=X.A
 N:Y.N=N'
 sc:Y.env.scope=relabel scope X.env
 calm:Y.calm=X.calm
 fn:∀x,scope.names.lookup x=some .cell->Y.fn x=true
section
variable {X:Cx}{pz:List (Addr×Obj)}{Z:L2.St}{H:Hp}{s:Shared}{scope:Scope}{N':List Str}{src:List (Option Nat)}{cl:List (Str×Addr)}{fp:List Addr}
def zkK:oJ X scope N' (qY X scope N' cl s H fp):=⟨rfl,rfl,rfl,rfl,rfl,rfl,rfl,rfl,rfl,λx h=>decide_eq_true h⟩
theorem zmA(I:Inv X pz Z H s)(hf:∀b∈fp,jO X pz H b)(hfe:∀b∈fp,∃o,s.heap.get? b=some o)(ok:qX X scope N' src)(h1:∀x c,cl.lookup x=some c->(x,NameKind.free)∈scope.names/\X.env.cells.lookup x=some c)(h2:∀x,(x,NameKind.free)∈scope.names->∃c,cl.lookup x=some c){l:Obj}:
 Inv (qY X scope N' cl s H fp) [] (mq src Z) H { s with heap:=pushCells ((s.heap.push l).push { cls := .type "dict",data := .dict #[] }) scope.names }:=by
 have hC:((s.heap.push l).objs.size)=s.heap.objs.size+1:=Heap.size_push ..;have keep:∀b o,s.heap.get? b=some o->(pushCells ((s.heap.push l).push { cls := .type "dict",data := .dict #[] }) scope.names).get? b=some o:=λb o e =>
  pushCells_keeps _ _ b o (cN _ (cN _ e))
 have Qc:=cellsFrom_ok scope.names ((s.heap.push l).push { cls := .type "dict",data := .dict #[] }) (s.heap.objs.size+1+1) [] ⟨λ_ _ hm=>(nomatch hm),List.Pairwise.nil⟩ (by rw[Heap.size_push,hC];exact bT _);rw[Heap.size_push,hC] at Qc;have cells:∀x c,(qY X scope N' cl s H fp).env.cells.lookup x=some c->((cellsFrom (s.heap.objs.size+1+1) scope.names []).lookup x=some c/\s.heap.objs.size+1+1<=c/\(x,NameKind.cell)∈scope.names)\/(X.env.cells.lookup x=some c/\(x,NameKind.free)∈scope.names):=λx c e=>by
  rcases Ln e with z|⟨_,z⟩
  .have:=Gp (gU z);exact .inl ⟨z,this.1,this.2⟩
  .exact .inr ⟨(h1 x c z).2,(h1 x c z).1⟩
 have Ds:∀x c,X.env.cells.lookup x=some c->c<s.heap.objs.size:=λx c e=>by obtain⟨v,q⟩:=I.cell x c e;exact q.lt
 have rel:∀x,(qY X scope N' cl s H fp).env.kindOf x=(scope.names.lookup x).map λk=>if(k==NameKind.free&&X.env.scope.kind == .function&&X.env.kindOf x==some .cell) then NameKind.cell else k:=λx=>Nt
 have xW:∀b∈fp,b<s.heap.objs.size:=λb hb=>by obtain⟨o,e⟩:=hfe b hb;exact b7 e
 have cap:∀x y c,(qY X scope N' cl s H fp).env.cells.lookup x=some c->(qY X scope N' cl s H fp).env.cells.lookup y=some c->x=y:=λx y c ex ey=>by
  rcases cells x c ex with⟨z1,l1,m1⟩|⟨z1,m1⟩<;>rcases cells y c ey with⟨z2,l2,m2⟩|⟨z2,m2⟩
  .exact name_of_addr Qc.apart (gU z1) (gU z2)
  .exact absurd (di (Ds y c z2) (Nat.le_trans (Nat.le_add_right _ 2) l1)) (gw _)
  .exact absurd (di (Ds x c z1) (Nat.le_trans (Nat.le_add_right _ 2) l2)) (gw _)
  .exact I.ok.inj x y c z1 z2
 have Eb:(pushCells ((s.heap.push l).push { cls := .type "dict",data := .dict #[] }) scope.names).Ns (s.heap.objs.size+1) (λ_=>none):=by have q:((s.heap.push l).push { cls := .type "dict",data := .dict #[] }).Ns (s.heap.push l).objs.size (λ_=>none):=Heap.Ns.new (s.heap.push l) (.type "dict");rw[hC] at q;exact q.keeps (pushCells_keeps _ _)
 refine⟨⟨I.ok.mod,ok.kind,I.ok.glob,I.ok.blt,Nat.le_succ _,cap,λx hx=>?_,λx c hx e=>?_,I.ok.hd,I.ok.frames,.inl rfl,λb hb=>?_,I.bs,Nat.le_trans I.ok.bsz I.sz,λb o e hb=>?_,λb hb=>?_,I.stack,I.stkFree⟩,
  rfl,I.bare,Un.kept keep,⟨_,Eb,λi x v e1 e2 e3=>?_⟩,λx c e=>?_,I.hok.fresh (Nat.le_succ _),λx c e=>?_,λp hp=>absurd (show p∈([]:List (Addr×Obj)) from hp) (by simp),I.hok.kept keep,?_⟩
 .-- has
  rw[rel] at hx;have hk:scope.names.lookup x=some .cell\/scope.names.lookup x=some .free:=by
   cases q:scope.names.lookup x with
   |none=>rw[q] at hx;simp at hx
   |some k =>
    rw[q] at hx;simp only[m8,Option.some.injEq] at hx;by_cases hk:k = .free
    .exact .inr (by rw[hk])
    .have hb:(k==NameKind.free)=false:=by simpa using hk
     simp only[hb,Bool.false_and,Bool.false_eq_true,if_false] at hx;rcases hx with hx|hx
     .exact .inl (by rw[hx])
     .exact absurd hx hk
  show ∃c,(cellsFrom (s.heap.objs.size+1+1) scope.names cl).lookup x=some c;rw[G8,HX];rcases hk with hk|hk
  .obtain⟨c,hc⟩:=Option.isSome_iff_exists.mp (PySem.W.cellsFrom_some scope.names (s.heap.objs.size+1+1) [] (.inl hk));exact⟨c,by rw[hc];rfl⟩
  .obtain⟨c,hc⟩:=h2 x (gU hk);cases q:(cellsFrom (s.heap.objs.size+1+1) scope.names []).lookup x with
   |some d=>exact⟨d,rfl⟩
   |none=>exact⟨c,hc⟩
 .-- cab
  have hx':scope.names.lookup x=some .cell:=of_decide_eq_true hx;rcases cells x c e with⟨_,l1,_⟩|⟨_,m1⟩
  .show s.heap.objs.size<=c;omega
  .rw[ok.uniq _ m1] at hx';cases hx'
 .-- exf
  refine⟨?_,λx c e z=>?_⟩
  .exact cW (Nat.lt_succ_of_lt (xW b hb))
  .subst z;rcases cells x c e with⟨_,l1,_⟩|⟨z1,_⟩
   .exact absurd (di (xW c hb) (Nat.le_trans (Nat.le_add_right _ 2) l1)) (gw _)
   .exact(hf c hb).2.2.2.2.1 x c z1 rfl
 .-- noex
  obtain⟨_,_,_,q,_⟩:=hf b hb;rcases q with q|q
  .exact I.ok.noex b o e q
  .exact absurd (di (di (b7 e) I.ok.bsz) q) (gw _)
 .-- exfs
  intro z;obtain⟨_,f1,f2,_⟩:=hf b hb;exact(List.mem_cons.mp (I.stkSub b z)).elim f1 f2
 .-- loc
  have e1':N'[i]?=some x:=e1;obtain⟨j,hj,hv⟩:∃j,src[i]?=some (some j)/\Z[j]?=some (some v):=by
   unfold mq at e2;rw[gR] at e2;cases q:src[i]? with
   |none=>rw[q] at e2;simp at e2
   |some o =>
    rw[q] at e2;cases o with
    |none=>simp at e2
    |some j =>
     refine⟨j,rfl,?_⟩;simp only[m8,bM,Option.some.injEq] at e2;cases q2:Z[j]? with
     |none=>rw[q2] at e2;simp at e2
     |some o2=>rw[q2] at e2;simp at e2;rw[e2]
  obtain⟨hN,hfr⟩:=ok.src i j x e1' hj;have hm:=gU hfr;have hk:=ok.free _ hm rfl;obtain⟨m,hn,hl⟩:=I.loc;obtain⟨u,ru,lk⟩:=hl j x v hN hv (by rcases hk with hk|hk;exact .inr (.inl hk);exact .inr (.inr hk));refine⟨u,ru,.inr ⟨?_,?_⟩⟩
  .rw[rel,hfr];simp only[m8];split
   .exact .inl rfl
   .exact .inr rfl
  .rcases lk with⟨q,_⟩|⟨_,c,hc,hcell⟩
   .rcases hk with hk|hk<;>(rw[q] at hk;cases hk)
   .refine⟨c,?_,hcell.keeps keep⟩;show(cellsFrom (s.heap.objs.size+1+1) scope.names cl).lookup x=some c;rw[G8,HX];have hnone:(cellsFrom (s.heap.objs.size+1+1) scope.names []).lookup x=none:=by
     cases q:(cellsFrom (s.heap.objs.size+1+1) scope.names []).lookup x with
     |none=>rfl
     |some d =>
      have:=ok.uniq _ (Gp (gU q)).2;rw[hfr] at this;cases this
    rw[hnone];obtain⟨c',hc'⟩:=h2 x hm;have:=(h1 x c' hc').2;rw[hc] at this;cases this;exact hc'
 .-- cell
  rcases cells x c e with⟨z1,_,_⟩|⟨z1,_⟩
  .exact⟨none,(Qc.empty x c (gU z1)).1⟩
  .obtain⟨v,q⟩:=I.cell x c z1;exact⟨v,q.keeps keep⟩
 .-- freeC
  rcases cells x c e with⟨_,l1,_⟩|⟨z1,_⟩
  .exact I.hok.fresh (by omega)
  .exact I.freeC x c z1
 .-- len
  show(mq src Z).length=N'.length;unfold mq;rw[cX];exact ok.len
end
theorem zhK{prog:Program}{w:World}{A:Around}{R:Result->Shared->Prop}{s:Shared}{elt target iter:Expr}{ifs:List Expr}{scope:Scope}{pos:Pos}{it acc:Value}{env:Env}(I:Nat->Shared->Prop)(turn:∀n s,I n s->wpAny (model prog w) A (pyNext it) (λr s₁=>match r with
  |none=>R (.ok .next) s₁
  |some v=>wpAny (model prog w) A (letOwnedTupleGo target it v) (λ_ s₀=>wpAny (model prog w) A (assign target env v) (λ_ s₂ =>
   wpAny (model prog w) A (forIn ifs true λc r=>if r=true then do let ok <-isTrue c env (eval c env);pure (ForInStep.yield ok) else pure (ForInStep.yield r)) (λok s₃ =>
    if ok=true then wpAny (model prog w) A (eval elt env) (λx s₄ =>
     wpAny (model prog w) A (call (.builtin "list.append") [acc,x]) (λ_ s₅=>∃m,m<n/\I m s₅) (λ_ _=>False) s₄) (λ_ _=>False) s₃
    else ∃m,m<n/\I m s₃) (λ_ _=>False) s₂) (λ_ _=>False) s₀) (λ_ _=>False) s₁) (λ_ _=>False) s)(n:Nat)(h:I n s):
 codeAny (model prog w) A (.compLoop (.ListComp elt [⟨target,iter,ifs,0⟩] scope pos) 0 it acc env) R s:=by
 refine codeAny_loop rfl I (λn s hI=>?_) n h;show wpAny _ A ((compTurn (.ListComp elt [⟨target,iter,ifs,0⟩] scope pos) 0 it acc env).onRaise (λx=>do noteFrame x env;theTreesLotGoes x)) _ _ s;refine wpAny_noted ?_;rw[compTurn_list];refine aC (wpAny_standAt (aC (iI (turn n s hI) (λr s₁ h₁=>?_) λ_ _ h'=>h'.elim)));cases r with
 |none=>exact bN h₁
 |some v =>
  refine aC (iI h₁ (λ_ s₀ h₀=>?_) λ_ _ h'=>h'.elim);refine aC (iI h₀ (λ_ s₂ h₂=>aC (iI h₂ (λok s₃ h₃=>?_) λ_ _ h'=>h'.elim)) λ_ _ h'=>h'.elim);cases ok with
  |false=>exact bN ⟨rfl,h₃⟩
  |true =>
   exact aC (aC (iI h₃ (λx s₄ h₄=>aC (iI h₄ (λ_ s₅ h₅=>bN (bN ⟨rfl,h₅⟩)) λ_ _ h'=>h'.elim)) λ_ _ h'=>h'.elim))
def yu(X:Cx)(ifs:List Expr)(t:TT):Prop :=
 ∀(pz:List (Addr×Obj)) (s:Shared) (Z:L2.St) (H:Hp) (Q:Bool->Hp->Prop),Inv X pz Z H s->t Z H Q ->
  wpAny (model X.prog X.w) X.A (forIn ifs true λc r=>if r=true then do let ok <-isTrue c X.env (eval c X.env);pure (ForInStep.yield ok) else pure (ForInStep.yield r)) (TP X pz Z Q) X.xe s
def zop{X:Cx}:yu X [] (λ_ H Q=>Q true H):=λ_ _ _ H _ I h=>wpAny_tests_nil ⟨H,I,h⟩
def zoo{X:Cx}{c:Expr}{t:TT}(h:PT X c t):yu X [c] t:=λpz s Z H Q I q=>wpAny_tests_one (h pz s Z H Q I q)
noncomputable def IK(J:It)(g:TG)(tt:TT)(te:TE)(Fin:List V->Hp->Prop)(W:Nat->Nat->List V->L2.St->Hp->Prop):Prop :=
 ∀i m ys τ H,W i m ys τ H->(J.stop i H/\Fin ys H)\/(J.go i H/\ys.length<sizeLine/\∀x H',J.yld i H x H'->g x τ H' λτ2 H2=>tt τ2 H2 λb H3 =>
  if b=true then te τ2 H3 λy H4=>∃m',m'<m/\W (i+1) m' (ys++[y]) τ2 H4 else ∃m',m'<m/\W (i+1) m' ys τ2 H3)
theorem fD.track{P:Program}{w:World}{H:Hp}{h:Heap}{a:Addr}{o:HO}(x:fD P w H h)(hn:H a=none)(new:bJ P w (upd H a o) h a o):fD P w (upd H a o) h:=λb u e=>by
 by_cases hb:b=a
 .subst hb;rw[dI] at e;cases e;exact new
 .rw[bQ hb] at e;exact(x b u e).stay (λc v _ q=>q) (λc q=>by rw[bQ (fH q hn)];exact q) λc xs q=>by rw[bQ (fH q hn)];exact q
theorem Un.track{fs ex:List Addr}{H H':Hp}{h h':Heap}{a:Addr}{o:HO}(u:Un fs ex H H' h h')(hn:H' a=none)(ha:h.get? a=none):Un fs ex H (upd H' a o) h h' where
 keep:=u.keep
 slot:=u.slot
 free:=λb ob q n hx=>by rw[bQ (λz=>by rw[z,ha] at q;cases q)];exact u.free b ob q n hx
 there:=u.there
 tups:=λb xs q=>by rw[bQ (fH (u.tups b xs q) hn)];exact u.tups b xs q
 frzs:=λb ob xs q=>by rw[bQ (fH (u.frzs b ob xs q) hn)];exact u.frzs b ob xs q
 tbls:=λb ps q=>by obtain⟨m,e⟩:=u.tbls b ps q;exact⟨m,by rw[bQ (fH e hn)];exact e⟩
theorem VG{X:Cx}{pz:List (Addr×Obj)}{Z:L2.St}{H:Hp}{s:Shared}{scope:Scope}{N':List Str}{src:List (Option Nat)}{cl:List (Str×Addr)}{fp:List Addr}{elt tg iter:Expr}{ifs:List Expr}{pos:Pos}{J:It}{it:Addr}{tn:Nat->Heap->Prop}{g:TG}{tt:TT}{te:TE}{Fin:List V->Hp->Prop}{W:Nat->Nat->List V->L2.St->Hp->Prop}{RR:Value->Addr->Result->Shared->Prop}{E:Value->Shared->Prop}(hc:X.calm=true)(ok:qX X scope N' src)(I:Inv X pz Z H s)(T:vI X.prog X.w X.K tg J fp it tn)(st:tn 0 s.heap)(hf:∀b∈fp,jO X pz H b)(h1:∀x c,cl.lookup x=some c->(x,NameKind.free)∈scope.names/\X.env.cells.lookup x=some c)(h2:∀x,(x,NameKind.free)∈scope.names->∃c,cl.lookup x=some c)(hY:∀Y,oJ X scope N' Y->PG Y tg g/\yu Y ifs tt/\PE Y elt te)(w0:∃m,W 0 m [] (mq src Z) H)(turn:IK J g tt te Fin W)(hRR:∀ys H' s' oC m,H' s.heap.objs.size=none->LCg.NsObj oC m->Inv X (pz++[(s.heap.objs.size+1,oC)]) Z (upd H' s.heap.objs.size (.lst ys)) s'->Fin ys H'->RR (.ref s.heap.objs.size) (s.heap.objs.size+1) (.ok .next) s'):
 wpAny (model X.prog X.w) X.A (newList []) (λacc s₃=>wpAny (model X.prog X.w) X.A (newFunctionEnv scope X.env.globals cl [] X.env.qual none .none (some X.env)) (λcenv s₄ =>
  codeAny (model X.prog X.w) X.A (.compStart (.ListComp elt [⟨tg,iter,ifs,0⟩] scope pos) 0 (.ref it) acc { cenv with scope:=relabel scope X.env }) (RR acc cenv.locals) s₄) E s₃) E s:=by
 have hfe:∀b∈fp,∃o,s.heap.get? b=some o:=λb hb=>by obtain⟨o,e,_⟩:=T.obj _ _ st b hb;exact⟨o,e⟩
 refine wpAny_newObj_type (ziF ?_);have hC:(s.heap.push { cls := .type "list",dict:=none,data := .seq ([]:List Value).toArray }).objs.size=s.heap.objs.size+1:=Heap.size_push ..;dsimp only;rw[hC];have I0:Inv (qY X scope N' cl s H fp) [] (mq src Z) H { s with heap:=pushCells ((s.heap.push { cls := .type "list",dict:=none,data := .seq ([]:List Value).toArray }).push { cls := .type "dict",data := .dict #[] }) scope.names } :=
  zmA I hf hfe ok h1 h2
 have xr:oJ X scope N' (qY X scope N' cl s H fp):=zkK;obtain⟨hg,ht,he⟩:=hY _ xr;generalize xP:qY X scope N' cl s H fp=Y at I0 xr hg ht he;have eP:Y.prog=X.prog:=xr.prog;have ew:Y.w=X.w:=xr.w;have eA:Y.A=X.A:=xr.A;have eK:Y.K=X.K:=xr.K;have uY:Y.calm=true:=xr.calm.trans hc;have sW:Y.env={ scope:=relabel scope X.env,locals:=s.heap.objs.size+1,globals:=X.env.globals,cells:=cellsFrom (s.heap.objs.size+1+1) scope.names cl,qual:=X.env.qual,func:=none,code:=X.env.code,frame:=X.env.frame,builtins:=X.env.builtins }:=by rw[<-xP];rfl
 have exe:Y.xe=λ_ _=>False:=by rw[<-xP];rfl
 have Iv:Y.fs=frs X.stack:=by rw[<-xP];rfl
 have Yw:Y.ex=fp:=by rw[<-xP];rfl
 have QF:Y.s₀=s:=by rw[<-xP];rfl
 have eH0:Y.H₀=H:=by rw[<-xP];rfl
 have QG:Y.pn=[]:=by rw[<-xP];rfl
 have eL:Y.env.locals=s.heap.objs.size+1:=by rw[sW]
 rw[<-sW];have xW:∀b∈fp,b<s.heap.objs.size:=λb hb=>by obtain⟨o,e⟩:=hfe b hb;exact b7 e
 have hD:∀(τ:L2.St) (H':Hp) (s':Shared) (pn:List (Addr×Obj)),Inv Y pn τ H' s'->∀x c,Y.env.cells.lookup x=some c->c≠s.heap.objs.size:=λτ H' s' pn J' x c e z=>by
  have e':=e;rw[sW] at e';rcases Ln e' with q|⟨_,q⟩
  .have:=(Gp (gU q)).1;rw[z] at this;exact absurd (di (Nat.lt_succ_self _) (Nat.le_trans (Nat.le_succ _) this)) (gw _)
  .obtain⟨v,q'⟩:=I.cell x c (h1 x c q).2;have:=q'.lt;rw[z] at this;exact absurd this (gw _)
 have stat:∀{H':Hp} {pn:List (Addr×Obj)},(∀b∈fp,H' b=none)->(∀p∈pn,p.1=s.heap.objs.size)->∀b∈fp,jO Y pn H' b:=λ{H' pn} hn hp b hb=>by
  refine⟨hn b hb,?_,?_,.inl (by rw[Yw];exact hb),λx c e z=>?_,λp hm z=>?_⟩
  .rw[eL];exact cW (Nat.lt_succ_of_lt (xW b hb))
  .rw[Iv];intro z;exact(List.mem_cons.mp (I.stkSub b z)).elim (hf b hb).2.1 (hf b hb).2.2.1
  .subst z;rw[sW] at e;rcases Ln e with q|⟨_,q⟩
   .have:=(Gp (gU q)).1;exact absurd (di (xW c hb) (Nat.le_trans (Nat.le_add_right _ 2) this)) (gw _)
   .exact(hf c hb).2.2.2.2.1 x c (h1 x c q).2 rfl
  .rw[QG,vq] at hm;have e1:=hp p hm;rw[e1] at z;have:=xW b hb;rw[<-z] at this;exact absurd this (gw _)
 obtain⟨m0,w0⟩:=w0;have loop:∀s₃:Shared,s₃={ s with heap:=pushCells ((s.heap.push { cls := .type "list",dict:=none,data := .seq ([]:List Value).toArray }).push { cls := .type "dict",data := .dict #[] }) scope.names } ->
  codeAny (model X.prog X.w) X.A (.compLoop (.ListComp elt [⟨tg,iter,ifs,0⟩] scope pos) 0 (.ref it) (.ref s.heap.objs.size) Y.env) (RR (.ref s.heap.objs.size) (s.heap.objs.size+1)) s₃:=by
  rintro s₃ rfl
  refine zhK (λn s'=>∃i ys τ H' its k,Inv Y [(s.heap.objs.size,{ cls := .type "list",data := .seq (List.toArray its) k })] τ H' s'/\Vals ys its/\ys.length<=sizeLine/\tn i s'.heap/\(∀b∈fp,H' b=none)/\W i n ys τ H') ?_ m0 ?_
  .rintro n s3 ⟨i,ys,τ,H3,its,k,I3,rv,hlen,st3,Io,w3⟩
   have Yt:=stat Io (pn:=[(s.heap.objs.size,{ cls := .type "list",data := .seq (List.toArray its) k })]) (by simp);rcases turn i n ys τ H3 w3 with⟨stop,fin⟩|⟨go,hlt,step⟩
   .have q:=T.done Y eP ew eK uY i _ s3 τ H3 (λ_ _=>False) I3 Yt st3 stop;rw[eA] at q;refine bK q λr s4 ⟨hr,I4⟩=>?_;subst hr;obtain⟨oD,nD,_⟩:=I4.pin (s.heap.objs.size,{ cls := .type "list",data := .seq (List.toArray its) k }) (by rw[QG];simp);obtain⟨m,hn,_⟩:=I4.loc;rw[eL] at hn;obtain⟨oC,heC,hoC⟩:=LCg.ns_obj hn;have un:=I4.base;rw[Iv,Yw,eH0,QF] at un;have hfresh:s.heap.get? s.heap.objs.size=none:=by
     cases q:s.heap.get? s.heap.objs.size with
     |none=>rfl
     |some o=>exact absurd (b7 q) (gw _)
    have hok:=I4.hok;rw[eP,ew] at hok;have hCn:H3 (s.heap.objs.size+1)=none:=by have:=I4.free;rw[eL] at this;exact this
    have I5:Inv X pz Z (upd H3 s.heap.objs.size (.lst ys)) s4:=by refine I.call' (ch:=fp) (by have:=I4.os;rw[QF] at this;exact this) (Un.track un nD hfresh) (fD.track hok nD ⟨hlen,its,k,rv,oD⟩) I4.bare λb hb=>?_;exact⟨(hf b hb).2.2.2.1,(hf b hb).2.1,(hf b hb).2.2.2.2.1,(hf b hb).2.2.2.2.2⟩
    refine hRR ys H3 s4 oC m nD hoC ?_ fin;refine I5.pins_of λp hp=>?_;rcases lB.mp hp with z|z
    .exact I5.pin p (List.mem_append_right _ z)
    .have e:p=(s.heap.objs.size+1,oC):=by simpa using z
     subst e;have fo:=I.fpOk (b:=s.heap.objs.size+1) (H':=upd H3 s.heap.objs.size (.lst ys)) (Nat.le_succ _) (by rw[bQ (Nat.ne_of_gt (Nat.lt_succ_self _))];exact hCn);obtain⟨es,ep,hd,_⟩:=hoC;exact⟨heC,fo.1,fo.2.1,fo.2.2.1,λv z=>by rw[hd] at z;cases z⟩
   .have q:=T.item Y eP ew eK uY i _ s3 τ H3 (λ_ _=>False) I3 Yt st3 go;rw[eA] at q;refine bK q λr s4 ⟨u,hr,h4⟩=>?_;subst hr;refine bK h4 λ_ s5 ⟨x,H5,I5,r5,y5,wW,QC⟩=>?_;have fo5:=stat QC (pn:=[(s.heap.objs.size,{ cls := .type "list",data := .seq (List.toArray its) k })]) (by simp);have Q5:=I5.pinned fo5 (T.obj _ _ wW);have q:=hg _ s5 τ H5 x u _ Q5 r5 (step x H5 y5);rw[eP,ew,eA,exe] at q;refine bK q λ_ s6 ⟨τ6,H6,I6,q6⟩=>?_;have q:=ht _ s6 τ6 H6 _ I6 q6;rw[eP,ew,eA,exe] at q;refine bK q λb s7 ⟨H7,I7,q7⟩=>?_;have after:∀{τ8:L2.St} {H8:Hp} {s8:Shared},Inv Y ([(s.heap.objs.size,{ cls := .type "list",data := .seq (List.toArray its) k })]++Ak fp s5.heap) τ8 H8 s8 ->
     tn (i+1) s8.heap/\(∀b∈fp,H8 b=none)/\s8.heap.get? s.heap.objs.size=some { cls := .type "list",data := .seq (List.toArray its) k }/\H8 s.heap.objs.size=none:=λ{τ8 H8 s8} I8=>by
     have pi:∀b∈fp,∀o,s5.heap.get? b=some o->s8.heap.get? b=some o/\H8 b=none:=λb hb o e=>by have:=I8.pin (b,o) (List.mem_append_right _ (List.mem_append_right _ (Nb hb e)));exact⟨this.1,this.2.1⟩
     have pd:=I8.pin (s.heap.objs.size,{ cls := .type "list",data := .seq (List.toArray its) k }) (List.mem_append_right _ (List.mem_append_left _ (by simp)));refine⟨T.keep _ _ _ wW λb hb o e=>(pi b hb o e).1,λb hb=>?_,pd.1,pd.2.1⟩;obtain⟨o,e,d⟩:=T.obj _ _ wW b hb;exact(pi b hb o e).2
    cases b with
    |false =>
     rw[if_neg fO];rw[if_neg fO] at q7;obtain⟨m',hm,w7⟩:=q7;obtain⟨a1,a2,_,_⟩:=after I7;exact⟨m',hm,i+1,ys,τ6,H7,its,k,I7.unpinned,rv,hlen,a1,a2,w7⟩
    |true =>
     rw[if_pos rfl];rw[if_pos rfl] at q7;have q:=he _ s7 τ6 H7 _ I7 q7;rw[eP,ew,eA,exe] at q;refine bK q λv s8 ⟨y,H8,I8,r8,m',hm,w8⟩=>?_;obtain⟨a1,a2,aD,nD⟩:=after I8;refine append_at (hsz:=by rw[dw,<-rv.length];exact hlen) aD λh9 Yb e9=>?_;have hne:s.heap.objs.size≠Y.env.locals:=by rw[eL];exact cW (Nat.lt_succ_self _)
     have I8':Inv Y [] τ6 H8 s8:=I8.pins_of λp hp=>absurd hp (by simp);have I9:Inv Y [] τ6 H8 { s8 with heap:=h9 }:=I8'.turned (t':=s8.toks) (λb o hb e=>Yb.extBut b o hb e) nD hne (.inr (by rw[QF];exact bT _)) (λx c e=>hD _ _ _ _ I8 x c e) (by rw[QG];simp);have I10:Inv Y [(s.heap.objs.size,{ cls := .type "list",data := .seq (List.toArray (its++[v])) (k+1) })] τ6 H8 { s8 with heap:=h9 }:=I9.pins_of λp hp=>by
      have e:p=(s.heap.objs.size,{ cls := .type "list",data := .seq (List.toArray (its++[v])) (k+1) }):=by simpa using hp
      subst e;refine⟨by rw[<-List.push_toArray];exact e9,nD,hne,?_,λv z=>by cases z⟩;rw[Iv];intro z;rcases List.mem_cons.mp (I.stkSub _ z) with z|z
      .exact absurd I.lt (by rw[<-z];exact gw _)
      .exact I.nofs (bT _) z
     refine⟨m',hm,i+1,ys++[y],τ6,H8,its++[v],k+1,I10,rv.append (.cons r8 .nil),by rw[jE];exact hlt,?_,a2,w8⟩;exact T.keep _ _ _ a1 λb hb o e=>Yb.extBut b o (cW (xW b hb)) e
  .refine⟨0,[],mq src Z,H,[],0,?_,.nil,Nat.zero_le _,?_,λb hb=>(hf b hb).1,w0⟩
   .refine I0.pins_of λp hp=>?_;have e:p=(s.heap.objs.size,{ cls := .type "list",data := .seq (List.toArray []) 0 }):=by simpa using hp
    subst e;refine⟨pushCells_keeps _ _ _ _ (cN _ (gq _ rfl)),I.hok.fresh (bT _),by rw[eL];exact cW (Nat.lt_succ_self _),?_,λv z=>by cases z⟩;rw[Iv];intro z;rcases List.mem_cons.mp (I.stkSub _ z) with z|z
    .exact absurd I.lt (by rw[<-z];exact gw _)
    .exact I.nofs (bT _) z
   .exact T.keep _ _ _ st λb hb o e=>pushCells_keeps _ _ _ _ (cN _ (cN _ e))
 exact codeAny_compStart_list (loop _ rfl) (T.self _ 0 _ _ _ (T.keep _ _ _ st λb hb o e=>pushCells_keeps _ _ _ _ (cN _ (cN _ e))) (loop _ rfl))
def tLc(wi:TI)(g:TG)(tt:TT)(te:TE)(src:List (Option Nat)):TE:=λZ H Q=>wi Z H λJ H1=>∃W,(∃m,W 0 m [] (mq src Z) H1) /\
 IK J g tt te (λys H'=>∀p,H' p=none->Q (.ref p) (upd H' p (.lst ys))) W
section
variable {X:Cx}{elt tg iter:Expr}{ifs:List Expr}{scope:Scope}{pos:Pos}{N':List Str}{src:List (Option Nat)}{wi:TI}{g:TG}{tt:TT}{te:TE}
def T4(ok:qX X scope N' src){pz:List (Addr×Obj)}{Z:L2.St}{H:Hp}{s:Shared}(I:Inv X pz Z H s):∃cl,closureFor scope X.env=pure cl /\
 (∀x c,cl.lookup x=some c->(x,NameKind.free)∈scope.names/\X.env.cells.lookup x=some c)/\∀x,(x,NameKind.free)∈scope.names->∃c,cl.lookup x=some c :=
 zpM (scope:=scope) (env:=X.env) λy hy e=>I.ok.has y.1 (ok.free y hy e)
theorem Y5(hc:X.calm=true)(ok:qX X scope N' src)(hi:PI X tg iter wi)(hY:∀Y,oJ X scope N' Y->PG Y tg g/\yu Y ifs tt/\PE Y elt te)(hs:∀x,foldedSetIterable iter X.env x=pure x):PE X (.ListComp elt [⟨tg,iter,ifs,0⟩] scope pos) (tLc wi g tt te src):=by intro pz s Z H Q I h;obtain⟨cl,hclos,h1,h2⟩:=T4 ok I;rw[eval_ListComp];refine wpAny_comprehension_free (use:=none) rfl hs hclos ok.kind (λy hy e=>by rw[ok.uniq y hy,e]) ?_;refine bK (hi pz s Z H _ I h) λv s1 q1=>bK q1 λitv s2 q2=>?_;obtain⟨it,fp,tn,J,H2,e,I2,T,st2,f2,W,w0,turn⟩:=q2;subst e;refine VG (RR:=λacc C=>compPost (model X.prog X.w) X.A X.xe none (EP X pz Z Q) acc C) hc ok I2 T st2 f2 h1 h2 hY w0 turn ?_;intro ys H' s' oC m nD hoC I3 fin;obtain⟨heC,nC,uR,nfC,dC⟩:=I3.pin (s2.heap.objs.size+1,oC) (List.mem_append_right _ (List.mem_append_right _ (by simp)));refine⟨m,hoC.ns heC,λh'' sb=>⟨.ref s2.heap.objs.size,_,?_,rfl,fin _ nD⟩⟩;have I4:Inv X pz Z (upd H' s2.heap.objs.size (.lst ys)) s':=I3.unpinned;have fo:=I2.fpOk (b:=s2.heap.objs.size+1) (H':=upd H' s2.heap.objs.size (.lst ys)) (Nat.le_succ _) nC;exact I4.turned (t':=s'.toks) (λb o hb e=>sb.extBut b o hb e) nC fo.2.1 fo.2.2.2.1 fo.2.2.2.2.1 fo.2.2.2.2.2
def Pg(wi:TI)(g:TG)(tt:TT)(te:TE)(src:List (Option Nat))(i:Nat):TS:=λD Z H=>wi Z H λJ H1=>∃W,(∃m,W 0 m [] (mq src Z) H1) /\
 IK J g tt te (λys H'=>∀p,H' p=none->D.nx (Z.set i (some (.ref p))) (upd H' p (.lst ys))) W
theorem zmb{y:Str}{py spos:Pos}{i:Nat}(hN:X.N.Nodup)(Qo:X.N[i]?=some y)(hy:X.env.kindOf y=some .local)(hsw:swapsWith (.ListComp elt [⟨tg,iter,ifs,0⟩] scope pos) (some (.Name y py)) spos.line X.env=pure true)(hc:X.calm=true)(ok:qX X scope N' src)(hi:PI X tg iter wi)(hY:∀Y,oJ X scope N' Y->PG Y tg g/\yu Y ifs tt/\PE Y elt te)(hs:∀x,foldedSetIterable iter X.env x=pure x):PS X (.Assign [.Name y py] (.ListComp elt [⟨tg,iter,ifs,0⟩] scope pos) spos) (Pg wi g tt te src i):=by
 intro pz s Z H D I h;obtain⟨cl,hclos,h1,h2⟩:=T4 ok I;rw[exec_Assign_Name_used _ _ _ _ hsw];refine aC (wpAny_standAt (aC ?_));show wpAny _ _ (do let _ <-comprehension (.ListComp elt [⟨tg,iter,ifs,0⟩] scope pos) scope X.env _ (newList []) false (eval iter X.env) (some (assign (.Name y py) X.env))) _ _ s;refine aC (iI (wpAny_comprehension_free (use:=some (assign (.Name y py) X.env)) (Q:=λ_ s'=>SP X pz D .next s') rfl hs hclos ok.kind (λy hy e=>by rw[ok.uniq y hy,e])
  ?_) (λ_ s' hq=>bN (bN hq)) λ_ _ e=>e)
 refine bK (hi pz s Z H _ I h) λv s1 q1=>bK q1 λitv s2 q2=>?_;obtain⟨it,fp,tn,J,H2,e,I2,T,st2,f2,W,w0,turn⟩:=q2;subst e;refine VG (RR:=λacc C=>compPost (model X.prog X.w) X.A X.xe (some (assign (.Name y py) X.env)) (λ_ s'=>SP X pz D .next s') acc C) hc ok I2 T st2 f2 h1 h2 hY w0 turn ?_;intro ys H' s' oC m nD hoC I3 fin;show wpAny _ _ (assign (.Name y py) X.env (.ref s2.heap.objs.size)) _ _ s';refine wpAny_assign_Name (G6 I3 hN Qo (.inl hy) (v := .ref s2.heap.objs.size) rfl (λs3 I4=>?_) (.inr hy));obtain⟨heC,nC,uR,nfC,dC⟩:=I4.pin (s2.heap.objs.size+1,oC) (List.mem_append_right _ (List.mem_append_right _ (by simp)));refine⟨m,hoC.ns heC,λh'' sb=>⟨_,_,?_,fin _ nD⟩⟩;have I5:Inv X pz _ (upd H' s2.heap.objs.size (.lst ys)) s3:=I4.unpinned;have fo:=I2.fpOk (b:=s2.heap.objs.size+1) (H':=upd H' s2.heap.objs.size (.lst ys)) (Nat.le_succ _) nC;exact I5.turned (t':=s3.toks) (λb o hb e=>sb.extBut b o hb e) nC fo.2.1 fo.2.2.2.1 fo.2.2.2.2.1 fo.2.2.2.2.2
end
abbrev TF:=Sg->So->Option (Bool×So)
abbrev AF:=Sg->So->Option (List D×So)
inductive Fl where
 |nx|bk|ct|rt (d:D)
abbrev SF:=Sg->So->Option (Fl×Sg×So)
abbrev GF:=D->Sg->So->Option (Sg×So)
def Kb(K:FgA)(H:Hp)(α:List Addr)(S':So)(Q:Hp->Prop):Prop:=∀H' α',aq K H' α' S'->Ext K H α H' α'->Q H'
def Dg(K:FgA)(f:TF):TT:=λZ H Q=>∃σd S α b S',bA K H α σd Z/\aq K H α S/\f σd S=some (b,S')/\Kb K H α S' (Q b)
def ST(X:Cx)(e:Expr)(f:TF):Prop:=PT X e (Dg X.K f)
def SW(X:Cx)(e:Expr)(f:TF):Prop:=PW X e (Dg X.K f)
def Yd(K:FgA)(f:AF):TA:=λZ H Q=>∃σd S α ds S',bA K H α σd Z/\aq K H α S/\f σd S=some (ds,S')/\∀vs H' α',aq K H' α' S'->Ext K H α H' α'->aA K H' α' ds vs->Q vs H'
def SA(X:Cx)(es:List Expr)(f:AF):Prop:=PA X es (Yd X.K f)
def Ks(K:FgA)(H:Hp)(α:List Addr)(fl:Fl)(σd':Sg)(S':So)(D:qF):Prop :=
 ∀Z' H' α',bA K H' α' σd' Z'->aq K H' α' S'->Ext K H α H' α'->match fl with
  |.nx=>D.nx Z' H'
  |.bk=>D.bk Z' H'
  |.ct=>D.ct Z' H'
  |.rt d=>∀v,Rep K H' α' d v->D.rt v H'
def Dh(K:FgA)(f:SF):TS:=λD Z H=>∃σd S α fl σd' S',bA K H α σd Z/\aq K H α S/\f σd S=some (fl,σd',S')/\Ks K H α fl σd' S' D
def SS(X:Cx)(st:Stmt)(f:SF):Prop:=PS X st (Dh X.K f)
def vf(X:Cx)(sts:List Stmt)(f:SF):Prop:=fL X sts (Dh X.K f)
def PK(K:FgA)(f:GF):TG:=λv Z H Q=>∃σd S α d σd' S',bA K H α σd Z/\aq K H α S/\Rep K H α d v/\f d σd S=some (σd',S') /\
 ∀Z' H' α',bA K H' α' σd' Z'->aq K H' α' S'->Ext K H α H' α'->Q Z' H'
def SG(X:Cx)(tg:Expr)(f:GF):Prop:=PG X tg (PK X.K f)
def PT.imp{X:Cx}{e:Expr}{t t':TT}(h:PT X e t)(k:∀Z H Q,t' Z H Q->t Z H Q):PT X e t':=λpz s Z H Q I q=>h pz s Z H Q I (k Z H Q q)
def PW.imp{X:Cx}{e:Expr}{t t':TT}(h:PW X e t)(k:∀Z H Q,t' Z H Q->t Z H Q):PW X e t':=λwh pz s Z H Q I q=>h wh pz s Z H Q I (k Z H Q q)
def PA.imp{X:Cx}{e:List Expr}{t t':TA}(h:PA X e t)(k:∀Z H Q,t' Z H Q->t Z H Q):PA X e t':=λpos pz s Z H Q I q=>h pos pz s Z H Q I (k Z H Q q)
def PS.imp{X:Cx}{e:Stmt}{t t':TS}(h:PS X e t)(k:∀D Z H,t' D Z H->t D Z H):PS X e t':=λpz s Z H D I q=>h pz s Z H D I (k D Z H q)
def fL.imp{X:Cx}{e:List Stmt}{t t':TS}(h:fL X e t)(k:∀D Z H,t' D Z H->t D Z H):fL X e t':=λpz s Z H D I q=>h pz s Z H D I (k D Z H q)
def PG.imp{X:Cx}{e:Expr}{t t':TG}(h:PG X e t)(k:∀v Z H Q,t' v Z H Q->t v Z H Q):PG X e t':=λpz s Z H v u Q I r q=>h pz s Z H v u Q I r (k v Z H Q q)
def PI.imp{X:Cx}{tg e:Expr}{t t':TI}(h:PI X tg e t)(k:∀Z H Q,t' Z H Q->t Z H Q):PI X tg e t':=λpz s Z H Q I q=>h pz s Z H Q I (k Z H Q q)
noncomputable def aj(i:Nat):EF:=λZ S=>match Z[i]? with
 |some (some d)=>some (d,S)
 |_=>none
def eC(d:D):EF:=λ_ S=>some (d,S)
abbrev kq(i:Int):EF:=eC (.int i)
def eB(g:G2)(fa fb:EF):EF:=λZ S=>(fa Z S).bind λr=>(fb Z r.2).bind λq=>g r.1 q.1 q.2
def eU(g:D->So->Option (D×So))(fa:EF):EF:=λZ S=>(fa Z S).bind λr=>g r.1 r.2
def au:AF:=λ_ S=>some ([],S)
noncomputable def ak(fa:EF)(fr:AF):AF:=λZ S=>(fa Z S).bind λr=>(fr Z r.2).bind λq=>some (r.1::q.1,q.2)
def eN(g:GN)(fa:AF):EF:=λZ S=>(fa Z S).bind λr=>g r.1 r.2
def u5(t:TF)(fa fb:EF):EF:=λZ S=>(t Z S).bind λr=>if r.1=true then fa Z r.2 else fb Z r.2
def b8:GN:=λds S=>if ds.length<=sizeLine then some (.tup ds,S) else none
def kJ:GN:=λds S=>if ds.length<=sizeLine then some (.ref S.length,S++[.lst ds]) else none
section
variable {X:Cx}{a b:Expr}{fa fb:EF}{pos:Pos}
theorem zqE{i:Nat}{x:Str}(hN:X.N[i]?=some x)(hv:qw X.env.scope x)(hd:(x==("__debug__" : Str))=false)(hcd:(x==("__classdict__" : Str))=false):SE X (.Name x pos) (aj i):=by
 refine PE.imp (yW hN hv hd hcd) λZ H Q h=>?_;obtain⟨σd,S,α,z,S',hv,hs,hf,k⟩:=h;unfold aj at hf;split at hf
 .rename_i d e;cases hf;obtain⟨v,h1,h2⟩:=hv.2 i _ e;exact⟨v,h1,k.same hs h2⟩
 .cases hf
theorem oZ{e:Expr}{d:D}{v:V}(h:PE X e (tC v))(r:∀H α,Rep X.K H α d v):SE X e (eC d):=by refine PE.imp h λZ H Q h=>?_;obtain⟨σd,S,α,z,S',hv,hs,hf,k⟩:=h;cases hf;exact k.same hs (r _ _)
def zqP{i:Int}{j}:SE X (.Constant (.int i) j pos) (eC (.int i)):=oZ RP λ_ _ => .int i
def Y9{i:Bool}{j}:SE X (.Constant (.bool i) j pos) (eC (.bl i)):=oZ JP λ_ _ => .bl i
def zqI{j}:SE X (.Constant .none j pos) (eC .non):=oZ zq7 λ_ _ => .non
def zqG{x:Str}{j}:SE X (.Constant (.str x) j pos) (eC (.str x)):=oZ vX λ_ _ => .str x
theorem Ig{K:FgA}{g:G2}{Z:L2.St}{H:Hp}{Q:VK}(h:wY K (eB g fa fb) Z H Q):wY K fa Z H λx H1=>wY K fb Z H1 λy H2=>mj K g x y H2 Q:=by obtain⟨σd,S,α,z,S',hv,hs,hf,k⟩:=h;unfold eB at hf;simp only[aU] at hf;obtain⟨⟨x,S1⟩,e1,⟨y,S2⟩,e2,e3⟩:=hf;refine⟨σd,S,α,x,S1,hv,hs,e1,λv H1 α1 s1 x1 r1=>⟨σd,S1,α1,y,S2,hv.mono x1,s1,e2,λu H2 α2 s2 x2 r2=>?_⟩⟩;exact⟨S2,α2,x,y,z,S',s2,r1.mono x2,r2,e3,k.trans (x1.trans x2)⟩
def Ze{op:Operator}(ha:SE X a fa)(hb:SE X b fb):SE X (.BinOp a op b pos) (eB (aN op) fa fb) :=
 PE.imp (Y6 (zoT op) ha hb) λ_ _ _ h=>Ig h
def zqR{op:CmpOp}(hu:X.A.units+64<cLine)(h1:op ≠ .In)(h2:op ≠ .NotIn)(ha:SE X a fa)(hb:SE X b fb):SE X (.Compare a [op] [b] pos) (eB (bB op) fa fb) :=
 PE.imp (zoD (Tg hu op) ha hb (Jw b h1 h2)) λ_ _ _ h=>Ig h
def Zb(hp:JC b)(ha:SE X a fa)(hb:SE X b fb):SE X (.Subscript a b pos) (eB aH fa fb) :=
 PE.imp (Rv ixs ha hb hp) λ_ _ _ h=>Ig h
def vB:D->So->Option (D×So)
 |.int i,S=>some (.int (-i),S)
 |_,_=>none
theorem zqJ(ha:SE X a fa):SE X (.UnaryOp .USub a pos) (eU vB fa):=by
 refine PE.imp (Y8 zp0 ha) λZ H Q h=>?_;obtain⟨σd,S,α,z,S',hv,hs,hf,k⟩:=h;unfold eU at hf;simp only[aU] at hf;obtain⟨⟨x,S1⟩,e1,e2⟩:=hf;refine⟨σd,S,α,x,S1,hv,hs,e1,λv H1 α1 s1 x1 r1=>?_⟩;cases r1 with
 |int i=>cases e2;exact⟨_,rfl,(k.trans x1).same s1 (.int _)⟩
 |_=>cases e2
def zqT:SA X [] au:=by refine PA.imp uo λZ H Q h=>?_;obtain⟨σd,S,α,ds,S',hv,hs,hf,k⟩:=h;cases hf;exact k _ _ _ hs Ext.refl .nil
theorem zok{e:Expr}{es:List Expr}{fe:EF}{fr:AF}(ha:SE X e fe)(hr:SA X es fr)(hst:starEach (e::es) X.env=(false,eval e X.env)::starEach es X.env):SA X (e::es) (ak fe fr):=by refine PA.imp (jW ha hr hst) λZ H Q h=>?_;obtain⟨σd,S,α,ds,S',hv,hs,hf,k⟩:=h;unfold ak at hf;simp only[aU] at hf;obtain⟨⟨x,S1⟩,e1,⟨ys,S2⟩,e2,e3⟩:=hf;cases e3;exact⟨σd,S,α,x,S1,hv,hs,e1,λv H1 α1 s1 x1 r1=>⟨σd,S1,α1,ys,_,hv.mono x1,s1,e2,λvs H2 α2 s2 x2 r2=>k _ _ _ s2 (x1.trans x2) (.cons (r1.mono x2) r2)⟩⟩
theorem Di{K:FgA}{g:GN}{fa:AF}{Z:L2.St}{H:Hp}{Q:VK}(h:wY K (eN g fa) Z H Q):Yd K fa Z H λvs H1=>jC K g vs H1 Q:=by obtain⟨σd,S,α,z,S',hv,hs,hf,k⟩:=h;unfold eN at hf;simp only[aU] at hf;obtain⟨⟨ds,S1⟩,e1,e2⟩:=hf;exact⟨σd,S,α,ds,S1,hv,hs,e1,λvs H1 α1 s1 x1 r1=>⟨S1,α1,ds,z,S',s1,r1,e2,k.trans x1⟩⟩
theorem zqF{es:List Expr}{fs:AF}{k0}(h:SA X es fs):SE X (.Tuple es k0 pos) (eN b8 fs):=by
 refine PE.imp (RQ h) λZ H Q q=>?_;obtain⟨σd,S,α,ds,S1,hv,hs,e1,k⟩:=Di q;refine⟨σd,S,α,ds,S1,hv,hs,e1,λvs H1 α1 s1 x1 r1=>?_⟩;obtain⟨S2,α2,ds',z,S3,s2,r2,e2,k2⟩:=k vs H1 α1 s1 x1 r1;unfold b8 at e2;split at e2
 .rename_i hl;cases e2;refine⟨by rw[<-r2.length];exact hl,λp hp=>?_⟩;exact k2.new s2 (lM hp) (.tup (dF.of dI) (r2.mono (Same.ext (lM hp))))
 .cases e2
theorem zqN{es:List Expr}{fs:AF}(h:SA X es fs):SE X (.List es pos) (eN kJ fs):=by
 refine PE.imp (Kl h) λZ H Q q=>?_;obtain⟨σd,S,α,ds,S1,hv,hs,e1,k⟩:=Di q;refine⟨σd,S,α,ds,S1,hv,hs,e1,λvs H1 α1 s1 x1 r1=>?_⟩;obtain⟨S2,α2,ds',z,S3,s2,r2,e2,k2⟩:=k vs H1 α1 s1 x1 r1;unfold kJ at e2;split at e2
 .rename_i hl;cases e2;refine⟨by rw[<-r2.length];exact hl,λp hp=>?_⟩;obtain⟨s',e'⟩:=s2.snoc (p:=p) (o := .lst ds') (u := .lst vs) hp λα' e=>⟨_,dI,r2.mono e⟩
  exact k2 _ _ _ s' e' (.ref (by rw[<-s2.len];simp))
 .cases e2
noncomputable def rM:D->So->Option Bool
 |.non,_=>some false
 |.bl b,_=>some b
 |.int i,_=>some (i != 0)
 |.str x,_=>if x.length<=sizeLine then some ((x.length:Int) != 0) else none
 |.tup xs,_=>some (!xs.isEmpty)
 |.ref n,S=>match S[n]? with
  |some (.lst xs)=>some (!xs.isEmpty)
  |some (.frz xs)=>some (!xs.isEmpty)
  |_=>none
 |_,_=>none
def Oi{K:FgA}{H:Hp}{α:List Addr}{ds:List D}{vs:List V}(r:aA K H α ds vs):(!ds.isEmpty) = !vs.isEmpty:=by cases r<;>rfl
theorem znB{K:FgA}{H:Hp}{α:List Addr}{S:So}{d:D}{v:V}{b:Bool}(hs:aq K H α S)(r:Rep K H α d v)(e:rM d S=some b):yr K v H b:=by
 cases r with
 |non=>cases e;exact rfl
 |bl b=>cases e;exact rfl
 |int i=>cases e;exact rfl
 |str x =>
  have e':(if x.length<=sizeLine then some ((x.length:Int) != 0) else none)=some b:=e;split at e'
  .rename_i hl;cases e';exact⟨hl,rfl⟩
  .cases e'
 |tup h r=>cases e;exact .inr (.inl ⟨_,h,Oi r⟩)
 |@ref n a h =>
  simp only[rM] at e;cases hm:S[n]? with
  |none=>simp[hm] at e
  |some o =>
   simp only[hm] at e;have hob:=hs.obj _ _ _ hm h;cases o with
   |lst xs =>
    cases e;obtain⟨vs,h1,r⟩:=hob;exact .inl ⟨_,cU.of h1,Oi r⟩
   |frz xs =>
    cases e;obtain⟨vs,h1,r⟩:=hob;exact .inl ⟨_,h1.sq,Oi r⟩
   |ins C fs=>cases e
   |dct xs=>cases e
   |tbl x=>cases e
 |ty n=>cases e
 |adr a=>cases e
 |obj _ _ _ _ _=>cases e
noncomputable def jy(fa:EF):TF:=λZ S=>(fa Z S).bind λr=>(rM r.1 r.2).map λb=>(b,r.2)
theorem zqj(ha:SE X a fa)(he:∀whole,isTrue a X.env whole=(do let v <-whole;standAt a.pos;holding [v] (truthy v))):ST X a (jy fa):=by refine PT.imp (zl9 ha he) λZ H Q h=>?_;obtain⟨σd,S,α,b,S',hv,hs,hf,k⟩:=h;unfold jy at hf;simp only[aU,aR] at hf;obtain⟨⟨x,S1⟩,e1,c,e2,e3⟩:=hf;cases e3;exact⟨σd,S,α,x,S1,hv,hs,e1,λv H1 α1 s1 x1 r1=>⟨b,znB s1 r1 e2,k _ _ s1 x1⟩⟩
noncomputable def bZ(fa:EF):TF:=λZ S=>(fa Z S).bind λr=>match r.1 with
 |.bl b=>some (b,r.2)
 |_=>none
theorem zql{op:CmpOp}(hu:X.A.units+64<cLine)(h1:op ≠ .In)(h2:op ≠ .NotIn)(ha:SE X a fa)(hb:SE X b fb):ST X (.Compare a [op] [b] pos) (bZ (eB (bB op) fa fb)):=by
 refine PT.imp (Uq (Tg hu op) ha hb (Jw b h1 h2)) λZ H Q h=>?_;obtain⟨σd,S,α,c,S',hv,hs,hf,k⟩:=h;unfold bZ at hf;simp only[aU] at hf;obtain⟨⟨z,S1⟩,e1,e2⟩:=hf;cases z with
 |bl c' =>
  cases e2;exact Ig ⟨σd,S,α,.bl c,_,hv,hs,e1,λv H1 α1 s1 x1 r1=>by cases r1;exact⟨c,rfl,k _ _ s1 x1⟩⟩
 |_=>cases e2
noncomputable def pY(t:TF):TF:=λZ S=>(t Z S).map λr=>(!r.1,r.2)
theorem zqk{t:TF}(ha:ST X a t):ST X (.UnaryOp .Not a pos) (pY t):=by refine PT.imp (Kc ha) λZ H Q h=>?_;obtain⟨σd,S,α,c,S',hv,hs,hf,k⟩:=h;unfold pY at hf;simp only[aR] at hf;obtain⟨⟨b,S1⟩,e1,e2⟩:=hf;cases e2;exact⟨σd,S,α,b,S1,hv,hs,e1,k⟩
noncomputable def qT(t u:TF):TF:=λZ S=>(t Z S).bind λr=>if r.1=true then u Z r.2 else some (false,r.2)
noncomputable def kW(t u:TF):TF:=λZ S=>(t Z S).bind λr=>if r.1=true then some (true,r.2) else u Z r.2
def znM{t:TF}(ha:ST X a t):SW X (.BoolOp .And [a] pos) t:=zon ha
def zqh{t:TF}(ha:ST X a t):SW X (.BoolOp .Or [a] pos) t:=RX ha
theorem zqi{t u:TF}{rest:List Expr}(ha:ST X a t)(hb:SW X (.BoolOp .And (b::rest) pos) u):SW X (.BoolOp .And (a::b::rest) pos) (qT t u):=by
 refine PW.imp (zqV ha hb) λZ H Q h=>?_;obtain⟨σd,S,α,c,S',hv,hs,hf,k⟩:=h;unfold qT at hf;simp only[aU] at hf;obtain⟨⟨b1,S1⟩,e1,e2⟩:=hf;refine⟨σd,S,α,b1,S1,hv,hs,e1,λH1 α1 s1 x1=>?_⟩;cases b1 with
 |true =>
  rw[if_pos rfl];rw[if_pos rfl] at e2;exact⟨σd,S1,α1,c,S',hv.mono x1,s1,e2,λH2 α2 s2 x2=>k _ _ s2 (x1.trans x2)⟩
 |false =>
  rw[if_neg fO];rw[if_neg fO] at e2;cases e2;exact k _ _ s1 x1
theorem zr7{t u:TF}{rest:List Expr}(ha:ST X a t)(hb:SW X (.BoolOp .Or (b::rest) pos) u):SW X (.BoolOp .Or (a::b::rest) pos) (kW t u):=by
 refine PW.imp (JN ha hb) λZ H Q h=>?_;obtain⟨σd,S,α,c,S',hv,hs,hf,k⟩:=h;unfold kW at hf;simp only[aU] at hf;obtain⟨⟨b1,S1⟩,e1,e2⟩:=hf;refine⟨σd,S,α,b1,S1,hv,hs,e1,λH1 α1 s1 x1=>?_⟩;cases b1 with
 |true =>
  rw[if_pos rfl];rw[if_pos rfl] at e2;cases e2;exact k _ _ s1 x1
 |false =>
  rw[if_neg fO];rw[if_neg fO] at e2;exact⟨σd,S1,α1,c,S',hv.mono x1,s1,e2,λH2 α2 s2 x2=>k _ _ s2 (x1.trans x2)⟩
theorem Za{c:Expr}{t:TF}(hc:ST X c t)(ha:SE X a fa)(hb:SE X b fb):SE X (.IfExp c a b pos) (u5 t fa fb):=by
 refine PE.imp (zmi hc ha hb) λZ H Q h=>?_;obtain⟨σd,S,α,z,S',hv,hs,hf,k⟩:=h;unfold u5 at hf;simp only[aU] at hf;obtain⟨⟨b1,S1⟩,e1,e2⟩:=hf;refine⟨σd,S,α,b1,S1,hv,hs,e1,λH1 α1 s1 x1=>?_⟩;cases b1 with
 |true =>
  rw[if_pos rfl];rw[if_pos rfl] at e2;exact⟨σd,S1,α1,z,S',hv.mono x1,s1,e2,k.trans x1⟩
 |false =>
  rw[if_neg fO];rw[if_neg fO] at e2;exact⟨σd,S1,α1,z,S',hv.mono x1,s1,e2,k.trans x1⟩
noncomputable def mR(fa:EF):EF:=λZ S=>(fa Z S).bind λr=>match r.1 with
 |.bl b=>some (.bl (!b),r.2)
 |_=>none
theorem zqH(ha:SE X a fa):SE X (.UnaryOp .Not a pos) (mR fa):=by
 refine PE.imp (zq6 ha) λZ H Q h=>?_;obtain⟨σd,S,α,z,S',hv,hs,hf,k⟩:=h;unfold mR at hf;simp only[aU] at hf;obtain⟨⟨x,S1⟩,e1,e2⟩:=hf;refine⟨σd,S,α,x,S1,hv,hs,e1,λv H1 α1 s1 x1 r1=>?_⟩;cases r1 with
 |bl c=>cases e2;exact⟨c,rfl,(k.trans x1).same s1 (.bl _)⟩
 |_=>cases e2
noncomputable def pP(fa fb:EF):EF:=λZ S=>(fa Z S).bind λr=>match r.1 with
 |.bl true=>fb Z r.2
 |.bl false=>some (.bl false,r.2)
 |_=>none
noncomputable def zW(fa fb:EF):EF:=λZ S=>(fa Z S).bind λr=>match r.1 with
 |.bl true=>some (.bl true,r.2)
 |.bl false=>fb Z r.2
 |_=>none
def zl7{op}(ha:SE X a fa):SE X (.BoolOp op [a] pos) fa:=zq5 ha
theorem zqS{rest:List Expr}(ha:SE X a fa)(hb:SE X (.BoolOp .And (b::rest) pos) fb):SE X (.BoolOp .And (a::b::rest) pos) (pP fa fb):=by
 refine PE.imp (ZL ha hb) λZ H Q h=>?_;obtain⟨σd,S,α,z,S',hv,hs,hf,k⟩:=h;unfold pP at hf;simp only[aU] at hf;obtain⟨⟨x,S1⟩,e1,e2⟩:=hf;refine⟨σd,S,α,x,S1,hv,hs,e1,λv H1 α1 s1 x1 r1=>?_⟩;cases r1 with
 |bl c =>
  refine⟨c,rfl,?_⟩;cases c with
  |true=>rw[if_pos rfl];exact⟨σd,S1,α1,z,S',hv.mono x1,s1,e2,k.trans x1⟩
  |false=>rw[if_neg fO];cases e2;exact(k.trans x1).same s1 (.bl _)
 |_=>cases e2
theorem Zf{rest:List Expr}(ha:SE X a fa)(hb:SE X (.BoolOp .Or (b::rest) pos) fb):SE X (.BoolOp .Or (a::b::rest) pos) (zW fa fb):=by
 refine PE.imp (Y7 ha hb) λZ H Q h=>?_;obtain⟨σd,S,α,z,S',hv,hs,hf,k⟩:=h;unfold zW at hf;simp only[aU] at hf;obtain⟨⟨x,S1⟩,e1,e2⟩:=hf;refine⟨σd,S,α,x,S1,hv,hs,e1,λv H1 α1 s1 x1 r1=>?_⟩;cases r1 with
 |bl c =>
  refine⟨c,rfl,?_⟩;cases c with
  |false=>rw[if_neg fO];exact⟨σd,S1,α1,z,S',hv.mono x1,s1,e2,k.trans x1⟩
  |true=>rw[if_pos rfl];cases e2;exact(k.trans x1).same s1 (.bl _)
 |_=>cases e2
end
def t8(K:FgA)(n:Nat)(φ:GN):Sp:=λvs H Q _=>vs.length=n/\jC K φ vs H Q
def vh(X:Cx)(x:Str)(n:Nat)(φ:GN):Prop:=∃f fd ps k,X.mg x=some (.ref f)/\PySem.W.keepIn X.K (.ref f)=true/\Binds X.K fd ps [] /\
 bR X.prog X.w X.K X.mg X.base fU k f fd ps (t8 X.K n φ)/\aV k X.A
section
variable {X:Cx}{x:Str}{p pos:Pos}{es:List Expr}{fs:AF}
def aO(n:Nat)(φ:GN):GN:=λds S=>if ds.length=n then φ ds S else none
theorem zoj{e:Expr}{n:Nat}{φ:GN}(hg:Gl X x)(hF:vh X x n φ)(ha:SA X (e::es) fs)(hdb:(x==("__debug__" : Str))=false)(he:starEach (e::es) X.env=(false,eval e X.env)::starEach es X.env)(hpl:(backTo pos (starEach es X.env)).any (·.1)=false):SE X (.Call (.Name x p) (e::es) [] pos) (eN (aO n φ) fs):=by
 obtain⟨f,fd,ps,k,hm,hk,hb,F,hr⟩:=hF;refine PE.imp (Tp F hr hg hm hk hb .nil Fq ha hdb he hpl) λZ H Q h=>?_;obtain⟨σd,S,α,ds,S1,hv,hs,e1,k⟩:=Di h;refine⟨σd,S,α,ds,S1,hv,hs,e1,λvs H1 α1 s1 x1 r1=>?_⟩;obtain⟨S2,α2,ds',z,S3,s2,r2,e2,k2⟩:=k vs H1 α1 s1 x1 r1;unfold aO at e2;split at e2
 .rename_i hl;rw[List.append_nil];exact⟨by rw[<-r2.length];exact hl,S2,α2,ds',z,S3,s2,r2,e2,k2⟩
 .cases e2
theorem zl6{e:Expr}{id:String}{g:GN}(hc:gW X (.builtin id) (jC X.K g))(hg:Gl X x)(hm:X.mg x=none)(hv:bootBuiltins x=some (.builtin id))(ha:SA X (e::es) fs)(hn:x ≠ "__name__")(hdb:(x==("__debug__" : Str))=false)(he:starEach (e::es) X.env=(false,eval e X.env)::starEach es X.env)(hpl:(backTo pos (starEach es X.env)).any (·.1)=false):SE X (.Call (.Name x p) (e::es) [] pos) (eN g fs) :=
 PE.imp (Vj hc hg hm hv ha hn hdb he hpl) λ_ _ _ h=>Di h
theorem zl5{e:Expr}{T:String}{g:GN}(hc:gW X (.type T) (jC X.K g))(hg:Gl X x)(hm:X.mg x=none)(hv:bootBuiltins x=some (.type T))(ha:SA X (e::es) fs)(hn:x ≠ "__name__")(hdb:(x==("__debug__" : Str))=false)(he:starEach (e::es) X.env=(false,eval e X.env)::starEach es X.env)(hpl:(backTo pos (starEach es X.env)).any (·.1)=false):SE X (.Call (.Name x p) (e::es) [] pos) (eN g fs) :=
 PE.imp (zka hc hg hm hv ha hn hdb he hpl) λ_ _ _ h=>Di h
end
def aL(i:Nat):GF:=λd Z S=>some (Z.set i (some d),S)
abbrev n6:=List D->Sg->So->Option (Sg×So)
def nJ:n6:=λds Z S=>match ds with
 |[]=>some (Z,S)
 |_=>none
def gA(f:GF)(fr:n6):n6:=λds Z S=>match ds with
 |d::r=>(f d Z S).bind λq=>fr r q.1 q.2
 |[]=>none
noncomputable def lO(n:Nat)(fr:n6):GF:=λd Z S=>match d with
 |.tup xs=>if xs.length=n then fr xs Z S else none
 |.ref m=>match S[m]? with
  |some (.lst xs)=>if xs.length=n then fr xs Z S else none
  |_=>none
 |_=>none
def PJ(K:FgA)(f:n6):qx:=λvs Z H Q=>∃σd S α ds σd' S',bA K H α σd Z/\aq K H α S/\aA K H α ds vs/\f ds σd S=some (σd',S') /\
 ∀Z' H' α',bA K H' α' σd' Z'->aq K H' α' S'->Ext K H α H' α'->Q Z' H'
def Es(X:Cx)(Cp:List Expr)(f:n6):Prop:=zX X Cp (PJ X.K f)
section
variable {X:Cx}{pos:Pos}
theorem zoc{i:Nat}{x:Str}(hN:X.N.Nodup)(hi:X.N[i]?=some x)(hx:Loc X.env.scope x)(hf:X.fn x=true\/X.env.scope.names.lookup x=some .local):SG X (.Name x pos) (aL i):=by refine PG.imp (zoA hN hi hx hf) λv Z H Q h=>?_;obtain⟨σd,S,α,d,σd',S',hv,hs,r,hf,k⟩:=h;cases hf;exact k _ _ _ (hv.set r i) hs Ext.refl
theorem zob:Es X [] nJ:=by
 refine λpz s Z H vs us Q I r0 h=>zoy pz s Z H vs us Q I r0 ?_;obtain⟨σd,S,α,ds,σd',S',hv,hs,r,hf,k⟩:=h;cases r with
 |nil=>cases hf;exact⟨rfl,k _ _ _ hv hs Ext.refl⟩
 |cons _ _=>cases hf
theorem zl0{e:Expr}{es:List Expr}{f:GF}{fr:n6}(h1:SG X e f)(h2:Es X es fr)(hs:(assignEach (e::es) X.env).map (·.2)=assign e X.env::(assignEach es X.env).map (·.2)):Es X (e::es) (gA f fr):=by
 refine λpz s Z H vs us Q I r0 h=>zmf h1 h2 hs pz s Z H vs us Q I r0 ?_;obtain⟨σd,S,α,ds,σd',S',hv,hs,r,hf,k⟩:=h;cases r with
 |nil=>cases hf
 |cons r rr =>
  unfold gA at hf;simp only[aU] at hf;obtain⟨⟨σ1,S1⟩,e1,e2⟩:=hf;exact⟨_,_,rfl,σd,S,α,_,σ1,S1,hv,hs,r,e1,λZ' H' α' v' s' x'=>⟨σ1,S1,α',_,σd',S',v',s',rr.mono x',e2,λσ2 H2 α2 v2 s2 x2=>k _ _ _ v2 s2 (x'.trans x2)⟩⟩
theorem zqC{es:List Expr}{k0:Nat}{f:n6}{n:Nat}(hc:X.calm=true)(h:Es X es f)(hn:(assignEach es X.env).length=n)(hst:(assignEach es X.env).findIdx? (·.1)=none):SG X (.Tuple es k0 pos) (lO n f):=by
 refine PG.imp (PG.or (zq4 hc h hn hst) (zoz hc h hn hst)) λv Z H Q h=>?_;obtain⟨σd,S,α,d,σd',S',hv,hs,r,hf,k⟩:=h;unfold lO at hf;cases r with
 |tup h r =>
  simp only at hf;split at hf
  .rename_i hl;exact .inl ⟨_,_,rfl,h,by rw[<-r.length];exact hl,σd,S,α,_,σd',S',hv,hs,r,hf,k⟩
  .cases hf
 |ref ha =>
  simp only at hf;split at hf
  .rename_i xs em;split at hf
   .rename_i hl;obtain⟨vs,h1,r⟩:=hs.obj _ _ _ em ha;exact .inr ⟨_,vs,rfl,cU.of h1,by rw[<-r.length];exact hl,σd,S,α,xs,σd',S',hv,hs,r,hf,k⟩
   .cases hf
  .cases hf
 |_=>cases hf
end
def aP:SF:=λZ S=>some (.nx,Z,S)
noncomputable def aB(f g:SF):SF:=λZ S=>(f Z S).bind λr=>match r.1 with
 |.nx=>g r.2.1 r.2.2
 |fl=>some (fl,r.2.1,r.2.2)
noncomputable def bD(fe:EF)(fg:GF):SF:=λZ S=>(fe Z S).bind λr=>(fg r.1 Z r.2).map λq=>(.nx,q.1,q.2)
noncomputable def jH(fe:EF):SF:=λZ S=>(fe Z S).map λr=>(.nx,Z,r.2)
noncomputable def bW(fe:EF):SF:=λZ S=>(fe Z S).map λr=>(.rt r.1,Z,r.2)
def uM:SF:=λZ S=>some (.rt .non,Z,S)
def CW:SF:=λZ S=>some (.bk,Z,S)
def o5:SF:=λZ S=>some (.ct,Z,S)
def dD(t:TF)(f g:SF):SF:=λZ S=>(t Z S).bind λr=>if r.1=true then f Z r.2 else g Z r.2
section
variable {X:Cx}{st:Stmt}{rest:List Stmt}{f g:SF}{e:Expr}{fe:EF}{pos:Pos}
def zqn:vf X [] aP:=by refine fL.imp Gy λD Z H h=>?_;obtain⟨σd,S,α,fl,σd',S',hv,hs,hf,k⟩:=h;cases hf;exact k _ _ _ hv hs Ext.refl
def Ks.trans{K:FgA}{H H1:Hp}{α α1:List Addr}{fl:Fl}{σd':Sg}{S':So}{D:qF}(k:Ks K H α fl σd' S' D)(e:Ext K H α H1 α1):Ks K H1 α1 fl σd' S' D:=λZ' H' α' v s x=>k Z' H' α' v s (e.trans x)
theorem znX(h1:SS X st f)(h2:vf X rest g):vf X (st::rest) (aB f g):=by
 refine fL.imp (uq h1 h2) λD Z H h=>?_;obtain⟨σd,S,α,fl,σd',S',hv,hs,hf,k⟩:=h;unfold aB at hf;simp only[aU] at hf;obtain⟨⟨Yv,σ1,S1⟩,e1,e2⟩:=hf;refine⟨σd,S,α,Yv,σ1,S1,hv,hs,e1,λZ' H' α' v' s' x'=>?_⟩;cases Yv with
 |nx=>exact⟨σ1,S1,α',fl,σd',S',v',s',e2,k.trans x'⟩
 |bk=>cases e2;exact k Z' H' α' v' s' x'
 |ct=>cases e2;exact k Z' H' α' v' s' x'
 |rt d=>cases e2;exact k Z' H' α' v' s' x'
def znV:SS X (.Pass pos) aP:=by refine PS.imp zos λD Z H h=>?_;obtain⟨σd,S,α,fl,σd',S',hv,hs,hf,k⟩:=h;cases hf;exact k _ _ _ hv hs Ext.refl
theorem zqq{x j pos'}:SS X (.Expr (.Constant (.str x) j pos) pos') aP:=by refine PS.imp zq0 λD Z H h=>?_;obtain⟨σd,S,α,fl,σd',S',hv,hs,hf,k⟩:=h;cases hf;exact k _ _ _ hv hs Ext.refl
def zqs:SS X (.Break pos) CW:=by refine PS.imp zmc λD Z H h=>?_;obtain⟨σd,S,α,fl,σd',S',hv,hs,hf,k⟩:=h;cases hf;exact k _ _ _ hv hs Ext.refl
def zqr:SS X (.Continue pos) o5:=by refine PS.imp zhl λD Z H h=>?_;obtain⟨σd,S,α,fl,σd',S',hv,hs,hf,k⟩:=h;cases hf;exact k _ _ _ hv hs Ext.refl
theorem znW(he:SE X e fe)(hsw:swapsWith e none pos.line X.env=pure false):SS X (.Expr e pos) (jH fe):=by refine PS.imp (Um he hsw) λD Z H h=>?_;obtain⟨σd,S,α,fl,σd',S',hv,hs,hf,k⟩:=h;unfold jH at hf;simp only[aR] at hf;obtain⟨⟨d,S1⟩,e1,e2⟩:=hf;cases e2;exact⟨σd,S,α,d,S1,hv,hs,e1,λv H' α' s' x' r'=>k _ _ _ (hv.mono x') s' x'⟩
theorem zqm(he:SE X e fe):SS X (.Return (some e) pos) (bW fe):=by refine PS.imp (Ay he) λD Z H h=>?_;obtain⟨σd,S,α,fl,σd',S',hv,hs,hf,k⟩:=h;unfold bW at hf;simp only[aR] at hf;obtain⟨⟨d,S1⟩,e1,e2⟩:=hf;cases e2;exact⟨σd,S,α,d,S1,hv,hs,e1,λv H' α' s' x' r'=>k _ _ _ (hv.mono x') s' x' v r'⟩
theorem znU:SS X (.Return none pos) uM:=by refine PS.imp zor λD Z H h=>?_;obtain⟨σd,S,α,fl,σd',S',hv,hs,hf,k⟩:=h;cases hf;exact k _ _ _ hv hs Ext.refl _ .non
theorem Kg{tg:Expr}{fg:GF}(he:SE X e fe)(hg:SG X tg fg)(h1:swapsWithSole [tg] e pos.line X.env=pure false)(h2:swappedStores [tg] e X.env=pure none)(h3:(assignEach [tg] X.env).map (·.2)=[assign tg X.env]):SS X (.Assign [tg] e pos) (bD fe fg):=by refine PS.imp (zq1 he hg h1 h2 h3) λD Z H h=>?_;obtain⟨σd,S,α,fl,σd',S',hv,hs,hf,k⟩:=h;unfold bD at hf;simp only[aU,aR] at hf;obtain⟨⟨d,S1⟩,e1,⟨σ1,S2⟩,e2,e3⟩:=hf;cases e3;exact⟨σd,S,α,d,S1,hv,hs,e1,λv H' α' s' x' r'=>⟨σd,S1,α',d,_,_,hv.mono x',s',r',e2,λσ2 H2 α2 v2 s2 x2=>k _ _ _ v2 s2 (x'.trans x2)⟩⟩
theorem R5{i:Nat}{x:Str}{pos':Pos}(hN:X.N.Nodup)(hi:X.N[i]?=some x)(hx:Loc X.env.scope x)(he:SE X e fe)(hsw:swapsWith e (some (.Name x pos')) pos.line X.env=pure false)(hfn:X.fn x=true\/X.env.scope.names.lookup x=some .local):
 SS X (.Assign [.Name x pos'] e pos) (bD fe (aL i)):=by
 refine PS.imp (RT hN hi hx he hsw hfn) λD Z H h=>?_;obtain⟨σd,S,α,fl,σd',S',hv,hs,hf,k⟩:=h;unfold bD at hf;simp only[aU,aR] at hf;obtain⟨⟨d,S1⟩,e1,⟨σ1,S2⟩,e2,e3⟩:=hf;cases e3;cases e2;exact⟨σd,S,α,d,S1,hv,hs,e1,λv H' α' s' x' r'=>k _ _ _ ((hv.mono x').set r' i) s' x'⟩
theorem zr8{c:Expr}{a b:List Stmt}{t:TF}(hc:ST X c t)(ha:vf X a f)(hb:vf X b g):SS X (.If c a b pos) (dD t f g):=by
 refine PS.imp (JM hc ha hb) λD Z H h=>?_;obtain⟨σd,S,α,fl,σd',S',hv,hs,hf,k⟩:=h;unfold dD at hf;simp only[aU] at hf;obtain⟨⟨b1,S1⟩,e1,e2⟩:=hf;refine⟨σd,S,α,b1,S1,hv,hs,e1,λH1 α1 s1 x1=>?_⟩;cases b1 with
 |true =>
  rw[if_pos rfl];rw[if_pos rfl] at e2;exact⟨σd,S1,α1,fl,σd',S',hv.mono x1,s1,e2,k.trans x1⟩
 |false =>
  rw[if_neg fO];rw[if_neg fO] at e2;exact⟨σd,S1,α1,fl,σd',S',hv.mono x1,s1,e2,k.trans x1⟩
end
noncomputable def jY(t:TF)(f:SF):Nat->SF
 |0=>λ_ _=>none
 |n+1=>λZ S=>(t Z S).bind λr=>if r.1=true then(f Z r.2).bind λq=>match q.1 with
  |.nx=>jY t f n q.2.1 q.2.2
  |.ct=>jY t f n q.2.1 q.2.2
  |.bk=>some (.nx,q.2.1,q.2.2)
  |.rt d=>some (.rt d,q.2.1,q.2.2)
  else some (.nx,Z,r.2)
theorem LC{t:TF}{f:SF}:∀{n:Nat} {Z:Sg} {S:So} {r:Fl×Sg×So},jY t f n Z S=some r->jY t f (n+1) Z S=some r
 |0,_,_,_,h=>by cases h
 |n+1,Z,S,r,h=>by
  unfold jY at h ⊢;simp only[aU] at h ⊢;obtain⟨q,e1,e2⟩:=h;refine⟨q,e1,?_⟩;by_cases hb:q.1=true
  .rw[if_pos hb] at e2 ⊢;simp only[aU] at e2 ⊢;obtain⟨q2,e3,e4⟩:=e2;refine⟨q2,e3,?_⟩;obtain⟨fl,σ1,S1⟩:=q2;cases fl with
   |nx=>exact LC e4
   |ct=>exact LC e4
   |bk=>exact e4
   |rt d=>exact e4
  .rw[if_neg hb] at e2 ⊢;exact e2
theorem Vg{t:TF}{f:SF}{n m:Nat}{Z:Sg}{S:So}{r:Fl×Sg×So}(h:jY t f n Z S=some r)(hm:n<=m):jY t f m Z S=some r:=by
 obtain⟨k,rfl⟩:=Nat.exists_eq_add_of_le hm;clear hm
 induction k with
 |zero=>exact h
 |succ k ih=>exact LC ih
open Classical in
def jK(t:TF)(f:SF):SF:=λZ S=>if h:∃n r,jY t f n Z S=some r then some (Classical.choose (Classical.choose_spec h)) else none
theorem RZ{t:TF}{f:SF}{n:Nat}{Z:Sg}{S:So}{r:Fl×Sg×So}(h:jY t f n Z S=some r):jK t f Z S=some r:=by
 have hx:∃n r,jY t f n Z S=some r:=⟨n,r,h⟩
 unfold jK;rw[dif_pos hx];have e:=Classical.choose_spec (Classical.choose_spec hx);have e1:=Vg e (Nat.le_max_left _ n);have e2:=Vg h (Nat.le_max_right (Classical.choose hx) n);rw[e1] at e2;exact e2
theorem RN{t:TF}{f:SF}{Z:Sg}{S:So}{r:Fl×Sg×So}(h:jK t f Z S=some r):∃n,jY t f n Z S=some r:=by
 unfold jK at h;split at h
 .rename_i hx;cases h;exact⟨_,Classical.choose_spec (Classical.choose_spec hx)⟩
 .cases h
theorem Ls{t:TF}{f:SF}{Z σ1 σ2:Sg}{S S1 S2:So}{fl:Fl}{r:Fl×Sg×So}(h1:t Z S=some (true,S1))(h2:f Z S1=some (fl,σ2,S2))(hf:fl = .nx\/fl = .ct)(h3:jK t f σ2 S2=some r):jK t f Z S=some r:=by obtain⟨n,e⟩:=RN h3;refine RZ (n:=n+1) ?_;unfold jY;rw[h1];simp only[bM,if_true];rw[h2];rcases hf with rfl|rfl<;>exact e
def Be{t:TF}{f:SF}{Z:Sg}{S S1:So}(h1:t Z S=some (false,S1)):jK t f Z S=some (.nx,Z,S1):=by refine RZ (n:=1) ?_;unfold jY;rw[h1];simp
section
variable {X:Cx}{pos:Pos}
theorem zlI{c:Expr}{body:List Stmt}{t:TF}{f:SF}(hp:PassesOwn (model X.prog X.w) X.A X.env X.xe)(hc:ST X c t)(hb:vf X body f):SS X (.While c body [] pos) (jK t f):=by
 refine PS.imp (zma hp hc hb) λD Z H h=>?_;obtain⟨σd,S,α,fl,σd',S',hv,hs,hf,k⟩:=h;obtain⟨n,hn⟩:=RN hf;refine⟨λm σ1 H1=>∃σd1 S1 α1,bA X.K H1 α1 σd1 σ1/\aq X.K H1 α1 S1/\Ext X.K H α H1 α1/\jY t f m σd1 S1=some (fl,σd',S'),⟨n,σd,S,α,hv,hs,Ext.refl,hn⟩,?_⟩
 rintro m σ1 H1 ⟨σd1,S1,α1,v1,s1,x1,e⟩
 cases m with
 |zero=>cases e
 |succ m =>
  unfold jY at e;simp only[aU] at e;obtain⟨⟨b,S2⟩,e1,e2⟩:=e;refine⟨σd1,S1,α1,b,S2,v1,s1,e1,λH2 α2 s2 x2=>?_⟩;cases b with
  |false =>
   rw[if_neg fO];rw[if_neg fO] at e2;cases e2;exact k _ _ _ (v1.mono x2) s2 (x1.trans x2)
  |true =>
   rw[if_pos rfl];rw[if_pos rfl] at e2;simp only[aU] at e2;obtain⟨⟨QD,σd3,S3⟩,e3,e4⟩:=e2;refine⟨λσ4 H4=>∃σd4 S4 α4,bA X.K H4 α4 σd4 σ4/\aq X.K H4 α4 S4/\Ext X.K H α H4 α4/\jY t f m σd4 S4=some (fl,σd',S'),λσ4 H4 q=>⟨m,Nat.lt_succ_self _,q⟩,?_⟩;refine⟨σd1,S2,α2,QD,σd3,S3,v1.mono x2,s2,e3,λσ4 H4 α4 v4 s4 x4=>?_⟩;have xx:=(x1.trans x2).trans x4;cases QD with
   |nx=>exact⟨σd3,S3,α4,v4,s4,xx,e4⟩
   |ct=>exact⟨σd3,S3,α4,v4,s4,xx,e4⟩
   |bk=>cases e4;exact k _ _ _ v4 s4 xx
   |rt d=>cases e4;exact k _ _ _ v4 s4 xx
end
end MX
end
section
variable {A:PySem.Around}{B base h h':PySem.Heap}{C a cH f:PySem.Addr}{E Q:PySem.Value->PySem.Shared->Prop}{H H':L2.Hp}{K:FgA}{N ps:List PySem.Str}{S S':MX.So}{X:L2.Cx}{aW apos cpos p pos spos:PySem.Pos}{body e tg:PySem.Expr}{c:Nat->PySem.Addr}{cF vs:List L2.V}{cd cdv:PySem.Value}{cl:List (PySem.Str×PySem.Addr)}{d:MX.D}{ds:List MX.D}{env:PySem.Env}{es:List PySem.Expr}{fa:MX.AF}{fb:MX.SF}{fd:PySem.FuncData}{fe:MX.EF}{fns:List (PySem.Str×Nat×MX.GN)}{i j k kk m n t':Nat}{ks:List PySem.Keyword}{l outer:List PySem.Env}{mg:PySem.Str->Option PySem.Value}{name p1 qual x y:PySem.Str}{names:List (PySem.Str×PySem.NameKind)}{ns:List Int}{o:PySem.Obj}{osl:Array (Option PySem.Value)}{out:List PySem.Value}{params:PySem.Arguments}{pz:List (PySem.Addr×PySem.Obj)}{prog q:PySem.Program}{s:PySem.Shared}{scope:PySem.Scope}{sp:List L2.V->L2.Hp->L2.VK->Prop}{st:PySem.Stmt}{w:PySem.World}{xs:Array (Int×PySem.Tok)}{α:List PySem.Addr}{Z':MX.Sg}
section
namespace MZ
open PySem PySem.Spec PyProof.Rows L2
structure Sub where
 it:Addr
 src:Addr
 tup:Bool
def cB(h:Heap)(p:Sub)(k:Nat):Prop:=if p.tup=true then h.IsTupleIter p.it p.src k else h.IsListIter p.it p.src k
def SrcAt(h:Heap)(p:Sub)(items:List Value):Prop:=if p.tup=true then h.IsTuple p.src items.toArray else h.IsList p.src items.toArray
theorem cB.at{h h':Heap}{p:Sub}{k:Nat}(x:cB h p k)(f:∀o,h.get? p.it=some o->h'.get? p.it=some o):cB h' p k:=by
 unfold cB at x ⊢;split
 .rename_i hp;rw[if_pos hp] at x;obtain⟨o,e,r⟩:=x;exact⟨o,f o e,r⟩
 .rename_i hp;rw[if_neg hp] at x;obtain⟨o,e,r⟩:=x;exact⟨o,f o e,r⟩
theorem SrcAt.at{h h':Heap}{p:Sub}{xs:List Value}(x:SrcAt h p xs)(f:∀o,h.get? p.src=some o->h'.get? p.src=some o):SrcAt h' p xs:=by
 unfold SrcAt at x ⊢;split
 .rename_i hp;rw[if_pos hp] at x;obtain⟨o,e,r⟩:=x;exact⟨o,f o e,r⟩
 .rename_i hp;rw[if_neg hp] at x;obtain⟨o,e,r⟩:=x;exact⟨o,f o e,r⟩
theorem cB.obj{h:Heap}{p:Sub}{k:Nat}(x:cB h p k):∃o,h.get? p.it=some o/\∀v,o.data ≠ .cell v:=by
 unfold cB at x;split at x
 .obtain⟨o,e,_,d⟩:=x;exact⟨o,e,λv z=>by rw[d] at z;cases z⟩
 .obtain⟨o,e,_,d⟩:=x;exact⟨o,e,λv z=>by rw[d] at z;cases z⟩
section
variable {prog:Program}{w:World}{A:Around}{E:Value->Shared->Prop}{s:Shared}
theorem zd6{it t:Addr}{i:Nat}{items}{x:Value}{Q:Value->Shared->Prop}(hit:s.heap.IsTupleIter it t i)(ht:s.heap.IsTuple t items)(hx:items[i]?=some x)(hQ:∀h',h'.IsTupleIter it t (i+1)->Heap.SameBut it s.heap h'->Q x { s with heap:=h' }):
 wpAny (model prog w) A (Builtin.SmallTypes.nextOf (.ref it)) Q E s:=by
 obtain⟨o,ho,hc,hd⟩:=id hit;obtain⟨ol,hol,_,nl,hdl⟩:=ht;unfold Builtin.SmallTypes.nextOf;refine aC (wpAny_callSpecial?_slot (name:=Str.ofString "__next__") hit.typeIs F.slot_tuple_iterator_next
  (wpAny_call_entry F.slot_tuple_iterator_next hit.typeIs F.entry_tuple_iterator_next ?_ (F.args_tuple_iterator_next_1 _)))
 show wpAny _ _ (field (.ref it) 0 >>= _) _ _ s;refine aC (wpAny_field ho hd (x := .ref t) rfl ?_);show wpAny _ _ (if(Value.ref t==Value.none)=true then _ else _) _ _ s;rw[if_neg (show ¬((Value.ref t==Value.none)=true) from fO)];show wpAny _ _ (field (.ref it) 1 >>= _) _ _ s;refine aC (wpAny_field ho hd (x := .int i 0) rfl ?_);show wpAny _ _ (seqItems? (.ref t) >>= _) _ _ s;refine aC (wpAny_seqItems hol hdl ?_);simp only[Int.toNat_natCast,hx];refine aC (wpAny_setField ho hd (by simp) (bN ⟨x,rfl,bN (hQ _ ?_ (Heap.SameBut.update ..))⟩));exact⟨_,Fe _ ho (Obj.isFreed_of_fields (Obj.data_mapFields hd _)),(Obj.cls_mapFields ..).trans hc,by
  rw[Obj.data_mapFields hd];simp[rawInt]⟩
theorem zer{it t:Addr}{i:Nat}{items}{Q:Value->Shared->Prop}(hh:A.handled=none)(hit:s.heap.IsTupleIter it t i)(ht:s.heap.IsTuple t items)(hx:items[i]?=none)(hE:∀h' e,Heap.ExtBut it s.heap h'->(∃o,h'.get? e=some o/\o.cls = .type "StopIteration")->E (.ref e) { s with heap:=h' }):
 wpAny (model prog w) A (Builtin.SmallTypes.nextOf (.ref it)) Q E s:=by
 obtain⟨o,ho,hc,hd⟩:=id hit;obtain⟨ol,hol,_,nl,hdl⟩:=ht;unfold Builtin.SmallTypes.nextOf;refine aC (wpAny_callSpecial?_slot (name:=Str.ofString "__next__") hit.typeIs F.slot_tuple_iterator_next
  (wpAny_call_entry F.slot_tuple_iterator_next hit.typeIs F.entry_tuple_iterator_next ?_ (F.args_tuple_iterator_next_1 _)))
 show wpAny _ _ (field (.ref it) 0 >>= _) _ _ s;refine aC (wpAny_field ho hd (x := .ref t) rfl ?_);show wpAny _ _ (if(Value.ref t==Value.none)=true then _ else _) _ _ s;rw[if_neg (show ¬((Value.ref t==Value.none)=true) from fO)];show wpAny _ _ (field (.ref it) 1 >>= _) _ _ s;refine aC (wpAny_field ho hd (x := .int i 0) rfl ?_);show wpAny _ _ (seqItems? (.ref t) >>= _) _ _ s;refine aC (wpAny_seqItems hol hdl ?_);simp only[Int.toNat_natCast,hx];refine aC (wpAny_rule (aC (wpAny_setField ho hd (by simp) ?_)));show wpAny _ _ (newExc (.type "StopIteration") [] >>= _) _ _ _;refine aC ?_;simp only[newExc,newTuple];refine aC (wpAny_newObj_type ?_ (by size_fits));refine aC (m:=firstArgMember _ _) (wpAny_of_eq (a:=Value.none) (by first|rfl|(simp only[firstArgMember];rfl)) ?_);refine wpAny_newObj_type ?_ (by size_fits);simp only[raiseNew];refine aC (wpAny_handled ?_)
 first|rw[show A.in1.handled=none from hh]|rw[hh]
 refine aC (bN (wpAny_throw ?_));exact hE _ _ (((Heap.SameBut.update ..).extBut.push _).push _) ⟨_,gq _ rfl,rfl⟩
theorem zlG{p:Sub}{xs:List Value}{k:Nat}{x:Value}{Q:Value->Shared->Prop}(hi:cB s.heap p k)(hs:SrcAt s.heap p xs)(hx:xs[k]?=some x)(hQ:∀h',cB h' p (k+1)->Heap.SameBut p.it s.heap h'->Q x { s with heap:=h' }):wpAny (model prog w) A (Builtin.SmallTypes.nextOf (.ref p.it)) Q E s:=by
 by_cases hp:p.tup=true
 .unfold cB SrcAt at *
  rw[if_pos hp] at hi hs;exact zd6 hi hs (by simpa using hx) λh' a b=>hQ h' (by rw[if_pos hp];exact a) b
 .unfold cB SrcAt at *
  rw[if_neg hp] at hi hs;exact wpAny_nextOf_list_item hi hs (by simpa using hx) λh' a b=>hQ h' (by rw[if_neg hp];exact a) b
theorem znN{p:Sub}{xs:List Value}{k:Nat}{Q:Value->Shared->Prop}(hh:A.handled=none)(hi:cB s.heap p k)(hs:SrcAt s.heap p xs)(hx:xs[k]?=none)(hE:∀h' e,Heap.ExtBut p.it s.heap h'->(∃o,h'.get? e=some o/\o.cls = .type "StopIteration")->E (.ref e) { s with heap:=h' }):
 wpAny (model prog w) A (Builtin.SmallTypes.nextOf (.ref p.it)) Q E s:=by
 by_cases hp:p.tup=true
 .unfold cB SrcAt at *
  rw[if_pos hp] at hi hs;exact zer hh hi hs (by simpa using hx) hE
 .unfold cB SrcAt at *
  rw[if_neg hp] at hi hs;exact wpAny_nextOf_list_end hh hi hs (by simpa using hx) hE
end
abbrev dz(xs:List Value):Obj:={ cls := .type "tuple",data := .seq xs.toArray }
structure yF(z TI TO:Addr)(ps:List Sub):Prop where
 TIz:TI≠z
 TOz:TO≠z
 TITO:TI≠TO
 iz:∀p∈ps,p.it≠z
 iTI:∀p∈ps,p.it≠TI
 iTO:∀p∈ps,p.it≠TO
 sz:∀p∈ps,p.src≠z
 sTO:∀p∈ps,p.src≠TO
 si:∀p∈ps,∀q∈ps,p.src≠q.it
 nd:(ps.map (·.it)).Nodup
section
variable {prog:Program}{w:World}{A:Around}{E:Value->Shared->Prop}{s:Shared}
theorem znA{T:Addr}{ys:List Value}{k:Nat}{x:Value}{Q:Unit->Shared->Prop}(hT:s.heap.get? T=some (dz ys))(hz:ys.length<=sizeLine)(h:∀h',h'.get? T=some (dz (ys.set k x))->Heap.SameBut T s.heap h'->Q () { s with heap:=h' }):
 wpAny (model prog w) A (updateSeq T (·.setIfInBounds k x)) Q E s:=by
 refine wpAny_updateSeq hT rfl (h _ ?_ (Heap.SameBut.update ..)) (by rw[dw];exact hz) (by simp;omega);rw[Fe _ hT rfl];simp[Obj.mapSeq,dz]
def zod{α:Type}(a b:List α)(y x:α):(a++y::b).set a.length x=a++x::b:=by rw[List.set_append_right _ _ (bT _)];simp
theorem zlx{z TI TO:Addr}{ps:List Sub}{xss:List (List Value)}{row ys:List Value}{k:Nat}{Q:Value->Shared->Prop}(D:yF z TI TO ps)(hne:ps≠[])(hps:ps.length<=100)(hz:IsZip s.heap z TI TO .none)(hTI:s.heap.get? TI=some (dz (ps.map λp=>Value.ref p.it)))(hTO:s.heap.get? TO=some (dz ys))(hy:ys.length=ps.length)(hl:xss.length=ps.length)(hr:row.length=ps.length)(hi:∀p∈ps,cB s.heap p k)(hs:∀(j:Nat) p xs,ps[j]?=some p->xss[j]?=some xs->SrcAt s.heap p xs)(hx:∀(j:Nat) xs x,xss[j]?=some xs->row[j]?=some x->xs[k]?=some x)(hQ:∀h',IsZip h' z TI TO (rawInt s.heap.objs.size)->h'.get? TO=some (dz row)->(∀p∈ps,cB h' p (k+1))->h'.get? s.heap.objs.size=some (dz row)->h'.objs.size=s.heap.objs.size+1 ->
  (∀c o,c≠z->c≠TO->(∀p∈ps,c≠p.it)->s.heap.get? c=some o->h'.get? c=some o)->Q (.ref s.heap.objs.size) { s with heap:=h' }):
 wpAny (model prog w) A (Builtin.«zip.__next__» ⟨[.ref z],[]⟩) (λfin s'=>∃v,fin = .done (.ret v)/\Q v s') E s:=by
 have line:(100:Nat)<=sizeLine:=by decide
 show wpAny _ _ (field (.ref z) 2 >>= _) _ _ _;refine aC (wpAny_field hz rfl (x := .bool false) rfl ?_);show wpAny _ _ (field (.ref z) 3 >>= _) _ _ _;refine aC (wpAny_field hz rfl (x := .ref TI) rfl ?_);refine aC (wpAny_seqItems hTI rfl ?_);have hemp:((ps.map λp=>Value.ref p.it).toArray.isEmpty)=false:=by
  cases ps with
  |nil=>exact absurd rfl hne
  |cons _ _=>simp
 show wpAny _ _ (if((ps.map λp=>Value.ref p.it).toArray.isEmpty)=true then _ else _) _ _ _;rw[if_neg (by rw[hemp];exact fO)];show wpAny _ _ (Builtin.SmallTypes.ownedTupleIsFree (.ref z) >>= _) _ _ _;refine aC ?_;unfold Builtin.SmallTypes.ownedTupleIsFree;refine aC (wpAny_field hz rfl (x := .none) rfl (bN ?_));simp only[if_true];refine aC (wpAny_rule ?_);refine aC (wpAny_field hz rfl (x := .ref TO) rfl ?_);refine aC (wpAny_setField_rec hz (by simp) λh₁ hz₁ hs₁=>?_);replace hz₁:IsZip h₁ z TI TO .ellipsis:=hz₁;refine aC ?_;refine wpAny_forIn_list _
  (λrest b s'=>b.1=none/\∃j h,s'={ s with heap:=h }/\rest=((ps.drop j).map λp=>Value.ref p.it).zipIdx j/\j<=ps.length/\IsZip h z TI TO .ellipsis/\h.get? TO=some (dz (row.take j++ys.drop j))/\h.objs.size=s.heap.objs.size /\
   (∀(i:Nat) p,ps[i]?=some p->cB h p (if i<j then k+1 else k))/\∀c o,c≠z->c≠TO->(∀p∈ps,c≠p.it)->s.heap.get? c=some o->h.get? c=some o) _ ?_ ?_ _ _ ?_
 .rintro⟨v,kk⟩ rest b s' ⟨hb,j,h,rfl,hrest,hj,z1,t1,Ib,i1,k1⟩
  have hjl:j<ps.length:=by refine Nat.lt_of_le_of_ne hj λe=>?_;rw[e] at hrest;simp at hrest
  obtain⟨p,hp⟩:∃p,ps[j]?=some p:=⟨ps[j],by simp[hjl]⟩
  have hpm:p∈ps:=List.mem_of_getElem? hp;have hdrop:ps.drop j=p::ps.drop (j+1):=by obtain⟨h1,h2⟩:=fj.mp hp;rw[<-h2];exact List.drop_eq_getElem_cons h1
  rw[hdrop,iC,List.zipIdx_cons] at hrest;injection hrest with e1 e2;obtain⟨e3,e4⟩:=Prod.mk.inj e1;subst e3;replace e4:=e4.symm;subst e4;obtain⟨xs,hxs⟩:∃xs,xss[j]?=some xs:=⟨xss[j]'(by omega),by simp⟩
  obtain⟨x,Yo⟩:∃x,row[j]?=some x:=⟨row[j]'(by omega),by simp⟩
  obtain⟨y,hyr⟩:∃y,ys[j]?=some y:=⟨ys[j]'(by omega),by simp⟩
  have hit:cB h p k:=by have:=i1 j p hp;rw[if_neg (gw _)] at this;exact this
  have gO:SrcAt h p xs:=(hs j p xs hp hxs).at λo e=>k1 _ o (D.sz p hpm) (D.sTO p hpm) (λq hq=>D.si p hpm q hq) e;have hcur:row.take j++ys.drop j=row.take j++y::ys.drop (j+1):=by obtain⟨h1,h2⟩:=fj.mp hyr;rw[List.drop_eq_getElem_cons h1,h2]
  have hlj:(row.take j).length=j:=by rw[vz];omega
  obtain⟨b1,b2⟩:=b;have hb':b1=none:=hb;subst hb';refine aC (wpAny_onRaise ?_);show wpAny _ _ (Builtin.SmallTypes.nextOf (.ref p.it) >>= _) _ _ _;refine aC (zlG hit gO (hx j xs x hxs Yo) λh₂ it₂ sb₂=>bN ?_);have t2:h₂.get? TO=some (dz (row.take j++ys.drop j)):=sb₂.extBut _ _ (D.iTO p hpm).symm t1;refine aC (wpAny_seqItems t2 rfl ?_);refine aC (znA (s:={ s with heap:=h₂ }) (k:=j) t2 (by rw[jE,vz,List.length_drop];omega) λh₃ t3 sb₃=>?_);refine aC (wpAny_letGo (bN ?_));refine⟨rfl,j+1,h₃,rfl,e2,hjl,?_,?_,?_,λi q hq=>?_,λc o c1 c2 c3 e=>?_⟩
  .exact sb₃.extBut _ _ D.TOz.symm (sb₂.extBut _ _ (D.iz p hpm).symm z1)
  .rw[t3,hcur];have:(row.take j++y::ys.drop (j+1)).set j x=row.take (j+1)++ys.drop (j+1):=by
    have e:row.take (j+1)=row.take j++[x]:=by obtain⟨h1,h2⟩:=fj.mp Yo;rw[<-h2];simp
    have:=zod (row.take j) (ys.drop (j+1)) y x;rw[hlj] at this;rw[this,e,f9];rfl
   rw[this]
  .rw[sb₃.1,sb₂.1,Ib]
  .have hqm:q∈ps:=List.mem_of_getElem? hq;have k3:∀o,h₂.get? q.it=some o->h₃.get? q.it=some o:=λo e=>sb₃.extBut _ _ (D.iTO q hqm) e;by_cases hij:i=j
   .subst hij;rw[hp] at hq;cases hq;rw[if_pos (Nat.lt_succ_self _)];exact it₂.at k3
   .have hne':q.it≠p.it:=λz=>hij (by
     obtain⟨a1,a2⟩:=fj.mp hq;obtain⟨b1,b2⟩:=fj.mp hp;refine(List.getElem_inj (xs:=ps.map (·.it)) (i:=i) (j:=j) (h₀:=by simpa using a1) (h₁:=by simpa using b1) D.nd).mp ?_;simp[a2,b2,z])
    have:=i1 i q hq;have e:(if i<j+1 then k+1 else k)=(if i<j then k+1 else k):=by
     by_cases h1:i<j
     .rw[if_pos h1,if_pos (by omega)]
     .rw[if_neg h1,if_neg (by omega)]
    rw[e];exact(this.at λo e=>sb₂.extBut _ _ hne' e).at k3
  .exact sb₃.extBut _ _ c2 (sb₂.extBut _ _ (c3 p hpm) (k1 c o c1 c2 c3 e))
 .rintro⟨b1,b2⟩ s' ⟨hb,j,h,rfl,hrest,hj,z1,t1,Ib,i1,k1⟩
  have hb':b1=none:=hb;subst hb';have hjl:j=ps.length:=by
   refine Nat.le_antisymm hj (Nat.le_of_not_lt λhlt=>?_);have hd:ps.drop j≠[]:=by intro e;have:=congrArg List.length e;rw[List.length_drop] at this;simp at this;omega
   cases q:ps.drop j with
   |nil=>exact hd q
   |cons a r=>rw[q] at hrest;simp at hrest
  subst hjl;have X4:h.get? TO=some (dz row):=by rw[t1,List.take_of_length_le (by omega),List.drop_of_length_le (by omega),List.append_nil]
  show wpAny _ _ (seqItems? (.ref TO) >>= _) _ _ _;refine aC (wpAny_seqItems X4 rfl ?_);refine aC (wpAny_newTuple ?_ (by simp;omega));have hzlt:z<h.objs.size:=b7 z1;show wpAny _ _ (Builtin.SmallTypes.ownedTupleHandOut (.ref z) (.ref h.objs.size) >>= _) _ _ _;refine aC ?_;unfold Builtin.SmallTypes.ownedTupleHandOut;have hz₆:IsZip (h.push { cls := .type "tuple",data := .seq row.toArray.toList.toArray }) z TI TO .ellipsis:=cN _ z1;refine aC (wpAny_setField_rec hz₆ (by simp) λh₇ hz₇ hs₇=>?_);replace hz₇:IsZip h₇ z TI TO (rawInt h.objs.size):=hz₇;refine wpAny_setField_rec hz₇ (by simp) λh₈ hz₈ hs₈=>?_;replace hz₈:IsZip h₈ z TI TO (rawInt h.objs.size):=hz₈;have up:∀c o,c≠z->h.get? c=some o->h₈.get? c=some o:=λc o c1 e=>hs₈.extBut _ _ c1 (hs₇.extBut _ _ c1 (cN _ e));have hT₈:h₈.get? h.objs.size=some (dz row):=hs₈.extBut _ _ (Nat.ne_of_gt hzlt) (hs₇.extBut _ _ (Nat.ne_of_gt hzlt) (by simpa[dz] using gq h (o:=dz row) rfl));have hz8:h₈.objs.size=h.objs.size+1:=by rw[hs₈.1,hs₇.1,Heap.size_push]
  rw[Ib] at hz₈ hT₈ hz8;refine bN ⟨_,rfl,?_⟩;show Q (.ref h.objs.size) _;rw[Ib];refine hQ h₈ hz₈ (up _ _ D.TOz X4) (λp hp=>?_) hT₈ hz8 λc o c1 c2 c3 e=>up c o c1 (k1 c o c1 c2 c3 e);obtain⟨i,hil,e⟩:=List.mem_iff_getElem.mp hp;have:=i1 i p (by rw[fj];exact⟨hil,e⟩);rw[if_pos hil] at this;exact this.at λo e=>up _ o (D.iz p hp) e
 .refine⟨rfl,0,h₁,rfl,rfl,Nat.zero_le _,hz₁,by simpa using hs₁.extBut _ _ D.TOz hTO,hs₁.1,λi p hp=>?_,λc o c1 c2 c3 e=>hs₁.extBut _ _ c1 e⟩;have hpm:=List.mem_of_getElem? hp;rw[if_neg (Nat.not_lt_zero _)];exact(hi p hpm).at λo e=>hs₁.extBut _ _ (D.iz p hpm) e
theorem znv{z TI TO:Addr}{p:Sub}{ps:List Sub}{xs:List Value}{k:Nat}{Q:Fin->Shared->Prop}(hh:A.handled=none)(D:yF z TI TO (p::ps))(hz:IsZip s.heap z TI TO .none)(hTI:s.heap.get? TI=some (dz ((p::ps).map λp=>Value.ref p.it)))(hi:cB s.heap p k)(hs:SrcAt s.heap p xs)(hend:xs[k]?=none)(hE:∀h' e,(∀c o,c≠z->c≠p.it->s.heap.get? c=some o->h'.get? c=some o)->(∃o,h'.get? e=some o/\o.cls = .type "StopIteration")->E (.ref e) { s with heap:=h' }):
 wpAny (model prog w) A (Builtin.«zip.__next__» ⟨[.ref z],[]⟩) Q E s:=by
 have hpm:p∈p::ps:=fG;show wpAny _ _ (field (.ref z) 2 >>= _) _ _ _;refine aC (wpAny_field hz rfl (x := .bool false) rfl ?_);show wpAny _ _ (field (.ref z) 3 >>= _) _ _ _;refine aC (wpAny_field hz rfl (x := .ref TI) rfl ?_);refine aC (wpAny_seqItems hTI rfl ?_);show wpAny _ _ (if(((p::ps).map λp=>Value.ref p.it).toArray.isEmpty)=true then _ else _) _ _ _;rw[if_neg (by simp)];show wpAny _ _ (Builtin.SmallTypes.ownedTupleIsFree (.ref z) >>= _) _ _ _;refine aC ?_;unfold Builtin.SmallTypes.ownedTupleIsFree;refine aC (wpAny_field hz rfl (x := .none) rfl (bN ?_));simp only[if_true];refine aC (wpAny_rule ?_);refine aC (wpAny_field hz rfl (x := .ref TO) rfl ?_);refine aC (wpAny_setField_rec hz (by simp) λh₁ hz₁ hs₁=>?_);replace hz₁:IsZip h₁ z TI TO .ellipsis:=hz₁;refine aC ?_;refine wpAny_forIn_list _ (λrest b s'=>b.1=none/\s'={ s with heap:=h₁ }/\rest=((p::ps).map λp=>Value.ref p.it).zipIdx 0) _ ?_ ?_ _ _ ⟨rfl,rfl,rfl⟩
 .rintro⟨v,kk⟩ rest b s' ⟨hb,rfl,hrest⟩
  rw[iC,List.zipIdx_cons] at hrest;injection hrest with e1 e2;cases e1;obtain⟨b1,b2⟩:=b;have hb':b1=none:=hb;subst hb';refine aC (wpAny_onRaise ?_);show wpAny _ _ (Builtin.SmallTypes.nextOf (.ref p.it) >>= _) _ _ _;refine aC (znN hh (hi.at λo e=>hs₁.extBut _ _ (D.iz p hpm) e) (hs.at λo e=>hs₁.extBut _ _ (D.sz p hpm) e) hend λh₂ e sb₂ he=>?_);obtain⟨oe,hoe,hce⟩:=he;have hz₂:IsZip h₂ z TI TO .ellipsis:=sb₂ _ _ (D.iz p hpm).symm hz₁;have hez:e≠z:=λx=>by subst x;rw[hz₂] at hoe;cases hoe;simp at hce
  exact wpAny_setField_rec hz₂ (by simp) λh₃ _ hs₃=>hE h₃ e (λc o c1 c3 x=>hs₃.extBut _ _ c1 (sb₂ _ _ c3 (hs₁.extBut _ _ c1 x))) ⟨oe,hs₃.extBut _ _ hez hoe,hce⟩
 .rintro b s' ⟨_,_,hrest⟩
  rw[iC,List.zipIdx_cons] at hrest;cases hrest
theorem zkk{z TI TO:Addr}{ps:List Sub}{xss:List (List Value)}{row ys:List Value}{k:Nat}{Q:Option Value->Shared->Prop}(D:yF z TI TO ps)(hne:ps≠[])(hps:ps.length<=100)(hz:IsZip s.heap z TI TO .none)(hTI:s.heap.get? TI=some (dz (ps.map λp=>Value.ref p.it)))(hTO:s.heap.get? TO=some (dz ys))(hy:ys.length=ps.length)(hl:xss.length=ps.length)(hr:row.length=ps.length)(hi:∀p∈ps,cB s.heap p k)(hs:∀(j:Nat) p xs,ps[j]?=some p->xss[j]?=some xs->SrcAt s.heap p xs)(hx:∀(j:Nat) xs x,xss[j]?=some xs->row[j]?=some x->xs[k]?=some x)(hQ:∀h',IsZip h' z TI TO (rawInt s.heap.objs.size)->h'.get? TO=some (dz row)->(∀p∈ps,cB h' p (k+1))->h'.get? s.heap.objs.size=some (dz row)->h'.objs.size=s.heap.objs.size+1 ->
  (∀c o,c≠z->c≠TO->(∀p∈ps,c≠p.it)->s.heap.get? c=some o->h'.get? c=some o)->Q (some (.ref s.heap.objs.size)) { s with heap:=h' }):
 wpAny (model prog w) A (pyNext (.ref z)) Q E s:=by
 have hT:s.TypeIs (.ref z) "zip" := ⟨_,hz,rfl⟩
 unfold pyNext;exact aC (wpAny_attempt (wpAny_callSpecial?_slot (name:=Str.ofString "__next__") hT F.slot_zip_next
  (wpAny_call_entry F.slot_zip_next hT F.entry_zip_next
   (zlx D hne hps hz hTI hTO hy hl hr hi hs hx λh' a1 a2 a3 a4 a5 a6=>bN (hQ h' a1 a2 a3 a4 a5 a6)) (F.args_zip_next_1 _))))
theorem zml{z TI TO:Addr}{p:Sub}{ps:List Sub}{xs:List Value}{k:Nat}{Q:Option Value->Shared->Prop}(hh:A.handled=none)(D:yF z TI TO (p::ps))(hz:IsZip s.heap z TI TO .none)(hTI:s.heap.get? TI=some (dz ((p::ps).map λp=>Value.ref p.it)))(hi:cB s.heap p k)(hs:SrcAt s.heap p xs)(hend:xs[k]?=none)(hQ:∀h',(∀c o,c≠z->c≠p.it->s.heap.get? c=some o->h'.get? c=some o)->Q none { s with heap:=h' }):
 wpAny (model prog w) A (pyNext (.ref z)) Q E s:=by
 have hT:s.TypeIs (.ref z) "zip" := ⟨_,hz,rfl⟩
 unfold pyNext;refine aC (wpAny_attempt (wpAny_callSpecial?_slot (name:=Str.ofString "__next__") hT F.slot_zip_next
  (wpAny_call_entry F.slot_zip_next hT F.entry_zip_next (znv hh D hz hTI hi hs hend λh' e hk he=>?_) (F.args_zip_next_1 _))))
 obtain⟨o,ho,hc⟩:=he;refine aC (wpAny_isInstance (T := "StopIteration") (b:=true) ⟨o,ho,hc⟩ isSubtype_stop ?_);exact bN (hQ _ hk)
noncomputable def dH(n:Nat):List (Addr×Bool)->List Sub
 |[]=>[]
 | (a,t)::r=>⟨n,a,t⟩::dH (n+1) r
def fK(h:Heap)(p:Addr×Bool):Prop:=if p.2=true then ∃xs,h.IsTuple p.1 xs else ∃xs,h.IsList p.1 xs
theorem fK.keeps{h h':Heap}{p:Addr×Bool}(x:fK h p)(f:∀b o,h.get? b=some o->h'.get? b=some o):fK h' p:=by
 unfold fK at x ⊢;split
 .rename_i hp;rw[if_pos hp] at x;obtain⟨xs,o,e,r⟩:=x;exact⟨xs,o,f _ o e,r⟩
 .rename_i hp;rw[if_neg hp] at x;obtain⟨xs,o,e,r⟩:=x;exact⟨xs,o,f _ o e,r⟩
theorem zmx{p:Addr×Bool}{Q:Value->Shared->Prop}(hp:fK s.heap p)(h:∀h',(∀b o,s.heap.get? b=some o->h'.get? b=some o)->h'.objs.size=s.heap.objs.size+1->cB h' ⟨s.heap.objs.size,p.1,p.2⟩ 0->Q (.ref s.heap.objs.size) { s with heap:=h' }):
 wpAny (model prog w) A (pyIter (.ref p.1)) Q E s:=by
 unfold fK at hp;by_cases ht:p.2=true
 .rw[if_pos ht] at hp;obtain⟨xs,hx⟩:=hp;refine wpAny_pyIter_tuple hx (h _ (λb o e=>cN _ e) (Heap.size_push ..) ?_);unfold cB;rw[if_pos ht];exact⟨_,gq _ rfl,rfl,rfl⟩
 .rw[if_neg ht] at hp;obtain⟨xs,hx⟩:=hp;refine wpAny_pyIter_list hx (h _ (λb o e=>cN _ e) (Heap.size_push ..) ?_);unfold cB;rw[if_neg ht];exact⟨_,gq _ rfl,rfl,rfl⟩
theorem GD:∀(n:Nat) (l:List (Addr×Bool)) (p:Sub),p∈dH n l->n<=p.it/\p.it<n+l.length/\(p.src,p.tup)∈l
 |_,[],p,h=>by cases h
 |n,(a,t)::r,p,h=>by
  rcases List.mem_cons.mp h with rfl|h
  .exact⟨bT _,by simp,fG⟩
  .obtain⟨h1,h2,h3⟩:=GD (n+1) r p h;exact⟨Nat.le_of_succ_le h1,di h2 (by rw[jb];omega),cM _ h3⟩
def Lz:∀(n:Nat) (l:List (Addr×Bool)),(dH n l).length=l.length
 |_,[]=>rfl
 |n,_::r=>by simp[dH,Lz (n+1) r]
theorem Ui:∀(n:Nat) (l:List (Addr×Bool)),((dH n l).map (·.it)).Nodup
 |_,[]=>List.nodup_nil
 |n,(a,t)::r=>by rw[dH,iC,List.nodup_cons];refine⟨λhm=>?_,Ui (n+1) r⟩;obtain⟨p,hp,e⟩:=List.mem_map.mp hm;have:=(GD (n+1) r p hp).1;have e':p.it=n:=e;rw[e'] at this;exact absurd this (Nat.not_succ_le_self n)
theorem Mt:∀(n:Nat) (l:List (Addr×Bool)) (p:Addr×Bool),dH n (l++[p])=dH n l++[⟨n+l.length,p.1,p.2⟩]
 |n,[],(a,t)=>rfl
 |n,(b,u)::r,p=>by
  rw[List.cons_append,dH,dH,Mt (n+1) r p,List.cons_append];have:n+1+r.length=n+(r.length+1):=by omega
  simp[this]
theorem zjg{l:List (Addr×Bool)}{Q:List Value->Shared->Prop}(hl:∀p∈l,fK s.heap p)(h:∀h',(∀b o,s.heap.get? b=some o->h'.get? b=some o)->h'.objs.size=s.heap.objs.size+l.length->(∀p∈dH s.heap.objs.size l,cB h' p 0)->Q ((dH s.heap.objs.size l).map λp=>Value.ref p.it) { s with heap:=h' }):
 wpAny (model prog w) A (Builtin.SmallTypes.iterAll (l.map λp=>Value.ref p.1)) Q E s:=by
 unfold Builtin.SmallTypes.iterAll;refine aC ?_;refine wpAny_forIn_list _ (λrest its s'=>∃d r h',l=d++r/\rest=r.map (λp=>Value.ref p.1)/\its=((dH s.heap.objs.size d).map λp=>Value.ref p.it).toArray/\s'={ s with heap:=h' } /\
  (∀b o,s.heap.get? b=some o->h'.get? b=some o)/\h'.objs.size=s.heap.objs.size+d.length/\∀p∈dH s.heap.objs.size d,cB h' p 0) _ ?_ ?_ _ _ ?_
 .rintro x rest its s' ⟨d,r,h',rfl,hr,rfl,rfl,k1,z1,i1⟩
  cases r with
  |nil=>cases hr
  |cons p r =>
   rw[iC] at hr;injection hr with e1 e2;subst e1;refine aC (wpAny_holding (zmx (s:={ s with heap:=h' }) ((hl p (by simp)).keeps k1) λh2 k2 z2 i2=>bN ?_));refine⟨d++[p],r,h2,by simp,e2,?_,rfl,λb o e=>k2 b o (k1 b o e),by rw[z2];simp;show h'.objs.size+1=_;omega,λq hq=>?_⟩
   .rw[Mt,tV];simp[z1]
   .rw[Mt] at hq;rcases lB.mp hq with hq|hq
    .exact(i1 q hq).at λo e=>k2 _ o e
    .have e:q=⟨s.heap.objs.size+d.length,p.1,p.2⟩:=by simpa using hq
     subst e;have:({ s with heap:=h' }:Shared).heap.objs.size=s.heap.objs.size+d.length:=z1;rw[<-this];exact i2
 .rintro its s' ⟨d,r,h',rfl,hr,rfl,rfl,k1,z1,i1⟩
  cases r with
  |cons p r=>cases hr
  |nil =>
   rw[List.append_nil] at *
   exact bN (by simpa using h h' k1 z1 i1)
 .exact⟨[],l,s.heap,rfl,rfl,rfl,rfl,λ_ _ e=>e,rfl,λp hp=>by cases hp⟩
theorem zkv{l:List (Addr×Bool)}(hl:l.length<=100):
 Meets (Builtin.«zip.__new__» ⟨.type "zip" :: l.map (λp=>Value.ref p.1),[]⟩) (λ_ R s=>(∀p∈l,fK s.heap p) /\
  ∀h',IsZip h' (s.heap.objs.size+l.length+2) (s.heap.objs.size+l.length) (s.heap.objs.size+l.length+1) .none->h'.get? (s.heap.objs.size+l.length)=some (dz ((dH s.heap.objs.size l).map λp=>Value.ref p.it)) ->
   h'.get? (s.heap.objs.size+l.length+1)=some (dz ((dH s.heap.objs.size l).map λ_=>Value.none))->(∀p∈dH s.heap.objs.size l,cB h' p 0)->h'.objs.size=s.heap.objs.size+l.length+3 ->
   (∀b o,s.heap.get? b=some o->h'.get? b=some o)->R (.ok (.ret (.ref (s.heap.objs.size+l.length+2)))) { s with heap:=h' }) :=
 .of_wp λprog w A R s h=>by
  obtain⟨hl1,h⟩:=h;have line:(100:Nat)<=sizeLine:=by decide
  have hsl:=Lz s.heap.objs.size l;unfold Builtin.«zip.__new__»;refine aC ?_;unfold Builtin.SmallTypes.newClass;show wpAny _ _ (isType (.type "zip") >>= _) _ _ _;refine aC (wpAny_of_eq (a:=true) rfl ?_);show wpAny _ _ (isSubtype (.type "zip") (.type "zip") >>= _) _ _ _;refine aC (wpAny_of_eq (a:=true) sub_zip ?_);refine bN ?_;show wpAny _ _ (Builtin.SmallTypes.iterAll (l.map λp=>Value.ref p.1) >>= _) _ _ _;refine aC (zjg hl1 λh1 k1 z1 i1=>?_);show wpAny _ _ (newTuple ((dH s.heap.objs.size l).map λp=>Value.ref p.it) >>= _) _ _ _;refine aC (wpAny_newTuple ?_ (by rw[cX];omega));refine aC (wpAny_newTuple ?_ (by simp only[cX];omega));refine aC ?_;unfold Builtin.SmallTypes.newRecord;refine wpAny_newObj_type ?_ (by first|trivial|(show(_:Nat)<=_;simp;decide)|size_fits);refine bN ⟨_,rfl,?_⟩;have z2:(h1.push (dz ((dH s.heap.objs.size l).map λp=>Value.ref p.it))).objs.size=s.heap.objs.size+l.length+1:=by rw[Heap.size_push,z1]
  have z3:((h1.push (dz ((dH s.heap.objs.size l).map λp=>Value.ref p.it))).push (dz (((dH s.heap.objs.size l).map λp=>Value.ref p.it).map λ_=>Value.none))).objs.size=s.heap.objs.size+l.length+2:=by rw[Heap.size_push,z2]
  have g1:∀o,((h1.push (dz ((dH s.heap.objs.size l).map λp=>Value.ref p.it))).push (dz (((dH s.heap.objs.size l).map λp=>Value.ref p.it).map λ_=>Value.none)) |>.push o).get? (s.heap.objs.size+l.length)=some (dz ((dH s.heap.objs.size l).map λp=>Value.ref p.it)):=λo=>by rw[<-z1];exact cN _ (cN _ (gq _ rfl))
  have g2:∀o,((h1.push (dz ((dH s.heap.objs.size l).map λp=>Value.ref p.it))).push (dz (((dH s.heap.objs.size l).map λp=>Value.ref p.it).map λ_=>Value.none)) |>.push o).get? (s.heap.objs.size+l.length+1)=some (dz ((dH s.heap.objs.size l).map λ_=>Value.none)):=λo=>by rw[<-z2];have:=cN o (gq (h1.push (dz ((dH s.heap.objs.size l).map λp=>Value.ref p.it))) (o:=dz (((dH s.heap.objs.size l).map λp=>Value.ref p.it).map λ_=>Value.none)) rfl);rw[List.map_map] at this ⊢;exact this
  have g3:((h1.push (dz ((dH s.heap.objs.size l).map λp=>Value.ref p.it))).push (dz (((dH s.heap.objs.size l).map λp=>Value.ref p.it).map λ_=>Value.none)) |>.push { cls := .type "zip",dict:=none,data := .fields #[.none,.bool false,.bool false,.ref (s.heap.objs.size+l.length),.ref (s.heap.objs.size+l.length+1)],slots:=#[] }).get? (s.heap.objs.size+l.length+2)=some { cls := .type "zip",dict:=none,data := .fields #[.none,.bool false,.bool false,.ref (s.heap.objs.size+l.length),.ref (s.heap.objs.size+l.length+1)],slots:=#[] }:=by rw[<-z3];exact gq _ rfl
  have fin:=h _ g3 (g1 _) (g2 _) (λp hp=>(i1 p hp).at λo e=>cN _ (cN _ (cN _ e))) (by rw[Heap.size_push,z3]) λb o e=>cN _ (cN _ (cN _ (k1 b o e)));show R (.ok (.ret (.ref ((h1.push (dz ((dH s.heap.objs.size l).map λp=>Value.ref p.it))).push (dz (((dH s.heap.objs.size l).map λp=>Value.ref p.it).map λ_=>Value.none))).objs.size))) { s with heap:=((h1.push (dz ((dH s.heap.objs.size l).map λp=>Value.ref p.it))).push (dz (((dH s.heap.objs.size l).map λp=>Value.ref p.it).map λ_=>Value.none))).push { cls := .type "zip",dict:=none,data := .fields #[.none,.bool false,.bool false,.ref h1.objs.size,.ref (h1.push (dz ((dH s.heap.objs.size l).map λp=>Value.ref p.it))).objs.size],slots:=#[] } };rw[z3,z2,z1];exact fin
end
noncomputable def rowAt{α:Type}:List (List α)->Nat->Option (List α)
 |[],_=>some []
 |xs::r,i=>(xs[i]?).bind λx=>(rowAt r i).map (x::·)
theorem Vt{α:Type}:∀{xss:List (List α)} {i:Nat} {row:List α},rowAt xss i=some row->row.length=xss.length
 |[],_,_,h=>by cases h;rfl
 |xs::r,i,row,h=>by simp only[rowAt,aU,aR] at h;obtain⟨x,_,r',e,rfl⟩:=h;simp[Vt e]
theorem Vs{α:Type}:∀{xss:List (List α)} {i j:Nat} {row:List α} {xs:List α} {x:α},rowAt xss i=some row->xss[j]?=some xs->row[j]?=some x->xs[i]?=some x
 |[],_,_,_,_,_,_,h,_=>by simp at h
 |ys::r,i,0,row,xs,x,h,h1,h2=>by simp only[rowAt,aU,aR] at h;obtain⟨y,e1,r',e,rfl⟩:=h;simp at h1 h2;subst h1;subst h2;exact e1
 |ys::r,i,j+1,row,xs,x,h,h1,h2=>by simp only[rowAt,aU,aR] at h;obtain⟨y,e1,r',e,rfl⟩:=h;exact Vs e (by simpa using h1) (by simpa using h2)
inductive SrcsR(K:FgA)(H:Hp):List (Addr×Bool)->List (List V)->Prop
 |nil:SrcsR K H [] []
 |tup {a:Addr} {xs:List V} {l:List (Addr×Bool)} {r:List (List V)}:dF K H a xs->SrcsR K H l r->SrcsR K H ((a,true)::l) (xs::r)
noncomputable def Itz(K:FgA)(srcs:List (Addr×Bool)):It :=
 ⟨λi H=>∃xss row,SrcsR K H srcs xss/\rowAt xss i=some row,
  λi H x H'=>∃p row,x = .ref p/\H p=none/\H'=upd H p (.tup row)/\∀xss,SrcsR K H srcs xss->rowAt xss i=some row,
  λi H=>∃xss,SrcsR K H srcs xss/\(xss.headD [])[i]?=none⟩
section
variable {X:Cx}{pz:List (Addr×Obj)}{Z:L2.St}{H:Hp}{s:Shared}
theorem Ve(I:Inv X pz Z H s):∀{l:List (Addr×Bool)} {r r':List (List V)},SrcsR X.K H l r->SrcsR X.K H l r'->r=r'
 |_,_,_,.nil,.nil=>rfl
 |_,_,_,.tup h t,.tup h' t'=>by rw[I.tuple_inj h h',Ve I t t']
theorem Ly(I:Inv X pz Z H s):∀{l:List (Addr×Bool)} {r:List (List V)},SrcsR X.K H l r->∃us:List (List Value),us.length=l.length /\
 (∀(j:Nat) p u,l[j]?=some p->us[j]?=some u->SrcAt s.heap ⟨0,p.1,p.2⟩ u)/\(∀(i:Nat) row,rowAt r i=some row->∃iR,rowAt us i=some iR/\Vals row iR)/\∀(i:Nat),(r.headD [])[i]?=none->(us.headD [])[i]?=none
 |_,_,.nil=>⟨[],rfl,λj p u h=>by simp at h,λi row h=>by cases h;exact⟨[],rfl,.nil⟩,λi _=>by simp⟩
 |_,_,@SrcsR.tup _ _ a xs l r h t=>by
  obtain⟨us,h1,h2,h3,h4⟩:=Ly I t;obtain⟨its,rv,ht,hz⟩:=I.tuple h;refine⟨its::us,by simp[h1],λj p u e1 e2=>?_,λi row e=>?_,λi e=>rv.none_of e⟩
  .cases j with
   |zero=>simp at e1 e2;subst e1;subst e2;unfold SrcAt;rw[if_pos rfl];exact ht
   |succ j=>exact h2 j p u (by simpa using e1) (by simpa using e2)
  .simp only[rowAt,aU,aR] at e;obtain⟨x,e1,r',e2,rfl⟩:=e;obtain⟨w,ew,fJ⟩:=rv.get e1;obtain⟨ur,e3,r3⟩:=h3 i r' e2;exact⟨w::ur,by simp[rowAt,ew,e3],.cons fJ r3⟩
def zol{a:Addr}{u:HO}(h:Rd H a u):∃o,H a=some o:=by
 rcases h with h|⟨o,h⟩
 .exact⟨_,h⟩
 .exact⟨_,h⟩
theorem k_ne(I:Inv X pz Z H s){a b:Addr}{o:Obj}(hk:X.K.lookup a=some o)(hf:jO X pz H b):a≠b:=by
 rintro rfl
 have hb:=I.ok.mod.kin a o hk;rcases hf.2.2.2.1 with z|z
 .exact I.ok.noex a o hb z
 .exact absurd (di (di (b7 hb) I.ok.bsz) z) (gw _)
theorem vY(I:Inv X pz Z H s){b:Addr}(hf:jO X pz H b):∀{l:List (Addr×Bool)} {r:List (List V)},SrcsR X.K H l r->∀p∈l,p.1≠b
 |_,_,.nil,p,hp=>by cases hp
 |_,_,.tup h t,p,hp=>by
  rcases List.mem_cons.mp hp with rfl|hp
  .rcases h with h|⟨o,_,_,hk,_⟩
   .obtain⟨o,e⟩:=zol h;exact fH e hf.1
   .exact k_ne I hk hf
  .exact vY I hf t p hp
theorem Ug(I:Inv X pz Z H s):∀{l:List (Addr×Bool)} {r:List (List V)},SrcsR X.K H l r->∀p∈l,fK s.heap p
 |_,_,.nil,p,hp=>by cases hp
 |_,_,.tup h t,p,hp=>by
  rcases List.mem_cons.mp hp with rfl|hp
  .obtain⟨its,_,ht,_⟩:=I.tuple h;unfold fK;rw[if_pos rfl];exact⟨_,ht⟩
  .exact Ug I t p hp
theorem Inv.turnedN{t':Nat}{h':Heap}{ch:List Addr}(I:Inv X pz Z H s)(k:∀b o,b∉ch->s.heap.get? b=some o->h'.get? b=some o)(hf:∀b∈ch,jO X pz H b):Inv X pz Z H { s with heap:=h',toks:=t' }:=by
 have o7:∀b u,H b=some u->b∉ch:=λb u e hb=>by rw[(hf b hb).1] at e;cases e
 refine I.step (g':=s.gens) (d':=s.drawn) (ch:=ch) (λb hb=>⟨(hf b hb).2.2.2.1,(hf b hb).2.1,(hf b hb).2.2.2.2.1,(hf b hb).2.2.2.2.2⟩) (λb o _ _ hc e _=>k b o hc e) (λb o _ _ hc e _=>⟨o.slots,k b o hc e⟩) (λ_ _ _ _ n=>n)
  (λb o hc e=>⟨o,k b o hc e⟩) (λ_ _ e=>e) (λ_ _ _ e=>e) (λb ps e=>⟨#[],by rw[e];simp⟩) (λm hm=>?_) (λb u e=>?_) I.bare
 .obtain⟨o,es,ep,ho,r⟩:=hm;exact⟨o,es,ep,k _ o (λhb=>(hf _ hb).2.1 rfl) ho,r⟩
 .refine(I.hok b u e).stay (λc v hc q=>k c v ?_ q) (λ_ q=>q) λ_ _ q=>q;rcases hc with rfl|hc
  .exact o7 _ _ e
  .exact o7 _ _ hc
theorem Inv.turnedT{t':Nat}{h':Heap}{ch:List Addr}{row:List V}{iR:List Value}(I:Inv X pz Z H s)(k:∀b o,b∉ch->s.heap.get? b=some o->h'.get? b=some o)(hf:∀b∈ch,jO X pz H b)(ht:h'.get? s.heap.objs.size=some (dz iR))(rv:Vals row iR)(hz:row.length<=sizeLine):Inv X pz Z (upd H s.heap.objs.size (.tup row)) { s with heap:=h',toks:=t' }:=by
 have o7:∀b u,H b=some u->b∉ch:=λb u e hb=>by rw[(hf b hb).1] at e;cases e
 have hn:H s.heap.objs.size=none:=I.hok.fresh (bT _);have old:∀b o,s.heap.get? b=some o->b≠s.heap.objs.size:=λb o e=>cW (b7 e);refine I.step (g':=s.gens) (d':=s.drawn) (ch:=ch) (λb hb=>⟨(hf b hb).2.2.2.1,(hf b hb).2.1,(hf b hb).2.2.2.2.1,(hf b hb).2.2.2.2.2⟩) (λb o _ _ hc e _=>k b o hc e) (λb o _ _ hc e _=>⟨o.slots,k b o hc e⟩)
  (λb o _ e n=>by rw[bQ (old b o e)];exact n)
  (λb o hc e=>⟨o,k b o hc e⟩) (λb xs e=>by rw[bQ (fH e hn)];exact e) (λb o u e=>by rw[bQ (fH e hn)];exact e) (λb ps e=>⟨#[],by rw[bQ (fH e hn),e];simp⟩) (λm hm=>?_) (λb u e=>?_) I.bare
 .obtain⟨o,es,ep,ho,r⟩:=hm;exact⟨o,es,ep,k _ o (λhb=>(hf _ hb).2.1 rfl) ho,r⟩
 .by_cases hb:b=s.heap.objs.size
  .subst hb;rw[dI] at e;cases e;exact⟨hz,iR,rv,⟨_,ht,rfl,_,rfl⟩⟩
  .rw[bQ hb] at e;refine(I.hok b u e).stay (λc v hc q=>k c v ?_ q) (λc q=>by rw[bQ (fH q hn)];exact q) λc xs q=>by rw[bQ (fH q hn)];exact q
   rcases hc with rfl|hc
   .exact o7 _ _ e
   .exact o7 _ _ hc
end
structure yE(z TI TO:Addr)(ps:List Sub):Prop where
 TIz:TI≠z
 TOz:TO≠z
 TITO:TI≠TO
 iz:∀p∈ps,p.it≠z
 iTI:∀p∈ps,p.it≠TI
 iTO:∀p∈ps,p.it≠TO
 nd:(ps.map (·.it)).Nodup
theorem zlC{P:Program}{w:World}{K:FgA}{es:List Expr}{kk:Nat}{tp:Pos}{z TI TO:Addr}{ps:List Sub}{srcs:List (Addr×Bool)}(D:yE z TI TO ps)(gO:ps.map (λp=>(p.src,p.tup))=srcs)(hne:ps≠[])(hps:ps.length<=100):
 vI P w K (.Tuple es kk tp) (Itz K srcs) (z::TI::TO::ps.map (·.it)) z (λi h=>IsZip h z TI TO .none/\h.get? TI=some (dz (ps.map λp=>Value.ref p.it))/\(∃ys,h.get? TO=some (dz ys)/\ys.length=ps.length)/\∀p∈ps,cB h p i) where
 mem:=fG
 obj:=λi h ⟨h1,h2,⟨ys,h3,_⟩,h4⟩ b hb=>by
  rcases List.mem_cons.mp hb with rfl|hb
  .exact⟨_,h1,λv z=>by cases z⟩
  rcases List.mem_cons.mp hb with rfl|hb
  .exact⟨_,h2,λv z=>by cases z⟩
  rcases List.mem_cons.mp hb with rfl|hb
  .exact⟨_,h3,λv z=>by cases z⟩
  obtain⟨p,hp,rfl⟩:=List.mem_map.mp hb;exact(h4 p hp).obj
 keep:=λi h h' ⟨h1,h2,⟨ys,h3,h3'⟩,h4⟩ k=>by refine⟨k z fG _ h1,k TI (by simp) _ h2,⟨ys,k TO (by simp) _ h3,h3'⟩,λp hp=>(h4 p hp).at λo e=>k _ ?_ o e⟩;exact cM _ (cM _ (cM _ (List.mem_map.mpr ⟨p,hp,rfl⟩)))
 item:=by
  intro X hP hw hK hc i pz s Z H E I hf st hg;subst hP hw hK;obtain⟨h1,h2,⟨ys,h3,h3'⟩,h4⟩:=st;obtain⟨xss,row,hS,hrow⟩:=hg;obtain⟨us,u1,u2,u3,u4⟩:=Ly I hS;obtain⟨iR,e1,rv⟩:=u3 i row hrow;have hlen:srcs.length=ps.length:=by rw[<-gO,cX]
  have fz:=hf z fG;have Ir:=hf TO (by simp);have fit:∀p∈ps,jO X pz H p.it:=λp hp=>hf _ (cM _ (cM _ (cM _ (List.mem_map.mpr ⟨p,hp,rfl⟩))));have sm:∀p∈ps,(p.src,p.tup)∈srcs:=λp hp=>by rw[<-gO];exact List.mem_map.mpr ⟨p,hp,rfl⟩
  have DD:yF z TI TO ps:=⟨D.TIz,D.TOz,D.TITO,D.iz,D.iTI,D.iTO,λp hp=>vY I fz hS _ (sm p hp),λp hp=>vY I Ir hS _ (sm p hp),λp hp q hq=>vY I (fit q hq) hS _ (sm p hp),D.nd⟩
  have ul:us.length=ps.length:=by rw[u1,hlen]
  have hrl:iR.length=ps.length:=by rw[Vt e1,ul]
  have hat:∀(j:Nat) p xs,ps[j]?=some p->us[j]?=some xs->SrcAt s.heap p xs:=λj p xs hp hx=>by
   have hj:srcs[j]?=some (p.src,p.tup):=by rw[<-gO,gR,hp];rfl
   exact u2 j _ xs hj hx
  refine zkk DD hne hps h1 h2 h3 h3' ul hrl h4 hat (λj xs x hx hr=>Vs e1 hx hr) λh' a1 a2 a3 a4 a5 a6=>?_;refine⟨_,rfl,wpAny_letOwnedTupleGo_zip (s:={ s with heap:=h' }) a1 λh'' b1 b2=>?_⟩;have Qw:s.heap.objs.size≠z:=Nat.ne_of_gt (b7 h1);have kp:∀c o,c∉(z::TO::ps.map (·.it))->s.heap.get? c=some o->h''.get? c=some o:=λc o hc e=>by have c1:c≠z:=λq=>hc (by simp[q]);have c2:c≠TO:=λq=>hc (by simp[q]);have c3:∀p∈ps,c≠p.it:=λp hp q=>hc (cM _ (cM _ (List.mem_map.mpr ⟨p,hp,q.symm⟩)));exact b2.extBut _ _ c1 (a6 c o c1 c2 c3 e)
  have fch:∀b∈z::TO::ps.map (·.it),jO X pz H b:=λb hb=>by
   rcases List.mem_cons.mp hb with rfl|hb
   .exact fz
   rcases List.mem_cons.mp hb with rfl|hb
   .exact Ir
   exact hf b (cM _ (cM _ (cM _ hb)))
  have line:(100:Nat)<=sizeLine:=by decide
  have I1:Inv X pz Z (upd H s.heap.objs.size (.tup row)) { s with heap:=h'' }:=Inv.turnedT (t':=s.toks) I kp fch (b2.extBut _ _ Qw a4) rv (by rw[rv.length,hrl];omega);refine⟨.ref s.heap.objs.size,_,I1,rfl,⟨s.heap.objs.size,row,rfl,I.hok.fresh (bT _),rfl,λxss' h=>by rw[Ve I h hS];exact hrow⟩,⟨b1,?_,⟨iR,b2.extBut _ _ D.TOz a2,hrl⟩,λp hp=>(a3 p hp).at λo e=>b2.extBut _ _ (D.iz p hp) e⟩,λb hb=>?_⟩
  .exact b2.extBut _ _ D.TIz (a6 _ _ D.TIz D.TITO (λp hp=>(D.iTI p hp).symm) h2)
  .have hlt:b<s.heap.objs.size:=by
    rcases List.mem_cons.mp hb with rfl|hb
    .exact b7 h1
    rcases List.mem_cons.mp hb with rfl|hb
    .exact b7 h2
    rcases List.mem_cons.mp hb with rfl|hb
    .exact b7 h3
    obtain⟨p,hp,rfl⟩:=List.mem_map.mp hb;obtain⟨o,e,_⟩:=(h4 p hp).obj;exact b7 e
   rw[bQ (cW hlt)];exact(hf b hb).1
 done:=by
  intro X hP hw hK hc i pz s Z H E I hf st hg;subst hP hw hK;obtain⟨h1,h2,⟨ys,h3,h3'⟩,h4⟩:=st;obtain⟨xss,hS,hrow⟩:=hg;obtain⟨us,u1,u2,u3,u4⟩:=Ly I hS;have e1:=u4 i hrow;have hlen:srcs.length=ps.length:=by rw[<-gO,cX]
  have fz:=hf z fG;have Ir:=hf TO (by simp);have fit:∀p∈ps,jO X pz H p.it:=λp hp=>hf _ (cM _ (cM _ (cM _ (List.mem_map.mpr ⟨p,hp,rfl⟩))));have sm:∀p∈ps,(p.src,p.tup)∈srcs:=λp hp=>by rw[<-gO];exact List.mem_map.mpr ⟨p,hp,rfl⟩
  have DD:yF z TI TO ps:=⟨D.TIz,D.TOz,D.TITO,D.iz,D.iTI,D.iTO,λp hp=>vY I fz hS _ (sm p hp),λp hp=>vY I Ir hS _ (sm p hp),λp hp q hq=>vY I (fit q hq) hS _ (sm p hp),D.nd⟩
  have ul:us.length=ps.length:=by rw[u1,hlen]
  have hat:∀(j:Nat) p xs,ps[j]?=some p->us[j]?=some xs->SrcAt s.heap p xs:=λj p xs hp hx=>by
   have hj:srcs[j]?=some (p.src,p.tup):=by rw[<-gO,gR,hp];rfl
   exact u2 j _ xs hj hx
  obtain⟨p,ps,rfl⟩:=List.exists_cons_of_ne_nil hne;obtain⟨x,us,rfl⟩:=List.exists_cons_of_ne_nil (l:=us) (λq=>by rw[q] at ul;simp at ul);refine zml (I.ok.hd hc) DD h1 h2 (h4 p fG) (hat 0 p x rfl rfl) e1 λh' a6=>⟨rfl,?_⟩
  refine Inv.turnedN (t':=s.toks) (ch:=[z,p.it]) I (λc o hc e=>a6 c o (λq=>hc (by simp[q])) (λq=>hc (by simp[q])) e) λb hb=>?_;rcases List.mem_cons.mp hb with rfl|hb
  .exact fz
  .rw[List.mem_singleton.mp hb];exact fit p fG
 self:=λ_ _ _ _ _ st h=>wpAny_pyIter_zip st.1 h
def zmY:bootBuiltins "zip" = some (.type "zip"):=by decide +kernel
theorem arity(l:List Value)(h2:2<=l.length)(h4:l.length<=4):checkTypeCall "zip" ⟨l,[]⟩=pure ()/\checkBuiltinCall "zip.__new__" ⟨.type "zip" :: l,[]⟩=pure ()/\∀obj,argsOk "object.__init__" ⟨obj::l,[]⟩:=by
 have ao:∀(k:List Value),k.length<=5->k≠[]->argsOk "object.__init__" ⟨k,[]⟩:=λk hk hn=>by
  unfold argsOk;rw[signature?_of (id := "object.__init__") (n:=['_','_','t','i','n','i','_','_']) (o:=['t','c','e','j','b','o']) (by kernel_rfl) F.owner_object];rcases k with _|⟨k1,_|⟨k2,_|⟨k3,_|⟨k4,_|⟨k5,_|⟨k6,r⟩⟩⟩⟩⟩⟩
  .exact absurd rfl hn
  .kernel_rfl
  .kernel_rfl
  .kernel_rfl
  .kernel_rfl
  .kernel_rfl
  .exact absurd hk (by simp only[jb];omega)
 rcases l with _|⟨a,_|⟨b,_|⟨c,_|⟨d,_|⟨e,r⟩⟩⟩⟩⟩
 .exact absurd h2 (by simp only[Ab];omega)
 .exact absurd h2 (by simp only[jb,Ab];omega)
 .exact⟨by kernel_rfl,by kernel_rfl,λo=>ao _ (by simp) (by simp)⟩
 .exact⟨by kernel_rfl,by kernel_rfl,λo=>ao _ (by simp) (by simp)⟩
 .exact⟨by kernel_rfl,by kernel_rfl,λo=>ao _ (by simp) (by simp)⟩
 .exact absurd h4 (by simp only[jb];omega)
def DP(K:FgA)(ta:TA):TI:=λZ H R=>ta Z H λvs H1=>∃srcs:List (Addr×Bool),vs=srcs.map (λp=>V.ref p.1)/\2<=srcs.length/\srcs.length<=4/\(∃xss,SrcsR K H1 srcs xss)/\R (Itz K srcs) H1
theorem VB:∀{l:List (Addr×Bool)} {us:List Value},Vals (l.map λp=>V.ref p.1) us->us=l.map λp=>Value.ref p.1
 |[],_,.nil=>rfl
 |_::_,_,.cons r t=>by cases r;rw[VB t];rfl
theorem zq2{X:Cx}{es ts:List Expr}{kk:Nat}{tp p pos:Pos}{ta:TA}{e:Expr}(hg:Gl X "zip")(hm:X.mg "zip" = none)(ha:PA X (e::es) ta)(hst:starEach (e::es) X.env=(false,eval e X.env)::starEach es X.env)(hpl:(backTo pos (starEach es X.env)).any (·.1)=false):PI X (.Tuple ts kk tp) (.Call (.Name "zip" p) (e::es) [] pos) (DP X.K ta):=by
 intro pz s Z H R I h;refine Call_ (rA I hg hm zmY (PyProof.Rows.callWith_type1 (bK (ha pos pz s Z H _ I h) λus s1 ⟨vs,H1,I1,r1,q1⟩=>?_) hst hpl));obtain⟨srcs,e0,h2,h4,⟨xss,hS⟩,q⟩:=q1;subst e0;have eu:=VB r1;subst eu;obtain⟨c1,c2,c3⟩:=arity (srcs.map λp=>Value.ref p.1) (by simpa using h2) (by simpa using h4);refine callType_new F.called_zip (by decide) c1 c2 c3 F.entry_zip_new (zkv (l:=srcs) (by omega)) ⟨Ug I1 hS,λh' z1 z2 z3 z4 z5 z6=>?_⟩;show _/\_;refine⟨⟨_,z1,rfl⟩,?_⟩;refine wpAny_pyIter_zip (s:={ s1 with heap:=h' }) z1 ?_;have I2:Inv X pz Z H1 { s1 with heap:=h' }:=I1.kept (t':=s1.toks) z6;have hl:(dH s1.heap.objs.size srcs).length=srcs.length:=Lz _ _;have hmap:∀(n:Nat) (l:List (Addr×Bool)),(dH n l).map (λp=>(p.src,p.tup))=l:=λn l=>by
  induction l generalizing n with
  |nil=>rfl
  |cons a r ih=>obtain⟨a,t⟩:=a;rw[dH,iC,ih]
 have lt:∀p∈dH s1.heap.objs.size srcs,s1.heap.objs.size<=p.it/\p.it<s1.heap.objs.size+srcs.length:=λp hp=>⟨(GD _ _ p hp).1,(GD _ _ p hp).2.1⟩
 refine⟨_,_,_,_,H1,rfl,I2,zlC (K:=X.K) (srcs:=srcs) (ps:=dH s1.heap.objs.size srcs) (z:=s1.heap.objs.size+srcs.length+2) (TI:=s1.heap.objs.size+srcs.length) (TO:=s1.heap.objs.size+srcs.length+1)
  ⟨cW (by omega),cW (by omega),cW (by omega),λp hp=>cW (di (lt p hp).2 (by omega)),λp hp=>cW (lt p hp).2,λp hp=>cW (di (lt p hp).2 (by omega)),Ui _ _⟩ (hmap _ _) (λz=>by rw[z] at hl;simp at hl;omega) (by omega),⟨z1,z2,⟨_,z3,by simp⟩,z4⟩,λb hb=>?_,q⟩
 have hge:s1.heap.objs.size<=b:=by
  rcases List.mem_cons.mp hb with rfl|hb
  .omega
  rcases List.mem_cons.mp hb with rfl|hb
  .omega
  rcases List.mem_cons.mp hb with rfl|hb
  .omega
  obtain⟨p,hp,rfl⟩:=List.mem_map.mp hb;exact(lt p hp).1
 exact I1.fpOk hge (I1.hok.fresh hge)
end MZ
end
section
namespace MX
open PySem PySem.Spec PyProof.Rows L2
inductive z7 where
 |fix (xs:List D)|lst (n:Nat)|zip (ds:List D)|itm (n m:Nat)|enm (n:Nat)
noncomputable def CQ(S:So):D->Option (List D)
 |.tup xs=>some xs
 |_=>none
noncomputable def qR(S:So):List D->Option (List (List D))
 |[]=>some []
 |d::r=>(CQ S d).bind λxs=>(qR S r).map (xs::·)
noncomputable def Ri:List (List D)->Option Nat
 |[]=>none
 |[xs]=>some xs.length
 |xs::r=>(Ri r).map λn=>min xs.length n
noncomputable def dJ:z7->Nat->So->Option (Option D)
 |.fix xs,i,_=>some xs[i]?
 |.lst n,i,S=>match S[n]? with
  |some (.lst xs)=>some xs[i]?
  |some (.frz xs)=>some xs[i]?
  |_=>none
 |.zip ds,i,S=>(qR S ds).bind λxss=>match MZ.rowAt xss i with
  |some r=>some (some (.tup r))
  |none=>match(xss.headD [])[i]? with
   |none=>some none
   |some _=>none
 |.itm n m,i,S=>match S[n]? with
  |some (.dct xs)=>if xs.length=m then some ((xs[i]?).map λx => .tup [kD x.1,.int x.2]) else none
  |_=>none
 |.enm n,i,S=>match S[n]? with
  |some (.lst xs)=>some ((xs[i]?).map λx => .tup [.int (i:Nat),x])
  |_=>none
noncomputable def mU:z7->So->Option Nat
 |.fix xs,_=>some xs.length
 |.lst n,S=>match S[n]? with
  |some (.lst xs)=>some xs.length
  |some (.frz xs)=>some xs.length
  |_=>none
 |.zip ds,S=>(qR S ds).bind Ri
 |.itm n m,S=>match S[n]? with
  |some (.dct xs)=>if xs.length=m then some m else none
  |_=>none
 |.enm n,S=>match S[n]? with
  |some (.lst xs)=>some xs.length
  |_=>none
abbrev IF:=Sg->So->Option (z7×So)
def zZ(K:FgA)(H₀:Hp)(α₀:List Addr)(j:z7)(J:It):Prop:=∀(i:Nat) H α S,Ext K H₀ α₀ H α->aq K H α S ->
 (dJ j i S=some none->J.stop i H)/\∀d,dJ j i S=some (some d)->J.go i H/\∀x H',J.yld i H x H'->Same H H'/\Rep K H' α d x
def Yc(K:FgA)(f:IF):TI:=λZ H R=>∃σd S α j S',bA K H α σd Z/\aq K H α S/\f σd S=some (j,S')/\∀J H' α',aq K H' α' S'->Ext K H α H' α'->zZ K H' α' j J->R J H'
def SI(X:Cx)(tg e:Expr)(f:IF):Prop:=PI X tg e (Yc X.K f)
noncomputable def fP(fe:EF):IF:=λZ S=>(fe Z S).bind λr=>match r.1 with
 |.tup xs=>some (.fix xs,r.2)
 |.ref n=>match r.2[n]? with
  |some (.lst _)=>some (.lst n,r.2)
  |some (.frz _)=>some (.lst n,r.2)
  |_=>none
 |_=>none
def gZ(lo:Int)(n:Nat):List D:=(List.range n).map λk => .int (lo+(k:Nat))
noncomputable def nj(fa:AF):IF:=λZ S=>(fa Z S).bind λr=>match r.1 with
 |[.int j]=>if -(2 ^ 62)<=j/\j<2 ^ 62 then some (.fix (gZ 0 j.toNat),r.2) else none
 |_=>none
noncomputable def xJ(fa:AF):IF:=λZ S=>(fa Z S).bind λr=>match r.1 with
 |[.int i,.int j]=>if(-(2 ^ 62)<=i/\i<2 ^ 62) /\ -(2 ^ 62)<=j/\j<2 ^ 62 then some (.fix (gZ i (j - i).toNat),r.2) else none
 |_=>none
noncomputable def qK(fa:AF):IF:=λZ S=>(fa Z S).bind λr=>if 2<=r.1.length/\r.1.length<=4 then(qR r.2 r.1).map λ_=>(.zip r.1,r.2) else none
inductive vH(K:FgA)(H:Hp)(α:List Addr):List D->List (Addr×Bool)->Prop
 |nil:vH K H α [] []
 |tup {a:Addr} {xs:List D} {vs:List V} {ds:List D} {l:List (Addr×Bool)}:dF K H a vs->aA K H α xs vs->vH K H α ds l->vH K H α (.tup xs::ds) ((a,true)::l)
inductive yH(K:FgA)(H:Hp)(α:List Addr):List (List D)->List (List V)->Prop
 |nil:yH K H α [] []
 |cons {xs:List D} {vs:List V} {r:List (List D)} {q:List (List V)}:aA K H α xs vs->yH K H α r q->yH K H α (xs::r) (vs::q)
theorem Hv{K:FgA}{H H1:Hp}{α α1:List Addr}{S1:So}(x1:Ext K H α H1 α1)(s1:aq K H1 α1 S1):∀{ds:List D} {l:List (Addr×Bool)} {xss:List (List D)},vH K H α ds l->qR S1 ds=some xss->∃jZ,MZ.SrcsR K H1 l jZ/\yH K H1 α1 xss jZ
 |_,_,_,.nil,e=>by cases e;exact⟨[],.nil,.nil⟩
 |_,_,_,.tup h r t,e=>by simp only[qR,CQ,bM,aR] at e;obtain⟨yss,e1,rfl⟩:=e;obtain⟨jZ,h1,h2⟩:=Hv x1 s1 t e1;exact⟨_,.tup (x1.tups _ _ h) h1,.cons (r.mono x1) h2⟩
theorem Vm{K:FgA}{H:Hp}{α:List Addr}{i:Nat}:∀{xss:List (List D)} {jZ:List (List V)},yH K H α xss jZ->∀row,MZ.rowAt xss i=some row->∃rK,MZ.rowAt jZ i=some rK/\aA K H α row rK
 |_,_,.nil,row,h=>by cases h;exact⟨[],rfl,.nil⟩
 |_,_,.cons h t,row,e=>by simp only[MZ.rowAt,aU,aR] at e;obtain⟨x,e1,r',e2,rfl⟩:=e;obtain⟨v,hv,rv⟩:=h.get e1;obtain⟨vr,e3,r3⟩:=Vm t r' e2;exact⟨v::vr,by simp[MZ.rowAt,hv,e3],.cons rv r3⟩
theorem zkS{xss:List (List D)}{jZ:List (List V)}(h:yH K H α xss jZ)(e:(xss.headD [])[i]?=none):(jZ.headD [])[i]?=none:=by
 cases h with
 |nil=>simp
 |@cons xs vs _ _ h t=>exact kh (by show vs.length<=i;rw[<-h.length];exact List.getElem?_eq_none_iff.mp e)
theorem zpf{l:List (Addr×Bool)}(h:vH K H α ds l):zZ K H α (.zip ds) (MZ.Itz K l):=λi H1 α1 S1 x1 s1=>by
 simp only[dJ,aU];refine⟨fun⟨xss,e1,e2⟩=>?_,λd ⟨xss,e1,e2⟩=>?_⟩
 .obtain⟨jZ,h1,h2⟩:=Hv x1 s1 h e1;split at e2
  .cases e2
  .split at e2
   .rename_i q;exact⟨jZ,h1,zkS h2 q⟩
   .cases e2
 .obtain⟨jZ,h1,h2⟩:=Hv x1 s1 h e1;split at e2
  .rename_i row e9;cases e2;obtain⟨rK,e3,r3⟩:=Vm h2 row e9;refine⟨⟨jZ,rK,h1,e3⟩,λx H' y=>?_⟩;obtain⟨p,row',rfl,hp,rfl,hy⟩:=y;have:=hy jZ h1;rw[e3] at this;cases this;exact⟨lM hp,.tup (dF.of dI) (r3.mono (Same.ext (lM hp)))⟩
  .split at e2<;>cases e2
theorem Ue{K:FgA}{H:Hp}{α:List Addr}{S:So}(hs:aq K H α S):∀{ds:List D} {vs:List V} {xss:List (List D)},aA K H α ds vs->qR S ds=some xss->∃l,vH K H α ds l/\vs=l.map λp=>V.ref p.1
 |_,_,_,.nil,_=>⟨[],.nil,rfl⟩
 |_,_,_,.cons r rr,e=>by
  simp only[qR,aU,aR] at e;obtain⟨xs,e0,yss,e1,rfl⟩:=e;obtain⟨l,h1,h2⟩:=Ue hs rr e1;cases r with
  |tup h q=>exact⟨_,.tup h q h1,by rw[h2];rfl⟩
  |_=>cases e0
theorem Vd{K:FgA}{H:Hp}{α:List Addr}:∀{ds:List D} {l:List (Addr×Bool)},vH K H α ds l->ds.length=l.length
 |_,_,.nil=>rfl
 |_,_,.tup _ _ t=>by simp[Vd t]
section
variable {X:Cx}{tg:Expr}
theorem PI.or{t t':TI}(h:PI X tg e t)(h':PI X tg e t'):PI X tg e (λZ H R=>t Z H R\/t' Z H R):=λpz s Z H R I q=>by
 rcases q with q|q
 .exact h pz s Z H R I q
 .exact h' pz s Z H R I q
theorem zpg(h:dF K H a vs)(r:aA K H α ds vs):zZ K H α (.fix ds) (QZ K a):=λi H1 α1 S1 x1 s1=>by
 have h1:=x1.tups _ _ h;have r1:=r.mono x1;refine⟨λe=>?_,λd e=>?_⟩
 .have e':ds[i]?=none:=Option.some.inj e;exact⟨vs,h1,by rw[<-r.length];exact List.getElem?_eq_none_iff.mp e'⟩
 .obtain⟨v,e1,q⟩:=r1.get (Option.some.inj e);refine⟨⟨vs,v,h1,e1⟩,λx H' y=>?_⟩;obtain⟨rfl,y⟩:=y;have:=y vs h1;rw[e1] at this;cases this;exact⟨Same.refl _,q⟩
theorem TX(h:α[n]?=some a):zZ K H α (.lst n) (zY K a):=λi H1 α1 S1 x1 s1=>by
 have h1:=x1.pre _ _ h;have core:∀ds,(∃vs,cU K H1 a vs/\aA K H1 α1 ds vs)->((some ds[i]?=some (none:Option D))->(zY K a).stop i H1)/\∀d,some ds[i]?=some (some d)->(zY K a).go i H1/\∀x H',(zY K a).yld i H1 x H'->Same H1 H'/\Rep K H' α1 d x:=λds ⟨vs,q,r⟩=>by
  refine⟨λe=>?_,λd e=>?_⟩
  .have e':ds[i]?=none:=Option.some.inj e;exact⟨vs,q,by rw[<-r.length];exact List.getElem?_eq_none_iff.mp e'⟩
  .obtain⟨v,e1,rv⟩:=r.get (Option.some.inj e);refine⟨⟨vs,v,q,e1⟩,λx H' y=>?_⟩;obtain⟨rfl,y⟩:=y;have:=y vs q;rw[e1] at this;cases this;exact⟨Same.refl _,rv⟩
 unfold dJ;cases hm:S1[n]? with
 |none=>simp only[hm];exact⟨λe=>(nomatch e),λd e=>(nomatch e)⟩
 |some o =>
  have hob:=s1.obj _ _ _ hm h1;cases o with
  |lst ds=>simp only[hm];obtain⟨vs,q,r⟩:=hob;exact core ds ⟨vs,cU.of q,r⟩
  |frz ds=>simp only[hm];obtain⟨vs,q,r⟩:=hob;exact core ds ⟨vs,q.sq,r⟩
  |ins C fs=>simp only[hm];exact⟨λe=>(nomatch e),λd e=>(nomatch e)⟩
  |dct xs=>simp only[hm];exact⟨λe=>(nomatch e),λd e=>(nomatch e)⟩
  |tbl x=>simp only[hm];exact⟨λe=>(nomatch e),λd e=>(nomatch e)⟩
theorem Nf{lo:Int}:(gZ lo n)[i]?=if i<n then some (.int (lo+(i:Nat))) else none:=by
 unfold gZ;rw[gR];by_cases h:i<n
 .rw[if_pos h,List.getElem?_range h];rfl
 .rw[if_neg h,kh (by simpa using h)];rfl
theorem V0{lo:Int}:zZ K H α (.fix (gZ lo n)) (Ez lo n):=λi H1 α1 S1 x1 s1=>by
 simp only[dJ];rw[Nf];by_cases h:i<n
 .rw[if_pos h];refine⟨λe=>(nomatch e),λd e=>⟨h,λx H' y=>?_⟩⟩;obtain⟨rfl,rfl⟩:=y;cases e;exact⟨Same.refl _,.int _⟩
 .rw[if_neg h];exact⟨λ_=>Nat.le_of_not_lt h,λd e=>(nomatch e)⟩
theorem zqz(he:SE X e fe):SI X tg e (fP fe):=by
 refine PI.imp (PI.or (zq3 he) (zox he)) λZ H R h=>?_;obtain⟨σd,S,α,j,S',hv,hs,hf,k⟩:=h;unfold fP at hf;simp only[aU] at hf;obtain⟨⟨d,S1⟩,e1,e2⟩:=hf;cases d with
 |tup xs =>
  cases e2;refine .inl ⟨σd,S,α,.tup xs,_,hv,hs,e1,λv H1 α1 s1 x1 r1=>?_⟩;cases r1 with
  |tup h r=>exact⟨_,rfl,⟨_,h⟩,k _ _ _ s1 x1 (zpg h r)⟩
 |ref n =>
  refine .inr ⟨σd,S,α,.ref n,S1,hv,hs,e1,λv H1 α1 s1 x1 r1=>?_⟩;cases r1 with
  |ref h =>
   refine⟨_,rfl,?_⟩;simp only at e2;cases hm:S1[n]? with
   |none=>simp[hm] at e2
   |some o =>
    have hob:=s1.obj _ _ _ hm h;cases o with
    |lst ds=>simp only[hm] at e2;cases e2;obtain⟨vs,q,r⟩:=hob;exact⟨⟨vs,cU.of q⟩,k _ _ _ s1 x1 (TX h)⟩
    |frz ds=>simp only[hm] at e2;cases e2;obtain⟨vs,q,r⟩:=hob;exact⟨⟨vs,q.sq⟩,k _ _ _ s1 x1 (TX h)⟩
    |ins C fs=>simp[hm] at e2
    |dct xs=>simp[hm] at e2
    |tbl x=>simp[hm] at e2
 |_=>cases e2
theorem zjT{a:Expr}(hg:Gl X "range")(hm:X.mg "range" = none)(ha:SA X [a] fa)(hst:starEach [a] X.env=[(false,eval a X.env)]):SI X tg (.Call (.Name "range" p) [a] [] pos) (nj fa):=by
 refine PI.imp (zj6 hg hm ha hst) λZ H R h=>?_;obtain⟨σd,S,α,j,S',hv,hs,hf,k⟩:=h;unfold nj at hf;simp only[aU] at hf;obtain⟨⟨ds,S1⟩,e1,e2⟩:=hf;refine⟨σd,S,α,ds,S1,hv,hs,e1,λvs H1 α1 s1 x1 r1=>?_⟩;split at e2
 .rename_i jj hj;simp only at hj;subst hj;split at e2
  .rename_i hb;cases e2;cases r1 with
   |cons r rr=>cases r;cases rr;exact⟨jj,rfl,hb.1,hb.2,k _ _ _ s1 x1 V0⟩
  .cases e2
 .cases e2
theorem zjS{a b:Expr}(hg:Gl X "range")(hm:X.mg "range" = none)(ha:SA X [a,b] fa)(hst:starEach [a,b] X.env=[(false,eval a X.env),(false,eval b X.env)])(hst2:starEach [b] X.env=[(false,eval b X.env)]):
 SI X tg (.Call (.Name "range" p) [a,b] [] pos) (xJ fa):=by
 refine PI.imp (zj5 hg hm ha hst hst2) λZ H R h=>?_;obtain⟨σd,S,α,j,S',hv,hs,hf,k⟩:=h;unfold xJ at hf;simp only[aU] at hf;obtain⟨⟨ds,S1⟩,e1,e2⟩:=hf;refine⟨σd,S,α,ds,S1,hv,hs,e1,λvs H1 α1 s1 x1 r1=>?_⟩;split at e2
 .rename_i ii jj hj;simp only at hj;subst hj;split at e2
  .rename_i hb;cases e2;cases r1 with
   |cons r rr =>
    cases r;cases rr with
    |cons r rr=>cases r;cases rr;exact⟨ii,jj,rfl,⟨hb.1.1,hb.1.2,hb.2.1,hb.2.2⟩,k _ _ _ s1 x1 V0⟩
  .cases e2
 .cases e2
theorem zqy{ts:List Expr}{tp:Pos}(hg:Gl X "zip")(hm:X.mg "zip" = none)(ha:SA X (e::es) fa)(hst:starEach (e::es) X.env=(false,eval e X.env)::starEach es X.env)(hpl:(backTo pos (starEach es X.env)).any (·.1)=false):SI X (.Tuple ts kk tp) (.Call (.Name "zip" p) (e::es) [] pos) (qK fa):=by
 refine PI.imp (MZ.zq2 hg hm ha hst hpl) λZ H R h=>?_;obtain⟨σd,S,α,j,S',hv,hs,hf,k⟩:=h;unfold qK at hf;simp only[aU] at hf;obtain⟨⟨ds,S1⟩,e1,e2⟩:=hf;refine⟨σd,S,α,ds,S1,hv,hs,e1,λvs H1 α1 s1 x1 r1=>?_⟩;split at e2
 .rename_i hb;simp only[aR] at e2;obtain⟨xss,e3,e4⟩:=e2;cases e4;obtain⟨l,h1,h2⟩:=Ue s1 r1 e3;have hl:=Vd h1;obtain⟨jZ,h3,_⟩:=Hv Ext.refl s1 h1 e3;exact⟨l,h2,by rw[<-hl];exact hb.1,by rw[<-hl];exact hb.2,⟨jZ,h3⟩,k _ _ _ s1 x1 (zpf h1)⟩
 .cases e2
end
noncomputable def jw(nx:Nat->So->Option (Option D))(g:GF)(f:SF):Nat->Nat->SF
 |0,i=>λZ S=>match nx i S with
  |some none=>some (.nx,Z,S)
  |_=>none
 |k+1,i=>λZ S=>match nx i S with
  |some (some d)=>(g d Z S).bind λq=>(f q.1 q.2).bind λr=>match r.1 with
   |.nx=>jw nx g f k (i+1) r.2.1 r.2.2
   |.ct=>jw nx g f k (i+1) r.2.1 r.2.2
   |.bk=>some (.nx,r.2.1,r.2.2)
   |.rt d=>some (.rt d,r.2.1,r.2.2)
  |_=>none
def oE(fi:IF)(g:GF)(f:SF):SF:=λZ S=>(fi Z S).bind λr=>(mU r.1 r.2).bind λn=>jw (dJ r.1) g f n 0 Z r.2
theorem zqo{iter:Expr}{body:List Stmt}{fi:IF}{g:GF}{f:SF}(hp:PassesOwn (model X.prog X.w) X.A X.env X.xe)(hc:X.calm=true)(hi:SI X tg iter fi)(hg:SG X tg g)(hb:vf X body f)(hfs:∀x,foldedSetIterable iter X.env x=pure x):SS X (.For tg iter body [] pos) (oE fi g f):=by
 refine PS.imp (zqY hp hc hi hg hb hfs) λD Z H h=>?_;obtain⟨σd,S,α,fl,σd',S',hv,hs,hf,k⟩:=h;unfold oE at hf;simp only[aU] at hf;obtain⟨⟨j,S1⟩,e1,n,e2,e3⟩:=hf;refine⟨σd,S,α,j,S1,hv,hs,e1,λJ H1 α1 s1 x1 jr=>?_⟩;refine⟨λi m σ2 H2=>∃σd2 S2 α2,bA X.K H2 α2 σd2 σ2/\aq X.K H2 α2 S2/\Ext X.K H1 α1 H2 α2/\jw (dJ j) g f m i σd2 S2=some (fl,σd',S'),⟨n,σd,S1,α1,hv.mono x1,s1,Ext.refl,e3⟩,?_⟩
 rintro i m σ2 H2 ⟨σd2,S2,α2,v2,s2,x2,e⟩
 obtain⟨pA,Ql⟩:=jr i H2 α2 S2 x2 s2;cases m with
 |zero =>
  unfold jw at e;split at e
  .rename_i hn;cases e;exact .inl ⟨pA hn,k _ _ _ v2 s2 (x1.trans x2)⟩
  .cases e
 |succ m =>
  unfold jw at e;split at e
  .rename_i d hn;obtain⟨hgo,hy⟩:=Ql d hn;simp only[aU] at e;obtain⟨⟨σ3,S3⟩,e4,⟨Yu,σ4,S4⟩,e5,e6⟩:=e;refine .inr ⟨hgo,λσ5 H5=>∃σd5 S5 α5,bA X.K H5 α5 σd5 σ5/\aq X.K H5 α5 S5/\Ext X.K H1 α1 H5 α5/\jw (dJ j) g f m (i+1) σd5 S5=some (fl,σd',S'),λσ5 H5 q=>⟨m,Nat.lt_succ_self _,q⟩,λx H3 y=>?_⟩;obtain⟨sm,rx⟩:=hy x H3 y;have x3:Ext X.K H2 α2 H3 α2:=Same.ext sm;refine⟨σd2,S2,α2,d,σ3,S3,v2.mono x3,s2.mono sm,rx,e4,λσ5 H5 α5 v5 s5 x5=>?_⟩;refine⟨σ3,S3,α5,Yu,σ4,S4,v5,s5,e5,λσ6 H6 α6 v6 s6 x6=>?_⟩;have xx:=((x2.trans x3).trans x5).trans x6;cases Yu with
   |nx=>exact⟨σ4,S4,α6,v6,s6,xx,e6⟩
   |ct=>exact⟨σ4,S4,α6,v6,s6,xx,e6⟩
   |bk=>cases e6;exact k _ _ _ v6 s6 (x1.trans xx)
   |rt d=>cases e6;exact k _ _ _ v6 s6 (x1.trans xx)
  .cases e
def oG(src:List (Option Nat))(Z:Sg):Sg:=src.map λo=>o.bind λi=>(Z[i]?).join
theorem zlL{σd:Sg}{Z:L2.St}{src:List (Option Nat)}(h:bA K H α σd Z):bA K H α (oG src σd) (mq src Z):=by
 refine⟨by simp[oG,mq],λi d e=>?_⟩;unfold oG at e;rw[gR] at e;cases q:src[i]? with
 |none=>rw[q] at e;simp at e
 |some o =>
  rw[q] at e;cases o with
  |none=>simp at e
  |some j =>
   simp only[m8,bM,Option.some.injEq] at e;cases q2:σd[j]? with
   |none=>rw[q2] at e;simp at e
   |some o2 =>
    rw[q2] at e;simp at e;subst e;obtain⟨v,h1,h2⟩:=h.2 j d q2;exact⟨v,by unfold mq;rw[gR,q];simp[h1],h2⟩
def d8:TF:=λ_ S=>some (true,S)
noncomputable def jo(nx:Nat->So->Option (Option D))(g:GF)(t:TF)(fe:EF):Nat->Nat->Sg->So->List D->Option (List D×So)
 |0,i,_,S,acc=>match nx i S with
  |some none=>some (acc,S)
  |_=>none
 |k+1,i,τ,S,acc=>match nx i S with
  |some (some d)=>(g d τ S).bind λq=>(t q.1 q.2).bind λb=>if b.1=true then(fe q.1 b.2).bind λr=>jo nx g t fe k (i+1) q.1 r.2 (acc++[r.1]) else jo nx g t fe k (i+1) q.1 b.2 acc
  |_=>none
def Ij(fi:IF)(g:GF)(t:TF)(fe:EF)(src:List (Option Nat)):Sg->So->Option (List D×So):=λZ S=>(fi Z S).bind λr=>(mU r.1 r.2).bind λn=>if n<=sizeLine then jo (dJ r.1) g t fe n 0 (oG src Z) r.2 [] else none
def eV(fi:IF)(g:GF)(t:TF)(fe:EF)(src:List (Option Nat)):EF:=λZ S=>(Ij fi g t fe src Z S).map λq=>(.ref q.2.length,q.2++[.lst q.1])
def vd(X:Cx)(ifs:List Expr)(t:TF):Prop:=yu X ifs (Dg X.K t)
def znP:vd X [] d8:=λpz s Z H Q I h=>zop pz s Z H Q I (by
 obtain⟨σd,S,α,b,S',hv,hs,hf,k⟩:=h;cases hf;exact k _ _ hs Ext.refl)
def znO{c:Expr}{t:TF}(h:ST X c t):vd X [c] t:=zoo h
section
variable {X:Cx}{elt tg iter:Expr}{ifs:List Expr}{scope:Scope}{pos:Pos}{N':List Str}{src:List (Option Nat)}{fi:IF}{g:GF}{t:TF}{fe:EF}
theorem T5{σd:Sg}{Z:L2.St}{Fin:List V->Hp->Prop}(hv:bA K H α σd Z)(hs:aq K H α S)(hf:Ij fi g t fe src σd S=some (ds,S'))(k:∀ys H' α',aq K H' α' S'->Ext K H α H' α'->aA K H' α' ds ys->Fin ys H'):
 Yc K fi Z H λJ H1=>∃W,(∃m,W 0 m [] (mq src Z) H1)/\IK J (PK K g) (Dg K t) (wY K fe) Fin W:=by
 unfold Ij at hf;simp only[aU] at hf;obtain⟨⟨j,S1⟩,e1,n,e2,e3⟩:=hf;split at e3
 .rename_i hn;refine⟨σd,S,α,j,S1,hv,hs,e1,λJ H1 α1 s1 x1 jr=>?_⟩;refine⟨λi m ys τ H2=>∃σd2 S2 α2 acc,bA K H2 α2 σd2 τ/\aq K H2 α2 S2/\Ext K H1 α1 H2 α2/\aA K H2 α2 acc ys/\acc.length+m<=sizeLine/\jo (dJ j) g t fe m i σd2 S2 acc=some (ds,S'),
   ⟨n,oG src σd,S1,α1,[],zlL (hv.mono x1),s1,Ext.refl,.nil,by simpa using hn,e3⟩,?_⟩
  rintro i m ys τ H2 ⟨σd2,S2,α2,acc,v2,s2,x2,r2,hl,e⟩
  obtain⟨pA,Ql⟩:=jr i H2 α2 S2 x2 s2;cases m with
  |zero =>
   unfold jo at e;split at e
   .rename_i hn;cases e;exact .inl ⟨pA hn,k _ _ _ s2 (x1.trans x2) r2⟩
   .cases e
  |succ m =>
   unfold jo at e;split at e
   .rename_i d hn;obtain⟨hgo,hy⟩:=Ql d hn;simp only[aU] at e;obtain⟨⟨σ3,S3⟩,e4,⟨b,S4⟩,e5,e6⟩:=e;refine .inr ⟨hgo,by rw[<-r2.length];omega,λx H3 y=>?_⟩;obtain⟨sm,rx⟩:=hy x H3 y;have x3:Ext K H2 α2 H3 α2:=Same.ext sm;refine⟨σd2,S2,α2,d,σ3,S3,v2.mono x3,s2.mono sm,rx,e4,λσ5 H5 α5 v5 s5 x5=>?_⟩;refine⟨σ3,S3,α5,b,S4,v5,s5,e5,λH6 α6 s6 x6=>?_⟩;cases b with
    |false =>
     rw[if_neg fO];rw[if_neg fO] at e6;exact⟨m,Nat.lt_succ_self _,σ3,S4,α6,acc,v5.mono x6,s6,((x2.trans x3).trans x5).trans x6,((r2.mono x3).mono x5).mono x6,by omega,e6⟩
    |true =>
     rw[if_pos rfl];rw[if_pos rfl] at e6;simp only[aU] at e6;obtain⟨⟨z,S7⟩,e7,e8⟩:=e6;refine⟨σ3,S4,α6,z,S7,v5.mono x6,s6,e7,λw H8 α8 s8 x8 r8=>?_⟩;exact⟨m,Nat.lt_succ_self _,σ3,S7,α8,acc++[z],(v5.mono x6).mono x8,s8,(((x2.trans x3).trans x5).trans x6).trans x8,((((r2.mono x3).mono x5).mono x6).mono x8).append (.cons r8 .nil),by simp;omega,e8⟩
   .cases e
 .cases e3
theorem WK(hY:∀Y,oJ X scope N' Y->SG Y tg g/\vd Y ifs t/\SE Y elt fe):∀Y,oJ X scope N' Y->PG Y tg (PK X.K g)/\yu Y ifs (Dg X.K t)/\PE Y elt (wY X.K fe):=λY hy=>by obtain⟨h1,h2,h3⟩:=hY Y hy;unfold SG at h1;unfold vd at h2;unfold SE at h3;rw[hy.K] at h1 h2 h3;exact⟨h1,h2,h3⟩
theorem Ru(hc:X.calm=true)(ok:qX X scope N' src)(hi:SI X tg iter fi)(hY:∀Y,oJ X scope N' Y->SG Y tg g/\vd Y ifs t/\SE Y elt fe)(hfs:∀x,foldedSetIterable iter X.env x=pure x):SE X (.ListComp elt [⟨tg,iter,ifs,0⟩] scope pos) (eV fi g t fe src):=by
 refine PE.imp (Y5 hc ok hi (WK hY) hfs) λZ H Q h=>?_;obtain⟨σd,S,α,z,S',hv,hs,hf,k⟩:=h;unfold eV at hf;simp only[aR] at hf;obtain⟨⟨ds,S1⟩,e1,e2⟩:=hf;cases e2;refine T5 hv hs e1 λys H' α' s' x' r' p hp=>?_;obtain⟨s2,x2⟩:=s'.snoc (p:=p) (o := .lst ds) (u := .lst ys) hp λα'' e=>⟨_,dI,r'.mono e⟩
 exact k _ _ _ s2 (x'.trans x2) (.ref (by rw[<-s'.len];simp))
theorem zlJ{py:Pos}(hN:X.N.Nodup)(Qo:X.N[i]?=some y)(hy:X.env.kindOf y=some .local)(hsw:swapsWith (.ListComp elt [⟨tg,iter,ifs,0⟩] scope pos) (some (.Name y py)) spos.line X.env=pure true)(hc:X.calm=true)(ok:qX X scope N' src)(hi:SI X tg iter fi)(hY:∀Y,oJ X scope N' Y->SG Y tg g/\vd Y ifs t/\SE Y elt fe)(hfs:∀x,foldedSetIterable iter X.env x=pure x):SS X (.Assign [.Name y py] (.ListComp elt [⟨tg,iter,ifs,0⟩] scope pos) spos) (bD (eV fi g t fe src) (aL i)):=by
 refine PS.imp (zmb hN Qo hy hsw hc ok hi (WK hY) hfs) λD Z H h=>?_;obtain⟨σd,S,α,fl,σd',S',hv,hs,hf,k⟩:=h;unfold bD eV at hf;simp only[aU,aR] at hf;obtain⟨⟨d,S1⟩,⟨⟨ds,S2⟩,e1,e2⟩,⟨σ1,S3⟩,e3,e4⟩:=hf;cases e4;cases e3;cases e2;refine T5 hv hs e1 λys H' α' s' x' r' p hp=>?_;obtain⟨s2,x2⟩:=s'.snoc (p:=p) (o := .lst ds) (u := .lst ys) hp λα'' e=>⟨_,dI,r'.mono e⟩
 exact k _ _ _ (((hv.mono x').mono x2).set (.ref (by rw[<-s'.len];simp)) i) s2 (x'.trans x2)
end
noncomputable def iD:GN
 |[.tup xs],S=>some (.int xs.length,S)
 |[.str z],S=>if z.length<=sizeLine then some (.int z.length,S) else none
 |[.ref n],S=>match S[n]? with
  |some (.lst xs)=>some (.int xs.length,S)
  |some (.frz xs)=>some (.int xs.length,S)
  |_=>none
 |_,_=>none
noncomputable def tR:GN
 |[.int i],S=>some (.int (if i<0 then -i else i),S)
 |_,_=>none
noncomputable def mC:List D->Option (List Int)
 |[]=>some []
 |.int i::r=>(mC r).map (i::·)
 |_::_=>none
def jx:List Int->Option Int
 |[]=>none
 |i::r=>some (r.foldl (λa b=>if b<a then b else a) i)
def iK:List Int->Option Int
 |[]=>none
 |i::r=>some (r.foldl (λa b=>if b>a then b else a) i)
noncomputable def sS:GN
 |[.int i,.int j],S=>some (.int (if j<i then j else i),S)
 |[.ref n],S=>match S[n]? with
  |some (.lst xs)=>(mC xs).bind λns=>(jx ns).map λm=>(.int m,S)
  |_=>none
 |_,_=>none
noncomputable def pG:GN
 |[.int i,.int j],S=>some (.int (if j>i then j else i),S)
 |[.ref n],S=>match S[n]? with
  |some (.lst xs)=>(mC xs).bind λns=>(iK ns).map λm=>(.int m,S)
  |_=>none
 |_,_=>none
noncomputable def qZ:GN
 |[.tup xs],S=>some (.tup xs,S)
 |[.ref n],S=>match S[n]? with
  |some (.lst xs)=>some (.tup xs,S)
  |some (.frz xs)=>some (.tup xs,S)
  |_=>none
 |_,_=>none
noncomputable def qO:GN
 |[.tup xs],S=>some (.ref S.length,S++[.lst xs])
 |[.ref n],S=>match S[n]? with
  |some (.lst xs)=>some (.ref S.length,S++[.lst xs])
  |some (.frz xs)=>some (.ref S.length,S++[.lst xs])
  |_=>none
 |_,_=>none
theorem W9:∀(r:List Int) (i:Int),r.foldl (λa b=>if b<a then b else a) i<=i/\(∀x∈r,r.foldl (λa b=>if b<a then b else a) i<=x)/\(r.foldl (λa b=>if b<a then b else a) i=i\/r.foldl (λa b=>if b<a then b else a) i∈r)
 |[],i=>⟨Int.le_refl _,λ_ h=>(nomatch h),.inl rfl⟩
 |x::r,i=>by
  obtain⟨h1,h2,h3⟩:=W9 r (if x<i then x else i);rw[List.foldl_cons];refine⟨?_,λy hy=>?_,?_⟩
  .refine Int.le_trans (by first|exact h1|(refine Int.le_trans ?_ h1;split<;>omega)) (by first|(split<;>omega)|exact Int.le_refl _)
  .rcases List.mem_cons.mp hy with rfl|hy
   .first
     |exact Int.le_trans h1 (by split<;>omega)
     |exact Int.le_trans (by split<;>omega) h1
   .exact h2 y hy
  .rcases h3 with h3|h3
   .rw[h3];split
    .exact .inr fG
    .exact .inl rfl
   .exact .inr (cM _ h3)
theorem W8:∀(r:List Int) (i:Int),i<=r.foldl (λa b=>if b>a then b else a) i/\(∀x∈r,x<=r.foldl (λa b=>if b>a then b else a) i)/\(r.foldl (λa b=>if b>a then b else a) i=i\/r.foldl (λa b=>if b>a then b else a) i∈r)
 |[],i=>⟨Int.le_refl _,λ_ h=>(nomatch h),.inl rfl⟩
 |x::r,i=>by
  obtain⟨h1,h2,h3⟩:=W8 r (if x>i then x else i);rw[List.foldl_cons];refine⟨?_,λy hy=>?_,?_⟩
  .refine Int.le_trans (by first|exact h1|(refine Int.le_trans ?_ h1;split<;>omega)) (by first|(split<;>omega)|exact Int.le_refl _)
  .rcases List.mem_cons.mp hy with rfl|hy
   .first
     |exact Int.le_trans h1 (by split<;>omega)
     |exact Int.le_trans (by split<;>omega) h1
   .exact h2 y hy
  .rcases h3 with h3|h3
   .rw[h3];split
    .exact .inr fG
    .exact .inl rfl
   .exact .inr (cM _ h3)
theorem zo2{m:Int}(h1:m∈ns)(h2:∀a∈ns,m<=a):jx ns=some m:=by
 cases ns with
 |nil=>cases h1
 |cons i r =>
  obtain⟨a,b,c⟩:=W9 r i;unfold jx;have l1:m<=r.foldl (λa b=>if b<a then b else a) i:=by
   rcases c with c|c
   .rw[c];exact h2 i fG
   .exact h2 _ (cM _ c)
  have l2:r.foldl (λa b=>if b<a then b else a) i<=m:=by
   rcases List.mem_cons.mp h1 with rfl|h1
   .exact a
   .exact b m h1
  exact congrArg some (Int.le_antisymm l2 l1)
theorem zo6{m:Int}(h1:m∈ns)(h2:∀a∈ns,a<=m):iK ns=some m:=by
 cases ns with
 |nil=>cases h1
 |cons i r =>
  obtain⟨a,b,c⟩:=W8 r i;unfold iK;have l1:r.foldl (λa b=>if b>a then b else a) i<=m:=by
   rcases c with c|c
   .rw[c];exact h2 i fG
   .exact h2 _ (cM _ c)
  have l2:m<=r.foldl (λa b=>if b>a then b else a) i:=by
   rcases List.mem_cons.mp h1 with rfl|h1
   .exact a
   .exact b m h1
  exact congrArg some (Int.le_antisymm l1 l2)
theorem wk{K:FgA}{H:Hp}{α:List Addr}:∀{ds:List D} {vs:List V} {us:List Value} {ns:List Int},aA K H α ds vs->Vals vs us->mC ds=some ns->IntsAre us ns
 |_,_,_,_,.nil,.nil,e=>by cases e;exact .nil
 |_,_,_,_,.cons r rr,.cons rv rvs,e=>by
  cases r with
  |int i =>
   simp only[mC,aR] at e;obtain⟨ms,e1,rfl⟩:=e;obtain⟨t,rfl⟩:=rv;exact .cons _ _ (wk rr rvs e1)
  |_=>cases e
theorem aA.inv1(r:aA K H α [d] vs):∃v,vs=[v]/\Rep K H α d v:=by
 cases r with
 |cons r rr=>cases rr;exact⟨_,rfl,r⟩
theorem aA.inv2{e:D}(r:aA K H α [d,e] vs):∃v u,vs=[v,u]/\Rep K H α d v/\Rep K H α e u:=by
 cases r with
 |cons r rr =>
  obtain⟨u,rfl,q⟩:=rr.inv1;exact⟨_,_,rfl,r,q⟩
theorem nQ{xs:List D}(hs:aq K H α S)(ha:α[n]?=some a)(h:S[n]?=some (.lst xs)\/S[n]?=some (.frz xs)):∃vs,cU K H a vs/\aA K H α xs vs:=by
 rcases h with h|h
 .obtain⟨vs,q,r⟩:=hs.obj _ _ _ h ha;exact⟨vs,cU.of q,r⟩
 .obtain⟨vs,q,r⟩:=hs.obj _ _ _ h ha;exact⟨vs,q.sq,r⟩
section
variable {X:Cx}
theorem zr0:gW X (.builtin "len") (jC X.K iD):=by
 intro pz s Z H vs us Q I rv h;obtain⟨S,α,ds,z,S',hs,r,hg,k⟩:=h;unfold iD at hg;split at hg
 .cases hg;obtain⟨v,rfl,r0⟩:=r.inv1;cases r0 with
  |tup h r1=>exact WX pz s Z H _ us Q I rv ⟨_,_,rfl,.inr h,by rw[<-r1.length];exact k.same hs (.int _)⟩
 .split at hg
  .rename_i hl;cases hg;obtain⟨v,rfl,r0⟩:=r.inv1;cases r0;exact zg0 pz s Z H _ us Q I rv ⟨_,rfl,hl,k.same hs (.int _)⟩
  .cases hg
 .obtain⟨v,rfl,r0⟩:=r.inv1;cases r0 with
  |@ref n a ha =>
   have core:∀xs,(∃vs,cU X.K H a vs/\aA X.K H α xs vs)->some (D.int (xs.length:Int),S)=some (z,S')->wpAny (model X.prog X.w) X.A (call (.builtin "len") us) (EP X pz Z Q) X.xe s:=λxs ⟨vs,q,r⟩ e=>by cases e;exact WX pz s Z H _ us Q I rv ⟨_,_,rfl,.inl q,by rw[<-r.length];exact k.same hs (.int _)⟩
   split at hg
   .rename_i e;exact core _ (nQ hs ha (.inl e)) hg
   .rename_i e;exact core _ (nQ hs ha (.inr e)) hg
   .cases hg
 .cases hg
theorem zr3:gW X (.builtin "abs") (jC X.K tR):=by
 intro pz s Z H vs us Q I rv h;obtain⟨S,α,ds,z,S',hs,r,hg,k⟩:=h;unfold tR at hg;split at hg
 .cases hg;obtain⟨v,rfl,r0⟩:=r.inv1;cases r0;exact zmW pz s Z H _ us Q I rv ⟨_,rfl,k.same hs (.int _)⟩
 .cases hg
theorem Bh{its:List Value}(hi:IntsAre its ns):∃xs:Array (Int×Tok),its.toArray=intItems xs/\xs.toList.map (·.1)=ns/\xs.size=ns.length:=by
 obtain⟨xs,hxs⟩:=hi.allInts.items;have hnn:numsOf (intItems xs).toList=ns:=by rw[<-hxs];simpa using hi.numsOf
 rw[nums_intItems] at hnn;exact⟨xs,hxs,hnn,by simpa using congrArg List.length hnn⟩
theorem U4{m:Int}(hnn:xs.toList.map (·.1)=ns)(hl:xs.size=ns.length)(e:jx ns=some m):0<xs.size/\numAt xs (argBest (λi j=>decide (numAt xs i<numAt xs j)) (xs.size - 1))=m:=by
 have hsz:0<xs.size:=by
  cases ns with
  |nil=>cases e
  |cons _ _=>simp at hl;omega
 obtain⟨h1,h2⟩:=argBest_lt (numAt xs) (xs.size - 1);refine⟨hsz,Option.some.inj (.trans (.symm (zo2 ?_ λb hb=>?_)) e)⟩
 .rw[<-hnn,numAt_eq];exact getD_mem (by rw[cX,Array.length_toList];omega)
 .rw[<-hnn] at hb;obtain⟨j,hj,rfl⟩:=mem_getD hb;rw[cX,Array.length_toList] at hj;rw[<-numAt_eq];exact h2 j (by omega)
theorem Mf{m:Int}(hnn:xs.toList.map (·.1)=ns)(hl:xs.size=ns.length)(e:iK ns=some m):0<xs.size/\numAt xs (argBest (λi j=>decide (numAt xs i>numAt xs j)) (xs.size - 1))=m:=by
 have hsz:0<xs.size:=by
  cases ns with
  |nil=>cases e
  |cons _ _=>simp at hl;omega
 obtain⟨h1,h2⟩:=argBest_gt (numAt xs) (xs.size - 1);refine⟨hsz,Option.some.inj (.trans (.symm (zo6 ?_ λb hb=>?_)) e)⟩
 .rw[<-hnn,numAt_eq];exact getD_mem (by rw[cX,Array.length_toList];omega)
 .rw[<-hnn] at hb;obtain⟨j,hj,rfl⟩:=mem_getD hb;rw[cX,Array.length_toList] at hj;rw[<-numAt_eq];exact h2 j (by omega)
theorem ZQ(hc:X.calm=true):gW X (.builtin "min") (jC X.K sS):=by
 intro pz s Z H vs us Q I rv h;obtain⟨S,α,ds,z,S',hs,r,hg,k⟩:=h;unfold sS at hg;split at hg
 .cases hg;obtain⟨v,u,rfl,r1,r2⟩:=r.inv2;cases r1;cases r2;exact zlo hc pz s Z H _ us Q I rv ⟨_,_,rfl,k.same hs (.int _)⟩
 .obtain⟨v,rfl,r0⟩:=r.inv1;cases r0 with
  |@ref n a ha =>
   split at hg
   .rename_i e;simp only[aU,aR] at hg;obtain⟨ns,e1,m,e2,e3⟩:=hg;cases e3;obtain⟨ws,q,r⟩:=nQ hs ha (.inl e);obtain⟨u,rfl,ru⟩:=pZ rv;cases ru;obtain⟨its,rr,pl,hz⟩:=I.list q;obtain⟨xs,hxs,hnn,hll⟩:=Bh (wk r rr e1);obtain⟨hsz,hb⟩:=U4 hnn hll e2;refine min_intList (I.ok.hd hc) (by rw[<-hxs];exact pl.isList) hsz λv h' tk hv hk=>?_;obtain⟨t,rfl⟩:=intItems_at hv;exact⟨.int _,H,I.kept hk,⟨t,by rw[hb]⟩,k.same hs (.int _)⟩
   .cases hg
 .cases hg
theorem ZP(hc:X.calm=true):gW X (.builtin "max") (jC X.K pG):=by
 intro pz s Z H vs us Q I rv h;obtain⟨S,α,ds,z,S',hs,r,hg,k⟩:=h;unfold pG at hg;split at hg
 .cases hg;obtain⟨v,u,rfl,r1,r2⟩:=r.inv2;cases r1;cases r2;exact zlp hc pz s Z H _ us Q I rv ⟨_,_,rfl,k.same hs (.int _)⟩
 .obtain⟨v,rfl,r0⟩:=r.inv1;cases r0 with
  |@ref n a ha =>
   split at hg
   .rename_i e;simp only[aU,aR] at hg;obtain⟨ns,e1,m,e2,e3⟩:=hg;cases e3;obtain⟨ws,q,r⟩:=nQ hs ha (.inl e);obtain⟨u,rfl,ru⟩:=pZ rv;cases ru;obtain⟨its,rr,pl,hz⟩:=I.list q;obtain⟨xs,hxs,hnn,hll⟩:=Bh (wk r rr e1);obtain⟨hsz,hb⟩:=Mf hnn hll e2;refine max_intList (I.ok.hd hc) (by rw[<-hxs];exact pl.isList) hsz λv h' tk hv hk=>?_;obtain⟨t,rfl⟩:=intItems_at hv;exact⟨.int _,H,I.kept hk,⟨t,by rw[hb]⟩,k.same hs (.int _)⟩
   .cases hg
 .cases hg
theorem zmX:gW X (.type "tuple") (jC X.K qZ):=by
 intro pz s Z H vs us Q I rv h;obtain⟨S,α,ds,z,S',hs,r,hg,k⟩:=h;unfold qZ at hg;split at hg
 .cases hg;obtain⟨v,rfl,r0⟩:=r.inv1;cases r0 with
  |tup h r1=>exact Xr pz s Z H _ us Q I rv ⟨_,_,rfl,.inr ⟨h,k.same hs (.tup h r1)⟩⟩
 .obtain⟨v,rfl,r0⟩:=r.inv1;cases r0 with
  |@ref n a ha =>
   have core:∀xs,(∃vs,cU X.K H a vs/\aA X.K H α xs vs)->some (D.tup xs,S)=some (z,S')->wpAny (model X.prog X.w) X.A (call (.type "tuple") us) (EP X pz Z Q) X.xe s:=λxs ⟨vs,q,r⟩ e=>by cases e;exact Xr pz s Z H _ us Q I rv ⟨_,_,rfl,.inl ⟨q,λp hp=>k.new hs (lM hp) (.tup (dF.of dI) (r.mono (Same.ext (lM hp))))⟩⟩
   split at hg
   .rename_i e;exact core _ (nQ hs ha (.inl e)) hg
   .rename_i e;exact core _ (nQ hs ha (.inr e)) hg
   .cases hg
 .cases hg
theorem zpP:gW X (.type "list") (jC X.K qO):=by
 intro pz s Z H vs us Q I rv h;obtain⟨S,α,ds,z,S',hs,r,hg,k⟩:=h;have fin:∀(xs:List D) (vs:List V) (p:Addr),aA X.K H α xs vs->H p=none->some (D.ref S.length,S++[O.lst xs])=some (z,S')->Q (.ref p) (upd H p (.lst vs)):=λxs vs p r hp e=>by
  cases e;obtain⟨s2,x2⟩:=hs.snoc (p:=p) (o := .lst xs) (u := .lst vs) hp λα'' e=>⟨_,dI,r.mono e⟩
  exact k _ _ _ s2 x2 (.ref (by rw[<-hs.len];simp))
 unfold qO at hg;split at hg
 .obtain⟨v,rfl,r0⟩:=r.inv1;cases r0 with
  |tup h r1=>exact WY pz s Z H _ us Q I rv ⟨_,_,rfl,.inr h,λp hp=>fin _ _ p r1 hp hg⟩
 .obtain⟨v,rfl,r0⟩:=r.inv1;cases r0 with
  |@ref n a ha =>
   have core:∀xs,(∃vs,cU X.K H a vs/\aA X.K H α xs vs)->some (D.ref S.length,S++[O.lst xs])=some (z,S')->wpAny (model X.prog X.w) X.A (call (.type "list") us) (EP X pz Z Q) X.xe s:=λxs ⟨vs,q,r⟩ e =>
    WY pz s Z H _ us Q I rv ⟨_,_,rfl,.inl q,λp hp=>fin _ _ p r hp e⟩
   split at hg
   .rename_i e;exact core _ (nQ hs ha (.inl e)) hg
   .rename_i e;exact core _ (nQ hs ha (.inr e)) hg
   .cases hg
 .cases hg
end
def oh(a b:String):Option Bool:=PySem.W.kitOne default (.type a) (.type b)
def TV{a b:String}:PySem.W.kitOne K (.type a) (.type b)=oh a b:=by unfold oh PySem.W.kitOne PySem.W.kitCls PySem.W.subIn;rfl
def zP:D->So->Option String
 |.non,_=>some "NoneType"
 |.bl _,_=>some "bool"
 |.int _,_=>some "int"
 |.str _,_=>some "str"
 |.tup _,_=>some "tuple"
 |.ref n,S=>match S[n]? with
  |some (.lst _)=>some "list"
  |_=>none
 |_,_=>none
noncomputable def m9:GN
 |[d,.ty T],S=>(zP d S).bind λt=>(oh t T).map λb=>(.bl b,S)
 |_,_=>none
theorem zp1{v:V}{t:String}(hs:aq K H α S)(r:Rep K H α d v)(e:zP d S=some t):(∃b vs,v = .ref b/\dF K H b vs/\t = "tuple")\/lX K H v (.type t):=by
 cases r with
 |non=>cases e;exact .inr .non
 |bl b=>cases e;exact .inr (.bl b)
 |int i=>cases e;exact .inr (.int i)
 |str x=>cases e;exact .inr (.str x)
 |tup h r=>cases e;exact .inl ⟨_,_,rfl,h,rfl⟩
 |@ref n a ha =>
  simp only[zP] at e;split at e
  .rename_i q;cases e;obtain⟨vs,h,_⟩:=hs.obj _ _ _ q ha;exact .inr (.lst h)
  .cases e
 |ty n=>cases e
 |adr a=>cases e
 |obj _ _ _ _ _=>cases e
theorem zr1:gW X (.builtin "isinstance") (jC X.K m9):=by
 intro pz s Z H vs us Q I rv h;obtain⟨S,α,ds,z,S',hs,r,hg,k⟩:=h;unfold m9 at hg;split at hg
 .simp only[aU,aR] at hg;obtain⟨t,e1,b,e2,e3⟩:=hg;cases e3;obtain⟨v,u,rfl,r1,r2⟩:=r.inv2;cases r2 with
  |ty T =>
   obtain⟨u1,u2,rfl,q1,q2⟩:=Fz rv;cases q2;rcases zp1 hs r1 e1 with⟨a,ws,rfl,h,rfl⟩|ty
   .cases q1;obtain⟨its,_,⟨o,h1,h2,_⟩,_⟩:=I.tuple h;exact PySem.W.kia_one PySem.W.kitx_tuple I.kIn ⟨o,h1,h2⟩ (by rw[TV];exact e2) (λz=>nomatch z) λtk=>⟨.bl b,H,I.tok _,rfl,k.same hs (.bl _)⟩
   .exact zkI I q1 ty (by rw[TV];exact e2) λtk=>⟨.bl b,H,I.tok _,rfl,k.same hs (.bl _)⟩
 .cases hg
abbrev PF:=Sg->So->Option (Option Int×So)
def lG:PF:=λ_ S=>some (none,S)
noncomputable def jT(fe:EF):PF:=λZ S=>(fe Z S).bind λr=>match r.1 with
 |.int i=>some (some i,r.2)
 |_=>none
def jF(xs:List D)(lo hi:Option Int):List D:=(xs.drop (HT.sIx xs.length 0 lo)).take (HT.sIx xs.length xs.length hi - HT.sIx xs.length 0 lo)
noncomputable def uX:D->Option Int->Option Int->So->Option (D×So)
 |.tup xs,lo,hi,S=>if ¬(HT.sIx xs.length 0 lo=0/\HT.sIx xs.length xs.length hi=xs.length) then some (.tup (jF xs lo hi),S) else some (.tup xs,S)
 |.ref n,lo,hi,S=>match S[n]? with
  |some (.lst xs)=>some (.ref S.length,S++[.lst (jF xs lo hi)])
  |some (.frz xs)=>some (.ref S.length,S++[.lst (jF xs lo hi)])
  |_=>none
 |_,_,_,_=>none
def j9(fe:EF)(fl fh:PF):EF:=λZ S=>(fe Z S).bind λr=>(fl Z r.2).bind λl=>(fh Z l.2).bind λh=>uX r.1 l.1 h.1 h.2
def rdP(K:FgA)(f:PF):TO:=λZ H Q=>∃σd S α p S',bA K H α σd Z/\aq K H α S/\f σd S=some (p,S')/\∀H' α',aq K H' α' S'->Ext K H α H' α'->Q p H'
def Er(X:Cx)(e:Option Expr)(f:PF):Prop:=PO X e (rdP X.K f)
theorem Ur{lo hi:Option Int}(r:aA K H α ds vs):aA K H α (jF ds lo hi) (qH vs lo hi):=by unfold jF qH;rw[r.length];exact(r.drop _).take _
theorem zjA{t sl:Addr}{items:Array Value}{vl vu:Value}{lo hi:Option Int}(ht:IsTup s.heap t items)(hs:s.heap.IsSliceOf sl vl vu .none)(pl:IsPart vl lo)(pu:IsPart vu hi)(hw:HT.sIx items.size 0 lo=0/\HT.sIx items.size items.size hi=items.size)(h:Q (.ref t) s):wpAny (model prog w) A (getItem (.ref t) (.ref sl)) Q E s:=by
 obtain⟨os,hos,hcs,hds⟩:=id hs;have hTs:s.TypeIs (.ref sl) "slice" := ⟨os,hos,hcs⟩
 unfold getItem
 try with_reducible refine wpAny_holding ?_
 first|refine aC (bN ?_)|skip
 refine aC (wpAny_sequenceKey ht.typeIs (by decide) ?_);refine aC (wpAny_callSpecial?_slot (name:=Str.ofString "__getitem__") ht.typeIs PyProof.Rows.slot_tuple_getitem
  (wpAny_call_entry PyProof.Rows.slot_tuple_getitem ht.typeIs entry_tuple_getitem ?_ (args_tuple_getitem _ _)))
 show wpAny _ _ (Builtin.Tuple.tupleItemsOf (.ref t) >>= _) _ _ s;refine aC (tupleItemsOf_ ht ?_);refine aC (wpAny_typeOf hTs ?_);rw[if_pos (by decide)];refine aC (HT.zcW hs pl pu ?_);show wpAny _ _ (if(((HT.sIx items.size 0 lo:Nat):Int)==0&&(1:Int)==1&&(HT.sIx items.size items.size hi - HT.sIx items.size 0 lo)==items.size)=true then _ else _) _ _ s;rw[hw.1,hw.2,if_pos (by simp)];obtain⟨o,e1,e2,n,e3⟩:=id ht;have ex:∀{A:Around} {E:Value->Shared->Prop} {Q:Bool->Shared->Prop},Q true s->wpAny (model prog w) A (Builtin.Tuple.tupleIsExact (.ref t)) Q E s:=λ{A E Q} q=>by unfold Builtin.Tuple.tupleIsExact;refine aC (wpAny_typeOf ht.typeIs ?_);exact bN q
 refine aC (ex ?_);rw[if_pos rfl];exact aC (wpAny_rule (bN ⟨_,rfl,bN h⟩))
def Dj(K:FgA):V->Option Int->Option Int->Hp->VK->Prop:=λx lo hi H Q=>∃a xs,x = .ref a/\dF K H a xs/\(HT.sIx xs.length 0 lo=0/\HT.sIx xs.length xs.length hi=xs.length)/\Q (.ref a) H
theorem zn6:qy X (Dj X.K):=by
 intro pz s Z H x v vl vu lo hi sl Q I rx hs pl pu h;obtain⟨a,xs,rfl,hx,hw,q⟩:=h;cases rx;obtain⟨its,r,ht,hz⟩:=I.tuple hx;have hlen:its.toArray.size=xs.length:=by rw[dw];exact r.length.symm
 refine⟨"tuple",_,PyProof.Rows.slot_tuple_getitem.lookup,ht.typeIs,?_⟩;exact zjA ht hs pl pu (by rw[hlen];exact hw) ⟨.ref a,H,I,rfl,q⟩
section
variable {X:Cx}{e:Expr}{fe:EF}{lo hi:Option Expr}{fl fh:PF}{pos p2:Pos}
def zn0:Er X none lG:=λpz s Z H Q I h=>zov pz s Z H Q I (by
 obtain⟨σd,S,α,p,S',hv,hs,hf,k⟩:=h;cases hf;exact k _ _ hs Ext.refl)
theorem znY(he:SE X e fe):Er X (some e) (jT fe):=λpz s Z H Q I h=>zou he pz s Z H Q I (by
 obtain⟨σd,S,α,p,S',hv,hs,hf,k⟩:=h;unfold jT at hf;simp only[aU] at hf;obtain⟨⟨d,S1⟩,e1,e2⟩:=hf;refine⟨σd,S,α,d,S1,hv,hs,e1,λv H1 α1 s1 x1 r1=>?_⟩;cases r1 with
 |int i=>cases e2;exact⟨i,rfl,k _ _ s1 x1⟩
 |_=>cases e2)
theorem zl3(he:SE X e fe)(hl:Er X lo fl)(hh:Er X hi fh):SE X (.Subscript e (.Slice lo hi none p2) pos) (j9 fe fl fh):=by
 refine PE.imp (zmg (qy.or (qy.or zqw zn6) zn7) he hl hh) λZ H Q h=>?_;obtain⟨σd,S,α,z,S',hv,hs,hf,k⟩:=h;unfold j9 at hf;simp only[aU] at hf;obtain⟨⟨d,S1⟩,e1,⟨l,S2⟩,e2,⟨u,S3⟩,e3,e4⟩:=hf;refine⟨σd,S,α,d,S1,hv,hs,e1,λv H1 α1 s1 x1 r1=>⟨σd,S1,α1,l,S2,hv.mono x1,s1,e2,λH2 α2 s2 x2=>⟨σd,S2,α2,u,S3,(hv.mono x1).mono x2,s2,e3,λH3 α3 s3 x3=>?_⟩⟩⟩;have r3:=(r1.mono x2).mono x3;have k3:=k.trans ((x1.trans x2).trans x3);simp only at e4;cases r3 with
 |tup h r =>
  simp only[uX] at e4;split at e4
  .rename_i hc;cases e4;refine .inl (.inl ⟨_,_,rfl,h,by rw[<-r.length];exact hc,λp hp=>?_⟩);exact k3.new s3 (lM hp) (.tup (dF.of dI) ((Ur r).mono (Same.ext (lM hp))))
  .rename_i hc;cases e4;refine .inl (.inr ⟨_,_,rfl,h,by rw[<-r.length];exact Decidable.not_not.mp hc,?_⟩);exact k3 _ _ _ s3 Ext.refl (.tup h r)
 |@ref n a ha =>
  simp only[uX] at e4;have core:∀xs,(∃vs,cU X.K H3 a vs/\aA X.K H3 α3 xs vs)->some (D.ref S3.length,S3++[O.lst (jF xs l u)])=some (z,S')->(Dk X.K (.ref a) l u H3 Q\/Dj X.K (.ref a) l u H3 Q)\/Dl X.K (.ref a) l u H3 Q:=λxs ⟨vs,q,r⟩ e=>by
   cases e;refine .inr ⟨_,_,rfl,q,λp hp=>?_⟩;obtain⟨s4,x4⟩:=s3.snoc (p:=p) (o := .lst (jF xs l u)) (u := .lst (qH vs l u)) hp λα'' e=>⟨_,dI,(Ur r).mono e⟩
   exact k3 _ _ _ s4 x4 (.ref (by rw[<-s3.len];simp))
  split at e4
  .rename_i q;exact core _ (nQ s3 ha (.inl q)) e4
  .rename_i q;exact core _ (nQ s3 ha (.inr q)) e4
  .cases e4
 |_=>cases e4
end
abbrev GM:=D->List D->So->Option (D×So)
def rR(K:FgA)(g:GM):V->List V->Hp->VK->Prop:=λv vs H Q=>∃S α d ds z S',aq K H α S/\Rep K H α d v/\aA K H α ds vs/\g d ds S=some (z,S')/\Kt K H α z S' Q
noncomputable def ug:GM
 |.ref n,[d],S=>match S[n]? with
  |some (.lst xs)=>if xs.length<sizeLine then some (.non,S.set n (.lst (xs++[d]))) else none
  |_=>none
 |_,_,_=>none
theorem zkt:mX X "list.append" (rR X.K ug):=by
 intro pz s Z H v vs vv us Q I rv rs h;obtain⟨S,α,d,ds,z,S',hs,r,rr,hg,k⟩:=h;unfold ug at hg;split at hg
 .cases r with
  |ref ha =>
   split at hg
   .rename_i e;split at hg
    .rename_i hl;cases hg;obtain⟨w,rfl,fJ⟩:=rr.inv1;obtain⟨ws,q,r⟩:=hs.obj _ _ _ e ha;refine zkp pz s Z H _ _ _ us Q I rv rs ⟨_,_,_,rfl,rfl,q,by rw[<-r.length];exact hl,?_⟩;obtain⟨s2,x2⟩:=hs.put (o := .lst (_++[_])) (u := .lst (ws++[w])) e rfl rfl ha q (.inl ⟨_,rfl⟩) λx=>⟨_,dI,(r.append (.cons fJ .nil)).mono x⟩
     exact k _ _ _ s2 x2 .non
    .cases hg
   .cases hg
 .cases hg
noncomputable def yR:GM
 |.ref n,[.int i,d],S=>match S[n]? with
  |some (.lst xs)=>if 0<=i/\i<=xs.length/\xs.length<sizeLine then some (.non,S.set n (.lst (xs.take i.toNat++d::xs.drop i.toNat))) else none
  |_=>none
 |_,_,_=>none
theorem zkr:mX X "list.insert" (rR X.K yR):=by
 intro pz s Z H v vs vv us Q I rv rs h;obtain⟨S,α,d,ds,z,S',hs,r,rr,hg,k⟩:=h;unfold yR at hg;split at hg
 .rename_i n i d;cases r with
  |ref ha =>
   split at hg
   .rename_i xs e;split at hg
    .rename_i hl;cases hg;obtain⟨w,u,rfl,r1,r2⟩:=rr.inv2;cases r1;obtain⟨u1,u2,rfl,q1,q2⟩:=Fz rs;obtain⟨t,rfl⟩:=q1;cases rv;obtain⟨ws,q,r⟩:=hs.obj _ _ _ e ha;obtain⟨z,its,m,rr',hlen,he⟩:=I.lstM q;have hrl:=r.length;have hn:=vQ;have hfit:¬(!Builtin.List.listFitsIndex i)=true:=by rw[fitsIndex_both (by omega) (by omega)];exact fO
     refine call_meets F.slot_list_insert ⟨_,he,rfl⟩ F.entry_list_insert (F.args_list_insert_3 _ _ _) (AutoListH.list_insert_list_int_val_1 _ its.toArray m i t u2 hfit (by rw[dw];omega)) ⟨he,?_⟩;refine⟨.non,_,I.lset (ys:=ws.take i.toNat++u::ws.drop i.toNat) (its':=its.take i.toNat++u2::its.drop i.toNat) q he ?_ ((rr'.take _).append (.cons q2 (rr'.drop _))) ?_,rfl,?_⟩
     .have hk:(if i<0 then(i+((its.toArray.size:Nat):Int)).toNat else min i.toNat its.toArray.size)=i.toNat:=by rw[if_neg (by omega),dw];omega
      show((its.toArray.extract 0 (if i<0 then(i+((its.toArray.size:Nat):Int)).toNat else min i.toNat its.toArray.size)).push u2++its.toArray.extract (if i<0 then(i+((its.toArray.size:Nat):Int)).toNat else min i.toNat its.toArray.size))=_;rw[hk];apply Array.toList_inj.mp;simp;rw[List.take_of_length_le (by rw[List.length_drop];exact bT _)]
     .rw[jE,jb,vz,List.length_drop];omega
     .obtain⟨s2,x2⟩:=hs.put (o := .lst (xs.take i.toNat++d::xs.drop i.toNat)) (u := .lst (ws.take i.toNat++u::ws.drop i.toNat)) e rfl rfl ha q (.inl ⟨_,rfl⟩) λx=>⟨_,dI,((r.take _).append (.cons r2 (r.drop _))).mono x⟩
      exact k _ _ _ s2 x2 .non
    .cases hg
   .cases hg
 .cases hg
noncomputable def eM(g:GM)(fo:EF)(fa:AF):EF:=λZ S=>(fo Z S).bind λr=>match r.1 with
 |.ref n=>match r.2[n]? with
  |some (.lst _)=>(fa Z r.2).bind λq=>g r.1 q.1 q.2
  |_=>none
 |_=>none
theorem Zd{o:Expr}{fo:EF}{g:GM}{id:String}(slot:Slot "list" name id)(hty:typeOf (.builtin id)=pure (.type "method_descriptor"))(hm:mX X id (rR X.K g))(ho:SE X o fo)(ha:SA X (e::es) fa)(hbase:attributeBase o name X.env (eval o X.env)=eval o X.env)(hfew:((backTo cpos (starEach (e::es) X.env)).all (λx => !x.1)&&(backToKw cpos (keywordEach [] X.env)).all (λx=>x.1.isSome)
  && decide ((e::es).length+([]:List Keyword).length+(if([]:List Keyword).isEmpty then 0 else 1)<30))=true)(hline:(apos.endLine==cpos.line)=true)(hst:starEach (e::es) X.env=(false,eval e X.env)::starEach es X.env)(hplain:(backTo cpos (starEach es X.env)).any (·.1)=false):
 SE X (.Call (.Attribute o name apos) (e::es) [] cpos) (eM g fo fa):=by
 refine PE.imp (JQ PySem.F.plainAttrs_list slot hty hm ho ha hbase hfew hline hst hplain) λZ H Q h=>?_;obtain⟨σd,S,α,z,S',hv,hs,hf,k⟩:=h;unfold eM at hf;simp only[aU] at hf;obtain⟨⟨d,S1⟩,e1,e2⟩:=hf;refine⟨σd,S,α,d,S1,hv,hs,e1,λv H1 α1 s1 x1 r1=>?_⟩;simp only at e2;split at e2
 .rename_i n;split at e2
  .rename_i xs q;simp only[aU] at e2;obtain⟨⟨ds,S2⟩,e3,e4⟩:=e2;cases r1 with
   |ref ha =>
    obtain⟨ws,hw,_⟩:=s1.obj _ _ _ q ha;refine⟨.inl ⟨rfl,_,cU.of hw⟩,σd,S1,α1,ds,S2,hv.mono x1,s1,e3,λvs H2 α2 s2 x2 r2=>?_⟩;exact⟨S2,α2,_,ds,z,S',s2,.ref (x2.pre _ _ ha),r2,e4,k.trans (x1.trans x2)⟩
  .cases e2
 .cases e2
noncomputable def vU:List D->Option (List Bool)
 |[]=>some []
 |.bl b::r=>(vU r).map (b::·)
 |_::_=>none
theorem Wy{K:FgA}{H:Hp}{α:List Addr}:∀{ds:List D} {vs:List V} {us:List Value} {bs:List Bool},aA K H α ds vs->Vals vs us->vU ds=some bs->LSm.BoolsAre us bs
 |_,_,_,_,.nil,.nil,e=>by cases e;exact .nil
 |_,_,_,_,.cons r rr,.cons rv rvs,e=>by
  cases r with
  |bl b =>
   simp only[vU,aR] at e;obtain⟨ms,e1,rfl⟩:=e;cases rv;exact .cons _ (Wy rr rvs e1)
  |_=>cases e
noncomputable def qJ:GN
 |[.ref n],S=>match S[n]? with
  |some (.lst xs)=>(vU xs).map λbs=>(.bl (bs.all id),S)
  |_=>none
 |_,_=>none
section
variable {X:Cx}
theorem zjs{l:Addr}{vs:List Value}{bs:List Bool}(hh:A.handled=none)(hl:s.heap.IsList l vs.toArray)(hb:LSm.BoolsAre vs bs)(h:∀h' tk,(∀b x,s.heap.get? b=some x->h'.get? b=some x)->Q (.bool (bs.all id)) { s with heap:=h',toks:=tk }):wpAny (model prog w) A (call (.builtin "all") [.ref l]) Q E s:=by
 have hlt:l<s.heap.objs.size:=by obtain⟨_,e,_⟩:=hl;exact b7 e
 refine call_all_walk (wpAny_pyIter_list hl ?_);refine⟨s.heap.objs.size,[s.heap.objs.size,l],[s.heap.objs.size],vs.toArray.size,_,_,λi=>(bs[i]?).getD true,rfl,Walks.list (A:=A.in1) hh _ l (cW hlt) vs.toArray,
  ⟨⟨_,gq _ rfl,rfl,rfl⟩,hl.push _⟩,λi v s' Q' E' hP hQ=>?_,λh' tk hk=>?_⟩
 .obtain⟨b,e,rfl⟩:=hb.get i v (by simpa using hP);simp only[e,Option.getD_some] at hQ;exact wpAny_truthy_bool hQ
 .have e:((List.range vs.toArray.size).all λi=>(bs[i]?).getD true)=bs.all id:=by rw[dw,hb.length];exact LSm.range_all bs
  rw[e];exact h h' tk (LSm.kept_iter hk)
theorem zr2(hc:X.calm=true):gW X (.builtin "all") (jC X.K qJ):=by
 intro pz s Z H vs us Q I rv h;obtain⟨S,α,ds,z,S',hs,r,hg,k⟩:=h;unfold qJ at hg;split at hg
 .obtain⟨v,rfl,r0⟩:=r.inv1;cases r0 with
  |@ref n a ha =>
   split at hg
   .rename_i e;simp only[aR] at hg;obtain⟨bs,e1,e2⟩:=hg;cases e2;obtain⟨ws,q,r⟩:=nQ hs ha (.inl e);obtain⟨u,rfl,ru⟩:=pZ rv;cases ru;obtain⟨its,rr,pl,hz⟩:=I.list q;exact zjs (I.ok.hd hc) pl.isList (Wy r rr e1) λh' tk hk=>⟨.bl _,H,I.kept hk,rfl,k.same hs (.bl _)⟩
   .cases hg
 .cases hg
theorem zi9{l:Addr}(hh:A.handled=none)(hl:s.heap.IsTuple l (intItems xs))(hne:0<xs.size)(h:∀v h' tk,(intItems xs)[argBest (λi j=>decide (numAt xs i<numAt xs j)) (xs.size - 1)]?=some v->(∀b o,s.heap.get? b=some o->h'.get? b=some o)->Q v { s with heap:=h',toks:=tk }):
 wpAny (model prog w) A (call (.builtin "min") [.ref l]) Q E s:=by
 have hlt:l<s.heap.objs.size:=by obtain⟨_,e,_⟩:=hl;exact b7 e
 refine call_min_walk (wpAny_pyIter_tuple hl ?_);refine⟨_,[s.heap.objs.size,l],[s.heap.objs.size],_,_,_,_,rfl,Walks.tuple (A:=A.in1) hh _ l (cW hlt) (intItems xs),
  ⟨⟨_,gq _ rfl,rfl,rfl⟩,hl.push _⟩,λc hc=>?_,by simpa[intItems] using hne,CmpOf.ints_lt (numAt xs) (λ_ _=>intItems_at),λv h' tk hP hk=>?_⟩
 .show c<(s.heap.push _).objs.size;rw[Heap.size_push];rcases List.mem_cons.mp hc with rfl|hc
  .exact Nat.lt_succ_self _
  .rcases List.mem_cons.mp hc with rfl|hc
   .exact Nat.lt_succ_of_lt hlt
   .cases hc
 .exact h v h' tk (by simpa[intItems] using hP) (LSm.kept_iter hk)
theorem zja{l:Addr}(hh:A.handled=none)(hl:s.heap.IsTuple l (intItems xs))(hne:0<xs.size)(h:∀v h' tk,(intItems xs)[argBest (λi j=>decide (numAt xs i>numAt xs j)) (xs.size - 1)]?=some v->(∀b o,s.heap.get? b=some o->h'.get? b=some o)->Q v { s with heap:=h',toks:=tk }):
 wpAny (model prog w) A (call (.builtin "max") [.ref l]) Q E s:=by
 have hlt:l<s.heap.objs.size:=by obtain⟨_,e,_⟩:=hl;exact b7 e
 refine call_max_walk (wpAny_pyIter_tuple hl ?_);refine⟨_,[s.heap.objs.size,l],[s.heap.objs.size],_,_,_,_,rfl,Walks.tuple (A:=A.in1) hh _ l (cW hlt) (intItems xs),
  ⟨⟨_,gq _ rfl,rfl,rfl⟩,hl.push _⟩,λc hc=>?_,by simpa[intItems] using hne,CmpOf.ints_gt (numAt xs) (λ_ _=>intItems_at),λv h' tk hP hk=>?_⟩
 .show c<(s.heap.push _).objs.size;rw[Heap.size_push];rcases List.mem_cons.mp hc with rfl|hc
  .exact Nat.lt_succ_self _
  .rcases List.mem_cons.mp hc with rfl|hc
   .exact Nat.lt_succ_of_lt hlt
   .cases hc
 .exact h v h' tk (by simpa[intItems] using hP) (LSm.kept_iter hk)
noncomputable def qP:GN
 |[.tup xs],S=>(mC xs).bind λns=>(jx ns).map λm=>(.int m,S)
 |ds,S=>sS ds S
noncomputable def lF:GN
 |[.tup xs],S=>(mC xs).bind λns=>(iK ns).map λm=>(.int m,S)
 |ds,S=>pG ds S
theorem zpQ(hc:X.calm=true):gW X (.builtin "min") (jC X.K qP):=by
 intro pz s Z H vs us Q I rv h;obtain⟨S,α,ds,z,S',hs,r,hg,k⟩:=h;unfold qP at hg;split at hg
 .obtain⟨v,rfl,r0⟩:=r.inv1;cases r0 with
  |@tup a ds vs q r1 =>
   simp only[aU,aR] at hg;obtain⟨ns,e1,m,e2,e3⟩:=hg;cases e3;obtain⟨u,rfl,ru⟩:=pZ rv;cases ru;obtain⟨its,rr,pl,hz⟩:=I.tuple q;obtain⟨xs,hxs,hnn,hll⟩:=Bh (wk r1 rr e1);obtain⟨hsz,hb⟩:=U4 hnn hll e2;refine zi9 (I.ok.hd hc) (by rw[<-hxs];exact pl) hsz λv h' tk hv hk=>?_;obtain⟨t,rfl⟩:=intItems_at hv;exact⟨.int _,H,I.kept hk,⟨t,by rw[hb]⟩,k.same hs (.int _)⟩
 .exact ZQ hc pz s Z H vs us Q I rv ⟨S,α,_,z,S',hs,r,hg,k⟩
theorem zpR(hc:X.calm=true):gW X (.builtin "max") (jC X.K lF):=by
 intro pz s Z H vs us Q I rv h;obtain⟨S,α,ds,z,S',hs,r,hg,k⟩:=h;unfold lF at hg;split at hg
 .obtain⟨v,rfl,r0⟩:=r.inv1;cases r0 with
  |@tup a ds vs q r1 =>
   simp only[aU,aR] at hg;obtain⟨ns,e1,m,e2,e3⟩:=hg;cases e3;obtain⟨u,rfl,ru⟩:=pZ rv;cases ru;obtain⟨its,rr,pl,hz⟩:=I.tuple q;obtain⟨xs,hxs,hnn,hll⟩:=Bh (wk r1 rr e1);obtain⟨hsz,hb⟩:=Mf hnn hll e2;refine zja (I.ok.hd hc) (by rw[<-hxs];exact pl) hsz λv h' tk hv hk=>?_;obtain⟨t,rfl⟩:=intItems_at hv;exact⟨.int _,H,I.kept hk,⟨t,by rw[hb]⟩,k.same hs (.int _)⟩
 .exact ZP hc pz s Z H vs us Q I rv ⟨S,α,_,z,S',hs,r,hg,k⟩
end
theorem zjj(l:Addr)(items:Array Value)(n:Nat)(b:Addr)(items2:Array Value)(n2:Nat)(dd:Option Addr)(sl:Array (Option Value))(hs0:¬(!items.isEmpty&&Builtin.List.listTooLong (items.size+items2.size))=true)(hs1:items.size<=sizeLine)(hs2:items.size+items2.size<=sizeLine+1):
 Meets (Builtin.«list.extend» ⟨[.ref l,.ref b],[]⟩) (λ_ R s=>s.heap.get? l=some { cls := .type "list",dict:=none,data := .seq items n,slots:=#[] }/\s.heap.get? b=some { cls := .type "tuple",dict:=dd,data := .seq items2 n2,slots:=sl }/\R (.ok (.ret Value.none)) { s with heap:=s.heap.update l (Obj.mapSeq λx=>x++items2),toks:=s.toks }) :=
 .of_wp λprog w A R s h=>by
  obtain⟨hp,g,d,tk,os⟩:=s;obtain⟨hl,hb,h⟩:=h;have f1:=AutoSeq1.idx_int;have f2:=AutoSeq1.sub_tuple_tuple;have f3:=AutoSeq1.sub_list_list;have f4:=AutoSeq1.sub_tuple_list;have f5:=AutoSeq1.sub_list_tuple;have hz':(items++items2).size<=sizeLine+1:=by rw[Array.size_append];exact hs2
  wp_walk using (wpAny_updateSeq hl rfl (hz:=hs1) (_hz':=hz')),AutoSeq1.wpAny_loadPart' hl,AutoSeq1.wpAny_loadPart' hb;exact⟨_,rfl,h⟩
noncomputable def yQ:GM
 |.ref n,[.ref m],S=>match S[n]?,S[m]? with
  |some (.lst xs),some (.lst ys)=>if xs.length+ys.length<=sizeLine then some (.non,S.set n (.lst (xs++ys))) else none
  |_,_=>none
 |.ref n,[.tup ys],S=>match S[n]? with
  |some (.lst xs)=>if xs.length+ys.length<=sizeLine then some (.non,S.set n (.lst (xs++ys))) else none
  |_=>none
 |_,_,_=>none
def aA.eraseIdx{K:FgA}{H:Hp}{α:List Addr}:∀{ds:List D} {vs:List V} (i:Nat),aA K H α ds vs->aA K H α (ds.eraseIdx i) (vs.eraseIdx i)
 |_,_,_,.nil => .nil
 |_,_,0,.cons _ t=>t
 |_,_,i+1,.cons r t => .cons r (aA.eraseIdx i t)
theorem aA.dropLast{K:FgA}{H:Hp}{α:List Addr}{ds:List D}{vs:List V}(r:aA K H α ds vs):aA K H α ds.dropLast vs.dropLast:=by rw[List.dropLast_eq_take,List.dropLast_eq_take,r.length];exact r.take _
theorem zks:mX X "list.extend" (rR X.K yQ):=by
 intro pz s Z H v vs vv us Q I rv rs h;obtain⟨S,α,d,ds,z,S',hs,r,rr,hg,k⟩:=h;unfold yQ at hg;split at hg
 .cases r with
  |ref ha =>
   split at hg
   .rename_i e1 e2;split at hg
    .rename_i hl;cases hg;obtain⟨w,rfl,fJ⟩:=rr.inv1;cases fJ with
     |ref hb =>
      obtain⟨ws,q,r⟩:=hs.obj _ _ _ e1 ha;obtain⟨ws2,q2,r2⟩:=hs.obj _ _ _ e2 hb;refine zkn pz s Z H _ _ _ us Q I rv rs ⟨_,_,_,_,rfl,rfl,q,q2,by rw[<-r.length,<-r2.length];exact hl,?_⟩;obtain⟨s2,x2⟩:=hs.put (o := .lst (_++_)) (u := .lst (ws++ws2)) e1 rfl rfl ha q (.inl ⟨_,rfl⟩) λx=>⟨_,dI,(r.append r2).mono x⟩
      exact k _ _ _ s2 x2 .non
    .cases hg
   .cases hg
 .cases r with
  |ref ha =>
   split at hg
   .rename_i xs e1;split at hg
    .rename_i hl;cases hg;obtain⟨w,rfl,fJ⟩:=rr.inv1;cases fJ with
     |tup hb r2 =>
      obtain⟨ws,q,r⟩:=hs.obj _ _ _ e1 ha;cases rv;obtain⟨u,rfl,ru⟩:=rs.one;cases ru;obtain⟨hz,its,n0,wX,hli,ho⟩:=I.lstM q;obtain⟨its2,uN,⟨⟨c2,dd2,dt2,sl2⟩,ho2,hc2,n2,hd2⟩,hz2⟩:=I.tuple hb;simp only at hc2 hd2;subst hc2 hd2;have e3:its.length=xs.length:=by rw[<-hli,r.length]
      have e4:=uN.length;rw[<-r2.length] at e4;have hsz:its.toArray.size+its2.toArray.size<=sizeLine:=by rw[dw,dw,e3,<-e4];exact hl
      have pC:¬(!its.toArray.isEmpty&&Builtin.List.listTooLong (its.toArray.size+its2.toArray.size))=true:=by rw[Rn hsz,Bool.and_false];exact fO
      refine call_meets F.slot_list_extend ⟨_,ho,rfl⟩ F.entry_list_extend (F.args_list_extend_2 _ _)
       (zjj _ its.toArray n0 _ its2.toArray n2 dd2 sl2 pC (by omega) (by omega)) ⟨ho,ho2,?_⟩
      obtain⟨s2,x2⟩:=hs.put (o := .lst (xs++_)) (u := .lst (ws++_)) e1 rfl rfl ha q (.inl ⟨_,rfl⟩) λx=>⟨_,dI,(r.append r2).mono x⟩
      refine⟨.non,_,I.lset (its':=its++its2) q ho (by simp) (wX.append uN) ?_,rfl,k _ _ _ s2 x2 .non⟩;rw[jE,<-r.length,<-r2.length];exact hl
    .cases hg
   .cases hg
 .cases hg
noncomputable def mO:GM
 |.ref n,[],S=>match S[n]? with
  |some (.lst xs)=>(xs[xs.length - 1]?).map λd=>(d,S.set n (.lst xs.dropLast))
  |_=>none
 |.ref n,[.int i],S=>match S[n]? with
  |some (.lst xs)=>if -(2 ^ 63)<=i/\i<2 ^ 63 then(seqIndex? i xs.length).bind λk=>(xs[k]?).map λd=>(d,S.set n (.lst (xs.eraseIdx k))) else none
  |_=>none
 |_,_,_=>none
theorem Zw:mX X "list.pop" (rR X.K mO):=by
 intro pz s Z H v vs vv us Q I rv rs h;obtain⟨S,α,d,ds,z,S',hs,r,rr,hg,k⟩:=h;unfold mO at hg;split at hg
 .cases r with
  |ref ha =>
   split at hg
   .rename_i xs e;simp only[aR] at hg;obtain⟨d,e1,e2⟩:=hg;cases e2;cases rr;obtain⟨ws,q,r⟩:=hs.obj _ _ _ e ha;obtain⟨w,ew,fJ⟩:=r.get e1;refine Zx pz s Z H _ _ _ us Q I rv rs ⟨_,_,w,rfl,rfl,q,by rw[<-r.length];exact ew,?_⟩;obtain⟨s2,x2⟩:=hs.put (o := .lst xs.dropLast) (u := .lst ws.dropLast) e rfl rfl ha q (.inl ⟨_,rfl⟩) λx=>⟨_,dI,r.dropLast.mono x⟩
    exact k _ _ _ s2 x2 (fJ.mono x2)
   .cases hg
 .cases r with
  |ref ha =>
   split at hg
   .rename_i xs e;split at hg
    .rename_i hb;simp only[aU,aR] at hg;obtain⟨kk,e0,d,e1,e2⟩:=hg;cases e2;obtain⟨w0,rfl,r0⟩:=rr.inv1;cases r0;obtain⟨ws,q,r⟩:=hs.obj _ _ _ e ha;obtain⟨w,ew,fJ⟩:=r.get e1;refine zmn pz s Z H _ _ _ us Q I rv rs ⟨_,_,_,kk,w,rfl,rfl,q,hb.1,hb.2,by rw[<-r.length];exact e0,ew,?_⟩;obtain⟨s2,x2⟩:=hs.put (o := .lst (xs.eraseIdx kk)) (u := .lst (ws.eraseIdx kk)) e rfl rfl ha q (.inl ⟨_,rfl⟩) λx=>⟨_,dI,(r.eraseIdx kk).mono x⟩
     exact k _ _ _ s2 x2 (fJ.mono x2)
    .cases hg
   .cases hg
 .cases hg
noncomputable def yO:GM
 |.ref n,[],S=>match S[n]? with
  |some (.lst xs)=>some (.non,S.set n (.lst xs.reverse))
  |_=>none
 |_,_,_=>none
theorem zi8:mX X "list.reverse" (rR X.K yO):=by
 intro pz s Z H v vs vv us Q I rv rs h;obtain⟨S,α,d,ds,z,S',hs,r,rr,hg,k⟩:=h;unfold yO at hg;split at hg
 .cases r with
  |ref ha =>
   split at hg
   .rename_i xs e;cases hg;cases rr;obtain⟨ws,q,r⟩:=hs.obj _ _ _ e ha;refine zi7 pz s Z H _ _ _ us Q I rv rs ⟨_,_,rfl,rfl,q,?_⟩;obtain⟨s2,x2⟩:=hs.put (o := .lst xs.reverse) (u := .lst ws.reverse) e rfl rfl ha q (.inl ⟨_,rfl⟩) λx=>⟨_,dI,r.reverse.mono x⟩
    exact k _ _ _ s2 x2 .non
   .cases hg
 .cases hg
def uZ(g:GM)(fo:EF):EF:=λZ S=>(fo Z S).bind λr=>match r.1 with
 |.ref n=>match r.2[n]? with
  |some (.lst _)=>g r.1 [] r.2
  |_=>none
 |_=>none
theorem zqM{o:Expr}{fo:EF}{g:GM}{id:String}(slot:Slot "list" name id)(hty:typeOf (.builtin id)=pure (.type "method_descriptor"))(hm:mX X id (rR X.K g))(ho:SE X o fo)(hbase:attributeBase o name X.env (eval o X.env)=eval o X.env)(hline:(apos.endLine==cpos.line)=true):
 SE X (.Call (.Attribute o name apos) [] [] cpos) (uZ g fo):=by
 refine PE.imp (ZM PySem.F.plainAttrs_list slot hty hm ho hbase hline) λZ H Q h=>?_;obtain⟨σd,S,α,z,S',hv,hs,hf,k⟩:=h;unfold uZ at hf;simp only[aU] at hf;obtain⟨⟨d,S1⟩,e1,e2⟩:=hf;refine⟨σd,S,α,d,S1,hv,hs,e1,λv H1 α1 s1 x1 r1=>?_⟩;simp only at e2;split at e2
 .rename_i n;split at e2
  .rename_i xs q;cases r1 with
   |ref ha =>
    obtain⟨ws,hw,_⟩:=s1.obj _ _ _ q ha;exact⟨.inl ⟨rfl,_,cU.of hw⟩,S1,α1,_,[],z,S',s1,.ref ha,.nil,e2,k.trans x1⟩
  .cases e2
 .cases e2
end MX
end
section
namespace MX
open PySem PySem.Spec PySem.W PyProof.Rows L2
noncomputable def qt(P:Program)(w:World)(K:FgA)(mg:Str->Option Value)(base:Heap)(N:List Str)(qual:Str)(scope:Scope)(f:Addr)(cd:Value)(cl:List (Str×Addr))(A:Around)(outer:List Env)(s:Shared)(H:Hp)(E:XK):Cx where
 prog:=P
 w:=w
 K:=K
 mg:=mg
 base:=base
 A:=A.deeper (envX qual scope s.heap.objs.size f cd cl)
 N:=N
 s₀:=s
 H₀:=H
 env:=envX qual scope s.heap.objs.size f cd cl
 outer:=outer
 stack:=envX qual scope s.heap.objs.size f cd cl::outer
 ex:=[]
 calm:=true
 fn:=λ_=>false
 pn:=[]
 xe:=λe s'=>wpAny (model P w) (A.deeper (envX qual scope s.heap.objs.size f cd cl)) (leaving (envX qual scope s.heap.objs.size f cd cl) e) (λ_ s''=>fU outer H s E e s'') (λe' s''=>fU outer H s E e' s'') s'
structure pN(p:Str)(scope:Scope)(cl:List (Str×Addr)):Prop where
 kind:scope.kind = .function
 co:scope.isCoroutine=false
 gen:scope.isGenerator=false
 par:scope.names.lookup p=some .local
 nocell:∀x∈scope.names,x.2 ≠ .cell
 has:∀x,scope.names.lookup x=some .free->∃c,cl.lookup x=some c
 inj:∀x y c,cl.lookup x=some c->cl.lookup y=some c->x=y
def Td(h:∀x∈scope.names,x.2≠NameKind.cell)(x:Str):scope.names.lookup x≠some .cell:=λe=>h _ (gU e) rfl
theorem Ro{R:Result->Shared->Prop}{args:Args}{q:Str}(hroom:A.depth<recursionLimit)(ho:s.heap.get? a=some o)(hd':o.data = .func fd)(hco:fd.scope.isCoroutine=false)(hgen:fd.scope.isGenerator=false)(hbody:fd.body = .expr body)(hcd:s.heap.CodeRec fd.code q)(h:wpAny (model prog w) A.in1 (bindArgs fd args) (λbinds s₁ =>
  wpAny (model prog w) A.in1 (newFunctionEnv fd.scope fd.globals fd.closure binds (q ++ ".<locals>.") (some a) fd.code none fd.builtins)
   (λenv s₂=>s₂.heap.NoLimit/\codeAny (model prog w) A (.expr body env) R s₂) (λe s'=>R (.error e) s') s₁) (λe s'=>R (.error e) s') s):
 codeAny (model prog w) A (.call (.ref a) args) R s:=by
 refine codeAny_of_tree ?_;show wpAny _ A.in1 (callAny (.ref a) args) _ _ s;simp only[callAny];refine aC (wpAny_load ho ?_);obtain⟨c,oc,vs,tq,hc,hoc,hdc,hq⟩:=hcd;simp only[hd',callFunction,hco,hgen,hbody,hc];rw[hc] at h;refine aC (m:=field (.ref c) 1) (wpAny_field hoc hdc hq (aC (bN ?_)));exact aC (iI h (λbinds s₁ h₁=>aC (iI h₁ (λenv s₂ h₂=>aC (wpAny_enterFrame h₂.1 hroom
  (bN (And.intro rfl h₂.2)))) λ_ _ h'=>h')) λ_ _ h'=>h')
theorem Zo{P:Program}{pm ctv:Value}{p:Str}{cap:List Str}{cus:List Value}{sp:Sp}{Pt:Addr}(ho:base.get? a=some o)(hod:o.data = .func (kla_fn name qual params body scope cl pm cdv ctv))(hcd:∀vs H Q E,sp vs H Q E->∃ps,H Pt=some (.tbl ps)/\codeAmong aW ps.toList=some cdv)(S:pN p scope cl)(hcells:∀x c,cl.lookup x=some c->∃v,base.IsCell c v)(hcap:∀(i:Nat) x v,cap[i]?=some x->cF[i]?=some v->scope.names.lookup x=some .free/\∃c u,cl.lookup x=some c/\base.IsCell c (some u)/\RelV v u)(hlen:cap.length=cF.length)(len:∀vs H Q E,sp vs H Q E->vs.length=1)(hbody:∀(qual:Str) (A:Around) (outer:List Env) (s:Shared) (H:Hp) (v:V) (Q:VK) (E:XK),aV k (A.deeper (envX qual scope s.heap.objs.size a cdv cl))->sp [v] H Q E ->
  ∃t,PE (qt P w K mg base (p::cap) qual scope a cdv cl A outer s H E).nox body t/\t (some v::cF.map some) H Q):
 bR P w K mg base fU (k+1) a (kla_fn name qual params body scope cl pm cdv ctv) [p] sp:=by
 refine⟨len,λA outer s H args us vs Q E hr e0 hb r hsp=>?_⟩;have hl:=len _ _ _ _ hsp;obtain⟨v,rfl⟩:∃v,vs=[v]:=by
  match vs,hl with
  |[v],_=>exact⟨v,rfl⟩
 obtain⟨u,rfl,rv⟩:∃u,us=[u]/\RelV v u:=by
  cases r with
  |cons h1 h2=>cases h2;exact⟨_,rfl,h1⟩
 have bk:∀b o,base.get? b=some o->s.heap.get? b=some o:=λb o e=>(e0.bs b o e).1;have lim:s.heap.NoLimit:=e0.mod.nolimit.keeps bk;obtain⟨ps,hps,ham⟩:=hcd _ _ _ _ hsp;obtain⟨_,_,hcp⟩:=e0.hok Pt _ hps;obtain⟨cc,q,oc,vs,tq,hc1,_,hc2,hc3,hc4⟩:=hcp aW cdv ham;have cr:s.heap.CodeRec cdv q:=⟨cc,oc,vs,tq,hc1,hc2,hc3,hc4⟩
 obtain⟨t,ht,hq⟩:=hbody q A outer s H v Q E (hr.deeper _) hsp;refine Ro hr.depth (bk _ _ ho) hod S.co S.gen rfl cr (hb _ _ _ _ ?_);have hloc:∀y∈[p].zip [u],scope.names.lookup y.1=some .local:=λy hy=>by
  have:y=(p,u):=by simpa using hy
  subst this;exact S.par
 refine wpAny_newFunctionEnv S.nocell hloc (λh₁ hns hsb=>⟨lim.fresh _ hsb,?_⟩) S.kind;show codeAny _ _ (.expr body (envX q scope s.heap.objs.size a cdv cl)) _ _;have hk₁:∀b o,s.heap.get? b=some o->h₁.get? b=some o:=λb o e=>hsb.extBut b o (cW (b7 e)) (cN _ e);have cellK:∀c v,base.IsCell c v->h₁.IsCell c v:=λc v ⟨o,e,d⟩=>⟨o,hk₁ _ _ (bk _ _ e),d⟩
 have mK:∀b:Addr,b∉(qt P w K mg base (p::cap) q scope a cdv cl A outer s H E).ex:=λb z=>absurd (show b∈([]:List Addr) from z) (by simp);have I:Inv (qt P w K mg base (p::cap) q scope a cdv cl A outer s H E) [] (some v::cF.map some) H { s with heap:=h₁,toks:=s.toks+([p].zip [u]).length }:=by
  refine⟨⟨e0.mod,S.kind,rfl,rfl,bT _,S.inj,λy hy=>?_,λy c hf _=>(nomatch hf),λ_=>hr.hd,Around.frames_deeper e0.frames,.inr ⟨rfl,rfl⟩,λb z=>absurd z (mK b),e0.bs,e0.bsz,λb _ _=>mK b,λb z=>absurd z (mK b),e0.funs,e0.frf⟩,
   rfl,e0.bare,Un.kept hk₁,⟨_,hns,λi y z h1 h2 h3=>?_⟩,λy c h=>?_,e0.hok.fresh (bT _),λy c h=>?_,λq hq=>absurd (show q∈([]:List (Addr×Obj)) from hq) (by simp),e0.hok.kept hk₁,?_⟩
  .rcases hy with hy|hy
   .exact absurd hy (Td S.nocell y)
   .exact S.has y hy
  .cases i with
   |zero =>
    have e1:p=y:=by simpa[qt] using h1
    have e2:v=z:=by simpa using h2
    subst e1 e2;exact⟨u,rv,.inl ⟨S.par,by simp⟩⟩
   |succ i =>
    have e1:cap[i]?=some y:=by simpa[qt] using h1
    have e2:cF[i]?=some z:=by
     rw[List.getElem?_cons_succ,gR] at h2;cases q:cF[i]? with
     |none=>rw[q] at h2;cases h2
     |some x=>rw[q] at h2;cases h2;rfl
    obtain⟨k1,c,u',k2,k3,k4⟩:=hcap i y z e1 e2;exact⟨u',k4,.inr ⟨.inr k1,c,k2,cellK _ _ k3⟩⟩
  .obtain⟨v',hv⟩:=hcells y c h;exact⟨v',cellK _ _ hv⟩
  .obtain⟨v',o',ho',_⟩:=hcells y c h;exact(e0.bs _ _ ho').2
  .show _=(p::cap).length;simp[hlen]
 refine kla_codeExpr (iI (ht.nox [] _ _ H Q I hq) (λu' s' hs=>?_) λe s' hs=>hs);obtain⟨v',H',J,rv',q⟩:=hs;exact⟨v',H',J.os,J.bare,J.base,J.hok,rv',q⟩
def zpd{M:Model}(h:Heap)(X:h.get? a=some { cls := .type "function",data := .func fd }):∃k,(k=Keeper.frame\/k=Keeper.machine\/k=Keeper.boundFrame)/\Looks M h (keeperOf (.ref a)) k :=
 ⟨.frame,.inl rfl,(Looks.ld (part:=none) X).andThen .now⟩
section
variable {X:Cx}{x:Str}{p pos:Pos}{e:Expr}{es:List Expr}{t:TA}
structure eF(H H':Hp):Prop where
 tups:∀b xs,H b=some (.tup xs)->H' b=some (.tup xs)
 tbls:∀b ps,H b=some (.tbl ps)->∃more,H' b=some (.tbl (ps++more))
 frzs:∀b o u,H b=some (.frz o u)->H' b=some (.frz o u)
end
def BM(h:Heap)(mg:Str->Option Value):Prop:=∃bm o,mg "__builtins__" = some (.ref bm)/\bm≠builtinsNs/\h.get? bm=some o/\o.cls = .type "module" /\ o.dict=some builtinsNs/\o.data = .plain
def dM(H H':Hp):Prop:=(∀b o,H b=some o->(∀ps,o ≠ .tbl ps)->H' b=some o)/\∀b ps,H b=some (.tbl ps)->∃qs,H' b=some (.tbl qs)
theorem zjr{cv:Value}:∀(l more:List Value),codeAmong pos l=some cv->codeAmong pos (l++more)=some cv:=λl more=>by
 fun_induction codeAmong pos l with
 |case1 line a col b c rest hc =>
  intro e;simp only[List.cons_append,codeAmong];rw[if_pos hc];exact e
 |case2 line a col b c rest hc ih =>
  intro e;simp only[List.cons_append,codeAmong];rw[if_neg hc];exact ih e
 |case3=>intro e;cases e
theorem zjq{pos':Pos}{c cv:Value}:∀l:List Value,TriplesOk l->codeAmong pos (l++[rawInt pos'.line,rawInt pos'.col,c])=some cv->codeAmong pos l=some cv\/cv=c:=λl h=>by
 fun_induction TriplesOk l with
 |case1 =>
  intro e;simp only[vq,codeAmong,rawInt] at e;split at e
  .cases e;exact .inr rfl
  .cases e
 |case2 a' t b' u x rest ih =>
  intro e;simp only[List.cons_append,codeAmong] at e ⊢;split at e
  .rename_i hc;rw[if_pos hc];exact .inl e
  .rename_i hc;rw[if_neg hc];exact ih h e
 |case3 l h1 h2=>exact h.elim
section
variable {X:Cx}{pz:List (Addr×Obj)}{Z:L2.St}{H:Hp}{s:Shared}
theorem UL(I:Inv X pz Z H s){t':Nat}(k:∀b o,s.heap.get? b=some o->h'.get? b=some o):Inv X pz Z H { s with heap:=h',toks:=t' } :=
 I.step (h':=h') (g':=s.gens) (d':=s.drawn) (ch:=[]) (λ_ z=>nomatch z) (λb o _ _ _ e _=>k b o e) (λb o _ _ _ e _=>⟨o.slots,k b o e⟩) (λb o _ _ n=>n) (λb o _ e=>⟨o,k b o e⟩) (λ_ _ q=>q) (λ_ _ _ q=>q) (λ_ ps q=>⟨#[],by rw[q];simp⟩)
  (λm ⟨o,es,ep,e,r⟩=>⟨o,es,ep,k _ _ e,r⟩) (I.hok.kept k) I.bare
theorem zkL(I:Inv X pz Z H s){P c':Addr}{ps:Array Value}{t':Nat}{q:Str}(hT:H P=some (.tbl ps))(hx:Heap.ExtBut P s.heap h')(hge:s.heap.objs.size<=c')(hrec:h'.CodeRec (.ref c') q)(hP:h'.get? P=some (tabObj (ps++#[rawInt aW.line,rawInt aW.col,.ref c']))):
 Inv X pz Z (upd (upd H P (.tbl (ps++#[rawInt aW.line,rawInt aW.col,.ref c']))) c' (.own P)) { s with heap:=h',toks:=t' }:=by
 have hc:H c'=none:=I.hok.fresh hge;have hPc:P≠c':=λz=>by rw[z,hc] at hT;cases hT
 have Ih:∀b,H b=none->b≠P:=λb n z=>by rw[z,hT] at n;cases n
 have uR:∀b o,s.heap.get? b=some o->b≠c':=λb o e z=>absurd (di (b7 e) (z ▸ hge)) (gw _);have old:∀b,b≠P->b≠c'->upd (upd H P (.tbl (ps++#[rawInt aW.line,rawInt aW.col,.ref c']))) c' (.own P) b=H b:=λb h1 h2=>by rw[bQ h2,bQ h1]
 have oldS:∀b o,H b=some o->b≠P->upd (upd H P (.tbl (ps++#[rawInt aW.line,rawInt aW.col,.ref c']))) c' (.own P) b=some o:=λb o e h1=>by rw[old b h1 (fH e hc)];exact e
 obtain⟨eP,tP,cP⟩:=I.hok P _ hT;refine I.step (h':=h') (g':=s.gens) (d':=s.drawn) (ch:=[]) (λ_ z=>nomatch z) (λb o _ _ _ e n=>hx b o (Ih b n) e) (λb o _ _ _ e n=>⟨o.slots,hx b o (Ih b n) e⟩) (λb o _ e n=>by rw[old b (Ih b n) (uR b o e)];exact n) (λb o _ e=>?_)
  (λb xs q=>oldS b _ q λz=>by rw[z,hT] at q;cases q) (λb o u q=>oldS b _ q λz=>by rw[z,hT] at q;cases q) (λb qs e=>?_) (λm hm=>hm.extBut hx (Ih _ I.free)) (λb o e=>?_) I.bare
 .by_cases hb:b=P
  .subst hb;exact⟨_,hP⟩
  .exact⟨o,hx b o hb e⟩
 .by_cases hb:b=P
  .subst hb;rw[hT] at e;cases e;exact⟨_,by rw[bQ hPc,dI]⟩
  .exact⟨#[],by rw[oldS b _ e hb];simp⟩
 .obtain⟨c2,oc,vs,t,ec,hoc,hod,hv⟩:=hrec;cases ec;by_cases h1:b=c'
  .subst h1;rw[dI] at e;cases e;exact⟨_,hoc⟩
  .rw[bQ h1] at e;by_cases h2:b=P
   .subst h2;rw[dI] at e;cases e;refine⟨hP,by rw[Array.toList_append];exact TriplesOk_snoc _ _ _ _ tP,λpos cv q=>?_⟩;rw[Array.toList_append] at q;rcases zjq _ tP q with q|q
    .obtain⟨c3,q3,oc3,vs3,t3,e1,e2,e3,e4⟩:=cP pos cv q;have n3:c3≠b:=λz=>by rw[z,hT] at e2;cases e2
     exact⟨c3,q3,oc3,vs3,t3,e1,oldS _ _ e2 n3,hx _ _ n3 e3,e4⟩
    .exact⟨c',_,oc,vs,t,q,dI,hoc,hod,hv⟩
   .rw[bQ h2] at e;refine(I.hok b o e).stay (λx u hxb g=>hx x u ?_ g) (λx g=>oldS x _ g λz=>by rw[z,hT] at g;cases g) λx xs g=>oldS x _ g λz=>by rw[z,hT] at g;cases g
    rcases hxb with z|z
    .rw[z];exact h2
    .intro y;rw[y,hT] at z;cases z
end
section
variable {X:Cx}{pz:List (Addr×Obj)}{Z:L2.St}{H:Hp}{s:Shared}{params:Arguments}{body:Expr}{scope:Scope}{aW:Pos}{clos:List (Str×Addr)}{c P:Addr}{ps:Array Value}{R:Value->Shared->Prop}
structure Made(X:Cx)(pz:List (Addr×Obj))(Z:L2.St)(H:Hp)(s:Shared)(params:Arguments)(body:Expr)(scope:Scope)(clos:List (Str×Addr))(P:Addr)(aW:Pos)(a:Addr)(s':Shared)(H':Hp):Prop where
 inv:Inv X pz Z H' s'
 same:dM H H'
 keep:∀b o,s.heap.get? b=some o->H b=none->s'.heap.get? b=some o/\H' b=none
 no:H' a=none
 new:s.heap.objs.size<=a
 obj:∃pm cdv ctv,s'.heap.get? a=some { cls := .type "function",data := .func (kla_fn "<lambda>" (X.env.qual ++ "<lambda>") params body scope clos pm cdv ctv) }/\∃ps,H' P=some (.tbl ps)/\codeAmong aW ps.toList=some cdv
theorem UW(I:Inv X pz Z H s)(hT:H P=some (.tbl ps))(hcode:X.env.code = .ref c)(C:CodeHd X.base c P)(B:BM X.base X.mg)(hcl:closureFor scope X.env=pure clos)(hdef:defaultsOf params X.env=([],[]))(h:∀a s' H',Made X pz Z H s params body scope clos P aW a s' H'->R (.ref a) s'):wpAny (model X.prog X.w) X.A (eval (.Lambda params body scope aW) X.env) R X.xe s:=by
 refine kla_eval hdef ?_;obtain⟨eP,tP,cP⟩:=I.hok P _ hT;have hg:s.heap.Ns mainGlobals X.mg:=I.mod.glob.keeps I.bk;have hgP:mainGlobals≠P:=λz=>by obtain⟨o,es,ep,e,hd,_⟩:=I.mod.glob;have:=(I.bs _ _ e).2;rw[z,hT] at this;cases this
 obtain⟨bm,ob,b1,b2,b3,b4,b5,b6⟩:=B;have hbP:bm≠P:=λz=>by have:=(I.bs _ _ b3).2;rw[z,hT] at this;cases this
 have hbG:bm≠mainGlobals:=λz=>by obtain⟨o,es,ep,e,hd,_⟩:=I.mod.glob;rw[z,e] at b3;cases b3;rw[hd] at b6;cases b6
 have hb:s.heap.BuiltinsAt X.mg P:=⟨bm,ob,b1,b2,hbG,hbP,I.bk _ _ b3,b4,b5,b6⟩
 have fnew:∀{h':Heap} {o:Obj} {b:Addr},H b=none->True:=λ_=>trivial;cases hn:codeAmong aW ps.toList with
 |none =>
  refine kla_makeFunction (mg:=X.mg) hcl I.ok.glob hg hcode (C.keeps I.bk) eP tP hn hgP hb λc' ctv h' tk hx hge hlt hrec htb=>?_;have I1:=zkL I (t':=tk) hT hx hge hrec htb;have I2:=UL I1 (h':=h'.push (kla_obj "<lambda>" (X.env.qual ++ "<lambda>") params body scope clos ((X.mg "__name__").getD .none) c' ctv)) (t':=tk) λb o e=>cN _ e;have hc:H c'=none:=I.hok.fresh hge;refine h h'.objs.size _ _ ⟨I2,⟨λb o e ne=>?_,λb qs e=>?_⟩,λb o e n=>⟨cN _ (hx b o (λz=>by rw[z,hT] at n;cases n) e),?_⟩,?_,?_,?_⟩
  .rw[bQ (fH e hc),bQ (λz=>ne ps (by rw[z,hT] at e;cases e;rfl))];exact e
  .rw[bQ (fH e hc)];by_cases hb:b=P
   .subst hb;exact⟨_,dI⟩
   .rw[bQ hb];exact⟨_,e⟩
  .have hlt':=b7 e;rw[bQ (cW (di hlt' hge)),bQ (λz=>by rw[z,hT] at n;cases n)];exact n
  .rw[bQ (Nat.ne_of_gt hlt),bQ (λz=>by
    have:=b7 htb;rw[<-z] at this;exact absurd this (gw _))]
   refine I.hok.fresh (vy (Nat.lt_of_le_of_lt hge hlt))
  .exact vy (Nat.lt_of_le_of_lt hge hlt)
  .exact⟨_,_,ctv,gq _ rfl,_,by rw[bQ (fH hT hc),dI],by rw[Array.toList_append];exact codeAmong_snoc _ tP hn⟩
 |some cv =>
  obtain⟨c',q,oc,vs,t,rfl,e2,e3,e4,e5⟩:=cP aW cv hn;refine kla_makeFunctionHit (mg:=X.mg) hcl I.ok.glob hg hcode (C.keeps I.bk) eP tP hn hb λctv h' tk hk hsz=>?_;have I2:=UL I (h':=h'.push { cls := .type "function",data := .func (kla_fn "<lambda>" (X.env.qual ++ "<lambda>") params body scope clos ((X.mg "__name__").getD .none) (.ref c') ctv) }) (t':=tk) λb o e=>cN _ (hk b o e);refine h h'.objs.size _ _ ⟨I2,⟨λb o e _=>e,λb qs e=>⟨qs,e⟩⟩,λb o e n=>⟨cN _ (hk b o e),n⟩,I.hok.fresh hsz,hsz,?_⟩;exact⟨_,_,ctv,gq _ rfl,ps,hT,hn⟩
end
noncomputable def qN(env:Env)(y:Str×NameKind):Option (Str×Addr):=if(y.2==NameKind.free)=true then(env.cells.lookup y.1).map λc=>(y.1,c) else none
def nH(env:Env)(names:List (Str×NameKind)):List (Str×Addr):=(names.filterMap (qN env)).reverse
theorem Wz{env:Env}:∀(names:List (Str×NameKind)) (acc:List (Str×Addr)),(∀y∈names,y.2 = .free->∃c,env.cells.lookup y.1=some c) ->
 (forIn names acc (fun(x:Str×NameKind) (cs:List (Str×Addr))=>do if(x.2==NameKind.free)=true then let c <-cellOf env x.1;pure (ForInStep.yield ((x.1,c)::cs)) else pure (ForInStep.yield cs)):Sem (List (Str×Addr)))
  = pure (nH env names++acc)
 |[],acc,_=>by simp[nH]
 |y::r,acc,h=>by
  have ih:=Wz (env:=env) r;rw[List.forIn_cons];unfold nH at *
  rw[List.filterMap_cons];by_cases hk:(y.2==NameKind.free)=true
  .obtain⟨c,hc⟩:=h y (fG ..) (by simpa using hk);have hcell:cellOf env y.1=pure c:=by unfold cellOf;rw[hc]
   have hG:qN env y=some (y.1,c):=by unfold qN;rw[if_pos hk,hc];rfl
   simp only[if_pos hk,hcell,pure_bind];rw[ih _ (λz hz=>h z (cM _ hz)),hG];simp
  .have hG:qN env y=none:=by unfold qN;rw[if_neg hk]
   simp only[if_neg hk,pure_bind];rw[ih _ (λz hz=>h z (cM _ hz)),hG]
theorem WD(h:∀y∈scope.names,y.2 = .free->∃c,env.cells.lookup y.1=some c):
 closureFor scope env=pure (nH env scope.names):=by
 unfold closureFor;have:=Wz (env:=env) scope.names [] h;rw[List.append_nil] at this;simpa using this
theorem zjo{y:Str×NameKind}{q:Str×Addr}(e:qN env y=some q):y.2 = .free/\q.1=y.1/\env.cells.lookup y.1=some q.2:=by
 unfold qN at e;split at e
 .rename_i hk;simp only[aR] at e;obtain⟨c,h1,rfl⟩:=e;exact⟨by simpa using hk,rfl,h1⟩
 .cases e
def VF{q:Str×Addr}:q∈nH env names↔∃y∈names,qN env y=some q:=by unfold nH;rw[List.mem_reverse,List.mem_filterMap]
theorem zjd{α:Type}{l:List (Str×α)}{v:α}(h:(x,v)∈l):∃u,l.lookup x=some u:=by
 induction l with
 |nil=>cases h
 |cons q r ih =>
  obtain⟨k,w⟩:=q;by_cases hk:x=k
  .subst hk;exact⟨w,by simp[List.lookup]⟩
  .rcases List.mem_cons.mp h with e|e
   .cases e;exact absurd rfl hk
   .obtain⟨u,hu⟩:=ih e;refine⟨u,?_⟩;rw[iZ];have:(x==k)=false:=by simpa using hk
    rw[this];exact hu
theorem BP{c:Addr}(h:(nH env names).lookup x=some c):env.cells.lookup x=some c/\(x,NameKind.free)∈names:=by obtain⟨y,hy,e⟩:=VF.mp (gU h);obtain⟨h1,h2,h3⟩:=zjo e;obtain⟨y1,y2⟩:=y;simp only at h1 h2 h3;subst h1 h2;exact⟨h3,hy⟩
theorem VD{c:Addr}(h:(x,NameKind.free)∈names)(hc:env.cells.lookup x=some c):(nH env names).lookup x=some c:=by have:(x,c)∈nH env names:=VF.mpr ⟨_,h,by unfold qN;simp[hc]⟩;obtain⟨u,hu⟩:=zjd this;have:=(BP hu).1;rw[hc] at this;rw[hu,<-this]
def nA(h:Heap)(H:Hp)(l:List Env):Heap:=hideAll h (zQ h H++frs l)
theorem Mi{b:Addr}(e:h.get? b=some o)(n:H b=none)(hf:b∉frs l):(nA h H l).get? b=some o :=
 hideAll_get _ e λhm=>by
  rcases lB.mp hm with z|z
  .have q:(H b).isSome=true:=(List.mem_filter.mp z).2;rw[n] at q;simp at q
  .exact hf z
theorem V9{b:Addr}(e:(nA h H l).get? b=some o):h.get? b=some o/\H b=none:=by
 have e':h.get? b=some o:=of_hideAll _ e;refine⟨e',?_⟩;cases q:H b with
 |none=>rfl
 |some x =>
  have hm:b∈zQ h H++frs l:=List.mem_append_left _ (List.mem_filter.mpr ⟨List.mem_range.mpr (b7 e'),by simp[q]⟩);have z:(nA h H l).get? b=none:=hideAll_none _ hm;rw[z] at e;cases e
theorem MP{h base base':Heap}:∀{l:List Env},h.FunFrames base l->(∀b∈frs l,base'.get? b=none)->h.FunFrames base' l
 |[],_,_=>trivial
 |env::r,hl,hb=>by
  obtain⟨h1,⟨L,o,h2,_,h3,h4⟩,h5⟩:=hl;refine⟨h1,⟨L,o,h2,hb L ?_,h3,h4⟩,MP h5 λb q=>hb b ?_⟩
  .unfold frs;rw[List.filterMap_cons,h2];exact fG ..
  .unfold frs at *;rw[List.filterMap_cons,h2];exact cM _ q
def zkq{base':Heap}(M:Mod K mg base)(k:∀b o,base.get? b=some o->base'.get? b=some o):Mod K mg base' :=
 ⟨M.kin.keeps k,M.glob.keeps k,let ⟨mb,h1,h2⟩:=M.blt;⟨mb,h1.keeps k,h2⟩,M.nolimit.keeps k⟩
theorem VJ{Z:L2.St}(I:Inv X pz Z H s):iB X.prog X.w X.K X.mg (nA s.heap H X.stack) X.A X.stack s H/\∀b o,X.base.get? b=some o->(nA s.heap H X.stack).get? b=some o:=by
 have kb:∀b o,X.base.get? b=some o->(nA s.heap H X.stack).get? b=some o:=λb o e =>
  Mi (I.bs b o e).1 (I.bs b o e).2 λz=>by have:=(I.stack.mem z).1;rw[e] at this;cases this
 refine⟨⟨I.ok.frames,zkq I.mod kb,λb o e=>V9 e,by unfold nA;rw[hideAll_size];exact bT _,MP I.stack λb hb=>hideAll_none _ (List.mem_append_right _ hb),I.stkFree,I.hok,I.bare⟩,kb⟩
structure IV(base:Heap)(qual:Str)(params:Arguments)(body:Expr)(scope:Scope)(clos:List (Str×Addr))(cap:List Str)(cF:List V)(a:Addr)(cdv:Value):Prop where
 obj:∃pm ctv,base.get? a=some { cls := .type "function",data := .func (kla_fn "<lambda>" (qual ++ "<lambda>") params body scope clos pm cdv ctv) }
 has:∀y,(y,NameKind.free)∈scope.names->∃c,clos.lookup y=some c
 inj:∀y z c,clos.lookup y=some c->clos.lookup z=some c->y=z
 cells:∀y c,clos.lookup y=some c->∃v,base.IsCell c v
 cap:∀(i:Nat) y v,cap[i]?=some y->cF[i]?=some v->(y,NameKind.free)∈scope.names/\∃c u,clos.lookup y=some c/\base.IsCell c (some u)/\RelV v u
section
variable {K:FgA}{H H':Hp}{α:List Addr}
mutual
def D.no:D->Bool
 |.tup xs=>xg xs
 |.obj _ _ _=>false
 |.ref _=>false
 |_=>true
def xg:List D->Bool
 |[]=>true
 |d::ds=>D.no d&&xg ds
end
mutual
theorem Rep.monoT{H H':Hp}{α α':List Addr}(t:eF H H'):∀{d:D} {v:V},Rep K H α d v->D.no d=true->Rep K H' α' d v
 |_,_,.non,_ => .non
 |_,_,.bl b,_ => .bl b
 |_,_,.int i,_ => .int i
 |_,_,.str x,_ => .str x
 |_,_,.tup h r,b => .tup (by
  rcases h with(h|⟨o,h⟩)|h
  .exact .inl (.inl (t.tups _ _ h))
  .exact .inl (.inr ⟨o,t.frzs _ _ _ h⟩)
  .exact .inr h) (aA.monoT t r (by rw[D.no] at b;exact b))
 |_,_,.ref h,b=>by rw[D.no] at b;cases b
 |_,_,.ty n,_ => .ty n
 |_,_,.adr a,_ => .adr a
 |_,_,.obj _ _ _ _ _,b=>by rw[D.no] at b;cases b
theorem aA.monoT{H H':Hp}{α α':List Addr}(t:eF H H'):∀{ds:List D} {vs:List V},aA K H α ds vs->xg ds=true->aA K H' α' ds vs
 |_,_,.nil,_ => .nil
 |_,_,.cons h r,b=>by rw[xg,cG] at b;exact .cons (Rep.monoT t h b.1) (aA.monoT t r b.2)
end
def eF.refl:eF H H:=⟨λ_ _ h=>h,λ_ _ h=>⟨#[],by rw[h];simp⟩,λ_ _ _ h=>h⟩
theorem dM.ext(t:dM H H'):Ext K H α H' α:=⟨λa vs h=>by
 rcases h with(h|⟨o,h⟩)|h
 .exact .inl (.inl (t.1 _ _ h λ_ z=>by cases z))
 .exact .inl (.inr ⟨o,t.1 _ _ h λ_ z=>by cases z⟩)
 .exact .inr h,λ_ _ q=>q,λ_ _ _ _ _ q=>t.1 _ _ q λ_ z=>by cases z⟩
theorem dM.store(t:dM H H')(s:aq K H α S):aq K H' α S:=⟨s.len,s.nd,λn o a h1 h2=>by
 have ob:=s.obj n o a h1 h2;cases o with
 |lst ds=>obtain⟨vs,e,r⟩:=ob;exact⟨vs,t.1 _ _ e (λ_ z=>by cases z),r.mono t.ext⟩
 |frz ds =>
  obtain⟨vs,e,r⟩:=ob;refine⟨vs,?_,r.mono t.ext⟩;rcases e with⟨ob,e⟩|e
  .exact .inl ⟨ob,t.1 _ _ e λ_ z=>by cases z⟩
  .exact .inr e
 |ins C fs=>obtain⟨dx,gs,e,h,r⟩:=ob;exact⟨dx,gs,t.1 _ _ e (λ_ z=>by cases z),h,r.mono t.ext⟩
 |dct xs=>obtain⟨ys,e,r⟩:=ob;exact⟨ys,t.1 _ _ e (λ_ z=>by cases z),r.mono (dM.ext (α:=α) t).tups⟩
 |tbl x=>obtain⟨h0,ps,e⟩:=ob;obtain⟨qs,e'⟩:=t.2 _ _ e;exact⟨h0,qs,e'⟩⟩
end
def Ff(P:Program)(w:World)(K:FgA)(mg:Str->Option Value)(base:Heap)(k:Nat)(a:Addr)(R:Hp->Prop)(ψ:GN):Prop :=
 ∃fd q sp,bR P w K mg base fU k a fd [q] sp/\base.get? a=some { cls := .type "function",data := .func fd }/\(∀(s:Shared) (u:Value),BindsTo s fd ⟨[u],[]⟩ [(q,u)])/\∀vs H Q,R H->vs.length=1->jC K ψ vs H Q->sp vs H Q E0
def Ew(X:Cx)(a:Addr)(ψ:GN):Prop:=∃R k,Ff X.prog X.w X.K X.mg X.base k a R ψ/\aV k X.A/\∀H,eF X.H₀ H->R H
def spH(K:FgA)(R:Hp->Prop)(a:Addr)(ψ:GN)(G:Addr->GN->GN):Sp:=λvs H Q _=>∃v1,vs=[v1,.ref a]/\R H/\∃S α d1 z S',aq K H α S/\Rep K H α d1 v1/\G a ψ [d1,.adr a] S=some (z,S')/\Kt K H α z S' Q
def EY(P:Program)(w:World)(K:FgA)(mg:Str->Option Value)(base:Heap)(k:Nat)(f:Addr)(fd:FuncData)(ps:List Str)(G:Addr->GN->GN):Prop :=
 ∀(a:Addr) (R:Hp->Prop) (ψ:GN),(∀H H',eF H H'->R H->R H')->Ff P w K mg base k a R ψ->bR P w K mg base fU (k+1) f fd ps (spH K R a ψ G)
noncomputable def vK:List Nat->Sg->Option (List D)
 |[],_=>some []
 |j::r,Z=>match Z[j]? with
  |some (some d)=>(vK r Z).map λds=>d::ds
  |_=>none
noncomputable def t6(fb:EF)(dg:List D):GN:=λds S=>match ds with
 |[d]=>fb (some d::dg.map some) S
 |_=>none
theorem K8{K:FgA}{H:Hp}{α:List Addr}{σd:Sg}{Z:L2.St}(hv:bA K H α σd Z):∀{src:List Nat} {dg:List D},vK src σd=some dg->∃cF:List V,aA K H α dg cF/\src.length=cF.length/\∀(i j:Nat),src[i]?=some j->∃v,Z[j]?=some (some v)/\cF[i]?=some v
 |[],dg,e=>by cases e;exact⟨[],.nil,rfl,λi j h=>by simp at h⟩
 |j::r,dg,e=>by
  unfold vK at e;split at e
  .rename_i d ed;simp only[aR] at e;obtain⟨ds,e1,rfl⟩:=e;obtain⟨cF,h1,h2,h3⟩:=K8 hv e1;obtain⟨v,k1,k2⟩:=hv.2 j d ed;refine⟨v::cF,.cons k2 h1,by simp[h2],λi j' hi=>?_⟩;cases i with
   |zero=>simp at hi;subst hi;exact⟨v,k1,rfl⟩
   |succ i=>simpa using h3 i j' (by simpa using hi)
  .cases e
structure vL(X:Cx)(P c:Addr):Prop where
 fn:∀y,X.fn y=true
 tab:∃ps,X.H₀ P=some (.tbl ps)
 code:X.env.code = .ref c
 hd:CodeHd X.base c P
 bm:BM X.base X.mg
section
variable {X:Cx}{pz:List (Addr×Obj)}{Z:L2.St}{H1 H':Hp}{s1 s':Shared}{params:Arguments}{body:Expr}{scope:Scope}{aW:Pos}{P:Addr}{cap:List Str}{cF:List V}{a:Addr}
theorem U0(I1:Inv X pz Z H1 s1)(M:Made X pz Z H1 s1 params body scope (nH X.env scope.names) P aW a s' H')(hcap:∀y∈cap,(y,NameKind.free)∈scope.names)(hfree:∀y∈scope.names,y.2 = .free->X.env.kindOf y.1=some .cell)(hfn:∀y,X.fn y=true)(hsl:∀(i:Nat) y,cap[i]?=some y->∃(j:Nat) (v:V),X.N[j]?=some y/\Z[j]?=some (some v)/\cF[i]?=some v):
 ∃cdv,IV (nA s'.heap H' X.stack) X.env.qual params body scope (nH X.env scope.names) cap cF a cdv/\∃ps,H' P=some (.tbl ps)/\codeAmong aW ps.toList=some cdv:=by
 obtain⟨pm,cdv,ctv,ho,xN⟩:=M.obj;have I2:=M.inv;have hcells:∀y∈scope.names,y.2 = .free->∃c,X.env.cells.lookup y.1=some c:=λy hy e=>I1.ok.has y.1 (.inl (hfree y hy e));have Du:∀b,s1.heap.objs.size<=b->b∉frs X.stack:=λb hb z=>by obtain⟨_,o,ho,_⟩:=I1.stack.mem z;exact absurd (di (b7 ho) hb) (gw _)
 have yg:∀y c,X.env.cells.lookup y=some c->c∉frs X.stack:=λy c ec z=>by
  rcases List.mem_cons.mp (I2.stkSub c z) with q|q
  .exact I2.cne y c ec q
  .obtain⟨_,o,ho,_⟩:=I2.ok.funs.mem q;exact absurd (di (b7 ho) (I2.ok.cab y c (hfn y) ec)) (gw _)
 have u6:∀y c v,X.env.cells.lookup y=some c->s'.heap.IsCell c v->(nA s'.heap H' X.stack).IsCell c v:=λy c v ec ⟨o,h1,h2⟩=>⟨o,Mi h1 (I2.freeC y c ec) (yg y c ec),h2⟩
 refine⟨cdv,⟨⟨pm,ctv,Mi ho M.no (Du a M.new)⟩,λy hy=>?_,λy z c h1 h2=>I2.ok.inj y z c (BP h1).1 (BP h2).1,λy c h1=>?_,λi y v h1 h2=>?_⟩,xN⟩
 .obtain⟨c,hc⟩:=hcells _ hy rfl;exact⟨c,VD hy hc⟩
 .obtain⟨v,hv⟩:=I2.cell y c (BP h1).1;exact⟨v,u6 y c v (BP h1).1 hv⟩
 .have hy:=hcap y (List.mem_of_getElem? h1);obtain⟨j,v',k1,k2,k3⟩:=hsl i y h1;rw[h2] at k3;cases k3;have hkind:=hfree _ hy rfl;obtain⟨m,_,hloc⟩:=I2.loc;obtain⟨u,ru,l⟩:=hloc j y v k1 k2 (.inr (.inl hkind));refine⟨hy,?_⟩;rcases l with⟨l1,_⟩|⟨_,c,l2,l3⟩
  .have l1':X.env.kindOf y=some .local:=l1;have hk':X.env.kindOf y=some .cell:=hkind;rw[hk'] at l1';cases l1'
  .exact⟨c,u,VD hy l2,u6 y c _ l2 l3,ru⟩
end
theorem Zz{P:Program}{o:HO}(x:bJ P w H h a o):∃ob,h.get? a=some ob:=by
 cases o with
 |lst xs=>obtain⟨_,_,_,_,e⟩:=x;exact⟨_,e⟩
 |tup xs=>obtain⟨_,_,_,ob,e,_⟩:=x;exact⟨_,e⟩
 |dK kvs=>obtain⟨_,_,_,_,o,_,_,e,_⟩:=x;exact⟨_,e⟩
 |dT kvs=>obtain⟨_,_,_,_,o,_,_,e,_⟩:=x;exact⟨_,e⟩
 |set S n=>obtain⟨o,_,_,_,e,_⟩:=x;exact⟨_,e⟩
 |ins C dx fs=>obtain⟨_,_,_,e,_⟩:=x;exact⟨_,e⟩
 |own y=>exact x
 |xd fs=>obtain⟨_,⟨_,_,_,e,_⟩,_⟩:=x;exact⟨_,e⟩
 |rng lo hi=>obtain⟨_,_,_,e⟩:=x;exact⟨_,e⟩
 |frz ob u=>exact⟨_,x.1⟩
 |tbl ps=>exact⟨_,x.1⟩
 |met f y=>exact⟨_,x⟩
 |ext φ=>exact x.2.1
structure mZ(P:Program)(w:World)(l:List Env)(H:Hp)(s:Shared)(a C:Addr)(B:Heap)(H':Hp)(s':Shared):Prop where
 os:s'.os=s.os
 bare:AllBare s'.gens
 un:Un (frs l) [] H H' s.heap s'.heap
 hok:fD P w H' s'.heap
 fl:∃t,Heap.FlyingW B l a (.ref C) (.ref t) s'.heap
 tr:∀b u,H' b=some u->∃o,B.get? b=some o
 inB:∀b o,s.heap.get? b=some o->b∉frs l->∃o',B.get? b=some o'
def m6(P:Program)(w:World):m7:=λl H s E e s'=>∃(a C:Addr) (B:Heap) (H':Hp),e = .ref a/\mZ P w l H s a C B H' s'/\E (.ref C) none H'
theorem Rr{P:Program}(ok:fD P w H h)(k:B.StaysIn h)(k':B.StaysIn h')(tr:∀b u,H b=some u->∃o,B.get? b=some o):fD P w H h':=λb o e =>
 (ok b o e).stay (λc u hc q=>by
  have:∃v,H c=some v:=by
   rcases hc with rfl|hc
   .exact⟨_,e⟩
   .exact⟨_,hc⟩
  obtain⟨v,hv⟩:=this;obtain⟨o',ho⟩:=tr c v hv;have:=k _ _ ho;rw[q] at this;cases this;exact k' _ _ ho) (λ_ q=>q) λ_ _ q=>q
section
variable {X:Cx}{pz:List (Addr×Obj)}{Z:L2.St}{H:Hp}{s:Shared}{M:Model}{A:Around}{E:XK}{R:Unit->Shared->Prop}{E₂:Value->Shared->Prop}
def Uz{L:Addr}(h:env.frame=some L):frs (env::l)=L::frs l:=by unfold frs;rw[List.filterMap_cons,h]
theorem T9(I:Inv X pz Z H s)(hex:X.ex=[]){h₂:Heap}{s₂:Shared}(hos:s₂.os=s.os)(hb:AllBare s₂.gens)(hu:Un (X.env.locals::X.fs) [] H H' s.heap h₂)(hok:fD X.prog X.w H' h₂)(hB:B.StaysIn h₂)(tr:∀b u,H' b=some u->∃o,B.get? b=some o)(inB:∀b o,s.heap.get? b=some o->b∉X.env.locals::X.fs->∃o',B.get? b=some o')(fl:∃t,Heap.FlyingW B X.outer a (.ref C) (.ref t) h')(up:h₂.UpToSlots h'):mZ X.prog X.w X.outer X.H₀ X.s₀ a C B H' { s₂ with heap:=h' }:=by
 have Ej:=fl;obtain⟨t,f1,f2,f3,f4⟩:=fl;have hx:∀b:Addr,b∉X.ex:=λb=>by rw[hex];simp
 have hl:∀b o,X.s₀.heap.get? b=some o->b≠X.env.locals:=λb o e z=>absurd (di (b7 e) (z ▸ I.ok.above)) (gw _);have nb:∀b:Addr,b∉([]:List Addr):=λb=>by simp
 have keep:∀b o,X.s₀.heap.get? b=some o->X.H₀ b=none->b∉X.fs->h'.get? b=some o:=λb o e n hf=>by
  have e1:=I.base.keep b o e n hf (hx b);have n1:=I.base.free b o e n (hx b);have hm:b∉X.env.locals::X.fs:=by simp[hl b o e,hf]
  have e2:=hu.keep b o e1 n1 hm (nb b);obtain⟨o',e3⟩:=inB b o e1 hm;have:=hB _ _ e3;rw[e2] at this;cases this;exact f1 _ _ e3
 have slot:∀b o,X.s₀.heap.get? b=some o->X.H₀ b=none->b∈X.fs->∃sl,h'.get? b=some { o with slots:=sl }:=λb o e n hf=>by obtain⟨sl,e1⟩:=I.base.slot b o e n hf (hx b);have n1:=I.base.free b o e n (hx b);obtain⟨sl2,e2⟩:=hu.slot b _ e1 n1 (cM _ hf) (nb b);obtain⟨_,o',e3,nf⟩:=I.ok.funs.mem hf;rw[e] at e3;cases e3;obtain⟨Ie,e4⟩:=up b _ e2 nf;exact⟨Ie,e4⟩
 refine⟨hos.trans I.os,hb,⟨λb o e n hf _=>keep b o e n hf,λb o e n hf _=>slot b o e n hf,λb o e n _=>?_,λb o e _=>?_,λb xs q=>hu.tups b xs (I.base.tups b xs q),λb o u q=>hu.frzs b o u (I.base.frzs b o u q),λb ps q=>?_⟩,Rr hok hB f1 tr,Ej,tr,λb o e hf=>?_⟩
 .obtain⟨o1,e1⟩:=I.base.there b o e (hx b);exact hu.free b o1 e1 (I.base.free b o e n (hx b)) (nb b)
 .by_cases hf:b∈X.fs
  .exact let ⟨sl,e1⟩:=slot b o e (I.ok.frf b hf) hf;⟨_,e1⟩
  .obtain⟨o1,e1⟩:=I.base.there b o e (hx b);obtain⟨o2,e2⟩:=inB b o1 e1 (by simp[hl b o e,hf]);exact⟨o2,f1 _ _ e2⟩
 .obtain⟨m1,e1⟩:=I.base.tbls b ps q;obtain⟨m2,e2⟩:=hu.tbls b _ e1;exact⟨m1++m2,by rw[e2,Array.append_assoc]⟩
 .obtain⟨o1,e1⟩:=I.base.there b o e (hx b);exact inB b o1 e1 (by simp[hl b o e];exact hf)
theorem U3(I:Inv X pz Z H s)(hex:X.ex=[])(hst:X.stack=X.env::X.outer)(hfr:X.env.frame=some X.env.locals)(hA:A.frames=some X.stack){h₂:Heap}{e:Addr}{args:List Value}(hm:Heap.MadeExcOf s.heap h₂ e (.ref C) args)(k:∀B h',mZ X.prog X.w X.outer X.H₀ X.s₀ e C B H { s with heap:=h' }->R () { s with heap:=h' }):wpAny M A (leaving X.env (.ref e)) R E₂ { s with heap:=h₂ }:=by
 have hfs:frs X.stack=X.env.locals::X.fs:=by rw[hst,Uz hfr]
 have hin:∀env∈X.stack,∀b,env.frame=some b->b∈frs X.stack:=λenv he b hb=>List.mem_filterMap.mpr ⟨env,he,hb⟩;have fr:=funFrames_hide I.stack hin;rw[hst] at fr hA;refine wpAny_leaves_madeW (s:={ s with heap:=h₂ }) hA hfr (λb o q=>of_hideAll _ q) fr hm λh' t x1 x2 x3 x4=>k (hideAll s.heap (frs (X.env::X.outer))) h' ?_;refine T9 (s₂:=s) I hex rfl I.bare Un.refl I.hok (λb o q=>of_hideAll _ q) (λb u q=>?_) (λb o q hf=>?_) ⟨t,x1⟩ ((Heap.UpToSlots.of_keeps hm.keeps).trans x4)
 .obtain⟨o,ho⟩:=Zz (I.hok b u q);refine⟨o,hideAll_get _ ho λz=>?_⟩;have:=I.stkFree b (by rw[hst];exact z);rw[q] at this;cases this
 .refine⟨o,hideAll_get _ q λz=>hf ?_⟩;rw[<-hfs,hst];exact z
theorem Vi(I:Inv X pz Z H s)(hex:X.ex=[])(hst:X.stack=X.env::X.outer)(hfr:X.env.frame=some X.env.locals)(hA:A.frames=some X.stack){s':Shared}(F:mZ X.prog X.w X.stack H s a C B H' s')(k:∀h',mZ X.prog X.w X.outer X.H₀ X.s₀ a C B H' { s' with heap:=h' }->R () { s' with heap:=h' }):wpAny M A (leaving X.env (.ref a)) R E₂ s':=by
 have hfs:frs X.stack=X.env.locals::X.fs:=by rw[hst,Uz hfr]
 obtain⟨t,fl⟩:=F.fl;rw[hst] at fl hA;refine wpAny_leaves_onW hA hfr fl λh' x1 x2=>k h' ?_;refine T9 (s₂:=s') I hex F.os F.bare (by rw[<-hfs];exact F.un) F.hok fl.1 F.tr (by rw[<-hfs];exact F.inB) ⟨t,x1⟩ x2
structure qG(X:Cx)(E:XK):Prop where
 made:∀(pz:List (Addr×Obj)) (Z:L2.St) (H:Hp) (s:Shared) (h₂:Heap) (e C:Addr) (args:List Value),Inv X pz Z H s->Heap.MadeExcOf s.heap h₂ e (.ref C) args->E (.ref C) none H->X.xe (.ref e) { s with heap:=h₂ }
 pass:uh (m6 X.prog X.w) X E
end
theorem znw{P:Program}{E:XK}:
 qG (kE (m6 P w) P w K mg base N qual scope f cd A outer s H E) E:=by
 refine⟨λpz Z H1 s1 h₂ e C args I hm he=>?_,λpz Z H1 s1 e s2 I h=>?_⟩
 .exact U3 I rfl rfl rfl I.ok.frames hm λB h' F=>⟨e,C,B,H1,rfl,F,he⟩
 .obtain⟨a,C,B,H',rfl,F,he⟩:=h;exact Vi I rfl rfl rfl I.ok.frames F λh' F'=>⟨a,C,B,H',rfl,F',he⟩
abbrev pK(P:Program)(w:World)(K:FgA)(mg:Str->Option Value)(base:Heap)(N:List Str)(qual:Str)(scope:Scope)(f:Addr)(cd:Value)(cl:List (Str×Addr))(A:Around)(outer:List Env)(s:Shared)(H:Hp)(E:XK):Cx :=
 (qt P w K mg base N qual scope f cd cl A outer s H E).wish λe s'=>wpAny (model P w) (A.deeper (envX qual scope s.heap.objs.size f cd cl)) (leaving (envX qual scope s.heap.objs.size f cd cl) e) (λ_ s''=>m6 P w outer H s E e s'') (λe' s''=>m6 P w outer H s E e' s'') s'
theorem zpW{P:Program}{E:XK}:
 qG (pK P w K mg base N qual scope f cd cl A outer s H E) E:=by
 refine⟨λpz Z H1 s1 h₂ e C args I hm he=>?_,λpz Z H1 s1 e s2 I h=>?_⟩
 .exact U3 I rfl rfl rfl I.ok.frames hm λB h' F=>⟨e,C,B,H1,rfl,F,he⟩
 .obtain⟨a,C,B,H',rfl,F,he⟩:=h;exact Vi I rfl rfl rfl I.ok.frames F λh' F'=>⟨a,C,B,H',rfl,F',he⟩
end MX
end
section
namespace MX
open PySem PySem.Spec PyProof.Rows L2
noncomputable def vD(f:Str)(v:D):List (Str×D)->List (Str×D)
 |[]=>[(f,v)]
 | (g,x)::r=>if g=f then(g,v)::r else(g,x)::vD f v r
section
variable {K:FgA}{H:Hp}{α:List Addr}
inductive cC(K:FgA)(H:Hp)(α:List Addr):List (Str×D)->List (Str×V)->Prop
 |nil:cC K H α [] []
 |cons {f:Str} {d:D} {v:V} {fs:List (Str×D)} {gs:List (Str×V)} (h:Rep K H α d v) (r:cC K H α fs gs):cC K H α ((f,d)::fs) ((f,v)::gs)
theorem cC.of:∀{fs:List (Str×D)} {gs:List (Str×V)},fs.map (·.1)=gs.map (·.1)->aA K H α (fs.map (·.2)) (gs.map (·.2))->cC K H α fs gs
 |[],[],_,_ => .nil
 |[],_::_,e,_=>by cases e
 |_::_,[],e,_=>by cases e
 | (f,d)::fs,(g,v)::gs,e,r=>by
   injection e with e1 e2;cases e1;cases r with
   |cons a b=>exact .cons a (cC.of e2 b)
def cC.keys:∀{fs:List (Str×D)} {gs:List (Str×V)},cC K H α fs gs->fs.map (·.1)=gs.map (·.1)
 |_,_,.nil=>rfl
 |_,_,.cons _ r=>by simp only[iC,r.keys]
def cC.reps:∀{fs:List (Str×D)} {gs:List (Str×V)},cC K H α fs gs->aA K H α (fs.map (·.2)) (gs.map (·.2))
 |_,_,.nil => .nil
 |_,_,.cons h r => .cons h r.reps
theorem cC.look{f:Str}{d:D}:∀{fs:List (Str×D)} {gs:List (Str×V)},cC K H α fs gs->fs.lookup f=some d->∃v,gs.lookup f=some v/\Rep K H α d v
 |_,_,.nil,h=>by cases h
 |_,_,@cC.cons _ _ _ g d' v' fs gs h r,e=>by
  rw[iZ] at e ⊢;by_cases q:(f==g)=true
  .rw[q] at e ⊢;simp only at e ⊢;cases e;exact⟨_,rfl,h⟩
  .have q:(f==g)=false:=by simpa using q
   rw[q] at e ⊢;exact r.look e
theorem cC.lookN{f:Str}:∀{fs:List (Str×D)} {gs:List (Str×V)},cC K H α fs gs->fs.lookup f=none->gs.lookup f=none
 |_,_,.nil,h=>rfl
 |_,_,@cC.cons _ _ _ g d' v' fs gs h r,e=>by
  rw[iZ] at e ⊢;by_cases q:(f==g)=true
  .rw[q] at e;cases e
  .have q:(f==g)=false:=by simpa using q
   rw[q] at e ⊢;exact r.lookN e
theorem cC.put{f:Str}{d:D}{v:V}(h0:Rep K H α d v):∀{fs:List (Str×D)} {gs:List (Str×V)},cC K H α fs gs->cC K H α (vD f d fs) (jg f v gs)
 |_,_,.nil => .cons h0 .nil
 |_,_,@cC.cons _ _ _ g d' v' fs gs h r=>by
  unfold vD jg;by_cases q:g=f
  .rw[if_pos q,if_pos q];exact .cons h0 r
  .rw[if_neg q,if_neg q];exact .cons h (r.put h0)
def cC.len{fs:List (Str×D)}{gs:List (Str×V)}(r:cC K H α fs gs):fs.length=gs.length:=by have:=congrArg List.length r.keys;simpa using this
end
noncomputable def gF(C f:Str)(fe:EF):EF:=λZ S=>(fe Z S).bind λr=>match r.1 with
 |.ref n=>match r.2[n]? with
  |some (.ins C' fs)=>if C'=C then(fs.lookup f).map λd=>(d,r.2) else none
  |_=>none
 |.obj C' ks xs=>if C'=C/\ks.length=xs.length then((ks.zip xs).lookup f).map λd=>(d,r.2) else none
 |_=>none
noncomputable def oK(C f:Str)(fo fv:EF):SF:=λZ S=>(fv Z S).bind λr=>(fo Z r.2).bind λq=>match q.1 with
 |.ref n=>match q.2[n]? with
  |some (.ins C' fs)=>if C'=C/\fs.length<3 then some (.nx,Z,q.2.set n (.ins C (vD f r.1 fs))) else none
  |_=>none
 |_=>none
noncomputable def kI(C m:Str)(n:Nat)(φ:GN)(fo:EF)(fa:AF):EF:=λZ S=>(fo Z S).bind λr=>match r.1 with
 |.ref j=>match r.2[j]? with
  |some (.ins C' fs)=>if C'=C/\fs.lookup m=none then(fa Z r.2).bind λq=>aO n φ (.ref j::q.1) q.2 else none
  |_=>none
 |_=>none
noncomputable def mQ(C:Str)(n:Nat)(S:So):D×So:=match S[n]? with
 |some (.ins C' fs)=>if C'=C/\3<=fs.length/\S.length=n+1/\cL n (fs.map (·.2))=true/\(S.take n).all (O.lo n)=true then(.obj C (fs.map (·.1)) (fs.map (·.2)),S.take n) else(.ref n,S)
 |_=>(.ref n,S)
noncomputable def pJ(C:Str)(n:Nat)(φ:GN)(fa:AF):EF:=λZ S=>(fa Z S).bind λr=>(aO n φ (.ref r.2.length::r.1) (r.2++[.ins C []])).bind λq=>match q.1 with
 |.non=>some (mQ C r.2.length q.2)
 |_=>none
structure Jo(X:Cx)(C f:Str):Prop where
 cls:je X.K (cj X.K C)
 no:dW X.K (cj X.K C) f
def Ju(X:Cx)(C m:Str)(n:Nat)(φ:GN):Prop:=∃f fd ps k,je X.K (cj X.K C)/\tO X.K (cj X.K C) m f/\Binds X.K fd ps []/\bR X.prog X.w X.K X.mg X.base fU k f fd ps (t8 X.K n φ)/\aV k X.A
def vg(X:Cx)(C:Str)(n:Nat)(φ:GN):Prop:=∃f fd ps k,X.mg C=some (.ref (cj X.K C))/\Mk X.K (cj X.K C) f/\Binds X.K fd ps []/\bR X.prog X.w X.K X.mg X.base fU k f fd ps (t8 X.K n φ)/\aV (k+1) X.A
section
variable {X:Cx}{C f m:Str}{e o:Expr}{es:List Expr}{fe fo fv:EF}{fa:AF}{n:Nat}{φ:GN}{pos pos' apos p:Pos}
theorem zqQ(ok:Jo X C f)(he:SE X e fe)(hb:attributeBase e f X.env (eval e X.env)=eval e X.env):SE X (.Attribute e f pos) (gF C f fe):=by
 refine PE.imp (zq9 he hb) λZ H Q h=>?_;obtain⟨σd,S,α,z,S',hv,hs,hf,k⟩:=h;unfold gF at hf;simp only[aU] at hf;obtain⟨⟨d,S1⟩,e1,e2⟩:=hf;refine⟨σd,S,α,d,S1,hv,hs,e1,λv H1 α1 s1 x1 r1=>?_⟩;simp only at e2;split at e2
 .rename_i j;split at e2
  .rename_i C' fs q;split at e2
   .rename_i hC;subst hC;simp only[aR] at e2;obtain⟨d',l,e3⟩:=e2;cases e3;cases r1 with
    |ref ha =>
     obtain⟨dx,gs,h1,h2,h3⟩:=s1.obj _ _ _ q ha;obtain⟨w,lw,fJ⟩:=(cC.of h2 h3).look l;exact⟨_,_,dx,gs,w,rfl,h1,ok.cls,ok.no,lw,(k.trans x1).same s1 fJ⟩
   .cases e2
  .cases e2
 .rename_i C' ks xs;split at e2
  .rename_i hC;obtain⟨rfl,hl⟩:=hC;simp only[aR] at e2;obtain⟨d',l,e3⟩:=e2;cases e3;cases r1 with
   |@obj a C dx gs ks ds vs h1 h2 h3 h4 h5 =>
    have z1:(ks.zip xs).map (·.1)=gs.map (·.1):=by rw[List.map_fst_zip (Nat.le_of_eq hl),h3]
    have z2:aA X.K H1 α1 ((ks.zip xs).map (·.2)) (gs.map (·.2)):=by rw[List.map_snd_zip (Nat.le_of_eq hl.symm),h4];exact h5
    obtain⟨w,lw,fJ⟩:=(cC.of z1 z2).look l;exact⟨_,_,dx,gs,w,rfl,h1,ok.cls,ok.no,lw,(k.trans x1).same s1 fJ⟩
  .cases e2
 .cases e2
theorem zqp(ok:Jo X C f)(ho:SE X o fo)(hv:SE X e fv)(hs:swapsWith e (some (.Attribute o f pos')) pos.line X.env=pure false):SS X (.Assign [.Attribute o f pos'] e pos) (oK C f fo fv):=by
 refine PS.imp (zqZ ho hv hs) λD Z H h=>?_;obtain⟨σd,S,α,fl,σd',S',Qp,hss,hf,k⟩:=h;unfold oK at hf;simp only[aU] at hf;obtain⟨⟨d,S1⟩,e1,⟨d2,S2⟩,e2,e3⟩:=hf;refine⟨σd,S,α,d,S1,Qp,hss,e1,λv H1 α1 s1 x1 r1=>⟨σd,S1,α1,d2,S2,Qp.mono x1,s1,e2,λv2 H2 α2 s2 x2 r2=>?_⟩⟩;simp only at e3;split at e3
 .split at e3
  .rename_i C' fs q;split at e3
   .rename_i hC;obtain⟨rfl,hl⟩:=hC;cases e3;cases r2 with
    |ref ha =>
     obtain⟨dx,gs,h1,h2,h3⟩:=s2.obj _ _ _ q ha;have R:=cC.of h2 h3;refine⟨_,_,dx,gs,rfl,h1,ok.cls,ok.no,by rw[<-R.len];exact Nat.lt_trans hl (by decide),?_⟩;obtain⟨s3,x3⟩:=s2.put' (o := .ins C' (vD f d fs)) (u := .ins (cj X.K C') dx (jg f v gs)) q rfl rfl ha h1 (λ_ z=>by cases z) (λ_ _ z=>by cases z) (λc dy hs l z=>by cases z;rw[<-R.len] at l;omega) λx=>by
      have R2:=(cC.put (f:=f) (r1.mono x2) R)
      exact⟨dx,_,dI,R2.keys,R2.reps.mono x⟩
     exact k _ _ _ (((Qp.mono x1).mono x2).mono x3) s3 ((x1.trans x2).trans x3)
   .cases e3
  .cases e3
 .cases e3
theorem Ml{args:List Expr}(hbase:attributeBase o m env (eval o env)=eval o env)(hfew:((backTo pos (starEach args env)).all (λx => !x.1)&&(backToKw pos (keywordEach [] env)).all (λx=>x.1.isSome)&&decide (args.length+([]:List Keyword).length+(if([]:List Keyword).isEmpty then 0 else 1)<30))=true)(hline:(apos.endLine==pos.line)=true):eval (.Call (.Attribute o m apos) args [] pos) env=(do
  let ov <-eval o env
  standAt apos.atName
  let (f,first) <-holding [ov] (getMethod ov m (do return(<-importBound o env).getD true))
  callWith pos f first (backTo pos (starEach args env)) (backToKw pos (keywordEach [] env))):=by
 have hform:methodCallForm (args.length+([]:List Keyword).length) (backTo pos (starEach args env)) (backToKw pos (keywordEach [] env))=true:=by have h:=hfew;rw[<-h];rfl
 have hpos:methodCallPos true o env apos pos=pure pos:=by unfold methodCallPos;simp[hline]
 rw[arm_eval_Call,hbase];unfold methodCall;rw[hform,hpos];rfl
theorem zqL(R:Ju X C m n φ)(ho:SE X o fo)(ha:SA X (e::es) fa)(hbase:attributeBase o m X.env (eval o X.env)=eval o X.env)(hfew:((backTo pos (starEach (e::es) X.env)).all (λx => !x.1)&&(backToKw pos (keywordEach [] X.env)).all (λx=>x.1.isSome)&&decide ((e::es).length+([]:List Keyword).length+(if([]:List Keyword).isEmpty then 0 else 1)<30))=true)(hline:(apos.endLine==pos.line)=true)(hst:starEach (e::es) X.env=(false,eval e X.env)::starEach es X.env)(hpl:(backTo pos (starEach es X.env)).any (·.1)=false):
 SE X (.Call (.Attribute o m apos) (e::es) [] pos) (kI C m n φ fo fa):=by
 obtain⟨f,fd,ps,kk,c,hm,hb,F,hr⟩:=R;refine PE.imp (Ul ho c hm F hr hb .nil Fq ha hst hpl (Ml hbase hfew hline)) λZ H Q h=>?_;obtain⟨σd,S,α,z,S',hv,hs,hf,k⟩:=h;unfold kI at hf;simp only[aU] at hf;obtain⟨⟨d,S1⟩,e1,e2⟩:=hf;refine⟨σd,S,α,d,S1,hv,hs,e1,λv H1 α1 s1 x1 r1=>?_⟩;simp only at e2;split at e2
 .split at e2
  .rename_i C' fs q;split at e2
   .rename_i hC;obtain⟨rfl,hl⟩:=hC;simp only[aU] at e2;obtain⟨⟨ds,S2⟩,e3,e4⟩:=e2;unfold aO at e4;split at e4
    .rename_i hn;cases r1 with
     |ref ha =>
      obtain⟨dx,gs,h1,h2,h3⟩:=s1.obj _ _ _ q ha;refine⟨_,dx,gs,rfl,h1,(cC.of h2 h3).lookN hl,σd,S1,α1,ds,S2,hv.mono x1,s1,e3,λvs H2 α2 s2 x2 r2=>?_⟩;show t8 _ _ _ (_::(vs++[])) _ _ _;rw[List.append_nil];exact⟨by rw[<-hn,jb,jb,r2.length],S2,α2,_,z,S',s2,.cons (.ref (x2.pre _ _ ha)) r2,e4,k.trans (x1.trans x2)⟩
    .cases e4
   .cases e2
  .cases e2
 .cases e2
theorem zoh(R:Ju X C m n φ)(ho:SE X o fo)(hbase:attributeBase o m X.env (eval o X.env)=eval o X.env)(hline:(apos.endLine==pos.line)=true):
 SE X (.Call (.Attribute o m apos) [] [] pos) (kI C m n φ fo au):=by
 obtain⟨f,fd,ps,kk,c,hm,hb,F,hr⟩:=R;refine PE.imp (zmh ho c hm F hr hb .nil Fq (Ml hbase rfl hline)) λZ H Q h=>?_;obtain⟨σd,S,α,z,S',hv,hs,hf,k⟩:=h;unfold kI at hf;simp only[aU] at hf;obtain⟨⟨d,S1⟩,e1,e2⟩:=hf;refine⟨σd,S,α,d,S1,hv,hs,e1,λv H1 α1 s1 x1 r1=>?_⟩;simp only at e2;split at e2
 .split at e2
  .rename_i C' fs q;split at e2
   .rename_i hC;obtain⟨rfl,hl⟩:=hC;simp only[aU] at e2;obtain⟨⟨ds,S2⟩,e3,e4⟩:=e2;cases e3;unfold aO at e4;split at e4
    .rename_i hn;cases r1 with
     |ref ha =>
      obtain⟨dx,gs,h1,h2,h3⟩:=s1.obj _ _ _ q ha;refine⟨_,dx,gs,rfl,h1,(cC.of h2 h3).lookN hl,?_⟩;exact⟨by rw[<-hn];rfl,_,α1,_,z,S',s1,.cons (.ref ha) .nil,e4,k.trans x1⟩
    .cases e4
   .cases e2
  .cases e2
 .cases e2
theorem Zc(R:vg X C n φ)(hg:Gl X C)(ha:SA X (e::es) fa)(hdb:(C==("__debug__" : Str))=false)(hst:starEach (e::es) X.env=(false,eval e X.env)::starEach es X.env)(hpl:(backTo pos (starEach es X.env)).any (·.1)=false):
 SE X (.Call (.Name C p) (e::es) [] pos) (pJ C n φ fa):=by
 obtain⟨f,fd,ps,kk,hm,M,hb,F,hr⟩:=R;refine PE.imp (zoC M F hr hg hm hb .nil Fq ha hdb hst hpl) λZ H Q h=>?_;obtain⟨σd,S,α,z,S',hv,hs,hf,k⟩:=h;unfold pJ at hf;simp only[aU] at hf;obtain⟨⟨ds,S1⟩,e1,⟨d2,S2⟩,e2,e3⟩:=hf;refine⟨σd,S,α,ds,S1,hv,hs,e1,λvs H1 α1 s1 x1 r1=>λx dx hx hdx hne=>?_⟩;simp only at e2 e3;split at e3
 .have e4:=Option.some.inj e3;unfold aO at e2;split at e2
  .rename_i hn;have sa:Same H1 (upd H1 dx (.own x)):=lM hdx;have hx2:upd H1 dx (.own x) x=none:=by rw[bQ (Ne.symm hne)];exact hx
   obtain⟨s2,x2⟩:=(s1.mono sa).snoc (p:=x) (o := .ins C []) (u := .ins (cj X.K C) dx []) hx2 λα' e=>⟨dx,[],dI,rfl,.nil⟩
   have lx:(α1++[x])[S1.length]?=some x:=by rw[<-s1.len];simp
   have x12:Ext X.K H1 α1 (upd (upd H1 dx (.own x)) x (.ins (cj X.K C) dx [])) (α1++[x]):=(Same.ext sa).trans x2;rw[List.append_nil];refine⟨by rw[<-hn,jb,jb,r1.length],_,α1++[x],_,.non,_,s2,.cons (.ref lx) (r1.mono x12),e2,λw H3 α3 s3 x3 r3=>?_⟩;cases r3;refine⟨rfl,?_⟩;have l3:=x3.pre _ _ lx;have usual:(D.ref S1.length,S2)=(z,S')->Q (.ref x) H3:=λq=>by cases q;exact k _ _ _ s3 ((x1.trans x12).trans x3) (.ref l3)
   unfold mQ at e4;split at e4
   .rename_i C' fs q;split at e4
    .rename_i hq;obtain⟨rfl,q1,q2,q3,q4⟩:=hq;cases e4;obtain⟨dx3,gs,g1,g2,g3⟩:=s3.obj _ _ _ q l3;have gl:3<=gs.length:=by have:=congrArg List.length g2;simp only[cX] at this;omega
     have s4:=s3.cut S1.length (λo ho=>List.all_eq_true.mp q4 o ho);have xx:=x12.trans x3;exact k _ _ _ s4 (x1.trans ⟨xx.tups,λi b q=>by
      have hi:=(fj.mp q).1;rw[s1.len] at hi;rw[List.getElem?_take_of_lt hi];exact xx.pre i b q,xx.insts⟩) (.obj g1 gl g2.symm rfl (g3.cut _ q3))
    .exact usual e4
   .exact usual e4
  .cases e2
 .cases e3
end
def Ite(K:FgA)(a:Addr):It :=
 ⟨λi H=>∃vs v,cU K H a vs/\vs[i]?=some v,
  λi H x H'=>∃p v,x = .ref p/\H p=none/\H'=upd H p (.tup [.int (i:Nat),v])/\∀vs,cU K H a vs->vs[i]?=some v,
  λi H=>∃vs,cU K H a vs/\vs.length<=i⟩
theorem zph(h:α[n]?=some a):zZ K H α (.enm n) (Ite K a):=λi H1 α1 S1 x1 s1=>by
 have h1:=x1.pre _ _ h;unfold dJ;cases hm:S1[n]? with
 |none=>simp only[hm];exact⟨λe=>(nomatch e),λd e=>(nomatch e)⟩
 |some o =>
  have hob:=s1.obj _ _ _ hm h1;cases o with
  |lst ds =>
   simp only[hm];obtain⟨vs,q,r⟩:=hob;refine⟨λe=>?_,λd e=>?_⟩
   .have e':ds[i]?=none:=by simpa using e
    exact⟨vs,cU.of q,by rw[<-r.length];exact List.getElem?_eq_none_iff.mp e'⟩
   .have e':(ds[i]?).map (λx=>D.tup [.int (i:Nat),x])=some d:=by simpa using e
    simp only[aR] at e';obtain⟨x,e2,rfl⟩:=e';obtain⟨v,e1,rv⟩:=r.get e2;refine⟨⟨vs,v,cU.of q,e1⟩,λx H' y=>?_⟩;obtain⟨p,v',rfl,hp,rfl,hy⟩:=y;have:=hy vs (cU.of q);rw[e1] at this;cases this;exact⟨lM hp,.tup (dF.of dI) (.cons (.int _) (.cons (rv.mono (Same.ext (lM hp))) .nil))⟩
  |_=>simp only[hm];exact⟨λe=>(nomatch e),λd e=>(nomatch e)⟩
theorem zjz{P:Program}{tp:Pos}{e it l:Addr}(hei:e≠it):
 vI P w K (.Tuple es kk tp) (Ite K l) [e,it] e (λi h=>(∃old,IsEnum h e it (i:Nat) old)/\h.IsListIter it l i) where
 mem:=fG
 obj:=λi h ⟨⟨old,h1⟩,⟨o,h2,h3,h4⟩⟩ b hb=>by
  rcases List.mem_cons.mp hb with rfl|hb
  .exact⟨_,h1,λv z=>by cases z⟩
  .rw[List.mem_singleton.mp hb];exact⟨o,h2,λv z=>by rw[h4] at z;cases z⟩
 keep:=λi h h' ⟨⟨old,h1⟩,h2⟩ k=>⟨⟨old,k e (by simp) _ h1⟩,h2.at λo x=>k it (by simp) o x⟩
 item:=by
  intro X hP hw hK hc i pz s Z H E I hf st hg;subst hP hw hK;obtain⟨⟨old,he⟩,hit⟩:=st;obtain⟨vs,v,hS,hv⟩:=hg;obtain⟨its,rv,pl,hz⟩:=I.list hS;obtain⟨u,hu,ru⟩:=rv.get hv;refine wpAny_pyNext_enum_item he hit pl.isList (by simpa using hu) hei λh' ho hit' hT hsz hk=>?_;refine⟨_,rfl,wpAny_letOwnedTupleGo_enum (s:={ s with heap:=h',toks:=s.toks+1 }) ho λh'' he' hs'=>?_⟩;have helt:e<s.heap.objs.size:=b7 he;have hilt:it<s.heap.objs.size:=by obtain⟨_,x,_⟩:=hit;exact b7 x
  have kp:∀c o,c∉[e,it]->s.heap.get? c=some o->h''.get? c=some o:=λc o hc q=>by have c1:c≠e:=λz=>hc (by simp[z]);have c2:c≠it:=λz=>hc (by simp[z]);exact(hs'.2 c c1).trans (hk c o c1 c2 q)
  have hTe:s.heap.objs.size≠e:=Nat.ne_of_gt helt;have I1:Inv X pz Z (upd H s.heap.objs.size (.tup [.int (i:Nat),v])) { s with heap:=h'',toks:=s.toks+1 } :=
   MZ.Inv.turnedT (t':=s.toks+1) (iR:=[.int i s.toks,u]) I kp hf ((hs'.2 _ hTe).trans hT) (.cons ⟨_,rfl⟩ (.cons ru .nil)) (by show 2<=sizeLine;decide)
  refine⟨.ref s.heap.objs.size,_,I1,rfl,⟨s.heap.objs.size,v,rfl,I.hok.fresh (bT _),rfl,λvs' h=>by rw[I.list_inj h hS];exact hv⟩,⟨⟨_,by simpa using he'⟩,hit'.at λo y=>(hs'.2 it hei.symm).trans y⟩,λb hb=>?_⟩;have hlt:b<s.heap.objs.size:=by
   rcases List.mem_cons.mp hb with rfl|hb
   .exact helt
   .rw[List.mem_singleton.mp hb];exact hilt
  rw[bQ (cW hlt)];exact(hf b hb).1
 done:=by
  intro X hP hw hK hc i pz s Z H E I hf st hg;subst hP hw hK;obtain⟨⟨old,he⟩,hit⟩:=st;obtain⟨vs,hS,hlen⟩:=hg;obtain⟨its,rv,pl,hz⟩:=I.list hS;refine wpAny_pyNext_enum_end (I.ok.hd hc) he hit pl.isList (by simp;rw[<-rv.length];exact hlen) λh' hx=>⟨rfl,?_⟩
  exact MZ.Inv.turnedN (t':=s.toks) (ch:=[e,it]) I (λc o hc q=>hx c o (λz=>hc (by simp[z])) q) hf
 self:=λ_ _ _ _ _ st h=>by obtain⟨⟨old,he⟩,_⟩:=st;exact wpAny_pyIter_enum he h
def zls:bootBuiltins "enumerate" = some (.type "enumerate"):=by decide +kernel
section
variable {X:Cx}
noncomputable def pB(fe:EF):IF:=λZ S=>(fe Z S).bind λr=>match r.1 with
 |.ref n=>match r.2[n]? with
  |some (.lst _)=>some (.enm n,r.2)
  |_=>none
 |_=>none
theorem zqA{ts:List Expr}{tp:Pos}(hg:Gl X "enumerate")(hm:X.mg "enumerate" = none)(ha:SE X e fe)(hst:starEach [e] X.env=[(false,eval e X.env)]):
 SI X (.Tuple ts kk tp) (.Call (.Name "enumerate" p) [e] [] pos) (pB fe):=by
 intro pz s Z H R I h;obtain⟨σd,S,α,j,S',hv,hs,hf,k⟩:=h;unfold pB at hf;simp only[aU] at hf;obtain⟨⟨d,S1⟩,e1,e2⟩:=hf;simp only at e2;split at e2
 .rename_i n;split at e2
  .rename_i xs q;cases e2;have hst':starEach (e::[]) X.env=(false,eval e X.env)::starEach [] X.env:=hst;refine wpAny_Call_Name_kw (rA I hg hm zls ?_ (by decide) (by decide));refine PyProof.Rows.callWith_type1 ?_ hst' rfl;rw[hst'];refine Calls.spliced_cons (bK (ha pz s Z H (λv H1=>∃α1,aq X.K H1 α1 S'/\Ext X.K H α H1 α1/\Rep X.K H1 α1 (.ref n) v) I ⟨σd,S,α,.ref n,S',hv,hs,e1,λw H1 α1 s1 x1 r1=>⟨α1,s1,x1,r1⟩⟩) λu1 s1 ⟨v1,H1,I1,r1,α1,st1,x1,Dc⟩=>?_);refine Calls.spliced_nil ?_;cases Dc with
   |@ref _ l hl =>
    cases r1;obtain⟨ws,hw,rws⟩:=st1.obj _ _ _ q hl;obtain⟨its,rv,pl,hz⟩:=I1.list (cU.of (K:=X.K) hw);refine call_enumerate_list pl.isList λh' he hit hsz hk=>?_;have I2:Inv X pz Z H1 { s1 with heap:=h' }:=I1.kept (t':=s1.toks) hk;refine wpAny_pyIter_enum (s:={ s1 with heap:=h' }) he ?_;refine⟨_,_,_,_,H1,rfl,I2,zjz (K:=X.K) (l:=l) (e:=s1.heap.objs.size+1) (it:=s1.heap.objs.size) (Nat.succ_ne_self _),⟨⟨_,he⟩,hit⟩,λb hb=>?_,k _ _ _ st1 x1 (zph hl)⟩;have hge:s1.heap.objs.size<=b:=by
     rcases List.mem_cons.mp hb with rfl|hb
     .omega
     .rw[List.mem_singleton.mp hb];exact bT _
    exact I1.fpOk hge (I1.hok.fresh hge)
  .cases e2
 .cases e2
end
noncomputable def yK:GM
 |.ref n,[.int k],S=>match S[n]? with
  |some (.lst xs)=>(mC xs).bind λns=>if k∈ns then some (.int (ns.idxOf k:Nat),S) else none
  |_=>none
 |_,_,_=>none
theorem zhu{l:Addr}{vs:List Value}{k:Int}{t:Tok}(hl:s.heap.IsList l vs.toArray)(hi:IntsAre vs ns)(hb:ns.length<=sizeLine)(hk:k∈ns)(h:Q (.int (ns.idxOf k:Nat) s.toks) { s with toks:=s.toks+1 }):
 wpAny (model prog w) A (call (.builtin "list.index") [.ref l,.int k t]) Q E s:=by
 obtain⟨⟨cls,dd,data,sl⟩,ho,hc,n,hd⟩:=id hl;simp only at hc hd;subst hc hd;have hlen:=hi.length;have hj:ns.idxOf k<ns.length:=List.idxOf_lt_length_iff.mpr hk;rw[sizeLine_eq] at hb;refine call_meets PySem.F.slot_list_index ⟨_,ho,rfl⟩ PySem.F.entry_list_index (PySem.F.args_list_index_2 _ _)
  (PySem.SeqAt.list_indexAt l vs.toArray n dd sl (.int k t) (isInt k) (ns.idxOf k) (by simpa[hlen] using hj) (by omega) ?_ ?_) ⟨ho,λy hy=>(eq_isInt k t hi y (by simpa using hy)).at _ _,h⟩
 .show isInt k vs[ns.idxOf k]=true;rw[isInt_at k hi _ (by omega) hj];simpa using List.getElem_idxOf hj
 .intro j hjs hlt;show isInt k vs[j]=false;rw[isInt_at k hi j (by simpa using hjs) (by omega)];exact ne_of_lt_idxOf hlt _
theorem zmo:mX X "list.index" (rR X.K yK):=by
 intro pz s Z H v vs vv us Q I rv rs h;obtain⟨S,α,d,ds,z,S',hs,r,rr,hg,k⟩:=h;unfold yK at hg;split at hg
 .cases r with
  |ref ha =>
   split at hg
   .rename_i xs e;simp only[aU] at hg;obtain⟨ns,e1,e2⟩:=hg;split at e2
    .rename_i hk;cases e2;obtain⟨w,rfl,fJ⟩:=rr.inv1;cases fJ;cases rv;obtain⟨u,rfl,ru⟩:=rs.one;obtain⟨t,rfl⟩:=ru;obtain⟨ws,q,rws⟩:=hs.obj _ _ _ e ha;obtain⟨hz,its,n0,wX,hl,ho⟩:=I.lstM q;have hi:=wk rws wX e1;refine zhu (vs:=its) ⟨_,ho,rfl,n0,rfl⟩ hi (by rw[<-hi.length,<-hl];exact hz) hk ?_;exact⟨.int _,H,I.tok _,⟨_,rfl⟩,k.same hs (.int _)⟩
    .cases e2
   .cases hg
 .cases hg
section
variable {X:Cx}{e:Expr}{es:List Expr}{fa:AF}{x:Str}{apos cpos p:Pos}{j:Option String}
theorem zoi{t:Tok}(hg:Gl X x)(hm:X.mg x=some (.str y t))(hdb:(x==("__debug__" : Str))=false):SE X (.Name x p) (eC (.str y)):=by intro pz s Z H Q I h;obtain⟨σd,S,α,z,S',hv,hs,hf,k⟩:=h;cases hf;exact rC I hg hm ⟨.str y,H,I,⟨_,rfl⟩,k.same hs (.str _)⟩ hdb
end
structure Ctx where
 N:List Str
 names:List (Str×NameKind)
 sts:List Str
 fns:List (Str×Nat×GN)
 blt:List Str
 lf:Option (Str×Addr×GN):=none
 hof:List (Str×Str×(Addr->GN->GN)):=[]
 ext:Str->List Expr->Option EF:=λ_ _=>none
 kwx:Str->List Expr->List Keyword->Option EF:=λ_ _ _=>none
 gls:List (Str×Str):=[]
 flds:List (Str×Str):=[]
 mths:List (Str×Str×Nat×GN):=[]
 mks:List (Str×Nat×GN):=[]
def FnAt(P:Program)(w:World)(K:FgA)(mg:Str->Option Value)(base:Heap)(k:Nat)(x:Str)(n:Nat)(φ:GN):Prop :=
 ∃f fd ps,mg x=some (.ref f)/\PySem.W.keepIn K (.ref f)=true/\Binds K fd ps []/\bR P w K mg base fU k f fd ps (t8 K n φ)
def Aj(q:Str)(ap:Pos):Arguments:={ posonlyargs:=[],args:=[{ arg:=q,annotation:=none,pos:=ap }],vararg:=none,kwonlyargs:=[],kw_defaults:=[],kwarg:=none,defaults:=[] }
def zo0{q:Str}{ap:Pos}(env:Env):defaultsOf (Aj q ap) env=([],[]):=rfl
noncomputable def yD(c:Ctx)(X:Cx)(x q:Str)(G:Addr->GN->GN):Prop:=∃f fd p1 p2 k Pt ct,vL X Pt ct/\X.mg x=some (.ref f)/\PySem.W.keepIn X.K (.ref f)=true/\Binds X.K fd [p1,p2] []/\aV (k+2) X.A /\
 (∀(ap:Pos) (body:Expr) (scope:Scope) (pm cdv ctv:Value) (clos:List (Str×Addr)) (qual:Str) (u:Value),bindArgs (PySem.W.kla_fn "<lambda>" qual (Aj q ap) body scope clos pm cdv ctv) ⟨[u],[]⟩=pure [(q,u)]) /\
 (∀base:Heap,Mod X.K X.mg base->(∀b o,X.base.get? b=some o->base.get? b=some o)->EY X.prog X.w X.K X.mg base (k+1) f fd [p1,p2] G) /\
 ∀base:Heap,Mod X.K X.mg base->(∀b o,X.base.get? b=some o->base.get? b=some o)->∀y n ψ,c.fns.lookup y=some (n,ψ)->FnAt X.prog X.w X.K X.mg base k y n ψ
structure d9(c:Ctx)(X:Cx):Prop where
 N:X.N=c.N
 nd:c.N.Nodup
 names:X.env.scope.names=c.names
 kind:X.env.scope.kind = .function
 st:∀x∈c.sts,Loc X.env.scope x/\(X.fn x=true\/X.env.scope.names.lookup x=some .local)
 fns:∀x k φ,c.fns.lookup x=some (k,φ)->vh X x k φ
 blt:∀x∈c.blt,X.mg x=none
 calm:X.calm=true
 un:X.A.units+64<cLine
 lf:∀x a ψ,c.lf=some (x,a,ψ)->Ew X a ψ
 hof:∀x q G,c.hof.lookup x=some (q,G)->yD c X x q G
 ext:∀x es f p pos,c.ext x es=some f->SE X (.Call (.Name x p) es [] pos) f
 kwx:∀x es ks f p pos,c.kwx x es ks=some f->SE X (.Call (.Name x p) es ks pos) f
 gls:∀x y,c.gls.lookup x=some y->∃t,X.mg x=some (.str y t)
 flds:∀f C,c.flds.lookup f=some C->Jo X C f
 mths:∀m C n φ,c.mths.lookup m=some (C,n,φ)->Ju X C m n φ
 mks:∀C n φ,c.mks.lookup C=some (n,φ)->vg X C n φ
noncomputable def kZ:List Str->Str->Option Nat
 |[],_=>none
 |y::r,x=>if y=x then some 0 else(kZ r x).map (·+1)
theorem wB:∀{N:List Str} {x:Str} {i:Nat},kZ N x=some i->N[i]?=some x
 |[],_,_,h=>by cases h
 |y::r,x,i,h=>by
  unfold kZ at h;split at h
  .rename_i e;cases h;rw[e];rfl
  .simp only[aR] at h;obtain⟨j,h1,rfl⟩:=h;simpa using wB h1
def jh:Expr->Bool
 |.Starred _ _=>false
 |_=>true
theorem ig(h:jh e=true)(es:List Expr)(env:Env):starEach (e::es) env=(false,eval e env)::starEach es env:=by
 cases e with
 |Starred _ _=>cases h
 |_=>simp[starEach]
theorem rF(h:es.all jh=true)(pos:Pos)(env:Env):(backTo pos (starEach es env)).any (·.1)=false:=by
 induction es with
 |nil=>rfl
 |cons e r ih =>
  rw[jN,cG] at h;rw[ig h.1];show(false||(backTo pos (starEach r env)).any (·.1))=false;rw[ih h.2];rfl
theorem zlH(h:es.all jh=true)(pos:Pos)(env:Env):(backTo pos (starEach es env)).all (λx => !x.1)=true:=by
 induction es with
 |nil=>rfl
 |cons e r ih =>
  rw[jN,cG] at h;rw[ig h.1];show(!false&&(backTo pos (starEach r env)).all (λx => !x.1))=true;rw[ih h.2];rfl
def FJ:Expr->Bool
 |.Slice _ _ _ _=>false
 |_=>true
def ziZ{b:Expr}(h:FJ b=true):JC b:=by
 intro o i;cases b with
 |Slice _ _ _ _=>cases h
 |_=>rfl
def Rj:Expr->Bool
 |.Name _ _=>true
 |.Call _ _ _ _=>true
 |.Subscript _ _ _=>true
 |.Constant _ _ _=>true
 |.BinOp _ _ _ _=>true
 |.List _ _=>true
 |.Tuple _ _ _=>true
 |.Attribute _ _ _=>true
 |.ListComp _ _ _ _=>true
 |_=>false
theorem zj4{a:Expr}(h:Rj a=true)(env:Env)(whole:Sem Value):isTrue a env whole=(do let v <-whole;standAt a.pos;holding [v] (truthy v)):=by
 cases a with
 |Name _ _=>rfl
 |Call _ _ _ _=>rfl
 |Subscript _ _ _=>rfl
 |Constant _ _ _=>rfl
 |BinOp _ _ _ _=>rfl
 |List _ _=>rfl
 |Tuple _ _ _=>rfl
 |Attribute _ _ _=>rfl
 |ListComp _ _ _ _=>rfl
 |_=>cases h
def Ai:Expr->Bool
 |.Set _ _ _=>false
 |_=>true
def V8(h:Ai e=true)(env:Env)(x:Value):foldedSetIterable e env x=pure x:=by
 cases e with
 |Set _ _ _=>cases h
 |_=>rfl
def qU:Expr->Bool
 |.ListComp _ _ _ _=>false
 |.SetComp _ _ _ _=>false
 |.DictComp _ _ _ _ _=>false
 |_=>true
theorem zK(h:qU e=true)(t:Option Expr)(l:Nat)(env:Env):swapsWith e t l env=pure false:=by
 cases e with
 |ListComp _ _ _ _=>cases h
 |SetComp _ _ _ _=>cases h
 |DictComp _ _ _ _ _=>cases h
 |_=>rfl
def Jy:Expr->Bool
 |.Tuple _ _ _=>false
 |_=>true
def xu:Expr->Bool
 |.Tuple _ _ _=>true
 |.List _ _=>true
 |_=>false
theorem zi6{t:Expr}(h:xu t=false)(e:Expr)(env:Env):swappedStores [t] e env=pure none:=by
 cases t with
 |Tuple _ _ _=>cases h
 |List _ _=>cases h
 |_=>rfl
theorem zi5(h:Jy e=true)(ts:List Expr)(k:Nat)(p:Pos)(env:Env):swappedStores [.Tuple ts k p] e env=pure none:=by
 cases e with
 |Tuple _ _ _=>cases h
 |_=>rfl
def yh:List (Str×String):=[("int", "int"),("bool", "bool"),("str", "str"),("tuple", "tuple"),("list", "list")]
theorem zlr{T:String}(h:yh.lookup x=some T):bootBuiltins x=some (.type T):=by have hm:=gU h;unfold yh at hm;simp only[List.mem_cons,qC,or_false,Prod.mk.injEq] at hm;rcases hm with⟨rfl,rfl⟩|⟨rfl,rfl⟩|⟨rfl,rfl⟩|⟨rfl,rfl⟩|⟨rfl,rfl⟩<;>decide +kernel
def lH(x:Str):Bool:=(x==("__debug__" : Str))||(x==("__classdict__" : Str))||(x==("__name__" : Str))
def ou(h:lH x=false):(x==("__debug__" : Str))=false:=by unfold lH at h;rw[Bool.or_eq_false_iff,Bool.or_eq_false_iff] at h;exact h.1.1
def Qe(h:lH x=false):(x==("__classdict__" : Str))=false:=by unfold lH at h;rw[Bool.or_eq_false_iff,Bool.or_eq_false_iff] at h;exact h.1.2
def w6(h:lH x=false):x≠("__name__" : Str):=by unfold lH at h;rw[Bool.or_eq_false_iff] at h;exact beq_eq_false_iff_ne.mp h.2
noncomputable def nmE(c:Ctx)(x:Str):Option EF:=if lH x=true then none else match c.names.lookup x with
 |some .local=>(kZ c.N x).map aj
 |some .cell=>(kZ c.N x).map aj
 |some .free=>(kZ c.N x).map aj
 |some .globalImplicit=>if x∈c.blt then(yh.lookup x).map λT=>eC (.ty T) else(c.gls.lookup x).map λy=>eC (.str y)
 |_=>none
noncomputable def Ra:Const->Option EF
 |.int i=>some (eC (.int i))
 |.bool b=>some (eC (.bl b))
 |.none=>some (eC .non)
 |.str x=>some (eC (.str x))
 |_=>none
section
variable {c:Ctx}{X:Cx}
theorem ziQ{f:EF}(ok:d9 c X)(h:nmE c x=some f):SE X (.Name x pos) f:=by
 unfold nmE at h;split at h
 .cases h
 .rename_i ho;have ho':lH x=false:=by simpa using ho
  have loc:∀(v:qw X.env.scope x),(kZ c.N x).map aj=some f->SE X (.Name x pos) f:=λv e=>by simp only[aR] at e;obtain⟨i,e1,rfl⟩:=e;exact zqE (by rw[ok.N];exact wB e1) v (ou ho') (Qe ho')
  split at h
  .rename_i e;exact loc (.inl (by rw[ok.names];exact e)) h
  .rename_i e;exact loc (.inr (.inl (by rw[ok.names];exact e))) h
  .rename_i e;exact loc (.inr (.inr (by rw[ok.names];exact e))) h
  .rename_i e;split at h
   .rename_i hb;simp only[aR] at h;obtain⟨T,e1,rfl⟩:=h;exact oZ (Tn (show X.env.scope.names.lookup x=_ by rw[ok.names];exact e) (ok.blt x hb) (zlr e1) (v := .ty T) rfl (w6 ho') (ou ho')) λ_ _ => .ty T
   .simp only[aR] at h;obtain⟨y,e1,rfl⟩:=h;obtain⟨t,ht⟩:=ok.gls x y e1;exact zoi (show X.env.scope.names.lookup x=_ by rw[ok.names];exact e) ht (ou ho')
  .cases h
theorem zhe{k:Const}{f:EF}(h:Ra k=some f):SE X (.Constant k j pos) f:=by
 cases k with
 |int i=>cases h;exact zqP
 |bool b=>cases h;exact Y9
 |none=>cases h;exact zqI
 |str x=>cases h;exact zqG
 |_=>cases h
end
def Df(cn names:List (Str×NameKind)):List (Str×NameKind):=names.map fun(n,k)=>if(k==NameKind.free&&true&&cn.lookup n==some .cell) then(n,NameKind.cell) else(n,k)
def ud(names:List (Str×NameKind)):List Str:=(names.filter λy=>(y.2 == .local||y.2 == .cell)&&y.1 != (".0" : Str)).map (·.1)
def Ah(c:Ctx)(names:List (Str×NameKind)):List (Str×Nat):=names.filterMap λy=>if y.2==NameKind.free then(kZ c.N y.1).map λi=>(y.1,i) else none
def uf(c:Ctx)(names:List (Str×NameKind)):List Str:=ud names++(Ah c names).map (·.1)
def yP(c:Ctx)(names:List (Str×NameKind)):List (Option Nat):=(ud names).map (λ_=>none)++(Ah c names).map λp=>some p.2
noncomputable def Fj(c:Ctx)(names:List (Str×NameKind)):Ctx:={ N:=uf c names,names:=Df c.names names,sts:=ud names,fns:=c.fns,blt:=c.blt,flds:=c.flds,mths:=c.mths,mks:=c.mks }
def Ad(c:Ctx)(scope:Scope):Bool:=decide (scope.kind = .function)&&scope.names.all (λy=>decide (scope.names.lookup y.1=some y.2)) &&
 scope.names.all (λy=>decide (y.2 = .free->(c.names.lookup y.1=some .cell\/c.names.lookup y.1=some .free)))&&decide (uf c scope.names).Nodup
section
variable {c:Ctx}{X:Cx}{scope:Scope}
theorem zmG{p:Str×Nat}(h:p∈Ah c names):(p.1,NameKind.free)∈names/\kZ c.N p.1=some p.2:=by
 unfold Ah at h;obtain⟨y,hy,e⟩:=List.mem_filterMap.mp h;split at e
 .rename_i hk;simp only[aR] at e;obtain⟨i,e1,rfl⟩:=e;have:y.2=NameKind.free:=by simpa using hk
  refine⟨?_,e1⟩;rw[<-this];exact hy
 .cases e
theorem zoH(h:x∈ud names):(x,NameKind.local)∈names\/(x,NameKind.cell)∈names:=by
 unfold ud at h;obtain⟨y,hy,rfl⟩:=List.mem_map.mp h;obtain⟨h1,h2⟩:=List.mem_filter.mp hy;rw[cG,lV] at h2;obtain⟨y1,y2⟩:=y;rcases h2.1 with q|q
 .have:y2=NameKind.local:=by simpa using q
  subst this;exact .inl h1
 .have:y2=NameKind.cell:=by simpa using q
  subst this;exact .inr h1
theorem zpK(ok:d9 c X)(h:Ad c scope=true):qX X scope (uf c scope.names) (yP c scope.names):=by
 unfold Ad at h;rw[cG,cG,cG] at h;obtain⟨⟨⟨h1,h2⟩,h3⟩,h4⟩:=h;rw[List.all_eq_true] at h2 h3;have u:∀y∈scope.names,scope.names.lookup y.1=some y.2:=λy hy=>of_decide_eq_true (h2 y hy);refine⟨of_decide_eq_true h1,u,λy hy e=>?_,by simp[yP,uf],λj i x e1 e2=>?_⟩
 .have:=of_decide_eq_true (h3 y hy) e;show X.env.scope.names.lookup y.1=_\/X.env.scope.names.lookup y.1=_;rw[ok.names];exact this
 .unfold uf at e1;unfold yP at e2;have hj:(ud scope.names).length<=j:=by
   refine Nat.le_of_not_lt λhlt=>?_;rw[lW (by simpa using hlt),gR] at e2;cases q:(ud scope.names)[j]? with
   |none=>rw[q] at e2;cases e2
   |some z=>rw[q] at e2;cases e2
  rw[Ac (by simpa using hj),gR,cX] at e2;rw[Ac hj,gR] at e1;cases q:(Ah c scope.names)[j - (ud scope.names).length]? with
  |none=>rw[q] at e2;cases e2
  |some p =>
   rw[q] at e1 e2;simp only[m8,Option.some.injEq] at e1 e2;obtain⟨m1,m2⟩:=zmG (List.mem_of_getElem? q);subst e1 e2;exact⟨by rw[ok.N];exact wB m2,u _ m1⟩
theorem zmS(ok:d9 c X)(h:Ad c scope=true){Y:Cx}(hy:oJ X scope (uf c scope.names) Y):d9 (Fj c scope.names) Y:=by
 have h0:=h;unfold Ad at h;rw[cG,cG,cG] at h;obtain⟨⟨⟨h1,h2⟩,h3⟩,h4⟩:=h;rw[List.all_eq_true] at h2;have u:∀y∈scope.names,scope.names.lookup y.1=some y.2:=λy hy=>of_decide_eq_true (h2 y hy);have hn:Y.env.scope.names=Df c.names scope.names:=by
  rw[hy.sc];show List.map _ scope.names=List.map _ scope.names;refine List.map_congr_left λy _=>?_;obtain⟨n,k⟩:=y;have e1:(X.env.scope.kind == .function)=true:=by rw[ok.kind];rfl
  have e2:X.env.kindOf n=c.names.lookup n:=by show X.env.scope.names.lookup n=_;rw[ok.names]
  simp only[e1,e2]
 refine⟨hy.N,of_decide_eq_true h4,hn,by rw[hy.sc];exact of_decide_eq_true h1,λx hx=>?_,λx k φ e=>?_,λx hx=>by rw[hy.mg];exact ok.blt x hx,hy.calm.trans ok.calm,by rw[hy.A];exact ok.un,λ_ _ _ h=>(nomatch h),λ_ _ _ h=>(nomatch h),λ_ _ _ _ _ h=>(nomatch h),λ_ _ _ _ _ _ h=>(nomatch h),λ_ _ h=>(nomatch h),λf C e=>?_,λm C n φ e=>?_,λC n φ e=>?_⟩
 .have lk:∀k,k ≠ .free->scope.names.lookup x=some k->Y.env.scope.names.lookup x=some k:=λk hk e=>by
   rw[hy.sc];show(List.map _ scope.names).lookup x=_;rw[show(List.map _ scope.names).lookup x=_ from Nt,e];have hb:(k==NameKind.free)=false:=by simpa using hk
   show some (if(k==NameKind.free&&_&&_)=true then NameKind.cell else k)=some k;rw[hb];rfl
  rcases zoH hx with m|m
  .have e:=u _ m;exact⟨.inl (lk _ (by decide) e),.inr (lk _ (by decide) e)⟩
  .have e:=u _ m;exact⟨.inr (lk _ (by decide) e),.inl (hy.fn x e)⟩
 .obtain⟨f,fd,ps,kk,m1,m2,m3,m4,m5⟩:=ok.fns x k φ e;refine⟨f,fd,ps,kk,by rw[hy.mg];exact m1,by rw[hy.K];exact m2,by rw[hy.K];exact m3,?_,by rw[hy.A];exact m5⟩;rw[hy.prog,hy.w,hy.K,hy.mg,hy.base];exact m4
 .obtain⟨h1,h2⟩:=ok.flds f C e;exact⟨by rw[hy.K];exact h1,by rw[hy.K];exact h2⟩
 .obtain⟨f,fd,ps,kk,m1,m2,m3,m4,m5⟩:=ok.mths m C n φ e;refine⟨f,fd,ps,kk,by rw[hy.K];exact m1,by rw[hy.K];exact m2,by rw[hy.K];exact m3,?_,by rw[hy.A];exact m5⟩;rw[hy.prog,hy.w,hy.K,hy.mg,hy.base];exact m4
 .obtain⟨f,fd,ps,kk,m1,m2,m3,m4,m5⟩:=ok.mks C n φ e;refine⟨f,fd,ps,kk,by rw[hy.K,hy.mg];exact m1,by rw[hy.K];exact m2,by rw[hy.K];exact m3,?_,by rw[hy.A];exact m5⟩;rw[hy.prog,hy.w,hy.K,hy.mg,hy.base];exact m4
end
noncomputable def Fw(c:Ctx):Expr->Option GF
 |.Name x _=>if x∈c.sts then(kZ c.N x).map aL else none
 |_=>none
noncomputable def Fx(c:Ctx):List Expr->Option n6
 |[]=>some nJ
 |e::r=>(Fw c e).bind λf=>(Fx c r).map λfr=>gA f fr
noncomputable def yN(c:Ctx):Expr->Option GF
 |.Name x p=>Fw c (.Name x p)
 |.Tuple es _ _=>(Fx c es).map λfr=>lO es.length fr
 |_=>none
section
variable {c:Ctx}{X:Cx}
theorem Xf(ok:d9 c X){f:GF}(h:Fw c e=some f):SG X e f:=by
 cases e with
 |Name x p =>
  simp only[Fw] at h;split at h
  .rename_i hx;simp only[aR] at h;obtain⟨i,e1,rfl⟩:=h;obtain⟨h1,h2⟩:=ok.st x hx;exact zoc (by rw[ok.N];exact ok.nd) (by rw[ok.N];exact wB e1) h1 h2
  .cases h
 |_=>cases h
theorem Xg(ok:d9 c X):∀{es:List Expr} {f:n6},Fx c es=some f->Es X es f/\(assignEach es X.env).length=es.length/\(assignEach es X.env).findIdx? (·.1)=none
 |[],f,h=>by cases h;exact⟨zob,rfl,rfl⟩
 |e::r,f,h=>by
  unfold Fx at h;simp only[aU,aR] at h;obtain⟨f1,e1,fr,e2,rfl⟩:=h;obtain⟨i1,i2,i3⟩:=Xg ok e2;have ea:assignEach (e::r) X.env=(false,assign e X.env)::assignEach r X.env:=by
   cases e with
   |Name x p=>rfl
   |_=>cases e1
  refine⟨zl0 (Xf ok e1) i1 (by rw[ea];rfl),by rw[ea,jb,jb,i2],?_⟩;rw[ea,List.findIdx?_cons,i3];rfl
theorem Bs(ok:d9 c X){f:GF}(h:yN c e=some f):SG X e f:=by
 cases e with
 |Name x p=>exact Xf ok h
 |Tuple es k p =>
  unfold yN at h;simp only[aR] at h;obtain⟨fr,e1,rfl⟩:=h;obtain⟨i1,i2,i3⟩:=Xg ok e1;exact zqC ok.calm i1 i2 i3
 |_=>cases h
end
def Rc:EF:=λ_ _=>none
def zl4:SE X e Rc:=λ_ _ _ _ _ _ h=>by obtain⟨_,_,_,_,_,_,_,hf,_⟩:=h;cases hf
section
variable (rE:Ctx->Expr->Option EF)(rT:Ctx->Expr->Option TF)
noncomputable def jP(c:Ctx):List Expr->Option AF
 |[]=>some au
 |e::r=>if jh e=true then(rE c e).bind λf=>(jP c r).map λfr=>ak f fr else none
noncomputable def Fg(c:Ctx)(op:BoolOp):List Expr->Option EF
 |[]=>none
 |[a]=>rE c a
 |a::b::r=>(rE c a).bind λf=>(Fg c op (b::r)).map λg=>match op with
  |.And=>pP f g
  |.Or=>zW f g
noncomputable def Fi(c:Ctx)(op:BoolOp):List Expr->Option TF
 |[]=>none
 |[a]=>rT c a
 |a::b::r=>(rT c a).bind λf=>(Fi c op (b::r)).map λg=>match op with
  |.And=>qT f g
  |.Or=>kW f g
noncomputable def Fp(c:Ctx):Option Expr->Option PF
 |none=>some lG
 |some e=>(rE c e).map jT
def yo:List (Str×String×GN):=[("len", "len",iD),("abs", "abs",tR),("min", "min",qP),("max", "max",lF),("isinstance", "isinstance",m9),("all", "all",qJ)]
def yj:List (Str×String×GN):=[("tuple", "tuple",qZ),("list", "list",qO)]
noncomputable def Jh(params:Arguments):Option (Str×Pos):=match params.args with
 |[]=>none
 |a::r=>match r with
  |_::_=>none
  |[]=>if params.posonlyargs.isEmpty=true/\params.vararg.isNone=true/\params.kwonlyargs.isEmpty=true/\params.kw_defaults.isEmpty=true/\params.kwarg.isNone=true/\params.defaults.isEmpty=true/\a.annotation.isNone=true then some (a.arg,a.pos) else none
def nG(names:List (Str×NameKind)):List Str:=(names.filter λy=>y.2==NameKind.free).map (·.1)
noncomputable def oY(c:Ctx):List Str->Option (List Nat)
 |[]=>some []
 |y::r=>(kZ c.N y).bind λi=>(oY c r).map λl=>i::l
noncomputable def DG(c:Ctx)(q:Str)(scope:Scope):Bool:=decide (scope.kind = .function) && !scope.isCoroutine && !scope.isGenerator&&decide (scope.names.lookup q=some .local)&&scope.names.all (λy=>decide (y.2 ≠ .cell)) &&
 scope.names.all (λy=>decide (scope.names.lookup y.1=some y.2))&&scope.names.all (λy=>decide (y.2 = .free->c.names.lookup y.1=some .cell))&&decide (q::nG scope.names).Nodup
noncomputable def Js(c:Ctx)(x:Str)(es:List Expr):Option EF:=if lH x=true then none else
 if c.names.lookup x=some .globalImplicit/\es.all jh=true/\es≠[] then
  match c.fns.lookup x with
  |some (k,φ)=>(jP rE c es).map λfa=>eN (aO k φ) fa
  |none=>match c.mks.lookup x with
  |some (n,φ)=>(jP rE c es).map λfa=>pJ x n φ fa
  |none=>if x∈c.blt then match yo.lookup x with
   |some (_,g)=>(jP rE c es).map λfa=>eN g fa
   |none=>match yj.lookup x with
    |some (_,g)=>(jP rE c es).map λfa=>eN g fa
    |none=>none
   else some Rc
 else none
def Jr(c:Ctx)(x:Str)(es:List Expr):Option EF:=match c.ext x es with
 |some f=>some f
 |none=>Js rE c x es
def isTup:Expr->Bool
 |.Tuple _ _ _=>true
 |_=>false
def El(c:Ctx)(es:List Expr):Option IF:=match es with
 |[]=>none
 |e::r=>match r with
  |[]=>(rE c e).map pB
  |_::_=>none
noncomputable def Je(c:Ctx)(tg:Expr):Expr->Option IF
 |.Call (.Name x p) es [] pos=>if x = "zip" /\ c.names.lookup x=some .globalImplicit/\x∈c.blt/\es.all jh=true/\es≠[]/\isTup tg=true then(jP rE c es).map qK else if x = "enumerate" /\ c.names.lookup x=some .globalImplicit/\x∈c.blt/\es.all jh=true/\isTup tg=true then El rE c es else if x = "range" /\ c.names.lookup x=some .globalImplicit/\x∈c.blt/\es.all jh=true then
  match es with
  |[_]=>(jP rE c es).map nj
  |[_,_]=>(jP rE c es).map xJ
  |_=>none
  else(rE c (.Call (.Name x p) es [] pos)).map fP
 |e=>(rE c e).map fP
abbrev Fo(c:Ctx)(tg e:Expr):Option IF:=Je rE c tg e
noncomputable def xH(c:Ctx):List Expr->Option TF
 |[]=>some d8
 |[t]=>rT c t
 |_=>none
def Ae(c:Ctx)(elt:Expr)(g:Comprehension)(scope:Scope):Option EF :=
 if g.is_async=0/\Ad c scope=true/\Ai g.iter=true then
  (Fo rE c g.target g.iter).bind λfi=>(yN (Fj c scope.names) g.target).bind λfg=>(xH rT (Fj c scope.names) g.ifs).bind λft=>(rE (Fj c scope.names) elt).map λfe=>eV fi fg ft fe (yP c scope.names)
 else none
def o8:List (Str×String×GM):=[("append", "list.append",ug),("insert", "list.insert",yR),("extend", "list.extend",yQ),("pop", "list.pop",mO),("reverse", "list.reverse",yO),("index", "list.index",yK)]
theorem zmq(hu:X.A.units+64<cLine){m:Str}{p:String×GM}(h:o8.lookup m=some p):Slot "list" m p.1/\typeOf (.builtin p.1)=pure (.type "method_descriptor")/\mX X p.1 (rR X.K p.2):=by
 have hm:=gU h;unfold o8 at hm;simp only[List.mem_cons,qC,or_false,Prod.mk.injEq] at hm;rcases hm with⟨rfl,rfl⟩|⟨rfl,rfl⟩|⟨rfl,rfl⟩|⟨rfl,rfl⟩|⟨rfl,rfl⟩|⟨rfl,rfl⟩
 .exact⟨PySem.F.slot_list_append,PySem.F.type_list_append,zkt⟩
 .exact⟨PySem.F.slot_list_insert,PySem.F.type_list_insert,zkr⟩
 .exact⟨PySem.F.slot_list_extend,PySem.F.type_list_extend,zks⟩
 .exact⟨PySem.F.slot_list_pop,PySem.F.type_list_pop,Zw⟩
 .exact⟨PySem.F.slot_list_reverse,PySem.F.type_list_reverse,zi8⟩
 .exact⟨PySem.F.slot_list_index,PySem.F.type_list_index,zmo⟩
noncomputable def Jf(c:Ctx)(o:Expr)(m:Str)(apos:Pos)(es:List Expr)(cpos:Pos):Option EF :=
 if es.all jh=true/\es.length<20/\(apos.endLine==cpos.line)=true then
  match o with
  |.Name x p=>match c.mths.lookup m with
   |some (C,n,φ)=>match es with
    |[]=>(rE c (.Name x p)).map λfo=>kI C m n φ fo au
    |e::r=>(rE c (.Name x p)).bind λfo=>(jP rE c (e::r)).map λfa=>kI C m n φ fo fa
   |none=>match o8.lookup m with
   |some (_,g)=>match es with
    |[]=>(rE c (.Name x p)).map λfo=>uZ g fo
    |e::r=>(rE c (.Name x p)).bind λfo=>(jP rE c (e::r)).map λfa=>eM g fo fa
   |none=>none
  |_=>none
 else none
def Jq(c:Ctx)(e:Expr)(f:Str):Option EF:=match e with
 |.Name x p=>match c.flds.lookup f with
  |some C=>(rE c (.Name x p)).map λfe=>gF C f fe
  |none=>none
 |_=>none
noncomputable def unE(c:Ctx)(op:UnaryOp)(a:Expr):Option EF:=match op with
 |.USub=>(rE c a).map (eU vB)
 |.Not=>(rE c a).map mR
 |_=>none
noncomputable def QM(c:Ctx)(a:Expr)(ops:List CmpOp)(bs:List Expr):Option EF:=match ops with
 |[]=>none
 |op::r=>match r with
  |_::_=>none
  |[]=>match bs with
   |[]=>none
   |b::q=>match q with
    |_::_=>none
    |[]=>if op ≠ .In/\op ≠ .NotIn then(rE c a).bind λfa=>(rE c b).map λfb=>eB (bB op) fa fb else none
def Px(c:Ctx)(a:Expr)(lo hi st:Option Expr):Option EF:=match st with
 |none=>(rE c a).bind λfa=>(Fp rE c lo).bind λfl=>(Fp rE c hi).map λfh=>j9 fa fl fh
 |some _=>none
def CT(c:Ctx)(a b:Expr):Option EF:=match b with
 |.Slice lo hi st _=>Px rE c a lo hi st
 |_=>none
def Pu(c:Ctx)(a b:Expr):Option EF:=if FJ b=true then(rE c a).bind λfa=>(rE c b).map λfb=>eB aH fa fb else CT rE c a b
noncomputable def QR(c:Ctx)(f:Expr)(es:List Expr)(ks:List Keyword)(pos:Pos):Option EF:=match ks with
 |[]=>match f with
  |.Name x _=>Jr rE c x es
  |.Attribute o m apos=>Jf rE c o m apos es pos
  |_=>none
 |k::r=>match f with
  |.Name x _=>c.kwx x es (k::r)
  |_=>none
def lcE(c:Ctx)(elt:Expr)(gs:List Comprehension)(scope:Scope):Option EF:=match gs with
 |[]=>none
 |g::r=>match r with
  |[]=>Ae rE rT c elt g scope
  |_::_=>none
noncomputable def uL(c:Ctx)(e:Expr):Option EF:=match e with
 |.Name x _=>nmE c x
 |.Constant k _ _=>Ra k
 |.BinOp a op b _=>(rE c a).bind λfa=>(rE c b).map λfb=>eB (aN op) fa fb
 |.UnaryOp op a _=>unE rE c op a
 |.BoolOp op es _=>Fg rE c op es
 |.Compare a ops bs _=>QM rE c a ops bs
 |.Tuple es _ _=>(jP rE c es).map (eN b8)
 |.List es _=>(jP rE c es).map (eN kJ)
 |.Subscript a b _=>Pu rE c a b
 |.IfExp t a b _=>(rT c t).bind λft=>(rE c a).bind λfa=>(rE c b).map λfb=>u5 ft fa fb
 |.Call f es ks pos=>QR rE c f es ks pos
 |.Attribute e f _=>Jq rE c e f
 |.ListComp elt gs scope _=>lcE rE rT c elt gs scope
 |_=>none
noncomputable def Ji(c:Ctx):Expr->Option TF
 |.UnaryOp .Not a _=>(rT c a).map pY
 |.BoolOp op es _=>Fi rT c op es
 |.Compare a [op] [b] _=>if op ≠ .In/\op ≠ .NotIn then(rE c a).bind λfa=>(rE c b).map λfb=>bZ (eB (bB op) fa fb) else none
 |e=>if Rj e=true then(rE c e).map jy else none
end
mutual
def cE:Nat->Ctx->Expr->Option EF
 |0,_,_=>none
 |n+1,c,e=>uL (cE n) (cT n) c e
def cT:Nat->Ctx->Expr->Option TF
 |0,_,_=>none
 |n+1,c,e=>Ji (cE n) (cT n) c e
end
def lR(rE:Ctx->Expr->Option EF):Prop:=∀c X e f,d9 c X->rE c e=some f->SE X e f
def yw(rT:Ctx->Expr->Option TF):Prop:=∀c X e f,d9 c X->rT c e=some f->ST X e f
section
variable {rE:Ctx->Expr->Option EF}{rT:Ctx->Expr->Option TF}{c:Ctx}{X:Cx}
theorem lK(hE:lR rE)(ok:d9 c X):∀{es:List Expr} {f:AF},jP rE c es=some f->SA X es f/\es.all jh=true
 |[],f,h=>by cases h;exact⟨zqT,rfl⟩
 |e::r,f,h=>by
  unfold jP at h;split at h
  .rename_i hn;simp only[aU,aR] at h;obtain⟨f1,e1,fr,e2,rfl⟩:=h;obtain⟨i1,i2⟩:=lK hE ok e2;exact⟨zok (hE c X e f1 ok e1) i1 (ig hn r X.env),by rw[jN,hn,i2];rfl⟩
  .cases h
theorem Wo(hE:lR rE)(ok:d9 c X){op:BoolOp}{pos:Pos}:∀{es:List Expr} {f:EF},Fg rE c op es=some f->SE X (.BoolOp op es pos) f
 |[],f,h=>by cases h
 |[a],f,h=>zl7 (hE c X a f ok h)
 |a::b::r,f,h=>by
  unfold Fg at h;simp only[aU,aR] at h;obtain⟨f1,e1,fr,e2,rfl⟩:=h;have i:=Wo hE ok (pos:=pos) e2;cases op with
  |And=>exact zqS (hE c X a f1 ok e1) i
  |Or=>exact Zf (hE c X a f1 ok e1) i
theorem Xe(hT:yw rT)(ok:d9 c X){op:BoolOp}{pos:Pos}:∀{es:List Expr} {f:TF},Fi rT c op es=some f->SW X (.BoolOp op es pos) f
 |[],f,h=>by cases h
 |[a],f,h=>by
  cases op with
  |And=>exact znM (hT c X a f ok h)
  |Or=>exact zqh (hT c X a f ok h)
 |a::b::r,f,h=>by
  unfold Fi at h;simp only[aU,aR] at h;obtain⟨f1,e1,fr,e2,rfl⟩:=h;have i:=Xe hT ok (pos:=pos) e2;cases op with
  |And=>exact zqi (hT c X a f1 ok e1) i
  |Or=>exact zr7 (hT c X a f1 ok e1) i
theorem Ws(hE:lR rE)(ok:d9 c X){e:Option Expr}{f:PF}(h:Fp rE c e=some f):Er X e f:=by
 cases e with
 |none=>cases h;exact zn0
 |some e =>
  unfold Fp at h;simp only[aR] at h;obtain⟨f1,e1,rfl⟩:=h;exact znY (hE c X e f1 ok e1)
theorem zlu{p:String×GN}(h:yo.lookup x=some p)(hc:X.calm=true):bootBuiltins x=some (.builtin p.1)/\gW X (.builtin p.1) (jC X.K p.2):=by
 have hm:=gU h;unfold yo at hm;simp only[List.mem_cons,qC,or_false,Prod.mk.injEq] at hm;rcases hm with⟨rfl,rfl⟩|⟨rfl,rfl⟩|⟨rfl,rfl⟩|⟨rfl,rfl⟩|⟨rfl,rfl⟩|⟨rfl,rfl⟩
 .exact⟨by decide +kernel,zr0⟩
 .exact⟨by decide +kernel,zr3⟩
 .exact⟨by decide +kernel,zpQ hc⟩
 .exact⟨by decide +kernel,zpR hc⟩
 .exact⟨by decide +kernel,zr1⟩
 .exact⟨by decide +kernel,zr2 hc⟩
theorem zlt{p:String×GN}(h:yj.lookup x=some p):bootBuiltins x=some (.type p.1)/\gW X (.type p.1) (jC X.K p.2):=by
 have hm:=gU h;unfold yj at hm;simp only[List.mem_cons,qC,or_false,Prod.mk.injEq] at hm;rcases hm with⟨rfl,rfl⟩|⟨rfl,rfl⟩
 .exact⟨by decide +kernel,zmX⟩
 .exact⟨by decide +kernel,zpP⟩
theorem zhf(hE:lR rE)(ok:d9 c X){f:EF}(h:Js rE c x es=some f):SE X (.Call (.Name x p) es [] pos) f:=by
 unfold Js at h;split at h
 .cases h
 .rename_i ho;have ho':lH x=false:=by simpa using ho
  split at h
  .rename_i hc;obtain⟨h1,h2,h3⟩:=hc;have hg:Gl X x:=by show X.env.scope.names.lookup x=_;rw[ok.names];exact h1
   cases es with
   |nil=>exact absurd rfl h3
   |cons e r =>
    rw[jN,cG] at h2;split at h
    .rename_i k φ e1;simp only[aR] at h;obtain⟨fa,e2,rfl⟩:=h;exact zoj hg (ok.fns x k φ e1) (lK hE ok e2).1 (ou ho') (ig h2.1 r X.env) (rF h2.2 pos X.env)
    split at h
    .rename_i n φ e1;simp only[aR] at h;obtain⟨fa,e2,rfl⟩:=h;exact Zc (ok.mks x n φ e1) hg (lK hE ok e2).1 (ou ho') (ig h2.1 r X.env) (rF h2.2 pos X.env)
    .split at h
     .rename_i hb;split at h
      .rename_i q g e1;simp only[aR] at h;obtain⟨fa,e2,rfl⟩:=h;obtain⟨b1,b2⟩:=zlu e1 ok.calm;exact zl6 b2 hg (ok.blt x hb) b1 (lK hE ok e2).1 (w6 ho') (ou ho') (ig h2.1 r X.env) (rF h2.2 pos X.env)
      .split at h
       .rename_i q g e1;simp only[aR] at h;obtain⟨fa,e2,rfl⟩:=h;obtain⟨b1,b2⟩:=zlt (X:=X) e1;exact zl5 b2 hg (ok.blt x hb) b1 (lK hE ok e2).1 (w6 ho') (ou ho') (ig h2.1 r X.env) (rF h2.2 pos X.env)
       .cases h
     .cases h;exact zl4
  .cases h
theorem zi3{q:Str}{ap:Pos}(h:Jh params=some (q,ap)):params=Aj q ap:=by
 obtain⟨a1,a2,a3,a4,a5,a6,a7⟩:=params;unfold Jh at h;simp only at h;split at h
 .cases h
 .rename_i a r;split at h
  .cases h
  .split at h
   .rename_i hc;obtain⟨h1,h2,h3,h4,h5,h6,h7⟩:=hc;cases h;obtain⟨b1,b2,b3⟩:=a;simp only[List.isEmpty_iff,Option.isNone_iff_eq_none] at h1 h2 h3 h4 h5 h6 h7;subst h1 h2 h3 h4 h5 h6 h7;rfl
   .cases h
theorem Lg{c:Ctx}:∀{cap:List Str} {src:List Nat},oY c cap=some src->cap.length=src.length/\∀(i:Nat) y,cap[i]?=some y->∃j,src[i]?=some j/\c.N[j]?=some y
 |[],src,h=>by cases h;exact⟨rfl,λi y e=>by simp at e⟩
 |y::r,src,h=>by
  unfold oY at h;simp only[aU,aR] at h;obtain⟨i0,e0,l,e1,rfl⟩:=h;obtain⟨h1,h2⟩:=Lg e1;refine⟨by simp[h1],λi z e=>?_⟩;cases i with
  |zero=>simp at e;subst e;exact⟨i0,rfl,wB e0⟩
  |succ i=>simpa using h2 i z (by simpa using e)
theorem Sw(h:y∈nG names):(y,NameKind.free)∈names:=by
 unfold nG at h;obtain⟨z,hz,rfl⟩:=List.mem_map.mp h;obtain⟨h1,h2⟩:=List.mem_filter.mp hz;obtain⟨z1,z2⟩:=z;have:z2=NameKind.free:=by simpa using h2
 subst this;exact h1
theorem ziS(hE:lR rE)(ok:d9 c X){f:EF}(h:Jr rE c x es=some f):SE X (.Call (.Name x p) es [] pos) f:=by
 unfold Jr at h;split at h
 .rename_i f' ef;cases h;exact ok.ext x es f p pos ef
 .exact zhf hE ok h
theorem zhd(hE:lR rE)(ok:d9 c X){f:IF}(h:Je rE c tg e=some f):SI X tg e f:=by
 have dflt:∀{e:Expr},(rE c e).map fP=some f->SI X tg e f:=λ{e} q=>by simp only[aR] at q;obtain⟨f1,e1,rfl⟩:=q;exact zqz (hE c X e f1 ok e1)
 unfold Je at h;split at h
 .rename_i x p es pos;split at h
  .rename_i hc;obtain⟨rfl,h1,h2,h3,h4,h5⟩:=hc;have hg:Gl X "zip" := by show X.env.scope.names.lookup _=_;rw[ok.names];exact h1
   simp only[aR] at h;obtain⟨fa,e2,rfl⟩:=h;cases es with
   |nil=>exact absurd rfl h4
   |cons e r =>
    rw[jN,cG] at h3;cases tg with
    |Tuple ts kk tp=>exact zqy hg (ok.blt _ h2) (lK hE ok e2).1 (ig h3.1 r X.env) (rF h3.2 pos X.env)
    |_=>cases h5
  split at h
  .rename_i hc;obtain⟨rfl,h1,h2,h3,h5⟩:=hc;have hg:Gl X "enumerate" := by show X.env.scope.names.lookup _=_;rw[ok.names];exact h1
   unfold El at h;cases es with
   |nil=>cases h
   |cons e r =>
    cases r with
    |cons _ _=>cases h
    |nil =>
     simp only[aR] at h;obtain⟨fe,e2,rfl⟩:=h;rw[jN,cG] at h3;cases tg with
     |Tuple ts kk tp=>exact zqA hg (ok.blt _ h2) (hE c X _ fe ok e2) (by rw[ig h3.1];rfl)
     |_=>cases h5
  split at h
  .rename_i hc;obtain⟨rfl,h1,h2,h3⟩:=hc;have hg:Gl X "range" := by show X.env.scope.names.lookup _=_;rw[ok.names];exact h1
   split at h
   .rename_i a;simp only[aR] at h;obtain⟨fa,e2,rfl⟩:=h;rw[jN,cG] at h3;exact zjT hg (ok.blt _ h2) (lK hE ok e2).1 (by rw[ig h3.1];rfl)
   .rename_i a b;simp only[aR] at h;obtain⟨fa,e2,rfl⟩:=h;rw[jN,jN,cG,cG] at h3;exact zjS hg (ok.blt _ h2) (lK hE ok e2).1 (by rw[ig h3.1,ig h3.2.1];rfl) (by rw[ig h3.2.1];rfl)
   .cases h
  .exact dflt h
 .exact dflt h
def Wr(hE:lR rE)(ok:d9 c X){f:IF}(h:Fo rE c tg e=some f):SI X tg e f:=zhd hE ok h
theorem zjO(hT:yw rT)(ok:d9 c X){ifs:List Expr}{f:TF}(h:xH rT c ifs=some f):vd X ifs f:=by
 unfold xH at h;split at h
 .cases h;exact znP
 .exact znO (hT c X _ f ok h)
 .cases h
theorem Wq(hE:lR rE)(hT:yw rT)(ok:d9 c X){elt:Expr}{g:Comprehension}{f:EF}(h:Ae rE rT c elt g scope=some f):
 ∃fi fg ft fe,f=eV fi fg ft fe (yP c scope.names)/\g=⟨g.target,g.iter,g.ifs,0⟩/\qX X scope (uf c scope.names) (yP c scope.names)/\SI X g.target g.iter fi /\
  (∀Y,oJ X scope (uf c scope.names) Y->SG Y g.target fg/\vd Y g.ifs ft/\SE Y elt fe)/\∀x,foldedSetIterable g.iter X.env x=pure x:=by
 unfold Ae at h;split at h
 .rename_i hc;obtain⟨h1,h2,h3⟩:=hc;simp only[aU,aR] at h;obtain⟨fi,e1,fg,e2,ft,e3,fe,e4,rfl⟩:=h;refine⟨fi,fg,ft,fe,rfl,?_,zpK ok h2,Wr hE ok e1,λY hy=>?_,V8 h3 X.env⟩
  .obtain⟨a,b,d,z⟩:=g;have:z=0:=h1;subst this;rfl
  .have Qd:=zmS ok h2 hy;exact⟨Bs Qd e2,zjO hT Qd e3,hE _ Y elt fe Qd e4⟩
 .cases h
theorem J9(h1:es.all jh=true)(h3:es.length<20):((backTo cpos (starEach es env)).all (λx => !x.1)&&(backToKw cpos (keywordEach [] env)).all (λx=>x.1.isSome)&&decide (es.length+([]:List Keyword).length+(if([]:List Keyword).isEmpty then 0 else 1)<30))=true:=by rw[zlH h1];show(true&&true&&_)=true;rw[cG];exact⟨rfl,decide_eq_true (by simp;omega)⟩
theorem ziR(hE:lR rE)(ok:d9 c X){o:Expr}{m:Str}{f:EF}(h:Jf rE c o m apos es cpos=some f):SE X (.Call (.Attribute o m apos) es [] cpos) f:=by
 unfold Jf at h;split at h
 .rename_i hc;obtain⟨h1,h3,h4⟩:=hc;split at h
  .rename_i x p;split at h
   .rename_i C n φ e1;have R:=ok.mths m C n φ e1;cases es with
    |nil =>
     simp only[aR] at h;obtain⟨fo,e2,rfl⟩:=h;exact zoh R (hE c X _ fo ok e2) rfl h4
    |cons e r =>
     have h1':=h1;rw[jN,cG] at h1;simp only[aU,aR] at h;obtain⟨fo,e2,fa,e3,rfl⟩:=h;exact zqL R (hE c X _ fo ok e2) (lK hE ok e3).1 rfl (J9 h1' h3) h4 (ig h1.1 r X.env) (rF h1.2 cpos X.env)
   split at h
   .rename_i q g e1;obtain⟨m1,m2,m3⟩:=zmq ok.un e1;cases es with
    |nil =>
     simp only[aR] at h;obtain⟨fo,e2,rfl⟩:=h;exact zqM m1 m2 m3 (hE c X _ fo ok e2) rfl h4
    |cons e r =>
     have h1':=h1;rw[jN,cG] at h1;simp only[aU,aR] at h;obtain⟨fo,e2,fa,e3,rfl⟩:=h;exact Zd m1 m2 m3 (hE c X _ fo ok e2) (lK hE ok e3).1 rfl (J9 h1' h3) h4 (ig h1.1 r X.env) (rF h1.2 cpos X.env)
   .cases h
  .cases h
 .cases h
theorem ziT(hE:lR rE)(ok:d9 c X){g:Str}{f:EF}(h:Jq rE c e g=some f):SE X (.Attribute e g p) f:=by
 unfold Jq at h;cases e with
 |Name x q =>
  simp only at h;split at h
  .rename_i C e0;obtain⟨fe,e1,rfl⟩:=aR.mp h;exact zqQ (ok.flds g C e0) (hE c X _ fe ok e1) rfl
  .cases h
 |_=>cases h
theorem zhc(hE:lR rE)(hT:yw rT):lR (uL rE rT):=by
 intro c X e f ok h;cases e with
 |Name x p=>exact ziQ ok h
 |Constant k a b=>exact zhe h
 |BinOp a op b p =>
  obtain⟨fa,e1,h⟩:=aU.mp h;obtain⟨fb,e2,rfl⟩:=aR.mp h;exact Ze (hE c X _ fa ok e1) (hE c X _ fb ok e2)
 |UnaryOp op a p =>
  cases op with
  |USub =>
   obtain⟨fa,e1,rfl⟩:=aR.mp h;exact zqJ (hE c X _ fa ok e1)
  |Not =>
   obtain⟨fa,e1,rfl⟩:=aR.mp h;exact zqH (hE c X _ fa ok e1)
  |_=>exact nomatch (show(none:Option EF)=some f from h)
 |BoolOp op es p=>exact Wo hE ok h
 |Compare a ops bs p =>
  cases ops with
  |nil=>exact nomatch (show(none:Option EF)=some f from h)
  |cons op r =>
   cases r with
   |cons _ _=>exact nomatch (show(none:Option EF)=some f from h)
   |nil =>
    cases bs with
    |nil=>exact nomatch (show(none:Option EF)=some f from h)
    |cons b q =>
     cases q with
     |cons _ _=>exact nomatch (show(none:Option EF)=some f from h)
     |nil =>
      change (if op ≠ .In/\op ≠ .NotIn then(rE c a).bind λfa=>(rE c b).map λfb=>eB (bB op) fa fb else none)=some f at h;by_cases hc:op ≠ .In/\op ≠ .NotIn
      .rw[if_pos hc] at h;obtain⟨fa,e1,h⟩:=aU.mp h;obtain⟨fb,e2,rfl⟩:=aR.mp h;exact zqR ok.un hc.1 hc.2 (hE c X _ fa ok e1) (hE c X _ fb ok e2)
      .rw[if_neg hc] at h;cases h
 |Tuple es a b =>
  obtain⟨fa,e1,rfl⟩:=aR.mp h;exact zqF (lK hE ok e1).1
 |List es a =>
  obtain⟨fa,e1,rfl⟩:=aR.mp h;exact zqN (lK hE ok e1).1
 |Subscript a b p =>
  change (if FJ b=true then(rE c a).bind λfa=>(rE c b).map λfb=>eB aH fa fb else CT rE c a b)=some f at h;by_cases hp:FJ b=true
  .rw[if_pos hp] at h;obtain⟨fa,e1,h⟩:=aU.mp h;obtain⟨fb,e2,rfl⟩:=aR.mp h;exact Zb (ziZ hp) (hE c X _ fa ok e1) (hE c X _ fb ok e2)
  .rw[if_neg hp] at h;cases b with
   |Slice lo hi st q =>
    cases st with
    |some _=>exact nomatch (show(none:Option EF)=some f from h)
    |none =>
     obtain⟨fa,e1,h⟩:=aU.mp h;obtain⟨fl,e2,h⟩:=aU.mp h;obtain⟨fh,e3,rfl⟩:=aR.mp h;exact zl3 (hE c X _ fa ok e1) (Ws hE ok e2) (Ws hE ok e3)
   |_=>exact nomatch (show(none:Option EF)=some f from h)
 |IfExp t a b p =>
  obtain⟨ft,e0,h⟩:=aU.mp h;obtain⟨fa,e1,h⟩:=aU.mp h;obtain⟨fb,e2,rfl⟩:=aR.mp h;exact Za (hT c X _ ft ok e0) (hE c X _ fa ok e1) (hE c X _ fb ok e2)
 |Call g es ks pos =>
  cases ks with
  |cons k r =>
   cases g with
   |Name x p=>exact ok.kwx x es (k::r) f p pos h
   |_=>exact nomatch (show(none:Option EF)=some f from h)
  |nil =>
   cases g with
   |Name x p=>exact ziS hE ok h
   |Attribute o m p=>exact ziR hE ok h
   |_=>exact nomatch (show(none:Option EF)=some f from h)
 |ListComp elt gs scope p =>
  cases gs with
  |nil=>exact nomatch (show(none:Option EF)=some f from h)
  |cons g r =>
   cases r with
   |cons _ _=>exact nomatch (show(none:Option EF)=some f from h)
   |nil =>
    obtain⟨fi,fg,ft,fe,rfl,eg,Iw,hi,hY,hfs⟩:=Wq hE hT ok h;rw[eg];exact Ru ok.calm Iw hi hY hfs
 |Attribute e g p=>exact ziT hE ok h
 |_=>exact nomatch (show(none:Option EF)=some f from h)
theorem zhb(hE:lR rE)(hT:yw rT):yw (Ji rE rT):=by
 intro c X e f ok h;unfold Ji at h;split at h
 .simp only[aR] at h;obtain⟨fa,e1,rfl⟩:=h;exact zqk (hT c X _ fa ok e1)
 .exact PW.pt (Xe hT ok h)
 .split at h
  .rename_i hc;simp only[aU,aR] at h;obtain⟨fa,e1,fb,e2,rfl⟩:=h;exact zql ok.un hc.1 hc.2 (hE c X _ fa ok e1) (hE c X _ fb ok e2)
  .cases h
 .split at h
  .rename_i hp;simp only[aR] at h;obtain⟨fa,e1,rfl⟩:=h;exact zqj (hE c X _ fa ok e1) (zj4 hp X.env)
  .cases h
theorem jA:∀n,lR (cE n)/\yw (cT n)
 |0=>⟨λ_ _ _ _ _ h=>by simp[cE] at h,λ_ _ _ _ _ h=>by simp[cT] at h⟩
 |n+1=>by
  obtain⟨h1,h2⟩:=jA n;refine⟨λc X e f ok h=>?_,λc X e f ok h=>?_⟩
  .rw[cE] at h;exact zhc h1 h2 c X e f ok h
  .rw[cT] at h;exact zhb h1 h2 c X e f ok h
end
def FT:SF:=λ_ _=>none
def zlK:SS X st FT:=λ_ _ _ _ _ _ h=>by obtain⟨_,_,_,_,_,_,_,_,hf,_⟩:=h;cases hf
noncomputable def u9(c:Ctx)(x:Str)(e:Expr):Option SF:=match e with
 |.ListComp elt gs scope _=>match gs with
  |[]=>none
  |g::r=>match r with
   |_::_=>none
   |[]=>if x∈c.sts then(kZ c.N x).bind λi=>(Ae (cE 60) (cT 60) c elt g scope).map λf=>bD f (aL i) else none
 |_=>none
def En(c:Ctx)(x:Str)(e:Expr):Option SF:=if x∈c.sts then(cE 60 c e).bind λfe=>(kZ c.N x).map λi=>bD fe (aL i) else none
def Gb(c:Ctx)(o:Expr)(f:Str)(e:Expr):Option SF:=match o with
 |.Name x p=>match c.flds.lookup f with
  |some C=>(cE 60 c e).bind λfe=>(cE 60 c (.Name x p)).map λfo=>oK C f fo fe
  |none=>none
 |_=>none
def Jp(c:Ctx)(tg e:Expr):Option SF:=(cE 60 c e).bind λfe=>(yN c tg).map λfg=>bD fe fg
def xG:Expr->Bool
 |.ListComp _ _ _ _=>true
 |_=>false
noncomputable def yq(c:Ctx)(tg e:Expr):Option SF :=
 if qU e=true then
  if Jy e=true then match tg with
   |.Attribute o f _=>Gb c o f e
   |tg=>Jp c tg e
  else match tg with
   |.Name x _=>En c x e
   |.Attribute o f _=>Gb c o f e
   |_=>none
 else match tg with
  |.Name x _=>u9 c x e
  |.Tuple ts k p=>if xG e=true then Jp c (.Tuple ts k p) e else none
  |_=>none
def uW(e:Expr):Bool:=match e with
 |.Constant k _ _=>match k with
  |.str _=>true
  |_=>false
 |_=>false
def xY(c:Ctx)(e:Expr):Option SF:=if uW e=true then some aP else if qU e=true then(cE 60 c e).map jH else none
mutual
def cS:Nat->Ctx->Stmt->Option SF
 |0,_,_=>none
 |n+1,c,st=>match st with
  |.Pass _=>some aP
  |.Break _=>some CW
  |.Continue _=>some o5
  |.Expr e _=>xY c e
  |.Return o _=>match o with
   |none=>some uM
   |some e=>(cE 60 c e).map bW
  |.Raise _ _ _=>some FT
  |.Assign Cp e _=>match Cp with
   |[]=>none
   |tg::r=>match r with
    |[]=>yq c tg e
    |_::_=>none
  |.If t a b _=>(cT 60 c t).bind λft=>(jq n c a).bind λfa=>(jq n c b).map λfb=>dD ft fa fb
  |.While t a o _=>match o with
   |[]=>(cT 60 c t).bind λft=>(jq n c a).map λfa=>jK ft fa
   |_::_=>none
  |.For tg it a o _=>match o with
   |[]=>if Ai it=true then(Fo (cE 60) c tg it).bind λfi=>(yN c tg).bind λfg=>(jq n c a).map λfa=>oE fi fg fa else none
   |_::_=>none
  |_=>none
def jq:Nat->Ctx->List Stmt->Option SF
 |0,_,_=>none
 |_+1,_,[]=>some aP
 |n+1,c,st::r=>(cS n c st).bind λf=>(jq n c r).map λg=>aB f g
end
theorem zhg{c:Ctx}(ok:d9 c X){px:Pos}{f:SF}(h:u9 c x e=some f):SS X (.Assign [.Name x px] e spos) f:=by
 have hE:=(jA 60).1;have hT:=(jA 60).2;cases e with
 |ListComp elt gs scope p=>cases gs with
  |nil=>exact nomatch (show(none:Option SF)=some f from h)
  |cons g r=>cases r with
   |cons _ _=>exact nomatch (show(none:Option SF)=some f from h)
   |nil =>
    change (if x∈c.sts then(kZ c.N x).bind λi=>(Ae (cE 60) (cT 60) c elt g scope).map λf=>bD f (aL i) else none)=some f at h;by_cases hx:x∈c.sts
    .rw[if_pos hx] at h;obtain⟨i,e0,h⟩:=aU.mp h;obtain⟨f1,e1,rfl⟩:=aR.mp h;obtain⟨fi,fg,ft,fe,rfl,eg,Iw,hi,hY,hfs⟩:=Wq hE hT ok e1;obtain⟨s1,s2⟩:=ok.st x hx;have nd:X.N.Nodup:=by rw[ok.N];exact ok.nd
     have sl:X.N[i]?=some x:=by rw[ok.N];exact wB e0
     rw[eg];have key:swapsWith (.ListComp elt [⟨g.target,g.iter,g.ifs,0⟩] scope p) (some (.Name x px)) spos.line X.env=pure (X.env.blockKind==ScopeKind.function&&X.env.kindOf x==some NameKind.local&&px.line==p.line && !(scope.names.any λy=>y.1==x&&(y.2==NameKind.local||y.2==NameKind.cell))):=rfl;cases hb:(X.env.blockKind==ScopeKind.function&&X.env.kindOf x==some NameKind.local&&px.line==p.line && !(scope.names.any λy=>y.1==x&&(y.2==NameKind.local||y.2==NameKind.cell))) with
     |true =>
      rw[hb] at key;rw[cG,cG,cG] at hb;have hk:X.env.kindOf x=some .local:=by simpa using hb.1.1.2
      exact zlJ nd sl hk key ok.calm Iw hi hY hfs
     |false =>
      rw[hb] at key;exact R5 nd sl s1 (Ru ok.calm Iw hi hY hfs) key s2
    .rw[if_neg hx] at h;cases h
 |_=>exact nomatch (show(none:Option SF)=some f from h)
theorem Xb{c:Ctx}(ok:d9 c X){o:Expr}{g:Str}{f:SF}(hc:qU e=true)(h:Gb c o g e=some f):SS X (.Assign [.Attribute o g p] e spos) f:=by
 have hE:=(jA 60).1;unfold Gb at h;cases o with
 |Name x q =>
  simp only at h;split at h
  .rename_i C e0;obtain⟨fe,e1,h⟩:=aU.mp h;obtain⟨fo,e2,rfl⟩:=aR.mp h;exact zqp (ok.flds g C e0) (hE c X _ fo ok e2) (hE c X _ fe ok e1) (zK hc _ _ _)
  .cases h
 |_=>cases h
theorem ziU{c:Ctx}(ok:d9 c X){f:SF}(h:yq c tg e=some f):SS X (.Assign [tg] e spos) f:=by
 have hE:=(jA 60).1;unfold yq at h;by_cases hc:qU e=true
 .rw[if_pos hc] at h;by_cases ht:Jy e=true
  .rw[if_pos ht] at h;cases tg with
   |Attribute o g p=>exact Xb ok hc h
   |Name _ _ =>
    obtain⟨fe,e1,h⟩:=aU.mp h;obtain⟨fg,e2,rfl⟩:=aR.mp h;exact Kg (hE c X _ fe ok e1) (Bs ok e2) (by unfold swapsWithSole;exact zK hc _ _ _) (zi6 rfl _ _) rfl
   |Tuple _ _ _ =>
    obtain⟨fe,e1,h⟩:=aU.mp h;obtain⟨fg,e2,rfl⟩:=aR.mp h;exact Kg (hE c X _ fe ok e1) (Bs ok e2) (by unfold swapsWithSole;exact zK hc _ _ _) (zi5 ht _ _ _ _) rfl
   |_ =>
    obtain⟨fe,e1,h⟩:=aU.mp h;obtain⟨fg,e2,h⟩:=aR.mp h;cases e2
  .rw[if_neg ht] at h;cases tg with
   |Name x px =>
    change (if x∈c.sts then(cE 60 c e).bind λfe=>(kZ c.N x).map λi=>bD fe (aL i) else none)=some f at h;by_cases hx:x∈c.sts
    .rw[if_pos hx] at h;obtain⟨fe,e1,h⟩:=aU.mp h;obtain⟨i,e2,rfl⟩:=aR.mp h;obtain⟨s1,s2⟩:=ok.st x hx;exact R5 (by rw[ok.N];exact ok.nd) (by rw[ok.N];exact wB e2) s1 (hE c X _ fe ok e1) (zK hc _ _ _) s2
    .rw[if_neg hx] at h;cases h
   |Attribute o g p=>exact Xb ok hc h
   |_=>exact nomatch (show(none:Option SF)=some f from h)
 .rw[if_neg hc] at h;cases tg with
  |Name x px=>exact zhg ok h
  |Tuple ts k0 p =>
   change (if xG e=true then Jp c (.Tuple ts k0 p) e else none)=some f at h;by_cases hl:xG e=true
   .rw[if_pos hl] at h;obtain⟨fe,e1,h⟩:=aU.mp h;obtain⟨fg,e2,rfl⟩:=aR.mp h;cases e with
    |ListComp _ _ _ _=>exact Kg (hE c X _ fe ok e1) (Bs ok e2) rfl rfl rfl
    |_=>cases hl
   .rw[if_neg hl] at h;cases h
  |_=>exact nomatch (show(none:Option SF)=some f from h)
theorem zjP{c:Ctx}(ok:d9 c X){f:SF}(h:xY c e=some f):SS X (.Expr e p) f:=by
 have hE:=(jA 60).1;unfold xY at h;by_cases hd:uW e=true
 .rw[if_pos hd] at h;cases h;cases e with
  |Constant k a b=>cases k with
   |str _=>exact zqq
   |_=>cases hd
  |_=>cases hd
 .rw[if_neg hd] at h;by_cases hc:qU e=true
  .rw[if_pos hc] at h;obtain⟨fe,e1,rfl⟩:=aR.mp h;exact znW (hE c X _ fe ok e1) (zK hc _ _ _)
  .rw[if_neg hc] at h;cases h
theorem Bp:∀n c X,d9 c X->PassesOwn (model X.prog X.w) X.A X.env X.xe->(∀st f,cS n c st=some f->SS X st f)/\∀sts f,jq n c sts=some f->vf X sts f
 |0,c,X,ok,hp=>⟨λ_ _ h=>by simp[cS] at h,λ_ _ h=>by simp[jq] at h⟩
 |n+1,c,X,ok,hp=>by
  obtain⟨ih1,ih2⟩:=Bp n c X ok hp;have hE:=(jA 60).1;have hT:=(jA 60).2;refine⟨λst f h=>?_,λsts f h=>?_⟩
  .unfold cS at h;cases st with
   |Pass _=>cases h;exact znV
   |Break _=>cases h;exact zqs
   |Continue _=>cases h;exact zqr
   |Expr e p=>exact zjP ok h
   |Return o p=>cases o with
    |none=>cases h;exact znU
    |some e =>
     obtain⟨fe,e1,rfl⟩:=aR.mp h;exact zqm (hE c X _ fe ok e1)
   |Raise _ _ _=>cases h;exact zlK
   |Assign Cp e p=>cases Cp with
    |nil=>exact nomatch (show(none:Option SF)=some f from h)
    |cons tg r=>cases r with
     |nil=>exact ziU ok h
     |cons _ _=>exact nomatch (show(none:Option SF)=some f from h)
   |If t a b p =>
    obtain⟨ft,e0,h⟩:=aU.mp h;obtain⟨fa,e1,h⟩:=aU.mp h;obtain⟨fb,e2,rfl⟩:=aR.mp h;exact zr8 (hT c X _ ft ok e0) (ih2 _ fa e1) (ih2 _ fb e2)
   |While t a o p=>cases o with
    |cons _ _=>exact nomatch (show(none:Option SF)=some f from h)
    |nil =>
     obtain⟨ft,e0,h⟩:=aU.mp h;obtain⟨fa,e1,rfl⟩:=aR.mp h;exact zlI hp (hT c X _ ft ok e0) (ih2 _ fa e1)
   |For tg it a o p=>cases o with
    |cons _ _=>exact nomatch (show(none:Option SF)=some f from h)
    |nil =>
     change (if Ai it=true then(Fo (cE 60) c tg it).bind λfi=>(yN c tg).bind λfg=>(jq n c a).map λfa=>oE fi fg fa else none)=some f at h;by_cases hn:Ai it=true
     .rw[if_pos hn] at h;obtain⟨fi,e0,h⟩:=aU.mp h;obtain⟨fg,e1,h⟩:=aU.mp h;obtain⟨fa,e2,rfl⟩:=aR.mp h;exact zqo hp ok.calm (Wr hE ok e0) (Bs ok e1) (ih2 _ fa e2) (V8 hn X.env)
     .rw[if_neg hn] at h;cases h
   |_=>exact nomatch (show(none:Option SF)=some f from h)
  .cases sts with
   |nil=>rw[jq] at h;cases h;exact zqn
   |cons st r =>
    rw[jq] at h;simp only[aU,aR] at h;obtain⟨f1,e1,g1,e2,rfl⟩:=h;exact znX (ih1 _ f1 e1) (ih2 _ g1 e2)
end MX
end
section
namespace MX
open PySem PySem.Spec PySem.W PyProof.Rows L2
abbrev XN:=List D->So->Option Str
abbrev XF:=Sg->So->Option (Str×So)
def Kx(K:FgA)(mg:Str->Option Value)(H:Hp)(α:List Addr)(S:So)(y:Str)(E:XK):Prop:=∃C,mg y=some (.ref C)/\∀H' α',aq K H' α' S->Ext K H α H' α'->E (.ref C) none H'
def Kx.trans{K:FgA}{mg:Str->Option Value}{H H1:Hp}{α α1:List Addr}{S:So}{y:Str}{E:XK}(k:Kx K mg H α S y E)(e:Ext K H α H1 α1):Kx K mg H1 α1 S y E:=let ⟨C,h1,h2⟩:=k;⟨C,h1,λH' α' s x=>h2 H' α' s (e.trans x)⟩
def qj(K:FgA)(mg:Str->Option Value)(g:XF)(E:XK):TE:=λZ H _=>∃σd S α y S',bA K H α σd Z/\aq K H α S/\g σd S=some (y,S')/\Kx K mg H α S' y E
def tX(K:FgA)(mg:Str->Option Value)(g:XF)(E:XK):TS:=λ_ Z H=>∃σd S α y S',bA K H α σd Z/\aq K H α S/\g σd S=some (y,S')/\Kx K mg H α S' y E
def CN(K:FgA)(mg:Str->Option Value)(n:Nat)(ξ:XN):Sp:=λvs H _ E=>vs.length=n/\∃S α ds y,aq K H α S/\aA K H α ds vs/\ξ ds S=some y/\Kx K mg H α S y E
def jM(P:Program)(w:World)(K:FgA)(mg:Str->Option Value)(base:Heap)(k:Nat)(x:Str)(n:Nat)(ξ:XN):Prop :=
 ∃f fd ps,mg x=some (.ref f)/\keepIn K (.ref f)=true/\Binds K fd ps []/\bR P w K mg base (m6 P w) k f fd ps (CN K mg n ξ)
def FZ(X:Cx)(x:Str)(n:Nat)(ξ:XN):Prop:=∃k,jM X.prog X.w X.K X.mg X.base k x n ξ/\aV k X.A
def wJ:XF:=λ_ _=>none
def uH(t:TF)(a b:XF):XF:=λZ S=>(t Z S).bind λr=>if r.1=true then a Z r.2 else b Z r.2
noncomputable def oR(f:SF)(g h:XF):XF:=λZ S=>match g Z S with
 |some r=>some r
 |none=>match f Z S with
  |some (.nx,Z',S')=>h Z' S'
  |_=>none
noncomputable def vO(n:Nat)(ξ:XN)(fa:AF):XF:=λZ S=>(fa Z S).bind λr=>if r.1.length=n then(ξ r.1 r.2).map λy=>(y,r.2) else none
section
variable {X:Cx}{E:XK}{st:Stmt}{rest a b:List Stmt}{c e:Expr}{pos p:Pos}{f:SF}{g h:XF}{t:TF}
def zr6:PS X st (tX X.K X.mg wJ E):=λ_ _ _ _ _ _ h=>by obtain⟨_,_,_,_,_,_,_,hf,_⟩:=h;cases hf
def Kh:fL X rest (tX X.K X.mg wJ E):=λ_ _ _ _ _ _ h=>by obtain⟨_,_,_,_,_,_,_,hf,_⟩:=h;cases hf
theorem JR(hc:ST X c t)(ha:fL X a (tX X.K X.mg g E))(hb:fL X b (tX X.K X.mg h E)):PS X (.If c a b pos) (tX X.K X.mg (uH t g h) E):=by
 refine PS.imp (JM hc ha hb) λD Z H hh=>?_;obtain⟨σd,S,α,y,S',hv,hs,hf,k⟩:=hh;unfold uH at hf;obtain⟨⟨b1,S1⟩,e1,e2⟩:=aU.mp hf;refine⟨σd,S,α,b1,S1,hv,hs,e1,λH1 α1 s1 x1=>?_⟩;cases b1 with
 |true=>exact⟨σd,S1,α1,y,S',hv.mono x1,s1,e2,k.trans x1⟩
 |false=>exact⟨σd,S1,α1,y,S',hv.mono x1,s1,e2,k.trans x1⟩
theorem R7(h1:SS X st f)(h2:PS X st (tX X.K X.mg g E))(h3:fL X rest (tX X.K X.mg h E)):fL X (st::rest) (tX X.K X.mg (oR f g h) E):=by
 have hn:=uq h1 h3;have hx:=uq h2 h3;intro pz s Z H D I hh;obtain⟨σd,S,α,y,S',hv,hs,hf,k⟩:=hh;unfold oR at hf;cases eg:g σd S with
 |some r =>
  rw[eg] at hf;cases hf;exact hx pz s Z H D I ⟨σd,S,α,y,S',hv,hs,eg,k⟩
 |none =>
  rw[eg] at hf;simp only at hf;split at hf
  .rename_i σ1 S1 e1;exact hn pz s Z H D I ⟨σd,S,α,.nx,σ1,S1,hv,hs,e1,λZ' H' α' v' s' x'=>⟨σ1,S1,α',y,S',v',s',hf,k.trans x'⟩⟩
  .cases hf
def znL(he:PE X e (qj X.K X.mg g E))(hs:swapsWith e none pos.line X.env=pure false):PS X (.Expr e pos) (tX X.K X.mg g E):=PS.imp (Um he hs) λ_ _ _ h=>h
def R6(he:PE X e (qj X.K X.mg g E)):PS X (.Return (some e) pos) (tX X.K X.mg g E):=PS.imp (Ay he) λ_ _ _ h=>h
theorem znx{ξ:XN}(hx:qG X E)(hg:Gl X x)(hF:FZ X x n ξ)(ha:SA X (e::es) fa)(hdb:(x==("__debug__" : Str))=false)(he:starEach (e::es) X.env=(false,eval e X.env)::starEach es X.env)(hpl:(backTo pos (starEach es X.env)).any (·.1)=false):PE X (.Call (.Name x p) (e::es) [] pos) (qj X.K X.mg (vO n ξ fa) E):=by
 obtain⟨k,⟨fa',fd,ps,hm,hk,hb,F⟩,hr⟩:=hF;refine PE.imp (Tp F hr hg hm hk hb .nil hx.pass ha hdb he hpl) λZ H Q hh=>?_;obtain⟨σd,S,α,y,S',hv,hs,hf,kk⟩:=hh;unfold vO at hf;obtain⟨⟨ds,S1⟩,e1,e2⟩:=aU.mp hf;split at e2
 .rename_i hl;obtain⟨y',e3,e4⟩:=aR.mp e2;cases e4;refine⟨σd,S,α,ds,_,hv,hs,e1,λvs H1 α1 s1 x1 r1=>⟨by rw[List.append_nil,<-r1.length];exact hl,_,α1,ds,y,s1,by rw[List.append_nil];exact r1,e3,kk.trans x1⟩⟩
 .cases e2
end
theorem K6{bmB:List Value}{newId:String}(X:K.In h)(q:excIn K C bmB newId=true):
 ∃nm qn N bs bm hd sn sub ab col dd k0 k1 k2 k3 k5 mN,h.get? C=some (excClassObj nm qn C N bs bm hd sn sub ab col dd k0 k1 k2 k3 k5 newId)/\h.Ns N mN/\mN "__init__" = none/\OwnTail h bmB bm /\
  ∃o cd,K.lookup C=some o/\o.data = .cls cd/\cd.mro = .ref C::bm:=by
 unfold excIn at q;split at q
 .rename_i dd cd sl ho;split at q
  .rename_i C' bm k0 k1 k2 k3 n k5 hm hs;simp only[cG,beq_iff_eq,Bool.not_eq_true'] at q;obtain⟨⟨⟨⟨⟨q1,q2⟩,q3⟩,q4⟩,q5⟩,q6⟩:=q;subst q1 q2;have hsl:sl=#[k0,k1,k2,k3,some (.builtin n),k5]:=Array.toList_inj.mp hs;refine⟨cd.name,cd.qualname,cd.ns,cd.bases,bm,cd.hasDict,cd.slotNames,cd.subclasses,cd.abstract,cd.collection,dd,k0,k1,k2,k3,k5,h.nsMap cd.ns,?_,.of_isNs (isNs_of_in X q5),nsMap_none_of_in X q5 q6,tail_of_in X q4,_,cd,ho,rfl,hm⟩;rw[X _ _ ho,hsl];obtain⟨a1,a2,a3,a4,a5,a6,a7,a8,a9,a10,a11⟩:=cd;cases q3;cases hm;rfl
  .cases q
 .cases q
structure tM(K:FgA)(mg:Str->Option Value)(x:Str)(C:Addr):Prop where
 mg:mg x=some (.ref C)
 cls:excIn K C gG "ValueError.__new__" = true
section
variable {X:Cx}{E:XK}{e:Expr}{p cpos pos:Pos}{fe:EF}{x:Str}{C:Addr}
theorem zlF(hx:qG X E)(hc:X.calm=true)(hg:Gl X x)(hK:tM X.K X.mg x C)(ha:SE X e fe)(he:jh e=true)(hdb:(x==("__debug__" : Str))=false):
 PS X (.Raise (some (.Call (.Name x p) [e] [] cpos)) none pos) (tX X.K X.mg (λZ S=>(fe Z S).map λr=>(x,r.2)) E):=by
 intro pz s Z H D I hh;obtain⟨σd,S,α,y,S',hv,hs,hf,kk⟩:=hh;obtain⟨⟨d,S1⟩,e1,e2⟩:=aR.mp hf;cases e2;obtain⟨C',hC',kk⟩:=kk;rw[hK.mg] at hC';cases hC';obtain⟨nm,qn,N,bs,bm,hd,sn,sub,ab,col,dd,k0,k1,k2,k3,k5,mN,o1,o2,o3,o4,_⟩:=K6 I.mod.kin hK.cls;have hst:starEach [e] X.env=(false,eval e X.env)::[]:=ig he [] X.env;refine wpAny_Raise_call_subT (nm:=nm) (q:=qn) (C:=C) (N:=N) (bs:=bs) (bm:=bm) (hdct:=hd) (sn:=sn) (sub:=sub) (ab:=ab) (col:=col) (dd:=dd) (k0:=k0) (k1:=k1) (k2:=k2) (k3:=k3) (k5:=k5) (mN:=mN) PySem.F.excBase_ValueError (o4.hasType PySem.F.excBase_ValueError.hasBase) (I.ok.hd hc) (by rw[hst];rfl) o3 (rC I hg hK.mg ⟨rfl,?_⟩ hdb);rw[hst];refine PySem.Calls.evalArgs_plain (Calls.spliced_cons (bK (ha pz s Z H (λ_ H1=>∃α1,aq X.K H1 α1 S1/\Ext X.K H α H1 α1) I ⟨σd,S,α,d,_,hv,hs,e1,λv H1 α1 s1 x1 r1=>⟨α1,s1,x1⟩⟩) λu s1 ⟨v,H1,I1,r1,α1,t1,x1⟩=>Calls.spliced_nil ?_));exact⟨rfl,by show 1<=sizeLine;decide,I1.bk _ _ o1,o2.keeps I1.bk,o4.keeps I1.bk,λh' e hm=>hx.made pz Z H1 s1 h' e C _ I1 hm (kk H1 α1 t1 x1)⟩
end
end MX
end
section
namespace MX
open PySem PySem.Spec PySem.W PySem.Calls PyProof.Rows L2 Builtin Builtin.ObjectAttr Builtin.Getset_descriptor
def ExcAt(e D:Addr)(h:Heap):Prop:=∃o,h.get? e=some o/\o.cls = .ref D/\∃vs,o.data = .fields vs
def ExcAt.ty{e D:Addr}{M:Model}(x:ExcAt e D h):Looks M h (typeOf (.ref e)) (.ref D):=let ⟨_,a,b,_⟩:=x;b ▸ (Looks.ld a).andThen .now
theorem zpq{M:Model}{D:Addr}(X:K.In h)(q:(clsIn K D).isSome=true):Looks M h (isType (.ref D)) true:=by
 unfold clsIn at q;split at q
 .rename_i ho;intro A' Q' E' s' k z;unfold isType loadHead;refine aC ?_;exact wpAny_loadPart (k _ _ (X _ _ ho)) (bN z)
 .cases q
section
variable {prog:Program}{w:World}{A:Around}{E:Value->Shared->Prop}{s:Shared}{K:FgA}{e D:Addr}
theorem zjk{R:Result->Shared->Prop}{tp:Value}(X:K.In s.heap)(I:ExcAt e D s.heap)(hm:mroIn K D (.type "object")=some true)(h:R (.ok (.ret (.ref D))) s):
 codeAny (model prog w) A (.call (.builtin "getset_descriptor.__get__") ⟨[.builtin "object.__class__",.ref e,tp],[]⟩) R s:=by
 obtain⟨h0,g,d,t,o⟩:=s;have L0:=I.ty (M:=model prog w);have L1:=looks_mroIn (M:=model prog w) X hm;refine codeAny_call_builtin KF.slot_gs.plain KF.entry_gs ?_;refine KF.slot_gs.check _ _ _ _ _ _ _ _ KF.type_class (KF.args_gs _ _ _) ?_;unfold Builtin.«getset_descriptor.__get__» descrGet;rw[dga_obj];refine aC (bN ?_);unfold descrGetter descrCheckInstance descrNameAndClass isInstance;simp only[KF.owner_class]
 repeat lk
 refine⟨Code.quiet_builtin _ (by decide +kernel),?_⟩;refine codeAny_builtin KF.entry_class ?_;unfold Builtin.«object.__class__» shownTypeOf
 repeat lk
 exact h
theorem zk4{Q:Option Value->Shared->Prop}(X:K.In s.heap)(I:ExcAt e D s.heap)(f:vP K D=true)(h:Q (some (.ref D)) { s with toks:=s.toks+1 }):wpAny (model prog w) A (getAttr? (.ref e) "__class__") Q E s:=by
 unfold vP at f;simp only[cG,beq_iff_eq] at f;obtain⟨⟨p1,p2,p3⟩,f2,f3,f4,f5,f6⟩:=f;obtain⟨h0,g,d,t,os⟩:=s;have L0:=I.ty (M:=model prog w);have L1:=looks_findIn (M:=model prog w) X p1;have L2:=looks_findIn (M:=model prog w) X p2;have L3:Looks (model prog w) h0 (find (.ref e) (.ref D) "__class__") (.bind (.builtin "getset_descriptor.__get__") (.builtin "object.__class__")):=by refine(looks_findIn X f3).andThen ((looks_specialIn X f4).andThen ?_);refine(show Looks (model prog w) h0 (dataDescriptor? (some (.builtin "object.__class__")) (some (.builtin "getset_descriptor.__get__"))) (some (_,_)) from(looks_takesIn X f5).andThen .now).andThen ?_;exact Looks.tag .now
 have L4:=looks_mroIn (M:=model prog w) X p3;have hk:builtinKind "BaseException.__getattribute__" = some .slot:=by decide +kernel
 have hsp:splitId "BaseException.__getattribute__" = some ("BaseException", "__getattribute__"):=by decide +kernel
 unfold getAttr? getAttrBy? getAttrBy;refine aC (wpAny_mkText (aC (wpAny_attempt (wpAny_holding ?_))));refine aC (L0.at (aC (L1.at ?_)));show wpAny _ _ (getAttrByItsOwn _ _ _ _ _ _) _ _ _;unfold getAttrByItsOwn hookBefore;refine aC (L2.at (aC (wpAny_attempt (wpAny_holding ?_))));show wpAny _ _ (boundAndCalled _ _ _) _ _ _;unfold boundAndCalled;rw[PySem.F.excAttr_ValueError.ga.bind];refine aC (bN (wpAny_call ?_));refine codeAny_call_builtin PySem.F.excAttr_ValueError.ga.plain PySem.F.entry_bexc_ga ?_;have ha:=PySem.F.args_bexc_ga (.ref e) (.str "__class__" t);simp only[checkBuiltinCall,hk,hsp];have LI:Looks (model prog w) h0 (isInstance (.ref e) (.type "BaseException")) true:=L0.andThen L4;refine aC (LI.at ?_);simp only[Bool.not_true,Bool.false_eq_true,if_false]
 repeat wp_step
 obtain⟨o,a1,a2,a3⟩:=id I;refine wpAny_loadPart_at a1 (bN ?_);show wpAny _ _ (find (.ref e) o.cls "__class__" >>= _) _ _ _;rw[a2];refine aC (L3.at ?_);show wpAny _ _ (bindTo _ _ (.ref e) _) _ _ _;unfold bindTo;show wpAny _ _ (holding [_] (call _ [_,.ref e,.ref D]) >>= ret) _ _ _;refine aC (wpAny_holding (wpAny_call ?_));refine zjk (s:=⟨h0,g,d,t+1,os⟩) X I f6 ?_;exact bN (handed_on rfl (bN h))
end
theorem zmv{e D:Addr}(f:vP K D=true):KitX K (.ref e) (.ref D) (ExcAt e D):=by
 have f2:(clsIn K D).isSome=true:=by unfold vP at f;simp only[cG] at f;exact f.2.1
 refine⟨λM h _ p=>p.ty,λM h X _=>zpq X f2,λh tp dd its n sl X htp=>?_,λX I k=>zk4 X I f k⟩;refine Bool.eq_false_iff.mpr λq=>?_;have z:D=tp:=Value.ref.inj (beq_iff_eq.mp q);subst z;unfold clsIn at f2;split at f2
 .rename_i ho;have z:=X _ _ ho;rw[htp] at z;cases z
 .cases f2
end MX
end
section
namespace MX
open PySem PySem.Spec PySem.W PySem.Calls PyProof.Rows L2
def qI(e D:Addr):HO := .ext (ExcAt e D)
def zpr{P:Program}{e D:Addr}(x:ExcAt e D h):bJ P w H h e (qI e D) :=
 ⟨x,let ⟨o,a,_⟩:=x;⟨o,a⟩,λh1 h2 y k=>let ⟨o,a,b⟩:=y;⟨o,k o a,b⟩⟩
def ye:V->Option Value
 |.ref a=>some (.ref a)
 |.ty n=>some (.type n)
 |_=>none
def zpL{c:V}{u v:Value}(h:ye c=some v)(r:RelV c u):u=v:=by cases c<;>cases h<;>exact r
def yG(H:Hp)(e D:Addr):Prop:=∃φ:Heap->Prop,H e=some (.ext φ)/\∀h,φ h->ExcAt e D h
def zps{e D:Addr}(h:H e=some (qI e D)):yG H e D:=⟨_,h,λ_ q=>q⟩
def Dn(K:FgA):List V->Hp->VK->Prop:=λxs H Q=>∃e D c v b,xs=[.ref e,c]/\yG H e D/\vP K D=true/\ye c=some v/\kitOne K (.ref D) v=some b/\Q (.bl b) H
section
variable {X:Cx}
theorem zmV:gW X (.builtin "isinstance") (Dn X.K):=by
 intro pz s Z H xs us Q I rs h;obtain⟨e,D,c,v,b,rfl,⟨φ,h1,hφ⟩,h2,h3,h4,q⟩:=h;cases rs with
 |cons r1 rs=>cases rs with
  |cons r2 rs =>
   cases rs;have e1:=zpL h3 r2;cases r1;subst e1;refine kia_one (zmv h2) I.kIn (hφ _ (show bJ X.prog X.w H s.heap e (.ext φ) from I.hok e _ h1).1) h4 (by intro z;cases z) λtk=>?_;exact⟨.bl b,H,I.tok _,rfl,q⟩
theorem KQ:∀{bs:List Bool} {us:List Value},Vals (bs.map V.bl) us->us=bs.map Value.bool
 |[],_,h=>by cases h;rfl
 |b::bs,_,h=>by
  cases h with
  |cons a r=>cases a;rw[KQ r];rfl
def mL:Value->Bool:=λv=>v == .bool true
theorem SN(b:Bool):SeqAt.EqAt A s (.bool b) (.bool true) (mL (.bool b)):=by
 have e:mL (.bool b)=(b==true):=by cases b<;>rfl
 have:=SeqAt.EqAt.bool_bool (A:=A) (s:=s) b true;cases b<;>exact this
def uP(K:FgA):V->List V->Hp->VK->Prop:=λx xs H Q=>∃a,∃bs:List Bool,x = .ref a/\xs=[.bl true]/\cU K H a (bs.map V.bl)/\Q (.int (bs.count true:Nat)) H
theorem zko:mX X "list.count" (uP X.K):=by
 intro pz s Z H x xs v us Q I r rs h;obtain⟨a,bs,rfl,rfl,hq,q⟩:=h;cases r;cases rs with
 |cons r1 rs =>
  cases r1;cases rs;obtain⟨its,rv,⟨⟨cls,dd,data,sl⟩,n,e,c,hd,hdat⟩,hz⟩:=I.list hq;have ei:=KQ rv;simp only at c hd hdat
  subst c hdat ei;refine call_meets PySem.F.slot_list_count ⟨_,e,rfl⟩ PySem.F.entry_list_count (PySem.F.args_list_count_2 _ _) (SeqAt.list_countAt a _ n dd sl (.bool true) mL) ⟨e,λy hy=>?_,?_⟩
  .obtain⟨b,_,rfl⟩:=List.mem_map.mp (by simpa using hy:y∈bs.map Value.bool);exact SN b
  .have e2:((bs.map Value.bool).toArray.toList.countP mL)=bs.count true:=by
    show(bs.map Value.bool).countP mL=_;clear rv hq q hz e
    induction bs with
    |nil=>rfl
    |cons b bs ih=>rw[iC,List.countP_cons,List.count_cons,ih];cases b<;>rfl
   rw[e2];exact⟨.int (bs.count true:Nat),H,I.tok _,⟨_,rfl⟩,q⟩
def uO(K:FgA):V->List V->Hp->VK->Prop:=λx xs H Q=>∃a,∃bs:List Bool,∃j,x = .ref a/\xs=[.bl true]/\cU K H a (bs.map V.bl)/\bs[j]?=some true/\(∀m,m<j->bs[m]?=some false)/\Q (.int (j:Nat)) H
theorem zkm:mX X "list.index" (uO X.K):=by
 intro pz s Z H x xs v us Q I r rs h;obtain⟨a,bs,j,rfl,rfl,hq,h1,h2,q⟩:=h;cases r;cases rs with
 |cons r1 rs =>
  cases r1;cases rs;obtain⟨its,rv,⟨⟨cls,dd,data,sl⟩,n,e,c,hd,hdat⟩,hz⟩:=I.list hq;have ei:=KQ rv;simp only at c hd hdat
  subst c hdat ei;obtain⟨hj,hj2⟩:=fj.mp h1;have hs:(bs.map Value.bool).toArray.size=bs.length:=by simp
  have hl:bs.length<=sizeLine:=by simpa using hz
  have hsm:(sizeLine:Int)<2 ^ 63 - 1:=by decide
  refine call_meets PySem.F.slot_list_index ⟨_,e,rfl⟩ PySem.F.entry_list_index (PySem.F.args_list_index_2 _ _) (SeqAt.list_indexAt a _ n dd sl (.bool true) mL j (by rw[hs];exact hj) (by omega) ?_ λm hm hmj=>?_) ⟨e,λy hy=>?_,?_⟩
  .simp only[List.getElem_toArray,List.getElem_map,hj2];rfl
  .obtain⟨hm1,hm2⟩:=fj.mp (h2 m hmj);simp only[List.getElem_toArray,List.getElem_map,hm2];rfl
  .obtain⟨b,_,rfl⟩:=List.mem_map.mp (by simpa using hy:y∈bs.map Value.bool);exact SN b
  .exact⟨.int (j:Nat),H,I.tok _,⟨_,rfl⟩,q⟩
end
def Hl{Z:L2.St}(I:Inv X pz Z H s)(A':Around)(c:Bool)(x:Value->Shared->Prop)(hd:c=true->A'.handled=none)(fr:A'.frames=X.A.frames):Inv { X with A:=A',calm:=c,xe:=x } pz Z H s :=
 ⟨{ I.ok with hd:=hd,frames:=fr.trans I.ok.frames },I.os,I.bare,I.base,I.loc,I.cell,I.free,I.freeC,I.pin,I.hok,I.len⟩
def um(A:Around):Around:={ A with handled:=none }
noncomputable def Q6(P:Program)(w:World)(K:FgA)(mg:Str->Option Value)(base:Heap)(k:Nat)(f:Addr)(fd:FuncData)(ps:List Str)(sp:List V->Hp->VK->Prop):Prop :=
 ∀(A:Around) (outer:List Env) (s:Shared) (H:Hp) (args:Args) (us:List Value) (vs:List V) (Q:VK),aV k (um A)->iB P w K mg base A outer s H->BindsTo s fd args (ps.zip us)->Vals vs us->vs.length=ps.length->sp vs H Q ->
  codeAny (model P w) A (.call (.ref f) args) (CR fU outer P w H s Q E0) s
abbrev QK(P:Program)(w:World)(K:FgA)(mg:Str->Option Value)(base:Heap)(N:List Str)(qual:Str)(scope:Scope)(f:Addr)(cd:Value)(A:Around)(outer:List Env)(s:Shared)(H:Hp):Cx :=
 { kE fU P w K mg base N qual scope f cd (um A) outer s H E0 with A:=A.deeper (envOfC qual scope s.heap.objs.size f cd),calm:=false,xe:=λ_ _=>False }
theorem Z8{P:Program}{body:List Stmt}{dV kV doc pm ct oc:Value}{an od:Option Addr}(lk:K.lookup f=some ⟨oc,od,.func (PySem.W.fnOf name qual params body scope dV kV doc pm an cdv ct),osl⟩)(hcd:PySem.W.codeIn K cdv qual=true)(S:jJ N ps scope)(hbody:∀(A:Around) (outer:List Env) (s:Shared) (H:Hp) (vs:List V) (Q:VK),sp vs H Q ->
  ∃t,fL (QK P w K mg base N qual scope f cdv A outer s H) body t/\t { nx:=λ_ H'=>Q .non H',rt:=Q } (start N vs) H):
 Q6 P w K mg base (k+1) f (PySem.W.fnOf name qual params body scope dV kV doc pm an cdv ct) ps sp:=by
 intro A outer s H args us vs Q hr e0 hb r hl hsp;have KX:K.In s.heap:=e0.mod.kin.keeps λb o e=>(e0.bs b o e).1;have lim:s.heap.NoLimit:=e0.mod.nolimit.keeps λb o e=>(e0.bs b o e).1;have hkind:∀y∈ps.zip us,scope.names.lookup y.1=some .local\/(scope.names.lookup y.1=some .cell/\((cellsFrom (s.heap.objs.size+1) scope.names []).lookup y.1).isSome=true):=fun⟨n,v⟩ hy=>by
  rcases S.par n (List.of_mem_zip hy).1 with q|q
  .exact .inl q
  .exact .inr ⟨q,PySem.W.cellsFrom_some _ _ _ (.inl q)⟩
 have Qt:A.depth<recursionLimit:=(hr.depth:(um A).depth<recursionLimit)
 refine codeAny_call_function Qt (KX _ _ lk) rfl S.co S.gen rfl (PySem.W.codeRec_of KX hcd) (hb _ _ _ _ ?_);refine wpAny_newFunctionEnv_cells S.kind hkind λenv he s1 x=>?_;subst he;refine⟨lim.keeps x.toInCall.keep,codeAny_func ?_⟩;obtain⟨t,ht,hq⟩:=hbody A outer s H vs Q hsp;have e1:iB P w K mg base (um A) outer s H:=⟨e0.frames,e0.mod,e0.bs,e0.bsz,e0.funs,e0.frf,e0.hok,e0.bare⟩
 have J0:Inv (kE fU P w K mg base N qual scope f cdv (um A) outer s H E0) [] (start N vs) H s1:=VR S rfl e1 hl r x;have I:=Hl J0 (A.deeper (envOfC qual scope s.heap.objs.size f cdv)) false (λ_ _=>False) (λz=>by cases z) rfl;refine iI (ht [] s1 (start N vs) H _ I hq) (λfl s' hs=>?_) λe s' hs=>False.elim hs;have fin:∀{Z':L2.St} {H':Hp} {v:V} {u:Value},Inv (QK P w K mg base N qual scope f cdv A outer s H) [] Z' H' s'->RelV v u->Q v H'->CE outer P w H s Q u s' :=
  λ{Z' H' v u} J rv q=>⟨v,H',J.os,J.bare,J.base,J.hok,rv,q⟩
 cases fl with
 |ret u =>
  obtain⟨v,Z',H',J,rv,q⟩:=hs;exact fin J rv q
 |next =>
  obtain⟨Z',H',J,q⟩:=hs;exact fin (v:=V.non) (u:=Value.none) J rfl q
 |brk =>
  obtain⟨_,_,_,q⟩:=hs;exact False.elim q
 |cont =>
  obtain⟨_,_,_,q⟩:=hs;exact False.elim q
theorem zmj{t:TA}(F:Q6 X.prog X.w X.K X.mg X.base k f fd ps sp)(hr:aV k (um X.A))(hg:Gl X x)(hm:X.mg x=some (.ref f))(hk:PySem.W.keepIn X.K (.ref f)=true)(hb:Binds X.K fd ps [])(ha:PA X (e::es) t)(hdb:(x==("__debug__" : Str))=false:=by decide)(he:starEach (e::es) X.env=(false,eval e X.env)::starEach es X.env:=by rfl)(hpl:(backTo pos (starEach es X.env)).any (·.1)=false:=by rfl):
 PE X (.Call (.Name x p) (e::es) [] pos) (λZ H Q=>t Z H λvs H1=>vs.length=ps.length/\sp vs H1 Q):=by
 intro pz s Z H Q I h;refine wpAny_Call_Name_kw (rC I hg hm ?_ hdb);refine PySem.W.callWith_K (h₀:=X.base) I.ok.mod.kin hk (bK (ha pos pz s Z H _ I h) λus s1 ⟨vs,H1,I1,r,hl,q⟩=>⟨I1.kIn,?_⟩) he hpl;have r2:Vals (vs++[]) (us++[]):=r.append .nil;rw[List.append_nil,List.append_nil] at r2;have hl2:(us++[]).length=ps.length:=by rw[List.append_nil,<-r.length];exact hl
 have hb':=hb s1 us I1.kIn hl2;rw[List.append_nil] at hb';refine wpAny_call (codeAny_mono (F X.A X.stack s1 H1 ⟨us,[]⟩ us vs Q hr I1.env0 hb' r2 hl q) λr s' hq=>?_);cases r with
 |error e=>exact hq.elim
 |ok fl =>
  cases fl with
  |ret u=>exact I1.after hq
  |next=>exact False.elim hq
  |brk=>exact False.elim hq
  |cont=>exact False.elim hq
structure yI(K:FgA)(mg:Str->Option Value)(c:Nat->Addr)(cH:Addr):Prop where
 name:∀i<4,mg (wn i)=some (.ref (c i))
 hit:mg "HitError" = some (.ref cH)
 fact:∀i<4,vP K (c i)=true
 kit:∀i<4,∀j<4,kitOne K (.ref (c i)) (.ref (c j))=some (decide (i=j))
 kitH:∀i<4,kitOne K (.ref (c i)) (.ref cH)=some true
 kitV:∀i<4,kitOne K (.ref (c i)) (.type "ValueError")=some true
 isi:mg "isinstance" = none
 val:mg "ValueError" = none
def Rm(c:Nat->Addr):List V->Hp->VK->Prop:=λvs H Q=>∃e i,vs=[.ref e]/\i<4/\yG H e (c i)/\∀H',(∀b o,H b=some o->H' b=some o)->Q (.str (wn i)) H'
def uc(K:FgA)(v:V):TE:=Pk (Dn K) (jV (oV 0) (jV (tC v) qL))
def wL(s0 s1 s2 s3:Str):TE:=wQ (jV (tC (.str s0)) (jV (tC (.str s1)) (jV (tC (.str s2)) (jV (tC (.str s3)) qL))))
noncomputable def Jj(K:FgA)(c:Nat->Addr)(cH:Addr)(z:Str):TS :=
 oW (wU (wQ (jV (uc K (.ref (c 0))) (jV (uc K (.ref (c 1))) (jV (uc K (.ref (c 2))) (jV (uc K (.ref (c 3))) qL))))) (Jd 1))
  (oW (Cy (Pb (uJ (zR Ye (Pq K "list" (uP K) (oV 1) (jV (tC (.bl true)) qL)) (tC (.int 1)))) (Pb (wO (tB (uc K (.ref cH)))) (wO (tB (uc K (.ty "ValueError")))))) (oW (rO (tC (.str z))) yM) yM)
   (oW (rO (zR (Dm K) (wL (wn 0) (wn 1) (wn 2) (wn 3)) (Pq K "list" (uO K) (oV 1) (jV (tC (.bl true)) qL)))) yM))
def pI(i:Nat):List Bool:=[decide (i=0),decide (i=1),decide (i=2),decide (i=3)]
def zk2:∀i<4,(pI i).count true=1
 |0,_=>rfl
 |1,_=>rfl
 |2,_=>rfl
 |3,_=>rfl
theorem Z7:∀i<4,(pI i)[i]?=some true/\∀m,m<i->(pI i)[m]?=some false
 |0,_=>⟨rfl,λm hm=>by omega⟩
 |1,_=>⟨rfl,fun|0,_=>rfl⟩
 |2,_=>⟨rfl,fun|0,_=>rfl|1,_=>rfl⟩
 |3,_=>⟨rfl,fun|0,_=>rfl|1,_=>rfl|2,_=>rfl⟩
def zr4:∀i:Nat,i<4->fX [V.str (wn 0),.str (wn 1),.str (wn 2),.str (wn 3)] (i:Int)=some (.str (wn i))
 |0,_=>rfl
 |1,_=>rfl
 |2,_=>rfl
 |3,_=>rfl
theorem ziL(T:yI K mg c cH){z:Str}{D:qF}{e:Nat}(hi:i<4)(he:yG H e (c i))(h:∀H',(∀b o,H b=some o->H' b=some o)->D.rt (.str (wn i)) H'):
 Jj K c cH z D [some (.ref e),none] H:=by
 have isi:∀(Z:L2.St) (H:Hp) (v:V) (u:Value) (b:Bool) (Q:VK),Z[0]?=some (some (.ref e))->yG H e (c i)->ye v=some u->kitOne K (.ref (c i)) u=some b->Q (.bl b) H->uc K v Z H Q:=λZ H v u b Q h0 h1 h2 h3 h4 =>
  ⟨.ref e,h0,⟨e,c i,v,u,b,rfl,h1,T.fact i hi,h2,h3,h4⟩⟩
 refine isi _ H _ _ _ _ rfl he rfl (T.kit i hi 0 (by decide)) (isi _ H _ _ _ _ rfl he rfl (T.kit i hi 1 (by decide)) (isi _ H _ _ _ _ rfl he rfl (T.kit i hi 2 (by decide)) (isi _ H _ _ _ _ rfl he rfl (T.kit i hi 3 (by decide)) ⟨by show 4<=sizeLine;decide,λp hp=>?_⟩)));have hH:∀b o,H b=some o->upd H p (.lst ((pI i).map V.bl)) b=some o:=λb o q=>by rw[bQ (fH q hp)];exact q
 have hl:cU K (upd H p (.lst ((pI i).map V.bl))) p ((pI i).map V.bl) := .inl (.inl dI);have hc:=zk2 i hi;have he2:yG (upd H p (.lst ((pI i).map V.bl))) e (c i):=let ⟨φ,a,b⟩:=he;⟨φ,hH _ _ a,b⟩;obtain⟨x1,x2⟩:=Z7 i hi;refine⟨.ref p,rfl,.inl ⟨rfl,_,hl⟩,⟨p,pI i,rfl,rfl,hl,rfl,_,rfl,?_⟩⟩;rw[hc];refine isi _ _ _ _ _ _ rfl he2 rfl (T.kitH i hi) ⟨true,rfl,?_⟩;refine isi _ _ _ _ _ _ rfl he2 rfl (T.kitV i hi) ⟨true,rfl,?_⟩;refine⟨by show 4<=sizeLine;decide,λq hq=>?_⟩;have hqp:p≠q:=λz=>by rw[<-z,dI] at hq;cases hq
 have hl2:cU K (upd (upd H p (.lst ((pI i).map V.bl))) q (.lst [.str (wn 0),.str (wn 1),.str (wn 2),.str (wn 3)])) p ((pI i).map V.bl) := .inl (.inl (by rw[bQ hqp,dI]));refine⟨.ref p,rfl,.inl ⟨rfl,_,hl2⟩,⟨p,pI i,i,rfl,rfl,hl2,x1,x2,?_⟩⟩;refine⟨q,_,(i:Int),.str (wn i),rfl,rfl,.inl (.inl dI),?_,h _ λb o e=>?_⟩
 .exact zr4 i hi
 .rw[bQ (fH (hH b o e) hq)];exact hH b o e
section
variable {X:Cx}{pz:List (Addr×Obj)}{Z:L2.St}{H:Hp}{s:Shared}
theorem Ko{t:Value}(fl:Heap.FlyingW B l a (.ref C) t h):ExcAt a C h:=by obtain⟨_,_,_,oe,vs,_,_,_,he,hc,hd,_⟩:=fl;exact⟨oe,he,hc.1,vs,hd⟩
theorem T8(I:Inv X pz Z H s){s':Shared}{t:Value}(F:mZ X.prog X.w X.stack H s a C B H' s')(fl:Heap.FlyingW B X.stack a (.ref C) t h')(up:s'.heap.UpToSlots h'):
 Inv X pz Z (upd H' a (qI a C)) { s' with heap:=h' }/\H' a=none:=by
 obtain⟨t',Ej⟩:=F.fl;have nB:B.get? a=none:=fl.2.1;have hn:H' a=none:=by
  cases q:H' a with
  |none=>rfl
  |some u =>
   obtain⟨o,e⟩:=F.tr a u q;rw[nB] at e;cases e
 have new:∀b o,s.heap.get? b=some o->b≠a:=λb o e z=>by
  subst z;by_cases hf:b∈frs X.stack
  .obtain⟨_,o',e',nf⟩:=I.stack.mem hf;obtain⟨sl,e2⟩:=F.un.slot b o' e' (I.stkFree b hf) hf (by simp);obtain⟨o3,e3,_,vs,d3⟩:=Ko Ej;rw[e2] at e3;cases e3;exact nf vs d3
  .obtain⟨o',e'⟩:=F.inB b o e hf;rw[nB] at e';cases e'
 have hold:∀b u,H' b=some u->upd H' a (qI a C) b=some u:=λb u e=>by rw[bQ (fH e hn)];exact e
 refine⟨I.call' (ch:=[]) (s':={ s' with heap:=h' }) F.os ⟨λb o e n hf _=>?_,λb o e n hf _=>?_,λb o e n _=>?_,λb o e _=>?_,λb xs q=>hold b _ (F.un.tups b xs q),λb o u q=>hold b _ (F.un.frzs b o u q),λb ps q=>?_⟩ ?_ F.bare λb z=>absurd z (by simp),hn⟩
 .have e2:=F.un.keep b o e n hf (by simp);obtain⟨o',e3⟩:=F.inB b o e hf;have e4:=Ej.1 _ _ e3;rw[e2] at e4;cases e4;exact fl.1 _ _ e3
 .obtain⟨sl,e2⟩:=F.un.slot b o e n hf (by simp);obtain⟨_,o',e',nf⟩:=I.stack.mem hf;rw[e] at e';cases e';obtain⟨Ie,e4⟩:=up b _ e2 nf;exact⟨Ie,e4⟩
 .rw[bQ (new b o e)];exact F.un.free b o e n (by simp)
 .by_cases hf:b∈frs X.stack
  .obtain⟨sl,e2⟩:=F.un.slot b o e (I.stkFree b hf) hf (by simp);obtain⟨_,o',e',nf⟩:=I.stack.mem hf;rw[e] at e';cases e';obtain⟨Ie,e4⟩:=up b _ e2 nf;exact⟨_,e4⟩
  .obtain⟨o',e3⟩:=F.inB b o e hf;exact⟨o',fl.1 _ _ e3⟩
 .obtain⟨m,e⟩:=F.un.tbls b ps q;exact⟨m,hold b _ e⟩
 .have k:fD X.prog X.w H' h':=Rr F.hok Ej.1 fl.1 F.tr;intro b u e;by_cases hb:b=a
  .subst hb;rw[dI] at e;cases e;exact zpr (Ko fl)
  .rw[bQ hb] at e;exact(k b u e).stay (λ_ _ _ q=>q) (λc q=>hold c _ q) λc xs q=>hold c _ q
theorem zmz(I:Inv X pz Z H s){m':Str->Option Value}{t':Nat}(hn:h'.Ns X.env.locals m')(hs:Heap.SameBut X.env.locals s.heap h'):Inv X pz (Z.map λ_=>none) H { s with heap:=h',toks:=t' }:=by
 have nl:∀b o,X.s₀.heap.get? b=some o->b≠X.env.locals:=λb o e=>cW (di (b7 e) I.ok.above);refine⟨I.ok,I.os,I.bare,⟨λb o e n hb hx=>(hs.2 b (nl b o e)).trans (I.base.keep b o e n hb hx),λb o e n hb hx=>?_,I.base.free,λb o e hx=>?_,I.base.tups,I.base.frzs,I.base.tbls⟩,⟨m',hn,λj y v e1 e2 _=>?_⟩,λy c e=>?_,I.free,I.freeC,λp hp=>?_,λb ob e=>?_,by simpa using I.len⟩
 .obtain⟨sl,e1⟩:=I.base.slot b o e n hb hx;exact⟨sl,(hs.2 b (nl b o e)).trans e1⟩
 .obtain⟨o',e1⟩:=I.base.there b o e hx;exact⟨o',(hs.2 b (nl b o e)).trans e1⟩
 .rw[gR] at e2;cases q:Z[j]? with
  |none=>rw[q] at e2;cases e2
  |some z=>rw[q] at e2;cases e2
 .obtain⟨v,o,e1,e2⟩:=I.cell y c e;exact⟨v,o,(hs.2 c (I.cne y c e)).trans e1,e2⟩
 .obtain⟨p1,p2,p3,p4,p5⟩:=I.pin p hp;exact⟨(hs.2 _ p3).trans p1,p2,p3,p4,p5⟩
 .refine(I.hok b ob e).stay (λc w' hc q=>(hs.2 c ?_).trans q) (λ_ q=>q) λ_ _ q=>q
  rintro rfl
  rcases hc with rfl|hc
  .rw[I.free] at e;cases e
  .rw[I.free] at hc;cases hc
end
theorem zk5{M:Model}{Q:Bool->Shared->Prop}{e CH:Addr}{n1 n2:String}(X:K.In s.heap)(hC:excIn K C gG n1=true)(hH:excIn K CH gG n2=true)(hm:mroIn K C (.ref CH)=some true)(he:ExcAt e C s.heap)(h:Q true s):wpAny M A (excMatches (.ref e) (.ref CH)) Q E s:=by
 obtain⟨h0,g,d,tk,os⟩:=s;obtain⟨oe,he,hcls,_⟩:=he;obtain⟨nm,qn,N,bs,bm,hd,sn,sub,ab,col,dd,k0,k1,k2,k3,k5,mN,o1,_,_,_,o,cd,lk,dt,em⟩:=K6 X hC;obtain⟨nm',qn',N',bs',bm',hd',sn',sub',ab',col',dd',k0',k1',k2',k3',k5',mN',p1,_,_,p4,_⟩:=K6 X hH;have hcB:(Value.ref CH::bm').contains (.type "BaseException")=true:=by rw[List.contains_cons,p4.hasType (by rfl:gG.contains (.type "BaseException")=true),Bool.or_true]
 have hcC:(Value.ref C::bm).contains (.ref CH)=true:=by unfold mroIn clsIn at hm;rw[lk] at hm;obtain⟨oc,od,dat,osl⟩:=o;cases dt;simp only[bM] at hm;rw[em] at hm;simpa using hm
 have f:=tc_notTuple;unfold excMatches
 repeat (first
  | (with_reducible refine wpAny_loadPart_at he ?_;rw[hcls])
  |with_reducible refine wpAny_loadPart_at p1 ?_
  | (with_reducible refine wpAny_isSubtype_exc p1 ?_;rw[hcB])
  | (with_reducible refine wpAny_isSubtype_exc o1 ?_;rw[hcC])
  |wp_step)
 exact h
structure mY(scope:Scope)(cl:List (Str×Addr)):Prop where
 kind:scope.kind = .function
 co:scope.isCoroutine=false
 gen:scope.isGenerator=false
 nocell:∀x∈scope.names,x.2 ≠ .cell
 has:∀x,scope.names.lookup x=some .free->∃c,cl.lookup x=some c
 inj:∀x y c,cl.lookup x=some c->cl.lookup y=some c->x=y
theorem zpc{P:Program}{pm ctv:Value}{cap:List Str}{sp:Sp}{Pt:Addr}(ho:base.get? a=some o)(hod:o.data = .func (kla_fn name qual params body scope cl pm cdv ctv))(hcd:∀vs H Q E,sp vs H Q E->∃ps,H Pt=some (.tbl ps)/\codeAmong aW ps.toList=some cdv)(S:mY scope cl)(hcells:∀x c,cl.lookup x=some c->∃v,base.IsCell c v)(hcap:∀(i:Nat) x v,cap[i]?=some x->cF[i]?=some v->scope.names.lookup x=some .free/\∃c u,cl.lookup x=some c/\base.IsCell c (some u)/\RelV v u)(hlen:cap.length=cF.length)(len:∀vs H Q E,sp vs H Q E->vs.length=0)(hbody:∀(qual:Str) (A:Around) (outer:List Env) (s:Shared) (H:Hp) (Q:VK) (E:XK),aV k (A.deeper (envX qual scope s.heap.objs.size a cdv cl))->sp [] H Q E ->
  ∃t,PE (pK P w K mg base cap qual scope a cdv cl A outer s H E) body t/\t (cF.map some) H Q):
 bR P w K mg base (m6 P w) (k+1) a (kla_fn name qual params body scope cl pm cdv ctv) [] sp:=by
 refine⟨len,λA outer s H args us vs Q E hr e0 hb r hsp=>?_⟩;have hl:=len _ _ _ _ hsp;obtain rfl:vs=[]:=List.length_eq_zero_iff.mp hl;cases r;have bk:∀b o,base.get? b=some o->s.heap.get? b=some o:=λb o e=>(e0.bs b o e).1;have lim:s.heap.NoLimit:=e0.mod.nolimit.keeps bk;obtain⟨ps,hps,ham⟩:=hcd _ _ _ _ hsp;obtain⟨_,_,hcp⟩:=e0.hok Pt _ hps;obtain⟨cc,q,oc,vs,tq,hc1,_,hc2,hc3,hc4⟩:=hcp aW cdv ham;have cr:s.heap.CodeRec cdv q:=⟨cc,oc,vs,tq,hc1,hc2,hc3,hc4⟩
 obtain⟨t,ht,hq⟩:=hbody q A outer s H Q E (hr.deeper _) hsp;refine Ro hr.depth (bk _ _ ho) hod S.co S.gen rfl cr (hb _ _ _ _ ?_);refine wpAny_newFunctionEnv S.nocell (λy hy=>absurd hy (by simp)) (λh₁ hns hsb=>⟨lim.fresh _ hsb,?_⟩) S.kind;show codeAny _ _ (.expr body (envX q scope s.heap.objs.size a cdv cl)) _ _;have hk₁:∀b o,s.heap.get? b=some o->h₁.get? b=some o:=λb o e=>hsb.extBut b o (cW (b7 e)) (cN _ e);have cellK:∀c v,base.IsCell c v->h₁.IsCell c v:=λc v ⟨o,e,d⟩=>⟨o,hk₁ _ _ (bk _ _ e),d⟩
 have mK:∀b:Addr,b∉(qt P w K mg base cap q scope a cdv cl A outer s H E).ex:=λb z=>absurd (show b∈([]:List Addr) from z) (by simp);have I:Inv (qt P w K mg base cap q scope a cdv cl A outer s H E) [] (cF.map some) H { s with heap:=h₁,toks:=s.toks+([]:List (Str×Value)).length }:=by
  refine⟨⟨e0.mod,S.kind,rfl,rfl,bT _,S.inj,λy hy=>?_,λy c hf _=>(nomatch hf),λ_=>hr.hd,Around.frames_deeper e0.frames,.inr ⟨rfl,rfl⟩,λb z=>absurd z (mK b),e0.bs,e0.bsz,λb _ _=>mK b,λb z=>absurd z (mK b),e0.funs,e0.frf⟩,
   rfl,e0.bare,Un.kept hk₁,⟨_,hns,λi y z h1 h2 h3=>?_⟩,λy c h=>?_,e0.hok.fresh (bT _),λy c h=>?_,λq hq=>absurd (show q∈([]:List (Addr×Obj)) from hq) (by simp),e0.hok.kept hk₁,?_⟩
  .rcases hy with hy|hy
   .exact absurd hy (Td S.nocell y)
   .exact S.has y hy
  .have e1:cap[i]?=some y:=h1;have e2:cF[i]?=some z:=by
    rw[gR] at h2;cases q:cF[i]? with
    |none=>rw[q] at h2;cases h2
    |some x=>rw[q] at h2;cases h2;rfl
   obtain⟨k1,c,u',k2,k3,k4⟩:=hcap i y z e1 e2;exact⟨u',k4,.inr ⟨.inr k1,c,k2,cellK _ _ k3⟩⟩
  .obtain⟨v',hv⟩:=hcells y c h;exact⟨v',cellK _ _ hv⟩
  .obtain⟨v',o',ho',_⟩:=hcells y c h;exact(e0.bs _ _ ho').2
  .show _=cap.length;simp[hlen]
 refine kla_codeExpr (iI (ht [] _ _ H Q (I.wish _) hq) (λu' s' hs=>?_) λe s' hs=>hs);obtain⟨v',H',J,rv',q⟩:=hs;exact⟨v',H',J.os,J.bare,J.base,J.hok,rv',q⟩
section
variable {X:Cx}{x:Str}{p pos:Pos}{E:XK}{CX:m7}{pz:List (Addr×Obj)}{Z:L2.St}{H:Hp}{s:Shared}
theorem zpO{sp:Sp}{Q:VK}{EE:Value->Shared->Prop}(F:bR X.prog X.w X.K X.mg X.base CX k a fd [] sp)(hr:aV k X.A)(ho:X.base.get? a=some { cls := .type "function",data := .func fd })(hb:∀s:Shared,BindsTo s fd ⟨[],[]⟩ [])(hN:X.N[i]?=some x)(hv:qw X.env.scope x)(hdb:(x==("__debug__" : Str))=false)(hcd:(x==("__classdict__" : Str))=false)(I:Inv X pz Z H s)(h1:Z[i]?=some (some (.ref a)))(h2:eF X.H₀ H->sp [] H Q E)(hx:∀s1 e s',Inv X pz Z H s1->CX X.stack H s1 E e s'->EE e s'):
 wpAny (model X.prog X.w) X.A (eval (.Call (.Name x p) [] [] pos) X.env) (EP X pz Z Q) EE s:=by
 refine wpAny_Call_Name_kw (bK (yW (X:=X.wish EE) hN hv hdb hcd pz s Z H (λv H'=>v=V.ref a/\H'=H) (I.wish EE) ⟨.ref a,h1,rfl,rfl⟩) λu s1 ⟨v,H1,I1,r1,e1,e2⟩=>?_);subst e1 e2;have I1:=I1.unwish;obtain rfl:u=Value.ref a:=r1;refine callWith_of (P:=λh=>h.get? a=some { cls := .type "function",data := .func fd }) rfl zpd ?_;refine PySem.evalArgs_none ⟨I1.bk _ _ ho,?_⟩;have hsp:=h2 ⟨I1.base.tups,I1.base.tbls,I1.base.frzs⟩;refine wpAny_call (codeAny_mono (F.run X.A X.stack s1 _ ⟨[],[]⟩ [] [] Q E hr I1.env0 (hb s1) .nil hsp) λr s' hq=>?_);cases r with
 |error e=>exact hx s1 e s' I1 hq
 |ok fl =>
  cases fl with
  |ret u=>exact I1.after hq
  |next=>exact False.elim hq
  |brk=>exact False.elim hq
  |cont=>exact False.elim hq
end
abbrev QL(X:Cx)(a:Addr):Cx:={ X with A:=X.A.mark (some (.ref a)),calm:=false,xe:=λ_ _=>False }
def xZ(c:Nat->Addr)(tS:TS)(j:Nat)(D:qF)(Z:L2.St):XK:=λv _ H'=>∃i,i<4/\v = .ref (c i)/\∀e,H' e=none->tS { nx:=λ_ _=>False,rt:=D.rt } (Z.set j (some (.ref e))) (upd H' e (qI e (c i)))
structure Jt(K:FgA)(c:Nat->Addr)(cH:Addr):Prop where
 cls:∀i<4,excIn K (c i) gG "ValueError.__new__" = true
 clsH:excIn K cH gG "ValueError.__new__" = true
 sub:∀i<4,mroIn K (c i) (.ref cH)=some true
theorem zoq{r en hn:Str}{np rpos hpos tpos:Pos}{b₀:Stmt}{suite:List Stmt}{tS:TS}{sp:Sp}(F:bR X.prog X.w X.K X.mg X.base (m6 X.prog X.w) k a fd [] sp)(hr:aV k X.A)(ho:X.base.get? a=some { cls := .type "function",data := .func fd })(hb:∀s:Shared,BindsTo s fd ⟨[],[]⟩ [])(hN:X.N[0]?=some r)(hv:qw X.env.scope r)(hd1:(r==("__debug__" : Str))=false)(hd2:(r==("__classdict__" : Str))=false)(hst:X.stack=X.env::X.outer)(hfr:X.env.frame=some X.env.locals)(O:Jt X.K c cH)(hg:Gl X hn)(hm:X.mg hn=some (.ref cH))(hd3:(hn==("__debug__" : Str))=false)(nd:X.N.Nodup)(hj:X.N[j]?=some en)(hl:X.env.scope.names.lookup en=some .local)(hS:∀e,fL (QL X e) (b₀::suite) tS):
 PS X (.Try [.Return (some (.Call (.Name r p) [] [] pos)) rpos] [.ExceptHandler (some (.Name hn np)) (some en) (b₀::suite) hpos] [] [] tpos)
  (λD Z H=>Z[0]?=some (some (.ref a))/\(eF X.H₀ H->sp [] H D.rt (xZ c tS j D Z))):=by
 intro pz s Z H D I h;obtain⟨h1,h2⟩:=h;refine wpAny_Try_except (wpAny_execs_cons ?_);refine iI (wpAny_Return_some (Q:=λf s1=>match f with|.ret u=>EP X pz Z D.rt u s1|_=>False) (zpO F hr ho hb hN hv hd1 hd2 I h1 h2 λs1 e s' I1 hx=>?_)) (λf s1 q=>?_) λ_ _ z=>z
 .obtain⟨x,C,B,H',rfl,FX,i,hi,hC,hk⟩:=hx;cases hC;obtain⟨t,fl⟩:=FX.fl;have hst':=hst ▸ I1.ok.frames;rw[hst] at fl;refine wpAny_looks_onW hst' hfr fl λh₄ held XR=>wpAny_landsW held λh₅ Ip XQ=>?_;rw[<-hst] at Ip;obtain⟨I5,Im⟩:=T8 I1 FX Ip (XR.trans XQ);have M5:=Hl I5 (X.A.mark (some (.ref x))) false (λ_ _=>False) (λz=>by cases z) rfl;refine wpAny_handleBy_cons (codeAny_handlers_test (rC M5 hg hm ?_ hd3)) (by intro q;cases q);refine zk5 I5.kIn (O.cls i hi) O.clsH (O.sub i hi) (Ko Ip) ?_;refine codeAny_handlers_suite_as ?_;refine lands_againW Ip λh₆ fl6 up6=>?_;obtain⟨I6,Il⟩:=T8 I1 FX fl6 ((XR.trans XQ).trans up6);have M6:=Hl I6 (X.A.mark (some (.ref x))) false (λ_ _=>False) (λz=>by cases z) rfl;refine G6 (X:=QL X x) (v := .ref x) M6 nd hj (.inl hl) rfl (λs7 I7=>?_) (.inr hl);refine iI (hS x pz s7 _ _ _ I7 (hk x Il)) (λf s8 h8=>?_) λ_ _ z=>False.elim z;cases f with
  |ret u =>
   obtain⟨v,Z',H8,J,rv,q⟩:=h8;obtain⟨m,hm8,_⟩:=J.loc;have hk2:X.env.scope.kind = .function:=I.ok.kind;refine wpAny_nameGoes (m:=m) hl hm8 (by rw[hk2];rfl) λh' m' hn' hs'=>?_;have J0:Inv X pz Z' H8 s8:=Hl J X.A X.calm X.xe I.ok.hd rfl;exact⟨v,_,H8,zmz J0 hn' hs',rv,q⟩
  |next=>obtain⟨_,_,_,z⟩:=h8;exact False.elim z
  |brk=>obtain⟨_,_,_,z⟩:=h8;exact False.elim z
  |cont=>obtain⟨_,_,_,z⟩:=h8;exact False.elim z
 .cases f with
  |ret u =>
   obtain⟨v,H1,I1,rv,q⟩:=q;exact⟨v,Z,H1,I1,rv,q⟩
  |next=>exact False.elim q
  |brk=>exact False.elim q
  |cont=>exact False.elim q
section
variable {X:Cx}{x:Str}{p pos:Pos}{params:Arguments}{body:Expr}{scope:Scope}{aW:Pos}{f:Addr}{fd:FuncData}{k:Nat}{p1:Str}{P c:Addr}{QW:Addr->Value->List V->Sp}{cap:List Str}
theorem zhm(hcap:∀y∈cap,(y,NameKind.free)∈scope.names)(hfree:∀y∈scope.names,y.2 = .free->X.env.kindOf y.1=some .cell)(hfn:∀y,X.fn y=true)(hT:∃ps,X.H₀ P=some (.tbl ps))(hcode:X.env.code = .ref c)(C:CodeHd X.base c P)(B:BM X.base X.mg)(hdef:defaultsOf params X.env=([],[]))(F:∀(base:Heap) (a:Addr) (cdv:Value) (cF:List V) (clos:List (Str×Addr)),Mod X.K X.mg base->(∀b o,X.base.get? b=some o->base.get? b=some o)->cap.length=cF.length->IV base X.env.qual params body scope clos cap cF a cdv->bR X.prog X.w X.K X.mg base fU k f fd [p1] (QW a cdv cF))(hr:aV k X.A)(hg:Gl X x)(hm:X.mg x=some (.ref f))(hk:keepIn X.K (.ref f)=true)(hb:Binds X.K fd [p1] [])(hdb:(x==("__debug__" : Str))=false)(he:starEach [.Lambda params body scope aW] X.env=(false,eval (.Lambda params body scope aW) X.env)::starEach [] X.env):
 PE X (.Call (.Name x p) [.Lambda params body scope aW] [] pos) (λZ H Q=>∃cF:List V,cap.length=cF.length/\(∀(i:Nat) y,cap[i]?=some y->∃(j:Nat) (v:V),X.N[j]?=some y/\Z[j]?=some (some v)/\cF[i]?=some v) /\
  ∀a cdv H2,dM H H2->(∃ps,H2 P=some (.tbl ps)/\codeAmong aW ps.toList=some cdv)->QW a cdv cF [.ref a] H2 Q E0):=by
 intro pz s1 Z H1 Q I1 h;obtain⟨cF,hlen,hsl,q1⟩:=h;refine wpAny_Call_Name_kw (rC I1 hg hm ?_ hdb);refine callWith_K (h₀:=X.base) I1.ok.mod.kin hk ?_ he rfl;have hcells:∀y∈scope.names,y.2 = .free->∃c,X.env.cells.lookup y.1=some c:=λy hy e=>I1.ok.has y.1 (.inl (hfree y hy e));obtain⟨Qa,xM⟩:=hT;obtain⟨more,hps⟩:=I1.base.tbls P Qa xM;have key:∀a s' H',Made X pz Z H1 s1 params body scope (nH X.env scope.names) P aW a s' H'->wpAny (model X.prog X.w) X.A (spliced []) (λvs s₂=>X.K.In s₂.heap/\wpAny (model X.prog X.w) X.A (call (.ref f) ([]++Value.ref a::vs)) (EP X pz Z Q) X.xe s₂) X.xe s':=λa s' H' M=>by
  refine Calls.spliced_nil ⟨M.inv.kIn,?_⟩;have I2:=M.inv;obtain⟨e0,kb⟩:=VJ I2;obtain⟨cdv,clo,xN⟩:=U0 I1 M hcap hfree hfn hsl;have G:=F _ a cdv cF _ e0.mod kb hlen clo;have hsp:=q1 a cdv H' M.same xN;refine wpAny_call (codeAny_mono (G.run X.A X.stack s' H' ⟨[.ref a],[]⟩ [.ref a] [.ref a] Q E0 hr e0 (hb s' [.ref a] I2.kIn rfl) (.cons rfl .nil) hsp) λr s'' hq=>?_);cases r with
  |error e=>exact hq.elim
  |ok fl =>
   cases fl with
   |ret u=>exact I2.after hq
   |next=>exact False.elim hq
   |brk=>exact False.elim hq
   |cont=>exact False.elim hq
 rw[he];show wpAny _ _ (spliced ((false,eval (.Lambda params body scope aW) X.env)::[])) _ _ s1;exact Calls.spliced_cons (UW I1 hps hcode C B (WD hcells) hdef key)
end
noncomputable def FW(iT:Nat->D)(y:Str):Option D:=if y=wn 0 then some (iT 0) else if y=wn 1 then some (iT 1) else if y=wn 2 then some (iT 2) else if y=wn 3 then some (iT 3) else none
theorem zjB{iT:Nat->D}(h:FW iT y=some d):∃i,i<4/\y=wn i/\d=iT i:=by
 unfold FW at h;split at h
 .cases h;exact⟨0,by decide,by assumption,rfl⟩
 .split at h
  .cases h;exact⟨1,by decide,by assumption,rfl⟩
  .split at h
   .cases h;exact⟨2,by decide,by assumption,rfl⟩
   .split at h
    .cases h;exact⟨3,by decide,by assumption,rfl⟩
    .cases h
noncomputable def yL(src:List Nat)(fb:EF)(xb:XF)(iT:Nat->D):EF:=λZ S=>(vK src Z).bind λdg=>match fb (dg.map some) S with
 |some r=>some r
 |none=>(xb (dg.map some) S).bind λr=>(FW iT r.1).map λd=>(d,r.2)
theorem Vf{dg:List D}(r:aA K H α dg cF):bA K H α (dg.map some) (cF.map some):=by
 refine⟨by simp[r.length],λi d e=>?_⟩;rw[gR] at e;cases q:dg[i]? with
 |none=>rw[q] at e;cases e
 |some d2 =>
  rw[q] at e;cases e;obtain⟨v,k1,k2⟩:=r.get q;exact⟨v,by rw[gR,k1];rfl,k2⟩
def Rk(c:Nat->Addr)(tS:TS)(a:Addr)(sp:Sp):Sp:=λvs H Q _=>vs=[.ref a]/\sp [] H Q (xZ c tS 1 { nx:=λ_ H'=>Q .non H',rt:=Q } [some (.ref a),none])
noncomputable def Ga(P:Program)(w:World)(K:FgA)(mg:Str->Option Value)(base:Heap)(k:Nat)(f:Addr)(fd:FuncData)(p1:Str)(c:Nat->Addr)(tS:TS):Prop :=
 ∀(a:Addr) (fl:FuncData) (sp:Sp),bR P w K mg base (m6 P w) k a fl [] sp->base.get? a=some { cls := .type "function",data := .func fl }->(∀s:Shared,BindsTo s fl ⟨[],[]⟩ [])->bR P w K mg base fU (k+1) f fd [p1] (Rk c tS a sp)
section
variable {X:Cx}{x:Str}{p pos aW:Pos}{fb:EF}{xb:XF}{params:Arguments}{body:Expr}{scope:Scope}{cap:List Str}{src:List Nat}{f:Addr}{fd:FuncData}{p1:Str}{k:Nat}{Pt ct:Addr}{c:Nat->Addr}{tS:TS}{iT:Nat->D}
theorem zog(L:vL X Pt ct)(hsc:scope.kind = .function/\scope.isCoroutine=false/\scope.isGenerator=false/\∀y∈scope.names,y.2 ≠ .cell)(hu:∀y∈scope.names,scope.names.lookup y.1=some y.2)(hcap:∀y∈cap,(y,NameKind.free)∈scope.names)(hfree:∀y∈scope.names,y.2 = .free->X.env.kindOf y.1=some .cell)(gO:∀(i:Nat) y,cap[i]?=some y->∃j,src[i]?=some j/\X.N[j]?=some y)(hlen:cap.length=src.length)(hdef:defaultsOf params X.env=([],[]))(hbind:∀(pm cdv ctv:Value) (clos:List (Str×Addr)) (qual:Str),bindArgs (kla_fn "<lambda>" qual params body scope clos pm cdv ctv) ⟨[],[]⟩=pure [])(hbody:∀(base:Heap),Mod X.K X.mg base->(∀b o,X.base.get? b=some o->base.get? b=some o)->∀(a:Addr) (cdv:Value) (clos:List (Str×Addr)) (qual:Str) (A:Around) (outer:List Env) (s:Shared) (H:Hp) (E:XK),aV k (A.deeper (envX qual scope s.heap.objs.size a cdv clos)) ->
  SE (pK X.prog X.w X.K X.mg base cap qual scope a cdv clos A outer s H E).nox body fb/\PE (pK X.prog X.w X.K X.mg base cap qual scope a cdv clos A outer s H E) body (qj X.K X.mg xb E))(hname:∀i<4,X.mg (wn i)=some (.ref (c i)))(hG:∀(base:Heap),Mod X.K X.mg base->(∀b o,X.base.get? b=some o->base.get? b=some o)->Ga X.prog X.w X.K X.mg base (k+1) f fd p1 c tS)(xK:∀(a e:Addr) (i:Nat) (H:Hp) (Q:VK),i<4->H e=some (qI e (c i))->(∀v H',dM H H'->(∀α,Rep X.K H' α (iT i) v)->Q v H')->tS { nx:=λ_ _=>False,rt:=Q } [some (.ref a),some (.ref e)] H)(hr:aV (k+2) X.A)(hg:Gl X x)(hm:X.mg x=some (.ref f))(hk:keepIn X.K (.ref f)=true)(hb:Binds X.K fd [p1] [])(hdb:(x==("__debug__" : Str))=false)(he:starEach [.Lambda params body scope aW] X.env=(false,eval (.Lambda params body scope aW) X.env)::starEach [] X.env):
 SE X (.Call (.Name x p) [.Lambda params body scope aW] [] pos) (yL src fb xb iT):=by
 have F:∀(base:Heap) (a:Addr) (cdv:Value) (cF:List V) (clos:List (Str×Addr)),Mod X.K X.mg base->(∀b o,X.base.get? b=some o->base.get? b=some o)->cap.length=cF.length->IV base X.env.qual params body scope clos cap cF a cdv ->
  bR X.prog X.w X.K X.mg base fU (k+2) f fd [p1] (Rk c tS a (λvs H Q E=>vs.length=0/\(∃ps,H Pt=some (.tbl ps)/\codeAmong aW ps.toList=some cdv)/\∃S α dg,aq X.K H α S/\aA X.K H α dg cF /\
   ((∃z S',fb (dg.map some) S=some (z,S')/\Kt X.K H α z S' Q)\/∃y S',xb (dg.map some) S=some (y,S')/\Kx X.K X.mg H α S' y E))):=by
  intro base a cdv cF clos M kb hl C;obtain⟨pm,ctv,ho⟩:=C.obj;refine hG base M kb a _ _ (zpc (P:=X.prog) (w:=X.w) (K:=X.K) (mg:=X.mg) (k:=k) (Pt:=Pt) (aW:=aW) (cap:=cap) (cF:=cF) ho rfl (λvs H Q E h=>h.2.1) ⟨hsc.1,hsc.2.1,hsc.2.2.1,hsc.2.2.2,λy hy=>C.has y (gU hy),C.inj⟩ C.cells
   (λi y v h1 h2=>⟨hu _ (C.cap i y v h1 h2).1,(C.cap i y v h1 h2).2⟩) hl (λvs H Q E h=>h.1) (λqual A outer s H Q E hr h=>?_)) ho λs => .of_eq (hbind pm cdv ctv clos _)
  obtain⟨b1,b2⟩:=hbody base M kb a cdv clos qual A outer s H E hr;obtain⟨_,_,S,α,dg,hs,hrep,hh⟩:=h;rcases hh with⟨z,S',e1,kk⟩|⟨y,S',e1,kk⟩
  .exact⟨_,PE.nox b1,_,S,α,z,S',Vf hrep,hs,e1,kk⟩
  .exact⟨_,b2,_,S,α,y,S',Vf hrep,hs,e1,kk⟩
 refine PE.imp (zhm hcap hfree L.fn L.tab L.code L.hd L.bm hdef F hr hg hm hk hb hdb he) λZ H Q h=>?_;obtain⟨σd,S,α,z,S',hv,hs,hf,kk⟩:=h;unfold yL at hf;obtain⟨dg,e2,e3⟩:=aU.mp hf;obtain⟨cF,c1,c2,c3⟩:=K8 hv e2;refine⟨cF,by rw[hlen,c2],λi y hi=>?_,λa cdv H2 hst htab=>⟨rfl,rfl,htab,S,α,dg,hst.store hs,c1.mono hst.ext,?_⟩⟩
 .obtain⟨j,k1,k2⟩:=gO i y hi;obtain⟨v,k3,k4⟩:=c3 i j k1;exact⟨j,v,k2,k3,k4⟩
 .split at e3
  .rename_i r er;cases e3;exact .inl ⟨z,S',er,kk.trans hst.ext⟩
  .obtain⟨⟨y,S1⟩,e4,e5⟩:=aU.mp e3;obtain⟨d,e6,e7⟩:=aR.mp e5;cases e7;obtain⟨i,hi,rfl,rfl⟩:=zjB e6;refine .inr ⟨_,_,e4,c i,hname i hi,λH' α' s' x'=>⟨i,hi,rfl,λe he=>?_⟩⟩;have old:dM H' (upd H' e (qI e (c i))):=⟨λb o q _=>by rw[bQ (fH q he)];exact q,λb ps q=>⟨ps,by rw[bQ (fH q he)];exact q⟩⟩
   refine xK a e i _ Q hi dI λv Fb hs2 hr2=>?_;have all:dM H' Fb:=⟨λb o q nt=>hs2.1 b o (old.1 b o q nt) nt,λb ps q=>let ⟨qs,e⟩:=old.2 b ps q;hs2.2 b qs e⟩
   exact kk v Fb α' (all.store s') ((hst.ext.trans x').trans all.ext) (hr2 α')
end
end MX
end
section
namespace MX
open PySem PySem.W PyProof.Rows
section
variable {n:Nat}{lt:Nat->Nat->Bool}{α β:Type}
def zV(lt:Nat->Nat->Bool):KasT α->α
 |.ret a=>a
 |.ask i j k=>zV lt (k (lt i j))
def eY(n:Nat)(lt:Nat->Nat->Bool)(R:α->Prop):KasT α->Prop
 |.ret a=>R a
 |.ask i j k=>i<n/\j<n/\eY n lt R (k (lt i j))
def eY.bind{R:β->Prop}{f:α->KasT β}:∀{t:KasT α},eY n lt (λa=>eY n lt R (f a)) t->eY n lt R (t.bind f)
 |.ret _,h=>h
 |.ask _ _ _,h=>⟨h.1,h.2.1,eY.bind h.2.2⟩
def eY.mono{R R':α->Prop}(k:∀a,R a->R' a):∀{t:KasT α},eY n lt R t->eY n lt R' t
 |.ret _,h=>k _ h
 |.ask _ _ _,h=>⟨h.1,h.2.1,eY.mono k h.2.2⟩
def eY.ev{R:α->Prop}:∀{t:KasT α},eY n lt R t->R (zV lt t)
 |.ret _,h=>h
 |.ask i j k,h=>eY.ev (t:=k (lt i j)) h.2.2
def eY.wp{R:α->Prop}{cmp:Nat->Nat->(Bool->Shared->Prop)->Shared->Prop}{s:Shared}{Q:α->Shared->Prop}(hc:∀i j C,i<n->j<n->C (lt i j) s->cmp i j C s):∀{t:KasT α},eY n lt R t->Q (zV lt t) s->t.kasWp cmp Q s
 |.ret _,_,q=>q
 |.ask _ _ _,h,q=>hc _ _ _ h.1 h.2.1 (eY.wp hc h.2.2 q)
structure iJ(n:Nat)(lt:Nat->Nat->Bool):Prop where
 tr:∀i j k,lt j i=false->lt k j=false->lt k i=false
 asy:∀i j,lt i j=true->lt j i=false
 tot:∀i j,i<n->j<n->lt i j=false->lt j i=false->i=j
abbrev cg(p:Array Nat)(i:Nat):Nat:=p.getD i 0
def gQ(n:Nat)(p:Array Nat):Prop:=p.toList.Perm (List.range n)
def lu(lt:Nat->Nat->Bool)(p:Array Nat)(k:Nat):Prop:=∀i j,i<=j->j<k->lt (cg p j) (cg p i)=false
def vo(lt:Nat->Nat->Bool)(p:Array Nat)(k:Nat):Prop:=∀i j,i<j->j<k->lt (cg p j) (cg p i)=true
variable {p:Array Nat}{k:Nat}
def gQ.size(h:gQ n p):p.size=n:=by have:=List.Perm.length_eq h;simpa using this
theorem gQ.bel(h:gQ n p)(h1:1<=n)(i:Nat):cg p i<n:=by
 unfold cg;by_cases hi:i<p.size
 .have:=(List.Perm.mem_iff h).mp (show p[i]∈p.toList by simp);simpa[Array.getD,hi] using this
 .simp[Array.getD,hi];omega
def gQ.rev(h:gQ n p)(i j:Nat):gQ n (kas_rev p i j):=List.Perm.trans (Array.perm_iff_toList_perm.mp (mirror_perm _ _ _ _)) h
def gQ.bub(h:gQ n p)(i j:Nat):gQ n (bubble p i j):=List.Perm.trans (Array.perm_iff_toList_perm.mp (bubble_perm _ _ _)) h
theorem gQ.inj(h:gQ n p)(hi:i<n)(hj:j<n)(e:cg p i=cg p j):i=j:=by
 have hs:=h.size;have hi':i<p.toList.length:=by simp;omega
 have hj':j<p.toList.length:=by simp;omega
 have nd:p.toList.Nodup:=(List.Perm.nodup_iff h).mpr List.nodup_range;refine(List.getElem_inj (h₀:=hi') (h₁:=hj') nd).mp ?_;simpa[cg,Array.getD,show i<p.size by omega,show j<p.size by omega] using e
def GC{p q:Array Nat}(h:p[i]?=q[j]?):cg p i=cg q j:=by unfold cg;rw[Array.getD_eq_getD_getElem?,Array.getD_eq_getD_getElem?,h]
def sE(T:iJ n lt)(i:Nat):lt i i=false:=by
 cases q:lt i i with
 |false=>rfl
 |true=>have:=T.asy _ _ q;rw[q] at this;cases this
theorem lu.next(T:iJ n lt)(h:lu lt p k)(h1:1<=k)(e:lt (cg p k) (cg p (k - 1))=false):lu lt p (k+1):=λi j hij hj=>by
 by_cases hk:j=k
 .subst hk;by_cases hi:i=j
  .subst hi;exact sE T _
  .exact T.tr _ _ _ (h i (j - 1) (by omega) (by omega)) e
 .exact h i j hij (by omega)
def O7(T:iJ n lt):lu lt p 1:=λi j hij hj=>by
 obtain⟨rfl,rfl⟩:i=0/\j=0:=by omega
 exact sE T _
theorem vo.next(T:iJ n lt)(h:vo lt p k)(h1:1<=k)(e:lt (cg p k) (cg p (k - 1))=true):vo lt p (k+1):=λi j hij hj=>by
 by_cases hk:j=k
 .subst hk;by_cases hi:i=j - 1
  .rw[hi];exact e
  .have a:=h i (j - 1) (by omega) (by omega);cases q:lt (cg p j) (cg p i) with
   |true=>rfl
   |false=>rw[T.tr _ _ _ (T.asy _ _ a) q] at e;cases e
 .exact h i j hij (by omega)
theorem vo.rev(T:iJ n lt)(hz:k<=p.size)(h:vo lt p k):lu lt (kas_rev p 0 k) k:=λi j hij hj=>by
 have e:∀m,m<k->cg (kas_rev p 0 k) m=cg p (k - 1 - m):=λm hm=>GC (by
  unfold kas_rev;rw[getElem?_mirror_all hz,if_pos (by omega)];congr 1;omega)
 rw[e i (by omega),e j hj];by_cases hi:i=j
 .subst hi;exact sE T _
 .exact T.asy _ _ (h _ _ (by omega) (by omega))
theorem J6(h1:1<=n)(hp:gQ n p):∀(f a:Nat),1<=a->(iJ n lt->lu lt p a)->eY n lt (λm=>a<=m/\m<=a+f/\(iJ n lt->lu lt p m)/\(m=a+f\/lt (cg p m) (cg p (m - 1))=true)) (kas_asc p f a)
 |0,a,_,h=>⟨bT _,bT _,h,.inl rfl⟩
 |f+1,a,ha,h=>⟨hp.bel h1 _,hp.bel h1 _,by
  show eY n lt _ (if lt (cg p a) (cg p (a - 1))=true then _ else _);cases e:lt (cg p a) (cg p (a - 1)) with
  |true =>
   rw[if_pos rfl];exact⟨bT _,by omega,h,.inr e⟩
  |false =>
   rw[if_neg (by simp)];exact(J6 h1 hp f (a+1) (by omega) λT=>(h T).next T ha e).mono λm q=>⟨by omega,by omega,q.2.2.1,q.2.2.2.imp (by omega) id⟩⟩
theorem GK(h1:1<=n):∀(f:Nat) (p:Array Nat) (a q:Nat),1<=a->a+f<=n->gQ n p->(iJ n lt->q=0/\vo lt p a) ->
 eY n lt (λr=>gQ n r.1/\a<=r.2.1/\r.2.1<=a+f/\(iJ n lt->r.2.2=0/\vo lt r.1 r.2.1)) (kas_desc f p a q)
 |0,p,a,q,_,_,hp,h=>⟨hp,bT _,bT _,h⟩
 |f+1,p,a,q,ha,hn,hp,h=>⟨hp.bel h1 _,hp.bel h1 _,by
  show eY n lt _ (if lt (cg p a) (cg p (a - 1))=true then _ else _);cases e:lt (cg p a) (cg p (a - 1)) with
  |true =>
   rw[if_pos rfl];split
   .rename_i hq;exact(GK h1 f _ (a+1) 0 (by omega) (by omega) (hp.rev _ _) λT=>absurd (h T).1 (by omega)).mono λr z=>⟨z.1,by omega,by omega,z.2.2.2⟩
   .exact(GK h1 f _ (a+1) 0 (by omega) (by omega) hp λT=>⟨rfl,(h T).2.next T ha e⟩).mono λr z=>⟨z.1,by omega,by omega,z.2.2.2⟩
  |false =>
   rw[if_neg (by simp)];refine⟨hp.bel h1 _,hp.bel h1 _,?_⟩;show eY n lt _ (if lt (cg p (a - 1)) (cg p a)=true then _ else _);cases e2:lt (cg p (a - 1)) (cg p a) with
   |true=>rw[if_pos rfl];exact⟨hp,bT _,by show a<=_;omega,h⟩
   |false =>
    rw[if_neg (by simp)];exact(GK h1 f _ (a+1) (q+1) (by omega) (by omega) hp λT=>absurd (hp.inj (by omega) (by omega) (T.tot _ _ (hp.bel h1 _) (hp.bel h1 _) e e2)) (by omega)).mono λr z=>⟨z.1,by omega,by omega,z.2.2.2⟩⟩
def Q7(n:Nat)(lt:Nat->Nat->Bool)(r:Nat×Array Nat):Prop:=1<=r.1/\r.1<=n/\gQ n r.2/\(iJ n lt->lu lt r.2 r.1)
theorem TJ(h1:1<=k)(hn:k<=n)(hp:gQ n p)(h:iJ n lt->lu lt (kas_rev p 0 k) k):eY n lt (Q7 n lt) (kas_tail3 k n p) :=
 eY.bind ((J6 (by omega) (hp.rev 0 k) (n - k) k h1 h).mono λm q=>⟨by show 1<=m;omega,by show m<=n;omega,hp.rev 0 k,q.2.2.1⟩)
theorem Tz(hn:k+1<=n)(hp:gQ n p)(h:iJ n lt->vo lt p (k+1)):eY n lt (Q7 n lt) (kas_descPart k n p):=by
 refine eY.bind ((GK (by omega) (n - (k+1)) p (k+1) 0 (by omega) (by omega) hp λT=>⟨rfl,h T⟩).mono λr q=>?_);obtain⟨q1,q2,q3,q4⟩:=q;split
 .exact TJ (by omega) (by omega) (q1.rev _ _) λT=>absurd (q4 T).1 (by omega)
 .exact TJ (by omega) (by omega) q1 λT=>(q4 T).2.rev T (by rw[q1.size];omega)
theorem zmC(h1:1<=n)(hp:gQ n p):eY n lt (Q7 n lt) (kas_count n p):=by
 refine eY.bind ((J6 h1 hp (n - 1) 1 (bT _) λT=>O7 T).mono λm q=>?_);obtain⟨q1,q2,q3,q4⟩:=q;split
 .exact⟨q1,by show m<=n;omega,hp,q3⟩
 .rename_i hm;have hm':m≠n:=by simpa using hm
  have e:lt (cg p m) (cg p (m - 1))=true:=q4.resolve_left (by omega);split
  .refine⟨hp.bel h1 _,hp.bel h1 _,?_⟩;show eY n lt _ (if lt (cg p 0) (cg p (m - 1))=true then _ else _);cases e2:lt (cg p 0) (cg p (m - 1)) with
   |true=>rw[if_pos rfl];exact⟨q1,by show m<=n;omega,hp,q3⟩
   |false =>
    rw[if_neg (by simp)];exact Tz (by omega) (hp.rev _ _) λT=>absurd (hp.inj (by omega) (by omega) (T.tot _ _ (hp.bel h1 _) (hp.bel h1 _) e2 (q3 T 0 (m - 1) (by omega) (by omega)))) (by omega)
  .obtain rfl:m=1:=by omega
   exact Tz (by omega) hp λT i j hij hj=>by
    obtain⟨rfl,rfl⟩:i=0/\j=1:=by omega
    exact e
theorem LQ(h1:1<=n)(hp:gQ n p):∀(f l r:Nat),l<=r->r<=k->r - l<=f->(iJ n lt->(∀i,i<l->lt (cg p k) (cg p i)=false)/\∀i,r<=i->i<k->lt (cg p k) (cg p i)=true)->(iJ n lt->lu lt p k) ->
 eY n lt (λm=>m<=k/\(iJ n lt->(∀i,i<m->lt (cg p k) (cg p i)=false)/\∀i,m<=i->i<k->lt (cg p k) (cg p i)=true)) (kas_place p k f l r)
 |0,l,r,a,b,c,h,_=>by
  obtain rfl:l=r:=by omega
  exact⟨b,h⟩
 |f+1,l,r,a,b,c,h,u=>by
  unfold kas_place;split
  .obtain rfl:l=r:=by omega
   exact⟨b,h⟩
  .refine⟨hp.bel h1 _,hp.bel h1 _,?_⟩;show eY n lt _ (if lt (cg p k) (cg p ((l+r) / 2))=true then _ else _);cases e:lt (cg p k) (cg p ((l+r) / 2)) with
   |true =>
    rw[if_pos rfl];refine LQ h1 hp f l ((l+r) / 2) (by omega) (by omega) (by omega) (λT=>⟨(h T).1,λi hi hk=>?_⟩) u;cases q:lt (cg p k) (cg p i) with
    |true=>rfl
    |false=>rw[T.tr _ _ _ (u T ((l+r) / 2) i hi hk) q] at e;cases e
   |false =>
    rw[if_neg (by simp)];exact LQ h1 hp f ((l+r) / 2+1) r (by omega) b (by omega) (λT=>⟨λi hi=>T.tr _ _ _ (u T i ((l+r) / 2) (by omega) (by omega)) e,(h T).2⟩) u
theorem zpZ{l:Nat}(T:iJ n lt)(hp:gQ n p)(hk:k<n)(hl:l<=k)(u:lu lt p k)(h1:∀i,i<l->lt (cg p k) (cg p i)=false)(h2:∀i,l<=i->i<k->lt (cg p k) (cg p i)=true):lu lt (bubble p k (k - l)) (k+1):=λi j hij hj=>by
 have e:∀m,cg (bubble p k (k - l)) m=if m=l then cg p k else if l<m/\m<=k then cg p (m - 1) else cg p m:=λm=>by
  have z:=getElem?_bubble (xs:=p) (src:=k) (by rw[hp.size];exact hk) (k - l) (by omega) m;rw[show k - (k - l)=l by omega] at z;split
  .rename_i hm;rw[if_pos hm] at z;exact GC z
  .rename_i hm;rw[if_neg hm] at z;split
   .rename_i hm2;rw[if_pos hm2] at z;exact GC z
   .rename_i hm2;rw[if_neg hm2] at z;exact GC z
 rw[e i,e j]
 repeat' split
 all_goals first
  |exact sE T _
  |exact u _ _ (by omega) (by omega)
  |exact h1 _ (by omega)
  |exact T.asy _ _ (h2 _ (by omega) (by omega))
  |omega
theorem RK(h1:1<=n):∀(f:Nat) (p:Array Nat) (k:Nat),k+f<=n->gQ n p->(iJ n lt->lu lt p k)->eY n lt (λq=>gQ n q/\(iJ n lt->lu lt q (k+f))) (kas_bin f p k)
 |0,p,k,_,hp,h=>⟨hp,h⟩
 |f+1,p,k,hk,hp,h=>by refine eY.bind ((LQ h1 hp k 0 k (Nat.zero_le _) (bT _) (by omega) (λT=>⟨λi hi=>by omega,λi a b=>by omega⟩) h).mono λl q=>?_);exact(RK h1 f _ (k+1) (by omega) (hp.bub _ _) λT=>zpZ T hp (by omega) q.1 (h T) (q.2 T).1 (q.2 T).2).mono λz y=>⟨y.1,λT=>by rw[show k+(f+1)=k+1+f by omega];exact y.2 T⟩
theorem Kq(h1:1<=n):eY n lt (λq=>gQ n q/\(iJ n lt->lu lt q n)) (kas_sort n):=by
 refine eY.bind ((zmC (lt:=lt) h1 (p:=List.toArray (List.range n)) (List.Perm.refl _)).mono λr q=>?_);obtain⟨q1,q2,q3,q4⟩:=q;split
 .rw[show max r.1 1=r.1 by omega];exact(RK h1 (n - r.1) r.2 r.1 (by omega) q3 q4).mono λz y=>⟨y.1,λT=>by have:=y.2 T;rwa [show r.1+(n - r.1)=n by omega] at this⟩
 .exact⟨q3,λT=>by have:=q4 T;rwa [show r.1=n by omega] at this⟩
end
def vN(lt:Nat->Nat->Bool)(n:Nat):List Nat:=if n<2 then List.range n else(zV lt (kas_sort n)).toList
def ziV(lt:Nat->Nat->Bool)(n:Nat):(vN lt n).Perm (List.range n):=by
 unfold vN;split
 .exact List.Perm.refl _
 .exact(Kq (lt:=lt) (by omega)).ev.1
theorem zlZ{lt:Nat->Nat->Bool}(T:iJ n lt):(vN lt n).Pairwise λi j=>lt j i=false:=by
 unfold vN;split
 .rename_i h
  match n,h with
  |0,_=>simp
  |1,_=>simp
 .have h:=(Kq (n:=n) (lt:=lt) (by omega)).ev;have hs:=gQ.size h.1;rw[List.pairwise_iff_getElem];intro i j hi hj hij;have hi':i<(zV lt (kas_sort n)).size:=by simpa using hi
  have hj':j<(zV lt (kas_sort n)).size:=by simpa using hj
  have:=h.2 T i j (by omega) (by omega);simpa[cg,Array.getD,hi',hj'] using this
end MX
end
section
namespace MX
open PySem PySem.Spec PySem.W PyProof.Rows L2
def nZ:D->Int
 |.int i=>i
 |_=>0
def iU:D->Int×Int
 |.tup xs=>(nZ (xs.getD 0 .non),nZ (xs.getD 1 .non))
 |d=>(nZ d,0)
def lC(a b:Int×Int):Bool:=if a.1=b.1 then decide (a.2<b.2) else decide (a.1<b.1)
def nq:D->Bool
 |.int _=>true
 |_=>false
def lY:D->Bool
 |.tup xs=>xs.length==2&&xs.all nq
 |_=>false
def tZ(ks:List D)(i j:Nat):Bool:=lC (iU (ks.getD i .non)) (iU (ks.getD j .non))
def gJ(ks:List D):List Nat:=vN (tZ ks) ks.length
def BL(ks:List D):(gJ ks).Perm (List.range ks.length):=ziV _ _
def v8(h:nq d=true):d = .int (nZ d):=by cases d<;>first|rfl|cases h
theorem zoG(h:lY d=true):d = .tup [.int (iU d).1,.int (iU d).2]:=by
 cases d with
 |tup xs =>
  unfold lY at h;rw[cG,beq_iff_eq] at h;obtain⟨a,ys,rfl⟩:=List.exists_cons_of_length_eq_add_one h.1;obtain⟨b,rfl⟩:=List.length_eq_one_iff.mp (by simpa using h.1);have h2:=h.2;simp only[jN,List.all_nil,Bool.and_true,cG] at h2;rw[v8 h2.1,v8 h2.2];rfl
 |_=>cases h
section
variable {X:Cx}{pz:List (Addr×Obj)}{Z:L2.St}{H:Hp}{α:List Addr}{s:Shared}{A:Around}{E:Value->Shared->Prop}{kz:List D}{ws:List V}{us:List Value}
theorem Gk(r:aA X.K H α kz ws)(v:Vals ws us)(hi:i<kz.length):∃w,Rep X.K H α (kz.getD i .non) w/\RelV w (us.getD i .none):=by
 obtain⟨w,h1,h2⟩:=r.get (fM hi);obtain⟨u,h3,h4⟩:=v.get h1;refine⟨w,?_,?_⟩
 .rw[List.getD_eq_getElem?_getD,fM hi];exact h2
 .rw[List.getD_eq_getElem?_getD,h3];exact h4
theorem V2:∀{kz:List D} {ws:List V} {us:List Value},aA X.K H α kz ws->Vals ws us->kz.all nq=true->IntsAre us (kz.map nZ)
 |_,_,_,.nil,.nil,_ => .nil
 |_,_,_,.cons r rs,.cons v vs,h=>by rw[jN,cG] at h;rw[v8 h.1] at r;cases r;obtain⟨t,rfl⟩:=v;exact .cons _ t (V2 rs vs h.2)
theorem Ky(I:Inv X pz Z H s){w:V}{u:Value}(hd:lY d=true)(r:Rep X.K H α d w)(v:RelV w u):∃a o items n t1 t2,u = .ref a/\s.heap.get? a=some o/\o.cls = .type "tuple" /\ o.data = .seq items n/\items.toList=[.int (iU d).1 t1,.int (iU d).2 t2]:=by
 rw[zoG hd] at r;cases r with
 |tup h rs =>
  cases v;obtain⟨o,items,n,h1,h2,h3,h4⟩:=zlM I h;cases rs with
  |cons r1 rs =>
   cases rs with
   |cons r2 rs =>
    cases rs;cases r1;cases r2;obtain⟨u1,u2,e,⟨t1,rfl⟩,⟨t2,rfl⟩⟩:=h4.two;exact⟨_,o,items,n,t1,t2,rfl,h1,h2,h3,e⟩
theorem V3(I:Inv X pz Z H s):∀{kz:List D} {ws:List V} {us:List Value},aA X.K H α kz ws->Vals ws us->kz.all lY=true->∃fs,KatTups s.heap us fs/\fs.length=us.length/\∀v∈fs,∃n t,v = .int n t
 |_,_,_,.nil,.nil,_=>⟨[],.nil,rfl,λv hv=>nomatch hv⟩
 |_,_,_,.cons r rs,.cons v vs,h=>by
  rw[jN,cG] at h;obtain⟨a,o,items,n,t1,t2,rfl,h1,h2,h3,h4⟩:=Ky I h.1 r v;obtain⟨fs,k1,k2,k3⟩:=V3 I rs vs h.2;refine⟨_::fs,.cons h1 h2 h3 (show items[0]?=some _ by rw[<-Array.getElem?_toList,h4];rfl) k1,by simp[k2],λv hv=>?_⟩;rcases List.mem_cons.mp hv with rfl|hv
  .exact⟨_,_,rfl⟩
  .exact k3 v hv
theorem zkG(I:Inv X pz Z H s)(r:aA X.K H α kz ws)(v:Vals ws us)(h2:2<=us.length)(hk:(kz.all nq||kz.all lY)=true){Q:SortKind->Shared->Prop}(h:∀κ,(∀i j C,i<kz.length->j<kz.length->C (tZ kz i j) s->kas_ask X.prog X.w A κ us i j C s)->Q κ s):wpAny (model X.prog X.w) A (keyKind' us.toArray) Q E s:=by
 rcases lV _ _ ▸ hk with hk|hk
 .rw[ksk_kind (kz:=kz.map nZ) (by simpa using V2 r v hk) (by simpa using h2)];refine bN (h _ λi j C hi hj c=>?_);obtain⟨w1,a1,b1⟩:=Gk r v hi;obtain⟨w2,a2,b2⟩:=Gk r v hj;have ok:∀i,i<kz.length->nq (kz.getD i .non)=true:=λi hi=>by rw[List.getD_eq_getElem?_getD,fM hi];exact List.all_eq_true.mp hk _ (List.getElem_mem hi)
  unfold kas_ask;have e:tZ kz i j=decide (nZ (kz.getD i .non)<nZ (kz.getD j .non)):=by
   unfold tZ;rw[v8 (ok i hi),v8 (ok j hj)];show(if _=_ then decide ((0:Int)<0) else _)=_;split
   .rename_i q;exact(decide_eq_false (by have:nZ (kz.getD i .non)=nZ (kz.getD j .non):=q;show ¬nZ (kz.getD i .non)<nZ (kz.getD j .non);omega)).symm ▸ rfl
   .rfl
  rw[v8 (ok i hi)] at a1;rw[v8 (ok j hj)] at a2;cases a1;cases a2;obtain⟨t1,e1⟩:=b1;obtain⟨t2,e2⟩:=b2;rw[e1,e2];exact kat_lt_int (e ▸ c)
 .obtain⟨fs,f1,f2,f3⟩:=V3 I r v hk;refine kat_kind (T := .type "int") f1 (by omega) (λx hx=>by
   obtain⟨n,t,rfl⟩:=f3 x hx;exact Looks.of_pure rfl) rfl (h _ λi j C hi hj c=>?_)
  have ok:∀i,i<kz.length->lY (kz.getD i .non)=true:=λi hi=>by rw[List.getD_eq_getElem?_getD,fM hi];exact List.all_eq_true.mp hk _ (List.getElem_mem hi)
  obtain⟨w1,a1,b1⟩:=Gk r v hi;obtain⟨w2,a2,b2⟩:=Gk r v hj;obtain⟨x,ox,xs,n,t1,t2,e1,q1,_,q2,q3⟩:=Ky I (ok i hi) a1 b1;obtain⟨y,oy,ys,m,t3,t4,e2,q4,_,q5,q6⟩:=Ky I (ok j hj) a2 b2;unfold kas_ask;rw[e1,e2];refine kat_lt q1 q2 q4 q5 ?_;rw[q3,q6];unfold tZ lC at c;refine kat_cons (wpAny_eqBool_int ?_);by_cases hq:(iU (kz.getD i .non)).1=(iU (kz.getD j .non)).1
  .rw[if_pos hq] at c;rw[show((iU (kz.getD i .non)).1==(iU (kz.getD j .non)).1)=true by rw[hq];exact beq_self_eq_true _];refine kat_yes (kat_cons (wpAny_eqBool_int ?_));by_cases hq2:(iU (kz.getD i .non)).2=(iU (kz.getD j .non)).2
   .rw[show((iU (kz.getD i .non)).2==(iU (kz.getD j .non)).2)=true by rw[hq2];exact beq_self_eq_true _];refine kat_yes (kat_nil ?_);rw[show decide (xs.size<ys.size)=decide ((iU (kz.getD i .non)).2<(iU (kz.getD j .non)).2) by
     rw[<-Array.length_toList,<-Array.length_toList,q3,q6,hq2];simp]
    exact c
   .rw[show((iU (kz.getD i .non)).2==(iU (kz.getD j .non)).2)=false by simpa using hq2];exact kat_no (kat_one _ _ (lt_int c))
  .rw[if_neg hq] at c;rw[show((iU (kz.getD i .non)).1==(iU (kz.getD j .non)).1)=false by simpa using hq];exact kat_no (oneLt_int c)
end
structure N0(X:Cx)(pz:List (Addr×Obj))(base:Heap)(n0:Nat):Prop where
 s0:X.s₀.heap.objs.size<=n0
 loc:X.env.locals<n0
 cel:∀x c,X.env.cells.lookup x=some c->c<n0
 pin:∀p∈X.pn++pz,p.1<n0
 fr:∀b∈frs X.stack,b<n0
 bse:base.objs.size<=n0
 frb:∀b∈frs X.stack,base.get? b=none
structure SJ(X:Cx)(pz:List (Addr×Obj))(Z:L2.St)(S:So)(H₀:Hp)(α₀:List Addr)(base:Heap)(n0:Nat)(own:List (Addr×Obj))(s:Shared)(H:Hp)(α:List Addr):Prop where
 inv:Inv X pz Z H s
 st:aq X.K H α S
 ext:Ext X.K H₀ α₀ H α
 tu:eF H₀ H
 sz:n0<=s.heap.objs.size
 bs:∀b o,base.get? b=some o->s.heap.get? b=some o/\H b=none
 own:∀p∈own,s.heap.get? p.1=some p.2/\H p.1=none/\n0<=p.1
section
variable {X:Cx}{pz:List (Addr×Obj)}{Z:L2.St}{S:So}{H₀ H:Hp}{α₀ α:List Addr}{base:Heap}{n0:Nat}{own:List (Addr×Obj)}{s:Shared}
theorem N0.of(I:Inv X pz Z H s):N0 X pz (nA s.heap H X.stack) s.heap.objs.size where
 s0:=I.sz
 loc:=I.lt
 cel:=λx c e=>by obtain⟨v,o,ho,_⟩:=I.cell x c e;exact b7 ho
 pin:=λp hp=>b7 (I.pin p hp).1
 fr:=λb hb=>by obtain⟨_,o,ho,_⟩:=I.stack.mem hb;exact b7 ho
 bse:=by unfold nA;rw[hideAll_size];exact bT _
 frb:=λb hb=>hideAll_none _ (List.mem_append_right _ hb)
theorem eF.trans{H1 H2 H3:Hp}(a:eF H1 H2)(b:eF H2 H3):eF H1 H3:=⟨λc xs h=>b.tups c xs (a.tups c xs h),λc ps h=>by
 obtain⟨m1,e1⟩:=a.tbls c ps h;obtain⟨m2,e2⟩:=b.tbls c _ e1;exact⟨m1++m2,by rw[e2,Array.append_assoc]⟩,λc o u h=>b.frzs c o u (a.frzs c o u h)⟩
theorem SJ.laid(J:SJ X pz Z S H₀ α₀ base n0 own s H α){t':Nat}(k:∀b u,s.heap.get? b=some u->h'.get? b=some u)(ha:s.heap.objs.size<=a)(new:h'.get? a=some o):
 SJ X pz Z S H₀ α₀ base n0 (own++[(a,o)]) { s with heap:=h',toks:=t' } H α where
 inv:=J.inv.kept k
 st:=J.st
 ext:=J.ext
 tu:=J.tu
 sz:=Nat.le_trans J.sz (Nat.le_trans ha (vy (b7 new)))
 bs:=λb o e=>⟨k _ _ (J.bs b o e).1,(J.bs b o e).2⟩
 own:=λp hp=>by
  rcases lB.mp hp with hp|hp
  .obtain⟨h1,h2,h3⟩:=J.own p hp;exact⟨k _ _ h1,h2,h3⟩
  .rw[List.mem_singleton.mp hp];exact⟨new,J.inv.hok.fresh ha,Nat.le_trans J.sz ha⟩
def SJ.fewer(J:SJ X pz Z S H₀ α₀ base n0 own s H α){own':List (Addr×Obj)}(h:∀p∈own',p∈own):SJ X pz Z S H₀ α₀ base n0 own' s H α:={ J with own:=λp hp=>J.own p (h p hp) }
theorem SJ.chg(N:N0 X pz base n0)(J:SJ X pz Z S H₀ α₀ base n0 own s H α){xs:Array Value}(ha:(a,seqObj "list" xs n)∈own)(g:Array Value->Array Value){t':Nat}:
 ∃c,∀own',(∀p∈own',p=(a,seqObj "list" (g xs) c)\/(p∈own/\p.1≠a))->SJ X pz Z S H₀ α₀ base n0 own' { s with heap:=s.heap.update a (Obj.mapSeq g),toks:=t' } H α:=by
 obtain⟨e,hn,h0⟩:=J.own _ ha;have sb:=Heap.SameBut.update s.heap a (Obj.mapSeq g);have k:∀b o,b≠a->s.heap.get? b=some o->(s.heap.update a (Obj.mapSeq g)).get? b=some o:=λb o hb q=>(sb.2 b hb).trans q;obtain⟨c,e2⟩:∃c,(s.heap.update a (Obj.mapSeq g)).get? a=some (seqObj "list" (g xs) c):=⟨_,get?_update_seq e g⟩
 refine⟨c,λown' ho=>⟨J.inv.turned k hn (Nat.ne_of_gt (di N.loc h0)) (.inr (Nat.le_trans N.s0 h0)) (λx c q=>cW (di (N.cel x c q) h0)) (λp hp=>cW (di (N.pin p hp) h0)),
  J.st,J.ext,J.tu,?_,λb o q=>⟨k b o (cW (di (di (b7 q) N.bse) h0)) (J.bs b o q).1,(J.bs b o q).2⟩,λp hp=>?_⟩⟩
 .show n0<=(s.heap.update a (Obj.mapSeq g)).objs.size;rw[Heap.size_update];exact J.sz
 .rcases ho p hp with rfl|⟨h1,h2⟩
  .exact⟨e2,hn,h0⟩
  .obtain⟨q1,q2,q3⟩:=J.own p h1;exact⟨k _ _ h2 q1,q2,q3⟩
theorem SJ.call(N:N0 X pz base n0)(M:Mod X.K X.mg base)(J:SJ X pz Z S H₀ α₀ base n0 own s H α){A:Around}{a:Addr}{R:Hp->Prop}{ψ:GN}{k:Nat}(hA:A.frames=X.A.frames)(hr:aV k A)(C:Ff X.prog X.w X.K X.mg base k a R ψ)(hT:∀H H',eF H H'->R H->R H')(hR:R H₀){p0:Addr×Obj}(hne:p0∈own){d:D}{v:V}{u:Value}{kk:D}(rd:Rep X.K H α d v)(ru:RelV v u)(hψ:ψ [d] S=some (kk,S)):
 wpAny (model X.prog X.w) A (call (.ref a) [u]) (λr s'=>∃w H' α',Rep X.K H' α' kk w/\RelV w r/\Ext X.K H α H' α'/\SJ X pz Z S H₀ α₀ base n0 own s' H' α') (λ_ _=>False) s:=by
 obtain⟨fd,q,sp,F,hob,hb,hsp⟩:=C;have I:=J.inv;have e0:iB X.prog X.w X.K X.mg base A X.stack s H:=⟨by rw[hA];exact I.ok.frames,M,J.bs,Nat.le_trans N.bse J.sz,MP I.stack N.frb,I.stkFree,I.hok,I.bare⟩
 have h1:sp [v] H (λw H'=>∃α',aq X.K H' α' S/\Ext X.K H α H' α'/\Rep X.K H' α' kk w) E0 :=
  hsp _ _ _ (hT _ _ J.tu hR) rfl ⟨S,α,[d],kk,S,J.st,.cons rd .nil,hψ,λw H' α' h1 h2 h3=>⟨α',h1,h2,h3⟩⟩
 refine wpAny_call (codeAny_mono (F.run A X.stack s H ⟨[u],[]⟩ [u] [v] _ E0 hr e0 (hb s u) (.cons ru .nil) h1) λr s' hq=>?_);cases r with
 |error e=>exact hq.elim
 |ok fl =>
  cases fl with
  |ret u =>
   obtain⟨w,H',os,bare,un,hok,fJ,α',s1,x1,r1⟩:=id hq;obtain⟨_,_,I',_,_⟩:=I.after (show CE X.stack X.prog X.w H s (λw2 H2=>w2=w/\H2=H') u s' from⟨w,H',os,bare,un,hok,fJ,rfl,rfl⟩);rename_i w2 H2 _ z;obtain⟨rfl,rfl⟩:=z;have Yj:∀b,n0<=b->b∉frs X.stack:=λb hb z=>absurd (di (N.fr b z) hb) (gw _);refine⟨w2,H2,α',r1,fJ,x1,I',s1,J.ext.trans x1,J.tu.trans ⟨un.tups,un.tbls,un.frzs⟩,?_,λb o e=>?_,λp hp=>?_⟩
   .obtain⟨q1,q2,q3⟩:=J.own _ hne;exact Nat.le_trans q3 (vy (b7 (un.keep _ _ q1 q2 (Yj _ q3) (by simp))))
   .obtain⟨q1,q2⟩:=J.bs b o e;exact⟨un.keep b o q1 q2 (λz=>by rw[N.frb b z] at e;cases e) (by simp),un.free b o q1 q2 (by simp)⟩
   .obtain⟨q1,q2,q3⟩:=J.own p hp;exact⟨un.keep _ _ q1 q2 (Yj _ q3) (by simp),un.free _ _ q1 q2 (by simp),q3⟩
  |next=>exact False.elim hq
  |brk=>exact False.elim hq
  |cont=>exact False.elim hq
end
section
variable {X:Cx}{pz:List (Addr×Obj)}{Z:L2.St}{S:So}{H₀ H:Hp}{α₀ α:List Addr}{base:Heap}{n0:Nat}{s:Shared}{A:Around}{E:Value->Shared->Prop}{a D kS:Addr}{vs:List Value}{kz:List MX.D}{keys:Array Value}{e e1:Nat}{P:PySem.Fin->Shared->Prop}
theorem Ud{st:SortSt}(N:N0 X pz base n0)(J:SJ X pz Z S H₀ α₀ base n0 [(D,seqObj "list" #[] e1),(kS,seqObj "list" keys e)] s H α)(hka:D≠kS)(hkz:keys.size<=64)(hfl:failedOf st=none)(ho:((arrOf st).map (·.2)).toList=out)(h64:out.length<=64)(h:∀c tk h',SJ X pz Z S H₀ α₀ base n0 [(D,seqObj "list" out.toArray c)] { s with heap:=h',toks:=tk } H α->P (.done (.ret .none)) { s with heap:=h',toks:=tk }):
 wpAny (model X.prog X.w) A (ksk_tail D false e1 (.ref kS) st) P E s:=by
 have ho2:(arrOf st).map (·.2)=out.toArray:=by rw[<-ho]
 unfold ksk_tail
 try dsimp only
 have nk:=J.own (kS,seqObj "list" keys e) (by simp);obtain⟨c1,J1⟩:=J.chg N (a:=kS) (xs:=keys) (n:=e) (by simp) (λ_=>(#[]:Array Value)) (t':=s.toks);have J1:=J1 [(D,seqObj "list" #[] e1)] (λp hp=>by
  rw[List.mem_singleton.mp hp];exact .inr ⟨by simp,hka⟩)
 have na:=J1.own (D,seqObj "list" #[] e1) (by simp);refine aC (listUpdate_at nk.1 rfl ?_ (by rw[sizeLine_eq];omega) (Nat.zero_le _));refine aC (wpAny_letGo ?_);refine aC (seqEpoch_at na.1 rfl ?_);rw[ho2];refine aC (listUpdate_at na.1 rfl ?_ (Nat.zero_le _) (by simp only[Bool.false_eq_true,if_false,dw];rw[sizeLine_eq];omega));rw[hfl];simp only[bne_self_eq_false,Bool.false_eq_true,if_false];obtain⟨c2,J2⟩:=J1.chg N (a:=D) (xs:=#[]) (n:=e1) (by simp) (λ_=>out.toArray) (t':=s.toks);exact bN (h c2 _ _ (J2 _ λp hp=>by
  rw[List.mem_singleton.mp hp];exact .inl rfl))
theorem zqx(N:N0 X pz base n0)(J:SJ X pz Z S H₀ α₀ base n0 [(D,seqObj "list" #[] e1),(kS,seqObj "list" keys e)] s H α)(hka:D≠kS){ws:List V}(hk:aA X.K H α kz ws)(hv:Vals ws keys.toList)(hlen:kz.length=vs.length)(hko:(kz.all nq||kz.all lY)=true)(h64:vs.length<64)(h:∀c tk h',SJ X pz Z S H₀ α₀ base n0 [(D,seqObj "list" ((gJ kz).map λi=>vs.getD i .none).toArray c)] { s with heap:=h',toks:=tk } H α->P (.done (.ret .none)) { s with heap:=h',toks:=tk }):
 wpAny (model X.prog X.w) A (ksk_end D false vs.toArray e1 (.ref kS) keys) P E s:=by
 have hsz:keys.toList.length=vs.length:=by rw[<-hv.length,<-hk.length,hlen]
 have hol:((gJ kz).map λi=>vs.getD i Value.none).length<=64:=by rw[cX,(BL kz).length_eq,List.length_range];omega
 have hks:keys=keys.toList.toArray:=by simp
 unfold ksk_end;simp only[Bool.false_eq_true,if_false];by_cases h2:vs.toArray.size<2
 .rw[if_pos h2,if_pos h2];refine aC (bN ?_);rw[StateT.run_pure];refine aC (bN ?_)
  try dsimp only
  rw[dw] at h2;refine Ud (st:=SortSt.mk' general' (keys.zip vs.toArray) #[] 7 none) N J hka (by rw[<-Array.length_toList];omega) rfl ?_ hol h;unfold gJ vN;rw[if_pos (by omega),hlen];show((keys.zip vs.toArray).map (·.2)).toList=_;rw[hks];simp only[List.zip_toArray,List.map_toArray,List.map_snd_zip (Nat.le_of_eq hsz.symm)];exact(List.ext_getElem (by simp) λi h1 h2=>by simp[h1])
 .rw[if_neg h2,if_neg h2];rw[dw] at h2;rw[hks];refine aC (zkG J.inv hk hv (by omega) hko λκ ask=>?_);refine aC (iI (kat_run (G:=λp s'=>s'=s/\p.toList=gJ kz) (Q:=λst' s'=>s'=s/\failedOf st'=none/\((arrOf st').map (·.2)).toList=(gJ kz).map λi=>vs.getD i .none) hsz (by omega) h64 (λp st' s' _ a2 a3 a4=>⟨a4.1,a3,by rw[kat_snds hsz a2];show p.toList.map _=_;rw[a4.2]⟩)
   (eY.wp (lt:=tZ kz) (λi j C hi hj c=>ask i j C (by omega) (by omega) c) (Kq (n:=vs.length) (by omega)) ⟨rfl,?_⟩)) ?_ λ_ _ e=>e)
  .unfold gJ vN;rw[if_neg (by omega),hlen]
  .rintro⟨⟨⟩,st'⟩ s' ⟨rfl,hf,ho⟩
   try dsimp only
   exact Ud N J hka (by rw[<-Array.length_toList];omega) hf ho hol h
theorem zn9{f:Value}(N:N0 X pz base n0)(J:SJ X pz Z S H₀ α₀ base n0 [(D,seqObj "list" #[] e1),(kS,seqObj "list" #[] 0)] s H α)(hka:D≠kS)(hlen:kz.length=vs.length)(hko:(kz.all nq||kz.all lY)=true)(h64:vs.length<64)(turn:∀(i:Nat) (v:Value) (k:MX.D),vs[i]?=some v->kz[i]?=some k->∀own p0,p0∈own->∀s H α,SJ X pz Z S H₀ α₀ base n0 own s H α->wpAny (model X.prog X.w) A (call f [v]) (λr s'=>∃w H' α',Rep X.K H' α' k w/\RelV w r/\Ext X.K H α H' α'/\SJ X pz Z S H₀ α₀ base n0 own s' H' α') (λ_ _=>False) s)(h:∀c s' H' α',SJ X pz Z S H₀ α₀ base n0 [(D,seqObj "list" ((gJ kz).map λi=>vs.getD i .none).toArray c)] s' H' α'->P (.done (.ret .none)) s'):
 wpAny (model X.prog X.w) A (ksk_rest D f false vs.toArray e1 (.ref kS)) P E s:=by
 unfold ksk_rest;refine aC (wpAny_rule ?_)
 first
  |rw[List.forIn_toArray]
  | (rw[<-Array.forIn_toList];simp only[List.toList_toArray])
  |rw[<-Array.forIn_toList]
 refine aC (ksk_fold (λi s'=>∃H α kA e,SJ X pz Z S H₀ α₀ base n0 [(D,seqObj "list" #[] e1),(kS,seqObj "list" kA e)] s' H α/\∃ws,aA X.K H α (kz.take i) ws/\Vals ws kA.toList) vs 0 s
  ⟨H,α,#[],0,J,[],.nil,.nil⟩ ?step ?done)
 case step =>
  rintro j x s' hx ⟨H',α',kA,e,J',ws,hk,hv⟩
  simp only[Nat.zero_add] at hk ⊢;have hj:j<vs.length:=(fj.mp hx).1;obtain⟨k,hkj⟩:∃k,kz[j]?=some k:=⟨_,fM (by omega)⟩
  have hz:kA.size<=vs.length:=by
   have h1:min j kz.length=kA.size:=by simpa using hk.length.trans hv.length
   omega
  refine aC (wpAny_attempt (iI (turn j x k hx hkj _ _ (fG ..) s' H' α' J') (λv s'' he=>?_) λ_ _ hF=>hF.elim));obtain⟨w2,H2,α2,r2,v2,x2,J2⟩:=he
  try dsimp only
  have nk:=J2.own (kS,seqObj "list" kA e) (by simp);obtain⟨c2,J3⟩:=J2.chg N (a:=kS) (xs:=kA) (n:=e) (by simp) (·.push v) (t':=s''.toks);have ek:kz.take (j+1)=kz.take j++[k]:=by rw[List.take_add_one,hkj];simp
  have ea:(kA.push v).toList=kA.toList++[v]:=by simp
  refine aC (listUpdate_at nk.1 rfl ?_ (by rw[sizeLine_eq];omega) (Nat.le_trans (Nat.le_of_eq (Array.size_push ..)) (by rw[sizeLine_eq];omega)));refine bN ⟨rfl,H2,α2,kA.push v,c2,J3 _ λp hp=>?_,ws++[w2],by rw[ek];exact(hk.mono x2).append (.cons r2 .nil),by rw[ea];exact hv.append (.cons v2 .nil)⟩;rcases List.mem_cons.mp hp with rfl|hp
  .exact .inr ⟨by simp,hka⟩
  .rw[List.mem_singleton.mp hp];exact .inl rfl
 case done =>
  rintro s' ⟨H',α',kA,e,J',ws,hk,hv⟩
  rw[List.take_of_length_le (by omega)] at hk;have nk:=J'.own (kS,seqObj "list" kA e) (by simp)
  try dsimp only
  refine aC (listItems_at nk.1 rfl ?_);exact zqx N J' hka hk hv hlen hko h64 λc tk h' J2=>h c _ _ _ J2
theorem zn8{f:Value}(N:N0 X pz base n0)(J:SJ X pz Z S H₀ α₀ base n0 [(D,seqObj "list" vs.toArray n)] s H α)(hlen:kz.length=vs.length)(hko:(kz.all nq||kz.all lY)=true)(h64:vs.length<64)(turn:∀(i:Nat) (v:Value) (k:MX.D),vs[i]?=some v->kz[i]?=some k->∀own p0,p0∈own->∀s H α,SJ X pz Z S H₀ α₀ base n0 own s H α->wpAny (model X.prog X.w) A (call f [v]) (λr s'=>∃w H' α',Rep X.K H' α' k w/\RelV w r/\Ext X.K H α H' α'/\SJ X pz Z S H₀ α₀ base n0 own s' H' α') (λ_ _=>False) s)(h:∀c s' H' α',SJ X pz Z S H₀ α₀ base n0 [(D,seqObj "list" ((gJ kz).map λi=>vs.getD i .none).toArray c)] s' H' α'->P (.done (.ret .none)) s'):
 wpAny (model X.prog X.w) A (ksk_tree D f false) P E s:=by
 have ho:=(J.own _ (List.mem_singleton.mpr rfl)).1;have ha:D<s.heap.objs.size:=b7 ho;obtain⟨e1,J1⟩:=J.chg N (a:=D) (xs:=vs.toArray) (n:=n) (by simp) (λ_=>(#[]:Array Value)) (t':=s.toks);have J1:=J1 [(D,seqObj "list" #[] e1)] λp hp=>by rw[List.mem_singleton.mp hp];exact .inl rfl
 have ho1:=(J1.own _ (List.mem_singleton.mpr rfl)).1;have J2:=J1.laid (h':=(s.heap.update D (Obj.mapSeq λ_=>(#[]:Array Value))).push (seqObj "tuple" vs.toArray 0)) (t':=s.toks) (λb u q=>cN _ q) (bT _) (gq _ rfl);have J2:=J2.fewer (own':=[(D,seqObj "list" #[] e1)]) λp hp=>List.mem_append_left _ hp;have J3:=J2.laid (h':=((s.heap.update D (Obj.mapSeq λ_=>(#[]:Array Value))).push (seqObj "tuple" vs.toArray 0)).push (seqObj "list" #[] 0)) (t':=s.toks) (λb u q=>cN _ q) (bT _) (gq _ rfl);unfold ksk_tree;refine aC (listItems_at ho rfl ?_);refine aC (listUpdate_at ho rfl ?_ (by rw[dw,sizeLine_eq];omega) (Nat.zero_le _));refine aC (seqEpoch_at ho1 rfl ?_);refine aC (wpAny_newTuple ?_ (by show vs.length<=_;rw[sizeLine_eq];omega));refine aC (wpAny_newList ?_ (Nat.zero_le _));refine wpAny_holding ?_;refine zn9 N J3 ?_ hlen hko h64 turn h;have:D<((s.heap.update D (Obj.mapSeq λ_=>(#[]:Array Value))).push (seqObj "tuple" vs.toArray 0)).objs.size:=by rw[size_push',Heap.size_update];exact Nat.lt_succ_of_lt ha
 exact cW this
end
section
variable {X:Cx}{pz:List (Addr×Obj)}{Z:L2.St}{S:So}{H₀ H:Hp}{α₀ α:List Addr}{base:Heap}{n0:Nat}{s:Shared}{A:Around}{E:Value->Shared->Prop}{a l:Addr}{vs:List Value}{kz:List MX.D}{Q:Value->Shared->Prop}
theorem zjR(N:N0 X pz base n0)(J:SJ X pz Z S H₀ α₀ base n0 [] s H α)(hl:s.heap.IsList l vs.toArray)(hlen:kz.length=vs.length)(hko:(kz.all nq||kz.all lY)=true)(h64:vs.length<64)(turn:∀(i:Nat) (v:Value) (k:MX.D),vs[i]?=some v->kz[i]?=some k->∀own p0,p0∈own->∀s H α,SJ X pz Z S H₀ α₀ base n0 own s H α->wpAny (model X.prog X.w) A.in1.in1 (call (.ref a) [v]) (λr s'=>∃w H' α',Rep X.K H' α' k w/\RelV w r/\Ext X.K H α H' α'/\SJ X pz Z S H₀ α₀ base n0 own s' H' α') (λ_ _=>False) s)(h:∀D c s' H' α',SJ X pz Z S H₀ α₀ base n0 [(D,seqObj "list" ((gJ kz).map λi=>vs.getD i .none).toArray c)] s' H' α'->Q (.ref D) s'):
 wpAny (model X.prog X.w) A (call (.builtin "sorted") [.ref l] [(Str.ofString "key",.ref a)]) Q E s:=by
 refine call_function_entry_kw kind_sorted plain_sorted entry_sorted (ksk_s1 _ _) ?_;unfold Builtin.«sorted»;refine aC (m:=checkCount "sorted" 1 1 _) (bN ?_);refine aC (collect_list hl ?_ (by rw[sizeLine_eq];omega));refine aC (wpAny_newList ?_ (by rw[sizeLine_eq];omega));have hsz:((s.heap.push (seqObj "list" #[] 0)).update s.heap.objs.size (Obj.mapSeq (·++vs.toArray))).objs.size=s.heap.objs.size+1:=by rw[Heap.size_update,size_push']
 have hoL:(((s.heap.push (seqObj "list" #[] 0)).update s.heap.objs.size (Obj.mapSeq (·++vs.toArray))).push (seqObj "list" vs.toArray 0)).get? (s.heap.objs.size+1)=some (seqObj "list" vs.toArray 0):=by rw[<-hsz];exact gq _ rfl
 have keep:∀b o,s.heap.get? b=some o->(((s.heap.push (seqObj "list" #[] 0)).update s.heap.objs.size (Obj.mapSeq (·++vs.toArray))).push (seqObj "list" vs.toArray 0)).get? b=some o:=λb o q=>by have hlt:b<s.heap.objs.size:=b7 q;rw[Heap.get?_push_ne _ _ _ (by rw[hsz];exact cW (Nat.lt_succ_of_lt hlt)),Heap.get?_update_ne _ _ _ _ (cW hlt),Heap.get?_push_ne _ _ _ (cW hlt)];exact q
 have J1:=J.laid (h':=((s.heap.push (seqObj "list" #[] 0)).update s.heap.objs.size (Obj.mapSeq (·++vs.toArray))).push (seqObj "list" vs.toArray 0)) (t':=s.toks) keep (Nat.le_succ _) hoL;show wpAny _ _ _ _ _ { s with heap:=((s.heap.push (seqObj "list" #[] 0)).update s.heap.objs.size (Obj.mapSeq (·++vs.toArray))).push (seqObj "list" vs.toArray 0) };rw[hsz];refine aC (wpAny_holding (wpAny_call_entry_kw slot_list_sort ⟨_,hoL,rfl⟩ entry_list_sort ?body (ksk_l1 _ _)))
 case body =>
  show wpAny (model X.prog X.w) A.in1.in1 (Builtin.«list.sort» ⟨[.ref (s.heap.objs.size+1)],[(Str.ofString "key",.ref a)]⟩) _ _ _;rw[ksk_t1];refine zn8 N J1 hlen hko h64 turn λc s' H' α' J'=>⟨_,rfl,?_⟩
  exact bN ⟨_,rfl,h _ _ _ _ _ J'⟩
theorem SJ.adopt{D:Addr}{c:Nat}{ws:List V}(N:N0 X pz base n0)(J:SJ X pz Z S H₀ α₀ base n0 [(D,seqObj "list" out.toArray c)] s H α)(hv:Vals ws out)(hz:ws.length<=sizeLine):Inv X pz Z (upd H D (.lst ws)) s:=by
 obtain⟨e,hn,h0⟩:=J.own _ (List.mem_singleton.mpr rfl);have I:=J.inv;refine I.step (h':=s.heap) (g':=s.gens) (d':=s.drawn) (t':=s.toks) (ch:=[D]) (λb hb=>?_) (λb o _ _ _ q _=>q) (λb o _ _ _ q _=>⟨o.slots,q⟩) (λb o hb q n=>?_) (λb o _ q=>⟨o,q⟩) (λb xs q=>?_) (λb o u q=>?_) (λb ps q=>?_) (λm q=>q) (λb o q=>?_) I.bare
 .rw[List.mem_singleton.mp hb];exact⟨.inr (Nat.le_trans N.s0 h0),Nat.ne_of_gt (di N.loc h0),λx c q=>cW (di (N.cel x c q) h0),λp hp=>cW (di (N.pin p hp) h0)⟩
 .rw[bQ (λz=>hb (by simp[z]))];exact n
 .rw[bQ (fH q hn)];exact q
 .rw[bQ (fH q hn)];exact q
 .exact⟨#[],by rw[bQ (fH q hn),q];simp⟩
 .by_cases hb:b=D
  .subst hb;rw[dI] at q;cases q;exact⟨hz,out,c,hv,e⟩
  .rw[bQ hb] at q;exact(I.hok b o q).stay (λ_ _ _ r=>r) (λx r=>by rw[bQ (fH r hn)];exact r) λx xs r=>by rw[bQ (fH r hn)];exact r
end
section
variable {X:Cx}{pz:List (Addr×Obj)}{Z:L2.St}{H1 H':Hp}{s1 s':Shared}{params:Arguments}{body:Expr}{scope:Scope}{aW:Pos}{P Pt:Addr}{cap:List Str}{cF:List V}{a:Addr}{q:Str}{fb:EF}{k:Nat}{clos:List (Str×Addr)}{dg:List D}{cdv:Value}{base:Heap}
theorem ZS(hsc:scope.kind = .function/\scope.isCoroutine=false/\scope.isGenerator=false/\scope.names.lookup q=some .local/\∀y∈scope.names,y.2 ≠ .cell)(hu:∀y∈scope.names,scope.names.lookup y.1=some y.2)(hbind:∀(pm cdv ctv:Value) (clos:List (Str×Addr)) (qual:Str) (u:Value),bindArgs (kla_fn "<lambda>" qual params body scope clos pm cdv ctv) ⟨[u],[]⟩=pure [(q,u)])(hbody:∀(a:Addr) (cdv:Value) (clos:List (Str×Addr)) (qual:Str) (A:Around) (outer:List Env) (s:Shared) (H:Hp) (E:XK),aV k (A.deeper (envX qual scope s.heap.objs.size a cdv clos)) ->
  SE (qt X.prog X.w X.K X.mg base (q::cap) qual scope a cdv clos A outer s H E).nox body fb)(hlo:xg dg=true)(hl:cap.length=cF.length)(C:IV base X.env.qual params body scope clos cap cF a cdv):
 Ff X.prog X.w X.K X.mg base (k+1) a (λH=>aA X.K H [] dg cF/\∃ps,H Pt=some (.tbl ps)/\codeAmong aW ps.toList=some cdv) (t6 fb dg):=by
 obtain⟨pm,ctv,ho⟩:=C.obj;have lam:=Zo (P:=X.prog) (w:=X.w) (K:=X.K) (mg:=X.mg) (k:=k) (Pt:=Pt) (aW:=aW) (p:=q) (cap:=cap) (cF:=cF) (cus:=[])
  (sp:=λvs H Q E=>vs.length=1/\(aA X.K H [] dg cF/\∃ps,H Pt=some (.tbl ps)/\codeAmong aW ps.toList=some cdv)/\jC X.K (t6 fb dg) vs H Q)
  ho rfl (λvs H Q E h=>h.2.1.2) ⟨hsc.1,hsc.2.1,hsc.2.2.1,hsc.2.2.2.1,hsc.2.2.2.2,λy hy=>C.has y (gU hy),C.inj⟩ C.cells
  (λi y v h1 h2=>⟨hu _ (C.cap i y v h1 h2).1,(C.cap i y v h1 h2).2⟩) hl (λvs H Q E h=>h.1)
  (λqual A outer s H v Q E hr h=>⟨_,hbody a cdv clos qual A outer s H E hr,?_⟩)
 .exact⟨_,q,_,lam,ho,λs u => .of_eq (hbind pm cdv ctv clos _ u),λvs H Q hR h1 h2=>⟨h1,hR,h2⟩⟩
 .obtain⟨_,⟨hrep,_⟩,S,α,ds,z,S',hs,hrs,hf,kk⟩:=h;unfold t6 at hf;split at hf
  .rename_i d;cases hrs with
   |cons r1 r2 =>
    cases r2;refine⟨some d::dg.map some,S,α,z,S',⟨by simp[hrep.length],λi d' e'=>?_⟩,hs,hf,kk⟩;cases i with
    |zero =>
     simp at e';subst e';exact⟨v,rfl,r1⟩
    |succ i =>
     rw[List.getElem?_cons_succ,gR] at e';cases qd:dg[i]? with
     |none=>rw[qd] at e';cases e'
     |some d2 =>
      rw[qd] at e';cases e';obtain⟨v2,k1,k2⟩:=(hrep.monoT (α':=α) eF.refl hlo).get qd;exact⟨v2,by rw[List.getElem?_cons_succ,gR,k1];rfl,k2⟩
  .cases hf
end
open Classical in
def pX(ψ:GN)(S:So):List D->Option (List D)
 |[]=>some []
 |d::r=>match ψ [d] S with
  |some (k,S')=>if S'=S then(pX ψ S r).map λl=>k::l else none
  |_=>none
theorem zjf{ψ:GN}{r:List D}{k:D}{l:List D}(h:ψ [d] S=some (k,S))(hr:pX ψ S r=some l):pX ψ S (d::r)=some (k::l):=by unfold pX;rw[h];simp[hr]
theorem V1{ψ:GN}{S:So}:∀{xs:List D} {kz:List D},pX ψ S xs=some kz->kz.length=xs.length/\∀(i:Nat) d k,xs[i]?=some d->kz[i]?=some k->ψ [d] S=some (k,S)
 |[],kz,h=>by cases h;exact⟨rfl,λi d k e=>by simp at e⟩
 |x::r,kz,h=>by
  unfold pX at h;split at h
  .rename_i k0 S0 e0;split at h
   .rename_i hS;subst hS;simp only[aR] at h;obtain⟨l,e1,rfl⟩:=h;obtain⟨h1,h2⟩:=V1 e1;refine⟨by simp[h1],λi d k e3 e4=>?_⟩;cases i with
    |zero=>simp at e3 e4;subst e3 e4;exact e0
    |succ i=>exact h2 i d k (by simpa using e3) (by simpa using e4)
   .cases h
  .cases h
noncomputable def yc(fe:EF)(src:List Nat)(fb:EF):EF:=λZ S=>(fe Z S).bind λr=>(vK src Z).bind λdg=>if xg dg=true then match r.1 with
 |.ref n=>match r.2[n]? with
  |some (.lst xs)=>if xs.length<64 then(pX (t6 fb dg) r.2 xs).bind λkz=>if(kz.all nq||kz.all lY)=true then some (.ref r.2.length,r.2++[.lst ((gJ kz).map λi=>xs.getD i .non)]) else none else none
  |_=>none
 |_=>none
 else none
theorem Vr{K:FgA}{H:Hp}{α:List Addr}{xs:List D}{ws:List V}(r:aA K H α xs ws):∀l:List Nat,aA K H α (l.map λi=>xs.getD i .non) (l.map λi=>ws.getD i .non)
 |[] => .nil
 |i::l=>by
  refine .cons (show Rep K H α (xs.getD i .non) (ws.getD i .non) from ?_) (Vr r l);by_cases hi:i<xs.length
  .obtain⟨v,h1,h2⟩:=r.get (fM hi);rw[List.getD_eq_getElem?_getD,List.getD_eq_getElem?_getD,fM hi,h1];exact h2
  .have hi':¬i<ws.length:=by rw[<-r.length];exact hi
   rw[List.getD_eq_getElem?_getD,List.getD_eq_getElem?_getD,kh (by omega),kh (by omega)];exact .non
theorem Vz{ws:List V}{us:List Value}(r:Vals ws us):∀l:List Nat,Vals (l.map λi=>ws.getD i .non) (l.map λi=>us.getD i .none)
 |[] => .nil
 |i::l=>by
  refine .cons (show RelV (ws.getD i .non) (us.getD i .none) from ?_) (Vz r l);by_cases hi:i<ws.length
  .obtain⟨v,h1,h2⟩:=r.get (fM hi);rw[List.getD_eq_getElem?_getD,List.getD_eq_getElem?_getD,fM hi,h1];exact h2
  .have hi':¬i<us.length:=by rw[<-r.length];exact hi
   rw[List.getD_eq_getElem?_getD,List.getD_eq_getElem?_getD,kh (by omega),kh (by omega)];exact rfl
section
variable {X:Cx}{p pos aW kp:Pos}{e:Expr}{fe fb:EF}{params:Arguments}{body:Expr}{scope:Scope}{q:Str}{cap:List Str}{src:List Nat}{k:Nat}{Pt ct:Addr}
theorem zr9(L:vL X Pt ct)(hsc:scope.kind = .function/\scope.isCoroutine=false/\scope.isGenerator=false/\scope.names.lookup q=some .local/\∀y∈scope.names,y.2 ≠ .cell)(hu:∀y∈scope.names,scope.names.lookup y.1=some y.2)(hcap:∀y∈cap,(y,NameKind.free)∈scope.names)(hfree:∀y∈scope.names,y.2 = .free->X.env.kindOf y.1=some .cell)(gO:∀(i:Nat) y,cap[i]?=some y->∃j,src[i]?=some j/\X.N[j]?=some y)(hlen:cap.length=src.length)(hdef:defaultsOf params X.env=([],[]))(hbind:∀(pm cdv ctv:Value) (clos:List (Str×Addr)) (qual:Str) (u:Value),bindArgs (kla_fn "<lambda>" qual params body scope clos pm cdv ctv) ⟨[u],[]⟩=pure [(q,u)])(hbody:∀(base:Heap),Mod X.K X.mg base->∀(a:Addr) (cdv:Value) (clos:List (Str×Addr)) (qual:Str) (A:Around) (outer:List Env) (s:Shared) (H:Hp) (E:XK),aV k (A.deeper (envX qual scope s.heap.objs.size a cdv clos)) ->
  SE (qt X.prog X.w X.K X.mg base (q::cap) qual scope a cdv clos A outer s H E).nox body fb)(hr:aV (k+3) X.A)(hg:Gl X "sorted")(hm:X.mg "sorted" = none)(ha:SE X e fe)(he:starEach [e] X.env=[(false,eval e X.env)]):
 SE X (.Call (.Name "sorted" p) [e] [⟨some "key",.Lambda params body scope aW,kp⟩] pos) (yc fe src fb):=by
 intro pz s Z H Q I h;obtain⟨σd,S,α,z,S',hv,hs,hf,kk⟩:=h;unfold yc at hf;simp only[aU] at hf;obtain⟨⟨d1,S1⟩,e1,dg,e2,e3⟩:=hf;split at e3
 .rename_i hlo;split at e3
  .rename_i n en;simp only at en;subst en;split at e3
   .rename_i xs ex;split at e3
    .rename_i h64;simp only[aU] at e3;obtain⟨kz,ek,e4⟩:=e3;rw[Option.ite_none_right_eq_some] at e4;obtain⟨hko,e4⟩:=e4;cases e4;obtain⟨hkl,hkg⟩:=V1 ek;obtain⟨cF,c1,c2,c3⟩:=K8 hv e2;refine wpAny_Call_Name_kw (rA I hg hm (show bootBuiltins "sorted" = some (.builtin "sorted") by decide +kernel) ?_ (by decide) (by decide));have hst:backTo pos (starEach [e] X.env)=(false,eval e X.env)::backTo pos (starEach [] X.env):=by rw[he];rfl
     refine callWith_kw ?_ hst (by rw[hst];rfl) rfl rfl;rw[hst];refine Calls.spliced_cons (bK (ha pz s Z H (λv H1=>∃α1,aq X.K H1 α1 S1/\Ext X.K H α H1 α1/\Rep X.K H1 α1 (.ref n) v) I ⟨σd,S,α,.ref n,S1,hv,hs,e1,λw H1 α1 s1 x1 r1=>⟨α1,s1,x1,r1⟩⟩) λu1 s1 ⟨v1,H1,I1,r1,α1,st1,x1,Dc⟩=>?_);refine Calls.spliced_nil ?_;cases Dc with
     |@ref _ l hl =>
      cases r1;obtain⟨ws,hw,rws⟩:=st1.obj _ _ _ ex hl;have hcells:∀y∈scope.names,y.2 = .free->∃c,X.env.cells.lookup y.1=some c:=λy hy e=>I1.ok.has y.1 (.inl (hfree y hy e));obtain⟨Qa,xM⟩:=L.tab;obtain⟨more,hps⟩:=I1.base.tbls Pt Qa xM;refine kws_cons (UW I1 hps L.code L.hd L.bm (WD hcells) hdef λa s2 H2 M=>kws_nil ?_);obtain⟨cdv,C,Qu⟩:=U0 I1 M hcap hfree L.fn (cF:=cF) (λi y hi=>by
       obtain⟨j,k1,k2⟩:=gO i y hi;obtain⟨v,k3,k4⟩:=c3 i j k1;exact⟨j,v,k2,k3,k4⟩)
      have I2:=M.inv;obtain⟨e0,kb⟩:=VJ I2;have N:=N0.of I2;have hw2:H2 l=some (.lst ws):=M.same.1 _ _ hw λ_ z=>by cases z
      have J:SJ X pz Z S1 H2 α1 (nA s2.heap H2 X.stack) s2.heap.objs.size [] s2 H2 α1:=⟨I2,M.same.store st1,Ext.refl,eF.refl,bT _,λb o e=>V9 e,λp hp=>(nomatch hp)⟩
      obtain⟨hz,its,en,rv,hits,ho⟩:=I2.lstM hw2;have hil:s2.heap.IsList l its.toArray:=⟨_,ho,rfl,en,rfl⟩
      have clo:=ZS (X:=X) (Pt:=Pt) (aW:=aW) (k:=k) hsc hu hbind (hbody _ e0.mod) hlo (by rw[hlen,c2]) C;have hR:aA X.K H2 [] dg cF/\∃ps,H2 Pt=some (.tbl ps)/\codeAmong aW ps.toList=some cdv:=⟨(c1.mono (x1.trans M.same.ext)).monoT eF.refl hlo,Qu⟩
      have CZ:=rws.mono (M.same.ext (α:=α1));refine zjR (kz:=kz) N J hil (by rw[hkl,rws.length];exact hits) hko (by rw[<-hits,<-rws.length];exact h64) (λi u kv hu hk own p0 hp0 s3 H3 α3 J3=>?_) λDd c s3 H3 α3 J3=>?_
      .obtain⟨w,hw3,rw3⟩:∃w,ws[i]?=some w/\RelV w u:=by
        have hi:i<ws.length:=by rw[hits];exact(fj.mp hu).1
        obtain⟨u',hu',r'⟩:=rv.get (fM hi);rw[hu] at hu';cases hu';exact⟨_,fM hi,r'⟩
       obtain⟨d,hd,rd⟩:=CZ.getV hw3;refine SJ.call N e0.mod J3 (A:=X.A.in1.in1) rfl hr.in1.in1 clo (λHa Hb t hR=>⟨hR.1.monoT t hlo,?_⟩) hR hp0 (rd.mono J3.ext) rw3 (hkg i d kv hd hk);obtain⟨ps,h1,h2⟩:=hR.2;obtain⟨more,h3⟩:=t.tbls _ _ h1;exact⟨_,h3,by rw[Array.toList_append];exact zjr _ _ h2⟩
      .have DY:((gJ kz).map λi=>ws.getD i V.non).length<=sizeLine:=by rw[cX,(BL kz).length_eq,List.length_range,sizeLine_eq];omega
       have I3:=J3.adopt N (Vz rv (gJ kz)) DY;have hnD:=(J3.own _ (List.mem_singleton.mpr rfl)).2.1;obtain⟨s4,x4⟩:=J3.st.snoc (p:=Dd) (o := .lst ((gJ kz).map λi=>xs.getD i .non)) (u := .lst ((gJ kz).map λi=>ws.getD i V.non)) hnD λα' x=>⟨_,dI,(Vr (CZ.mono J3.ext) (gJ kz)).mono x⟩
       refine⟨.ref Dd,_,I3,rfl,kk _ _ _ s4 ((x1.trans (M.same.ext (α:=α1))).trans (J3.ext.trans x4)) (.ref ?_)⟩;rw[<-J3.st.len];simp
    .cases e3
   .cases e3
  .cases e3
 .cases e3
end
section
variable {prog:Program}{w:World}{A:Around}{R:Result->Shared->Prop}{it S:Addr}{fp wr:List Addr}{n:Nat}{P:Nat->Value->Prop}{St:Nat->Heap->Prop}{bt:Nat->Nat->Bool}{d:Value}
abbrev Dy(b:Array Value)(c:Nat):Obj:={ cls := .type "list",dict:=none,data := .seq b c,slots:=#[] }
theorem zo3(W:Walks prog w A.in1 it fp wr n P St)(hc:CmpOf prog w A.in1 .Gt P bt)(hS:S∉fp):∀(k j:Nat) (s:Shared) (b:Array Value) (c:Nat),n - j=k->j<=n->St j s.heap ->
 ((j=0/\b=#[])\/∃v i,j=i+1/\b=#[v,v]/\P (argBest bt i) v)->s.heap.get? S=some (Dy b c) ->
 (∀v h' tk,(n=0/\v=d)\/(0<n/\P (argBest bt (n - 1)) v)->(∀a o,a∉wr->a≠S->s.heap.get? a=some o->h'.get? a=some o)->R (.ok (.ret v)) { s with heap:=h',toks:=tk }) ->
 codeAny (model prog w) A (.builtin "max.loop" ⟨[.ref it,.none,.ref S],[("default",d)]⟩) R s:=by
 have nm:(toString "max" ++ toString ".loop" : String) = "max.loop" := by decide
 have nw:S∉wr:=λz=>hS (W.sub _ z);intro k
 induction k with
 |zero =>
  intro j s b c e1 e2 st hb gS hR;have ej:j=n:=by omega
  subst ej;refine codeAny_builtin PySem.F.entry_max_loop ?_;rw[Around.under_plainId PySem.F.plain_max_loop _];show wpAny _ A.in1 (seqItems? (.ref S) >>= _) _ _ s;refine aC (wpAny_seqItems gS rfl ?_);show wpAny _ A.in1 (tryCatch (pyNext (.ref it)) _ >>= _) _ _ s;refine aC (wpAny_tryCatch (W.done s _ _ st λh' tk kp=>?_));rcases hb with⟨h0,rfl⟩|⟨v,i,h0,rfl,hv⟩
  .refine aC (wpAny_rule (bN ?_));exact hR d h' tk (.inl ⟨h0,rfl⟩) λa o a1 _ e=>kp a o a1 e
  .have xT:=kp S _ nw gS;show wpAny _ A.in1 (updateSeq S (λ_=>#[]) >>= _) _ _ _;refine aC ?_;refine wpAny_updateSeq xT rfl (aC (wpAny_letGo (bN ?_)));exact hR v _ tk (.inr ⟨by omega,by rw[h0];exact hv⟩) λa o a1 a2 e=>(Aa _ _ (Ne.symm a2)).trans (kp a o a1 e)
 |succ k ih =>
  intro j s b c e1 e2 st hb gS hR;have hj:j<n:=by omega
  refine codeAny_builtin PySem.F.entry_max_loop ?_;rw[Around.under_plainId PySem.F.plain_max_loop _];show wpAny _ A.in1 (seqItems? (.ref S) >>= _) _ _ s;refine aC (wpAny_seqItems gS rfl ?_);show wpAny _ A.in1 (tryCatch (pyNext (.ref it)) _ >>= _) _ _ s;refine aC (wpAny_tryCatch (W.item j s _ _ hj st λv h' tk hv st2 kp=>?_));have xT:=kp S _ nw gS;have up:∀a∈fp,∀o,h'.get? a=some o->(h'.update S (Obj.mapSeq λ_=>#[v,v])).get? a=some o:=λa ha o e=>(Aa _ _ (λz:S=a=>hS (z ▸ ha))).trans e;rcases hb with⟨h0,rfl⟩|⟨u,i,h0,rfl,hu⟩
  .subst h0;show wpAny _ A.in1 (updateSeq S (λ_=>#[v,v]) >>= _) _ _ _;refine aC ?_;refine wpAny_updateSeq xT rfl ?_;rw[nm];refine bN ⟨plainId_quiet PySem.F.plain_max_loop _,ih 1 _ _ _ (by omega) hj (W.frame _ _ _ st2 up) (.inr ⟨v,0,rfl,rfl,hv⟩) (Fe _ xT rfl) λv2 h2 tk2 q DK=>?_⟩;exact hR v2 h2 tk2 q λa o a1 a2 e=>DK a o a1 a2 ((Aa _ _ (Ne.symm a2)).trans (kp a o a1 e))
  .subst h0;show wpAny _ A.in1 (tryCatch (holding [v,v] (richCompare .Gt v u >>= _)) _ >>= _) _ _ _;refine aC (wpAny_tryCatch (wpAny_holding (aC (hc (i+1) (argBest bt i) v u _ _ _ hv hu ?_))));refine aC (wpAny_holding (wpAny_truthy_bool ?_));refine aC (wpAny_letGo (bN ?_));cases hb:bt (i+1) (argBest bt i) with
   |true =>
    simp only[if_true];refine aC ?_;refine wpAny_updateSeq xT rfl (aC (wpAny_letGo ?_));rw[nm];refine bN ⟨plainId_quiet PySem.F.plain_max_loop _,ih (i+1+1) _ _ _ (by omega) hj (W.frame _ _ _ st2 up) (.inr ⟨v,i+1,rfl,rfl,by unfold argBest;rw[if_pos hb];exact hv⟩) (Fe _ xT rfl) λv2 h2 tk2 q DK=>?_⟩;exact hR v2 h2 tk2 q λa o a1 a2 e=>DK a o a1 a2 ((Aa _ _ (Ne.symm a2)).trans (kp a o a1 e))
   |false =>
    simp only[Bool.false_eq_true,if_false];refine aC (wpAny_letGo ?_);rw[nm];refine bN ⟨plainId_quiet PySem.F.plain_max_loop _,ih (i+1+1) _ _ c (by omega) hj st2 (.inr ⟨u,i+1,rfl,rfl,by unfold argBest;rw[if_neg (by rw[hb];simp)];exact hu⟩) xT λv2 h2 tk2 q DK=>?_⟩;exact hR v2 h2 tk2 q λa o a1 a2 e=>DK a o a1 a2 (kp a o a1 e)
end
def zo5(a v:Value):argsOk "max" ⟨[a],[("default",v)]⟩:=by unfold argsOk;kernel_rfl
theorem zo4{l:Addr}{d:Value}(hh:A.handled=none)(hl:s.heap.IsList l (intItems xs))(h:∀v h' tk,(xs.size=0/\v=d)\/(0<xs.size/\(intItems xs)[argBest (λi j=>decide (numAt xs i>numAt xs j)) (xs.size - 1)]?=some v)->(∀b o,s.heap.get? b=some o->h'.get? b=some o)->Q v { s with heap:=h',toks:=tk }):
 wpAny (model prog w) A (call (.builtin "max") [.ref l] [("default",d)]) Q E s:=by
 have nm:(toString "max" ++ toString ".loop" : String) = "max.loop" := by decide
 refine kmk_tree PySem.F.kind_max PySem.F.plain_max PySem.F.entry_max (zo5 _ _) ?_;show wpAny _ A.in1 (Builtin.Builtins.bindParams "max" ["key", "default"] 0 ⟨[],[("default",d)]⟩ >>= _) _ _ s;refine aC (wpAny_of_eq (show Builtin.Builtins.bindParams "max" ["key", "default"] 0 ⟨[],[("default",d)]⟩=pure [none,some d] from rfl) ?_);refine aC (bN ?_);refine aC (iter_intList hl λs2 e st hfp hlI=>?_);subst e;refine aC (wpAny_newObj_type ?_);have W:=Walks.list (prog:=prog) (w:=w) (A:=A.in1) hh _ l hlI (intItems xs);have hz:(intItems xs).size=xs.size:=by simp[intItems]
 rw[nm];refine bN ⟨plainId_quiet PySem.F.plain_max_loop _,zo3 W (CmpOf.ints_gt (numAt xs) (λ_ _=>intItems_at)) (λz=>gw _ (hfp _ z)) _ 0 _ _ _ rfl (Nat.zero_le _) (W.frame _ _ _ st λb _ o e=>cN _ e) (.inl ⟨rfl,rfl⟩) (gq _ rfl) λv h' tk q kp=>?_⟩;refine h v h' tk (by rw[hz] at q;exact q) λb o e=>?_;have hb:=b7 e;refine kp b o (λz=>?_) (cW (by rw[size_push'];exact Nat.lt_succ_of_lt hb)) (cN _ (cN _ e));rw[List.mem_singleton.mp z] at hb;exact gw _ hb
noncomputable def vA(fe fd:EF):EF:=λZ S=>(fe Z S).bind λr=>(fd Z r.2).bind λq=>match r.1 with
 |.ref n=>match q.2[n]? with
  |some (.lst xs)=>(mC xs).bind λns=>if ns=[] then some q else(iK ns).map λm=>(.int m,q.2)
  |_=>none
 |_=>none
theorem zqK{kp:Pos}{d:Expr}{fd:EF}(hc:X.calm=true)(hg:Gl X "max")(hm:X.mg "max" = none)(ha:SE X e fe)(hd:SE X d fd)(he:starEach [e] X.env=[(false,eval e X.env)]):
 SE X (.Call (.Name "max" p) [e] [⟨some "default",d,kp⟩] pos) (vA fe fd):=by
 intro pz s Z H Q I h;obtain⟨σd,S,α,z,S',hv,hs,hf,kk⟩:=h;unfold vA at hf;simp only[aU] at hf;obtain⟨⟨d1,S1⟩,e1,⟨d2,S2⟩,e2,e3⟩:=hf;split at e3
 .rename_i n en;simp only at en;subst en;split at e3
  .rename_i xs ex;simp only[aU] at e3;obtain⟨ns,en,e3⟩:=e3;refine wpAny_Call_Name_kw (rA I hg hm (show bootBuiltins "max" = some (.builtin "max") by decide +kernel) ?_ (by decide) (by decide));have hst:backTo pos (starEach [e] X.env)=(false,eval e X.env)::backTo pos (starEach [] X.env):=by rw[he];rfl
   refine callWith_kw ?_ hst (by rw[hst];rfl) rfl rfl;rw[hst];refine Calls.spliced_cons (bK (ha pz s Z H (λv H1=>∃α1,aq X.K H1 α1 S1/\Ext X.K H α H1 α1/\Rep X.K H1 α1 (.ref n) v) I ⟨σd,S,α,.ref n,S1,hv,hs,e1,λw H1 α1 s1 x1 r1=>⟨α1,s1,x1,r1⟩⟩) λu1 s1 ⟨v1,H1,I1,r1,α1,st1,x1,Dc⟩=>?_);refine Calls.spliced_nil (kws_cons (bK (hd pz s1 Z H1 (λv H2=>∃α2,aq X.K H2 α2 S2/\Ext X.K H1 α1 H2 α2/\Rep X.K H2 α2 d2 v) I1 ⟨σd,S1,α1,d2,S2,hv.mono x1,st1,e2,λw H2 α2 s2 x2 r2=>⟨α2,s2,x2,r2⟩⟩) λu2 s2 ⟨v2,H2,I2,r2,α2,st2,x2,rp2⟩=>kws_nil ?_));cases Dc.mono x2 with
   |@ref _ l hl =>
    cases r1;obtain⟨ws,q,r⟩:=nQ st2 hl (.inl ex);obtain⟨its,rr,pl,hz⟩:=I2.list q;obtain⟨xs,hxs,hnn,hll⟩:=Bh (wk r rr en);refine zo4 (I2.ok.hd hc) (by rw[<-hxs];exact pl.isList) λv h' tk hv' hk=>?_;rcases hv' with⟨h0,rfl⟩|⟨h0,hv'⟩
    .rw[if_pos (List.length_eq_zero_iff.mp (by omega))] at e3;cases e3;exact⟨v2,H2,I2.kept hk,r2,kk _ _ _ st2 (x1.trans x2) rp2⟩
    .rw[if_neg (λz=>by rw[z] at hll;rw[hll] at h0;exact gw _ h0)] at e3;simp only[aR] at e3;obtain⟨m,e4,e5⟩:=e3;cases e5;obtain⟨t,rfl⟩:=intItems_at hv';exact⟨.int _,H2,I2.kept hk,⟨t,by rw[(Mf hnn hll e4).2]⟩,kk _ _ _ st2 (x1.trans x2) (.int _)⟩
  .cases e3
 .cases e3
end MX
end
section
namespace MX
open PySem PySem.Spec PyProof.Rows L2
def FnAt.mono{P:Program}{w:World}{K:FgA}{mg:Str->Option Value}{base:Heap}{j k:Nat}{x:Str}{n:Nat}{φ:GN}(h:FnAt P w K mg base j x n φ)(hjk:j<=k):FnAt P w K mg base k x n φ :=
 let ⟨f,fd,ps,a,b,c,d⟩:=h
 ⟨f,fd,ps,a,b,c,d.mono hjk⟩
def fu(names:List (Str×NameKind)):List Str:=(names.filter λy=>y.2 == .local||y.2 == .cell).map (·.1)
def mkC(st:Stmt)(fns:List (Str×Nat×GN))(blt:List Str):Ctx:={ N:=fu (aY st).names,names:=(aY st).names,sts:=fu (aY st).names,fns:=fns,blt:=blt }
def nF(N:List Str)(ds:List D):Sg:=ds.map some++List.replicate (N.length - ds.length) none
theorem Hw(r:aA K H α ds vs):bA K H α (nF N ds) (start N vs):=by
 have hl:=r.length;refine⟨by simp[nF,L2.start,hl],λi d e=>?_⟩;have hi:i<ds.length:=by
  unfold nF at e;by_cases hi:i<ds.length
  .exact hi
  .rw[Ac (by simpa using hi),List.getElem?_replicate] at e;split at e<;>cases e
 have ed:ds[i]?=some d:=by
  unfold nF at e;rw[lW (by simpa using hi),gR] at e;cases q:ds[i]? with
  |none=>rw[q] at e;cases e
  |some z=>rw[q] at e;cases e;rfl
 obtain⟨v,h1,h2⟩:=r.get ed;refine⟨v,?_,h2⟩;unfold L2.start;rw[lW (by rw[cX,<-hl];exact hi),gR,h1];rfl
def vm(r:Option (Fl×Sg×So))(z:D)(S S':So):Prop:=∃fl Z' gP,r=some (fl,Z',gP)/\(fl = .rt z\/(fl = .nx/\z = .non))/\S'=gP.take S'.length/\S.length<=S'.length/\D.lo S'.length z=true/\∀o∈S',O.lo S'.length o=true
theorem zi1(hu:∀y∈names,names.lookup y.1=some y.2)(h:x∈fu names):names.lookup x=some .local\/names.lookup x=some .cell:=by
 unfold fu at h;obtain⟨y,hy,rfl⟩:=List.mem_map.mp h;obtain⟨h1,h2⟩:=List.mem_filter.mp hy;rw[lV] at h2;have e:=hu y h1;rcases h2 with q|q
 .exact .inl (by rw[e];congr 1;simpa using q)
 .exact .inr (by rw[e];congr 1;simpa using q)
def CP(K:FgA)(n:Nat):Sp:=λvs H Q _=>∃(a:Addr) (ns:List Int),vs=[.ref a]/\qz K H a (ns.map V.int)/\ns.length<=n/\∀H',Q (.bl true) H'
end MX
end
section
namespace MX
open PySem L2
theorem GZ{nx:Nat->So->Option (Option D)}{g:GF}{t:TF}{fe:EF}{S:So}{xs:List D}(T:Sg->Prop)(p:D->Bool)(h:D->D)(hnx:∀i:Nat,nx i S=some xs[i]?)(hstep:∀d∈xs,∀τ,T τ->∃τ',g d τ S=some (τ',S)/\T τ'/\t τ' S=some (p d,S)/\(p d=true->fe τ' S=some (h d,S))):
 ∀(n i:Nat) (τ:Sg) (acc:List D),T τ->i+n=xs.length->jo nx g t fe n i τ S acc=some (acc++((xs.drop i).filter p).map h,S)
 |0,i,τ,acc,hT,hl=>by unfold jo;rw[hnx,kh (by omega),List.drop_of_length_le (by omega)];simp
 |n+1,i,τ,acc,hT,hl=>by
  have hi:i<xs.length:=by omega
  unfold jo;rw[hnx,fM hi,List.drop_eq_getElem_cons hi];obtain⟨τ',h1,h2,h3,h4⟩:=hstep xs[i] (List.getElem_mem hi) τ hT;simp only[h1,bM,h3];cases hp:p xs[i] with
  |false =>
   simp only[Bool.false_eq_true,if_false];rw[GZ T p h hnx hstep n (i+1) τ' acc h2 (by omega),List.filter_cons_of_neg (by simp[hp])]
  |true =>
   simp only[if_true,h4 hp,bM];rw[GZ T p h hnx hstep n (i+1) τ' _ h2 (by omega),List.filter_cons_of_pos hp];simp
theorem GX{nx:Nat->So->Option (Option D)}{g:GF}{f:SF}{xs:List D}(P:Nat->Sg->So->Prop)(hnx:∀(i:Nat) Z S,P i Z S->nx i S=some xs[i]?)(hstep:∀(i:Nat) d Z S,xs[i]?=some d->P i Z S->∃σ1 S1 fl σ2 S2,g d Z S=some (σ1,S1)/\f σ1 S1=some (fl,σ2,S2)/\(fl = .nx\/fl = .ct)/\P (i+1) σ2 S2):
 ∀(n i:Nat) (Z:Sg) (S:So),P i Z S->i+n=xs.length->∃Z' S',jw nx g f n i Z S=some (.nx,Z',S')/\P xs.length Z' S'
 |0,i,Z,S,hP,hl=>by
  unfold jw;rw[hnx i Z S hP,kh (by omega)];have:i=xs.length:=by omega
  subst this;exact⟨Z,S,rfl,hP⟩
 |n+1,i,Z,S,hP,hl=>by
  have hi:i<xs.length:=by omega
  unfold jw;rw[hnx i Z S hP,fM hi];obtain⟨σ1,S1,fl,σ2,S2,h1,h2,h3,h4⟩:=hstep i xs[i] Z S (fM hi) hP;obtain⟨Z',S',e1,e2⟩:=GX P hnx hstep n (i+1) σ2 S2 h4 (by omega);refine⟨Z',S',?_,e2⟩;simp only[h1,bM,h2];rcases h3 with rfl|rfl<;>exact e1
def Mw(ns:List Int):mC (ns.map D.int)=some ns:=by
 induction ns with
 |nil=>rfl
 |cons n r ih=>simp[mC,ih]
end MX
end
section
namespace MX
open PySem PySem.Spec PyProof.Rows L2
def iH(n:Nat)(ds:List D):Sg:=ds.map some++List.replicate (n - ds.length) none
open Classical in
noncomputable def fnOf(n:Nat)(fb:SF):GN:=λds S=>match fb (iH n ds) S with
 |some (.rt z,_,gP)=>if gP.take S.length=S/\D.lo S.length z=true then some (z,S) else if S.length<=gP.length/\D.lo gP.length z=true/\WF gP then some (z,gP) else none
 |some (.nx,_,gP)=>if gP.take S.length=S then some (.non,S) else if S.length<=gP.length/\WF gP then some (.non,gP) else none
 |_=>none
theorem Hs(hn:N.length=n){z:D}(hS:WF S)(h:fnOf n fb ds S=some (z,S')):vm (fb (nF N ds) S) z S S':=by
 have e0:nF N ds=iH n ds:=by unfold nF iH;rw[hn]
 rw[e0];unfold fnOf at h;split at h
 .rename_i z' Z' gP e;split at h
  .rename_i hc;cases h;exact⟨_,_,_,e,.inl rfl,hc.1.symm,bT _,hc.2,hS⟩
  .split at h
   .rename_i hc;cases h;exact⟨_,_,_,e,.inl rfl,by simp,hc.1,hc.2.1,hc.2.2⟩
   .cases h
 .rename_i Z' gP e;split at h
  .rename_i hc;cases h;exact⟨_,_,_,e,.inr ⟨rfl,rfl⟩,hc.symm,bT _,by simp[D.lo],hS⟩
  .split at h
   .rename_i hc;cases h;exact⟨_,_,_,e,.inr ⟨rfl,rfl⟩,by simp,hc.1,by simp[D.lo],hc.2⟩
   .cases h
 .cases h
theorem bY{z:D}(h:fb (iH n ds) S=some (.rt z,Z',S'))(hS:S'.take S.length=S)(hz:D.lo S.length z=true):fnOf n fb ds S=some (z,S):=by unfold fnOf;rw[h];simp only;rw[if_pos ⟨hS,hz⟩]
theorem WL(h:fb (iH n ds) S=some (.nx,Z',S'))(hS:S'.take S.length=S):fnOf n fb ds S=some (.non,S):=by unfold fnOf;rw[h];simp only;rw[if_pos hS]
theorem uw{z:D}(h:fb (iH n ds) S=some (.rt z,Z',S'))(hne:¬(S'.take S.length=S/\D.lo S.length z=true))(hl:S.length<=S'.length)(hz:D.lo S'.length z=true)(hw:WF S'):fnOf n fb ds S=some (z,S'):=by unfold fnOf;rw[h];simp only;rw[if_neg hne,if_pos ⟨hl,hz,hw⟩]
def cV(K:FgA)(x:Str)(st:Stmt):Prop:=∃f fd,PySem.W.nsIn K mainGlobals x=some (some (.ref f))/\n8 K x x st f fd
def cV.mk'{oc:Value}{od an:Option Addr}{kV doc pm ct:Value}(a:PySem.W.nsIn K mainGlobals x=some (some (.ref f)))(l:K.lookup f=some ⟨oc,od,.func (PySem.W.fnOf x x (mF st) (fV st) (aY st) .none kV doc pm an cdv ct),osl⟩)(c:PySem.W.codeIn K cdv x=true)(k:PySem.W.keepIn K (.ref f)=true):cV K x st:=⟨f,_,a,RJ l c k⟩
def bO(P:Program)(w:World)(K:FgA)(mg:Str->Option Value)(base:Heap)(k:Nat)(fns:List (Str×Nat×GN)):Prop:=∀y n ψ,fns.lookup y=some (n,ψ)->FnAt P w K mg base k y n ψ
section
variable {P:Program}{w:World}{K:FgA}{mg:Str->Option Value}{base h:Heap}
def bO.nil:bO P w K mg base k []:=λ_ _ _ e=>by cases e
theorem bO.snoc{φ:GN}(hs:bO P w K mg base k fns)(h:FnAt P w K mg base (k+1) x n φ):bO P w K mg base (k+1) ((x,n,φ)::fns):=λy m ψ e=>by
 rw[iZ] at e;split at e
 .rename_i q;cases e;have:y=x:=by simpa using q
  subst this;exact h
 .exact(hs y m ψ e).mono (Nat.le_succ _)
def mz(x:Str)(st:Stmt)(ps:List Str):Prop:=∀(kV doc pm:Value) (an:Option Addr) (cdv ct:Value) (us:List Value),us.length=ps.length->bindArgs (PySem.W.fnOf x x (mF st) (fV st) (aY st) .none kV doc pm an cdv ct) ⟨us,[]⟩=pure (ps.zip us)
theorem xq{us:List Value}(h:us.length=n+1):∃a r,us=a::r/\r.length=n:=by
 cases us with
 |nil=>simp at h
 |cons a r=>exact⟨a,r,rfl,by simpa using h⟩
def all1{P:List Value->Prop}(h:∀a,P [a])(us:List Value)(hl:us.length=1):P us:=by obtain⟨a,rfl⟩:=List.length_eq_one_iff.mp hl;exact h a
theorem vJ{P:List Value->Prop}(h:∀a b,P [a,b])(us:List Value)(hl:us.length=2):P us:=by obtain⟨a,r,rfl,e⟩:=xq hl;exact all1 (P:=λr=>P (a::r)) (h a) r e
theorem Ep{P:List Value->Prop}(h:∀a b c,P [a,b,c])(us:List Value)(hl:us.length=3):P us:=by obtain⟨a,r,rfl,e⟩:=xq hl;exact vJ (P:=λr=>P (a::r)) (h a) r e
theorem Eo{P:List Value->Prop}(h:∀a b c d,P [a,b,c,d])(us:List Value)(hl:us.length=4):P us:=by obtain⟨a,r,rfl,e⟩:=xq hl;exact Ep (P:=λr=>P (a::r)) (h a) r e
def zuC{p0:Str}(h:∀(kV doc pm:Value) (an:Option Addr) (cdv ct:Value) (u0:Value),bindArgs (PySem.W.fnOf x x (mF st) (fV st) (aY st) .none kV doc pm an cdv ct) ⟨[u0],[]⟩=pure ([p0].zip [u0])):mz x st [p0]:=λkV doc pm an cdv ct=>all1 (h kV doc pm an cdv ct)
def bind2{p0:Str}(h:∀(kV doc pm:Value) (an:Option Addr) (cdv ct:Value) (u0 u1:Value),bindArgs (PySem.W.fnOf x x (mF st) (fV st) (aY st) .none kV doc pm an cdv ct) ⟨[u0,u1],[]⟩=pure ([p0,p1].zip [u0,u1])):mz x st [p0,p1]:=λkV doc pm an cdv ct=>vJ (h kV doc pm an cdv ct)
def bind3{p0 p2:Str}(h:∀(kV doc pm:Value) (an:Option Addr) (cdv ct:Value) (u0 u1 u2:Value),bindArgs (PySem.W.fnOf x x (mF st) (fV st) (aY st) .none kV doc pm an cdv ct) ⟨[u0,u1,u2],[]⟩=pure ([p0,p1,p2].zip [u0,u1,u2])):mz x st [p0,p1,p2]:=λkV doc pm an cdv ct=>Ep (h kV doc pm an cdv ct)
def bind4{p0 p2 p3:Str}(h:∀(kV doc pm:Value) (an:Option Addr) (cdv ct:Value) (u0 u1 u2 u3:Value),bindArgs (PySem.W.fnOf x x (mF st) (fV st) (aY st) .none kV doc pm an cdv ct) ⟨[u0,u1,u2,u3],[]⟩=pure ([p0,p1,p2,p3].zip [u0,u1,u2,u3])):mz x st [p0,p1,p2,p3]:=λkV doc pm an cdv ct=>Eo (h kV doc pm an cdv ct)
def qM(K:FgA)(x:Str)(st:Stmt)(c:Addr):Prop:=∃f fd,PySem.W.nsIn K mainGlobals x=some (some (.ref f))/\n8 K x x st f fd/\fd.code = .ref c
def zm1{blt:List Str}(KX:K.In h)(G:h.Ns mainGlobals mg)(hz:∀y∈blt,PySem.W.nsIn K mainGlobals y=some none):∀y∈blt,mg y=none:=λy hy=>PySem.W.mg_none_of KX G (hz y hy)
end
end MX
end
section
namespace MX
open PySem PySem.Spec PySem.W PyProof.Rows L2
theorem Xh:∀(os:List Obj) (b a:Nat) (o:Obj),(qW os b).lookup a=some o->b<=a/\os[a - b]?=some o/\qQ a o=true
 |[],_,_,_,e=>by cases e
 |o'::r,b,a,o,e=>by
  have low:(qW r (Nat.succ b)).lookup a=some o->b<=a/\(o'::r)[a - b]?=some o/\qQ a o=true:=λe=>by
   obtain⟨h1,h2,h3⟩:=Xh r (Nat.succ b) a o e;refine⟨by omega,?_,h3⟩;have:a - b=(a - Nat.succ b)+1:=by omega
   rw[this,List.getElem?_cons_succ];exact h2
  unfold qW at e;cases q:qQ b o' with
  |false=>rw[q] at e;exact low e
  |true =>
   rw[q] at e;simp only[cond_true,iZ] at e;cases z:a==b with
   |false=>rw[z] at e;exact low e
   |true =>
    rw[z] at e;cases e;have z':a=b:=by simpa using z
    subst z';exact⟨bT _,by rw[Nat.sub_self];rfl,q⟩
theorem zkU(h:Heap):(iQ h).In h:=λa o e=>by obtain⟨_,h2,h3⟩:=Xh _ _ _ _ e;rw[Nat.sub_zero,Array.getElem?_toList] at h2;unfold Heap.get?;rw[h2];obtain⟨c,d,dt,sl⟩:=o;cases dt<;>first|rfl|(exact absurd h3 (by intro z;cases z))
def JH(s:Stmt):dA s=mF s:=by cases s<;>rfl
def JK(s:Stmt):dB s=fV s:=by cases s<;>rfl
def JL(s:Stmt):dS s=aY s:=by cases s<;>rfl
theorem cV.of_seen(h:Al K x=some (dA st,dB st,dS st,true)):cV K x st:=by
 rw[JH,JK,JL] at h;unfold Al at h;split at h
 .rename_i f a;split at h
  .rename_i oc od n q ps b sc g kV doc pm an cd ct bn osl l;simp only[Option.some.injEq,Prod.mk.injEq,cG,beq_iff_eq] at h;obtain⟨e1,e2,e3,e4,e5,e6,e7,e8,e9⟩:=h;have e6:=Nat.eq_of_beq_eq_true e6;have e7:=Nat.eq_of_beq_eq_true e7;subst e1 e2 e3 e4 e5 e6 e7;exact cV.mk' a l e8 e9
  .cases h
 .cases h
theorem zhj(D:cV K x st)(e:Gd K h x=(some (tabObj #[]),true)):
 ∃c Pt:Addr,qM K x st c/\codeHdIn K c Pt=true/\K.lookup Pt=none/\h.get? Pt=some (tabObj #[]):=by
 obtain⟨f,fd,a,F⟩:=D;unfold Gd at e;rw[a] at e;simp only at e;split at e
 .rename_i oc od F' osl l;split at e
  .rename_i c hc;split at e
   .rename_i c1 d1 vs s1 lc;split at e
    .rename_i Pt hv;simp only[Prod.mk.injEq,cG] at e;obtain⟨e1,e2,e3⟩:=e;refine⟨c,Pt,⟨f,fd,a,F,?_⟩,e2,?_,e1⟩
     .obtain⟨oc',od',kV,doc,pm,an,cdv,ct,osl',hfd,hl,_⟩:=F.ex;rw[l] at hl;cases hl;exact hc
     .cases q:K.lookup Pt with
      |none=>rfl
      |some o=>rw[q] at e3;cases e3
    .cases e
   .cases e
  .cases e
 .cases e
end MX
end
section
namespace MX
open PySem PySem.Spec PyProof.Rows L2
structure CE where
 flds:List (Str×Str):=[]
 mths:List (Str×Str×Nat×GN):=[]
 mks:List (Str×Nat×GN):=[]
 gls:List (Str×Str):=[]
def Et(P:Program)(w:World)(K:FgA)(mg:Str->Option Value)(base:Heap)(k:Nat)(C m:Str)(n:Nat)(φ:GN):Prop :=
 ∃f fd ps,je K (cj K C)/\tO K (cj K C) m f/\Binds K fd ps []/\bR P w K mg base fU k f fd ps (t8 K n φ)
def QX(P:Program)(w:World)(K:FgA)(mg:Str->Option Value)(base:Heap)(k:Nat)(C:Str)(n:Nat)(φ:GN):Prop :=
 ∃f fd ps j,j+1<=k/\mg C=some (.ref (cj K C))/\Mk K (cj K C) f/\Binds K fd ps []/\bR P w K mg base fU j f fd ps (t8 K n φ)
structure dX(P:Program)(w:World)(K:FgA)(mg:Str->Option Value)(base:Heap)(k:Nat)(E:CE):Prop where
 flds:∀f C,E.flds.lookup f=some C->je K (cj K C)/\dW K (cj K C) f
 mths:∀m C n φ,E.mths.lookup m=some (C,n,φ)->Et P w K mg base k C m n φ
 mks:∀C n φ,E.mks.lookup C=some (n,φ)->QX P w K mg base k C n φ
 gls:∀x y,E.gls.lookup x=some y->∃t,mg x=some (.str y t)
section
variable {P:Program}{w:World}{K:FgA}{mg:Str->Option Value}{base h:Heap}
theorem dX.mono{j k:Nat}{E:CE}(e:dX P w K mg base j E)(hjk:j<=k):dX P w K mg base k E:=⟨e.flds,λm C n φ q=>by
 obtain⟨f,fd,ps,a,b,c,d⟩:=e.mths m C n φ q;exact⟨f,fd,ps,a,b,c,d.mono hjk⟩,λC n φ q=>by
 obtain⟨f,fd,ps,i,hi,a,b,c,d⟩:=e.mks C n φ q;exact⟨f,fd,ps,i,Nat.le_trans hi hjk,a,b,c,d⟩,e.gls⟩
noncomputable def lE(st:Stmt)(fns:List (Str×Nat×GN))(blt:List Str)(E:CE):Ctx:={ mkC st fns blt with flds:=E.flds,mths:=E.mths,mks:=E.mks,gls:=E.gls }
theorem G3{CX:m7}{blt:List Str}{E:CE}(S:jJ (fu (aY st).names) ps (aY st))(hu:(aY st).names.all (λy=>decide ((aY st).names.lookup y.1=some y.2))=true)(xO:bO P w K mg base k fns)(dj:∀y∈blt,mg y=none)(hE:dX P w K mg base k E){E':XK}(hr:aV k (A.deeper (envOfC qual (aY st) s.heap.objs.size f cdv))):
 d9 (lE st fns blt E) (kE CX P w K mg base (fu (aY st).names) qual (aY st) f cdv A outer s H E')/\d9 (lE st fns blt E) (kE CX P w K mg base (fu (aY st).names) qual (aY st) f cdv A outer s H E').nox:=by
 constructor
 all_goals
  refine⟨rfl,S.nd,rfl,S.kind,λy hy=>?_,λy n ψ q=>?_,dj,rfl,hr.units,λ_ _ _ h=>(nomatch h),λ_ _ _ h=>(nomatch h),λ_ _ _ _ _ h=>(nomatch h),λ_ _ _ _ _ _ h=>(nomatch h),hE.gls,λg C q=>⟨(hE.flds g C q).1,(hE.flds g C q).2⟩,λy C n ψ q=>?_,λC n ψ q=>?_⟩
  .rw[List.all_eq_true] at hu;exact⟨zi1 (λz hz=>of_decide_eq_true (hu z hz)) hy,.inl rfl⟩
  .obtain⟨f',fd',ps',a,b,c,d⟩:=xO y n ψ q;exact⟨f',fd',ps',k,a,b,c,d,hr⟩
  .obtain⟨f',fd',ps',a,b,c,d⟩:=hE.mths y C n ψ q;exact⟨f',fd',ps',k,a,b,c,d,hr⟩
  .obtain⟨f',fd',ps',j,hj,a,b,c,d⟩:=hE.mks C n ψ q;exact⟨f',fd',ps',j,a,b,c,d,hr.mono hj⟩
theorem Lb{blt:List Str}{E:CE}{φ:GN}(F:n8 K x qual st f fd)(S:jJ (fu (aY st).names) ps (aY st))(hu:(aY st).names.all (λy=>decide ((aY st).names.lookup y.1=some y.2))=true)(xO:∀y n ψ,fns.lookup y=some (n,ψ)->FnAt P w K mg base k y n ψ)(dj:∀y∈blt,mg y=none)(hE:dX P w K mg base k E)(hb:jq m (lE st fns blt E) (fV st)=some fb)(hφ:∀ds S₀ z S',WF S₀->ds.length=ps.length->φ ds S₀=some (z,S')->vm (fb (nF (fu (aY st).names) ds) S₀) z S₀ S'):
 bR P w K mg base fU (k+1) f fd ps (t8 K ps.length φ):=by
 refine F.ok S (λvs H Q E h=>h.1) (λcdv A outer s H vs Q E' hr h=>?_);obtain⟨hlen,S₀,α,ds,z,S',hs,r,e,kk⟩:=h;have ok:=(G3 (CX:=fU) (P:=P) (w:=w) (qual:=qual) (f:=f) (cdv:=cdv) (outer:=outer) (H:=H) (E':=E') S hu xO dj hE hr).2;refine⟨Dh K fb,(Bp m _ _ ok PassesOwn.never).2 _ fb hb,?_⟩;obtain⟨fl,Z',gP,e1,e2,e3,e4,e5,e6⟩:=hφ ds S₀ z S' hs.wf (by rw[r.length];exact hlen) e;refine⟨_,S₀,α,fl,Z',gP,Hw r,hs,e1,λσ2 H2 α2 v2 s2 x2=>?_⟩;have s3:aq K H2 (α2.take S'.length) S':=by have:=s2.cut S'.length (by rw[<-e3];exact e6);rw[<-e3] at this;exact this
 have x3:Ext K H α H2 (α2.take S'.length):=⟨x2.tups,λn a q=>by
  have hn:n<S'.length:=by have:=(fj.mp q).1;rw[hs.len] at this;omega
  rw[List.getElem?_take_of_lt hn];exact x2.pre n a q,x2.insts⟩
 rcases e2 with rfl|⟨rfl,rfl⟩
 .exact λv rv=>kk v H2 _ s3 x3 (rv.cut _ e5)
 .exact kk .non H2 _ s3 x3 .non
def fZ(K:FgA)(C m:Str)(st:Stmt):Prop:=∃f fd,tO K (cj K C) m f/\n8 K m (C ++ "." ++ m) st f fd
def vp(C m:Str)(st:Stmt)(ps:List Str):Prop:=∀(kV doc pm:Value) (an:Option Addr) (cdv ct:Value) (us:List Value),us.length=ps.length->bindArgs (PySem.W.fnOf m (C ++ "." ++ m) (mF st) (fV st) (aY st) .none kV doc pm an cdv ct) ⟨us,[]⟩=pure (ps.zip us)
theorem zmI{blt:List Str}{E:CE}(hs:bO P w K mg base k fns)(hE:dX P w K mg base k E)(KX:K.In h)(G:h.Ns mainGlobals mg)(dj:∀y∈blt,mg y=none)(hD:cV K x st)(hb0:mz x st ps)(S:jJ (fu (aY st).names) ps (aY st))(hu:(aY st).names.all (λy=>decide ((aY st).names.lookup y.1=some y.2))=true)(hn:(fu (aY st).names).length=n)(hb:jq m (lE st fns blt E) (fV st)=some fb):bO P w K mg base (k+1) ((x,ps.length,fnOf n fb)::fns):=by obtain⟨f,fd,a,F⟩:=hD;exact hs.snoc ⟨f,fd,ps,PySem.W.mg_of KX G a,F.kp,F.binds hb0,Lb F S hu hs dj hE hb λds S₀ z S' hw _ e=>Hs hn hw e⟩
theorem V7{C:Str}{blt:List Str}{E:CE}(hs:bO P w K mg base k fns)(hE:dX P w K mg base k E)(hc:je K (cj K C))(dj:∀y∈blt,mg y=none)(hD:fZ K C x st)(hb0:vp C x st ps)(S:jJ (fu (aY st).names) ps (aY st))(hu:(aY st).names.all (λy=>decide ((aY st).names.lookup y.1=some y.2))=true)(hn:(fu (aY st).names).length=n)(hb:jq m (lE st fns blt E) (fV st)=some fb):dX P w K mg base (k+1) { E with mths:=(x,C,ps.length,fnOf n fb)::E.mths }:=by
 obtain⟨f,fd,a,F⟩:=hD;have e2:=hE.mono (Nat.le_succ k);refine⟨e2.flds,λy C' j ψ e=>?_,e2.mks,e2.gls⟩;have e:((x,C,ps.length,fnOf n fb)::E.mths).lookup y=some (C',j,ψ):=e;rw[iZ] at e;split at e
 .rename_i q;cases e;have:y=x:=by simpa using q
  subst this;exact⟨f,fd,ps,hc,a,F.binds hb0,Lb F S hu hs dj hE hb λds S₀ z S' hw _ e=>Hs hn hw e⟩
 .exact e2.mths y C' j ψ e
theorem U5{C:Str}{blt:List Str}{E:CE}(hs:bO P w K mg base k fns)(hE:dX P w K mg base k E)(dj:∀y∈blt,mg y=none)(hm:mg C=some (.ref (cj K C)))(hD:∃f fd,Mk K (cj K C) f/\n8 K "__init__" (C ++ ".__init__") st f fd)(hb0:∀(kV doc pm:Value) (an:Option Addr) (cdv ct:Value) (us:List Value),us.length=ps.length->bindArgs (PySem.W.fnOf "__init__" (C ++ ".__init__") (mF st) (fV st) (aY st) .none kV doc pm an cdv ct) ⟨us,[]⟩=pure (ps.zip us))(S:jJ (fu (aY st).names) ps (aY st))(hu:(aY st).names.all (λy=>decide ((aY st).names.lookup y.1=some y.2))=true)(hn:(fu (aY st).names).length=n)(hb:jq m (lE st fns blt E) (fV st)=some fb):dX P w K mg base (k+2) { E with mks:=(C,ps.length,fnOf n fb)::E.mks }:=by
 obtain⟨f,fd,a,F⟩:=hD;have e2:=hE.mono (Nat.le_add_right k 2);refine⟨e2.flds,e2.mths,λy j ψ e=>?_,e2.gls⟩;have e:((C,ps.length,fnOf n fb)::E.mks).lookup y=some (j,ψ):=e;rw[iZ] at e;split at e
 .rename_i q;cases e;have:y=C:=by simpa using q
  subst this;exact⟨f,fd,ps,k+1,bT _,hm,a,F.binds hb0,Lb F S hu hs dj hE hb λds S₀ z S' hw _ e=>Hs hn hw e⟩
 .exact e2.mks y j ψ e
def bO.mono{j k:Nat}{fns:List (Str×Nat×GN)}(hs:bO P w K mg base j fns)(h:j<=k):bO P w K mg base k fns:=λy n ψ e=>(hs y n ψ e).mono h
end
end MX
end
section
namespace MX
open PySem PySem.Spec PySem.W PyProof.Rows L2
noncomputable def Dz(c:Ctx)(q:Str)(names:List (Str×NameKind)):Ctx:={ N:=q::nG names,names:=names,sts:=[],fns:=[],blt:=[],flds:=c.flds }
noncomputable def X5(m:Nat)(c:Ctx)(q0:Str)(e value:Expr):Option EF:=match value with
 |.Lambda params body scope _=>match Jh params with
  |none=>none
  |some (q,_)=>if q=q0/\DG c q scope=true then(cE m c e).bind λfe=>(oY c (nG scope.names)).bind λsrc=>(cE m (Dz c q scope.names) body).map λfb=>yc fe src fb else none
 |_=>none
noncomputable def Jg:List Expr->List Keyword->Option (Expr×Option Str×Expr)
 |[e],[k]=>if jh e=true then some (e,k.arg,k.value) else none
 |_,_=>none
theorem zi4{v:Expr}{a:Option Str}(h:Jg es ks=some (e,a,v)):es=[e]/\jh e=true/\∃kp,ks=[⟨a,v,kp⟩]:=by
 unfold Jg at h;split at h
 .rename_i e' k;split at h
  .rename_i hs;obtain⟨a',v',kp⟩:=k;cases h;exact⟨rfl,hs,kp,rfl⟩
  .cases h
 .cases h
noncomputable def Qk(m:Nat)(c:Ctx)(q0 x:Str)(es:List Expr)(ks:List Keyword):Option EF:=(Jg es ks).bind λr =>
 if c.names.lookup x=some .globalImplicit/\x∈c.blt then
  if x = "max" /\ r.2.1=some "default" then(cE m c r.1).bind λfe=>(cE m c r.2.2).map λfd=>vA fe fd
  else if x = "sorted" /\ r.2.1=some "key" then X5 m c q0 r.1 r.2.2 else none
 else none
section
variable {c:Ctx}{X:Cx}
theorem zlY{q0:Str}{f:EF}{Pt ct:Addr}(ok:d9 c X)(L:vL X Pt ct)(hr:aV (k+3) X.A)(hbind:∀(ap:Pos) (body:Expr) (scope:Scope) (pm cdv ctv:Value) (clos:List (Str×Addr)) (qual:Str) (u:Value),bindArgs (kla_fn "<lambda>" qual (Aj q0 ap) body scope clos pm cdv ctv) ⟨[u],[]⟩=pure [(q0,u)])(h:Qk m c q0 x es ks=some f):SE X (.Call (.Name x p) es ks pos) f:=by
 unfold Qk at h;rw[aU] at h;obtain⟨⟨e,a,v⟩,e0,h⟩:=h;obtain⟨rfl,hk2,kp,rfl⟩:=zi4 e0;dsimp only at h;split at h
 .rename_i hc;obtain⟨h1,h2⟩:=hc;have Yq:X.env.scope.names.lookup x=some .globalImplicit:=by rw[ok.names];exact h1
  split at h
  .rename_i hc;obtain⟨rfl,rfl⟩:=hc;simp only[aU,aR] at h;obtain⟨fe,e1,fd,e2,rfl⟩:=h;exact zqK ok.calm Yq (ok.blt _ h2) ((jA m).1 c X e fe ok e1) ((jA m).1 c X v fd ok e2) (by rw[ig hk2];rfl)
  .split at h
   .rename_i hc;obtain⟨rfl,rfl⟩:=hc;unfold X5 at h;cases v with
    |Lambda params body scope aW =>
     simp only at h;split at h
     .cases h
     .rename_i q' ap eo;have eo:=zi3 eo;split at h
      .rename_i hc;obtain⟨rfl,h3⟩:=hc;simp only[aU,aR] at h;obtain⟨fe,e1,src,e2,fb,e3,rfl⟩:=h;subst eo;unfold DG at h3;simp only[cG,tL,Bool.not_eq_true',List.all_eq_true] at h3;obtain⟨⟨⟨⟨⟨⟨⟨k1,k2⟩,k3⟩,k4⟩,k5⟩,k6⟩,k7⟩,k8⟩:=h3;obtain⟨s1,s2⟩:=Lg e2;refine zr9 (q:=q') (cap:=nG scope.names) (k:=k) L ⟨k1,k2,k3,k4,k5⟩ k6 (λy hy=>Sw hy) (λy hy hf=>?_) (λi y hi=>?_) s1 (zo0 _) (λpm cdv ctv clos qual u=>hbind ap body scope pm cdv ctv clos qual u) (λbase M a cdv clos qual A outer s H E hrm=>?_) hr Yq (ok.blt _ h2) ((jA m).1 c X e fe ok e1) (by rw[ig hk2];rfl)
       .show X.env.scope.names.lookup y.1=_;rw[ok.names];exact k7 y hy hf
       .obtain⟨j,j1,j2⟩:=s2 i y hi;exact⟨j,j1,by rw[ok.N];exact j2⟩
       .exact(jA m).1 (Dz c q' scope.names) _ body fb ⟨rfl,k8,rfl,k1,λy hy=>(nomatch hy),λ_ _ _ h=>(nomatch h),λy hy=>(nomatch hy),rfl,hrm.units,λ_ _ _ h=>(nomatch h),λ_ _ _ h=>(nomatch h),λ_ _ _ _ _ h=>(nomatch h),λ_ _ _ _ _ _ h=>(nomatch h),λ_ _ h=>(nomatch h),λg C q=>⟨(ok.flds g C q).cls,(ok.flds g C q).no⟩,λ_ _ _ _ h=>(nomatch h),λ_ _ _ h=>(nomatch h)⟩ e3
      .cases h
    |_=>cases h
   .cases h
 .cases h
end
def O.isT(x:Str):O->Bool
 |.tbl y=>decide (y=x)
 |_=>false
def jd(x:Str)(S:So):Bool:=S.any (O.isT x)
theorem zpm(hs:aq K H α S)(h:jd x S=true):∃ps,H (gY K x)=some (.tbl ps):=by
 unfold jd at h;rw[List.any_eq_true] at h;obtain⟨o,ho,e⟩:=h;obtain⟨n,hn,rfl⟩:=List.mem_iff_getElem.mp ho;have hn':n<α.length:=by rw[hs.len];exact hn
 have ob:=hs.obj n S[n] α[n] (fM hn) (fM hn');cases q:S[n] with
 |tbl y =>
  rw[q] at e ob;have e:y=x:=of_decide_eq_true e;subst e;obtain⟨h0,ps,h1⟩:=ob;exact⟨ps,by rw[<-h0];exact h1⟩
 |_=>rw[q] at e;cases e
def sy(m:Nat)(st:Stmt)(fns:List (Str×Nat×GN))(blt:List Str)(E:CE)(q0:Str):Ctx:={ lE st fns blt E with kwx:=Qk m (lE st fns blt E) q0 }
def oM(x:Str)(n:Nat)(fb:SF):GN:=λds S=>if jd x S=true then fnOf n fb ds S else none
section
variable {P:Program}{w:World}{K:FgA}{mg:Str->Option Value}{base h:Heap}
theorem Ux{q0:Str}{blt:List Str}{E:CE}{c:Addr}(hs:bO P w K mg base k fns)(hE:dX P w K mg base k E)(KX:K.In h)(G:h.Ns mainGlobals mg)(dj:∀y∈blt,mg y=none)(hD:qM K x st c)(hC:CodeHd base c (gY K x))(hB:BM base mg)(hb0:mz x st ps)(S:jJ (fu (aY st).names) ps (aY st))(hu:(aY st).names.all (λy=>decide ((aY st).names.lookup y.1=some y.2))=true)(hbind:∀(ap:Pos) (body:Expr) (scope:Scope) (pm cdv ctv:Value) (clos:List (Str×Addr)) (qual:Str) (u:Value),bindArgs (kla_fn "<lambda>" qual (Aj q0 ap) body scope clos pm cdv ctv) ⟨[u],[]⟩=pure [(q0,u)])(hn:(fu (aY st).names).length=n)(hb:jq m (sy m st fns blt E q0) (fV st)=some fb):bO P w K mg base (k+4) ((x,ps.length,oM x n fb)::fns):=by
 obtain⟨f,fd,a,F,hcode⟩:=hD;refine(hs.mono (Nat.le_add_right k 3)).snoc ⟨f,fd,ps,PySem.W.mg_of KX G a,F.kp,F.binds hb0,?_⟩;obtain⟨oc,od,kV,doc,pm,an,lq,ct,osl,rfl,lk,pF⟩:=F.ex;refine Ao lk pF S (λvs H Q E h=>h.1) (λA outer s H vs Q E' hr h=>?_);obtain⟨hlen,S₀,α,ds,z,S',hst,r,e,kk⟩:=h;unfold oM at e;split at e
 .rename_i hT;have ok0:=(G3 (CX:=fU) (P:=P) (w:=w) (K:=K) (mg:=mg) (base:=base) (qual:=x) (f:=f) (E':=E') (outer:=outer) (H:=H) (cdv:=lq) S hu hs dj hE (hr.mono (Nat.le_add_right k 3))).2;have L:vL (kE fU P w K mg base (fu (aY st).names) x (aY st) f lq A outer s H E').nox (gY K x) c:=⟨λ_=>rfl,zpm hst hT,hcode,hC,hB⟩
  have ok:d9 (sy m st fns blt E q0) (kE fU P w K mg base (fu (aY st).names) x (aY st) f lq A outer s H E').nox :=
   ⟨ok0.N,ok0.nd,ok0.names,ok0.kind,ok0.st,ok0.fns,ok0.blt,ok0.calm,ok0.un,ok0.lf,λ_ _ _ h=>(nomatch h),ok0.ext,λy es ks g p pos q=>zlY ok0 L hr hbind q,ok0.gls,ok0.flds,ok0.mths,ok0.mks⟩
  refine⟨Dh K fb,((Bp m _ _ ok PassesOwn.never).2 _ fb hb).nox,?_⟩;obtain⟨fl,Z',gP,e1,e2,e3,e4,e5,e6⟩:=Hs hn hst.wf e;refine⟨_,S₀,α,fl,Z',gP,Hw r,hst,e1,λσ2 H2 α2 v2 s2 x2=>?_⟩;have s3:aq K H2 (α2.take S'.length) S':=by have:=s2.cut S'.length (by rw[<-e3];exact e6);rw[<-e3] at this;exact this
  have x3:Ext K H α H2 (α2.take S'.length):=⟨x2.tups,λn a q=>by
   have hn:n<S'.length:=by have:=(fj.mp q).1;rw[hst.len] at this;omega
   rw[List.getElem?_take_of_lt hn];exact x2.pre n a q,x2.insts⟩
  rcases e2 with rfl|⟨rfl,rfl⟩
  .exact λv rv=>kk v H2 _ s3 x3 (rv.cut _ e5)
  .exact kk .non H2 _ s3 x3 .non
 .cases e
theorem zmH(hs:bO P w K mg base k fns)(KX:K.In h)(G:h.Ns mainGlobals mg)(hD:cV K x st)(hb0:mz x st ps):bO P w K mg base k ((x,ps.length,λ_ _=>none)::fns):=by
 obtain⟨f,fd,a,F⟩:=hD;intro y n ψ e;rw[iZ] at e;split at e
 .rename_i q;cases e;have:y=x:=by simpa using q
  subst this;refine⟨f,fd,ps,PySem.W.mg_of KX G a,F.kp,F.binds hb0,⟨λvs H Q E h=>?_,λA outer s H args us vs Q E _ _ _ _ h=>?_⟩⟩
  .obtain⟨_,S,α,ds,z,S',_,_,e,_⟩:=h;cases e
  .obtain⟨_,S,α,ds,z,S',_,_,e,_⟩:=h;cases e
 .exact hs y n ψ e
end
theorem Xa:∀(os:List Obj) (b a:Nat) (o:Obj),b<=a->os[a - b]?=some o->qQ a o=true->(qW os b).lookup a=some o
 |[],_,_,_,_,e,_=>by simp at e
 |o'::r,b,a,o,hb,e,hk=>by
  unfold qW;by_cases hab:a=b
  .subst hab;rw[Nat.sub_self] at e;have:o'=o:=by simpa using e
   subst this;rw[hk];simp[List.lookup]
  .have e':(qW r (Nat.succ b)).lookup a=some o:=by
    refine Xa r (Nat.succ b) a o (by omega) ?_ hk;have:a - b=(a - Nat.succ b)+1:=by omega
    rw[this,List.getElem?_cons_succ] at e;exact e
   cases qQ b o' with
   |false=>exact e'
   |true =>
    simp only[cond_true,iZ];have:(a==b)=false:=by simpa using hab
    rw[this];exact e'
theorem WM(e:h.objs.toList[a]?=some o)(hk:qQ a o=true):(iQ h).lookup a=some o:=Xa _ 0 a o (Nat.zero_le _) (by rw[Nat.sub_zero];exact e) hk
theorem zmT(e:Ja h.objs.toList cd x=true):codeIn (iQ h) cd x=true:=by
 unfold Ja at e;split at e
 .rename_i c;split at e
  .rename_i o ho;obtain⟨oc,od,dt,sl⟩:=o;simp only at e;split at e
   .rename_i vs;split at e
    .cases e
    .rename_i hc;have l:(iQ h).lookup c=some ⟨oc,od,.fields vs,sl⟩:=WM ho (by
      unfold qQ;cases oc<;>first | rfl | exact absurd rfl hc)
     show(match(iQ h).lookup c with|some ⟨_,_,.fields vs,_⟩=>(match vs.toList with|_ :: .str n _::_=>n==x|_=>false)|_=>false)=true;rw[l];exact e
   .cases e
  .cases e
 .cases e
theorem cV.of_seenH(e:Jz (iQ h) h.objs.toList x=some (dA st,dB st,dS st,true)):cV (iQ h) x st:=by
 rw[JH,JK,JL] at e;unfold Jz at e;split at e
 .rename_i f a;split at e
  .rename_i o ho;obtain⟨oc,od,dt,osl⟩:=o;simp only at e;split at e
   .rename_i n q ps b sc g kV doc pm an cd ct bn;split at e
    .cases e
    .rename_i hc;simp only[Option.some.injEq,Prod.mk.injEq,cG,beq_iff_eq] at e;obtain⟨e1,e2,e3,e4,e5,e6,e7,e8⟩:=e;have e6:=Nat.eq_of_beq_eq_true e6;have e7:=Nat.eq_of_beq_eq_true e7;subst e1 e2 e3 e4 e5 e6 e7;have l:=WM ho (by
      unfold qQ;cases oc<;>first | rfl | exact absurd rfl hc)
     exact cV.mk' a l (zmT e8) (by
      show(match(iQ h).lookup f with|some ⟨_,_,.func _,_⟩=>true|some ⟨_,_,.cls _,_⟩=>specialIn (iQ h) (.ref f) "__call__" == some (some (.builtin "type.__call__"))|_=>false)=true;rw[l])
   .cases e
  .cases e
 .cases e
theorem fZ.of_seen{C m:Str}(h:JB K C m=some (dA st,dB st,dS st,true)):fZ K C m st:=by
 rw[JH,JK,JL] at h;unfold JB at h;split at h
 .rename_i f a;split at h
  .rename_i oc od n q ps b sc g kV doc pm an cd ct bn osl l;simp only[Option.some.injEq,Prod.mk.injEq,cG,beq_iff_eq] at h;obtain⟨e1,e2,e3,e4,e5,e6,e7,e8,e9,e10⟩:=h;have e6:=Nat.eq_of_beq_eq_true e6;have e7:=Nat.eq_of_beq_eq_true e7;subst e1 e2 e3 e4 e5 e6 e7;exact⟨f,_,⟨a,e10,e9⟩,RJ l e8 e9⟩
  .cases h
 .cases h
theorem zlE{c Pt:Addr}(D:qM K x st c)(e:codeHdIn K c Pt=true):Pt=gY K x:=by
 obtain⟨f,fd,a,F,hc⟩:=D;obtain⟨oc,od,kV,doc,pm,an,cdv,ct,osl,rfl,l,_⟩:=F.ex;have hc':cdv = .ref c:=hc;subst hc';unfold gY;rw[a];simp only[l];unfold codeHdIn at e;split at e
 .rename_i od2 vs osl2 hk;simp only[cG] at e;obtain⟨⟨⟨⟨⟨e1,e2⟩,e3⟩,e4⟩,e5⟩,e6⟩:=e;split at e1
  .rename_i P' h11;have hP:P'=Pt:=beq_iff_eq.mp e1;subst hP;show P'=match K.lookup c with|some ⟨_,_,.fields vs,_⟩=>(match(vs[11]?:Option Value) with|some (.ref P)=>P|_=>0)|_=>0
   rw[hk];simp only[h11]
  .cases e1
 .cases e
section
variable {P:Program}{w:World}{K:FgA}{mg:Str->Option Value}{base h:Heap}{C:Str}{fs:List Str}
theorem zc(e:tQ K C fs=true):je K (cj K C)/\makesIn K (cj K C)=true/\keepIn K (.ref (cj K C))=true/\nsIn K mainGlobals C=some (some (.ref (cj K C)))/\∀f∈fs,dW K (cj K C) f:=by unfold tQ at e;simp only[cG,beq_iff_eq,List.all_eq_true] at e;obtain⟨⟨a,b,c,d⟩,⟨x,y,z⟩,f⟩:=e;exact⟨⟨a,b,c,d⟩,x,y,z,f⟩
def G9(e:tQ K C fs=true):je K (cj K C):=(zc e).1
def Sy(KX:K.In h)(G:h.Ns mainGlobals mg)(e:tQ K C fs=true):mg C=some (.ref (cj K C)):=mg_of KX G (zc e).2.2.2.1
theorem Rp(M:fZ K C "__init__" st)(e:tQ K C fs=true)(hq:C ++ "." ++ "__init__" = C ++ ".__init__"):∃f fd,Mk K (cj K C) f/\n8 K "__init__" (C ++ ".__init__") st f fd:=by obtain⟨f,fd,m,F⟩:=M;rw[hq] at F;exact⟨f,fd,⟨(zc e).2.1,m.at_,m.fn,(zc e).2.2.1⟩,F⟩
theorem znQ(KX:K.In h)(G:h.Ns mainGlobals mg)(e:wV K x y=true):∃t,mg x=some (.str y t):=by
 unfold wV at e;split at e
 .rename_i z t q;have:z=y:=by simpa using e
  subst this;exact⟨t,mg_of KX G q⟩
 .cases e
theorem ZR{fl:List (Str×Str)}{gl:List (Str×Str)}(KX:K.In h)(G:h.Ns mainGlobals mg)(hf:∀y∈fl,∃fs,tQ K y.2 fs=true/\y.1∈fs)(hg:∀y∈gl,wV K y.1 y.2=true):dX P w K mg base 0 { flds:=fl,gls:=gl } :=
 ⟨λf C e=>by
  obtain⟨fs,h1,h2⟩:=hf _ (gU e);exact⟨(zc h1).1,(zc h1).2.2.2.2 _ h2⟩,λ_ _ _ _ h=>(nomatch h),λ_ _ _ h=>(nomatch h),λx y e=>znQ KX G (hg _ (gU e))⟩
end
theorem zmE{l:PySem.W.OpenLaw}{loose:List Str}{d:DefRec}{H:Hook}{N:Nat}(CV:l.wellSaid=true)(left:LeftO l.prog q loose (λ_=>true) H.obs H.val N)(hdef:defOf q l.name=some (d,[]))(hp:l.prog.theDef l.name=some (d.params,d.body,d.scope))(hk:kwWritten? d.params.kwonlyargs d.params.kw_defaults=some [])(ok:(chainsOk q&&opensWell l.prog&&(frees l.row.toRowW&&l.row.within.isEmpty))=true)(hb:l.prog.bare)(hw:l.row.toRowW.promised)(call:PySem.W.WalkO q loose (λ_ _=>True) H.says l.row.toRowW d [] λf vs=>PySem.call f vs):l.Holds:=by
 refine holds_law CV λsaid=>?_;refine holds_open (r:=l.row) (Xt:=λ_=>true) (XP:=λ_ _=>True) left H.of H.keeps ?_ ?_ hdef hp hk ?_ ?_ said ok hb hw call
 .exact λ_ _=>trivial
 .exact λ_ _ _ _ _=>trivial
 .exact λs _=>recFacts_of (R:=[]) rfl
 .show(!l.row.writes||true)=true;exact Bool.or_true _
def FN(K:FgA)(n:Nat)(Ps:List Addr):Sp:=λvs H Q E=>(∀Pt∈Ps,∃ps,H Pt=some (.tbl ps))/\CP K n vs H Q E
section
variable {P:Program}{w:World}{K:FgA}{mg mb:Str->Option Value}
theorem zje{fa:Addr}{s₁:Shared}{vs:List Value}{Ps:List Addr}(KX:K.In s₁.heap)(hns:s₁.heap.Ns mainGlobals mg)(hb:s₁.heap.Ns builtinsNs mb)(hbb:∀x:Str,x ≠ "__name__" -> mb x=bootBuiltins x)(hlim:s₁.heap.NoLimit)(hg:s₁.gens=#[])(ha:s₁.heap.get? a=some { cls := .type "list",data := .seq vs.toArray })(hi:IntsAre vs ns)(hl:ns.length<=63)(hr:aV k callerA)(hP:∀Pt∈Ps,s₁.heap.get? Pt=some (tabObj #[]))(hKP:∀Pt∈Ps,K.lookup Pt=none)(C:∀Pt∈Ps,∃c,CodeHd s₁.heap c Pt)(hbm:BM s₁.heap mg)(F:∀base:Heap,Mod K mg base->BM base mg->bR P w K mg base fU k fa fd [x] (FN K 63 Ps))(hbind:∀(s:Shared) (u:Value),BindsTo s fd ⟨[u],[]⟩ [(x,u)]):
 codeAny (model P w) callerA (.call (.ref fa) ⟨[.ref a],[]⟩) (λr s'=>r = .ok (.ret (.bool true))/\OldK s₁.heap s'.heap/\s'.os=s₁.os/\AllBare s'.gens) s₁:=by
 have rv:=Vy hi;have lenV:=hi.length;have hPa:a∉Ps:=λz=>by have:=hP a z;rw[ha] at this;cases this
 have hl':ns.length<=sizeLine:=Nat.le_trans hl (by rw[sizeLine_eq];decide);have core:∀H:Hp,qz K H a (ns.map V.int)->fD P w H s₁.heap->(∀Pt∈Ps,H Pt=some (.tbl #[]))->(∀b,b∉Ps->H b=none\/(b=a/\K.lookup a=none/\∃o xs,H b=some (.frz o (.lst xs)))) ->
  codeAny (model P w) callerA (.call (.ref fa) ⟨[.ref a],[]⟩) (λr s'=>r = .ok (.ret (.bool true))/\OldK s₁.heap s'.heap/\s'.os=s₁.os/\AllBare s'.gens) s₁:=by
  intro H hS hok hT hO;have jt:∀{b:Addr} {o:Obj},s₁.heap.get? b=some o->H b=none->(pQ s₁.heap H).get? b=some o:=λe n=>zmD e n;have none_of:∀{b:Addr} {o:Obj},s₁.heap.get? b=some o->o≠tabObj #[]->o≠{ cls := .type "list",data := .seq vs.toArray }->H b=none:=λ{b o} e n1 n2=>by
   by_cases hb:b∈Ps
   .have:=hP b hb;rw[e] at this;cases this;exact absurd rfl n1
   .rcases hO b hb with z|⟨z,_⟩
    .exact z
    .subst z;rw[ha] at e;cases e;exact absurd rfl n2
  have mK:∀{b:Addr} {o:Obj} {es:Array DictEntry} {ep:Nat},s₁.heap.get? b=some o->o.data = .dict es ep->H b=none:=λ{b o es ep} e d =>
   none_of e (λz=>by rw[z] at d;cases d) (λz=>by rw[z] at d;cases d)
  have Qi:∀{b:Addr} {m:Str->Option Value},s₁.heap.Ns b m->(pQ s₁.heap H).Ns b m:=λ{b m} ⟨o,es,ep,e,d,r⟩=>⟨o,es,ep,jt e (mK e d),d,r⟩
  have hKb:K.In (pQ s₁.heap H):=λb o e=>jt (KX b o e) (by
   by_cases hb:b∈Ps
   .have:=hKP b hb;rw[e] at this;cases this
   .rcases hO b hb with z|⟨z,z2,_⟩
    .exact z
    .subst z;rw[z2] at e;cases e)
  have hM:Mod K mg (pQ s₁.heap H):=⟨hKb,Qi hns,⟨mb,Qi hb,hbb⟩,let ⟨mc,h1,h2⟩:=hlim;⟨mc,Qi h1,h2⟩⟩
  have e0:iB P w K mg (pQ s₁.heap H) callerA [] s₁ H:=⟨rfl,hM,λb o e=>zo1 e,Nat.le_of_eq (zkR _ _),trivial,λb hb=>absurd (show b∈([]:List Addr) from hb) (by simp),hok,.of_eq hg⟩
  have hB:BM (pQ s₁.heap H) mg:=by obtain⟨bm,o,h1,h2,h3,h4,h5,h6⟩:=hbm;exact⟨bm,o,h1,h2,jt h3 (none_of h3 (λz=>by rw[z] at h4;cases h4) (λz=>by rw[z] at h4;exact absurd (Value.type.inj h4) (by decide))),h4,h5,h6⟩
  have hsp:FN K 63 Ps [.ref a] H (λv _=>v = .bl true) λ_ _ _=>False:=⟨λPt h=>⟨_,hT Pt h⟩,a,ns,rfl,hS,hl,λ_=>rfl⟩
  refine codeAny_mono ((F _ hM hB).run callerA [] s₁ H ⟨[.ref a],[]⟩ [.ref a] [.ref a] _ _ hr e0 (hbind s₁ (.ref a)) (.cons rfl .nil) hsp) λr s' h=>?_;cases r with
  |error e=>exact h.elim
  |ok fl =>
   cases fl with
   |next=>exact False.elim h
   |brk=>exact False.elim h
   |cont=>exact False.elim h
   |ret u =>
    obtain⟨v,H',os,bare,un,hok',r',q⟩:=h;have q':v = .bl true:=q;subst q';obtain rfl:u=Value.bool true:=r';have kept:∀b o,b∉Ps->s₁.heap.get? b=some o->s'.heap.get? b=some o:=λb o hb e=>by
     rcases hO b hb with z|⟨_,_,ob,xs,z⟩
     .exact un.keep b o e z (by intro z;exact absurd (show b∈([]:List Addr) from z) (by simp)) (by simp)
     .have z2:=un.frzs b ob _ z;obtain⟨e1,_⟩:=hok b _ z;obtain⟨e2,_⟩:=hok' b _ z2;rw[e] at e1;cases e1;exact e2
    have tb:∀Pt∈Ps,∃more,s'.heap.get? Pt=some { cls := .none,data := .fields (#[]++more) }:=λPt h=>by obtain⟨more,hm⟩:=un.tbls Pt _ (hT Pt h);obtain⟨em,_⟩:=hok' Pt _ hm;exact⟨more,em⟩
    refine⟨rfl,⟨λb o e=>?_,λb o e=>?_⟩,os,bare⟩
    .by_cases hb:b∈Ps
     .obtain⟨more,em⟩:=tb b hb;have hp:=hP b hb;rw[hp] at e;cases e;obtain⟨c,hc⟩:=C b hb;exact .inr (.inl ⟨(hc.tab hp).isCodeTable,rfl,#[],more,rfl,em⟩)
     .exact .inl (kept b o hb e)
    .by_cases hb:b∈Ps
     .obtain⟨more,em⟩:=tb b hb;exact⟨_,em⟩
     .exact⟨o,kept b o hb e⟩
 have uI:∀(H:Hp) (Pt:Addr),Pt∈Ps->bJ P w H s₁.heap Pt (.tbl #[]):=λH Pt h=>⟨hP Pt h,trivial,λpos cv q=>by simp[codeAmong] at q⟩
 cases hk:K.lookup a with
 |some o =>
  have e:=KX a o hk;rw[ha] at e;cases e;refine core (λb=>if b∈Ps then some (.tbl #[]) else none) (.inr ⟨_,vs.toArray,_,hk,rfl,rfl,rfl,by rw[dw,lenV];exact hl',by simpa using rv⟩) (λb u z=>?_) (λPt h=>if_pos h) (λb hb => .inl (if_neg hb));by_cases hb:b∈Ps
  .have z':=(if_pos hb).symm.trans z;cases z';exact uI _ b hb
  .have z':=(if_neg hb).symm.trans z;cases z'
 |none =>
  refine core (λb=>if b∈Ps then some (.tbl #[]) else if b=a then some (.frz { cls := .type "list",data := .seq vs.toArray } (.lst (ns.map V.int))) else none) (.inl ⟨{ cls := .type "list",data := .seq vs.toArray },(if_neg hPa).trans (if_pos rfl)⟩) (λb u z=>?_) (λPt h=>if_pos h) (λb hb=>?_)
  .by_cases hb:b∈Ps
   .have z':=(if_pos hb).symm.trans z;cases z';exact uI _ b hb
   .have z1:=(if_neg hb).symm.trans z;by_cases hba:b=a
    .have z':=(if_pos hba).symm.trans z1;cases z';subst hba;exact⟨ha,by rw[cX];exact hl',vs,_,rv,ha⟩
    .have z':=(if_neg hba).symm.trans z1;cases z'
  .by_cases hba:b=a
   .exact .inr ⟨hba,hk,_,_,(if_neg hb).trans (if_pos hba)⟩
   .exact .inl ((if_neg hb).trans (if_neg hba))
theorem znT{ys:List Str}(hd:(ys.map (gY K)).Nodup)(hz:qz K H a (ns.map V.int))(ht:∀Pt∈ys.map (gY K),∃ps,H Pt=some (.tbl ps)):
 aq K H (a::ys.map (gY K)) (.frz (ns.map D.int)::ys.map O.tbl):=by
 refine⟨by simp,λi j o o' b h1 h2 w1 w2 h3 h4=>?_,λi o b h1 h2=>?_⟩
 .rcases i with _|i
  .cases h1;cases w1
  .rcases j with _|j
   .cases h2;cases w2
   .rw[List.getElem?_cons_succ] at h3 h4;rw[(List.getElem?_inj (fj.mp h3).1 hd).mp (h3.trans h4.symm)]
 .rcases i with _|i
  .cases h1;cases h2;exact⟨_,hz,Vq ns⟩
  .rw[List.getElem?_cons_succ,gR] at h1 h2;cases q:ys[i]? with
   |none=>rw[q] at h1;cases h1
   |some y =>
    rw[q] at h1 h2;cases h1;cases h2;exact⟨rfl,ht _ (List.mem_map_of_mem (List.mem_of_getElem? q))⟩
end
noncomputable def ztp(xb:FgA->Bool)(ms:List (Str×Str×Stmt))(ds:List (Str×Stmt))(blt:List Str)(ts:List (Str×Stmt)):Hook where
 α:=(List yC×List (Option (Option Value)))×List (yC×(Option Obj×Bool))×(List yC×Bool)
 obs:=λs=>(t7 ds blt s,Ag (ts.map (·.1)) s,su xb ms s)
 val:=λ_=>(tW ds blt,Fy ts,wK ms)
 says:=λ_ h=>∃K:FgA,K.In h/\(((∀y∈ds,cV K y.1 y.2)/\∀y∈blt,nsIn K mainGlobals y=some none)/\(∀y∈ms,fZ K y.1 y.2.1 y.2.2)/\xb K=true)/\∀y∈ts,∃c Pt:Addr,qM K y.1 y.2 c/\codeHdIn K c Pt=true/\K.lookup Pt=none/\h.get? Pt=some (tabObj #[])
 of:=λ_ s e=>⟨iQ s.heap,zkU _,⟨⟨λy hy=>cV.of_seenH (List.map_inj_left.mp (Prod.mk.inj (Prod.mk.inj e).1).1 y hy),List.map_inj_left.mp (Prod.mk.inj (Prod.mk.inj e).1).2⟩,
  λy hy=>fZ.of_seen (List.map_inj_left.mp (Prod.mk.inj (Prod.mk.inj (Prod.mk.inj e).2).2).1 y hy),(Prod.mk.inj (Prod.mk.inj (Prod.mk.inj e).2).2).2⟩,λy hy=>by
   have e2:=(Prod.mk.inj (Prod.mk.inj e).2).1;unfold Ag Fy at e2;rw[List.map_map] at e2;have e3:=List.map_inj_left.mp e2 y hy;exact zhj (cV.of_seen (Prod.mk.inj e3).1) (Prod.mk.inj e3).2⟩
 keeps:=λ_ _ _ ⟨K,a,b,c⟩ k=>⟨K,a.keeps k,b,λy hy=>let ⟨c,Pt,z1,z2,z3,z4⟩:=c y hy;⟨c,Pt,z1,z2,z3,k _ _ z4⟩⟩
theorem left5{p:Program}{loose:List Str}{xb:FgA->Bool}{ms:List (Str×Str×Stmt)}{d1 d2:List (Str×Stmt)}{blt:List Str}{ts:List (Str×Stmt)}{N:Nat}(a:LeftO p q loose (λ_=>true) (λ_=>()) (λ_=>()) N)(b1:∀w,(openEnds treeTable p w N).map (t7 d1 blt)=some (tW d1 blt))(b2:∀w,(openEnds treeTable p w N).map (t7 d2 [])=some (tW d2 []))(c1:∀w,(openEnds treeTable p w N).map (Ag (ts.map (·.1)))=some (Fy ts))(c2:∀w,(openEnds treeTable p w N).map (su xb ms)=some (wK ms)):
 LeftO p q loose (λ_=>true) (ztp xb ms (d1++d2) blt ts).obs (ztp xb ms (d1++d2) blt ts).val N:=by
 intro w;obtain⟨s,e,h1⟩:=aR.mp (a w);obtain⟨s2,e2,h2⟩:=aR.mp (b1 w);obtain⟨s3,e3,h3⟩:=aR.mp (b2 w);obtain⟨s4,e4,h4⟩:=aR.mp (c1 w);obtain⟨s5,e5,h5⟩:=aR.mp (c2 w);rw[e] at e2 e3 e4 e5;cases e2;cases e3;cases e4;cases e5;rw[e];have g1:=(Prod.mk.inj h1).1;have g2:=Prod.mk.inj h2;have g3:=Prod.mk.inj h3;have g:t7 (d1++d2) blt s=tW (d1++d2) blt:=by unfold t7 tW;rw[tV,tV,g2.1,g3.1,g2.2]
 show some (_,(t7 (d1++d2) blt s,Ag (ts.map (·.1)) s,su xb ms s))=_;rw[g1,g,h4,h5];rfl
theorem ziG{xb:FgA->Bool}{ms:List (Str×Str×Stmt)}{l:PySem.W.OpenLaw}{loose:List Str}{XP:(Str->Option Value)->Heap->Prop}{d:DefRec}{ds:List (Str×Stmt)}{blt:List Str}{ts:List (Str×Stmt)}(hn:l.most=some 63)(hdf:d.params.defaults=[])(hr:aV k callerA)(F:∀(w:World) (mg:Str->Option Value) (fa:Addr) (h:Heap) (K:FgA),K.In h->h.Ns mainGlobals mg->mg d.name=some (.ref fa)->(∀y∈ds,cV K y.1 y.2)->(∀y∈blt,nsIn K mainGlobals y=some none)->(∀y∈ms,fZ K y.1 y.2.1 y.2.2)->xb K=true ->
  (∀y∈ts,∃c,qM K y.1 y.2 c/\∀h:Heap,K.In h->CodeHd h c (gY K y.1)) ->
  ∃(fd:FuncData),(∀(s:Shared) (u:Value),BindsTo s fd ⟨[u],[]⟩ [(x,u)])/\∀base:Heap,Mod K mg base->BM base mg->bR l.prog w K mg base fU k fa fd [x] (FN K 63 ((ts.map (·.1)).map (gY K)))):
 PySem.W.WalkO q loose XP (ztp xb ms ds blt ts).says l.row.toRowW d [] (λf vs=>PySem.call f vs):=by
 refine YC.zhM hn hdf λw s₀ s₁ mg mb fa o pm cd doc a vs ns G Y ho hd hcd hmg hobj hints hlen hg=>?_;obtain⟨K,KX,⟨⟨hD,hB⟩,hM,hX⟩,hT⟩:=Y;have hT':∀y∈ts,∃c,qM K y.1 y.2 c/\codeHdIn K c (gY K y.1)=true/\K.lookup (gY K y.1)=none/\s₁.heap.get? (gY K y.1)=some (tabObj #[]):=λy hy=>by obtain⟨c,Pt,z1,z2,z3,z4⟩:=hT y hy;have ePt:=zlE z1 z2;subst ePt;exact⟨c,z1,z2,z3,z4⟩
 obtain⟨fd,hb,hF⟩:=F w mg fa _ K KX G.T.g hmg hD hB hM hX λy hy=>by obtain⟨c,z1,z2,_⟩:=hT' y hy;exact⟨c,z1,λh X=>codeHd_of_K X z2⟩
 have hbm:BM s₁.heap mg:=by obtain⟨bm,ob,b1,b2,b3,b4,b5,b6⟩:=G.T.bmain;exact⟨bm,ob,b1,b2,b3,b4,b5,b6⟩
 have at_:∀Pt∈(ts.map (·.1)).map (gY K),∃y∈ts,Pt=gY K y.1:=λPt h=>by rw[List.map_map] at h;obtain⟨y,hy,rfl⟩:=List.mem_map.mp h;exact⟨y,hy,rfl⟩
 refine zje KX G.T.g G.T.b G.T.builtins G.T.nolimit hg hobj hints hlen hr (λPt h=>?_) (λPt h=>?_) (λPt h=>?_) hbm hF hb
 .obtain⟨y,hy,rfl⟩:=at_ Pt h;obtain⟨c,z1,z2,z3,z4⟩:=hT' y hy;exact z4
 .obtain⟨y,hy,rfl⟩:=at_ Pt h;obtain⟨c,z1,z2,z3,z4⟩:=hT' y hy;exact z3
 .obtain⟨y,hy,rfl⟩:=at_ Pt h;obtain⟨c,z1,z2,z3,z4⟩:=hT' y hy;exact⟨c,codeHd_of_K KX z2⟩
def zqX{t:TS}(h:L2.PS X.nox st t):L2.PS X st t:=λpz s Z H D I hw =>
 iI (h pz s Z H D (I.wish _) hw) (λ_ _ q=>q.unwish) λ_ _ z=>False.elim z
noncomputable def FP(e:Expr):Option (Str×List Expr):=match e with
 |.Call f es kws _=>match f with
  |.Name x _=>match kws with
   |[]=>some (x,es)
   |_::_=>none
  |_=>none
 |_=>none
theorem Hr(h:FP e=some (x,es)):∃p pos,e = .Call (.Name x p) es [] pos:=by
 cases e with
 |Call f es' kws pos=>cases f with
  |Name y p=>cases kws with
   |nil=>cases h;exact⟨p,pos,rfl⟩
   |cons _ _=>cases h
  |_=>cases h
 |_=>cases h
noncomputable def Rg(e:Expr):Option (Str×Pos×Str×Pos×List Expr×Pos):=match e with
 |.Call f es kws pos=>match f with
  |.Attribute o m apos=>match o with
   |.Name x p=>match kws with
    |[]=>some (x,p,m,apos,es,pos)
    |_::_=>none
   |_=>none
  |_=>none
 |_=>none
theorem Wk{m:Str}(h:Rg e=some (x,p,m,apos,es,pos)):e = .Call (.Attribute (.Name x p) m apos) es [] pos:=by
 cases e with
 |Call f es' kws pos=>cases f with
  |Attribute o m' apos=>cases o with
   |Name y q=>cases kws with
    |nil=>cases h;rfl
    |cons _ _=>cases h
   |_=>cases h
  |_=>cases h
 |_=>cases h
noncomputable def tY(C m:Str)(n:Nat)(ξ:XN)(fo:EF)(fa:AF):XF:=λZ S=>(fo Z S).bind λr=>match r.1 with
 |.ref j=>match r.2[j]? with
  |some (.ins C' fs)=>if C'=C/\fs.lookup m=none then(fa Z r.2).bind λq=>if q.1.length+1=n then(ξ (.ref j::q.1) q.2).map λy=>(y,q.2) else none else none
  |_=>none
 |_=>none
def tH(X:Cx)(C m:Str)(n:Nat)(ξ:XN):Prop:=∃f fd ps k,je X.K (cj X.K C)/\tO X.K (cj X.K C) m f/\Binds X.K fd ps []/\bR X.prog X.w X.K X.mg X.base (m6 X.prog X.w) k f fd ps (CN X.K X.mg n ξ)/\aV k X.A
section
variable {X:Cx}{E:XK}{C m:Str}{o e:Expr}{es:List Expr}{fo:EF}{fa:AF}{n:Nat}{ξ:XN}{apos pos:Pos}
theorem zpV(hx:qG X E)(R:tH X C m n ξ)(ho:SE X o fo)(ha:SA X (e::es) fa)(hbase:attributeBase o m X.env (eval o X.env)=eval o X.env)(hfew:((backTo pos (starEach (e::es) X.env)).all (λx => !x.1)&&(backToKw pos (keywordEach [] X.env)).all (λx=>x.1.isSome)&&decide ((e::es).length+([]:List Keyword).length+(if([]:List Keyword).isEmpty then 0 else 1)<30))=true)(hline:(apos.endLine==pos.line)=true)(hst:starEach (e::es) X.env=(false,eval e X.env)::starEach es X.env)(hpl:(backTo pos (starEach es X.env)).any (·.1)=false):
 PE X (.Call (.Attribute o m apos) (e::es) [] pos) (qj X.K X.mg (tY C m n ξ fo fa) E):=by
 obtain⟨f,fd,ps,kk,c,hm,hb,F,hr⟩:=R;refine PE.imp (Ul ho c hm F hr hb .nil hx.pass ha hst hpl (Ml hbase hfew hline)) λZ H Q h=>?_;obtain⟨σd,S,α,y,S',hv,hs,hf,k⟩:=h;unfold tY at hf;simp only[aU] at hf;obtain⟨⟨d,S1⟩,e1,e2⟩:=hf;refine⟨σd,S,α,d,S1,hv,hs,e1,λv H1 α1 s1 x1 r1=>?_⟩;simp only at e2;split at e2
 .split at e2
  .rename_i C' fs q;split at e2
   .rename_i hC;obtain⟨rfl,hl⟩:=hC;simp only[aU] at e2;obtain⟨⟨ds,S2⟩,e3,e4⟩:=e2;split at e4
    .rename_i hn;obtain⟨y',e5,e6⟩:=aR.mp e4;cases e6;cases r1 with
     |ref ha =>
      obtain⟨dx,gs,h1,h2,h3⟩:=s1.obj _ _ _ q ha;refine⟨_,dx,gs,rfl,h1,(cC.of h2 h3).lookN hl,σd,S1,α1,ds,_,hv.mono x1,s1,e3,λvs H2 α2 s2 x2 r2=>?_⟩;show CN _ _ _ _ (_::(vs++[])) _ _ _;rw[List.append_nil];exact⟨by rw[<-hn,jb,r2.length],_,α2,_,y,s2,.cons (.ref (x2.pre _ _ ha)) r2,e5,k.trans (x1.trans x2)⟩
    .cases e4
   .cases e2
  .cases e2
 .cases e2
theorem zpX{a:Expr}{g:XF}(hg:Gl X x)(hm:X.mg x=some (.ref f))(hk:keepIn X.K (.ref f)=true)(ha:PE X a (qj X.K X.mg g E))(hdb:(x==("__debug__" : Str))=false)(he:starEach [a] X.env=(false,eval a X.env)::starEach [] X.env):PE X (.Call (.Name x p) [a] [] pos) (qj X.K X.mg g E):=by intro pz s Z H Q I h;refine wpAny_Call_Name_kw (rC I hg hm ?_ hdb);refine PySem.W.callWith_K (h₀:=X.base) I.ok.mod.kin hk ?_ he rfl;rw[he];exact Calls.spliced_cons (bK (ha pz s Z H (λ_ _=>False) I h) λu s1 ⟨_,_,_,_,z⟩=>z.elim)
theorem zqg{it:Expr}{body els:List Stmt}{g:XF}(he:PE X it (qj X.K X.mg g E))(hs:∀x,foldedSetIterable it X.env x=pure x):L2.PS X (.For tg it body els pos) (tX X.K X.mg g E):=by intro pz s Z H D I h;exact wpAny_For (bK (he pz s Z H (λ_ _=>False) I h) λv s1 ⟨_,_,_,_,z⟩=>z.elim) hs
end
noncomputable def xE(c:Ctx)(fx:List (Str×Nat×XN))(mx:List (Str×Str×Nat×XN))(e:Expr):Option XF:=match FP e with
 |none=>match Rg e with
  |none=>none
  |some (x,p,m,apos,es,pos)=>if es.all jh=true/\es.length<20/\(apos.endLine==pos.line)=true/\es≠[] then
   (mx.lookup m).bind λq=>(cE 60 c (.Name x p)).bind λfo=>(jP (cE 60) c es).map λfa=>tY q.1 m q.2.1 q.2.2 fo fa
   else none
 |some (x,es)=>if lH x=false/\c.names.lookup x=some .globalImplicit/\es.all jh=true/\es≠[] then
  (fx.lookup x).bind λq=>(jP (cE 60) c es).map λfa=>vO q.1 q.2 fa
  else none
noncomputable def Jm(c:Ctx)(fx:List (Str×Nat×XN))(mx:List (Str×Str×Nat×XN))(e:Expr):Option XF:=match FP e with
 |some (x,[a])=>if lH x=false/\c.names.lookup x=some .globalImplicit/\jh a=true/\(c.fns.lookup x).isSome=true then xE c fx mx a else none
 |_=>none
noncomputable def xR(c:Ctx)(cl:List Str)(o o2:Option Expr):Option XF:=match o2 with
 |some _=>none
 |none=>match o with
  |none=>none
  |some e=>match FP e with
   |none=>none
   |some (x,es)=>match es with
    |[]=>none
    |a::r=>match r with
     |_::_=>none
     |[]=>if lH x=false/\c.names.lookup x=some .globalImplicit/\jh a=true/\x∈cl then(cE 60 c a).map λfe=>λZ S=>(fe Z S).map λr=>(x,r.2) else none
noncomputable def Ck(t:TF)(a b:Option XF):Option XF:=match a with
 |none=>match b with
  |none=>none
  |some h=>some (uH t wJ h)
 |some g=>match b with
  |none=>some (uH t g wJ)
  |some h=>some (uH t g h)
noncomputable def uG(f:Option SF)(g h:Option XF):Option XF:=match h with
 |none=>g
 |some h=>match f with
  |none=>g
  |some f=>match g with
   |none=>some (oR f wJ h)
   |some g=>some (oR f g h)
mutual
def xS:Nat->Ctx->List (Str×Nat×XN)->List (Str×Str×Nat×XN)->List Str->Stmt->Option XF
 |0,_,_,_,_,_=>none
 |n+1,c,fx,mx,cl,st=>match st with
  |.Expr e _=>if qU e=true then xE c fx mx e else none
  |.Return o _=>match o with
   |none=>none
   |some e=>match xE c fx mx e with
    |some g=>some g
    |none=>Jm c fx mx e
  |.Raise o o2 _=>xR c cl o o2
  |.For _ it _ _ _=>xE c fx mx it
  |.If t a b _=>(cT 60 c t).bind λft=>Ck ft (lN n c fx mx cl a) (lN n c fx mx cl b)
  |_=>none
def lN:Nat->Ctx->List (Str×Nat×XN)->List (Str×Str×Nat×XN)->List Str->List Stmt->Option XF
 |0,_,_,_,_,_=>none
 |_+1,_,_,_,_,[]=>none
 |n+1,c,fx,mx,cl,st::r=>uG (cS 60 c st) (xS n c fx mx cl st) (lN n c fx mx cl r)
end
section
variable {X:Cx}{E:XK}{c:Ctx}{fx:List (Str×Nat×XN)}{mx:List (Str×Str×Nat×XN)}{cl:List Str}
def zkV{f:Expr}(x:Value):foldedSetIterable (.Call f es ks pos) env x=pure x:=rfl
theorem zny{g:XF}(h:xE c fx mx e=some g):∃f es ks pos,e = .Call f es ks pos:=by
 unfold xE at h;split at h
 .split at h
  .cases h
  .rename_i q;exact⟨_,_,_,_,Wk q⟩
 .rename_i q;obtain⟨p,pos,rfl⟩:=Hr q;exact⟨_,_,_,_,rfl⟩
theorem Bq(ok:d9 c X)(hx:qG X E)(hf:∀x n ξ,fx.lookup x=some (n,ξ)->FZ X x n ξ)(hm:∀m C n ξ,mx.lookup m=some (C,n,ξ)->tH X C m n ξ){g:XF}(h:xE c fx mx e=some g):PE X e (qj X.K X.mg g E):=by
 unfold xE at h;split at h
 .split at h
  .cases h
  .rename_i x p m apos es pos hc;have:=Wk hc;subst this;split at h
   .rename_i hh;obtain⟨h1,h2,h3,h4⟩:=hh;obtain⟨⟨C,n,ξ⟩,e1,h⟩:=aU.mp h;obtain⟨fo,e2,h⟩:=aU.mp h;obtain⟨fa,e3,rfl⟩:=aR.mp h;cases es with
    |nil=>exact absurd rfl h4
    |cons a r =>
     have h1':=h1;rw[jN,cG] at h1;exact zpV hx (hm m C n ξ e1) ((jA 60).1 c X _ fo ok e2) (lK (jA 60).1 ok e3).1 rfl (J9 h1' h2) h3 (ig h1.1 r X.env) (rF h1.2 pos X.env)
   .cases h
 .rename_i x es hc;obtain⟨p,pos,rfl⟩:=Hr hc;split at h
  .rename_i hh;obtain⟨h1,h2,h3,h4⟩:=hh;obtain⟨⟨n,ξ⟩,e1,h⟩:=aU.mp h;obtain⟨fa,e2,rfl⟩:=aR.mp h;cases es with
   |nil=>exact absurd rfl h4
   |cons a r =>
    rw[jN,cG] at h3;exact znx hx (by show X.env.scope.names.lookup x=_;rw[ok.names];exact h2) (hf x n ξ e1) (lK (jA 60).1 ok e2).1 (ou h1) (ig h3.1 r X.env) (rF h3.2 pos X.env)
  .cases h
theorem zlX(ok:d9 c X)(hx:qG X E)(hf:∀x n ξ,fx.lookup x=some (n,ξ)->FZ X x n ξ)(hm:∀m C n ξ,mx.lookup m=some (C,n,ξ)->tH X C m n ξ){g:XF}(h:Jm c fx mx e=some g):PE X e (qj X.K X.mg g E):=by
 unfold Jm at h;split at h
 .rename_i x a hc;obtain⟨p,pos,rfl⟩:=Hr hc;split at h
  .rename_i hh;obtain⟨h1,h2,h3,h4⟩:=hh;obtain⟨⟨n,φ⟩,e1⟩:=Option.isSome_iff_exists.mp h4;obtain⟨f,fd,ps,k,m1,m2,_⟩:=ok.fns x n φ e1;exact zpX (by show X.env.scope.names.lookup x=_;rw[ok.names];exact h2) m1 m2 (Bq ok hx hf hm h) (ou h1) (ig h3 [] X.env)
  .cases h
 .cases h
theorem zlW(ok:d9 c X)(hx:qG X E)(hcl:∀x∈cl,∃C,tM X.K X.mg x C){o o2:Option Expr}{g:XF}(h:xR c cl o o2=some g):L2.PS X (.Raise o o2 pos) (tX X.K X.mg g E):=by
 unfold xR at h;cases o2 with
 |some _=>cases h
 |none=>cases o with
  |none=>cases h
  |some e =>
   simp only at h;split at h
   .cases h
   .rename_i x es hc;obtain⟨p,cpos,rfl⟩:=Hr hc;cases es with
    |nil=>cases h
    |cons a r=>cases r with
     |cons _ _=>cases h
     |nil =>
      simp only at h;split at h
      .rename_i hh;obtain⟨h1,h2,h3,h4⟩:=hh;obtain⟨fe,e1,rfl⟩:=aR.mp h;obtain⟨C,hC⟩:=hcl x h4;exact zlF hx ok.calm (by show X.env.scope.names.lookup x=_;rw[ok.names];exact h2) hC ((jA 60).1 c X _ fe ok e1) h3 (ou h1)
      .cases h
theorem Vp(ok:d9 c X)(ok':d9 c X.nox)(hx:qG X E)(hf:∀x n ξ,fx.lookup x=some (n,ξ)->FZ X x n ξ)(hm:∀m C n ξ,mx.lookup m=some (C,n,ξ)->tH X C m n ξ)(hcl:∀x∈cl,∃C,tM X.K X.mg x C):
 ∀n,(∀st g,xS n c fx mx cl st=some g->L2.PS X st (tX X.K X.mg g E))/\∀sts g,lN n c fx mx cl sts=some g->fL X sts (tX X.K X.mg g E)
 |0=>⟨λ_ _ h=>by simp[xS] at h,λ_ _ h=>by simp[lN] at h⟩
 |n+1=>by
  obtain⟨ih1,ih2⟩:=Vp ok ok' hx hf hm hcl n;refine⟨λst g h=>?_,λsts g h=>?_⟩
  .unfold xS at h;cases st with
   |Expr e p =>
    change (if qU e=true then xE c fx mx e else none)=some g at h;by_cases hc:qU e=true
    .rw[if_pos hc] at h;exact znL (Bq ok hx hf hm h) (zK hc _ _ _)
    .rw[if_neg hc] at h;cases h
   |Return o p=>cases o with
    |none=>cases h
    |some e =>
     simp only at h;split at h
     .rename_i q;cases h;exact R6 (Bq ok hx hf hm q)
     .exact R6 (zlX ok hx hf hm h)
   |Raise o o2 p=>exact zlW ok hx hcl h
   |For tg it body els p =>
    obtain⟨f,es,ks,pos,rfl⟩:=zny h;exact zqg (Bq ok hx hf hm h) zkV
   |If t a b p =>
    obtain⟨ft,e0,h⟩:=aU.mp h;have ht:=(jA 60).2 c X _ ft ok e0;unfold Ck at h;cases ea:lN n c fx mx cl a with
    |none=>cases eb:lN n c fx mx cl b with
     |none=>rw[ea,eb] at h;cases h
     |some hb=>rw[ea,eb] at h;cases h;exact JR ht Kh (ih2 _ _ eb)
    |some ha=>cases eb:lN n c fx mx cl b with
     |none=>rw[ea,eb] at h;cases h;exact JR ht (ih2 _ _ ea) Kh
     |some hb=>rw[ea,eb] at h;cases h;exact JR ht (ih2 _ _ ea) (ih2 _ _ eb)
   |_=>exact nomatch (show(none:Option XF)=some g from h)
  .cases sts with
   |nil=>simp[lN] at h
   |cons st r =>
    rw[lN] at h;have one:∀g,xS n c fx mx cl st=some g->fL X (st::r) (tX X.K X.mg g E):=λg h=>fL.imp (uq (ih1 _ _ h) (Kh (rest:=r) (E:=E))) λ_ _ _ q=>q;unfold uG at h;cases eh:lN n c fx mx cl r with
    |none=>rw[eh] at h;exact one g h
    |some hh =>
     rw[eh] at h;cases ef:cS 60 c st with
     |none=>rw[ef] at h;exact one g h
     |some f =>
      rw[ef] at h;have hn:SS X st f:=zqX ((Bp 60 c X.nox ok' PassesOwn.never).1 st f ef);cases eg:xS n c fx mx cl st with
      |none=>rw[eg] at h;cases h;exact R7 hn zr6 (ih2 _ _ eh)
      |some gg=>rw[eg] at h;cases h;exact R7 hn (ih1 _ _ eg) (ih2 _ _ eh)
end
open Classical in
def nM(n:Nat)(xb:XF):XN:=λds S=>match xb (iH n ds) S with
 |some (y,S')=>if S'.take S.length=S then some y else none
 |none=>none
section
variable {P:Program}{w:World}{K:FgA}{mg:Str->Option Value}{base h:Heap}
def dh(P:Program)(w:World)(K:FgA)(mg:Str->Option Value)(base:Heap)(k:Nat)(fx:List (Str×Nat×XN)):Prop:=∀y n ξ,fx.lookup y=some (n,ξ)->jM P w K mg base k y n ξ
def jM.mono{j k:Nat}{x:Str}{n:Nat}{ξ:XN}(h:jM P w K mg base j x n ξ)(hjk:j<=k):jM P w K mg base k x n ξ :=
 let ⟨f,fd,ps,a,b,c,d⟩:=h
 ⟨f,fd,ps,a,b,c,d.mono hjk⟩
def dh.nil:dh P w K mg base k []:=λ_ _ _ e=>by cases e
def yx(P:Program)(w:World)(K:FgA)(mg:Str->Option Value)(base:Heap)(k:Nat)(C m:Str)(n:Nat)(ξ:XN):Prop :=
 ∃f fd ps,je K (cj K C)/\tO K (cj K C) m f/\Binds K fd ps []/\bR P w K mg base (m6 P w) k f fd ps (CN K mg n ξ)
def cQ(P:Program)(w:World)(K:FgA)(mg:Str->Option Value)(base:Heap)(k:Nat)(mx:List (Str×Str×Nat×XN)):Prop:=∀m C n ξ,mx.lookup m=some (C,n,ξ)->yx P w K mg base k C m n ξ
def dh.mono{j k:Nat}{fx:List (Str×Nat×XN)}(h:dh P w K mg base j fx)(hjk:j<=k):dh P w K mg base k fx:=λy n ξ e=>(h y n ξ e).mono hjk
def cQ.mono{j k:Nat}{mx:List (Str×Str×Nat×XN)}(h:cQ P w K mg base j mx)(hjk:j<=k):cQ P w K mg base k mx:=λm C n ξ e =>
 let ⟨f,fd,ps,a,b,c,d⟩:=h m C n ξ e
 ⟨f,fd,ps,a,b,c,d.mono hjk⟩
def cQ.nil:cQ P w K mg base k []:=λ_ _ _ _ e=>by cases e
theorem Uy{fx:List (Str×Nat×XN)}{mx:List (Str×Str×Nat×XN)}{cl blt:List Str}{E:CE}{xb:XF}(F:n8 K x qual st f fd)(hs:bO P w K mg base k fns)(hE:dX P w K mg base k E)(hxs:dh P w K mg base k fx)(hms:cQ P w K mg base k mx)(dj:∀y∈blt,mg y=none)(hcl:∀y∈cl,∃C,tM K mg y C)(S:jJ (fu (aY st).names) ps (aY st))(hu:(aY st).names.all (λy=>decide ((aY st).names.lookup y.1=some y.2))=true)(hn:(fu (aY st).names).length=n)(hb:lN m (lE st fns blt E) fx mx cl (fV st)=some xb):bR P w K mg base (m6 P w) (k+1) f fd ps (CN K mg ps.length (nM n xb)):=by
 obtain⟨oc,od,kV,doc,pm,an,cdv,ct,osl,rfl,lk,hcd⟩:=F.ex;refine Ao lk hcd S (λvs H Q E h=>h.1) λA outer s H vs Q E' hr hh=>?_;obtain⟨hlen,S₀,α,ds,y',hst,r,e1,kk⟩:=hh;obtain⟨o1,o2⟩:=G3 (CX:=m6 P w) (P:=P) (w:=w) (qual:=qual) (f:=f) (cdv:=cdv) (outer:=outer) (H:=H) (E':=E') S hu hs dj hE hr;refine⟨_,(Vp o1 o2 znw (λz n ξ q=>⟨k,hxs z n ξ q,hr⟩) (λy C n ξ q=>?_) hcl m).2 _ xb hb,?_⟩
 .obtain⟨f',fd',ps',a,b,c,d⟩:=hms y C n ξ q;exact⟨f',fd',ps',k,a,b,c,d,hr⟩
 unfold nM at e1;split at e1
 .rename_i y2 S2 e2;split at e1
  .rename_i ht;cases e1;have e0:nF (fu (aY st).names) ds=iH n ds:=by unfold nF iH;rw[hn]
   refine⟨_,S₀,α,y',S2,Hw r,hst,by rw[e0];exact e2,?_⟩;obtain⟨C,h1,h2⟩:=kk;refine⟨C,h1,λH' α' s' x'=>?_⟩;have hw:∀o∈S2.take S₀.length,O.lo S₀.length o=true:=by rw[ht];exact hst.wf
   have s3:=s'.cut S₀.length hw;rw[ht] at s3;refine h2 H' (α'.take S₀.length) s3 ⟨x'.tups,λi b q=>?_,x'.insts⟩;have hi:i<S₀.length:=by have:=(fj.mp q).1;rw[hst.len] at this;exact this
   rw[List.getElem?_take_of_lt hi];exact x'.pre i b q
  .cases e1
 .cases e1
theorem zkW{fx:List (Str×Nat×XN)}{mx:List (Str×Str×Nat×XN)}{cl blt:List Str}{E:CE}{xb:XF}(hs:bO P w K mg base k fns)(hE:dX P w K mg base k E)(hxs:dh P w K mg base k fx)(hms:cQ P w K mg base k mx)(KX:K.In h)(G:h.Ns mainGlobals mg)(dj:∀y∈blt,mg y=none)(hcl:∀y∈cl,∃C,tM K mg y C)(hD:cV K x st)(hb0:mz x st ps)(S:jJ (fu (aY st).names) ps (aY st))(hu:(aY st).names.all (λy=>decide ((aY st).names.lookup y.1=some y.2))=true)(hn:(fu (aY st).names).length=n)(hb:lN m (lE st fns blt E) fx mx cl (fV st)=some xb):dh P w K mg base (k+1) ((x,ps.length,nM n xb)::fx):=by
 intro y j ξ e;rw[iZ] at e;split at e
 .rename_i q;cases e;have:y=x:=by simpa using q
  subst this;obtain⟨f,fd,a,F⟩:=hD;exact⟨f,fd,ps,mg_of KX G a,F.kp,F.binds hb0,Uy F hs hE hxs hms dj hcl S hu hn hb⟩
 .exact(hxs y j ξ e).mono (Nat.le_succ _)
theorem Wl{C:Str}{fx:List (Str×Nat×XN)}{mx:List (Str×Str×Nat×XN)}{cl blt:List Str}{E:CE}{xb:XF}(hs:bO P w K mg base k fns)(hE:dX P w K mg base k E)(hxs:dh P w K mg base k fx)(hms:cQ P w K mg base k mx)(hc:je K (cj K C))(dj:∀y∈blt,mg y=none)(hcl:∀y∈cl,∃C,tM K mg y C)(hD:fZ K C x st)(hb0:vp C x st ps)(S:jJ (fu (aY st).names) ps (aY st))(hu:(aY st).names.all (λy=>decide ((aY st).names.lookup y.1=some y.2))=true)(hn:(fu (aY st).names).length=n)(hb:lN m (lE st fns blt E) fx mx cl (fV st)=some xb):cQ P w K mg base (k+1) ((x,C,ps.length,nM n xb)::mx):=by
 intro y C' j ξ e;rw[iZ] at e;split at e
 .rename_i q;cases e;have:y=x:=by simpa using q
  subst this;obtain⟨f,fd,a,F⟩:=hD;exact⟨f,fd,ps,hc,a,F.binds hb0,Uy F hs hE hxs hms dj hcl S hu hn hb⟩
 .exact(hms.mono (Nat.le_succ _)) y C' j ξ e
end
end MX
end
section
namespace MX
open PySem PySem.Spec PySem.W PySem.Calls PyProof.Rows L2
noncomputable def Rh(es:List Expr):Option (Arguments×Expr×Scope×Pos):=match es with
 |[]=>none
 |l::r=>match r with
  |_::_=>none
  |[]=>match l with
   |.Lambda params body scope pos=>some (params,body,scope,pos)
   |_=>none
theorem zhs(h:Rh es=some (params,body,scope,pos)):es=[.Lambda params body scope pos]:=by
 cases es with
 |nil=>cases h
 |cons l r=>cases r with
  |cons _ _=>cases h
  |nil=>cases l with
   |Lambda a b c d=>cases h;rfl
   |_=>cases h
def noArgs:Arguments:={ posonlyargs:=[],args:=[],vararg:=none,kwonlyargs:=[],kw_defaults:=[],kwarg:=none,defaults:=[] }
noncomputable def Jx(params:Arguments):Bool:=params.args.isEmpty&&params.posonlyargs.isEmpty&&params.vararg.isNone&&params.kwonlyargs.isEmpty&&params.kw_defaults.isEmpty&&params.kwarg.isNone&&params.defaults.isEmpty
theorem zki(h:Jx params=true):params=noArgs:=by obtain⟨a,b,c,d,e,f,g⟩:=params;unfold Jx at h;simp only[cG,List.isEmpty_iff,Option.isNone_iff_eq_none] at h;obtain⟨⟨⟨⟨⟨⟨h1,h2⟩,h3⟩,h4⟩,h5⟩,h6⟩,h7⟩:=h;subst h1 h2 h3 h4 h5 h6 h7;rfl
noncomputable def uT(c:Ctx)(scope:Scope):Bool:=decide (scope.kind = .function) && !scope.isCoroutine && !scope.isGenerator&&scope.names.all (λy=>decide (y.2 ≠ .cell)) &&
 scope.names.all (λy=>decide (scope.names.lookup y.1=some y.2))&&scope.names.all (λy=>decide (y.2 = .free->c.names.lookup y.1=some .cell))&&decide (nG scope.names).Nodup
noncomputable def Af(c:Ctx)(E:CE)(names:List (Str×NameKind)):Ctx:={ N:=nG names,names:=names,sts:=[],fns:=c.fns,blt:=c.blt,flds:=E.flds,mths:=E.mths,mks:=E.mks,gls:=E.gls }
noncomputable def Jk(c:Ctx)(E:CE)(fx:List (Str×Nat×XN))(mx:List (Str×Str×Nat×XN))(x0:Str)(iT:Nat->D)(x:Str)(es:List Expr):Option EF:=if x=x0/\lH x=false/\c.names.lookup x=some .globalImplicit then match Rh es with
 |none=>none
 |some (params,body,scope,_)=>if Jx params=true/\uT c scope=true then
  (oY c (nG scope.names)).bind λsrc=>(cE 60 (Af c E scope.names) body).bind λfb=>(xE (Af c E scope.names) fx mx body).map λxb=>yL src fb xb iT
  else none
 else none
theorem ziK{c:Ctx}{E0:CE}{fx:List (Str×Nat×XN)}{mx:List (Str×Str×Nat×XN)}{x0:Str}{iT:Nat->D}{Pt ct:Addr}{cc:Nat->Addr}{tS:TS}(hN:X.N=c.N)(hnm:X.env.scope.names=c.names)(dj:∀x∈c.blt,X.mg x=none)(L:vL X Pt ct)(hr:aV (k+2) X.A)(hF:∀base:Heap,Mod X.K X.mg base->BM base X.mg->bO X.prog X.w X.K X.mg base k c.fns/\dX X.prog X.w X.K X.mg base k E0/\dh X.prog X.w X.K X.mg base k fx/\cQ X.prog X.w X.K X.mg base k mx)(hname:∀i<4,X.mg (wn i)=some (.ref (cc i)))(hm:X.mg x0=some (.ref f))(hk:keepIn X.K (.ref f)=true)(hb:Binds X.K fd [p1] [])(hG:∀base:Heap,Ga X.prog X.w X.K X.mg base (k+1) f fd p1 cc tS)(xK:∀(a e:Addr) (i:Nat) (H:Hp) (Q:VK),i<4->H e=some (qI e (cc i))->(∀v H',dM H H'->(∀α,Rep X.K H' α (iT i) v)->Q v H')->tS { nx:=λ_ _=>False,rt:=Q } [some (.ref a),some (.ref e)] H){g:EF}(h:Jk c E0 fx mx x0 iT x es=some g):SE X (.Call (.Name x p) es [] pos) g:=by
 unfold Jk at h;split at h
 .rename_i h0;obtain⟨rfl,h1,h2⟩:=h0;split at h
  .cases h
  .rename_i params body scope aW el;split at h
   .rename_i hc;obtain⟨c1,c2⟩:=hc;have el:=zhs el;have c1:=zki c1;subst el c1;obtain⟨src,e2,h⟩:=aU.mp h;obtain⟨fb,e3,h⟩:=aU.mp h;obtain⟨xb,e4,rfl⟩:=aR.mp h;unfold uT at c2;simp only[cG,tL,Bool.not_eq_true',List.all_eq_true] at c2;obtain⟨⟨⟨⟨⟨⟨k1,k2⟩,k3⟩,k5⟩,k6⟩,k7⟩,k8⟩:=c2;obtain⟨s1,s2⟩:=Lg e2;refine zog (cap:=nG scope.names) (k:=k) (c:=cc) (tS:=tS) L ⟨k1,k2,k3,k5⟩ k6 (λy hy=>Sw hy) (λy hy hf=>?_) (λi y hi=>?_) s1 rfl (λpm cdv ctv clos qual=>rfl) (λbase M kb a cdv clos qual A outer s H E hrm=>?_) hname (λbase _ _=>hG base) xK hr ?_ hm hk hb (ou h1) (ig rfl _ X.env)
    .show X.env.scope.names.lookup y.1=_;rw[hnm];exact k7 y hy hf
    .obtain⟨j,j1,j2⟩:=s2 i y hi;exact⟨j,j1,by rw[hN];exact j2⟩
    .have hBM:BM base X.mg:=by obtain⟨bm,o,b1,b2,b3,b4,b5,b6⟩:=L.bm;exact⟨bm,o,b1,b2,kb _ _ b3,b4,b5,b6⟩
     obtain⟨f1,f2,f3,f4⟩:=hF base M hBM;have Yh:∀X':Cx,X'.prog=X.prog->X'.w=X.w->X'.K=X.K->X'.mg=X.mg->X'.base=base->aV k X'.A->X'.N=nG scope.names->X'.env.scope.names=scope.names->X'.env.scope.kind = .function->X'.calm=true->d9 (Af c E0 scope.names) X':=λX' q1 q2 q3 q4 q5 q6 q7 q8 q9 q10=>by
      refine⟨q7,k8,q8,q9,λy hy=>(nomatch hy),λy n ψ hl=>?_,λy hy=>by rw[q4];exact dj y hy,q10,q6.units,λ_ _ _ h=>(nomatch h),λ_ _ _ h=>(nomatch h),λ_ _ _ _ _ h=>(nomatch h),λ_ _ _ _ _ _ h=>(nomatch h),λx y e=>by rw[q4];exact f2.gls x y e,λg C e=>?_,λy C n ψ e=>?_,λC n ψ e=>?_⟩
      .obtain⟨f',fd',ps',m1,m2,m3,m4⟩:=f1 y n ψ hl;exact⟨f',fd',ps',k,by rw[q4];exact m1,by rw[q3];exact m2,by rw[q3];exact m3,by rw[q1,q2,q3,q4,q5];exact m4,q6⟩
      .obtain⟨a1,a2⟩:=f2.flds g C e;exact⟨by rw[q3];exact a1,by rw[q3];exact a2⟩
      .obtain⟨f',fd',ps',m1,m2,m3,m4⟩:=f2.mths y C n ψ e;exact⟨f',fd',ps',k,by rw[q3];exact m1,by rw[q3];exact m2,by rw[q3];exact m3,by rw[q1,q2,q3,q4,q5];exact m4,q6⟩
      .obtain⟨f',fd',ps',j,hj,m1,m2,m3,m4⟩:=f2.mks C n ψ e;exact⟨f',fd',ps',j,by rw[q3,q4];exact m1,by rw[q3];exact m2,by rw[q3];exact m3,by rw[q1,q2,q3,q4,q5];exact m4,q6.mono hj⟩
     refine⟨(jA 60).1 (Af c E0 scope.names) _ body fb (Yh _ rfl rfl rfl rfl rfl hrm rfl rfl k1 rfl) e3,?_⟩;exact Bq (c:=Af c E0 scope.names) (X:=pK X.prog X.w X.K X.mg base (nG scope.names) qual scope a cdv clos A outer s H E) (Yh _ rfl rfl rfl rfl rfl hrm rfl rfl k1 rfl) zpW (λy n ξ hl=>⟨k,f3 y n ξ hl,hrm⟩) (λm C n ξ hl=>by
      obtain⟨f',fd',ps',m1,m2,m3,m4⟩:=f4 m C n ξ hl;exact⟨f',fd',ps',k,m1,m2,m3,m4,hrm⟩) e4
    .show X.env.scope.names.lookup _=_;rw[hnm];exact h2
   .cases h
 .cases h
noncomputable def Dw(st:Stmt)(fns:List (Str×Nat×GN))(blt:List Str)(E:CE)(ext:Str->List Expr->Option EF):Ctx:={ lE st fns blt E with ext:=ext }
theorem zkF{P:Program}{p:Str}{blt:List Str}{E:CE}{fa c:Addr}{ys:List Str}{ext:Str->List Expr->Option EF}(KX:K.In h)(G:h.Ns mainGlobals mg)(dj:∀y∈blt,mg y=none)(hfa:mg x=some (.ref fa))(hD:qM K x st c)(hC:∀h:Heap,K.In h->CodeHd h c (gY K x))(hx:x∈ys)(hnd:(ys.map (gY K)).Nodup)(hb0:mz x st [p])(S:jJ (fu (aY st).names) [p] (aY st))(hu:(aY st).names.all (λy=>decide ((aY st).names.lookup y.1=some y.2))=true)(hn:(fu (aY st).names).length=n)(hb:jq m (Dw st fns blt E ext) (fV st)=some fb)(hs:∀base:Heap,Mod K mg base->BM base mg->bO P w K mg base k fns/\dX P w K mg base k E)(hext:∀X:Cx,X.prog=P->X.w=w->X.K=K->X.mg=mg->X.N=fu (aY st).names->X.env.scope.names=(aY st).names->vL X (gY K x) c->aV (k+2) X.A->∀x es f p pos,ext x es=some f->SE X (.Call (.Name x p) es [] pos) f)(hφ:∀ns:List Int,ns.length<=63->∃Z' gP,fb (iH n [.ref 0]) (.frz (ns.map D.int)::ys.map O.tbl)=some (.rt (.bl true),Z',gP)):
 ∃(fd:FuncData),(∀(s:Shared) (v:Value),BindsTo s fd ⟨[v],[]⟩ [(p,v)])/\∀base:Heap,Mod K mg base->BM base mg->bR P w K mg base fU (k+3) fa fd [p] (FN K 63 (ys.map (gY K))):=by
 obtain⟨f,fd,ha,F,hcode⟩:=hD;have e:=hfa.symm.trans (PySem.W.mg_of KX G ha);cases e;obtain⟨oc,od,kV,doc,pm,an,lq,ct,osl,rfl,lk,pF⟩:=F.ex;refine⟨_,λs v => .of_eq (hb0 kV doc pm an lq ct [v] rfl),λbase M B=>?_⟩;refine Ao lk pF S (λvs H Q E h=>?_) (λA outer s H vs Q E' hr h=>?_)
 .obtain⟨_,a,ns,rfl,_⟩:=h;rfl
 obtain⟨htab,a,ns,rfl,hz,hl,kk⟩:=h;obtain⟨f1,f2⟩:=hs base M B;obtain⟨_,o0⟩:=G3 (CX:=fU) (P:=P) (w:=w) (qual:=x) (f:=fa) (cdv:=lq) (outer:=outer) (H:=H) (E':=E') S hu f1 dj f2 (hr.mono (Nat.le_add_right k 2));have ok:d9 (Dw st fns blt E ext) (kE fU P w K mg base (fu (aY st).names) x (aY st) fa lq A outer s H E').nox :=
  ⟨o0.N,o0.nd,o0.names,o0.kind,o0.st,o0.fns,o0.blt,o0.calm,o0.un,o0.lf,λ_ _ _ h=>(nomatch h),hext _ rfl rfl rfl rfl rfl rfl ⟨λ_=>rfl,htab _ (List.mem_map_of_mem hx),hcode,hC _ M.kin,B⟩ hr,λ_ _ _ _ _ _ h=>(nomatch h),o0.gls,o0.flds,o0.mths,o0.mks⟩
 refine⟨Dh K fb,((Bp m _ _ ok PassesOwn.never).2 _ fb hb).nox,?_⟩;obtain⟨Z',gP,e⟩:=hφ ns hl;have hst:=znT (K:=K) (H:=H) hnd hz htab;have e0:nF (fu (aY st).names) [D.ref 0]=iH n [D.ref 0]:=by unfold nF iH;rw[hn]
 rw[<-e0] at e;refine⟨_,_,_,_,Z',gP,Hw (K:=K) (α:=a::ys.map (gY K)) (.cons (.ref rfl) .nil),hst,e,λσ2 H2 α2 v2 s2 x2 v rv=>?_⟩;cases rv;exact kk H2
theorem znG{P:Program}{tS:TS}(KX:K.In h)(G:h.Ns mainGlobals mg)(hD:cV K x st)(hb0:mz x st [p1])(S:jJ N [p1] (aY st))(Qy:N.length=2)(hB:∀(X:Cx) (a:Addr) (fl:FuncData) (sp:Sp) (k:Nat),X.prog=P->X.w=w->X.K=K->X.mg=mg->X.N=N->X.env.scope=aY st->(∀y,X.fn y=true)->X.stack=X.env::X.outer->X.env.frame=some X.env.locals->aV k X.A ->
  bR X.prog X.w X.K X.mg X.base (m6 X.prog X.w) k a fl [] sp->X.base.get? a=some { cls := .type "function",data := .func fl }->(∀s:Shared,BindsTo s fl ⟨[],[]⟩ []) ->
  1<=k->fL X (fV st) (λD Z H=>Z[0]?=some (some (.ref a))/\(eF X.H₀ H->sp [] H D.rt (xZ c tS 1 D Z)))):
 ∃f fd,mg x=some (.ref f)/\keepIn K (.ref f)=true/\Binds K fd [p1] []/\∀(base:Heap) (k:Nat),1<=k->Ga P w K mg base k f fd p1 c tS:=by
 obtain⟨f,fd,a,F⟩:=hD;refine⟨f,fd,mg_of KX G a,F.kp,F.binds hb0,λbase k hk a fl sp FL ho hb=>?_⟩;obtain⟨oc,od,kV,doc,pm,an,cdv,ct,osl,rfl,lk,hcd⟩:=F.ex;refine Ao lk hcd S (λvs H Q E h=>by rw[h.1];rfl) λA outer s H vs Q E hr hh=>?_;obtain⟨rfl,hsp⟩:=hh;refine⟨_,hB (kE fU P w K mg base N x (aY st) f cdv A outer s H E) a fl sp k rfl rfl rfl rfl rfl rfl (λ_=>rfl) rfl rfl hr FL ho hb hk,?_⟩;have e:L2.start N [V.ref a]=[some (.ref a),none]:=by unfold L2.start;rw[Qy];rfl
 rw[e];exact⟨rfl,λ_=>hsp⟩
theorem Z6(KX:K.In h)(G:h.Ns mainGlobals mg)(e:sV K=true):
 yI K mg (λi=>cj K (wn i)) (cj K "HitError")/\Jt K (λi=>cj K (wn i)) (cj K "HitError")/\∀i<4,∃C,tM K mg (wn i) C:=by
 unfold sV at e;simp only[cG,beq_iff_eq,List.all_eq_true,List.mem_range] at e;obtain⟨e1,⟨e2,e3⟩,e4,e5⟩:=e;have one:∀i<4,_:=λi hi=>by have:=e1 i hi;unfold Rf at this;simp only[cG,beq_iff_eq,List.all_eq_true,List.mem_range] at this;exact this
 refine⟨⟨λi hi=>mg_of KX G (one i hi).2.2.2.2.2,mg_of KX G e2,λi hi=>(one i hi).1.1,λi hi j hj=>(one i hi).2.2.2.2.1 j hj,λi hi=>(one i hi).2.2.1,λi hi=>(one i hi).2.2.2.1,mg_none_of KX G e4,mg_none_of KX G e5⟩,
  ⟨λi hi=>(one i hi).1.2,e3,λi hi=>(one i hi).2.1⟩,λi hi=>⟨_,mg_of KX G (one i hi).2.2.2.2.2,(one i hi).1.2⟩⟩
def Jv(P:Program)(w:World)(K:FgA)(mg:Str->Option Value)(x p1:Str)(c:Nat->Addr):Prop :=
 ∃f fd,mg x=some (.ref f)/\keepIn K (.ref f)=true/\Binds K fd [p1] []/\∀base:Heap,Q6 P w K mg base 1 f fd [p1] (Rm c)
theorem znz{P:Program}{z:Str}(T:yI K mg c cH)(KX:K.In h)(G:h.Ns mainGlobals mg)(hD:cV K x st)(hb0:mz x st [p1])(S:jJ N [p1] (aY st))(Qy:N.length=2)(hB:∀X:Cx,yI X.K X.mg c cH->X.N=N->X.env.scope=aY st->(∀y,X.fn y=true)->fL X (fV st) (Jj X.K c cH z)):Jv P w K mg x p1 c:=by
 obtain⟨f,fd,a,F⟩:=hD;refine⟨f,fd,mg_of KX G a,F.kp,F.binds hb0,λbase=>?_⟩;obtain⟨oc,od,kV,doc,pm,an,cdv,ct,osl,rfl,lk,hcd⟩:=F.ex;refine Z8 lk hcd S λA outer s H vs Q hsp=>?_;obtain⟨e,i,rfl,hi,he,hq⟩:=hsp;refine⟨_,hB (QK P w K mg base N x (aY st) f cdv A outer s H) T rfl rfl (λ_=>rfl),?_⟩;have e0:L2.start N [V.ref e]=[some (.ref e),none]:=by unfold L2.start;rw[Qy];rfl
 rw[e0];exact ziL T hi he hq
def X3(c:Nat->Addr):TE:=λZ H Q=>(jV (oV 1) qL) Z H λvs H1=>vs.length=1/\Rm c vs H1 Q
theorem zoB{P:Program}{q r:Pos}(W:Jv P w K mg x p1 c)(hP:X.prog=P)(hw:X.w=w)(hK:X.K=K)(hm:X.mg=mg)(hr:aV 1 (um X.A))(hg:Gl X x)(hd:(x==("__debug__" : Str))=false)(hN:X.N[1]?=some y)(hv:qw X.env.scope y)(hd1:(y==("__debug__" : Str))=false)(hd2:(y==("__classdict__" : Str))=false):PE X (.Call (.Name x p) [.Name y q] [] r) (X3 c):=by obtain⟨f,fd,m1,m2,m3,m4⟩:=W;subst hP hw hK hm;exact zmj (m4 X.base) hr hg m1 m2 m3 (jW (yW hN hv hd1 hd2) uo) hd
def wN(z:Str)(c:Nat->Addr):TS:=rO (Cq (jV (tC (.str z)) (jV (X3 c) qL)))
def Same.sameT(s:Same H H'):dM H H':=⟨λb o q _=>s b o q,λb ps q=>⟨ps,s b _ q⟩⟩
def rN(z:Str)(i:Nat):D := .tup [.str z,.str (wn i)]
theorem znJ{z:Str}(a e:Addr)(i:Nat)(H:Hp)(Q:VK)(hi:i<4)(he:H e=some (qI e (c i)))(hQ:∀v H',dM H H'->(∀α,Rep K H' α (rN z i) v)->Q v H'):wN z c { nx:=λ_ _=>False,rt:=Q } [some (.ref a),some (.ref e)] H:=by refine⟨.ref e,rfl,rfl,e,i,rfl,hi,zps he,λH' hs=>⟨by show 2<=sizeLine;decide,λp hp=>hQ _ _ (Same.sameT λb o q=>?_) λα => .tup (.inl (.inl dI)) (.cons (.str _) (.cons (.str _) .nil))⟩⟩;rw[bQ (fH (hs b o q) hp)];exact hs b o q
def zjX{v:Value}(hr:aV k A)(hk:1<=k):aV 1 (um (A.mark (some v))):=by have:=hr.mono hk;exact⟨rfl,this.dp,this.un⟩
end MX
end
end
section
namespace MX.K17
open PySem PySem.Spec PySem.W PySem.Calls PyProof.Rows L2 MX
theorem zju{X:Cx}{c:Nat->Addr}{cH:Addr}(T:yI X.K X.mg c cH)(hN:X.N=(["_law_e", "_law_flags"]:List Str))(hs:X.env.scope=aY (top 57))(hfn:∀y,X.fn y=true):
 fL X (fV (top 57)) (Jj X.K c cH "other"):=by
 have gl:∀{x:Str},(aY (top 57)).names.lookup x=some .globalImplicit->Gl X x:=λ{x} h=>by show X.env.scope.names.lookup _=_;rw[hs];exact h
 have n0:X.N[0]?=some ("_law_e" : Str):=by rw[hN];rfl
 have n1:X.N[1]?=some ("_law_flags" : Str):=by rw[hN];rfl
 have v0:qw X.env.scope "_law_e" := .inl (by rw[hs];rfl);have v1:qw X.env.scope "_law_flags" := .inl (by rw[hs];rfl);have isi:∀{e:Expr} {v:V} {p q r:Pos},PE X e (tC v)->jh e=true->PE X (.Call (.Name "isinstance" p) [.Name "_law_e" q,e] [] r) (uc X.K v):=λ{e v p q r} h hn =>
  Vj zmV (gl rfl) T.isi rfl (jW (yW n0 v0) (jW h uo (ig hn [] X.env))) (hpl:=by rw[ig hn [] X.env];rfl)
 have cls:∀(i:Nat) (hi:i<4) {p:Pos},Gl X (wn i)->((wn i)==("__debug__" : Str))=false->PE X (.Name (wn i) p) (tC (.ref (c i))):=λi hi p hg hd=>Uk hg (T.name i hi) rfl hd;refine uq (RT (i:=1) (by rw[hN];decide) n1 (.inl (by rw[hs];rfl)) (Kl (jW (isi (cls 0 (by decide) (gl rfl) (by decide)) rfl) (jW (isi (cls 1 (by decide) (gl rfl) (by decide)) rfl) (jW (isi (cls 2 (by decide) (gl rfl) (by decide)) rfl) (jW (isi (cls 3 (by decide) (gl rfl) (by decide)) rfl) uo))))) (hf := .inl (hfn _))) ?_;refine uq (JM ?_ (uq (Ay vX) Gy) Gy) (uq (Ay (Rv Kr (Kl (jW vX (jW vX (jW vX (jW vX uo))))) (JQ PySem.F.plainAttrs_list PySem.F.slot_list_index PySem.F.type_list_index zkm (yW n1 v1) (jW JP uo)) (λ_ _=>rfl))) Gy);exact PW.pt (JN (Uq YX (JQ PySem.F.plainAttrs_list PySem.F.slot_list_count PySem.F.type_list_count zko (yW n1 v1) (jW JP uo)) RP (Jw _)) (JN (Kc (RV (isi (Uk (gl rfl) T.hit rfl) rfl))) (RX (Kc (RV (isi (Tn (gl rfl) T.val rfl rfl) rfl))))))
theorem znH{w:World}{K:FgA}{mg:Str->Option Value}{h:Heap}{c:Nat->Addr}{cH:Addr}(T:yI K mg c cH)(O:Jt K c cH)(KX:K.In h)(G:h.Ns mainGlobals mg)(hW:cV K "_law_word" (top 57))(hT:cV K "_law_told" (top 58)):
 ∃f fd,mg "_law_told" = some (.ref f)/\keepIn K (.ref f)=true/\Binds K fd ["_law_rule"] []/\∀(base:Heap) (k:Nat),1<=k->Ga PG w K mg base k f fd "_law_rule" c (wN "refused" c):=by
 have W:Jv PG w K mg "_law_word" "_law_e" c:=znz (N:=["_law_e", "_law_flags"]) T KX G hW (zuC λ_ _ _ _ _ _ _=>rfl) ⟨rfl,rfl,rfl,by decide +kernel,by kernel_rfl,by decide +kernel,by decide +kernel⟩ rfl λX T' hN hs hfn=>zju T' hN hs hfn;refine znG (N:=["_law_rule", "_law_e"]) KX G hT (zuC λ_ _ _ _ _ _ _=>rfl) ⟨rfl,rfl,rfl,by decide +kernel,by kernel_rfl,by decide +kernel,by decide +kernel⟩ rfl λX a fl sp k hP hw hK hm hN hs hfn hst hfr hr F ho hb hk=>?_;have gl:∀{x:Str},(aY (top 58)).names.lookup x=some .globalImplicit->Gl X x:=λ{x} h=>by show X.env.scope.names.lookup _=_;rw[hs];exact h
 have n0:X.N[0]?=some ("_law_rule" : Str):=by rw[hN];rfl
 have n1:X.N[1]?=some ("_law_e" : Str):=by rw[hN];rfl
 have v1:qw X.env.scope "_law_e" := .inl (by rw[hs];rfl);refine Uo (zoq (j:=1) F hr ho hb n0 (.inl (by rw[hs];rfl)) (by decide) (by decide) hst hfr (hK ▸ O) (gl rfl) (hm ▸ T.hit) (by decide) (by rw[hN];decide) n1 (by rw[hs];rfl) λe=>?_);exact Uo (Ay (RQ (jW vX (jW (zoB (X:=QL X e) W hP hw hK hm (zjX hr hk) (gl rfl) (by decide) n1 v1 (by decide) (by decide)) uo))))
end MX.K17
end
section
namespace MX.P
open PySem L2 MX
def WW:SF:=aB (bW (eV (fP (aj 0)) (aL 0) d8 (eB aH (aj 0) (aj 1)) [none,some 1])) aP
def Hz:GN:=fnOf 2 WW
noncomputable def WT:SF:=aB (bD (eV (nj (ak (kq 3) au)) (aL 0) d8 (eN qP (ak (eN (aO 2 Hz) (ak (aj 1) (ak (aj 0) au))) au)) [none,some 0]) (aL 1)) (aB (bD (eV (nj (ak (kq 3) au)) (aL 0) d8 (eN lF (ak (eN (aO 2 Hz) (ak (aj 1) (ak (aj 0) au))) au)) [none,some 0]) (aL 2)) (aB (bW (eN b8 (ak (eN qZ (ak (aj 1) au)) (ak (eN qZ (ak (aj 2) au)) au)))) aP))
def zE:GN:=fnOf 3 WT
def Xi:SF:=aB (bW (eN qJ (ak (eV (qK (ak (aj 0) (ak (aj 1) au))) (lO 2 (gA (aL 0) (gA (aL 1) nJ))) d8 (eB (bB .LtE) (aj 0) (aj 1)) [none,none]) au))) aP
def Nq:GN:=fnOf 2 Xi
noncomputable def Mh:SF:=aB (dD (bZ (eB (bB .Eq) (j9 (aj 0) lG (jT (kq 1))) (eN b8 (ak (eC (.str "box")) au)))) (aB (bW (pP (eB (bB .Eq) (eN iD (ak (aj 0) au)) (kq 3)) (eN (aO 2 Nq) (ak (eB aH (aj 0) (kq 1)) (ak (eB aH (aj 0) (kq 2)) au))))) aP) aP) (aB (bW (pP (eB (bB .Eq) (j9 (aj 0) lG (jT (kq 1))) (eN b8 (ak (eC (.str "triangle")) au))) (eB (bB .Eq) (eN iD (ak (aj 0) au)) (kq 4)))) aP)
def wA:GN:=fnOf 1 Mh
def XC:SF:=aB (dD (pY (jy (eN (aO 1 wA) (ak (aj 0) au)))) (aB FT aP) aP) aP
def BZ:GN:=fnOf 1 XC
def zdU:XF:=uH (pY (jy (eN (aO 1 wA) (ak (aj 0) au)))) (λZ S=>((eC (.str "neither a box with its corners in order nor a triangle")) Z S).map λr=>("NoShape",r.2)) wJ
def zdY:XN:=nM 1 zdU
def U8:SF:=aB (jH (eN (aO 1 BZ) (ak (aj 0) au))) (aB (bW (eN (aO 1 zE) (ak (eN qO (ak (j9 (aj 0) (jT (kq 1)) lG) au)) au))) aP)
def wg:GN:=fnOf 1 U8
noncomputable def M9:SF:=aB (dD (bZ (eB (bB .Eq) (aj 0) (eN kJ au))) (aB (bW (eB (aN .Mult) (aj 1) (kq 7919))) aP) aP) (aB (bW (eB (aN .Add) (eB aH (aj 0) (eB (aN .Mod) (aj 1) (eN iD (ak (aj 0) au)))) (eB (aN .Mult) (eB (aN .FloorDiv) (aj 1) (eN iD (ak (aj 0) au))) (kq 104729)))) aP)
def nU:GN:=fnOf 2 M9
noncomputable def M4:SF:=aB (bD (eB (aN .Mod) (eB (aN .Add) (eB (aN .Mult) (aj 0) (kq 6364136223846793005)) (eB (aN .Mult) (eB (aN .Add) (aj 1) (kq 1)) (kq 1442695040888963407))) (kq 340282366920938463463374607431768211507)) (aL 2)) (aB (bW (eB (aN .Mod) (eB (aN .Mult) (aj 2) (aj 2)) (kq 340282366920938463463374607431768211297))) aP)
def zB:GN:=fnOf 3 M4
def Xy:SF:=aB (jK (bZ (eB (bB .NotEq) (aj 1) (kq 0))) (aB (bD (eB (aN .Mod) (aj 0) (aj 1)) (aL 2)) (aB (bD (aj 1) (aL 0)) (aB (bD (aj 2) (aL 1)) aP)))) (aB (bW (eN tR (ak (aj 0) au))) aP)
def HF:GN:=fnOf 3 Xy
def Xj:SF:=aB (bD (eN (aO 2 HF) (ak (eB aH (aj 0) (kq 0)) (ak (eB aH (aj 0) (kq 1)) au))) (aL 1)) (aB (bW (eN b8 (ak (eB (aN .FloorDiv) (eB aH (aj 0) (kq 0)) (aj 1)) (ak (eB (aN .FloorDiv) (eB aH (aj 0) (kq 1)) (aj 1)) au)))) aP)
def uF:GN:=fnOf 2 Xj
def Lh:SF:=aB (bW (eB (bB .Lt) (eB (aN .Mult) (eB aH (aj 0) (kq 0)) (eB aH (aj 1) (kq 1))) (eB (aN .Mult) (eB aH (aj 1) (kq 0)) (eB aH (aj 0) (kq 1))))) aP
def zx:GN:=fnOf 2 Lh
noncomputable def N5:SF:=aB (bW (eN b8 (ak (eB (aN .Sub) (eB aH (aj 1) (kq 0)) (eB aH (aj 0) (kq 0))) (ak (eB (aN .Sub) (eB aH (aj 1) (kq 1)) (eB aH (aj 0) (kq 1))) (ak (eB (aN .Sub) (eB aH (aj 1) (kq 2)) (eB aH (aj 0) (kq 2))) au))))) aP
def eO:GN:=fnOf 2 N5
noncomputable def JG:SF:=aB (bW (eB (aN .Add) (eB (aN .Add) (eB (aN .Mult) (eB aH (aj 0) (kq 0)) (eB aH (aj 1) (kq 0))) (eB (aN .Mult) (eB aH (aj 0) (kq 1)) (eB aH (aj 1) (kq 1)))) (eB (aN .Mult) (eB aH (aj 0) (kq 2)) (eB aH (aj 1) (kq 2))))) aP
def fQ:GN:=fnOf 2 JG
noncomputable def KH:SF:=aB (bW (eN b8 (ak (eB (aN .Sub) (eB (aN .Mult) (eB aH (aj 0) (kq 1)) (eB aH (aj 1) (kq 2))) (eB (aN .Mult) (eB aH (aj 0) (kq 2)) (eB aH (aj 1) (kq 1)))) (ak (eB (aN .Sub) (eB (aN .Mult) (eB aH (aj 0) (kq 2)) (eB aH (aj 1) (kq 0))) (eB (aN .Mult) (eB aH (aj 0) (kq 0)) (eB aH (aj 1) (kq 2)))) (ak (eB (aN .Sub) (eB (aN .Mult) (eB aH (aj 0) (kq 0)) (eB aH (aj 1) (kq 1))) (eB (aN .Mult) (eB aH (aj 0) (kq 1)) (eB aH (aj 1) (kq 0)))) au))))) aP
def jm:GN:=fnOf 2 KH
noncomputable def O2:SF:=aB (dD (bZ (eB (bB .Gt) (aj 1) (kq 0))) (aB (bW (eN b8 (ak (eN b8 (ak (eB (aN .Sub) (aj 2) (aj 0)) (ak (aj 1) au))) (ak (eN b8 (ak (eB (aN .Sub) (aj 3) (aj 0)) (ak (aj 1) au))) au)))) aP) aP) (aB (bW (eN b8 (ak (eN b8 (ak (eB (aN .Sub) (aj 0) (aj 3)) (ak (eU vB (aj 1)) au))) (ak (eN b8 (ak (eB (aN .Sub) (aj 0) (aj 2)) (ak (eU vB (aj 1)) au))) au)))) aP)
def O4:GN:=fnOf 4 O2
def MJ:SF:=bD (eN b8 (ak (kq 0) (ak (kq 1) au))) (aL 2)
def MK:SF:=bD (eC .non) (aL 3)
noncomputable def Bu:SF:=dD (bZ (eB (bB .Eq) (aj 5) (kq 0))) (aB (dD (kW (bZ (eB (bB .Lt) (aj 4) (aj 6))) (bZ (eB (bB .Gt) (aj 4) (aj 7)))) (aB (bW (eC .non)) aP) aP) (aB o5 aP)) aP
def Ni:SF:=bD (eN (aO 4 O4) (ak (aj 4) (ak (aj 5) (ak (aj 6) (ak (aj 7) au))))) (aL 8)
def Nj:SF:=dD (jy (eN (aO 2 zx) (ak (aj 2) (ak (eB aH (aj 8) (kq 0)) au)))) (aB (bD (eB aH (aj 8) (kq 0)) (aL 2)) aP) aP
def Nk:SF:=dD (kW (bZ (eB (bB .Is) (aj 3) (eC .non))) (jy (eN (aO 2 zx) (ak (eB aH (aj 8) (kq 1)) (ak (aj 3) au))))) (aB (bD (eB aH (aj 8) (kq 1)) (aL 3)) aP) aP
def qi:SF:=aB Bu (aB Ni (aB Nj (aB Nk aP)))
def MN:SF:=oE (qK (ak (eB aH (aj 0) (kq 0)) (ak (eB aH (aj 0) (kq 1)) (ak (eB aH (aj 1) (kq 0)) (ak (eB aH (aj 1) (kq 1)) au))))) (lO 4 (gA (aL 4) (gA (aL 5) (gA (aL 6) (gA (aL 7) nJ))))) qi
def BR:SF:=dD (jy (eN (aO 2 zx) (ak (aj 3) (ak (aj 2) au)))) (aB (bW (eC .non)) aP) aP
def Ww:SF:=bW (eN b8 (ak (aj 2) (ak (aj 3) au)))
def Ho:SF:=aB MJ (aB MK (aB MN (aB BR (aB Ww aP))))
def wC:GN:=fnOf 9 Ho
def MF:SF:=aB (bD (eN (aO 2 wC) (ak (aj 0) (ak (aj 1) au))) (aL 2)) (aB (dD (bZ (eB (bB .Is) (aj 2) (eC .non))) (aB (bW (eC .non)) aP) aP) (aB (bW (eN (aO 1 uF) (ak (eB aH (aj 2) (kq 0)) au))) aP))
def zdt:GN:=fnOf 3 MF
noncomputable def Mg:SF:=aB (bW (eN kJ (ak (eN b8 (ak (eB aH (aj 0) (kq 0)) (ak (eB aH (aj 0) (kq 1)) au))) (ak (eN b8 (ak (eB aH (aj 0) (kq 1)) (ak (eB aH (aj 0) (kq 2)) au))) (ak (eN b8 (ak (eB aH (aj 0) (kq 2)) (ak (eB aH (aj 0) (kq 0)) au))) au))))) aP
def wz:GN:=fnOf 1 Mg
noncomputable def HS:SF:=aB (bD (eB aH (aj 0) (kq 1)) (aL 3)) (aB (bD (eN (aO 2 eO) (ak (eB aH (aj 0) (kq 0)) (ak (aj 1) au))) (aL 4)) (aB (dD (bZ (eB (bB .NotEq) (eN (aO 2 jm) (ak (aj 4) (ak (aj 3) au))) (eN b8 (ak (kq 0) (ak (kq 0) (ak (kq 0) au)))))) (aB (bW (eC .non)) aP) aP) (aB (bD (eN b8 (ak (eN (aO 2 fQ) (ak (aj 4) (ak (aj 3) au))) (ak (eN (aO 2 fQ) (ak (eN (aO 2 eO) (ak (eB aH (aj 0) (kq 0)) (ak (aj 2) au))) (ak (aj 3) au))) au))) (aL 5)) (aB (dD (bZ (eB (bB .Lt) (eN lF (ak (aj 5) au)) (kq 0))) (aB (bW (eC .non)) aP) aP) (aB (bW (eN (aO 1 uF) (ak (eN b8 (ak (eN lF (ak (eN qP (ak (aj 5) au)) (ak (kq 0) au))) (ak (eN (aO 2 fQ) (ak (aj 3) (ak (aj 3) au))) au))) au))) aP)))))
def N7:GN:=fnOf 6 HS
noncomputable def wH:SF:=aB (bD (eB aH (aj 0) (kq 1)) (aL 3)) (aB (bD (eN (aO 2 eO) (ak (aj 1) (ak (aj 2) au))) (aL 4)) (aB (bD (eN (aO 2 jm) (ak (aj 3) (ak (aj 4) au))) (aL 5)) (aB (dD (bZ (eB (bB .Eq) (aj 5) (eN b8 (ak (kq 0) (ak (kq 0) (ak (kq 0) au)))))) (aB (bW (eN (aO 3 N7) (ak (aj 0) (ak (aj 1) (ak (aj 2) au))))) aP) aP) (aB (bD (eN (aO 2 eO) (ak (eB aH (aj 0) (kq 0)) (ak (aj 1) au))) (aL 6)) (aB (dD (bZ (eB (bB .NotEq) (eN (aO 2 fQ) (ak (aj 6) (ak (aj 5) au))) (kq 0))) (aB (bW (eC .non)) aP) aP) (aB (bD (eN (aO 2 fQ) (ak (aj 5) (ak (aj 5) au))) (aL 7)) (aB (bD (eN (aO 2 fQ) (ak (eN (aO 2 jm) (ak (aj 6) (ak (aj 4) au))) (ak (aj 5) au))) (aL 8)) (aB (bD (eN (aO 2 fQ) (ak (eN (aO 2 jm) (ak (aj 6) (ak (aj 3) au))) (ak (aj 5) au))) (aL 9)) (aB (dD (kW (bZ (eB (bB .Lt) (aj 8) (kq 0))) (kW (bZ (eB (bB .Lt) (aj 9) (kq 0))) (bZ (eB (bB .Gt) (aj 9) (aj 7))))) (aB (bW (eC .non)) aP) aP) (aB (bW (eN (aO 1 uF) (ak (eN b8 (ak (aj 8) (ak (aj 7) au))) au))) aP))))))))))
def O3:GN:=fnOf 10 wH
def Xm:SF:=bD (eC .non) (aL 2)
def OD:SF:=bD (eN (aO 3 O3) (ak (aj 0) (ak (aj 3) (ak (aj 4) au)))) (aL 5)
def rG:SF:=dD (qT (bZ (eB (bB .IsNot) (aj 5) (eC .non))) (kW (bZ (eB (bB .Is) (aj 2) (eC .non))) (jy (eN (aO 2 zx) (ak (aj 5) (ak (aj 2) au)))))) (aB (bD (aj 5) (aL 2)) aP) aP
def Ot:SF:=aB OD (aB rG aP)
def O1:SF:=oE (fP (eN (aO 1 wz) (ak (aj 1) au))) (lO 2 (gA (aL 3) (gA (aL 4) nJ))) Ot
def Xn:SF:=bW (aj 2)
def Xq:SF:=aB Xm (aB O1 (aB Xn aP))
def zJ:GN:=fnOf 6 Xq
noncomputable def Oa:SF:=aB (bD (eV (fP (aj 2)) (aL 0) d8 (eN (aO 2 eO) (ak (aj 1) (ak (aj 0) au))) [none,some 0]) (aL 3)) (aB (bD (eV (fP (eN (aO 1 wz) (ak (aj 3) au))) (lO 2 (gA (aL 0) (gA (aL 1) nJ))) d8 (eN (aO 2 fQ) (ak (aj 2) (ak (eN (aO 2 jm) (ak (aj 0) (ak (aj 1) au))) au))) [none,none,some 1]) (aL 4)) (aB (bW (zW (eB (bB .GtE) (eN qP (ak (aj 4) au)) (kq 0)) (eB (bB .LtE) (eN lF (ak (aj 4) au)) (kq 0)))) aP))
def qe:GN:=fnOf 5 Oa
def Om:SF:=aB (dD (jy (eN (aO 3 qe) (ak (eB aH (aj 0) (kq 0)) (ak (aj 2) (ak (aj 1) au))))) (aB (bW (eN b8 (ak (kq 0) (ak (kq 1) au)))) aP) aP) (aB (bW (eN (aO 2 zJ) (ak (aj 0) (ak (aj 1) au)))) aP)
def zO:GN:=fnOf 3 Om
noncomputable def qg:SF:=aB (bD (eN (aO 2 jm) (ak (eN (aO 2 eO) (ak (eB aH (aj 1) (kq 0)) (ak (eB aH (aj 1) (kq 1)) au))) (ak (eN (aO 2 eO) (ak (eB aH (aj 1) (kq 0)) (ak (eB aH (aj 1) (kq 2)) au))) au))) (aL 2)) (aB (dD (bZ (eB (bB .Eq) (aj 2) (eN b8 (ak (kq 0) (ak (kq 0) (ak (kq 0) au)))))) (aB (bW (eN (aO 2 zJ) (ak (aj 0) (ak (aj 1) au)))) aP) aP) (aB (bD (eN (aO 2 fQ) (ak (eN (aO 2 eO) (ak (eB aH (aj 0) (kq 0)) (ak (eB aH (aj 1) (kq 0)) au))) (ak (aj 2) au))) (aL 3)) (aB (bD (eN (aO 2 fQ) (ak (eB aH (aj 0) (kq 1)) (ak (aj 2) au))) (aL 4)) (aB (dD (bZ (eB (bB .Eq) (aj 4) (kq 0))) (aB (bW (u5 (bZ (eB (bB .Eq) (aj 3) (kq 0))) (eN (aO 3 zO) (ak (aj 0) (ak (aj 1) (ak (aj 2) au)))) (eC .non))) aP) aP) (aB (dD (bZ (eB (bB .Lt) (aj 4) (kq 0))) (aB (bD (eU vB (aj 3)) (aL 3)) (aB (bD (eU vB (aj 4)) (aL 4)) aP)) aP) (aB (dD (kW (bZ (eB (bB .Lt) (aj 3) (kq 0))) (pY (jy (eN (aO 3 qe) (ak (eB aH (aj 0) (kq 0)) (ak (eB aH (aj 0) (kq 1)) (ak (aj 1) au))))))) (aB (bW (eC .non)) aP) aP) (aB (bW (eN (aO 1 uF) (ak (eN b8 (ak (aj 3) (ak (aj 4) au))) au))) aP)))))))
def nR:GN:=fnOf 5 qg
def BX:SF:=aB (dD (bZ (eB (bB .Eq) (eB aH (aj 0) (kq 1)) (eN b8 (ak (kq 0) (ak (kq 0) (ak (kq 0) au)))))) (aB FT aP) aP) aP
def uz:GN:=fnOf 1 BX
def Ce:XF:=uH (bZ (eB (bB .Eq) (eB aH (aj 0) (kq 1)) (eN b8 (ak (kq 0) (ak (kq 0) (ak (kq 0) au)))))) (λZ S=>((eC (.str "the ray's way is (0, 0, 0)")) Z S).map λr=>("NoRay",r.2)) wJ
def Ca:XN:=nM 1 Ce
def Li:SF:=aB (dD (bZ (eB (bB .Eq) (eB aH (aj 1) (kq 0)) (eC (.str "box")))) (aB (bW (eN (aO 2 zdt) (ak (aj 0) (ak (j9 (aj 1) (jT (kq 1)) lG) au)))) aP) aP) (aB (bW (eN (aO 2 nR) (ak (aj 0) (ak (j9 (aj 1) (jT (kq 1)) lG) au)))) aP)
def zy:GN:=fnOf 2 Li
def Ss:SF:=aB (jH (eN (aO 1 uz) (ak (aj 0) au))) (aB (jH (eN (aO 1 BZ) (ak (aj 1) au))) (aB (bW (eN (aO 2 zy) (ak (aj 0) (ak (aj 1) au)))) aP))
def Km:GN:=fnOf 2 Ss
def zm2:XF:=oR (jH (eN (aO 1 uz) (ak (aj 0) au))) (vO 1 Ca (ak (aj 0) au)) (vO 1 zdY (ak (aj 1) au))
def x_meets:XN:=nM 2 zm2
def WR:SF:=aB (bW (pP (eN m9 (ak (aj 0) (ak (eC (.ty "int")) au))) (mR (eN m9 (ak (aj 0) (ak (eC (.ty "bool")) au)))))) aP
def Hy:GN:=fnOf 1 WR
def Mx:SF:=aB (bW (eB (bB .Lt) (eB (aN .Mult) (eB aH (aj 0) (kq 0)) (eB aH (aj 1) (kq 1))) (eB (aN .Mult) (eB aH (aj 1) (kq 0)) (eB aH (aj 0) (kq 1))))) aP
def BV:GN:=fnOf 2 Mx
noncomputable def Wv:SF:=aB (bW (eN b8 (ak (eB (aN .Sub) (eB (aN .Mod) (aj 0) (kq 9)) (kq 4)) (ak (eB (aN .Sub) (eB (aN .Mod) (eB (aN .FloorDiv) (aj 0) (kq 9)) (kq 9)) (kq 4)) (ak (eB (aN .Sub) (eB (aN .Mod) (eB (aN .FloorDiv) (aj 0) (kq 81)) (kq 9)) (kq 4)) au))))) aP
def rH:GN:=fnOf 1 Wv
noncomputable def NZ:SF:=aB (dD (bZ (eB (bB .Eq) (eB (aN .Mod) (aj 1) (kq 3)) (kq 0))) (aB (bW (aj 0)) aP) aP) (aB (bD (eB (aN .Add) (kq 1) (eB (aN .Mod) (aj 1) (eB (aN .LShift) (kq 1) (kq 50)))) (aL 2)) (aB (bW (eN b8 (ak (eB (aN .Add) (eB (aN .Mult) (eB aH (aj 0) (kq 0)) (aj 2)) (eB (aN .Mod) (aj 1) (kq 1000003))) (ak (eB (aN .Sub) (eB (aN .Mult) (eB aH (aj 0) (kq 1)) (aj 2)) (eB (aN .Mod) (aj 1) (kq 997))) (ak (eB (aN .Add) (eB (aN .Mult) (eB aH (aj 0) (kq 2)) (aj 2)) (kq 5)) au))))) aP))
def zH:GN:=fnOf 3 NZ
def Oq:SF:=aB (oK "Tree" "box" (aj 0) (aj 1)) (aB (oK "Tree" "number" (aj 0) (aj 2)) (aB (oK "Tree" "halves" (aj 0) (aj 3)) aP))
def zM:GN:=fnOf 4 Oq
def Xk:SF:=aB (bD (eV (qK (ak (eB aH (aj 0) (kq 0)) (ak (eB aH (aj 0) (kq 1)) au))) (lO 2 (gA (aL 0) (gA (aL 1) nJ))) d8 (eB (aN .Sub) (aj 1) (aj 0)) [none,none]) (aL 1)) (aB (bW (eM yK (aj 1) (ak (eN lF (ak (aj 1) au)) au))) aP)
def Nr:GN:=fnOf 2 Xk
noncomputable def nT(φ:GN):SF:=aB (dD (bZ (eB (bB .Eq) (eN iD (ak (aj 0) au)) (kq 1))) (aB (bW (eB aH (aj 0) (kq 0))) aP) aP) (aB (bD (eN (aO 1 zE) (ak (eB (aN .Add) (eV (fP (aj 0)) (aL 0) d8 (eB aH (gF "Tree" "box" (aj 0)) (kq 0)) [none]) (eV (fP (aj 0)) (aL 0) d8 (eB aH (gF "Tree" "box" (aj 0)) (kq 1)) [none])) au)) (aL 1)) (aB (bD (eN (aO 1 Nr) (ak (aj 1) au)) (aL 4)) (aB (bD (yc (aj 0) [4] (eB (aN .Add) (eB aH (eB aH (gF "Tree" "box" (aj 0)) (kq 0)) (aj 1)) (eB aH (eB aH (gF "Tree" "box" (aj 0)) (kq 1)) (aj 1)))) (aL 2)) (aB (bD (eB (aN .FloorDiv) (eN iD (ak (aj 2) au)) (kq 2)) (aL 3)) (aB (bW (pJ "Tree" 4 zM (ak (aj 1) (ak (eC .non) (ak (eN b8 (ak (eN (aO 1 φ) (ak (j9 (aj 2) lG (jT (aj 3))) au)) (ak (eN (aO 1 φ) (ak (j9 (aj 2) (jT (aj 3)) lG) au)) au))) au))))) aP)))))
def jl:Nat->GN
 |0=>λ_ _=>none
 |k+1=>oM "tree_over" 5 (nT (jl k))
def zhy:GN:=jl 6
def Nm:SF:=bD (eV (pB (aj 0)) (lO 2 (gA (aL 0) (gA (aL 1) nJ))) d8 (pJ "Tree" 4 zM (ak (aj 1) (ak (aj 0) (ak (eN b8 au) au)))) [none,none]) (aL 1)
def Bv:SF:=bW (u5 (bZ (eB (bB .Eq) (eN iD (ak (aj 1) au)) (kq 0))) (eC .non) (eN (aO 1 zhy) (ak (aj 1) au)))
def M8:SF:=aB Nm (aB Bv aP)
def HB:GN:=fnOf 2 M8
def Ou:SF:=aB (oK "Scene" "kept" (aj 0) (eN qO (ak (aj 1) au))) (aB (oK "Scene" "tree" (aj 0) (eN (aO 1 HB) (ak (eV (fP (gF "Scene" "kept" (aj 0))) (aL 0) d8 (eN (aO 1 wg) (ak (aj 0) au)) [none]) au))) aP)
def HN:GN:=fnOf 2 Ou
noncomputable def M7:SF:=aB (bD (eB (aN .Sub) (aj 1) (eB (aN .Mult) (eB (aN .Mod) (aj 1) (kq 3)) (eB (aN .Mod) (eN (aO 2 nU) (ak (aj 0) (ak (kq 0) au))) (kq 2)))) (aL 2)) (aB (bD (eN (aO 2 zB) (ak (eN (aO 2 nU) (ak (aj 0) (ak (eB (aN .Add) (aj 2) (kq 1)) au))) (ak (aj 2) au))) (aL 3)) (aB (bD (eN (aO 1 rH) (ak (aj 3) au)) (aL 4)) (aB (dD (bZ (eB (bB .Eq) (eB (aN .Mod) (eB (aN .FloorDiv) (aj 3) (kq 729)) (kq 2)) (kq 0))) (aB (bD (eN (aO 1 rH) (ak (eB (aN .FloorDiv) (aj 3) (kq 1458)) au)) (aL 5)) (aB (bW (eN b8 (ak (eC (.str "box")) (ak (aj 4) (ak (eN b8 (ak (eB (aN .Add) (eB aH (aj 4) (kq 0)) (eN tR (ak (eB aH (aj 5) (kq 0)) au))) (ak (eB (aN .Add) (eB aH (aj 4) (kq 1)) (eB (aN .FloorDiv) (eN tR (ak (eB aH (aj 5) (kq 1)) au)) (kq 2))) (ak (eB (aN .Add) (eB aH (aj 4) (kq 2)) (eB (aN .Mod) (eN tR (ak (eB aH (aj 5) (kq 2)) au)) (kq 3))) au)))) au))))) aP)) aP) (aB (bW (eN b8 (ak (eC (.str "triangle")) (ak (aj 4) (ak (eN (aO 1 rH) (ak (eB (aN .FloorDiv) (aj 3) (kq 1458)) au)) (ak (eN (aO 1 rH) (ak (eB (aN .FloorDiv) (aj 3) (kq 1062882)) au)) au)))))) aP))))
def Oh:GN:=fnOf 6 M7
noncomputable def WQ:SF:=aB (bD (eN (aO 2 Oh) (ak (aj 0) (ak (aj 1) au))) (aL 2)) (aB (bW (eB (aN .Add) (eN b8 (ak (eB aH (aj 2) (kq 0)) au)) (eN qZ (ak (eV (fP (j9 (aj 2) (jT (kq 1)) lG)) (aL 0) d8 (eN (aO 2 zH) (ak (aj 0) (ak (eN (aO 2 nU) (ak (aj 1) (ak (kq 0) au))) au))) [none,some 0]) au)))) aP)
def wI:GN:=fnOf 3 WQ
def Ny:SF:=bD (eN (aO 2 zB) (ak (eN (aO 2 nU) (ak (aj 0) (ak (aj 1) au))) (ak (aj 1) au))) (aL 2)
def Nz:SF:=bD (eN (aO 1 rH) (ak (aj 2) au)) (aL 3)
def NP:SF:=bD (eN (aO 1 rH) (ak (eB (aN .FloorDiv) (aj 2) (kq 729)) au)) (aL 4)
noncomputable def H9:SF:=dD (kW (bZ (eB (bB .Eq) (eB (aN .Mod) (eB (aN .FloorDiv) (aj 2) (kq 531441)) (kq 3)) (kq 0))) (bZ (eB (bB .Eq) (aj 4) (eN b8 (ak (kq 0) (ak (kq 0) (ak (kq 0) au))))))) (aB (bD (eB aH (eN kJ (ak (eN b8 (ak (kq 1) (ak (kq 0) (ak (kq 0) au)))) (ak (eN b8 (ak (kq 0) (ak (eB (aN .Sub) (kq 0) (kq 2)) (ak (kq 0) au)))) (ak (eN b8 (ak (kq 0) (ak (kq 0) (ak (kq 3) au)))) (ak (eN b8 (ak (kq 1) (ak (kq 1) (ak (kq 0) au)))) (ak (eN b8 (ak (kq 0) (ak (kq 1) (ak (eB (aN .Sub) (kq 0) (kq 1)) au)))) (ak (eN b8 (ak (eB (aN .Sub) (kq 0) (kq 1)) (ak (kq 0) (ak (kq 0) au)))) au))))))) (eB (aN .Mod) (eB (aN .FloorDiv) (aj 2) (kq 1594323)) (kq 6))) (aL 4)) aP) aP
def NQ:SF:=bD (eB (aN .Mod) (eB (aN .FloorDiv) (aj 2) (kq 9565938)) (kq 4)) (aL 5)
def NT:SF:=bD (eN qZ (ak (eV (nj (ak (kq 3) au)) (aL 0) d8 (eB (aN .Sub) (eB aH (aj 2) (aj 0)) (eB (aN .Mult) (aj 1) (eB aH (aj 3) (aj 0)))) [none,some 5,some 3,some 4]) au)) (aL 3)
def OJ:SF:=bW (eN b8 (ak (eN (aO 2 zH) (ak (aj 3) (ak (eN (aO 2 nU) (ak (aj 0) (ak (kq 0) au))) au))) (ak (aj 4) au)))
def Xp:SF:=aB Ny (aB Nz (aB NP (aB H9 (aB NQ (aB NT (aB OJ aP))))))
def N6:GN:=fnOf 6 Xp
def Ov:SF:=bD (eN kJ au) (aL 2)
def Ow:SF:=bD (u5 (bZ (eB (bB .Is) (aj 0) (eC .non))) (eN kJ au) (eN kJ (ak (aj 0) au))) (aL 3)
def Oo:SF:=bD (uZ mO (aj 3)) (aL 4)
def zN:SF:=dD (bZ (eB (bB .Is) (eN (aO 2 wC) (ak (aj 1) (ak (gF "Tree" "box" (aj 4)) au))) (eC .non))) (aB o5 aP) aP
def Cg:SF:=dD (bZ (eB (bB .Is) (gF "Tree" "number" (aj 4)) (eC .non))) (aB (jH (eM yQ (aj 3) (ak (gF "Tree" "halves" (aj 4)) au))) aP) (aB (jH (eM ug (aj 2) (ak (gF "Tree" "number" (aj 4)) au))) aP)
def uD:SF:=aB Oo (aB zN (aB Cg aP))
def Xz:SF:=jK (bZ (eB (bB .Gt) (eN iD (ak (aj 3) au)) (kq 0))) uD
def Ox:SF:=bW (aj 2)
def Xo:SF:=aB Ov (aB Ow (aB Xz (aB Ox aP)))
def HD:GN:=fnOf 5 Xo
def HY:SF:=jH (eN (aO 1 uz) (ak (aj 1) au))
def Nu:SF:=bD (eN kJ au) (aL 2)
def Oz:SF:=bD (eN (aO 2 zy) (ak (aj 1) (ak (eB aH (gF "Scene" "kept" (aj 0)) (aj 3)) au))) (aL 4)
def Cd:SF:=dD (bZ (eB (bB .IsNot) (aj 4) (eC .non))) (aB (jH (eM ug (aj 2) (ak (eN b8 (ak (aj 4) (ak (aj 3) au))) au))) aP) aP
def zL:SF:=aB Oz (aB Cd aP)
def Nv:SF:=oE (fP (eN (aO 2 HD) (ak (gF "Scene" "tree" (aj 0)) (ak (aj 1) au)))) (aL 3) zL
def Nx:SF:=bW (aj 2)
def zG:SF:=aB HY (aB Nu (aB Nv (aB Nx aP)))
def uE:GN:=fnOf 5 zG
def Bw:XF:=vO 1 Ca (ak (aj 1) au)
def HW:XN:=nM 5 Bw
noncomputable def Mz:SF:=aB (bD (eN (aO 2 zB) (ak (eN (aO 2 nU) (ak (aj 0) (ak (kq 0) au))) (ak (kq 77) au))) (aL 1)) (aB (dD (bZ (eB (bB .Eq) (eB (aN .Mod) (aj 1) (kq 8)) (kq 5))) (aB (bW (kq 30)) aP) aP) (aB (bW (eB (aN .Mod) (eB (aN .FloorDiv) (aj 1) (kq 8)) (kq 13))) aP))
def BW:GN:=fnOf 2 Mz
def XM:SF:=bD (eN kJ au) (aL 2)
def Oj:SF:=bD (eN (aO 2 Km) (ak (aj 0) (ak (eB aH (aj 1) (aj 3)) au))) (aL 4)
noncomputable def Ol:SF:=dD (bZ (eB (bB .IsNot) (aj 4) (eC .non))) (aB (bD (eN iD (ak (aj 2) au)) (aL 5)) (aB (jK (qT (bZ (eB (bB .Gt) (aj 5) (kq 0))) (jy (eN (aO 2 BV) (ak (aj 4) (ak (eB aH (eB aH (aj 2) (eB (aN .Sub) (aj 5) (kq 1))) (kq 0)) au))))) (aB (bD (eB (aN .Sub) (aj 5) (kq 1)) (aL 5)) aP)) (aB (jH (eM yR (aj 2) (ak (aj 5) (ak (eN b8 (ak (aj 4) (ak (aj 3) au))) au)))) aP))) aP
def HJ:SF:=aB Oj (aB Ol aP)
def Xw:SF:=oE (nj (ak (eN iD (ak (aj 1) au)) au)) (aL 3) HJ
def Xx:SF:=bW (aj 2)
def N8:SF:=aB XM (aB Xw (aB Xx aP))
def Np:GN:=fnOf 6 N8
noncomputable def Hi:SF:=aB (bD (vA (eV (fP (aj 0)) (aL 0) d8 (eB aH (eB aH (aj 0) (kq 0)) (kq 1)) [none]) (kq 1)) (aL 1)) (aB (bD (eB (aN .Mult) (aj 1) (aj 1)) (aL 2)) (aB (bW (yc (aj 0) [2] (eN b8 (ak (eB (aN .FloorDiv) (eB (aN .Mult) (eB aH (eB aH (aj 0) (kq 0)) (kq 0)) (aj 1)) (eB aH (eB aH (aj 0) (kq 0)) (kq 1))) (ak (eB aH (aj 0) (kq 1)) au))))) aP))
def Hj:GN:=oM "in_order" 3 Hi
def wF:SF:=aB (bW (eN (aO 1 Hj) (ak (kI "Scene" "hits" 2 uE (aj 0) (ak (aj 1) au)) au))) aP
def wG:GN:=fnOf 2 wF
def BJ:XF:=tY "Scene" "hits" 2 HW (aj 0) (ak (aj 1) au)
def Bx:XN:=nM 2 BJ
def zhT:SF:=bD (eV (nj (ak (eN (aO 1 BW) (ak (aj 0) au)) au)) (aL 0) d8 (eN (aO 2 wI) (ak (aj 1) (ak (aj 0) au))) [none,some 0]) (aL 2)
def zhS:SF:=bD (pJ "Scene" 2 HN (ak (aj 2) au)) (aL 6)
def Ob:SF:=bD (eN (aO 2 N6) (ak (aj 0) (ak (aj 1) au))) (aL 3)
def Oc:SF:=bD (eN (aO 2 Np) (ak (aj 3) (ak (aj 2) au))) (aL 4)
def Od:SF:=bD (kI "Scene" "every" 2 wG (aj 6) (ak (aj 3) au)) (aL 5)
def Oe:SF:=dD (kW (pY (jy (eN m9 (ak (aj 5) (ak (eC (.ty "list")) au))))) (bZ (eB (bB .NotEq) (aj 5) (aj 4)))) (aB (bW (eC (.bl false))) aP) aP
def Og:SF:=dD (pY (jy (eN qJ (ak (eV (fP (aj 5)) (aL 0) d8 (pP (eN m9 (ak (aj 0) (ak (eC (.ty "tuple")) au))) (eN (aO 1 Hy) (ak (eB aH (aj 0) (kq 1)) au))) [none]) au)))) (aB (bW (eC (.bl false))) aP) aP
def Ng:SF:=jH (eM ug (aj 5) (ak (eN b8 (ak (aj 3) (ak (eB (aN .Sub) (kq 0) (kq 1)) au))) au))
def Nh:SF:=jH (uZ yO (aj 5))
def Hx:SF:=aB Ob (aB Oc (aB Od (aB Oe (aB Og (aB Ng (aB Nh aP))))))
def zhR:SF:=oE (fP (eN kJ (ak (kq 40) (ak (kq 41) (ak (kq 40) au))))) (aL 1) Hx
def zhQ:SF:=bD (eN b8 (ak (eN (aO 2 zH) (ak (eN (aO 1 rH) (ak (eN (aO 2 nU) (ak (aj 0) (ak (kq 2) au))) au)) (ak (eN (aO 2 nU) (ak (aj 0) (ak (kq 0) au))) au))) (ak (eN b8 (ak (kq 0) (ak (kq 0) (ak (kq 0) au)))) au))) (aL 7)
def zhP:SF:=bW (eB (bB .Eq) (yL [6,7] (kI "Scene" "every" 2 wG (aj 0) (ak (aj 1) au)) (tY "Scene" "every" 2 Bx (aj 0) (ak (aj 1) au)) (rN "refused")) (eN b8 (ak (eC (.str "refused")) (ak (eC (.str "NoRay")) au))))
def Wb:SF:=aB zhT (aB zhS (aB zhR (aB zhQ (aB zhP aP))))
end MX.P
end
section
namespace MX
open PySem L2
def lJ{p:Prop}{i:Decidable p}(h:p):@decide p i=true:=decide_eq_true h
def nO{p:Prop}{i:Decidable p}(h:¬p):@decide p i=false:=decide_eq_false h
section
variable {Z σ1:Sg}{S S1 S2:So}{x y z d:D}{xs ds:List D}{fa fb fe fo:EF}{aa:AF}
theorem bI{g:G2}{r:Option (D×So)}(h1:fa Z S=some (x,S1))(h2:fb Z S1=some (y,S2))(h3:g x y S2=r):eB g fa fb Z S=r:=by unfold eB;rw[h1];simp only[bM];rw[h2];simp only[bM];exact h3
def YD{g:D->So->Option (D×So)}{r:Option (D×So)}(h1:fa Z S=some (x,S1))(h3:g x S1=r):eU g fa Z S=r:=by unfold eU;rw[h1];simp only[bM];exact h3
def bC{g:GN}{r:Option (D×So)}(h1:aa Z S=some (ds,S1))(h2:g ds S1=r):eN g aa Z S=r:=by unfold eN;rw[h1];simp only[bM];exact h2
def aK{fr:AF}(h1:fa Z S=some (x,S1))(h2:fr Z S1=some (xs,S2)):ak fa fr Z S=some (x::xs,S2):=by unfold ak;rw[h1];simp only[bM];rw[h2];rfl
def aZ:au Z S=some ([],S):=rfl
def bG:eC d Z S=some (d,S):=rfl
def aG{i:Nat}(h:Z[i]?=some (some d)):aj i Z S=some (d,S):=by unfold aj;rw[h]
def cY{n:Nat}{φ:GN}{r:Option (D×So)}(h1:ds.length=n)(h2:φ ds S=r):aO n φ ds S=r:=by unfold aO;rw[if_pos h1];exact h2
def pR{α:Type}(b:Bool)(x y:α):α:=if b=true then x else y
def jz{α:Type}{b:Bool}{x y r:α}(h:b=true)(hx:x=r):pR b x y=r:=by unfold pR;rw[if_pos h];exact hx
def ir{α:Type}{b:Bool}{x y r:α}(h:b=false)(hx:y=r):pR b x y=r:=by unfold pR;rw[if_neg (by rw[h];exact fO)];exact hx
theorem Aq{t:TF}{b:Bool}{r:Option (D×So)}(h1:t Z S=some (b,S1))(h2:pR b (fa Z S1) (fb Z S1)=r):u5 t fa fb Z S=r:=by unfold u5;rw[h1];simp only[bM];exact h2
def zpz{b:Bool}(h1:fa Z S=some (.bl b,S1)):mR fa Z S=some (.bl (!b),S1):=by unfold mR;rw[h1];rfl
theorem S9{b:Bool}{r:Option (D×So)}(h1:fa Z S=some (.bl b,S1))(h2:pR b (fb Z S1) (some (.bl false,S1))=r):pP fa fb Z S=r:=by unfold pP;rw[h1];simp only[bM];cases b<;>exact h2
theorem JX{b:Bool}{r:Option (D×So)}(h1:fa Z S=some (.bl b,S1))(h2:pR b (some (.bl true,S1)) (fb Z S1)=r):zW fa fb Z S=r:=by unfold zW;rw[h1];simp only[bM];cases b<;>exact h2
def gk{b:Bool}(h1:fa Z S=some (.bl b,S1)):bZ fa Z S=some (b,S1):=by unfold bZ;rw[h1];rfl
def Gu{b:Bool}(h1:fa Z S=some (x,S1))(h2:rM x S1=some b):jy fa Z S=some (b,S1):=by unfold jy;rw[h1];simp only[bM];rw[h2];rfl
def K5{t:TF}{b:Bool}(h1:t Z S=some (b,S1)):pY t Z S=some (!b,S1):=by unfold pY;rw[h1];rfl
theorem K4{t u:TF}{b:Bool}{r:Option (Bool×So)}(h1:t Z S=some (b,S1))(h2:pR b (u Z S1) (some (false,S1))=r):qT t u Z S=r:=by unfold qT;rw[h1];simp only[bM];exact h2
theorem Av{t u:TF}{b:Bool}{r:Option (Bool×So)}(h1:t Z S=some (b,S1))(h2:pR b (some (true,S1)) (u Z S1)=r):kW t u Z S=r:=by unfold kW;rw[h1];simp only[bM];exact h2
def zm:d8 Z S=some (true,S):=rfl
abbrev SR:=Option (Fl×Sg×So)
def rQ(fl:Fl)(g:SF)(Z:Sg)(S:So):SR:=match fl with
 |.nx=>g Z S
 |fl=>some (fl,Z,S)
def aX{g:SF}{r:SR}(h:g Z S=r):rQ .nx g Z S=r:=h
def eZ{g:SF}:rQ (.rt z) g Z S=some (.rt z,Z,S):=rfl
def KC{g:SF}:rQ .ct g Z S=some (.ct,Z,S):=rfl
def aM{f g:SF}{fl:Fl}{r:SR}(h1:f Z S=some (fl,σ1,S1))(h2:rQ fl g σ1 S1=r):aB f g Z S=r:=by unfold aB;rw[h1];simp only[bM];cases fl<;>exact h2
def gB:aP Z S=some (.nx,Z,S):=rfl
def T7:o5 Z S=some (.ct,Z,S):=rfl
def gC(h:fe Z S=some (x,S1)):bW fe Z S=some (.rt x,Z,S1):=by unfold bW;rw[h];rfl
def oN(h:fe Z S=some (x,S1)):jH fe Z S=some (.nx,Z,S1):=by unfold jH;rw[h];rfl
def dY{g:GF}(h1:fe Z S=some (x,S1))(h2:g x Z S1=some (σ1,S2)):bD fe g Z S=some (.nx,σ1,S2):=by unfold bD;rw[h1];simp only[bM];rw[h2];rfl
def gK{t:TF}{f g:SF}{b:Bool}{r:SR}(h1:t Z S=some (b,S1))(h2:pR b (f Z S1) (g Z S1)=r):dD t f g Z S=r:=by unfold dD;rw[h1];simp only[bM];exact h2
def dR{i:Nat}(h:Z.set i (some d)=σ1):aL i d Z S=some (σ1,S):=by unfold aL;rw[h]
def RD{n:Nat}{fr:n6}{r:Option (Sg×So)}(h1:ds.length=n)(h2:fr ds Z S=r):lO n fr (.tup ds) Z S=r:=by unfold lO;simp only;rw[if_pos h1];exact h2
def Us:nJ [] Z S=some (Z,S):=rfl
def Mv{f:GF}{fr:n6}{r:Option (Sg×So)}(h1:f d Z S=some (σ1,S1))(h2:fr ds σ1 S1=r):gA f fr (d::ds) Z S=r:=by unfold gA;simp only;rw[h1];exact h2
def JW{i j:Int}:aN .Add (.int i) (.int j) S=some (.int (i+j),S):=rfl
theorem zpC{n m:Nat}{xs ys:List D}(h1:S[n]?=some (.lst xs))(h2:S[m]?=some (.lst ys))(h:xs.length+ys.length<=sizeLine):aN .Add (.ref n) (.ref m) S=some (.ref S.length,S++[.lst (xs++ys)]):=by unfold aN pH;simp only;rw[h1,h2];simp only;rw[if_pos h]
theorem zpB{xs ys:List D}(h0:xs≠[])(h:xs.length+ys.length<=sizeLine):aN .Add (.tup xs) (.tup ys) S=some (.tup (xs++ys),S):=by unfold aN pH;simp only;rw[if_pos ⟨h0,h⟩]
def Gj{i j:Int}:aN .Sub (.int i) (.int j) S=some (.int (i - j),S):=rfl
def Gi{i j:Int}(h:cO i j=true):aN .Mult (.int i) (.int j) S=some (.int (i*j),S):=by unfold aN sJ;simp only;rw[if_pos h]
def p6{i j:Int}(h:eX j=true):aN .FloorDiv (.int i) (.int j) S=some (.int (i.fdiv j),S):=by unfold aN sU;simp only;rw[if_pos h]
def za{i j:Int}(h:j≠0):aN .Mod (.int i) (.int j) S=some (.int (i.fmod j),S):=by unfold aN sO;simp only;rw[if_pos h]
def YH{i j:Int}:bB .Lt (.int i) (.int j) S=some (.bl (decide (i<j)),S):=rfl
def YG{i j:Int}:bB .LtE (.int i) (.int j) S=some (.bl (decide (i<=j)),S):=rfl
def Gg{i j:Int}:bB .Gt (.int i) (.int j) S=some (.bl (decide (j<i)),S):=rfl
def YF{i j:Int}:bB .GtE (.int i) (.int j) S=some (.bl (decide (j<=i)),S):=rfl
def Gf{i j:Int}:bB .Eq (.int i) (.int j) S=some (.bl (decide (i=j)),S):=rfl
def YK{i j:Int}:bB .NotEq (.int i) (.int j) S=some (.bl (!decide (i=j)),S):=rfl
def yV:bB .Is x .non S=some (.bl (mD x),S):=by cases x<;>rfl
def Bk:bB .IsNot x .non S=some (.bl (!mD x),S):=by cases x<;>rfl
def Z4{i:Int}:vB (.int i) S=some (.int (-i),S):=rfl
def ji{i:Int}(h:fX xs i=some z):aH (.tup xs) (.int i) S=some (z,S):=by unfold aH;simp only;rw[h];rfl
def vZ{n:Nat}{i:Int}(h1:S[n]?=some (.lst xs))(h:fX xs i=some z):aH (.ref n) (.int i) S=some (z,S):=by unfold aH;simp only;rw[h1];simp only;rw[h];rfl
def RG{n:Nat}{i:Int}(h1:S[n]?=some (.frz xs))(h:fX xs i=some z):aH (.ref n) (.int i) S=some (z,S):=by unfold aH;simp only;rw[h1];simp only;rw[h];rfl
def jX(h:ds.length<=sizeLine):b8 ds S=some (.tup ds,S):=by unfold b8;rw[if_pos h]
def v7(h:ds.length<=sizeLine):kJ ds S=some (.ref S.length,S++[.lst ds]):=by unfold kJ;rw[if_pos h]
def zpw:iD [.tup xs] S=some (.int xs.length,S):=rfl
def oO{n:Nat}(h1:S[n]?=some (.lst xs)):iD [.ref n] S=some (.int xs.length,S):=by unfold iD;simp only;rw[h1]
def K1{n:Nat}(h1:S[n]?=some (.frz xs)):iD [.ref n] S=some (.int xs.length,S):=by unfold iD;simp only;rw[h1]
def VN{n:Nat}(h1:S[n]?=some (.lst xs)):qZ [.ref n] S=some (.tup xs,S):=by unfold qZ;simp only;rw[h1]
def Uu{n:Nat}(h1:S[n]?=some (.lst xs)):qO [.ref n] S=some (.ref S.length,S++[.lst xs]):=by unfold qO;simp only;rw[h1]
def Uv:qO [.tup xs] S=some (.ref S.length,S++[.lst xs]):=rfl
def zpv{i j:Int}:lF [.int i,.int j] S=some (.int (if j>i then j else i),S):=rfl
def Rz{i:Int}:tR [.int i] S=some (.int (if i<0 then -i else i),S):=rfl
theorem K3{n:Nat}{ns:List Int}{m:Int}(h1:S[n]?=some (.lst (ns.map .int)))(h:jx ns=some m):qP [.ref n] S=some (.int m,S):=by unfold qP sS;simp only;rw[h1];simp only;rw[Mw];simp only[bM];rw[h];rfl
theorem T6{n:Nat}{ns:List Int}{m:Int}(h1:S[n]?=some (.lst (ns.map .int)))(h:iK ns=some m):lF [.ref n] S=some (.int m,S):=by unfold lF pG;simp only;rw[h1];simp only;rw[Mw];simp only[bM];rw[h];rfl
def zjp(bs:List Bool):vU (bs.map D.bl)=some bs:=by
 induction bs with
 |nil=>rfl
 |cons n r ih=>simp[vU,ih]
theorem ZX{n:Nat}{bs:List Bool}(h1:S[n]?=some (.lst (bs.map .bl))):qJ [.ref n] S=some (.bl (bs.all id),S):=by unfold qJ;simp only;rw[h1];simp only;rw[zjp];rfl
theorem zpA{n:Nat}{bs:List Bool}(h1:S[n]?=some (.lst xs))(h2:vU xs=some bs):qJ [.ref n] S=some (.bl (bs.all id),S):=by unfold qJ;simp only;rw[h1];simp only;rw[h2];rfl
theorem Uw{n:Nat}{ns:List Int}{m:Int}(h1:S[n]?=some (.lst xs))(h2:mC xs=some ns)(h:iK ns=some m):lF [.ref n] S=some (.int m,S):=by unfold lF pG;simp only;rw[h1];simp only;rw[h2];simp only[bM];rw[h];rfl
def zmJ{i j:Int}:qP [.tup [.int i,.int j]] S=some (.int (if j<i then j else i),S):=rfl
def zmK{i j:Int}:lF [.tup [.int i,.int j]] S=some (.int (if j>i then j else i),S):=rfl
theorem Mu{n:Nat}(h1:S[n]?=some (.lst xs))(h:xs.length<sizeLine){S3:So}(h3:S.set n (.lst (xs++[d]))=S3):ug (.ref n) [d] S=some (.non,S3):=by unfold ug;simp only;rw[h1];simp only;rw[if_pos h,h3]
theorem yU{g:GM}{n:Nat}{r:Option (D×So)}(h1:fo Z S=some (.ref n,S1))(h2:S1[n]?=some (.lst xs))(h3:aa Z S1=some (ds,S2))(h4:g (.ref n) ds S2=r):eM g fo aa Z S=r:=by unfold eM;rw[h1];simp only[bM];rw[h2];simp only;rw[h3];exact h4
theorem Ar{fl fh:PF}{l h:Option Int}{S3:So}{r:Option (D×So)}(h1:fe Z S=some (x,S1))(h2:fl Z S1=some (l,S2))(h3:fh Z S2=some (h,S3))(h4:uX x l h S3=r):j9 fe fl fh Z S=r:=by unfold j9;rw[h1];simp only[bM];rw[h2];simp only[bM];rw[h3];exact h4
def Hg:lG Z S=some (none,S):=rfl
def Hh{i:Int}(h:fe Z S=some (.int i,S1)):jT fe Z S=some (some i,S1):=by unfold jT;rw[h];rfl
theorem J8{l h:Option Int}{ys:List D}(hc:¬(HT.sIx xs.length 0 l=0/\HT.sIx xs.length xs.length h=xs.length))(e:jF xs l h=ys):uX (.tup xs) l h S=some (.tup ys,S):=by unfold uX;simp only;rw[if_pos hc,e]
theorem J7{n:Nat}{l h:Option Int}{ys:List D}(h1:S[n]?=some (.lst xs))(e:jF xs l h=ys):uX (.ref n) l h S=some (.ref S.length,S++[.lst ys]):=by unfold uX;simp only;rw[h1];simp only;rw[e]
theorem Hf:jF (x::xs) (some 1) none=xs:=by
 unfold jF;have h1:HT.sIx (x::xs).length 0 (some 1)=1:=by
  unfold HT.sIx;simp
  try omega
 have h2:HT.sIx (x::xs).length (x::xs).length none=(x::xs).length:=rfl;rw[h1,h2];simp
theorem Vb:jF (x::xs) none (some 1)=[x]:=by
 unfold jF;have h1:HT.sIx (x::xs).length (x::xs).length (some 1)=1:=by
  unfold HT.sIx;simp
  try omega
 have h2:HT.sIx (x::xs).length 0 none=0:=rfl;rw[h1,h2];simp
theorem KZ{j:Int}(h1:aa Z S=some ([.int j],S1))(hb : -(2 ^ 62)<=j/\j<2 ^ 62):nj aa Z S=some (.fix (gZ 0 j.toNat),S1):=by unfold nj;rw[h1];simp only[bM];rw[if_pos hb]
def Ut(h1:fe Z S=some (.tup xs,S1)):fP fe Z S=some (.fix xs,S1):=by unfold fP;rw[h1];rfl
def qb{n:Nat}(h1:fe Z S=some (.ref n,S1))(h2:S1[n]?=some (.lst xs)):fP fe Z S=some (.lst n,S1):=by unfold fP;rw[h1];simp only[bM];rw[h2]
theorem zpy{xss:List (List D)}(h1:aa Z S=some (ds,S1))(h2:2<=ds.length/\ds.length<=4)(h3:qR S1 ds=some xss):qK aa Z S=some (.zip ds,S1):=by unfold qK;rw[h1];simp only[bM];rw[if_pos h2,h3];rfl
theorem vV{fi:IF}{g:GF}{t:TF}{src:List (Option Nat)}{j:z7}{n:Nat}{ys:List D}(h1:fi Z S=some (j,S1))(h2:mU j S1=some n)(hn:n<=sizeLine)(hτ:oG src Z=σ1)(h3:jo (dJ j) g t fe n 0 σ1 S1 []=some (ys,S2)):eV fi g t fe src Z S=some (.ref S2.length,S2++[.lst ys]):=by subst hτ;unfold eV Ij;rw[h1];simp only[bM];rw[h2];simp only[bM];rw[if_pos hn,h3];rfl
def Gh{nx:Nat->So->Option (Option D)}{g:GF}{t:TF}{i:Nat}{acc:List D}(h:nx i S=some none):jo nx g t fe 0 i Z S acc=some (acc,S):=by unfold jo;rw[h]
theorem yZ{nx:Nat->So->Option (Option D)}{g:GF}{t:TF}{k i:Nat}{acc acc':List D}{r:Option (List D×So)}{S3:So}(h:nx i S=some (some d))(h1:g d Z S=some (σ1,S1))(h2:t σ1 S1=some (true,S2))(h3:fe σ1 S2=some (x,S3))(ha:acc++[x]=acc')(h4:jo nx g t fe k (i+1) σ1 S3 acc'=r):jo nx g t fe (k+1) i Z S acc=r:=by unfold jo;rw[h];simp only;rw[h1];simp only[bM];rw[h2];simp only[bM,if_true];rw[h3];rw[<-ha] at h4;exact h4
theorem rz{fi:IF}{g:GF}{f:SF}{j:z7}{n:Nat}{r:SR}(h1:fi Z S=some (j,S1))(h2:mU j S1=some n)(h3:jw (dJ j) g f n 0 Z S1=r):oE fi g f Z S=r:=by unfold oE;rw[h1];simp only[bM];rw[h2];exact h3
def KY{nx:Nat->So->Option (Option D)}{g:GF}{f:SF}{i:Nat}(h:nx i S=some none):jw nx g f 0 i Z S=some (.nx,Z,S):=by unfold jw;rw[h]
def xX(fl:Fl)(nx:Nat->So->Option (Option D))(g:GF)(f:SF)(k i:Nat)(Z:Sg)(S:So):SR:=match fl with
 |.nx=>jw nx g f k i Z S
 |.ct=>jw nx g f k i Z S
 |.bk=>some (.nx,Z,S)
 |.rt d=>some (.rt d,Z,S)
theorem mG{nx:Nat->So->Option (Option D)}{g:GF}{f:SF}{k i:Nat}{fl:Fl}{σ2:Sg}{r:SR}(h:nx i S=some (some d))(h1:g d Z S=some (σ1,S1))(h2:f σ1 S1=some (fl,σ2,S2))(h3:xX fl nx g f k (i+1) σ2 S2=r):jw nx g f (k+1) i Z S=r:=by unfold jw;rw[h];simp only;rw[h1];simp only[bM];rw[h2];simp only[bM];cases fl<;>exact h3
def Gv{nx:Nat->So->Option (Option D)}{g:GF}{f:SF}{k i:Nat}{r:SR}(h:jw nx g f k i Z S=r):xX .nx nx g f k i Z S=r:=h
def Gw{nx:Nat->So->Option (Option D)}{g:GF}{f:SF}{k i:Nat}:xX (.rt z) nx g f k i Z S=some (.rt z,Z,S):=rfl
def Zy{i:Nat}(h:xs[i]?=some d):dJ (.fix xs) i S=some (some d):=by show some xs[i]?=_;rw[h]
def vW{n i:Nat}(h1:S[n]?=some (.lst xs))(h:xs[i]?=some d):dJ (.lst n) i S=some (some d):=by unfold dJ;simp only;rw[h1];simp only;rw[h]
def YM{n i:Nat}{lo:Int}{z:Int}(h:i<n)(hz:lo+(i:Nat)=z):dJ (.fix (gZ lo n)) i S=some (some (.int z)):=by unfold dJ;simp only;rw[Nf,if_pos h,hz]
def cD{o:O}:(S++[o])[S.length]?=some o:=by simp
def fB{o p:O}{n:Nat}(h:S[n]?=some o):(S++[p])[n]?=some o:=by rw[lW (fj.mp h).1];exact h
def zqv{o:O}{n:Nat}(h:n<S.length):(S.set n o)[n]?=some o:=by simp[h]
end
noncomputable def c7:Nat->D->Bool
 |_,.non=>true
 |_,.int _=>true
 |_,.str x=>PyData.strOk x
 |n+1,.tup xs=>xs.all (c7 n)
 |_,_=>false
noncomputable def lg:Nat->D->PyData
 |_,.int i => .int i
 |_,.str x => .str x
 |n+1,.tup xs => .tuple (xs.map (lg n))
 |_,_ => .none
theorem GJ{f:D->Option PyData}{g:D->PyData}:∀{xs:List D},(∀d∈xs,f d=some (g d))->nu f xs=some (xs.map g)
 |[],_=>rfl
 |d::r,h=>by unfold nu;rw[h d fG,GJ (xs:=r) λe he=>h e (cM _ he)];rfl
theorem Bf{S:So}:∀{n:Nat} {d:D},c7 n d=true->dU S (n+1) d=some (lg n d)
 |n,.obj _ _ _,h=>by cases n<;>cases h
 |n,.non,_=>by simp[dU];cases n<;>rfl
 |n,.int i,_=>by simp[dU];cases n<;>rfl
 |n,.str x,_=>by simp[dU];cases n<;>rfl
 |n+1,.tup xs,h=>by unfold c7 at h;rw[List.all_eq_true] at h;unfold dU;rw[GJ λd hd=>Bf (h d hd)];rfl
 |0,.tup xs,h=>by simp[c7] at h
 |_,.bl _,h=>by simp[c7] at h
 |_,.ref _,h=>by simp[c7] at h
 |_,.ty _,h=>by simp[c7] at h
 |_,.adr _,h=>by simp[c7] at h
theorem Br{S:So}:∀{n m:Nat} {d:D} {p:PyData},dU S n d=some p->n<=m->dU S m d=some p
 |0,_,_,_,h,_=>by simp[dU] at h
 |n+1,0,_,_,_,hm=>by omega
 |n+1,m+1,d,p,h,hm=>by
  have aux:∀{xs:List D} {ps:List PyData},nu (dU S n) xs=some ps->nu (dU S m) xs=some ps:=λ{xs}=>by
   induction xs with
   |nil=>intro ps e;exact e
   |cons x r ih =>
    intro ps e;simp only[nu,aU,aR] at e ⊢;obtain⟨q,e1,qs,e2,e3⟩:=e;exact⟨q,Br e1 (by omega),qs,ih e2,e3⟩
  cases d with
  |tup xs =>
   simp only[dU,aR] at h ⊢;obtain⟨ps,e1,e2⟩:=h;exact⟨ps,aux e1,e2⟩
  |ref k =>
   simp only[dU] at h ⊢;split at h
   .rename_i q;simp only[aR] at h ⊢;obtain⟨ps,e1,e2⟩:=h;exact⟨ps,aux e1,e2⟩
   .rename_i q;simp only[aR] at h ⊢;obtain⟨ps,e1,e2⟩:=h;exact⟨ps,aux e1,e2⟩
   .cases h
  |non=>simpa[dU] using h
  |bl b=>simpa[dU] using h
  |int i=>simpa[dU] using h
  |str x=>simpa[dU] using h
  |obj _ _ _=>simp[dU] at h
  |ty x=>simp[dU] at h
  |adr x=>simp[dU] at h
theorem Q9{ps:List PyData}(h:∀p∈ps,PyData.canLay0 p=true):PyData.canLayAll0 ps=true:=by
 induction ps with
 |nil=>rfl
 |cons p r ih=>unfold PyData.canLayAll0;rw[h p fG,ih λq hq=>h q (cM _ hq)];rfl
theorem Rb{ps:List PyData}{n:Nat}(h:∀p∈ps,PyData.depth p<=n):PyData.depthAll ps<=n:=by
 induction ps with
 |nil=>exact Nat.zero_le _
 |cons p r ih=>unfold PyData.depthAll;exact Nat.max_le.mpr ⟨h p fG,ih λq hq=>h q (cM _ hq)⟩
theorem Az:∀{n:Nat} {d:D},c7 n d=true->PyData.canLay0 (lg n d)=true/\PyData.depth (lg n d)<=n
 |n,.obj _ _ _,h=>by cases n<;>cases h
 |n,.non,_=>by cases n<;>exact⟨rfl,Nat.zero_le _⟩
 |n,.int i,_=>by cases n<;>exact⟨rfl,Nat.zero_le _⟩
 |n,.str x,h=>by
  have h':PyData.strOk x=true:=by cases n<;>simpa[c7] using h
  cases n<;>exact⟨h',Nat.zero_le _⟩
 |n+1,.tup xs,h=>by
  unfold c7 at h;rw[List.all_eq_true] at h;constructor
  .show PyData.canLayAll0 (xs.map (lg n))=true;refine Q9 λp hp=>?_;obtain⟨d,hd,rfl⟩:=List.mem_map.mp hp;exact(Az (h d hd)).1
  .show PyData.depthAll (xs.map (lg n))+1<=n+1;refine Nat.succ_le_succ (Rb λp hp=>?_);obtain⟨d,hd,rfl⟩:=List.mem_map.mp hp;exact(Az (h d hd)).2
 |0,.tup xs,h=>by simp[c7] at h
 |_,.bl _,h=>by simp[c7] at h
 |_,.ref _,h=>by simp[c7] at h
 |_,.ty _,h=>by simp[c7] at h
 |_,.adr _,h=>by simp[c7] at h
theorem Wm{n:Nat}{d:D}(h:c7 n d=true)(hn:n<=64):SeqAt.shaped (lg n d)=true:=by unfold SeqAt.shaped;obtain⟨a,b⟩:=Az h;rw[a,Bool.true_and];exact decide_eq_true (by omega)
theorem S6{f:D->PyData}{xs:List D}:∀{ys:List D},(∀x∈xs,∀y∈ys,(PyData.eqv (f x) (f y)=true↔x=y))->(PyData.eqvAll (xs.map f) (ys.map f)=true↔xs=ys):=by
 induction xs with
 |nil=>intro ys h;cases ys<;>simp[PyData.eqvAll]
 |cons x r ih =>
  intro ys h;cases ys with
  |nil=>simp[PyData.eqvAll]
  |cons y s =>
   simp only[iC,PyData.eqvAll,cG,List.cons.injEq];rw[h x fG y fG,ih λa ha b hb=>h a (cM _ ha) b (cM _ hb)]
theorem S8:∀{n:Nat} {x y:D},c7 n x=true->c7 n y=true->(PyData.eqv (lg n x) (lg n y)=true↔x=y):=by
 intro n
 induction n with
 |zero =>
  intro x y hx hy;cases x<;>cases y<;>simp_all [c7,lg,PyData.eqv]
 |succ n ih =>
  intro x y hx hy;cases x<;>cases y<;>simp_all [c7,lg,PyData.eqv];exact S6 λa ha b hb=>ih (hx a ha) (hy b hb)
open Classical in
theorem SX{S:So}{x y:D}(n:Nat)(hx:c7 n x=true)(hy:c7 n y=true)(hn:n<=23:=by decide):lQ S x y=some (decide (x=y)):=by unfold lQ;rw[Br (Bf hx) (by omega),Br (Bf hy) (by omega)];simp only[bM];rw[if_pos ⟨Wm hx (by omega),Wm hy (by omega)⟩];congr 1;rw[Bool.eq_iff_iff,S8 hx hy,tL]
open Classical in
theorem SQ{S:So}{n m:Nat}{xs ys:List D}(k:Nat)(h1:S[n]?=some (.lst xs)\/S[n]?=some (.frz xs))(h2:S[m]?=some (.lst ys)\/S[m]?=some (.frz ys))(hx:∀x∈xs,c7 k x=true)(hy:∀y∈ys,c7 k y=true)(hk:k<=20:=by decide):
 lQ S (.ref n) (.ref m)=some (decide (xs=ys)):=by
 have e1:dU S (k+2) (.ref n)=some (.list (xs.map (lg k))):=by unfold dU;rcases h1 with h1|h1<;>(rw[h1];simp only;rw[GJ λd hd=>Bf (hx d hd)];rfl)
 have e2:dU S (k+2) (.ref m)=some (.list (ys.map (lg k))):=by unfold dU;rcases h2 with h2|h2<;>(rw[h2];simp only;rw[GJ λd hd=>Bf (hy d hd)];rfl)
 have sh:∀zs:List D,(∀z∈zs,c7 k z=true)->SeqAt.shaped (.list (zs.map (lg k)))=true:=λzs hz=>by
  unfold SeqAt.shaped;rw[cG];constructor
  .show PyData.canLayAll0 _=true;refine Q9 λp hp=>?_;obtain⟨d,hd,rfl⟩:=List.mem_map.mp hp;exact(Az (hz d hd)).1
  .refine decide_eq_true ?_;show PyData.depthAll _+1<=64;have:PyData.depthAll (zs.map (lg k))<=k:=Rb λp hp=>by obtain⟨d,hd,rfl⟩:=List.mem_map.mp hp;exact(Az (hz d hd)).2
   omega
 unfold lQ;rw[Br e1 (by omega),Br e2 (by omega)];simp only[bM];rw[if_pos ⟨sh xs hx,sh ys hy⟩];congr 1;rw[Bool.eq_iff_iff,tL];show PyData.eqvAll _ _=true↔_;exact S6 λa ha b hb=>S8 (hx a ha) (hy b hb)
section
variable {S:So}{x y:D}
def Dv:D->D->Bool
 |.int _,.int _=>false
 |_,_=>true
open Classical in
theorem yX(h:Dv x y=true)(n:Nat)(hx:c7 n x=true)(hy:c7 n y=true)(hn:n<=23):bB .Eq x y S=some (.bl (decide (x=y)),S):=by
 have e:bB .Eq x y S=(lQ S x y).map λb=>(.bl b,S):=by cases x<;>cases y<;>first|rfl|cases h
 rw[e,SX n hx hy hn];rfl
open Classical in
theorem Z2(h:Dv x y=true)(n:Nat)(hx:c7 n x=true)(hy:c7 n y=true)(hn:n<=23):bB .NotEq x y S=some (.bl (!decide (x=y)),S):=by
 have e:bB .NotEq x y S=(lQ S x y).map λb=>(.bl (!b),S):=by cases x<;>cases y<;>first|rfl|cases h
 rw[e,SX n hx hy hn];rfl
open Classical in
theorem Z0{n m:Nat}{xs ys:List D}(k:Nat)(h1:S[n]?=some (.lst xs)\/S[n]?=some (.frz xs))(h2:S[m]?=some (.lst ys)\/S[m]?=some (.frz ys))(hx:∀x∈xs,c7 k x=true)(hy:∀y∈ys,c7 k y=true)(hk:k<=20):
 bB .Eq (.ref n) (.ref m) S=some (.bl (decide (xs=ys)),S):=by
 show(lQ S (.ref n) (.ref m)).map _=_;rw[SQ k h1 h2 hx hy hk];rfl
open Classical in
theorem Z3{n m:Nat}{xs ys:List D}(k:Nat)(h1:S[n]?=some (.lst xs)\/S[n]?=some (.frz xs))(h2:S[m]?=some (.lst ys)\/S[m]?=some (.frz ys))(hx:∀x∈xs,c7 k x=true)(hy:∀y∈ys,c7 k y=true)(hk:k<=20):
 bB .NotEq (.ref n) (.ref m) S=some (.bl (!decide (xs=ys)),S):=by
 show(lQ S (.ref n) (.ref m)).map _=_;rw[SQ k h1 h2 hx hy hk];rfl
end
end MX
end
section
namespace MX
open PySem L2
open Builtin.Int (intBits)
def Bd(k:Nat)(x:Int):Prop:=x.natAbs<2 ^ k
def Bd.le{k l:Nat}{x:Int}(h:Bd k x)(hl:k<=l):Bd l x:=di h (Nat.pow_le_pow_right (by decide) hl)
theorem Bd.add{k l:Nat}{x y:Int}(h:Bd k x)(g:Bd l y):Bd (max k l+1) (x+y):=by
 have h1:=h.le (Nat.le_max_left k l);have h2:=g.le (Nat.le_max_right k l);unfold Bd at *
 rw[Nat.pow_succ];have:=Int.natAbs_add_le x y;omega
def Bd.neg{k:Nat}{x:Int}(h:Bd k x):Bd k (-x):=by unfold Bd at *;rw[Int.natAbs_neg];exact h
def Bd.sub{k l:Nat}{x y:Int}(h:Bd k x)(g:Bd l y):Bd (max k l+1) (x - y):=by rw[Int.sub_eq_add_neg];exact h.add g.neg
def Bd.mul{k l:Nat}{x y:Int}(h:Bd k x)(g:Bd l y):Bd (k+l) (x*y):=by
 unfold Bd at *
 rw[Int.natAbs_mul,Nat.pow_add];exact Nat.mul_lt_mul'' h g
def Bd.lit(x:Int):Bd (intBits x) x:=by
 unfold Bd intBits;split
 .rename_i h;have:x=0:=by simpa using h
  subst this;decide
 .exact Nat.lt_log2_self
def Bd.fmod{m x:Int}(h:0<m):Bd (intBits m) (x.fmod m):=by
 have h1:=qD x h;have h2:=tU x h;have h3:=Bd.lit m;unfold Bd at *
 omega
theorem Z5{i j:Int}{S:So}(h:0<=j/\j<=1000000/\i.natAbs<2 ^ 64):aN .LShift (.int i) (.int j) S=some (.int (i*2 ^ j.toNat),S):=by unfold aN sI;simp only;rw[if_pos h]
theorem Bd.bits{k:Nat}{x:Int}(h:Bd k x):intBits x<=k:=by
 unfold Bd at h;unfold intBits;split
 .exact Nat.zero_le _
 .rename_i hn;have hx:x.natAbs≠0:=λe=>hn (by have:=Int.natAbs_eq_zero.mp e;subst this;rfl);exact(Nat.log2_lt hx).mpr h
theorem wj{k l:Nat}{x y:Int}(h:Bd k x)(g:Bd l y)(hl:k+l<=134217728):cO x y=true:=by unfold cO;have h1:=h.bits;have h2:=g.bits;rw[lV];exact .inr (decide_eq_true (by omega))
def Tc{x y:Int}(h:intBits y<=64):cO x y=true:=by unfold cO;rw[lV,lV];exact .inl (.inr (decide_eq_true h))
theorem La{k:Nat}{y:Int}(h:Bd k y)(h0:y≠0)(hl:k<=8000):eX y=true:=by unfold eX;have:=h.bits;rw[cG];exact⟨decide_eq_true h0,decide_eq_true (by omega)⟩
abbrev P3(x y z:Int):D := .tup [.int x,.int y,.int z]
abbrev R2(x y:Int):D := .tup [.int x,.int y]
end MX
namespace MX
open PySem L2
theorem D.lo_mono:∀{d:D} {n m:Nat},n<=m->D.lo n d=true->D.lo m d=true:=by
 have key:∀(k:Nat) (d:D) (n m:Nat),sizeOf d<=k->n<=m->D.lo n d=true->D.lo m d=true:=by
  intro k
  induction k with
  |zero=>intro d n m hk;cases d<;>simp at hk
  |succ k ih =>
   intro d n m hk hm h;cases d with
   |tup xs =>
    rw[D.lo] at h ⊢;have aux:∀ys:List D,sizeOf ys<=k->cL n ys=true->cL m ys=true:=by
     intro ys
     induction ys with
     |nil=>intro _ _;simp[cL]
     |cons y r ihr =>
      intro hs hl;rw[cL,cG] at hl ⊢;simp at hs;exact⟨ih y n m (by omega) hm hl.1,ihr (by omega) hl.2⟩
    exact aux xs (by simp at hk;omega) h
   |obj _ _ xs =>
    rw[D.lo] at h ⊢;have aux:∀ys:List D,sizeOf ys<=k->cL n ys=true->cL m ys=true:=by
     intro ys
     induction ys with
     |nil=>intro _ _;simp[cL]
     |cons y r ihr =>
      intro hs hl;rw[cL,cG] at hl ⊢;simp at hs;exact⟨ih y n m (by omega) hm hl.1,ihr (by omega) hl.2⟩
    exact aux xs (by simp at hk;omega) h
   |ref j=>rw[D.lo] at h ⊢;exact decide_eq_true (di (of_decide_eq_true h) hm)
   |_=>simp[D.lo]
 exact λ{d n m} hm h=>key (sizeOf d) d n m (bT _) hm h
def jB{n:Nat}:∀{xs:List D},cL n xs=true↔∀x∈xs,D.lo n x=true
 |[]=>by simp[cL]
 |x::r=>by rw[cL,cG,jB (xs:=r)];simp
def Ma{n m:Nat}{xs:List D}(hm:n<=m)(h:cL n xs=true):cL m xs=true:=jB.mpr λx hx=>D.lo_mono hm (jB.mp h x hx)
theorem O.lo_mono{n m:Nat}{o:O}(hm:n<=m)(h:O.lo n o=true):O.lo m o=true:=by
 cases o with
 |lst xs=>exact Ma hm h
 |frz xs=>exact Ma hm h
 |ins C fs=>exact Ma hm h
 |dct xs=>rfl
 |tbl x=>rfl
theorem JZ:∀{n m:Nat} {d:D},c7 n d=true->D.lo m d=true
 |n,_,.obj _ _ _,h=>by cases n<;>cases h
 |_,_,.non,_=>by simp[D.lo]
 |_,_,.int _,_=>by simp[D.lo]
 |_,_,.str _,_=>by simp[D.lo]
 |n+1,m,.tup xs,h=>by unfold c7 at h;rw[List.all_eq_true] at h;rw[D.lo];exact jB.mpr λx hx=>JZ (h x hx)
 |0,_,.tup xs,h=>by simp[c7] at h
 |_,_,.bl _,h=>by simp[c7] at h
 |_,_,.ref _,h=>by simp[c7] at h
 |_,_,.ty _,h=>by simp[c7] at h
 |_,_,.adr _,h=>by simp[c7] at h
theorem WF.snoc{S:So}{o:O}(h:WF S)(ho:O.lo S.length o=true):WF (S++[o]):=λp hp=>by
 rw[jE,List.length_singleton];rcases lB.mp hp with hp|hp
 .exact O.lo_mono (Nat.le_succ _) (h p hp)
 .rw[List.mem_singleton.mp hp];exact O.lo_mono (Nat.le_succ _) ho
def Bb(n:Nat)(ns:List Int):O.lo n (.lst (ns.map .int))=true:=jB.mpr λx hx=>by obtain⟨i,_,rfl⟩:=List.mem_map.mp hx;simp[D.lo]
end MX
namespace MX.P
open PySem L2 MX
abbrev Pt:=Int×Int×Int
abbrev pD(p:Pt):D:=P3 p.1 p.2.1 p.2.2
def lo_pts(n:Nat)(pts:List Pt):O.lo n (.lst (pts.map pD))=true:=jB.mpr λx hx=>by obtain⟨i,_,rfl⟩:=List.mem_map.mp hx;simp[D.lo,cL]
theorem Zq{fe:EF}{S:So}{m:Nat}{rest:Sg}(h:Nat->D)(hstep:∀k:Nat,k<m->fe (some (.int (k:Nat))::rest) S=some (h k,S)):
 jo (dJ (.fix (gZ 0 m))) (aL 0) d8 fe m 0 (none::rest) S []=some ((List.range m).map h,S):=by
 have hl:(gZ 0 m).length=m:=by simp[gZ]
 have:=GZ (nx:=dJ (.fix (gZ 0 m))) (g:=aL 0) (t:=d8) (fe:=fe) (S:=S) (xs:=gZ 0 m) (λτ=>∃v,τ=v::rest) (λ_=>true) (λd=>match d with|.int i=>h i.toNat|_ => .non)
  (λi=>rfl) (λd hd τ hT=>?_) m 0 (none::rest) [] ⟨none,rfl⟩ (by rw[hl];omega)
 .rw[this,vq,List.drop_zero,List.filter_eq_self.mpr (λ_ _=>rfl)];congr 2;unfold gZ;rw[List.map_map];refine List.map_congr_left λk _=>?_;show h ((0:Int)+(k:Nat)).toNat=h k;congr 1;omega
 .obtain⟨v,rfl⟩:=hT;unfold gZ at hd;obtain⟨k,hk,rfl⟩:=List.mem_map.mp hd;refine⟨some (.int ((0:Int)+(k:Nat)))::rest,rfl,⟨_,rfl⟩,rfl,λ_=>?_⟩;have e:((0:Int)+(k:Nat))=(k:Nat):=by omega
  rw[e,hstep k (List.mem_range.mp hk)];congr
end MX.P
end
open MX
namespace MX
open Lean
def tF(k:String)(l:List Syntax):Syntax:=.node .none ("Lean.Parser.T"++k).toName l.toArray
def tI(l:List Syntax):Syntax:=.node .none `null l.toArray
def tJ(s:String):Syntax:=.atom .none s
def tN(l:List Syntax):Syntax:=tF "actic.tacticSeq" [tF "actic.tacticSeq1Indented" [tI (l.intersperse (tJ ";"))]]
def tT(s w:String)(f:String→Syntax):List Syntax:=(s.splitOn w).map f
def uA(w:String):Syntax:=
 let l:=tT (w.drop 1).toString "," λm=>if m=="" then tF "erm.hole" [tJ "_"] else (mkCIdent (if m.startsWith "." then (m.drop 1).toName else `MX++m.toName)).raw
 let e s (l:List Syntax):=tF ("actic."++s) (tJ s::l)
 let t s:=e s [tF "erm.app" [l.headD default,tI l.tail]]
 let t s:=if l.tail.isEmpty then e s [l.headD default] else t s
 let r x:=tF "actic.withReducible" [tJ "with_reducible",tN [x]]
 let o:=tF "actic.optConfig" [tI []]
 let a:=e "assumption" []
 match w.front with
 |'='=>r (t "exact")
 |'+'=>r (t "apply")
 |'!'=>t "exact"
 |'*'=>t "apply"
 |'~'=>tF "actic.tacticRfl" [tJ "rfl"]
 |'@'=>a
 |'&'=>r a
 |'%'=>e "decide" [o]
 |'^'=>e "omega" [o]
 |'<'=>e "simp" [o,tI [],tI [tJ "only"],tI [tJ "[",tI ((l.map λx=>tF "actic.simpLemma" [tI [],tI [],x]).intersperse (tJ ",")),tJ "]"],tI []]
 |_=>.node .none `PySem.W.tacticWtm_at_ #[tJ "wtm_at",(Syntax.mkStrLit w).raw]
def uB(s w:String)(f:String→List Syntax):List Syntax:=match s.splitOn w with|[a]=>f a|l=>[tF "actic.first" [tJ "first",tI (l.map λa=>.node .none `group #[tJ "|",tN (f a)])]]
def uC(l:List Syntax):List Syntax:=match l with|a::l=>a::l.map λx=>tF "actic.focus" [tJ "focus",tN [x]]|_=>l
def uS(s:TSyntax `str)(t:String):MacroM Syntax:=match (t.splitOn "#").find? (·.startsWith s.getString) with|some e=>pure (tF "actic.paren" [tJ "(",tN (uB (e.drop 1).toString "|" λs=>uC (((s.splitOn " ").map λs=>uB s "/" λa=>[uA a]).flatten)),tJ ")"])|_=>Macro.throwUnsupported
end MX
local macro_rules|`(tactic|wtm_at "B")=>`(tactic|simp only [Nat.reduceAdd, Nat.reduceMax, Nat.max_self]; omega)|`(tactic|wtm_at "C")=>`(tactic|refine yX ?_ 8 ?_ ?_ ?_<;>first | decide +kernel | rfl | decide)|`(tactic|wtm_at "D")=>`(tactic|refine Z2 ?_ 8 ?_ ?_ ?_<;>first | decide +kernel | rfl | decide)|`(tactic|wtm_at "E")=>`(tactic|simp only [List.set_cons_zero, List.set_cons_succ, List.set]; done)|`(tactic|wtm_at "F")=>`(tactic|simp only [List.getElem?_cons_zero, List.getElem?_cons_succ]; done)|`(tactic|wtm_at "H")=>`(tactic|simp; rfl)|`(tactic|wtm_at "I")=>`(tactic|simp [List.take_append])|`(tactic|wtm_at "J")=>`(tactic|exact ⟨rfl, rfl, rfl, by decide +kernel, by kernel_rfl, by decide +kernel, by decide +kernel⟩)|`(tactic|wtm_at "K")=>`(tactic|exact ⟨by first | exact MX.zuC λ_ _ _ _ _ _ _ => rfl | exact MX.bind2 λ_ _ _ _ _ _ _ _ => rfl | exact MX.bind3 λ_ _ _ _ _ _ _ _ _ => rfl | exact MX.bind4 λ_ _ _ _ _ _ _ _ _ _ => rfl, by wtm_at "A", by decide +kernel, by kernel_rfl, by kernel_rfl⟩)|`(tactic|wtm_at $s)=>uS s "p~|@|*lJ @/~/^|*nO @/^|<.Bool.not_eq_true',.Bool.not_eq_false',.Bool.not_true,.Bool.not_false,.tL,.decide_eq_false_iff_not,mD @/^#e@|!cD|*fB e#f@|+Bd.mul f f|+Bd.add f f|+Bd.sub f f|+Bd.neg f|+Bd.fmod %|+Bd.fmodV @/% f|+Bd.fdiv f %/@/^|!Bd.lit,#u*Bd.le f %/B#k@|~|e|*Tc %|*wj f f %/^|u|%|^#l@|+WF.snoc l !Bb,,/@/~#h=JW|=Gj|=YH|=YG|=Gg|=YF|=Gf|=YK|=yV|=Bk|=Z4|+Gi k|+za k|+p6 %/k|+Z5 %|+ji &/~|+vZ e &/~|+RG e &/~|C|D#m+jX *.vG ~|+v7 *.vG ~|=zpw|=zmJ|=zmK|=zpv|=Rz|=Uv|+oO e|+K1 e|+VN e|+Uu e|+zpA e ~|+Uw e ~ ~|+cY ~ d#q~|&|*lJ &|*nO &|*lJ ~#i*jz q a|*ir q a|*jz p a|*ir p a#vE|<.List.set_cons_zero,.List.set_cons_succ,.List.set ~|~#g+dR v|+RD ~ g|+Mv g g|=Us#a=bG|+aG ~|+bI a a h|+bC a m|+aK a a|=aZ|+aM a n|+gC a|=gB|=T7|+dY a g|+gK a i|+oN a|+gk a|+K5 a|+K4 a i|+Av a i|+Gu a ~|+YD a h|+zpz a|+S9 a i|+JX a i|+Aq a i|+Ar a a a w|=Hg|+Hh a|+vV j ~ *.vG ~ <oG,.iC,.List.map_nil,.bM,.Option.bind_none,.List.getElem?_cons_zero,.List.getElem?_cons_succ,.Option.join_some ~ r|+rz j ~ o|=zm|!.rfl#j+KZ a %|+Ut a|+zpy a *.And.intro *.vG ~ *.vG ~ ~|+qb a e#r*yZ s g a a <.vq,.List.cons_append ~ r|*Gh ~#tF|<.List.getElem?_cons_zero,.List.getElem?_cons_succ ~|~#s+YM % H/~|+Zy t|+vW e t|~#o*mG s g a x|*KY ~#x=Gw|+Gv o#w+J8 *.of_decide_eq_false ~ !Hf/!Vb|+J7 e !Hf/!Vb/~#n!eZ|+aX a|=KC#b<iH,.iC,.List.map_nil,.jb,.Ab,.Nat.reduceAdd,.Nat.reduceSub,.Nat.zero_add,.Nat.sub_self,.List.replicate,.List.cons_append,.vq,.List.append_nil#c!.pO|I#y@"
section
namespace MX.P
open PySem L2 MX
theorem zfj(a b c d e f:Int)(S:So):eO [P3 a b c,P3 d e f] S=some (P3 (d - a) (e - b) (f - c),S):=by refine bY (Z':=[some (P3 a b c),some (P3 d e f)]) (S':=S) ?_ (by simp) rfl;show N5 [some (P3 a b c),some (P3 d e f)] S=_;unfold N5;wtm_at "a"
theorem zqu{k l:Nat}{a b c d e f:Int}(ha:Bd k a)(hb:Bd k b)(hc:Bd k c)(hd:Bd l d)(he:Bd l e)(hf:Bd l f)(hk:k+l<=134217728)(S:So):fQ [P3 a b c,P3 d e f] S=some (.int (a*d+b*e+c*f),S):=by refine bY (Z':=[some (P3 a b c),some (P3 d e f)]) (S':=S) ?_ (by simp) rfl;show JG [some (P3 a b c),some (P3 d e f)] S=_;unfold JG;wtm_at "a"
theorem zlS{k l:Nat}{a b c d e f:Int}(ha:Bd k a)(hb:Bd k b)(hc:Bd k c)(hd:Bd l d)(he:Bd l e)(hf:Bd l f)(hk:k+l<=134217728)(S:So):jm [P3 a b c,P3 d e f] S=some (P3 (b*f - c*e) (c*d - a*f) (a*e - b*d),S):=by refine bY (Z':=[some (P3 a b c),some (P3 d e f)]) (S':=S) ?_ (by simp) rfl;show KH [some (P3 a b c),some (P3 d e f)] S=_;unfold KH;wtm_at "a"
theorem sp_is_less{k l:Nat}{a b c d:Int}(ha:Bd k a)(hb:Bd k b)(hc:Bd l c)(hd:Bd l d)(hk:k+l<=134217728)(S:So):zx [R2 a b,R2 c d] S=some (.bl (decide (a*d<c*b)),S):=by refine bY (Z':=[some (R2 a b),some (R2 c d)]) (S':=S) ?_ (by simp) rfl;show Lh [some (R2 a b),some (R2 c d)] S=_;unfold Lh;wtm_at "a"
noncomputable def FQ(c k:Int):Int:=(((c*6364136223846793005+(k+1)*1442695040888963407).fmod 340282366920938463463374607431768211507)*((c*6364136223846793005+(k+1)*1442695040888963407).fmod 340282366920938463463374607431768211507)).fmod 340282366920938463463374607431768211297
theorem sp_drawn(c k:Int)(S:So):zB [.int c,.int k] S=some (.int (FQ c k),S):=by refine bY (Z':=[some (.int c),some (.int k),some (.int ((c*6364136223846793005+(k+1)*1442695040888963407).fmod 340282366920938463463374607431768211507))]) (S':=S) ?_ (by simp) rfl;show M4 [some (.int c),some (.int k),none] S=_;unfold M4;wtm_at "a"
end MX.P
end
section
local macro_rules|`(tactic|wtm_at $s)=>uS s "d!P.sp_drawn,,,"
namespace MX.P
open PySem L2 MX
def jc(ns:List Int)(k:Int):Int:=if ns=[] then k*7919 else(ns[(k.fmod ns.length).toNat]?.getD 0)+k.fdiv ns.length*104729
def rZ(k:Nat)(ns:List Int):∀x∈ns.map D.int,c7 k x=true:=λx hx=>by obtain⟨n,_,rfl⟩:=List.mem_map.mp hx;cases k<;>rfl
theorem p8{ns:List Int}(hn:ns.length<=63)(k:Int){S:So}(h:S[0]?=some (.frz (ns.map .int))):nU [.ref 0,.int k] S=some (.int (jc ns k),S):=by
 have e1:bZ (eB (bB .Eq) (aj 0) (eN kJ au)) [some (.ref 0),some (.int k)] S=some (decide (ns.map D.int=[]),S++[.lst []]):=by
  apply gk;apply bI
  .wtm_at "a"
  .wtm_at "a"
  .rw[Z0 0 (.inr (fB h)) (.inl cD) (rZ 0 ns) (by simp) (by decide)]
 by_cases hz:ns=[]
 .apply bY
  .wtm_at "b"
   unfold M9;apply aM
   .apply gK
    .exact e1
    .apply jz
     .simp[hz]
     .wtm_at "a"
   .have:jc ns k=k*7919:=by unfold jc;rw[if_pos hz]
    rw[this];wtm_at "n"
  .simp
  .rfl
 .have hl:0<ns.length:=List.length_pos_iff.mpr hz;have hl':(0:Int)<((ns.map D.int).length:Int):=by simp;omega
  have h1:=qD k hl';have h2:=tU k hl';have hb:Bd 7 ((ns.map D.int).length:Int):=by unfold Bd;simp;omega
  have e2:fX (ns.map D.int) (k.fmod ((ns.map D.int).length:Int))=some (.int (ns[(k.fmod ns.length).toNat]?.getD 0)):=by
   unfold fX uV;rw[if_pos h1,if_pos h2];simp only[cX] at h2 h1 ⊢;simp only[bM,gR];have:(k.fmod (ns.length:Int)).toNat<ns.length:=by omega
   rw[fM this];rfl
  apply bY
  .wtm_at "b"
   unfold M9;apply aM
   .apply gK
    .exact e1
    .apply ir
     .simp[hz]
     .wtm_at "a"
   .apply aX;apply aM
    .apply gC;apply bI
     .apply bI
      .wtm_at "a"
      .apply bI
       .wtm_at "a"
       .apply bC
        .wtm_at "a"
        .exact K1 (fB h)
       .exact za (by omega)
      .exact RG (fB h) e2
     .apply bI
      .apply bI
       .wtm_at "a"
       .apply bC
        .wtm_at "a"
        .exact K1 (fB h)
       .exact p6 (La hb (by omega) (by decide))
      .wtm_at "a"
      .exact Gi (Tc (by decide))
     .exact JW
    .have:jc ns k=(ns[(k.fmod ns.length).toNat]?.getD 0)+k.fdiv ((ns.map D.int).length:Int)*104729:=by unfold jc;rw[if_neg hz,cX]
     rw[this];exact eZ
  .simp
  .rfl
end MX.P
end
section
namespace MX.P
open PySem L2 MX
def co(k:Int)(p:Pt):Int:=if k=0 then p.1 else if k=1 then p.2.1 else p.2.2
theorem Ba{k:Int}(h0:0<=k)(h2:k<=2)(p:Pt):fX [D.int p.1,.int p.2.1,.int p.2.2] k=some (.int (co k p)):=by
 have:k=0\/k=1\/k=2:=by omega
 rcases this with rfl|rfl|rfl<;>rfl
theorem zpb{Z:Sg}{S:So}{i j n:Nat}{k:Int}{pts:List Pt}(hi:Z[i]?=some (some (.ref n)))(hj:Z[j]?=some (some (.int k)))(hn:S[n]?=some (.lst (pts.map pD)))(hl:pts.length<=1000)(h0:0<=k)(h2:k<=2):
 eV (fP (aj i)) (aL 0) d8 (eB aH (aj 0) (aj 1)) [none,some j] Z S=some (.ref S.length,S++[.lst ((pts.map (co k)).map .int)]):=by
 have key:jo (dJ (.lst n)) (aL 0) d8 (eB aH (aj 0) (aj 1)) (pts.map pD).length 0 [none,some (.int k)] S []=some ((pts.map (co k)).map .int,S):=by
  have:=GZ (nx:=dJ (.lst n)) (g:=aL 0) (t:=d8) (fe:=eB aH (aj 0) (aj 1)) (S:=S) (xs:=pts.map pD) (λτ=>∃v,τ=[v,some (.int k)]) (λ_=>true) (λd=>match d with|.tup xs=>(fX xs k).getD .non|_ => .non)
   (λi=>by unfold dJ;simp only;rw[hn]) (λd hd τ hT=>?_) (pts.map pD).length 0 [none,some (.int k)] [] ⟨none,rfl⟩ (by simp)
  .rw[this];congr 2;rw[vq,List.drop_zero,List.filter_eq_self.mpr (λ_ _=>rfl),List.map_map,List.map_map];refine List.map_congr_left λp _=>?_;show(fX [D.int p.1,.int p.2.1,.int p.2.2] k).getD .non=_;rw[Ba h0 h2];rfl
  .obtain⟨v,rfl⟩:=hT;obtain⟨p,_,rfl⟩:=List.mem_map.mp hd;refine⟨[some (pD p),some (.int k)],rfl,⟨_,rfl⟩,rfl,λ_=>?_⟩;apply bI
   .wtm_at "a"
   .wtm_at "a"
   .show aH (.tup [D.int p.1,.int p.2.1,.int p.2.2]) (.int k) S=_;rw[ji (Ba h0 h2 p)];show _=some ((fX [D.int p.1,.int p.2.1,.int p.2.2] k).getD .non,S);rw[Ba h0 h2];rfl
 apply vV
 .exact qb (aG hi) hn
 .show(match S[n]? with|some (.lst xs)=>some xs.length|some (.frz xs)=>some xs.length|_=>none)=_;rw[hn]
 .rw[sizeLine_eq,cX];omega
 .simp only[oG,iC,List.map_nil,bM,Option.bind_none,hj,Option.join_some];rfl
 .exact key
theorem sp_numbers_at{S:So}{n:Nat}{k:Int}{pts:List Pt}(hS:WF S)(hn:S[n]?=some (.lst (pts.map pD)))(hl:pts.length<=1000)(h0:0<=k)(h2:k<=2):
 Hz [.ref n,.int k] S=some (.ref S.length,S++[.lst ((pts.map (co k)).map .int)]):=by
 apply uw
 .wtm_at "b"
  unfold WW;apply aM
  .apply gC;exact zpb rfl rfl hn hl h0 h2
  .exact eZ
 .intro h;simp[D.lo] at h
 .simp
 .simp[D.lo]
 .exact hS.snoc (Bb _ _)
def J5{ns:List Int}(h:ns≠[]):∃m,jx ns=some m:=by cases ns with|nil=>exact absurd rfl h|cons _ _=>exact⟨_,rfl⟩
def Aw{ns:List Int}(h:ns≠[]):∃m,iK ns=some m:=by cases ns with|nil=>exact absurd rfl h|cons _ _=>exact⟨_,rfl⟩
end MX.P
local macro_rules|`(tactic|wtm_at $s)=>uS s "d*P.sp_numbers_at l e @ % %#m+K3 e @|+T6 e @"
namespace MX.P
theorem zfP{S:So}{n:Nat}{pts:List Pt}{a0 a1 a2 b0 b1 b2:Int}(hS:WF S)(hn:S[n]?=some (.lst (pts.map pD)))(hl:pts.length<=1000)(h0:jx (pts.map (co 0))=some a0)(h1:jx (pts.map (co 1))=some a1)(h2:jx (pts.map (co 2))=some a2)(g0:iK (pts.map (co 0))=some b0)(g1:iK (pts.map (co 1))=some b1)(g2:iK (pts.map (co 2))=some b2):
 zE [.ref n] S=some (.tup [P3 a0 a1 a2,P3 b0 b1 b2],S):=by
 apply bY
 .wtm_at "b"
  unfold WT;wtm_at "a"
 .wtm_at "c"
 .rfl
theorem sp_are_in_order{S:So}{a b c d e f:Int}:Nq [P3 a b c,P3 d e f] S=some (.bl ([decide (a<=d),decide (b<=e),decide (c<=f)].all id),S):=by
 apply bY
 .wtm_at "b"
  unfold Xi;wtm_at "a"
 .wtm_at "c"
 .rfl
theorem ziJ:¬(D.tup [.str "triangle"]=D.tup [.str "box"]):=by intro h;simp only[D.tup.injEq,List.cons.injEq,D.str.injEq,and_true] at h;exact absurd h (by decide +kernel)
end MX.P
local macro_rules|`(tactic|wtm_at $s)=>uS s "d!P.sp_are_in_order"
namespace MX.P
theorem XJ{S:So}{a b c:D}:wA [.tup [.str "triangle",a,b,c]] S=some (.bl true,S):=by
 have:=ziJ;apply bY
 .wtm_at "b"
  unfold Mh;wtm_at "a"
 .wtm_at "c"
 .rfl
theorem XH{S:So}{a b c d e f:Int}(h1:a<=d)(h2:b<=e)(h3:c<=f):wA [.tup [.str "box",P3 a b c,P3 d e f]] S=some (.bl true,S):=by
 have h:[decide (a<=d),decide (b<=e),decide (c<=f)].all id=true:=by simp[h1,h2,h3]
 apply bY
 .wtm_at "b"
  unfold Mh;rw[<-h];wtm_at "a"
 .wtm_at "c"
 .rfl
end MX.P
end
section
local macro_rules|`(tactic|wtm_at $s)=>uS s "d&"
namespace MX.P
open PySem L2 MX
def Xu{S:So}{sh:D}(h:wA [sh] S=some (.bl true,S)):BZ [sh] S=some (.non,S):=by
 apply WL
 .wtm_at "b"
  unfold XC;wtm_at "a"
 .wtm_at "c"
structure lU(pts:List Pt)(lo hi:Pt):Prop where
 h0:jx (pts.map (co 0))=some lo.1
 h1:jx (pts.map (co 1))=some lo.2.1
 h2:jx (pts.map (co 2))=some lo.2.2
 g0:iK (pts.map (co 0))=some hi.1
 g1:iK (pts.map (co 1))=some hi.2.1
 g2:iK (pts.map (co 2))=some hi.2.2
theorem Rx{pts:List Pt}(h:pts≠[]):∃lo hi,lU pts lo hi:=by have hk:∀k,pts.map (co k)≠[]:=λk e=>h (List.map_eq_nil_iff.mp e);obtain⟨a,ha⟩:=J5 (hk 0);obtain⟨b,hb⟩:=J5 (hk 1);obtain⟨c,hc⟩:=J5 (hk 2);obtain⟨d,hd⟩:=Aw (hk 0);obtain⟨e,he⟩:=Aw (hk 1);obtain⟨f,hf⟩:=Aw (hk 2);exact⟨(a,b,c),(d,e,f),⟨ha,hb,hc,hd,he,hf⟩⟩
def R4{S:So}{n:Nat}{pts:List Pt}{lo hi:Pt}(hS:WF S)(hn:S[n]?=some (.lst (pts.map pD)))(hl:pts.length<=1000)(B:lU pts lo hi):zE [.ref n] S=some (.tup [pD lo,pD hi],S) :=
 zfP hS hn hl B.h0 B.h1 B.h2 B.g0 B.g1 B.g2
theorem Vv{S:So}{nm:Str}{pts:List Pt}{lo hi:Pt}(hS:WF S)(hl:pts.length<=1000)(hp:pts≠[])(B:lU pts lo hi)(h:wA [.tup (.str nm::pts.map pD)] S=some (.bl true,S)):wg [.tup (.str nm::pts.map pD)] S=some (.tup [pD lo,pD hi],S):=by
 have h1:=Xu h;apply bY
 .wtm_at "b"
  unfold U8;apply aM
  .apply oN;apply bC
   .wtm_at "a"
   .exact cY rfl h1
  .apply aX;apply aM
   .apply gC;apply bC
    .apply aK
     .apply bC
      .apply aK
       .apply Ar
        .wtm_at "a"
        .wtm_at "a"
        .wtm_at "a"
        .refine J8 (ys:=pts.map pD) ?_ Hf
         rintro⟨e1,e2⟩
         have:HT.sIx (D.str nm::pts.map pD).length 0 (some 1)=1:=by unfold HT.sIx;simp
         omega
       .wtm_at "a"
      .exact Uv
     .wtm_at "a"
    .exact cY rfl (R4 (hS.snoc (lo_pts _ _)) cD hl B)
   .exact eZ
 .wtm_at "c"
 .rfl
def dG(a b:Int):Int×Int:=((Rat.divInt a b).num,((Rat.divInt a b).den:Int))
def Kz{a b c d:Int}(hb:b≠0)(hd:d≠0)(h:a*d=c*b):dG a b=dG c d:=by unfold dG;rw[(Rat.divInt_eq_divInt_iff hb hd).mpr h]
theorem G4{a b:Int}(hb:0<b):dG a b=(a / ((Nat.gcd a.natAbs b.natAbs:Nat):Int),b / ((Nat.gcd a.natAbs b.natAbs:Nat):Int)):=by
 unfold dG;rw[Rat.num_divInt,Rat.den_divInt,if_neg (by omega),Int.sign_eq_one_of_pos hb,Int.one_mul,Int.gcd_eq_natAbs_gcd_natAbs,Nat.gcd_comm];congr 1;have:(b.natAbs:Int)=b:=by omega
 rw[Int.natCast_ediv,this]
def zpp{a b:Int}(hb:b≠0):0<Nat.gcd a.natAbs b.natAbs:=Nat.gcd_pos_of_pos_right _ (by omega)
def zF(a b:Int):0<(dG a b).2:=by unfold dG;have:=(Rat.divInt a b).den_pos;simp only;omega
theorem ziY{a b:Int}(hb:b≠0):(dG a b).1*b=a*(dG a b).2:=by unfold dG;have h:=(Rat.divInt a b).num_divInt_den;have:=(Rat.divInt_eq_divInt_iff (by have:=(Rat.divInt a b).den_pos;omega) hb).mp h;exact this
def Mq(a b:Int):dG (dG a b).1 (dG a b).2=dG a b:=by unfold dG;simp only[Rat.num_divInt_den]
def BK{a b:Int}(ha:0<=a)(hb:0<b):0<=(dG a b).1:=by rw[G4 hb];exact Int.ediv_nonneg ha (by omega)
def Bd.of_le{k:Nat}{x y:Int}(h:Bd k y)(hx:x.natAbs<=y.natAbs):Bd k x:=Nat.lt_of_le_of_lt hx h
theorem Gz{k:Nat}{a b:Int}(ha:Bd k a)(hb:Bd k b)(h:0<b):Bd k (dG a b).1/\Bd k (dG a b).2:=by rw[G4 h];exact⟨Bd.of_le ha (Int.natAbs_ediv_le_natAbs _ _),Bd.of_le hb (Int.natAbs_ediv_le_natAbs _ _)⟩
theorem Z9{k:Nat}{a b:Int}(hb:Bd k b)(h:b≠0):Bd k ((Nat.gcd a.natAbs b.natAbs:Nat):Int):=by refine Bd.of_le hb ?_;show Nat.gcd a.natAbs b.natAbs<=b.natAbs;exact Nat.le_of_dvd (by omega) (Nat.gcd_dvd_right _ _)
theorem Rw:∀(N:Nat) (m n:Nat) (r:Option D) (S:So),n<=N->∃r',jK (bZ (eB (bB .NotEq) (aj 1) (kq 0))) (aB (bD (eB (aN .Mod) (aj 0) (aj 1)) (aL 2)) (aB (bD (aj 1) (aL 0)) (aB (bD (aj 2) (aL 1)) aP)))
 [some (.int (m:Nat)),some (.int (n:Nat)),r] S=some (.nx,[some (.int (Nat.gcd m n:Nat)),some (.int 0),r'],S)
 |N,m,0,r,S,_=>by
  refine⟨r,?_⟩;rw[Nat.gcd_zero_right];apply Be;apply gk;apply bI
  .wtm_at "a"
  .wtm_at "a"
  .rfl
 |0,_,n+1,_,_,h=>by omega
 |N+1,m,n+1,r,S,h=>by
  obtain⟨r',e⟩:=Rw N (n+1) (m % (n+1)) (some (.int ((m % (n+1):Nat):Int))) S (by have:=Nat.mod_lt m (show 0<n+1 by omega);omega);refine⟨r',?_⟩;have hg:Nat.gcd m (n+1)=Nat.gcd (n+1) (m % (n+1)):=by rw[Nat.gcd_comm m,Nat.gcd_rec,Nat.gcd_comm]
  rw[hg];have hm:((m:Nat):Int).fmod ((n+1:Nat):Int)=((m % (n+1):Nat):Int):=by rw[Int.fmod_eq_emod_of_nonneg _ (by omega)];rfl
  refine Ls (σ1:=[]) (fl := .nx) (S1:=S) (S2:=S) ?_ ?_ (.inl rfl) e
  .apply gk;have:D.bl true = .bl (!decide (((n+1:Nat):Int)=0)):=by rw[nO (by omega)];rfl
   rw[this];apply bI
   .wtm_at "a"
   .wtm_at "a"
   .wtm_at "h"
  .rw[<-hm];have h0:((n+1:Nat):Int)≠0:=by omega
   wtm_at "a"
theorem zd1(m n:Nat)(S:So):HF [.int (m:Nat),.int (n:Nat)] S=some (.int (Nat.gcd m n:Nat),S):=by
 obtain⟨r',e⟩:=Rw n m n none S (bT _);apply bY
 .wtm_at "b"
  unfold Xy;apply aM
  .exact e
  .apply aX;apply aM
   .apply gC;apply bC
    .wtm_at "a"
    .exact Rz
   .have:(if((Nat.gcd m n:Nat):Int)<0 then -((Nat.gcd m n:Nat):Int) else((Nat.gcd m n:Nat):Int))=((Nat.gcd m n:Nat):Int):=if_neg (by omega);rw[this];exact eZ
 .wtm_at "c"
 .rfl
abbrev rD(p:Int×Int):D:=R2 p.1 p.2
theorem Ci{k:Nat}{a b:Int}(ha:0<=a)(hb:0<b)(hk:Bd k b)(h8:k<=8000)(S:So):uF [R2 a b] S=some (rD (dG a b),S):=by
 have e:HF [.int a,.int b] S=some (.int ((Nat.gcd a.natAbs b.natAbs:Nat):Int),S):=by
  have:=zd1 a.natAbs b.natAbs S;have h1:(a.natAbs:Int)=a:=by omega
  have h2:(b.natAbs:Int)=b:=by omega
  rw[h1,h2] at this;exact this
 have hg:=zpp (a:=a) (show b≠0 by omega);have hd:eX ((Nat.gcd a.natAbs b.natAbs:Nat):Int)=true:=La (Z9 hk (by omega)) (by omega) h8;apply bY
 .wtm_at "b"
  unfold Xj;rw[G4 hb];rw[<-Int.fdiv_eq_ediv_of_nonneg a (show(0:Int)<=((Nat.gcd a.natAbs b.natAbs:Nat):Int) by omega),<-Int.fdiv_eq_ediv_of_nonneg b (show(0:Int)<=((Nat.gcd a.natAbs b.natAbs:Nat):Int) by omega)];wtm_at "a"
 .wtm_at "c"
 .rfl
end MX.P
end
section
local macro_rules|`(tactic|wtm_at $s)=>uS s "d&|+P.sp_is_less & & & & ^"
namespace MX.P
open PySem L2 MX
def iG(s w lo hi:Int):Int×Int:=if 0<w then(lo - s,w) else(s - hi,-w)
def jn(s w lo hi:Int):Int×Int:=if 0<w then(hi - s,w) else(s - lo,-w)
theorem zep(s w lo hi:Int)(S:So):O4 [.int s,.int w,.int lo,.int hi] S=some (.tup [rD (iG s w lo hi),rD (jn s w lo hi)],S):=by
 by_cases h:0<w
 .have e1:iG s w lo hi=(lo - s,w):=if_pos h;have e2:jn s w lo hi=(hi - s,w):=if_pos h;rw[e1,e2];apply bY
  .wtm_at "b"
   unfold O2;wtm_at "a"
  .wtm_at "c"
  .rfl
 .have e1:iG s w lo hi=(s - hi,-w):=if_neg h;have e2:jn s w lo hi=(s - lo,-w):=if_neg h;rw[e1,e2];apply bY
  .wtm_at "b"
   unfold O2;wtm_at "a"
  .wtm_at "c"
  .rfl
def eH(a b:Int×Int):Prop:=a.1*b.2<b.1*a.2
instance (a b:Int×Int):Decidable (eH a b):=by unfold eH;infer_instance
noncomputable def lD:Option (Int×Int)->D
 |none => .non
 |some p=>rD p
def qu(w:Int)(a e:Int×Int):Int×Int:=if eH a e then e else a
def sY(a:Option (Int×Int))(l:Int×Int):Int×Int:=match a with
 |none=>l
 |some m=>if eH l m then l else m
theorem ziO{σ0 σ1:D}{f:Int×Int}{l:D}{s lo hi:Int}{t:Option D}{S:So}(h1:lo<=s)(h2:s<=hi):
 qi [some σ0,some σ1,some (rD f),some l,some (.int s),some (.int 0),some (.int lo),some (.int hi),t] S=some (.ct,[some σ0,some σ1,some (rD f),some l,some (.int s),some (.int 0),some (.int lo),some (.int hi),t],S):=by
 unfold qi Bu;wtm_at "a"
theorem ziM{σ0 σ1:D}{f:Int×Int}{l:D}{s lo hi:Int}{t:Option D}{S:So}(h:s<lo\/hi<s):
 qi [some σ0,some σ1,some (rD f),some l,some (.int s),some (.int 0),some (.int lo),some (.int hi),t] S=some (.rt .non,[some σ0,some σ1,some (rD f),some l,some (.int s),some (.int 0),some (.int lo),some (.int hi),t],S):=by
 unfold qi Bu;by_cases h1:s<lo
 .wtm_at "a"
 .have h2:hi<s:=by omega
  wtm_at "a"
theorem Rt{k:Nat}{s w lo hi:Int}(hs:Bd k s)(hw:Bd k w)(hl:Bd k lo)(hh:Bd k hi):Bd (k+1) (iG s w lo hi).1/\Bd (k+1) (iG s w lo hi).2/\Bd (k+1) (jn s w lo hi).1/\Bd (k+1) (jn s w lo hi).2:=by
 unfold iG jn;have a1:=(hl.sub hs).le (show max k k+1<=k+1 by omega);have a2:=(hh.sub hs).le (show max k k+1<=k+1 by omega);have a3:=(hs.sub hh).le (show max k k+1<=k+1 by omega);have a4:=(hs.sub hl).le (show max k k+1<=k+1 by omega);have a5:=hw.le (show k<=k+1 by omega);split
 .exact⟨a1,a5,a2,a5⟩
 .exact⟨a3,a5.neg,a4,a5.neg⟩
def Hq(w:Int)(a e:Int×Int):qu w a e=a\/qu w a e=e:=by unfold qu;split<;>simp
theorem Lj(a:Option (Int×Int))(l:Int×Int):sY a l=l\/∃m,a=some m/\sY a l=m:=by
 unfold sY;split
 .exact .inl rfl
 .split
  .exact .inl rfl
  .exact .inr ⟨_,rfl,rfl⟩
theorem ziN{k:Nat}{σ0 σ1:D}{f:Int×Int}{l:Option (Int×Int)}{s w lo hi:Int}{t:Option D}{S:So}(hw:w≠0)(bs:Bd k s)(bw:Bd k w)(bl:Bd k lo)(bh:Bd k hi)(hk:k<=10000)(f1:Bd (k+1) f.1)(f2:Bd (k+1) f.2)(l1:∀m,l=some m->Bd (k+1) m.1/\Bd (k+1) m.2):
 ∃t',qi [some σ0,some σ1,some (rD f),some (lD l),some (.int s),some (.int w),some (.int lo),some (.int hi),t] S
  = some (.nx,[some σ0,some σ1,some (rD (qu w f (iG s w lo hi))),some (rD (sY l (jn s w lo hi))),some (.int s),some (.int w),some (.int lo),some (.int hi),t'],S):=by
 obtain⟨b1,b2,b3,b4⟩:=Rt bs bw bl bh;have tb:=zep s w lo hi S;generalize iG s w lo hi=e at *
 generalize jn s w lo hi=g at *
 obtain⟨e1,e2⟩:=e;obtain⟨g1,g2⟩:=g;obtain⟨p1,p2⟩:=f;simp only at b1 b2 b3 b4 f1 f2;refine⟨some (.tup [R2 e1 e2,R2 g1 g2]),?_⟩;have s1:∀q:D,Bu [some σ0,some σ1,some (rD (p1,p2)),some q,some (.int s),some (.int w),some (.int lo),some (.int hi),t] S=some (.nx,[some σ0,some σ1,some (rD (p1,p2)),some q,some (.int s),some (.int w),some (.int lo),some (.int hi),t],S):=λq=>by unfold Bu;wtm_at "a"
 have s2:∀q:D,Ni [some σ0,some σ1,some (rD (p1,p2)),some q,some (.int s),some (.int w),some (.int lo),some (.int hi),t] S=some (.nx,[some σ0,some σ1,some (rD (p1,p2)),some q,some (.int s),some (.int w),some (.int lo),some (.int hi),some (.tup [R2 e1 e2,R2 g1 g2])],S):=λq=>by unfold Ni;wtm_at "a"
 have s3:∀q:D,Nj [some σ0,some σ1,some (rD (p1,p2)),some q,some (.int s),some (.int w),some (.int lo),some (.int hi),some (.tup [R2 e1 e2,R2 g1 g2])] S=some (.nx,[some σ0,some σ1,some (rD (qu w (p1,p2) (e1,e2))),some q,some (.int s),some (.int w),some (.int lo),some (.int hi),some (.tup [R2 e1 e2,R2 g1 g2])],S):=λq=>by
  unfold Nj qu;by_cases hc:p1*e2<e1*p2
  .rw[if_pos (show eH (p1,p2) (e1,e2) from hc)];wtm_at "a"
  .rw[if_neg (show ¬eH (p1,p2) (e1,e2) from hc)];wtm_at "a"
 have s4:∀q:Int×Int,Nk [some σ0,some σ1,some (rD q),some (lD l),some (.int s),some (.int w),some (.int lo),some (.int hi),some (.tup [R2 e1 e2,R2 g1 g2])] S=some (.nx,[some σ0,some σ1,some (rD q),some (rD (sY l (g1,g2))),some (.int s),some (.int w),some (.int lo),some (.int hi),some (.tup [R2 e1 e2,R2 g1 g2])],S):=λq=>by
  unfold Nk sY;cases l with
  |none =>
   show dD _ _ _ [some σ0,some σ1,some (rD q),some D.non,some (.int s),some (.int w),some (.int lo),some (.int hi),some (.tup [R2 e1 e2,R2 g1 g2])] S=_;wtm_at "a"
  |some m =>
   obtain⟨m1,m2⟩:=m;obtain⟨c1,c2⟩:=l1 _ rfl;simp only at c1 c2;show dD _ _ _ [some σ0,some σ1,some (rD q),some (R2 m1 m2),some (.int s),some (.int w),some (.int lo),some (.int hi),some (.tup [R2 e1 e2,R2 g1 g2])] S=_;by_cases hc:g1*m2<m1*g2
   .simp only;rw[if_pos (show eH (g1,g2) (m1,m2) from hc)];wtm_at "a"
   .simp only;rw[if_neg (show ¬eH (g1,g2) (m1,m2) from hc)];wtm_at "a"
 unfold qi;exact aM (s1 _) (aX (aM (s2 _) (aX (aM (s3 _) (aX (aM (s4 _) (aX gB)))))))
abbrev Ax:=(Int×Int)×Option (Int×Int)
noncomputable def dO(a:Ax)(s w lo hi:Int):Option Ax:=if w=0 then(if s<lo\/hi<s then none else some a) else some (qu w a.1 (iG s w lo hi),some (sY a.2 (jn s w lo hi)))
def z9(k:Nat)(a:Ax):Prop:=Bd k a.1.1/\Bd k a.1.2/\∀m,a.2=some m->Bd k m.1/\Bd k m.2
theorem zb{k:Nat}{a a':Ax}{s w lo hi:Int}(hs:Bd k s)(hw:Bd k w)(hl:Bd k lo)(hh:Bd k hi)(h:z9 (k+1) a)(e:dO a s w lo hi=some a'):z9 (k+1) a':=by
 obtain⟨b1,b2,b3,b4⟩:=Rt hs hw hl hh;unfold dO at e;split at e
 .split at e
  .cases e
  .cases e;exact h
 .cases e;refine⟨?_,?_,λm hm=>?_⟩
  .rcases Hq w a.1 (iG s w lo hi) with q|q<;>simp only[q]
   .exact h.1
   .exact b1
  .rcases Hq w a.1 (iG s w lo hi) with q|q<;>simp only[q]
   .exact h.2.1
   .exact b2
  .cases hm;rcases Lj a.2 (jn s w lo hi) with q|⟨m,q1,q⟩<;>simp only[q]
   .exact⟨b3,b4⟩
   .exact h.2.2 m q1
def tE(ray box:D)(a:Ax)(Z:Sg):Prop:=∃j4 j5 j6 j7 j8:Option D,Z=[some ray,some box,some (rD a.1),some (lD a.2),j4,j5,j6,j7,j8]
abbrev Eh:GF:=lO 4 (gA (aL 4) (gA (aL 5) (gA (aL 6) (gA (aL 7) nJ))))
theorem Ms{k:Nat}{ray box:D}{a:Ax}{Z:Sg}{s w lo hi:Int}{S:So}(hs:Bd k s)(hw:Bd k w)(hl:Bd k lo)(hh:Bd k hi)(hk:k<=10000)(hb:z9 (k+1) a)(h:tE ray box a Z):
 ∃σ1,Eh (.tup [.int s,.int w,.int lo,.int hi]) Z S=some (σ1,S) /\
  match dO a s w lo hi with
  |none=>∃σ2,qi σ1 S=some (.rt .non,σ2,S)
  |some a'=>∃fl σ2,qi σ1 S=some (fl,σ2,S)/\(fl = .nx\/fl = .ct)/\tE ray box a' σ2:=by
 obtain⟨j4,j5,j6,j7,j8,rfl⟩:=h;refine⟨[some ray,some box,some (rD a.1),some (lD a.2),some (.int s),some (.int w),some (.int lo),some (.int hi),j8],rfl,?_⟩;unfold dO;by_cases h0:w=0
 .subst h0;rw[if_pos rfl];by_cases hc:s<lo\/hi<s
  .rw[if_pos hc];exact⟨_,ziM hc⟩
  .rw[if_neg hc];exact⟨_,_,ziO (by omega) (by omega),.inr rfl,_,_,_,_,_,rfl⟩
 .rw[if_neg h0];obtain⟨t',e⟩:=ziN (σ0:=ray) (σ1:=box) (t:=j8) (S:=S) h0 hs hw hl hh hk hb.1 hb.2.1 hb.2.2;exact⟨_,_,e,.inl rfl,_,_,_,_,_,rfl⟩
noncomputable def gD(o d lo hi:Pt):Option ((Int×Int)×(Int×Int)) :=
 (dO ((0,1),none) o.1 d.1 lo.1 hi.1).bind λa=>(dO a o.2.1 d.2.1 lo.2.1 hi.2.1).bind λb=>(dO b o.2.2 d.2.2 lo.2.2 hi.2.2).bind λc=>match c.2 with
  |none=>none
  |some l=>if eH l c.1 then none else some (c.1,l)
noncomputable def Fv:Option ((Int×Int)×(Int×Int))->D
 |none => .non
 |some p => .tup [rD p.1,rD p.2]
def aJ(k:Nat)(p:Pt):Prop:=Bd k p.1/\Bd k p.2.1/\Bd k p.2.2
def aJ.le{k l:Nat}{p:Pt}(h:aJ k p)(hl:k<=l):aJ l p:=⟨h.1.le hl,h.2.1.le hl,h.2.2.le hl⟩
theorem nW{a b:Ax}{s w lo hi:Int}(e:dO a s w lo hi=some b)(h:a.2≠none\/w≠0):b.2≠none:=by
 unfold dO at e;split at e
 .split at e
  .cases e
  .cases e;rcases h with h|h
   .exact h
   .rename_i q _;exact absurd q h
 .cases e;simp
theorem Wt{k:Nat}{o d lo hi:Pt}(ho:aJ k o)(hd:aJ k d)(hl:aJ k lo)(hh:aJ k hi)(h0:d≠(0,0,0))(hk:k<=10000)(S:So):
 wC [.tup [pD o,pD d],.tup [pD lo,pD hi]] S=some (Fv (gD o d lo hi),S):=by
 have s1:MJ [some (.tup [pD o,pD d]),some (.tup [pD lo,pD hi]),none,none,none,none,none,none,none] S=some (.nx,[some (.tup [pD o,pD d]),some (.tup [pD lo,pD hi]),some (R2 0 1),none,none,none,none,none,none],S):=by unfold MJ;wtm_at "a"
 have s2:MK [some (.tup [pD o,pD d]),some (.tup [pD lo,pD hi]),some (R2 0 1),none,none,none,none,none,none] S=some (.nx,[some (.tup [pD o,pD d]),some (.tup [pD lo,pD hi]),some (R2 0 1),some .non,none,none,none,none,none],S):=by unfold MK;wtm_at "a"
 have b0:z9 (k+1) ((0,1),none):=by
  refine⟨?_,?_,λm hm=>by cases hm⟩
  .unfold Bd;simp;exact Nat.pos_of_ne_zero (by simp)
  .unfold Bd;simp;
 have st0:tE (.tup [pD o,pD d]) (.tup [pD lo,pD hi]) ((0,1),none) [some (.tup [pD o,pD d]),some (.tup [pD lo,pD hi]),some (R2 0 1),some .non,none,none,none,none,none]:=⟨_,_,_,_,_,rfl⟩
 have it:qK (ak (eB aH (aj 0) (kq 0)) (ak (eB aH (aj 0) (kq 1)) (ak (eB aH (aj 1) (kq 0)) (ak (eB aH (aj 1) (kq 1)) au)))) [some (.tup [pD o,pD d]),some (.tup [pD lo,pD hi]),some (R2 0 1),some .non,none,none,none,none,none] S=some (.zip [pD o,pD d,pD lo,pD hi],S):=by wtm_at "j"
 have n0:dJ (.zip [pD o,pD d,pD lo,pD hi]) 0 S=some (some (.tup [.int o.1,.int d.1,.int lo.1,.int hi.1])):=rfl;have n1:dJ (.zip [pD o,pD d,pD lo,pD hi]) (0+1) S=some (some (.tup [.int o.2.1,.int d.2.1,.int lo.2.1,.int hi.2.1])):=rfl;have n2:dJ (.zip [pD o,pD d,pD lo,pD hi]) (0+1+1) S=some (some (.tup [.int o.2.2,.int d.2.2,.int lo.2.2,.int hi.2.2])):=rfl;have n3:dJ (.zip [pD o,pD d,pD lo,pD hi]) (0+1+1+1) S=some none:=rfl;obtain⟨σ1,g1,t1⟩:=Ms (S:=S) ho.1 hd.1 hl.1 hh.1 hk b0 st0;have loop:match(dO ((0,1),none) o.1 d.1 lo.1 hi.1).bind λa=>(dO a o.2.1 d.2.1 lo.2.1 hi.2.1).bind λb=>dO b o.2.2 d.2.2 lo.2.2 hi.2.2 with
  |none=>∃Z',MN [some (.tup [pD o,pD d]),some (.tup [pD lo,pD hi]),some (R2 0 1),some .non,none,none,none,none,none] S=some (.rt .non,Z',S)
  |some c=>∃Z',MN [some (.tup [pD o,pD d]),some (.tup [pD lo,pD hi]),some (R2 0 1),some .non,none,none,none,none,none] S=some (.nx,Z',S)/\tE (.tup [pD o,pD d]) (.tup [pD lo,pD hi]) c Z'/\z9 (k+1) c/\c.2≠none:=by
  cases e1:dO ((0,1),none) o.1 d.1 lo.1 hi.1 with
  |none =>
   rw[e1] at t1;obtain⟨σ2,t1⟩:=t1;exact⟨σ2,rz it rfl (mG n0 g1 t1 Gw)⟩
  |some a =>
   rw[e1] at t1;obtain⟨fl,σ2,t1,hfl,st1⟩:=t1;have b1:=zb ho.1 hd.1 hl.1 hh.1 b0 e1;obtain⟨σ3,g2,t2⟩:=Ms (S:=S) ho.2.1 hd.2.1 hl.2.1 hh.2.1 hk b1 st1;simp only[bM];cases e2:dO a o.2.1 d.2.1 lo.2.1 hi.2.1 with
   |none =>
    rw[e2] at t2;obtain⟨σ4,t2⟩:=t2;refine⟨σ4,rz it rfl (mG n0 g1 t1 ?_)⟩;rcases hfl with rfl|rfl<;>exact mG n1 g2 t2 Gw
   |some b =>
    rw[e2] at t2;obtain⟨fl2,σ4,t2,Ec,st2⟩:=t2;have b2:=zb ho.2.1 hd.2.1 hl.2.1 hh.2.1 b1 e2;obtain⟨σ5,g3,t3⟩:=Ms (S:=S) ho.2.2 hd.2.2 hl.2.2 hh.2.2 hk b2 st2;simp only[bM];cases e3:dO b o.2.2 d.2.2 lo.2.2 hi.2.2 with
    |none =>
     rw[e3] at t3;obtain⟨σ6,t3⟩:=t3;refine⟨σ6,rz it rfl (mG n0 g1 t1 ?_)⟩;rcases hfl with rfl|rfl<;>refine mG n1 g2 t2 ?_<;>rcases Ec with rfl|rfl<;>exact mG n2 g3 t3 Gw
    |some c =>
     rw[e3] at t3;obtain⟨QD,σ6,t3,Qs,st3⟩:=t3;refine⟨σ6,rz it rfl (mG n0 g1 t1 ?_),st3,zb ho.2.2 hd.2.2 hl.2.2 hh.2.2 b2 e3,?_⟩
     .rcases hfl with rfl|rfl<;>refine mG n1 g2 t2 ?_<;>rcases Ec with rfl|rfl<;>refine mG n2 g3 t3 ?_<;>rcases Qs with rfl|rfl<;>exact KY (g:=Eh) (f:=qi) n3
     .by_cases q1:d.1=0
      .by_cases q2:d.2.1=0
       .have q3:d.2.2≠0:=λq3=>h0 (by show(d.1,d.2.1,d.2.2)=_;rw[q1,q2,q3]);exact nW e3 (.inr q3)
       .exact nW e3 (.inl (nW e2 (.inr q2)))
      .exact nW e3 (.inl (nW e2 (.inl (nW e1 (.inr q1)))))
 unfold gD;have eb:((dO ((0,1),none) o.1 d.1 lo.1 hi.1).bind λa=>(dO a o.2.1 d.2.1 lo.2.1 hi.2.1).bind λb=>(dO b o.2.2 d.2.2 lo.2.2 hi.2.2).bind λc=>(match c.2 with
  |none=>none
  |some l=>if eH l c.1 then none else some (c.1,l):Option ((Int×Int)×(Int×Int))))=((dO ((0,1),none) o.1 d.1 lo.1 hi.1).bind λa=>(dO a o.2.1 d.2.1 lo.2.1 hi.2.1).bind λb=>dO b o.2.2 d.2.2 lo.2.2 hi.2.2).bind λc=>(match c.2 with
  |none=>none
  |some l=>if eH l c.1 then none else some (c.1,l)):=by
  simp only[Option.bind_assoc]
 rw[eb];cases e:(dO ((0,1),none) o.1 d.1 lo.1 hi.1).bind λa=>(dO a o.2.1 d.2.1 lo.2.1 hi.2.1).bind λb=>dO b o.2.2 d.2.2 lo.2.2 hi.2.2 with
 |none =>
  rw[e] at loop;obtain⟨Z',loop⟩:=loop;apply bY
  .wtm_at "b"
   unfold Ho;exact aM s1 (aX (aM s2 (aX (aM loop eZ))))
  .wtm_at "c"
  .rfl
 |some c =>
  rw[e] at loop;obtain⟨Z',loop,⟨j4,j5,j6,j7,j8,rfl⟩,hb,hn⟩:=loop;obtain⟨⟨f1,f2⟩,l⟩:=c;cases l with
  |none=>exact absurd rfl hn
  |some l =>
   obtain⟨l1,l2⟩:=l;obtain⟨c1,c2,c3⟩:=hb;obtain⟨c3,c4⟩:=c3 _ rfl;simp only at c1 c2 c3 c4;simp only[bM];by_cases hc:l1*f2<f1*l2
   .rw[if_pos (show eH (l1,l2) (f1,f2) from hc)];apply bY
    .wtm_at "b"
     unfold Ho;refine aM s1 (aX (aM s2 (aX (aM loop (aX (aM (fl := .rt .non) (S1:=S) (σ1:=[some (.tup [pD o,pD d]),some (.tup [pD lo,pD hi]),some (R2 f1 f2),some (R2 l1 l2),j4,j5,j6,j7,j8]) ?_ eZ))))));show BR [some (.tup [pD o,pD d]),some (.tup [pD lo,pD hi]),some (R2 f1 f2),some (R2 l1 l2),j4,j5,j6,j7,j8] S=_;unfold BR;wtm_at "a"
    .wtm_at "c"
    .rfl
   .rw[if_neg (show ¬eH (l1,l2) (f1,f2) from hc)];apply bY
    .wtm_at "b"
     unfold Ho;refine aM s1 (aX (aM s2 (aX (aM loop (aX (aM (fl := .nx) (S1:=S) (σ1:=[some (.tup [pD o,pD d]),some (.tup [pD lo,pD hi]),some (R2 f1 f2),some (R2 l1 l2),j4,j5,j6,j7,j8]) ?_ (aX (aM (fl := .rt (.tup [R2 f1 f2,R2 l1 l2])) (S1:=S) (σ1:=[some (.tup [pD o,pD d]),some (.tup [pD lo,pD hi]),some (R2 f1 f2),some (R2 l1 l2),j4,j5,j6,j7,j8]) ?_ eZ))))))))
     .show BR [some (.tup [pD o,pD d]),some (.tup [pD lo,pD hi]),some (R2 f1 f2),some (R2 l1 l2),j4,j5,j6,j7,j8] S=_;unfold BR;wtm_at "a"
     .unfold Ww;wtm_at "a"
    .wtm_at "c"
    .rfl
end MX.P
end
section
local macro_rules|`(tactic|wtm_at $s)=>uS s "d&"
namespace MX.P
open PySem L2 MX
structure yt(k:Nat)(p:(Int×Int)×(Int×Int)):Prop where
 f0:0<=p.1.1
 f2:0<p.1.2
 l0:0<=p.2.1
 l2:0<p.2.2
 b1:Bd k p.1.1
 b2:Bd k p.1.2
 b3:Bd k p.2.1
 b4:Bd k p.2.2
def Uj{s w lo hi:Int}(h:w≠0):0<(iG s w lo hi).2/\0<(jn s w lo hi).2:=by unfold iG jn;split<;>simp<;>omega
def IW(a:Ax):Prop:=0<=a.1.1/\0<a.1.2/\∀m,a.2=some m->0<m.2
theorem G7{a a':Ax}{s w lo hi:Int}(h:IW a)(e:dO a s w lo hi=some a'):IW a':=by
 unfold dO at e;split at e
 .split at e
  .cases e
  .cases e;exact h
 .rename_i hw;cases e;obtain⟨p1,p2⟩:=Uj (s:=s) (lo:=lo) (hi:=hi) hw;refine⟨?_,?_,λm hm=>?_⟩
  .simp only;unfold qu;split
   .rename_i hc;unfold eH at hc;have:=h.1;have h2:=h.2.1;have h3:0<=a.1.1*(iG s w lo hi).2:=Int.mul_nonneg this (by omega);have h4:0<(iG s w lo hi).1*a.1.2:=by omega
    exact Int.le_of_lt (Int.pos_of_mul_pos_left h4 h2)
   .exact h.1
  .rcases Hq w a.1 (iG s w lo hi) with q|q<;>simp only[q]
   .exact h.2.1
   .exact p1
  .cases hm;rcases Lj a.2 (jn s w lo hi) with q|⟨m,q1,q⟩<;>simp only[q]
   .exact p2
   .exact h.2.2 m q1
def leQ(a b:Int×Int):Prop:=a.1*b.2<=b.1*a.2
def p7{a b:Int×Int}(h:¬eH b a):leQ a b:=by unfold eH at h;unfold leQ;omega
def Vh{a b:Int×Int}(h:leQ a b):¬eH b a:=by unfold leQ at h;unfold eH;omega
def zms(a:Int×Int):leQ a a:=Int.le_refl _
theorem zA{a b c:Int×Int}(ha:0<a.2)(hb:0<b.2)(hc:0<c.2)(h1:leQ a b)(h2:leQ b c):leQ a c:=by
 unfold leQ at *
 have e1:=Int.mul_le_mul_of_nonneg_right h1 (Int.le_of_lt hc);have e2:=Int.mul_le_mul_of_nonneg_right h2 (Int.le_of_lt ha);refine Int.le_of_mul_le_mul_right (a:=b.2) ?_ hb;have i1:a.1*c.2*b.2=a.1*b.2*c.2:=by grind
 have i2:c.1*a.2*b.2=c.1*b.2*a.2:=by grind
 have i3:b.1*a.2*c.2=b.1*c.2*a.2:=by grind
 omega
def ziX{a b:Int×Int}(ha:0<a.2)(hb:0<b.2)(h1:leQ a b)(h2:leQ b a):dG a.1 a.2=dG b.1 b.2:=by
 unfold leQ at *
 exact Kz (by omega) (by omega) (by omega)
def zo9{a:Int×Int}(ha:0<a.2):leQ a (dG a.1 a.2)/\leQ (dG a.1 a.2) a:=by have:=ziY (a:=a.1) (b:=a.2) (by omega);unfold leQ;omega
theorem Vc{k:Nat}{o d lo hi:Pt}{p:(Int×Int)×(Int×Int)}(ho:aJ k o)(hd:aJ k d)(hl:aJ k lo)(hh:aJ k hi)(e:gD o d lo hi=some p):yt (k+1) p:=by
 unfold gD at e;simp only[aU] at e;obtain⟨a,e1,b,e2,c,e3,e4⟩:=e;have b0:z9 (k+1) ((0,1),none):=by
  refine⟨?_,?_,λm hm=>by cases hm⟩
  .unfold Bd;simp;exact Nat.pos_of_ne_zero (by simp)
  .unfold Bd;simp
 have p0:IW ((0,1),none):=⟨by simp,by simp,λm hm=>by cases hm⟩
 have b3:=zb ho.2.2 hd.2.2 hl.2.2 hh.2.2 (zb ho.2.1 hd.2.1 hl.2.1 hh.2.1 (zb ho.1 hd.1 hl.1 hh.1 b0 e1) e2) e3;have p3:=G7 (G7 (G7 p0 e1) e2) e3;split at e4
 .cases e4
 .rename_i l hl';split at e4
  .cases e4
  .rename_i hc;cases e4;obtain⟨q1,q2⟩:=b3.2.2 _ hl';have q3:=p3.2.2 _ hl';have hle:=p7 hc;refine⟨p3.1,p3.2.1,?_,q3,b3.1,b3.2.1,q1,q2⟩;unfold leQ at hle;have h1:0<=c.1.1*l.2:=Int.mul_nonneg p3.1 (by omega);have h2:0<=l.1*c.1.2:=by omega
   refine Int.le_of_mul_le_mul_right (a:=c.1.2) ?_ p3.2.1;simpa using h2
noncomputable def Qj:Option ((Int×Int)×(Int×Int))->D
 |none => .non
 |some p=>rD (dG p.1.1 p.1.2)
theorem zgr{k:Nat}{o d lo hi:Pt}(ho:aJ k o)(hd:aJ k d)(hl:aJ k lo)(hh:aJ k hi)(h0:d≠(0,0,0))(hk:k<=7000)(S:So):
 zdt [.tup [pD o,pD d],.tup [pD lo,pD hi]] S=some (Qj (gD o d lo hi),S):=by
 have hs:=Wt ho hd hl hh h0 (by omega) S;cases e:gD o d lo hi with
 |none =>
  rw[e] at hs;have hs:wC [.tup [pD o,pD d],.tup [pD lo,pD hi]] S=some (.non,S):=hs;apply bY
  .wtm_at "b"
   unfold MF;wtm_at "a"
  .wtm_at "c"
  .rfl
 |some p =>
  rw[e] at hs;have ok:=Vc ho hd hl hh e;obtain⟨⟨f1,f2⟩,⟨l1,l2⟩⟩:=p;have hs:wC [.tup [pD o,pD d],.tup [pD lo,pD hi]] S=some (.tup [R2 f1 f2,R2 l1 l2],S):=hs;have t1:=Ci ok.f0 ok.f2 ok.b2 (show k+1<=8000 by omega) S;simp only at t1;apply bY
  .wtm_at "b"
   unfold MF;wtm_at "a"
  .wtm_at "c"
  .rfl
theorem Y4{d:Pt}(h:d≠(0,0,0)):¬(pD d=P3 0 0 0):=λe=>by simp only[D.tup.injEq,List.cons.injEq,D.int.injEq,and_true] at e;exact h (by show(d.1,d.2.1,d.2.2)=_;rw[e.1,e.2.1,e.2.2])
theorem Xv{o d:Pt}(h0:d≠(0,0,0))(S:So):uz [.tup [pD o,pD d]] S=some (.non,S):=by
 have hne:=Y4 h0;apply WL
 .wtm_at "b"
  unfold BX;wtm_at "a"
 .wtm_at "c"
theorem zfl{k:Nat}{o d lo hi:Pt}(ho:aJ k o)(hd:aJ k d)(hl:aJ k lo)(hh:aJ k hi)(h0:d≠(0,0,0))(hk:k<=7000)(S:So):
 zy [.tup [pD o,pD d],.tup [.str "box",pD lo,pD hi]] S=some (Qj (gD o d lo hi),S):=by
 have hm:=zgr ho hd hl hh h0 hk S;apply bY
 .wtm_at "b"
  unfold Li;wtm_at "a"
 .wtm_at "c"
 .cases gD o d lo hi<;>rfl
end MX.P
end
section
namespace MX.P
open PySem L2 MX
noncomputable def wb(a b:Pt):Pt:=(b.1 - a.1,b.2.1 - a.2.1,b.2.2 - a.2.2)
def aQ(a b:Pt):Int:=a.1*b.1+a.2.1*b.2.1+a.2.2*b.2.2
noncomputable def aF(a b:Pt):Pt:=(a.2.1*b.2.2 - a.2.2*b.2.1,a.2.2*b.1 - a.1*b.2.2,a.1*b.2.1 - a.2.1*b.1)
theorem aJ.wb{k l:Nat}{a b:Pt}(ha:aJ k a)(hb:aJ l b):aJ (max k l+1) (wb a b) :=
 ⟨(hb.1.sub ha.1).le (by omega),(hb.2.1.sub ha.2.1).le (by omega),(hb.2.2.sub ha.2.2).le (by omega)⟩
theorem aJ.cross{k l:Nat}{a b:Pt}(ha:aJ k a)(hb:aJ l b):aJ (k+l+1) (aF a b) :=
 ⟨((ha.2.1.mul hb.2.2).sub (ha.2.2.mul hb.2.1)).le (by omega),((ha.2.2.mul hb.1).sub (ha.1.mul hb.2.2)).le (by omega),((ha.1.mul hb.2.1).sub (ha.2.1.mul hb.1)).le (by omega)⟩
theorem aJ.dot{k l:Nat}{a b:Pt}(ha:aJ k a)(hb:aJ l b):Bd (k+l+2) (aQ a b) :=
 (((ha.1.mul hb.1).add (ha.2.1.mul hb.2.1)).add (ha.2.2.mul hb.2.2)).le (by omega)
def sp_wb(a b:Pt)(S:So):eO [pD a,pD b] S=some (pD (wb a b),S):=zfj _ _ _ _ _ _ _
def sp_vdot{k l:Nat}{a b:Pt}(ha:aJ k a)(hb:aJ l b)(h:k+l<=134217728)(S:So):fQ [pD a,pD b] S=some (.int (aQ a b),S):=zqu ha.1 ha.2.1 ha.2.2 hb.1 hb.2.1 hb.2.2 h S
def sp_vcross{k l:Nat}{a b:Pt}(ha:aJ k a)(hb:aJ l b)(h:k+l<=134217728)(S:So):jm [pD a,pD b] S=some (pD (aF a b),S):=zlS ha.1 ha.2.1 ha.2.2 hb.1 hb.2.1 hb.2.2 h S
theorem YZ{a b:Pt}:pD a=pD b↔a=b:=by
 constructor
 .intro h;simp only[D.tup.injEq,List.cons.injEq,D.int.injEq,and_true] at h;exact Prod.ext h.1 (Prod.ext h.2.1 h.2.2)
 .intro h;rw[h]
def zp{a:Pt}:pD a=P3 0 0 0↔a=(0,0,0):=YZ (b:=(0,0,0))
def jG(a b:Int):Int:=if b>a then b else a
def pU(a b:Int):Int:=if b<a then b else a
abbrev Tq:=Option (Int×Int)
noncomputable def O9:Tq->D
 |none => .non
 |some p=>rD (dG p.1 p.2)
noncomputable def yJ(o d a b:Pt):Tq :=
 if aF (wb o a) d=(0,0,0) then
  if jG (aQ (wb o a) d) (aQ (wb o b) d)<0 then none else some (jG (pU (aQ (wb o a) d) (aQ (wb o b) d)) 0,aQ d d)
 else none
noncomputable def oF(o d a b:Pt):Tq :=
 if aF d (wb a b)=(0,0,0) then yJ o d a b
 else if aQ (wb o a) (aF d (wb a b))=0 then
  if aQ (aF (wb o a) (wb a b)) (aF d (wb a b))<0\/aQ (aF (wb o a) d) (aF d (wb a b))<0\/aQ (aF d (wb a b)) (aF d (wb a b))<aQ (aF (wb o a) d) (aF d (wb a b)) then none
  else some (aQ (aF (wb o a) (wb a b)) (aF d (wb a b)),aQ (aF d (wb a b)) (aF d (wb a b)))
 else none
theorem Hu(x:Int):0<=x*x:=by
 by_cases h:0<=x
 .exact Int.mul_nonneg h h
 .have:=Int.mul_nonneg (show 0 <= -x by omega) (show 0 <= -x by omega)
  rwa [Int.neg_mul_neg] at this
def Kf{x:Int}(h:x≠0):0<x*x:=by
 have h1:=Hu x;have:x*x≠0:=λe=>by rcases Int.mul_eq_zero.mp e with e|e<;>exact h e
 omega
theorem wD{a:Pt}(h:a≠(0,0,0)):0<aQ a a:=by
 unfold aQ;have h1:=Hu a.1;have h2:=Hu a.2.1;have h3:=Hu a.2.2;by_cases q1:a.1=0
 .by_cases q2:a.2.1=0
  .have q3:a.2.2≠0:=λq3=>h (by show(a.1,a.2.1,a.2.2)=_;rw[q1,q2,q3]);have:=Kf q3;omega
  .have:=Kf q2;omega
 .have:=Kf q1;omega
end MX.P
local macro_rules|`(tactic|wtm_at $s)=>uS s "d=P.sp_wb,,,|+P.sp_vdot & & ^|+P.sp_vcross & & ^|&"
namespace MX.P
open PySem L2 MX
theorem zfm{k:Nat}{o d a b:Pt}(ho:aJ k o)(hd:aJ k d)(ha:aJ k a)(hb:aJ k b)(h0:d≠(0,0,0))(hk:k<=1500)(S:So):
 N7 [.tup [pD o,pD d],pD a,pD b] S=some (O9 (yJ o d a b),S):=by
 have w1:=(ho.wb ha).le (show max k k+1<=k+1 by omega);have w2:=(ho.wb hb).le (show max k k+1<=k+1 by omega);have hdd:=hd.dot hd;have hpos:=wD h0;unfold yJ;by_cases hc:aF (wb o a) d=(0,0,0)
 .rw[if_pos hc];have hc':pD (aF (wb o a) d)=P3 0 0 0:=zp.mpr hc;by_cases hm:jG (aQ (wb o a) d) (aQ (wb o b) d)<0
  .rw[if_pos hm];unfold jG at hm;apply bY
   .wtm_at "b"
    unfold HS;wtm_at "a"
   .wtm_at "c"
   .rfl
  .rw[if_neg hm];have hnn:0<=jG (pU (aQ (wb o a) d) (aQ (wb o b) d)) 0:=by unfold jG;split<;>omega
   have hl:=Ci hnn hpos hdd (show k+k+2<=8000 by omega) S;unfold jG pU at hl;unfold jG at hm;apply bY
   .wtm_at "b"
    unfold HS;wtm_at "a"
   .wtm_at "c"
   .rfl
 .rw[if_neg hc];have hc':¬pD (aF (wb o a) d)=P3 0 0 0:=λe=>hc (zp.mp e);apply bY
  .wtm_at "b"
   unfold HS;wtm_at "a"
  .wtm_at "c"
  .rfl
end MX.P
end
section
local macro_rules|`(tactic|wtm_at $s)=>uS s "d=P.sp_wb,,,|+P.sp_vdot & & ^|+P.sp_vcross & & ^|&"
namespace MX.P
open PySem L2 MX
theorem zeq{k:Nat}{o d a b:Pt}(ho:aJ k o)(hd:aJ k d)(ha:aJ k a)(hb:aJ k b)(h0:d≠(0,0,0))(hk:k<=1500)(S:So):
 O3 [.tup [pD o,pD d],pD a,pD b] S=some (O9 (oF o d a b),S):=by
 have w1:=(ho.wb ha).le (show max k k+1<=k+1 by omega);have w2:=(ha.wb hb).le (show max k k+1<=k+1 by omega);have w3:=hd.cross w2;have w4:=w1.cross w2;have w5:=w1.cross hd;have hdd:=w3.dot w3;have hal:=zfm ho hd ha hb h0 hk S;unfold oF;by_cases hc:aF d (wb a b)=(0,0,0)
 .rw[if_pos hc];have hc':pD (aF d (wb a b))=P3 0 0 0:=zp.mpr hc;apply bY
  .wtm_at "b"
   unfold wH;wtm_at "a"
  .wtm_at "c"
  .cases yJ o d a b<;>rfl
 .rw[if_neg hc];have hpos:=wD hc;have hc':¬pD (aF d (wb a b))=P3 0 0 0:=λe=>hc (zp.mp e);by_cases hq:aQ (wb o a) (aF d (wb a b))=0
  .rw[if_pos hq];by_cases p1:aQ (aF (wb o a) (wb a b)) (aF d (wb a b))<0
   .rw[if_pos (.inl p1)];apply bY
    .wtm_at "b"
     unfold wH;wtm_at "a"
    .wtm_at "c"
    .rfl
   .by_cases p2:aQ (aF (wb o a) d) (aF d (wb a b))<0
    .rw[if_pos (.inr (.inl p2))];apply bY
     .wtm_at "b"
      unfold wH;wtm_at "a"
     .wtm_at "c"
     .rfl
    .by_cases p3:aQ (aF d (wb a b)) (aF d (wb a b))<aQ (aF (wb o a) d) (aF d (wb a b))
     .rw[if_pos (.inr (.inr p3))];apply bY
      .wtm_at "b"
       unfold wH;wtm_at "a"
      .wtm_at "c"
      .rfl
     .rw[if_neg (by rintro(q|q|q);exact p1 q;exact p2 q;exact p3 q)];have hl:=Ci (show 0<=aQ (aF (wb o a) (wb a b)) (aF d (wb a b)) by omega) hpos hdd (show k+(k+1)+1+(k+(k+1)+1)+2<=8000 by omega) S;apply bY
      .wtm_at "b"
       unfold wH;wtm_at "a"
      .wtm_at "c"
      .rfl
  .rw[if_neg hq];apply bY
   .wtm_at "b"
    unfold wH;wtm_at "a"
   .wtm_at "c"
   .rfl
def oU(k:Nat)(t:Tq):Prop:=∀p,t=some p->0<=p.1/\0<p.2/\Bd k p.1/\Bd k p.2
theorem zu{k:Nat}{o d a b:Pt}(ho:aJ k o)(hd:aJ k d)(ha:aJ k a)(hb:aJ k b)(h0:d≠(0,0,0)):oU (4*k+10) (oF o d a b):=by
 have w1:=(ho.wb ha).le (show max k k+1<=k+1 by omega);have w0:=(ho.wb hb).le (show max k k+1<=k+1 by omega);have w2:=(ha.wb hb).le (show max k k+1<=k+1 by omega);have w3:=hd.cross w2;have w4:=w1.cross w2;have hdd:=w3.dot w3;have h1:=wD h0;intro p hp;unfold oF at hp;split at hp
 .unfold yJ at hp;split at hp
  .split at hp
   .cases hp
   .cases hp;have a1:=w1.dot hd;have a2:=w0.dot hd;refine⟨?_,h1,?_,(hd.dot hd).le (by omega)⟩
    .simp only;unfold jG;split<;>omega
    .simp only;have hz:Bd (4*k+10) 0:=(Bd.lit 0).le (Nat.zero_le _);have e1:=a1.le (show k+1+k+2<=4*k+10 by omega);have e2:=a2.le (show k+1+k+2<=4*k+10 by omega);unfold jG pU;split<;>split<;>assumption
  .cases hp
 .rename_i hc;have hpos:=wD hc;split at hp
  .split at hp
   .cases hp
   .rename_i hn;cases hp;refine⟨?_,hpos,(w4.dot w3).le (by omega),hdd.le (by omega)⟩;simp only;exact Int.not_lt.mp λq=>hn (.inl q)
  .cases hp
def oA(t:Tq):Tq:=t.map λp=>dG p.1 p.2
noncomputable def tD(t:Tq):D:=match t with
 |none => .non
 |some p=>rD p
def zqc(t:Tq):O9 t=tD (oA t):=by cases t<;>rfl
def pick(best new:Tq):Tq:=match new with
 |none=>best
 |some t=>match best with
  |none=>some t
  |some b=>if eH t b then some t else some b
def pW(o d a b c:Pt):Tq:=pick (pick (pick none (oA (oF o d a b))) (oA (oF o d b c))) (oA (oF o d c a))
theorem zq{k:Nat}{t:Tq}(h:oU k t):oU k (oA t):=λp hp=>by
 unfold oA at hp;cases t with
 |none=>cases hp
 |some q =>
  cases hp;obtain⟨h1,h2,h3,h4⟩:=h q rfl;obtain⟨b1,b2⟩:=Gz h3 h4 h2;exact⟨BK h1 h2,zF _ _,b1,b2⟩
def Bc{k:Nat}{s t:Tq}(h:oU k s)(g:oU k t):oU k (pick s t):=by
 unfold pick;split
 .exact h
 .split
  .exact g
  .split
   .exact g
   .exact h
abbrev eL(a b c:Pt):O := .lst [.tup [pD a,pD b],.tup [pD b,pD c],.tup [pD c,pD a]]
theorem SM{n:Nat}{xs:List D}{S:So}(h:S[n]?=some (.lst xs)):mU (.lst n) S=some xs.length:=by show(match S[n]? with|some (.lst xs)=>some xs.length|some (.frz xs)=>some xs.length|_=>none)=_;rw[h]
def Te{n i:Nat}{xs:List D}{S:So}(h:S[n]?=some (.lst xs))(hi:xs[i]?=none):dJ (.lst n) i S=some none:=by unfold dJ;simp only;rw[h];simp only;rw[hi]
theorem zha{a b c:Pt}{S:So}(hS:WF S):wz [.tup [pD a,pD b,pD c]] S=some (.ref S.length,S++[eL a b c]):=by
 apply uw
 .wtm_at "b"
  unfold Mg;wtm_at "a"
 .intro h;simp[D.lo] at h
 .simp
 .simp[D.lo]
 .exact hS.snoc rfl
theorem zgs{a b c:Pt}{n:Nat}{S:So}(hS:WF S)(hn:S[n]?=some (.lst [pD a,pD b,pD c])):wz [.ref n] S=some (.ref S.length,S++[eL a b c]):=by
 apply uw
 .wtm_at "b"
  unfold Mg;wtm_at "a"
 .intro h;simp[D.lo] at h
 .simp
 .simp[D.lo]
 .exact hS.snoc rfl
theorem Lp{k:Nat}{o d p q:Pt}{tr:D}{best:Tq}{x5:Option D}(ho:aJ k o)(hd:aJ k d)(hp:aJ k p)(hq:aJ k q)(h0:d≠(0,0,0))(hk:k<=1500)(hb:oU (4*k+10) best)(S:So):
 ∃y,Ot [some (.tup [pD o,pD d]),some tr,some (tD best),some (pD p),some (pD q),x5] S=some (.nx,[some (.tup [pD o,pD d]),some tr,some (tD (pick best (oA (oF o d p q)))),some (pD p),some (pD q),y],S):=by
 have hs:=zeq ho hd hp hq h0 hk S;rw[zqc] at hs;have hb':=zq (zu ho hd hp hq h0);generalize oA (oF o d p q)=t at *
 have s1:OD [some (.tup [pD o,pD d]),some tr,some (tD best),some (pD p),some (pD q),x5] S=some (.nx,[some (.tup [pD o,pD d]),some tr,some (tD best),some (pD p),some (pD q),some (tD t)],S):=by unfold OD;wtm_at "a"
 refine⟨some (tD t),?_⟩;unfold Ot;refine aM s1 (aX (aM ?_ (aX gB)));unfold pick;cases t with
 |none =>
  show rG [some (.tup [pD o,pD d]),some tr,some (tD best),some (pD p),some (pD q),some .non] S=some (_,[some (.tup [pD o,pD d]),some tr,some (tD best),some (pD p),some (pD q),some .non],_);unfold rG;wtm_at "a"
 |some t =>
  obtain⟨t1,t2⟩:=t;obtain⟨_,_,b1,b2⟩:=hb' _ rfl;cases best with
  |none =>
   show rG [some (.tup [pD o,pD d]),some tr,some .non,some (pD p),some (pD q),some (R2 t1 t2)] S=some (_,[some (.tup [pD o,pD d]),some tr,some (R2 t1 t2),some (pD p),some (pD q),some (R2 t1 t2)],_);unfold rG;wtm_at "a"
  |some m =>
   obtain⟨m1,m2⟩:=m;obtain⟨_,_,c1,c2⟩:=hb _ rfl;have hless:=sp_is_less b1 b2 c1 c2 (show 4*k+10+(4*k+10)<=134217728 by omega) S;simp only at hless;by_cases hc:t1*m2<m1*t2
   .simp only;rw[if_pos (show eH (t1,t2) (m1,m2) from hc)];show rG [some (.tup [pD o,pD d]),some tr,some (R2 m1 m2),some (pD p),some (pD q),some (R2 t1 t2)] S=some (_,[some (.tup [pD o,pD d]),some tr,some (R2 t1 t2),some (pD p),some (pD q),some (R2 t1 t2)],_);unfold rG;wtm_at "a"
   .simp only;rw[if_neg (show ¬eH (t1,t2) (m1,m2) from hc)];show rG [some (.tup [pD o,pD d]),some tr,some (R2 m1 m2),some (pD p),some (pD q),some (R2 t1 t2)] S=some (_,[some (.tup [pD o,pD d]),some tr,some (R2 m1 m2),some (pD p),some (pD q),some (R2 t1 t2)],_);unfold rG;wtm_at "a"
theorem Xl{k:Nat}{o d a b c:Pt}(ho:aJ k o)(hd:aJ k d)(ha:aJ k a)(hb:aJ k b)(hc:aJ k c)(h0:d≠(0,0,0))(hk:k<=1500)(S:So)(hS:WF S):
 zJ [.tup [pD o,pD d],.tup [pD a,pD b,pD c]] S=some (tD (pW o d a b c),S):=by
 have n0:oU (4*k+10) none:=λp hp=>by cases hp
 have n1:=Bc n0 (zq (zu ho hd ha hb h0));have n2:=Bc n1 (zq (zu ho hd hb hc h0));obtain⟨y1,e1⟩:=Lp (tr := .tup [pD a,pD b,pD c]) (x5:=none) ho hd ha hb h0 hk n0 (S++[eL a b c]);obtain⟨y2,e2⟩:=Lp (tr := .tup [pD a,pD b,pD c]) (x5:=y1) ho hd hb hc h0 hk n1 (S++[eL a b c]);obtain⟨y3,e3⟩:=Lp (tr := .tup [pD a,pD b,pD c]) (x5:=y2) ho hd hc ha h0 hk n2 (S++[eL a b c]);have hz:D.lo S.length (tD (pW o d a b c))=true:=by cases pW o d a b c<;>rfl
 have hn:(S++[eL a b c])[S.length]?=some (eL a b c):=cD;have ed:=zha (a:=a) (b:=b) (c:=c) hS;have it:fP (eN (aO 1 wz) (ak (aj 1) au)) [some (.tup [pD o,pD d]),some (.tup [pD a,pD b,pD c]),some .non,none,none,none] S=some (.lst S.length,S++[eL a b c]):=by wtm_at "j"
 have s2:O1 [some (.tup [pD o,pD d]),some (.tup [pD a,pD b,pD c]),some .non,none,none,none] S=some (.nx,[some (.tup [pD o,pD d]),some (.tup [pD a,pD b,pD c]),some (tD (pW o d a b c)),some (pD c),some (pD a),y3],S++[eL a b c]):=by unfold O1;refine rz it (n:=3) (SM hn) ?_;exact mG (d := .tup [pD a,pD b]) (vW hn rfl) rfl e1 (Gv (mG (d := .tup [pD b,pD c]) (vW hn rfl) rfl e2 (Gv (mG (d := .tup [pD c,pD a]) (vW hn rfl) rfl e3 (Gv (KY (Te hn rfl)))))))
 refine bY (Z':=[some (.tup [pD o,pD d]),some (.tup [pD a,pD b,pD c]),some (tD (pW o d a b c)),some (pD c),some (pD a),y3]) (S':=S++[eL a b c]) ?_ (by simp) hz;wtm_at "b"
 unfold Xq Xm Xn;exact aM (dY bG rfl) (aX (aM s2 (aX (aM (gC (aG rfl)) eZ))))
def cu(o w p q:Pt):Int:=aQ w (aF (wb o p) (wb o q))
noncomputable def cJ(o w a b c:Pt):Bool:=(decide (0<=cu o w a b)&&decide (0<=cu o w b c)&&decide (0<=cu o w c a))||(decide (cu o w a b<=0)&&decide (cu o w b c<=0)&&decide (cu o w c a<=0))
theorem XD{k l:Nat}{o w a b c:Pt}(ho:aJ k o)(hw:aJ l w)(ha:aJ k a)(hb:aJ k b)(hc:aJ k c)(hk:k<=10000)(hl:l<=30000)(S:So)(hS:WF S):
 qe [pD o,pD w,.tup [pD a,pD b,pD c]] S=some (.bl (cJ o w a b c),S):=by
 have w1:=(ho.wb ha).le (show max k k+1<=k+1 by omega);have w2:=(ho.wb hb).le (show max k k+1<=k+1 by omega);have w3:=(ho.wb hc).le (show max k k+1<=k+1 by omega);have c1:=w1.cross w2;have c2:=w2.cross w3;have c3:=w3.cross w1;have em:jx [cu o w a b,cu o w b c,cu o w c a]=some (if cu o w c a<(if cu o w b c<cu o w a b then cu o w b c else cu o w a b) then cu o w c a else(if cu o w b c<cu o w a b then cu o w b c else cu o w a b)):=rfl;have eM:iK [cu o w a b,cu o w b c,cu o w c a]=some (if cu o w c a>(if cu o w b c>cu o w a b then cu o w b c else cu o w a b) then cu o w c a else(if cu o w b c>cu o w a b then cu o w b c else cu o w a b)):=rfl;generalize hx:(if cu o w c a<(if cu o w b c<cu o w a b then cu o w b c else cu o w a b) then cu o w c a else(if cu o w b c<cu o w a b then cu o w b c else cu o w a b))=x at em;generalize hy:(if cu o w c a>(if cu o w b c>cu o w a b then cu o w b c else cu o w a b) then cu o w c a else(if cu o w b c>cu o w a b then cu o w b c else cu o w a b))=y at eM;have e1:cJ o w a b c=(decide (0<=x)||decide (y<=0)):=by unfold cJ;rw[Bool.eq_iff_iff];simp only[lV,cG,tL];subst hx hy;split<;>split<;>split<;>split<;>omega
 unfold cu at em eM;have gone:∃S1,eV (fP (aj 2)) (aL 0) d8 (eN (aO 2 eO) (ak (aj 1) (ak (aj 0) au))) [none,some 0] [some (pD o),some (pD w),some (.tup [pD a,pD b,pD c]),none,none] S=some (.ref S.length,S1)/\S1=S++[.lst [pD (wb o a),pD (wb o b),pD (wb o c)]]:=by refine⟨_,?_,rfl⟩;wtm_at "a"
 obtain⟨S1,g1,g2⟩:=gone;have hS1:S1[S.length]?=some (.lst [pD (wb o a),pD (wb o b),pD (wb o c)]):=by rw[g2];exact cD
 have hW1:WF S1:=by rw[g2];exact hS.snoc rfl
 have ed:=zgs hW1 hS1;have hn2:(S1++[eL (wb o a) (wb o b) (wb o c)])[S1.length]?=some (eL (wb o a) (wb o b) (wb o c)):=cD;have sides:eV (fP (eN (aO 1 wz) (ak (aj 3) au))) (lO 2 (gA (aL 0) (gA (aL 1) nJ))) d8 (eN (aO 2 fQ) (ak (aj 2) (ak (eN (aO 2 jm) (ak (aj 0) (ak (aj 1) au))) au))) [none,none,some 1]
  [some (pD o),some (pD w),some (.tup [pD a,pD b,pD c]),some (.ref S.length),none] S1=some (.ref (S1++[eL (wb o a) (wb o b) (wb o c)]).length,S1++[eL (wb o a) (wb o b) (wb o c)]++[.lst ([aQ w (aF (wb o a) (wb o b)),aQ w (aF (wb o b) (wb o c)),aQ w (aF (wb o c) (wb o a))].map D.int)]):=by
  refine vV (j := .lst S1.length) (n:=3) (S1:=S1++[eL (wb o a) (wb o b) (wb o c)]) ?_ (SM hn2) (vG rfl) rfl ?_
  .exact qb (bC (aK (aG rfl) aZ) (cY rfl ed)) hn2
  .have one:∀(x y:Pt),aJ (k+1) x->aJ (k+1) y->eN (aO 2 fQ) (ak (aj 2) (ak (eN (aO 2 jm) (ak (aj 0) (ak (aj 1) au))) au)) [some (pD x),some (pD y),some (pD w)] (S1++[eL (wb o a) (wb o b) (wb o c)])=some (.int (aQ w (aF x y)),S1++[eL (wb o a) (wb o b) (wb o c)]):=λx y hx hy=>by have hxy:=hx.cross hy;wtm_at "a"
   refine yZ (vW hn2 rfl) rfl zm (one _ _ w1 w2) rfl ?_;refine yZ (vW hn2 rfl) rfl zm (one _ _ w2 w3) rfl ?_;refine yZ (vW hn2 rfl) rfl zm (one _ _ w3 w1) rfl ?_;exact Gh (Te hn2 rfl)
 rw[e1];have iy:∀o1 o2:O,(S1++[o1]++[o2]).take S.length=S:=λo1 o2=>by rw[g2];simp
 by_cases hxx:0<=x
 .rw[lJ hxx,Bool.true_or];apply bY
  .wtm_at "b"
   unfold Oa;apply aM
   .exact dY g1 rfl
   .apply aX;apply aM
    .exact dY sides rfl
    .apply aX;apply aM
     .apply gC;apply JX
      .apply bI
       .apply bC
        .wtm_at "a"
        .exact K3 cD em
       .wtm_at "a"
       .wtm_at "h"
      .apply jz
       .exact lJ hxx
       .rfl
     .exact eZ
  .exact iy _ _
  .rfl
 .rw[nO hxx,Bool.false_or];apply bY
  .wtm_at "b"
   unfold Oa;apply aM
   .exact dY g1 rfl
   .apply aX;apply aM
    .exact dY sides rfl
    .apply aX;apply aM
     .apply gC;apply JX
      .apply bI
       .apply bC
        .wtm_at "a"
        .exact K3 cD em
       .wtm_at "a"
       .wtm_at "h"
      .apply ir
       .exact nO hxx
       .apply bI
        .apply bC
         .wtm_at "a"
         .exact T6 cD eM
        .wtm_at "a"
        .wtm_at "h"
     .exact eZ
  .exact iy _ _
  .rfl
def yS(o d a b c up:Pt):Tq:=if cJ o up a b c=true then some (0,1) else pW o d a b c
theorem zly{o d t up:D}{S:So}(hg:qe [o,up,t] S=some (.bl true,S)):zO [.tup [o,d],t,up] S=some (R2 0 1,S):=by
 apply bY
 .wtm_at "b"
  unfold Om;wtm_at "a"
 .wtm_at "c"
 .rfl
theorem zlz{o d t up r:D}{S:So}(hg:qe [o,up,t] S=some (.bl false,S))(he:zJ [.tup [o,d],t] S=some (r,S))(hr:D.lo S.length r=true):zO [.tup [o,d],t,up] S=some (r,S):=by
 apply bY
 .wtm_at "b"
  unfold Om;apply aM
  .apply gK
   .wtm_at "a"
   .apply ir
    .rfl
    .wtm_at "a"
  .apply aX;apply aM
   .wtm_at "a"
   .wtm_at "n"
 .wtm_at "c"
 .exact hr
def Am(n:Nat)(t:Tq):D.lo n (tD t)=true:=by cases t<;>rfl
theorem zeK{k l:Nat}{o d a b c up:Pt}(ho:aJ k o)(hd:aJ k d)(ha:aJ k a)(hb:aJ k b)(hc:aJ k c)(hu:aJ l up)(h0:d≠(0,0,0))(hk:k<=1500)(hl:l<=30000)(S:So)(hS:WF S):
 zO [.tup [pD o,pD d],.tup [pD a,pD b,pD c],pD up] S=some (tD (yS o d a b c up),S):=by
 have hg:=XD ho hu ha hb hc (by omega) hl S hS;have he:=Xl ho hd ha hb hc h0 hk S hS;unfold yS;by_cases q:cJ o up a b c=true
 .rw[if_pos q];rw[q] at hg;exact zly hg
 .rw[if_neg q];have q':cJ o up a b c=false:=by simpa using q
  rw[q'] at hg;exact zlz hg he (Am _ _)
noncomputable def oH(o d a b c:Pt):Tq :=
 if aF (wb a b) (wb a c)=(0,0,0) then pW o d a b c
 else if aQ d (aF (wb a b) (wb a c))=0 then
  if aQ (wb o a) (aF (wb a b) (wb a c))=0 then yS o d a b c (aF (wb a b) (wb a c)) else none
 else if aQ d (aF (wb a b) (wb a c))<0 then
  if -aQ (wb o a) (aF (wb a b) (wb a c))<0\/cJ o d a b c=false then none else some (dG (-aQ (wb o a) (aF (wb a b) (wb a c))) (-aQ d (aF (wb a b) (wb a c))))
 else if aQ (wb o a) (aF (wb a b) (wb a c))<0\/cJ o d a b c=false then none else some (dG (aQ (wb o a) (aF (wb a b) (wb a c))) (aQ d (aF (wb a b) (wb a c))))
theorem zlD{o d a b c up:Pt}{r:D}{S:So}(hup:up=aF (wb a b) (wb a c))(hz:up=(0,0,0)){k:Nat}(w1:aJ k (wb a b))(w2:aJ k (wb a c))(hk:k<=10000)(he:zJ [.tup [pD o,pD d],.tup [pD a,pD b,pD c]] S=some (r,S))(hr:D.lo S.length r=true):
 nR [.tup [pD o,pD d],.tup [pD a,pD b,pD c]] S=some (r,S):=by
 have hz':pD (aF (wb a b) (wb a c))=P3 0 0 0:=zp.mpr (hup ▸ hz);apply bY
 .wtm_at "b"
  unfold qg;wtm_at "a"
 .wtm_at "c"
 .exact hr
end MX.P
end
section
local macro_rules|`(tactic|wtm_at $s)=>uS s "d&"
namespace MX.P
open PySem L2 MX
section
variable {o d a b c e1 e2 q r:D}{u:Pt}{U V:Int}{S:So}
theorem zp9(h1:eO [a,b] S=some (e1,S))(h2:eO [a,c] S=some (e2,S))(h3:jm [e1,e2] S=some (pD u,S))(hu:¬pD u=P3 0 0 0)(h4:eO [o,a] S=some (q,S))(h5:fQ [q,pD u] S=some (.int U,S))(h6:fQ [d,pD u] S=some (.int V,S))(hV:V=0)(hU:U=0)(hr:zO [.tup [o,d],.tup [a,b,c],pD u] S=some (r,S))(hl:D.lo S.length r=true):nR [.tup [o,d],.tup [a,b,c]] S=some (r,S):=by
 apply bY
 .wtm_at "b"
  unfold qg;wtm_at "a"
 .wtm_at "c"
 .exact hl
theorem znE(h1:eO [a,b] S=some (e1,S))(h2:eO [a,c] S=some (e2,S))(h3:jm [e1,e2] S=some (pD u,S))(hu:¬pD u=P3 0 0 0)(h4:eO [o,a] S=some (q,S))(h5:fQ [q,pD u] S=some (.int U,S))(h6:fQ [d,pD u] S=some (.int V,S))(hV:V=0)(hU:¬U=0):nR [.tup [o,d],.tup [a,b,c]] S=some (.non,S):=by
 apply bY
 .wtm_at "b"
  unfold qg;wtm_at "a"
 .wtm_at "c"
 .rfl
theorem zp8(h1:eO [a,b] S=some (e1,S))(h2:eO [a,c] S=some (e2,S))(h3:jm [e1,e2] S=some (pD u,S))(hu:¬pD u=P3 0 0 0)(h4:eO [o,a] S=some (q,S))(h5:fQ [q,pD u] S=some (.int U,S))(h6:fQ [d,pD u] S=some (.int V,S))(Ef:¬V=0)(hV:V<0)(hU : -U<0):nR [.tup [o,d],.tup [a,b,c]] S=some (.non,S):=by
 apply bY
 .wtm_at "b"
  unfold qg;wtm_at "a"
 .wtm_at "c"
 .rfl
theorem zp6(h1:eO [a,b] S=some (e1,S))(h2:eO [a,c] S=some (e2,S))(h3:jm [e1,e2] S=some (pD u,S))(hu:¬pD u=P3 0 0 0)(h4:eO [o,a] S=some (q,S))(h5:fQ [q,pD u] S=some (.int U,S))(h6:fQ [d,pD u] S=some (.int V,S))(Ef:¬V=0)(hV:V<0)(hU:¬-U<0)(hg:qe [o,d,.tup [a,b,c]] S=some (.bl false,S)):nR [.tup [o,d],.tup [a,b,c]] S=some (.non,S):=by
 apply bY
 .wtm_at "b"
  unfold qg;wtm_at "a"
 .wtm_at "c"
 .rfl
theorem zp7(h1:eO [a,b] S=some (e1,S))(h2:eO [a,c] S=some (e2,S))(h3:jm [e1,e2] S=some (pD u,S))(hu:¬pD u=P3 0 0 0)(h4:eO [o,a] S=some (q,S))(h5:fQ [q,pD u] S=some (.int U,S))(h6:fQ [d,pD u] S=some (.int V,S))(Ef:¬V=0)(hV:V<0)(hU:¬-U<0)(hg:qe [o,d,.tup [a,b,c]] S=some (.bl true,S))(hq:uF [.tup [.int (-U),.int (-V)]] S=some (r,S))(hl:D.lo S.length r=true):nR [.tup [o,d],.tup [a,b,c]] S=some (r,S):=by
 apply bY
 .wtm_at "b"
  unfold qg;wtm_at "a"
 .wtm_at "c"
 .exact hl
theorem zp5(h1:eO [a,b] S=some (e1,S))(h2:eO [a,c] S=some (e2,S))(h3:jm [e1,e2] S=some (pD u,S))(hu:¬pD u=P3 0 0 0)(h4:eO [o,a] S=some (q,S))(h5:fQ [q,pD u] S=some (.int U,S))(h6:fQ [d,pD u] S=some (.int V,S))(Ef:¬V=0)(hV:¬V<0)(hU:U<0):nR [.tup [o,d],.tup [a,b,c]] S=some (.non,S):=by
 apply bY
 .wtm_at "b"
  unfold qg;wtm_at "a"
 .wtm_at "c"
 .rfl
theorem zp3(h1:eO [a,b] S=some (e1,S))(h2:eO [a,c] S=some (e2,S))(h3:jm [e1,e2] S=some (pD u,S))(hu:¬pD u=P3 0 0 0)(h4:eO [o,a] S=some (q,S))(h5:fQ [q,pD u] S=some (.int U,S))(h6:fQ [d,pD u] S=some (.int V,S))(Ef:¬V=0)(hV:¬V<0)(hU:¬U<0)(hg:qe [o,d,.tup [a,b,c]] S=some (.bl false,S)):nR [.tup [o,d],.tup [a,b,c]] S=some (.non,S):=by
 apply bY
 .wtm_at "b"
  unfold qg;wtm_at "a"
 .wtm_at "c"
 .rfl
theorem zp4(h1:eO [a,b] S=some (e1,S))(h2:eO [a,c] S=some (e2,S))(h3:jm [e1,e2] S=some (pD u,S))(hu:¬pD u=P3 0 0 0)(h4:eO [o,a] S=some (q,S))(h5:fQ [q,pD u] S=some (.int U,S))(h6:fQ [d,pD u] S=some (.int V,S))(Ef:¬V=0)(hV:¬V<0)(hU:¬U<0)(hg:qe [o,d,.tup [a,b,c]] S=some (.bl true,S))(hq:uF [.tup [.int U,.int V]] S=some (r,S))(hl:D.lo S.length r=true):nR [.tup [o,d],.tup [a,b,c]] S=some (r,S):=by
 apply bY
 .wtm_at "b"
  unfold qg;wtm_at "a"
 .wtm_at "c"
 .exact hl
end
theorem zd0{k:Nat}{o d a b c:Pt}(ho:aJ k o)(hd:aJ k d)(ha:aJ k a)(hb:aJ k b)(hc:aJ k c)(h0:d≠(0,0,0))(hk:k<=1500)(S:So)(hS:WF S):
 nR [.tup [pD o,pD d],.tup [pD a,pD b,pD c]] S=some (tD (oH o d a b c),S):=by
 have w1:=ha.wb hb;have w2:=ha.wb hc;have w3:=ho.wb ha;have wu:=w1.cross w2;have bU:=w3.dot wu;have bV:=hd.dot wu;have h1:=sp_wb a b S;have h2:=sp_wb a c S;have h3:=sp_vcross w1 w2 (by omega) S;have h4:=sp_wb o a S;have h5:=sp_vdot w3 wu (by omega) S;have h6:=sp_vdot hd wu (by omega) S;have hg:=XD ho hd ha hb hc (by omega) (by omega) S hS;have he:=Xl ho hd ha hb hc h0 hk S hS;have hw:=zeK ho hd ha hb hc wu h0 hk (by omega) S hS;unfold oH;generalize hu:aF (wb a b) (wb a c)=u at *
 by_cases q0:u=(0,0,0)
 .rw[if_pos q0];exact zlD hu.symm q0 w1 w2 (by omega) he (Am _ _)
 .rw[if_neg q0];have hne:¬pD u=P3 0 0 0:=λh=>q0 (zp.mp h);generalize aQ (wb o a) u=U at *
  generalize aQ d u=V at *
  by_cases v0:V=0
  .rw[if_pos v0];by_cases u0:U=0
   .rw[if_pos u0];exact zp9 h1 h2 h3 hne h4 h5 h6 v0 u0 hw (Am _ _)
   .rw[if_neg u0];exact znE h1 h2 h3 hne h4 h5 h6 v0 u0
  .rw[if_neg v0];by_cases vn:V<0
   .rw[if_pos vn];by_cases un : -U<0
    .rw[if_pos (Or.inl un)];exact zp8 h1 h2 h3 hne h4 h5 h6 v0 vn un
    .by_cases gg:cJ o d a b c=false
     .rw[if_pos (Or.inr gg)];rw[gg] at hg;exact zp6 h1 h2 h3 hne h4 h5 h6 v0 vn un hg
     .rw[if_neg (λh=>h.elim un gg)];have Qz:cJ o d a b c=true:=by simpa using gg
      rw[Qz] at hg;exact zp7 h1 h2 h3 hne h4 h5 h6 v0 vn un hg (Ci (by omega) (by omega) bV.neg (by omega) S) (Am S.length (some (dG (-U) (-V))))
   .rw[if_neg vn];by_cases un:U<0
    .rw[if_pos (Or.inl un)];exact zp5 h1 h2 h3 hne h4 h5 h6 v0 vn un
    .by_cases gg:cJ o d a b c=false
     .rw[if_pos (Or.inr gg)];rw[gg] at hg;exact zp3 h1 h2 h3 hne h4 h5 h6 v0 vn un hg
     .rw[if_neg (λh=>h.elim un gg)];have Qz:cJ o d a b c=true:=by simpa using gg
      rw[Qz] at hg;exact zp4 h1 h2 h3 hne h4 h5 h6 v0 vn un hg (Ci (by omega) (by omega) bV (by omega) S) (Am S.length (some (dG U V)))
theorem zmQ{k:Nat}{o d a b c:Pt}(ho:aJ k o)(hd:aJ k d)(ha:aJ k a)(hb:aJ k b)(hc:aJ k c)(h0:d≠(0,0,0)):oU (4*k+10) (pW o d a b c) :=
 Bc (Bc (Bc (λp hp=>by cases hp) (zq (zu ho hd ha hb h0))) (zq (zu ho hd hb hc h0))) (zq (zu ho hd hc ha h0))
theorem zqa{k:Nat}{o d a b c:Pt}(ho:aJ k o)(hd:aJ k d)(ha:aJ k a)(hb:aJ k b)(hc:aJ k c)(h0:d≠(0,0,0)):oU (4*k+10) (oH o d a b c):=by
 have eb:=zmQ ho hd ha hb hc h0;have w1:=(ha.wb hb).le (show max k k+1<=k+1 by omega);have w2:=(ha.wb hc).le (show max k k+1<=k+1 by omega);have w3:=(ho.wb ha).le (show max k k+1<=k+1 by omega);have wu:=w1.cross w2;have bU:=(w3.dot wu).le (show k+1+(k+1+(k+1)+1)+2<=4*k+10 by omega);have bV:=(hd.dot wu).le (show k+(k+1+(k+1)+1)+2<=4*k+10 by omega);unfold oH yS;intro p hp;split at hp
 .exact eb p hp
 .split at hp
  .split at hp
   .split at hp
    .cases hp;exact⟨by decide,by decide,(Bd.lit 0).le (Nat.zero_le _),(Bd.lit 1).le (show 1<=4*k+10 by omega)⟩
    .exact eb p hp
   .cases hp
  .rename_i hV;split at hp
   .rename_i hn;split at hp
    .cases hp
    .rename_i hb;cases hp;obtain⟨b1,b2⟩:=Gz bU.neg bV.neg (by omega);exact⟨BK (Int.not_lt.mp λq=>hb (.inl q)) (by omega),zF _ _,b1,b2⟩
   .rename_i hn;split at hp
    .cases hp
    .rename_i hb;cases hp;obtain⟨b1,b2⟩:=Gz bU bV (by omega);exact⟨BK (Int.not_lt.mp λq=>hb (.inl q)) (by omega),zF _ _,b1,b2⟩
theorem zfk{k:Nat}{o d a b c:Pt}(ho:aJ k o)(hd:aJ k d)(ha:aJ k a)(hb:aJ k b)(hc:aJ k c)(h0:d≠(0,0,0))(hk:k<=1500)(S:So)(hS:WF S):
 zy [.tup [pD o,pD d],.tup [.str "triangle",pD a,pD b,pD c]] S=some (tD (oH o d a b c),S):=by
 have hm:=zd0 ho hd ha hb hc h0 hk S hS;apply bY
 .wtm_at "b"
  unfold Li;have t:bZ (eB (bB .Eq) (eB aH (aj 1) (kq 0)) (eC (.str "box"))) [some (.tup [pD o,pD d]),some (.tup [.str "triangle",pD a,pD b,pD c])] S=some (false,S):=by have h:=gk (bI (fa:=eB aH (aj 1) (kq 0)) (fb:=eC (.str "box")) (Z:=[some (.tup [pD o,pD d]),some (.tup [.str "triangle",pD a,pD b,pD c])]) (S:=S) (bI (aG rfl) bG (ji rfl)) bG (yX (x := .str "triangle") (y := .str "box") rfl 1 (by decide +kernel) (by decide +kernel) (by decide)));rw[h,nO (λe=>by simp only[D.str.injEq] at e;exact absurd e (by decide +kernel))]
  refine aM (gK t (ir rfl gB)) (aX ?_);wtm_at "a"
 .wtm_at "c"
 .cases oH o d a b c<;>rfl
inductive Sh where
 |box (lo hi:Pt)
 |tri (a b c:Pt)
noncomputable def cI:Sh->D
 |.box lo hi => .tup [.str "box",pD lo,pD hi]
 |.tri a b c => .tup [.str "triangle",pD a,pD b,pD c]
def Sh.pts:Sh->List Pt
 |.box lo hi=>[lo,hi]
 |.tri a b c=>[a,b,c]
structure kj(k:Nat)(s:Sh):Prop where
 bd:∀p∈s.pts,aJ k p
 ord:∀lo hi,s = .box lo hi->lo.1<=hi.1/\lo.2.1<=hi.2.1/\lo.2.2<=hi.2.2
def iw(o d:Pt):Sh->Tq
 |.box lo hi=>(gD o d lo hi).map λp=>dG p.1.1 p.1.2
 |.tri a b c=>oH o d a b c
def YL(t:Option ((Int×Int)×(Int×Int))):Qj t=tD (t.map λp=>dG p.1.1 p.1.2):=by cases t<;>rfl
theorem Vw{k:Nat}{o d:Pt}{s:Sh}(ho:aJ k o)(hd:aJ k d)(hs:kj k s)(h0:d≠(0,0,0))(hk:k<=1500)(S:So)(hS:WF S):
 zy [.tup [pD o,pD d],cI s] S=some (tD (iw o d s),S):=by
 cases s with
 |box lo hi =>
  have:=zfl ho hd (hs.bd lo (by simp[Sh.pts])) (hs.bd hi (by simp[Sh.pts])) h0 (by omega) S;rw[YL] at this;exact this
 |tri a b c=>exact zfk ho hd (hs.bd a (by simp[Sh.pts])) (hs.bd b (by simp[Sh.pts])) (hs.bd c (by simp[Sh.pts])) h0 hk S hS
theorem JS{k:Nat}{o d:Pt}{s:Sh}(ho:aJ k o)(hd:aJ k d)(hs:kj k s)(h0:d≠(0,0,0)):oU (4*k+10) (iw o d s):=by
 cases s with
 |box lo hi =>
  intro p hp;simp only[iw,aR] at hp;obtain⟨q,e,rfl⟩:=hp;have ok:=Vc ho hd (hs.bd lo (by simp[Sh.pts])) (hs.bd hi (by simp[Sh.pts])) e;have b:=Gz (k:=4*k+10) (ok.b1.le (by omega)) (ok.b2.le (by omega)) ok.f2;exact⟨BK ok.f0 ok.f2,zF _ _,b.1,b.2⟩
 |tri a b c=>exact zqa ho hd (hs.bd a (by simp[Sh.pts])) (hs.bd b (by simp[Sh.pts])) (hs.bd c (by simp[Sh.pts])) h0
theorem Lq:∀{ns:List Int} {m:Int},jx ns=some m->m∈ns:=by
 intro ns m h;cases ns with
 |nil=>cases h
 |cons a r =>
  have h':r.foldl (λx y=>if y<x then y else x) a=m:=by simpa[jx] using h
  clear h
  induction r generalizing a with
  |nil=>simp at h';subst h';simp
  |cons b r ih =>
   rw[List.foldl_cons] at h';have:=ih _ h';rcases List.mem_cons.mp this with e|e
   .rw[e];split<;>simp
   .exact cM _ (cM _ e)
theorem Bo:∀{ns:List Int} {m:Int},iK ns=some m->m∈ns:=by
 intro ns m h;cases ns with
 |nil=>cases h
 |cons a r =>
  have h':r.foldl (λx y=>if y>x then y else x) a=m:=by simpa[iK] using h
  clear h
  induction r generalizing a with
  |nil=>simp at h';subst h';simp
  |cons b r ih =>
   rw[List.foldl_cons] at h';have:=ih _ h';rcases List.mem_cons.mp this with e|e
   .rw[e];split<;>simp
   .exact cM _ (cM _ e)
theorem lU.bd{k:Nat}{pts:List Pt}{lo hi:Pt}(B:lU pts lo hi)(h:∀p∈pts,aJ k p):aJ k lo/\aJ k hi:=by
 have m:∀{j:Int} {x:Int},(0<=j/\j<=2)->x∈pts.map (co j)->Bd k x:=λ{j x} hj hx=>by
  obtain⟨p,hp,rfl⟩:=List.mem_map.mp hx;have:=h p hp;unfold co;split
  .exact this.1
  .split
   .exact this.2.1
   .exact this.2.2
 exact⟨⟨m (by decide) (Lq B.h0),m (by decide) (Lq B.h1),m (by decide) (Lq B.h2)⟩,⟨m (by decide) (Bo B.g0),m (by decide) (Bo B.g1),m (by decide) (Bo B.g2)⟩⟩
theorem zn3{k:Nat}{s:Sh}(hs:kj k s):∃lo hi,lU s.pts lo hi/\aJ k lo/\aJ k hi/\∀S,WF S->wg [cI s] S=some (.tup [pD lo,pD hi],S):=by
 obtain⟨lo,hi,B⟩:=Rx (pts:=s.pts) (by cases s<;>simp[Sh.pts]);refine⟨lo,hi,B,(B.bd hs.bd).1,(B.bd hs.bd).2,λS hS=>?_⟩;cases s with
 |box l h =>
  obtain⟨o1,o2,o3⟩:=hs.ord l h rfl;exact Vv (nm := "box") (pts:=[l,h]) hS (by simp) (by simp) B (XH o1 o2 o3)
 |tri a b c=>exact Vv (nm := "triangle") (pts:=[a,b,c]) hS (by simp) (by simp) B XJ
inductive Tr where
 |lf (lo hi:Pt) (i:Nat)
 |nd (lo hi:Pt) (l r:Tr)
abbrev Jl(b x h:D):D := .obj "Tree" ["box", "number", "halves"] [b,x,h]
noncomputable def bf:Tr->D
 |.lf lo hi i=>Jl (.tup [pD lo,pD hi]) (.int (i:Nat)) (.tup [])
 |.nd lo hi l r=>Jl (.tup [pD lo,pD hi]) .non (.tup [bf l,bf r])
def Tr.lo:Tr->Pt
 |.lf lo _ _=>lo
 |.nd lo _ _ _=>lo
def Tr.hi:Tr->Pt
 |.lf _ hi _=>hi
 |.nd _ hi _ _=>hi
def rm(n:Nat):∀t:Tr,D.lo n (bf t)=true
 |.lf lo hi i=>by simp[bf,D.lo,cL]
 |.nd lo hi l r=>by simp[bf,D.lo,cL,rm n l,rm n r]
section
variable {Z σ1:Sg}{S S1 S2:So}{fe fo fv:EF}{d x:D}{C f:Str}{n:Nat}{ds:List D}{fa:AF}{φ:GN}
theorem rB{ks:List Str}{xs:List D}(h1:fe Z S=some (.obj C ks xs,S1))(hl:ks.length=xs.length)(h2:(ks.zip xs).lookup f=some d):gF C f fe Z S=some (d,S1):=by unfold gF;rw[h1];simp only[bM];rw[if_pos ⟨trivial,hl⟩,h2];rfl
theorem KR{fs:List (Str×D)}(h1:fe Z S=some (.ref n,S1))(h2:S1[n]?=some (.ins C fs))(h3:fs.lookup f=some d):gF C f fe Z S=some (d,S1):=by unfold gF;rw[h1];simp only[bM];rw[h2];simp only[if_true];rw[h3];rfl
theorem Bg{fs:List (Str×D)}{S3:So}(h1:fv Z S=some (d,S1))(h2:fo Z S1=some (.ref n,S2))(h3:S2[n]?=some (.ins C fs))(h4:fs.length<3)(h5:S2.set n (.ins C (vD f d fs))=S3):oK C f fo fv Z S=some (.nx,Z,S3):=by unfold oK;rw[h1];simp only[bM];rw[h2];simp only[bM];rw[h3];simp only;rw[if_pos ⟨trivial,h4⟩,h5]
theorem RB(h1:fa Z S=some (ds,S1))(hn:ds.length+1=n)(h2:φ (.ref S1.length::ds) (S1++[.ins C []])=some (.non,S2)):pJ C n φ fa Z S=some (mQ C S1.length S2):=by unfold pJ;rw[h1];simp only[bM];unfold aO;rw[if_pos (by simpa using hn),h2];rfl
theorem Gs{fs:List (Str×D)}{m:Str}{r:Option (D×So)}{ds:List D}{k:Nat}(h1:fo Z S=some (.ref k,S1))(h2:S1[k]?=some (.ins C fs))(h3:fs.lookup m=none)(h4:fa Z S1=some (ds,S2))(hn:ds.length+1=n)(h5:φ (.ref k::ds) S2=r):kI C m n φ fo fa Z S=r:=by unfold kI;rw[h1];simp only[bM];rw[h2];simp only;rw[if_pos ⟨trivial,h3⟩,h4];simp only[bM];unfold aO;rw[if_pos (by simpa using hn),h5]
theorem Tw{k:Nat}{fb:SF}{S':So}{Z':Sg}(h:fb (iH k ds) S=some (.nx,Z',S'))(hne:¬S'.take S.length=S)(hl:S.length<=S'.length)(hw:WF S'):fnOf k fb ds S=some (.non,S'):=by unfold fnOf;rw[h];simp only;rw[if_neg hne,if_pos ⟨hl,hw⟩]
end
def Lx{S:So}{a b:O}:(S++[a]).set S.length b=S++[b]:=by simp
theorem zn4{S:So}{b x h:D}(hS:WF S)(hlo:cL S.length [b,x,h]=true):zM [.ref S.length,b,x,h] (S++[.ins "Tree" []])=some (.non,S++[.ins "Tree" [("box",b),("number",x),("halves",h)]]):=by
 apply Tw
 .wtm_at "b"
  unfold Oq;refine aM (Bg (aG rfl) (aG rfl) cD (show(0:Nat)<3 by decide) Lx) (aX ?_);refine aM (Bg (aG rfl) (aG rfl) cD (show(1:Nat)<3 by decide) Lx) (aX ?_);refine aM (Bg (aG rfl) (aG rfl) cD (show(2:Nat)<3 by decide) Lx) (aX ?_);rfl
 .intro e;have:=congrArg (λl=>l[S.length]?) e;simp at this
 .simp
 .exact hS.snoc (by
   simpa[O.lo,vD] using hlo)
theorem VL{Z:Sg}{S S1:So}{fa:AF}{b x h:D}(h1:fa Z S=some ([b,x,h],S1))(hS:WF S1)(hlo:cL S1.length [b,x,h]=true):pJ "Tree" 4 zM fa Z S=some (Jl b x h,S1):=by
 rw[RB (n:=4) h1 rfl (zn4 hS hlo)];unfold mQ;rw[cD];simp only;rw[if_pos]
 .simp
 .refine⟨trivial,by simp,by simp,by simpa using hlo,?_⟩;rw[List.all_eq_true];intro o ho;have ho':o∈S1:=by simpa using ho
  exact hS o ho'
def zpl{a b c m:Int}(h:m∈[a,b,c]):[a,b,c].idxOf m<=2:=by have:=List.idxOf_lt_length_iff.mpr h;simp only[jb,Ab] at this;omega
theorem zmN{S:So}{n:Nat}{xs:List D}{ns:List Int}{m:Int}(h1:S[n]?=some (.lst xs))(h2:mC xs=some ns)(h:m∈ns):yK (.ref n) [.int m] S=some (.int (ns.idxOf m:Nat),S):=by unfold yK;simp only;rw[h1];simp only;rw[h2];simp only[bM];rw[if_pos h]
theorem zjM(lo hi:Pt):∃j:Nat,j<=2/\∀S,Nr [.tup [pD lo,pD hi]] S=some (.int (j:Nat),S):=by
 obtain⟨m,hm⟩:=Aw (ns:=[hi.1 - lo.1,hi.2.1 - lo.2.1,hi.2.2 - lo.2.2]) (by simp);have mem:=Bo hm;refine⟨_,zpl mem,λS=>?_⟩;apply bY
 .wtm_at "b"
  unfold Xk;apply aM
  .apply dY
   .wtm_at "a"
   .wtm_at "g"
  .apply aX;apply aM
   .apply gC;apply yU
    .wtm_at "a"
    .exact cD
    .apply aK
     .apply bC
      .wtm_at "a"
      .exact Uw cD rfl hm
     .exact aZ
    .exact zmN cD rfl mem
   .exact eZ
 .wtm_at "c"
 .rfl
end MX.P
end
section
variable {A B d o p:MX.P.Pt}{K c i k n:Nat}{S:MX.So}{X:Int×Int->Prop}{a t:Int×Int}{fe:MX.EF}{l:List Nat}{ns:List Int}{shs:List MX.P.Sh}{src:List (Option Nat)}{w:Int}{xs:List MX.D}{Z:MX.Sg}
section
namespace MX.P
open PySem L2 MX
end MX.P
local macro_rules|`(tactic|wtm_at $s)=>uS s "d=P.sp_drawn,,,|=P.sp_pt,,,|&"
namespace MX.P
open PySem L2 MX
def co0(p:Pt):co 0 p=p.1:=rfl
def co1(p:Pt):co 1 p=p.2.1:=rfl
def co2(p:Pt):co 2 p=p.2.2:=rfl
end MX.P
local macro_rules|`(tactic|wtm_at $s)=>uS s "d+P.sp_near @ @ % %"
namespace MX.P
end MX.P
end
section
local macro_rules|`(tactic|wtm_at $s)=>uS s "d&"
namespace MX.P
open PySem L2 MX
def kO(s w lo hi:Int)(t:Int×Int):Prop:=lo*t.2<=s*t.2+w*t.1/\s*t.2+w*t.1<=hi*t.2
def inB(o d lo hi:Pt)(t:Int×Int):Prop:=kO o.1 d.1 lo.1 hi.1 t/\kO o.2.1 d.2.1 lo.2.1 hi.2.1 t/\kO o.2.2 d.2.2 lo.2.2 hi.2.2 t
instance (s w lo hi:Int) (t:Int×Int):Decidable (kO s w lo hi t):=by unfold kO;infer_instance
instance (o d lo hi:Pt) (t:Int×Int):Decidable (inB o d lo hi t):=by unfold inB;infer_instance
def sX(j:Int)(o d lo hi:Pt):List (Int×Int):=if co j d=0 then[] else[dG (co j lo - co j o) (co j d),dG (co j hi - co j o) (co j d)]
def Yg(o d lo hi:Pt)(t:Int×Int):Prop:=0<=t.1/\inB o d lo hi t
instance (o d lo hi:Pt) (t:Int×Int):Decidable (Yg o d lo hi t):=by unfold Yg;infer_instance
abbrev bL(o d:Pt):D := .tup [pD o,pD d]
theorem zmB{s lo hi:Int}(hw:w≠0):kO s w lo hi t↔leQ (iG s w lo hi) t/\leQ t (jn s w lo hi):=by
 unfold kO leQ iG jn;obtain⟨t1,t2⟩:=t;split
 .simp only;constructor
  .rintro⟨h1,h2⟩;constructor<;>grind
  .rintro⟨h1,h2⟩;constructor<;>grind
 .simp only;constructor
  .rintro⟨h1,h2⟩;constructor<;>grind
  .rintro⟨h1,h2⟩;constructor<;>grind
theorem VP{s lo hi:Int}(ht:0<t.2):kO s 0 lo hi t↔lo<=s/\s<=hi:=by unfold kO;simp only[Int.zero_mul,Int.add_zero];rw[Int.mul_le_mul_right ht,Int.mul_le_mul_right ht]
theorem zpS{e:Int×Int}(ha:0<a.2)(he:0<e.2)(ht:0<t.2):leQ (qu w a e) t↔leQ a t/\leQ e t:=by
 unfold qu;split
 .rename_i h;have:leQ a e:=by unfold eH at h;unfold leQ;omega
  exact⟨λq=>⟨zA ha he ht this q,q⟩,λq=>q.2⟩
 .rename_i h;exact⟨λq=>⟨q,zA he ha ht (p7 h) q⟩,λq=>q.1⟩
theorem Sv{a:Option (Int×Int)}{l:Int×Int}(ha:∀m,a=some m->0<m.2)(hl:0<l.2)(ht:0<t.2):leQ t (sY a l)↔leQ t l/\∀m,a=some m->leQ t m:=by
 unfold sY;split
 .exact⟨λq=>⟨q,λm hm=>by cases hm⟩,λq=>q.1⟩
 .rename_i m;have hm:=ha m rfl;split
  .rename_i h;have:leQ l m:=by unfold eH at h;unfold leQ;omega
   exact⟨λq=>⟨q,λn hn=>by cases hn;exact zA ht hl hm q this⟩,λq=>q.1⟩
  .rename_i h;exact⟨λq=>⟨zA ht hm hl q (p7 h),λn hn=>by cases hn;exact q⟩,λq=>q.2 m rfl⟩
structure Q8(C:Int×Int->Prop)(cs:List (Int×Int))(a:Ax):Prop where
 pos:IW a
 iff:∀t:Int×Int,0<=t.1->0<t.2->(C t↔leQ a.1 t/\∀l,a.2=some l->leQ t l)
 fm:dG a.1.1 a.1.2∈cs
 lm:∀l,a.2=some l->dG l.1 l.2∈cs
theorem zmU{j:Int}{lo hi:Pt}(hw:co j d≠0):dG (iG (co j o) (co j d) (co j lo) (co j hi)).1 (iG (co j o) (co j d) (co j lo) (co j hi)).2∈sX j o d lo hi/\dG (jn (co j o) (co j d) (co j lo) (co j hi)).1 (jn (co j o) (co j d) (co j lo) (co j hi)).2∈sX j o d lo hi:=by
 unfold sX iG jn;rw[if_neg hw];split
 .simp
 .rename_i hn;simp only;rw[Kz (a:=co j o - co j hi) (b := -co j d) (c:=co j hi - co j o) (d:=co j d) (by omega) hw (by grind),Kz (a:=co j o - co j lo) (b := -co j d) (c:=co j lo - co j o) (d:=co j d) (by omega) hw (by grind)];simp
theorem K7{C:Int×Int->Prop}{cs:List (Int×Int)}{a:Ax}{j:Int}{lo hi:Pt}(h:Q8 C cs a):
 match dO a (co j o) (co j d) (co j lo) (co j hi) with
 |none=>∀t:Int×Int,0<=t.1->0<t.2->¬(C t/\kO (co j o) (co j d) (co j lo) (co j hi) t)
 |some b=>Q8 (λt=>C t/\kO (co j o) (co j d) (co j lo) (co j hi) t) (cs++sX j o d lo hi) b:=by
 cases e:dO a (co j o) (co j d) (co j lo) (co j hi) with
 |none =>
  simp only;intro t h0 ht hc;unfold dO at e;split at e
  .rename_i hw;split at e
   .rename_i hx;have:=hc.2;rw[hw,VP ht] at this;omega
   .cases e
  .cases e
 |some b =>
  simp only;have hp:=G7 h.pos e;unfold dO at e;split at e
  .rename_i hw;split at e
   .cases e
   .rename_i hx;cases e;refine⟨h.pos,λt h0 ht=>?_,List.mem_append_left _ h.fm,λl hl=>List.mem_append_left _ (h.lm l hl)⟩;rw[<-h.iff t h0 ht,hw,VP ht];exact⟨λq=>q.1,λq=>⟨q,by omega,by omega⟩⟩
  .rename_i hw;cases e;obtain⟨p1,p2⟩:=Uj (s:=co j o) (lo:=co j lo) (hi:=co j hi) hw;obtain⟨m1,m2⟩:=zmU (o:=o) (lo:=lo) (hi:=hi) hw;refine⟨hp,λt h0 ht=>?_,?_,λl hl=>?_⟩
   .simp only;rw[zmB hw,h.iff t h0 ht,zpS h.pos.2.1 p1 ht];constructor
    .rintro⟨⟨q1,q2⟩,q3,q4⟩
     exact⟨⟨q1,q3⟩,λl hl=>by cases hl;exact(Sv h.pos.2.2 p2 ht).mpr ⟨q4,q2⟩⟩
    .rintro⟨⟨q1,q3⟩,q⟩
     have:=(Sv h.pos.2.2 p2 ht).mp (q _ rfl);exact⟨⟨q1,this.2⟩,q3,this.1⟩
   .simp only;rcases Hq (co j d) a.1 (iG (co j o) (co j d) (co j lo) (co j hi)) with q|q<;>rw[q]
    .exact List.mem_append_left _ h.fm
    .exact List.mem_append_right _ m1
   .cases hl;rcases Lj a.2 (jn (co j o) (co j d) (co j lo) (co j hi)) with q|⟨m,q1,q⟩<;>rw[q]
    .exact List.mem_append_right _ m2
    .exact List.mem_append_left _ (h.lm m q1)
end MX.P
end
section
namespace MX.P
def tK(k:Int)(d:Pt)(q u v w:Int)(A B C:Pt):Prop:=k*d.1=q*(u*A.1+v*B.1+w*C.1)/\k*d.2.1=q*(u*A.2.1+v*B.2.1+w*C.2.1)/\k*d.2.2=q*(u*A.2.2+v*B.2.2+w*C.2.2)
def sG(d A B C:Pt)(t:Int×Int):Prop:=∃u v w:Int,0<=u/\0<=v/\0<=w/\0<u+v+w/\tK ((u+v+w)*t.1) d t.2 u v w A B C
def zU(d A B:Pt)(t:Int×Int):Prop:=∃u v:Int,0<=u/\0<=v/\0<u+v/\tK ((u+v)*t.1) d t.2 u v 0 A B A
def cancel{k x y:Int}(hk:0<k)(h:k*x=k*y):x=y:=Int.eq_of_mul_eq_mul_left (by omega) h
def Inv(X:Int×Int->Prop):Prop:=∀t r:Int×Int,0<t.2->0<r.2->t.1*r.2=r.1*t.2->X t->X r
theorem Va{s q u v:Int}{C:Pt}{r:Int×Int}(ht:0<t.2)(e:t.1*r.2=r.1*t.2)(h:tK (s*t.1) d t.2 u v w A B C):tK (s*r.1) d r.2 u v w A B C:=by
 obtain⟨h1,h2,h3⟩:=h;have f:∀x y:Int,s*t.1*x=t.2*y->s*r.1*x=r.2*y:=λx y h=>by
  refine cancel ht ?_;have e1:t.2*(s*r.1*x)=s*x*(r.1*t.2):=by grind
  have e2:t.2*(r.2*y)=r.2*(t.2*y):=by grind
  rw[e1,e2,<-e,<-h];grind
 exact⟨f _ _ h1,f _ _ h2,f _ _ h3⟩
def TQ(d A B C:Pt):Inv (sG d A B C):=λt r ht _ e ⟨u,v,w,h1,h2,h3,h4,h⟩=>⟨u,v,w,h1,h2,h3,h4,Va (q:=0) ht e h⟩
def zpj(d A B:Pt):Inv (zU d A B):=λt r ht _ e ⟨u,v,h1,h2,h4,h⟩=>⟨u,v,h1,h2,h4,Va (q:=0) ht e h⟩
theorem zrF{C:Pt}(h:zU d A B t):sG d A B C t:=by obtain⟨u,v,h1,h2,h4,c1,c2,c3⟩:=h;refine⟨u,v,0,h1,h2,by omega,by omega,?_,?_,?_⟩<;>grind
theorem zrE{C:Pt}(h:zU d B C t):sG d A B C t:=by obtain⟨u,v,h1,h2,h4,c1,c2,c3⟩:=h;refine⟨0,u,v,by omega,h1,h2,by omega,?_,?_,?_⟩<;>grind
theorem zrD{C:Pt}(h:zU d C A t):sG d A B C t:=by obtain⟨u,v,h1,h2,h4,c1,c2,c3⟩:=h;refine⟨v,0,u,h2,by omega,h1,by omega,?_,?_,?_⟩<;>grind
def IsF(m:Tq)(X:Int×Int->Prop):Prop:=match m with
 |none=>∀t:Int×Int,0<=t.1->0<t.2->¬X t
 |some r=>0<=r.1/\0<r.2/\X r/\∀t:Int×Int,0<=t.1->0<t.2->X t->leQ r t
def vM(m:Tq):Prop:=∀r,m=some r->dG r.1 r.2=r
def zev(m:Tq):vM (oA m):=λr hr=>by
 cases m with
 |none=>cases hr
 |some p=>cases hr;exact Mq _ _
def Lr{m n:Tq}(hm:vM m)(hn:vM n):vM (pick m n):=by
 unfold pick;split
 .exact hm
 .split
  .exact hn
  .split
   .exact hn
   .exact hm
def Ua{a b:Pt}(h1:a.1=b.1)(h2:a.2.1=b.2.1)(h3:a.2.2=b.2.2):a=b:=Prod.ext h1 (Prod.ext h2 h3)
theorem lag(x d e:Pt):aQ (aF d e) (aF d e)*x.1=aQ (aF x e) (aF d e)*d.1 - aQ (aF x d) (aF d e)*e.1+aQ x (aF d e)*(aF d e).1
 /\ aQ (aF d e) (aF d e)*x.2.1=aQ (aF x e) (aF d e)*d.2.1 - aQ (aF x d) (aF d e)*e.2.1+aQ x (aF d e)*(aF d e).2.1
 /\ aQ (aF d e) (aF d e)*x.2.2=aQ (aF x e) (aF d e)*d.2.2 - aQ (aF x d) (aF d e)*e.2.2+aQ x (aF d e)*(aF d e).2.2:=by
 simp only[aQ,aF];refine⟨?_,?_,?_⟩<;>grind
theorem zr5(o a b:Pt):wb a b=((wb o b).1 - (wb o a).1,(wb o b).2.1 - (wb o a).2.1,(wb o b).2.2 - (wb o a).2.2):=by refine Ua ?_ ?_ ?_<;>simp only[wb]<;>omega
noncomputable def cA(b a:Pt):Pt:=(b.1 - a.1,b.2.1 - a.2.1,b.2.2 - a.2.2)
def Ka(o a b:Pt):wb a b=cA (wb o b) (wb o a):=zr5 o a b
theorem zqD(hz:aQ A (aF d (cA B A))=0)(h1:0<=aQ (aF A d) (aF d (cA B A)))(h2:aQ (aF A d) (aF d (cA B A))<=aQ (aF d (cA B A)) (aF d (cA B A)))(h3:0<aQ (aF d (cA B A)) (aF d (cA B A))):
 zU d A B (aQ (aF A (cA B A)) (aF d (cA B A)),aQ (aF d (cA B A)) (aF d (cA B A))):=by
 obtain⟨l1,l2,l3⟩:=lag A d (cA B A);rw[hz] at l1 l2 l3;generalize aQ (aF d (cA B A)) (aF d (cA B A))=N at *
 generalize aQ (aF A (cA B A)) (aF d (cA B A))=T at *
 generalize aQ (aF A d) (aF d (cA B A))=Sh at *
 refine⟨N - Sh,Sh,by omega,h1,by omega,?_,?_,?_⟩<;>simp only[cA] at * <;> grind
theorem Tf{x:Pt}(h:aF x d=(0,0,0)):aQ d d*x.1=aQ x d*d.1/\aQ d d*x.2.1=aQ x d*d.2.1/\aQ d d*x.2.2=aQ x d*d.2.2:=by
 have p1:(aF x d).1=0:=by rw[h]
 have p2:(aF x d).2.1=0:=by rw[h]
 have p3:(aF x d).2.2=0:=by rw[h]
 simp only[aF,aQ] at *
 refine⟨?_,?_,?_⟩<;>grind
theorem zpJ(hp:aF d (cA B A)=(0,0,0))(h:aF A d=(0,0,0)):aF B d=(0,0,0):=by
 have p1:(aF d (cA B A)).1=0:=by rw[hp]
 have p2:(aF d (cA B A)).2.1=0:=by rw[hp]
 have p3:(aF d (cA B A)).2.2=0:=by rw[hp]
 have q1:(aF A d).1=0:=by rw[h]
 have q2:(aF A d).2.1=0:=by rw[h]
 have q3:(aF A d).2.2=0:=by rw[h]
 simp only[aF,cA] at *
 refine Ua ?_ ?_ ?_<;>grind
def VH(o d a b c:Pt):vM (pW o d a b c):=Lr (Lr (Lr (λ_ h=>by cases h) (zev _)) (zev _)) (zev _)
def G5(d A B C:Pt):aQ d (aF A B)+aQ d (aF B C)+aQ d (aF C A)=aQ d (aF (cA B A) (cA C A)):=by simp only[aQ,aF,cA];grind
theorem Mr(n A B C:Pt):aQ n (aF B C)*A.1+aQ n (aF C A)*B.1+aQ n (aF A B)*C.1=aQ A (aF (cA B A) (cA C A))*n.1
 /\ aQ n (aF B C)*A.2.1+aQ n (aF C A)*B.2.1+aQ n (aF A B)*C.2.1=aQ A (aF (cA B A) (cA C A))*n.2.1
 /\ aQ n (aF B C)*A.2.2+aQ n (aF C A)*B.2.2+aQ n (aF A B)*C.2.2=aQ A (aF (cA B A) (cA C A))*n.2.2:=by
 simp only[aQ,aF,cA];refine⟨?_,?_,?_⟩<;>grind
theorem zqb{C:Pt}(h1:0<=aQ d (aF A B))(h2:0<=aQ d (aF B C))(h3:0<=aQ d (aF C A))(hV:0<aQ d (aF (cA B A) (cA C A))):sG d A B C (aQ A (aF (cA B A) (cA C A)),aQ d (aF (cA B A) (cA C A))):=by
 obtain⟨m1,m2,m3⟩:=Mr d A B C;have e:=G5 d A B C;generalize aQ d (aF (cA B A) (cA C A))=V at *
 generalize aQ A (aF (cA B A) (cA C A))=U at *
 generalize aQ d (aF A B)=s1 at *
 generalize aQ d (aF B C)=s2 at *
 generalize aQ d (aF C A)=s3 at *
 refine⟨s2,s3,s1,h2,h3,h1,by omega,?_,?_,?_⟩<;>simp only<;>grind
theorem znF{C:Pt}(h1:aQ d (aF A B)<=0)(h2:aQ d (aF B C)<=0)(h3:aQ d (aF C A)<=0)(hV:aQ d (aF (cA B A) (cA C A))<0):sG d A B C (-aQ A (aF (cA B A) (cA C A)),-aQ d (aF (cA B A) (cA C A))):=by
 obtain⟨m1,m2,m3⟩:=Mr d A B C;have e:=G5 d A B C;generalize aQ d (aF (cA B A) (cA C A))=V at *
 generalize aQ A (aF (cA B A) (cA C A))=U at *
 generalize aQ d (aF A B)=s1 at *
 generalize aQ d (aF B C)=s2 at *
 generalize aQ d (aF C A)=s3 at *
 refine⟨-s2,-s3,-s1,by omega,by omega,by omega,by omega,?_,?_,?_⟩<;>simp only<;>grind
section
variable {d A B C:Pt}
abbrev ql(A B C:Pt):Pt:=aF (cA B A) (cA C A)
end
theorem UG(o w a b c:Pt):cJ o w a b c=true↔(0<=cu o w a b/\0<=cu o w b c/\0<=cu o w c a)\/(cu o w a b<=0/\cu o w b c<=0/\cu o w c a<=0):=by unfold cJ;simp only[lV,cG,tL,and_assoc]
theorem znD(o d a b c:Pt):vM (oH o d a b c):=by
 unfold oH yS;intro r hr;split at hr
 .exact VH _ _ _ _ _ r hr
 .split at hr
  .split at hr
   .split at hr
    .cases hr;decide
    .exact VH _ _ _ _ _ r hr
   .cases hr
  .split at hr
   .split at hr
    .cases hr
    .cases hr;exact Mq _ _
   .split at hr
    .cases hr
    .cases hr;exact Mq _ _
theorem Kv{u v s p q x dx l h a b c:Int}(u0:0<=u)(v0:0<=v)(w0:0<=w)(hs:0<u+v+w)(hq:0<q)(e:(u+v+w)*p*dx=q*(u*(a - x)+v*(b - x)+w*(c - x)))(ha:l<=a/\a<=h)(hb:l<=b/\b<=h)(hc:l<=c/\c<=h):l*q<=x*q+dx*p/\x*q+dx*p<=h*q:=by
 have e1:(u+v+w)*(x*q+dx*p)=q*(u*a+v*b+w*c):=by grind
 have g1:=Int.mul_le_mul_of_nonneg_left ha.1 u0;have g2:=Int.mul_le_mul_of_nonneg_left hb.1 v0;have g3:=Int.mul_le_mul_of_nonneg_left hc.1 w0;have g4:=Int.mul_le_mul_of_nonneg_left ha.2 u0;have g5:=Int.mul_le_mul_of_nonneg_left hb.2 v0;have g6:=Int.mul_le_mul_of_nonneg_left hc.2 w0;have g7:=Int.mul_le_mul_of_nonneg_left (show u*l+v*l+w*l<=u*a+v*b+w*c by omega) (show 0<=q by omega);have g8:=Int.mul_le_mul_of_nonneg_left (show u*a+v*b+w*c<=u*h+v*h+w*h by omega) (show 0<=q by omega);constructor
 .refine Int.le_of_mul_le_mul_left (a:=u+v+w) ?_ hs;have:(u+v+w)*(l*q)=q*(u*l+v*l+w*l):=by grind
  omega
 .refine Int.le_of_mul_le_mul_left (a:=u+v+w) ?_ hs;have:(u+v+w)*(h*q)=q*(u*h+v*h+w*h):=by grind
  omega
end MX.P
end
section
namespace MX.P
open PySem L2 MX
theorem Lk{lo hi:Pt}(h0:d≠(0,0,0)):IsF ((gD o d lo hi).map (·.1)) (inB o d lo hi):=by
 have i0:Q8 (λ_=>True) [(0,1)] ((0,1),none):=by
  refine⟨⟨by simp,by simp,λm hm=>by cases hm⟩,λt h1 h2=>?_,?_,λl hl=>by cases hl⟩
  .simp only[true_iff];refine⟨?_,λl hl=>by cases hl⟩;unfold leQ;simp;omega
  .rw[G4 (by decide)];decide
 have j1:=K7 (j:=0) (o:=o) (d:=d) (lo:=lo) (hi:=hi) i0;unfold gD;cases e1:dO ((0,1),none) o.1 d.1 lo.1 hi.1 with
 |none =>
  rw[show dO ((0,1),none) (co 0 o) (co 0 d) (co 0 lo) (co 0 hi)=none from e1] at j1;exact λt q1 q2 q=>j1 t q1 q2 ⟨trivial,q.1⟩
 |some a =>
  rw[show dO ((0,1),none) (co 0 o) (co 0 d) (co 0 lo) (co 0 hi)=some a from e1] at j1;have j2:=K7 (j:=1) (o:=o) (d:=d) (lo:=lo) (hi:=hi) j1;simp only[bM];cases e2:dO a o.2.1 d.2.1 lo.2.1 hi.2.1 with
  |none =>
   rw[show dO a (co 1 o) (co 1 d) (co 1 lo) (co 1 hi)=none from e2] at j2;exact λt q1 q2 q=>j2 t q1 q2 ⟨⟨trivial,q.1⟩,q.2.1⟩
  |some b =>
   rw[show dO a (co 1 o) (co 1 d) (co 1 lo) (co 1 hi)=some b from e2] at j2;have j3:=K7 (j:=2) (o:=o) (d:=d) (lo:=lo) (hi:=hi) j2;simp only[bM];cases e3:dO b o.2.2 d.2.2 lo.2.2 hi.2.2 with
   |none =>
    rw[show dO b (co 2 o) (co 2 d) (co 2 lo) (co 2 hi)=none from e3] at j3;exact λt q1 q2 q=>j3 t q1 q2 ⟨⟨⟨trivial,q.1⟩,q.2.1⟩,q.2.2⟩
   |some c =>
    rw[show dO b (co 2 o) (co 2 d) (co 2 lo) (co 2 hi)=some c from e3] at j3;simp only[bM];have hn:c.2≠none:=by
     by_cases q1:d.1=0
     .by_cases q2:d.2.1=0
      .have q3:d.2.2≠0:=λq3=>h0 (by show(d.1,d.2.1,d.2.2)=_;rw[q1,q2,q3]);exact nW e3 (.inr q3)
      .exact nW e3 (.inl (nW e2 (.inr q2)))
     .exact nW e3 (.inl (nW e2 (.inl (nW e1 (.inr q1)))))
    have hB:∀t:Int×Int,0<=t.1->0<t.2->(inB o d lo hi t↔leQ c.1 t/\∀l,c.2=some l->leQ t l):=λt q1 q2=>by rw[<-j3.iff t q1 q2];exact⟨λq=>⟨⟨⟨trivial,q.1⟩,q.2.1⟩,q.2.2⟩,λq=>⟨q.1.1.2,q.1.2,q.2⟩⟩
    cases hl:c.2 with
    |none=>exact absurd hl hn
    |some l =>
     simp only;have aW:=j3.pos.2.2 l hl;have xV:=j3.pos.2.1;have f0:=j3.pos.1;by_cases hc:eH l c.1
     .rw[if_pos hc];intro t q1 q2 q;have:=(hB t q1 q2).mp q;exact Vh (zA xV q2 aW this.1 (this.2 l hl)) hc
     .rw[if_neg hc];have hfl:=p7 hc;exact⟨f0,xV,(hB _ f0 xV).mpr ⟨zms _,λl' hl'=>by rw[hl] at hl';cases hl';exact hfl⟩,λt q1 q2 q=>((hB t q1 q2).mp q).1⟩
theorem zpk(o d lo hi:Pt):Inv (inB o d lo hi):=λt r ht hr e h=>by
 have f:∀s w l u:Int,kO s w l u t->kO s w l u r:=λs w l u ⟨h1,h2⟩=>by
  have k:t.2*(s*r.2+w*r.1)=r.2*(s*t.2+w*t.1):=by
   have:t.2*(s*r.2+w*r.1)=s*(t.2*r.2)+w*(r.1*t.2):=by grind
   rw[this,<-e];grind
  have g1:=Int.mul_le_mul_of_nonneg_left h1 (show 0<=r.2 by omega);have g2:=Int.mul_le_mul_of_nonneg_left h2 (show 0<=r.2 by omega);have k1:t.2*(l*r.2)=r.2*(l*t.2):=by grind
  have k2:t.2*(u*r.2)=r.2*(u*t.2):=by grind
  exact⟨Int.le_of_mul_le_mul_left (a:=t.2) (by omega) ht,Int.le_of_mul_le_mul_left (a:=t.2) (by omega) ht⟩
 exact⟨f _ _ _ _ h.1,f _ _ _ _ h.2.1,f _ _ _ _ h.2.2⟩
end MX.P
end
section
namespace MX.P
def iW(m:Tq)(X:Int×Int->Prop):Prop:=∀r,m=some r->0<=r.1/\0<r.2/\X r
theorem iW.pick{m n:Tq}{X:Int×Int->Prop}(hm:iW m X)(hn:iW n X):iW (pick m n) X:=by
 intro r h;unfold P.pick at h;cases n with
 |none=>exact hm r h
 |some t =>
  cases m with
  |none=>exact hn r h
  |some b =>
   simp only at h;split at h
   .exact hn r h
   .exact hm r h
theorem iW.red{m:Tq}(hi:Inv X)(hm:iW m X):iW (oA m) X:=by intro r h;obtain⟨p,e,rfl⟩:=aR.mp h;obtain⟨h1,h2,h3⟩:=hm p e;have:=zo9 (a:=p) h2;unfold leQ at this;exact⟨BK h1 h2,zF _ _,hi p _ h2 (zF _ _) (by omega) h3⟩
def iW.sub{m:Tq}{Y:Int×Int->Prop}(hm:iW m X)(h:∀t,X t->Y t):iW m Y:=λr e=>⟨(hm r e).1,(hm r e).2.1,h _ (hm r e).2.2⟩
theorem zof{a b:Pt}(h0:d≠(0,0,0)):iW (oF o d a b) (zU d (wb o a) (wb o b)):=by
 have hD:=wD h0;intro r h;unfold oF yJ at h;rw[Ka o a b] at h;generalize wb o a=A at *
 generalize wb o b=B at *
 split at h
 .rename_i hp;split at h
  .rename_i hc;have la:=Tf hc;have lb:=Tf (zpJ hp hc);generalize aQ d d=N at *
   generalize aQ A d=x at *
   generalize aQ B d=y at *
   split at h
   .cases h
   .rename_i hm;cases h;have hm':0<=x\/0<=y:=by unfold jG at hm;split at hm<;>omega
    have hmn:(jG (pU x y) 0=x/\0<=x/\x<=y)\/(jG (pU x y) 0=y/\0<=y/\y<=x)\/(jG (pU x y) 0=0/\x<0/\0<=y)\/(jG (pU x y) 0=0/\y<0/\0<=x):=by unfold jG pU;split<;>split<;>omega
    have hge:0<=jG (pU x y) 0:=by rcases hmn with h|h|h|h<;>omega
    refine⟨hge,hD,?_⟩;obtain⟨a1,a2,a3⟩:=la;obtain⟨b1,b2,b3⟩:=lb;rcases hmn with⟨e,_⟩|⟨e,_⟩|⟨e,_⟩|⟨e,_⟩<;>rw[e]
    .exact⟨1,0,by omega,by omega,by omega,by simp only;grind,by simp only;grind,by simp only;grind⟩
    .exact⟨0,1,by omega,by omega,by omega,by simp only;grind,by simp only;grind,by simp only;grind⟩
    .exact⟨y,-x,by omega,by omega,by omega,by simp only;grind,by simp only;grind,by simp only;grind⟩
    .exact⟨-y,x,by omega,by omega,by omega,by simp only;grind,by simp only;grind,by simp only;grind⟩
  .cases h
 .rename_i hp;have hU:=wD hp;split at h
  .rename_i hz;split at h
   .cases h
   .rename_i hb;cases h;exact⟨by simp only;omega,hU,zqD hz (by omega) (by omega) hU⟩
  .cases h
theorem zli{a b c:Pt}(h0:d≠(0,0,0)):iW (pW o d a b c) (sG d (wb o a) (wb o b) (wb o c)):=by have s:=λx y:Pt=>iW.red (zpj d (wb o x) (wb o y)) (zof (o:=o) (a:=x) (b:=y) h0);exact iW.pick (iW.pick (iW.pick (λr h=>by cases h) ((s a b).sub λt=>zrF)) ((s b c).sub λt=>zrE)) ((s c a).sub λt=>zrD)
theorem znC{a b c:Pt}(h0:d≠(0,0,0)):iW (oH o d a b c) (sG d (wb o a) (wb o b) (wb o c)):=by
 have ef:=zli (o:=o) (a:=a) (b:=b) (c:=c) h0;have gd:=UG o d a b c;have gn:=UG o (ql (wb o a) (wb o b) (wb o c)) a b c;intro r h;unfold oH yS at h;unfold cu at gd gn;rw[Ka o a b,Ka o a c] at h;generalize wb o a=A at *
 generalize wb o b=B at *
 generalize wb o c=C at *
 split at h
 .exact ef r h
 .rename_i hf;have hN:0<aQ (ql A B C) (ql A B C):=wD hf;split at h
  .split at h
   .rename_i hU;have sn:aQ (ql A B C) (aF A B)+aQ (ql A B C) (aF B C)+aQ (ql A B C) (aF C A)=aQ (ql A B C) (ql A B C):=G5 (ql A B C) A B C;split at h
    .rename_i hg;cases h;refine⟨Int.le_refl _,by decide,?_⟩;obtain⟨m1,m2,m3⟩:=Mr (ql A B C) A B C;rw[show aQ A (aF (cA B A) (cA C A))=0 from hU] at m1 m2 m3;rcases gn.mp hg with g|g
     .exact⟨_,_,_,g.2.1,g.2.2,g.1,by omega,by simp only;grind,by simp only;grind,by simp only;grind⟩
     .omega
    .exact ef r h
   .cases h
  .rename_i hV;have sn:=G5 d A B C;have go:∀P:Prop,¬(P\/cJ o d a b c=false)->cJ o d a b c=true:=λP hb=>by
    rcases Bool.eq_false_or_eq_true (cJ o d a b c) with q|q
    .exact q
    .exact absurd (.inr q) hb
   split at h
   .rename_i Ys;split at h
    .cases h
    .rename_i hb;refine iW.red (m:=some (_,_)) (TQ _ _ _ _) (λp hp=>?_) r h;cases hp;refine⟨Int.not_lt.mp λq=>hb (.inl q),by simp only;omega,?_⟩;rcases gd.mp (go _ hb) with g|g
     .omega
     .exact znF g.1 g.2.1 g.2.2 Ys
   .rename_i Ys;split at h
    .cases h
    .rename_i hb;have Yr:0<aQ d (aF (cA B A) (cA C A)):=by omega
     refine iW.red (m:=some (_,_)) (TQ _ _ _ _) (λp hp=>?_) r h;cases hp;refine⟨Int.not_lt.mp λq=>hb (.inl q),Yr,?_⟩;rcases gd.mp (go _ hb) with g|g
     .exact zqb g.1 g.2.1 g.2.2 Yr
     .omega
end MX.P
end
section
namespace MX.P
open PySem L2 MX
def qp(a b:Pt):Prop:=a.1<=b.1/\a.2.1<=b.2.1/\a.2.2<=b.2.2
theorem Le:∀(r:List Int) (a:Int),r.foldl (λx y=>if y<x then y else x) a<=a/\∀x∈r,r.foldl (λx y=>if y<x then y else x) a<=x
 |[],a=>⟨Int.le_refl _,λ_ h=>by cases h⟩
 |b::r,a=>by
  obtain⟨h1,h2⟩:=Le r (if b<a then b else a);rw[List.foldl_cons];have k:(if b<a then b else a)<=a/\(if b<a then b else a)<=b:=by split<;>omega
  refine⟨Int.le_trans h1 k.1,λx hx=>?_⟩;rcases List.mem_cons.mp hx with rfl|hx
  .exact Int.le_trans h1 k.2
  .exact h2 x hx
theorem Ld:∀(r:List Int) (a:Int),a<=r.foldl (λx y=>if y>x then y else x) a/\∀x∈r,x<=r.foldl (λx y=>if y>x then y else x) a
 |[],a=>⟨Int.le_refl _,λ_ h=>by cases h⟩
 |b::r,a=>by
  obtain⟨h1,h2⟩:=Ld r (if b>a then b else a);rw[List.foldl_cons];have k:a<=(if b>a then b else a)/\b<=(if b>a then b else a):=by split<;>omega
  refine⟨Int.le_trans k.1 h1,λx hx=>?_⟩;rcases List.mem_cons.mp hx with rfl|hx
  .exact Int.le_trans k.2 h1
  .exact h2 x hx
theorem Kw{m:Int}(h:jx ns=some m):∀x∈ns,m<=x:=by
 cases ns with
 |nil=>cases h
 |cons a r =>
  have h':r.foldl (λx y=>if y<x then y else x) a=m:=by simpa[jx] using h
  subst h';intro x hx;rcases List.mem_cons.mp hx with rfl|hx
  .exact(Le r _).1
  .exact(Le r _).2 x hx
theorem GR{m:Int}(h:iK ns=some m):∀x∈ns,x<=m:=by
 cases ns with
 |nil=>cases h
 |cons a r =>
  have h':r.foldl (λx y=>if y>x then y else x) a=m:=by simpa[iK] using h
  subst h';intro x hx;rcases List.mem_cons.mp hx with rfl|hx
  .exact(Ld r _).1
  .exact(Ld r _).2 x hx
def lU.has{pts:List Pt}{lo hi:Pt}(B:lU pts lo hi)(hp:p∈pts):qp lo p/\qp p hi :=
 ⟨⟨Kw B.h0 (co 0 p) (List.mem_map_of_mem hp),Kw B.h1 (co 1 p) (List.mem_map_of_mem hp),Kw B.h2 (co 2 p) (List.mem_map_of_mem hp)⟩,
  ⟨GR B.g0 (co 0 p) (List.mem_map_of_mem hp),GR B.g1 (co 1 p) (List.mem_map_of_mem hp),GR B.g2 (co 2 p) (List.mem_map_of_mem hp)⟩⟩
theorem UJ{lo hi lo' hi':Pt}(hq:0<t.2)(h1:qp lo lo')(h2:qp hi' hi)(h:inB o d lo' hi' t):inB o d lo hi t:=by
 have f:∀s w l u l' u':Int,l<=l'->u'<=u->kO s w l' u' t->kO s w l u t:=λs w l u l' u' a b ⟨h1,h2⟩ =>
  ⟨Int.le_trans (Int.mul_le_mul_of_nonneg_right a (by omega)) h1,Int.le_trans h2 (Int.mul_le_mul_of_nonneg_right b (by omega))⟩
 exact⟨f _ _ _ _ _ _ h1.1 h2.1 h.1,f _ _ _ _ _ _ h1.2.1 h2.2.1 h.2.1,f _ _ _ _ _ _ h1.2.2 h2.2.2 h.2.2⟩
theorem Vx{lo hi:Pt}(h0:d≠(0,0,0))(h1:0<=t.1)(h2:0<t.2)(h:inB o d lo hi t):gD o d lo hi≠none:=λe=>by have f:=Lk (o:=o) (lo:=lo) (hi:=hi) h0;rw[e] at f;exact f t h1 h2 h
theorem zjL{lo hi lo' hi':Pt}(h0:d≠(0,0,0))(h1:qp lo lo')(h2:qp hi' hi)(e:gD o d lo hi=none):gD o d lo' hi'=none:=by
 cases e':gD o d lo' hi' with
 |none=>rfl
 |some p =>
  have f:=Lk (o:=o) (lo:=lo') (hi:=hi') h0;rw[e'] at f;exact absurd e (Vx h0 f.1 f.2.1 (UJ f.2.1 h1 h2 f.2.2.1))
def DN(o d:Pt):Sh->Int×Int->Prop
 |.box lo hi=>inB o d lo hi
 |.tri a b c=>sG d (wb o a) (wb o b) (wb o c)
def R8(o d lo hi:Pt):iw o d (.box lo hi)=oA ((gD o d lo hi).map (·.1)):=by show(gD o d lo hi).map (λp=>dG p.1.1 p.1.2)=_;cases gD o d lo hi<;>rfl
theorem R9(h0:d≠(0,0,0))(s:Sh):iW (iw o d s) (DN o d s):=by
 cases s with
 |box lo hi =>
  rw[R8];refine iW.red (zpk o d lo hi) λr e=>?_;have f:=Lk (o:=o) (lo:=lo) (hi:=hi) h0;rw[e] at f;exact⟨f.1,f.2.1,f.2.2.1⟩
 |tri a b c=>exact znC h0
def zqe(o d:Pt)(s:Sh):vM (iw o d s):=by
 cases s with
 |box lo hi=>rw[R8];exact zev _
 |tri a b c=>exact znD o d a b c
theorem zqB{lo hi:Pt}{s:Sh}(B:lU s.pts lo hi)(hq:0<t.2)(h:DN o d s t):inB o d lo hi t:=by
 cases s with
 |box l u=>exact UJ hq (B.has (p:=l) (by simp[Sh.pts])).1 (B.has (p:=u) (by simp[Sh.pts])).2 h
 |tri a b c =>
  obtain⟨a1,a2⟩:=B.has (p:=a) (by simp[Sh.pts]);obtain⟨b1,b2⟩:=B.has (p:=b) (by simp[Sh.pts]);obtain⟨c1,c2⟩:=B.has (p:=c) (by simp[Sh.pts]);obtain⟨u,v,w,u0,v0,w0,hs,e1,e2,e3⟩:=h;exact⟨Kv (s:=0) u0 v0 w0 hs hq e1 ⟨a1.1,a2.1⟩ ⟨b1.1,b2.1⟩ ⟨c1.1,c2.1⟩,Kv (s:=0) u0 v0 w0 hs hq e2 ⟨a1.2.1,a2.2.1⟩ ⟨b1.2.1,b2.2.1⟩ ⟨c1.2.1,c2.2.1⟩,Kv (s:=0) u0 v0 w0 hs hq e3 ⟨a1.2.2,a2.2.2⟩ ⟨b1.2.2,b2.2.2⟩ ⟨c1.2.2,c2.2.2⟩⟩
theorem zoa{lo hi:Pt}{s:Sh}(h0:d≠(0,0,0))(B:lU s.pts lo hi)(h:iw o d s≠none):gD o d lo hi≠none:=by
 cases e:iw o d s with
 |none=>exact absurd e h
 |some p =>
  obtain⟨f1,f2,f3⟩:=R9 h0 s p e;exact Vx h0 f1 f2 (zqB B f2 f3)
end MX.P
end
section
local macro_rules|`(tactic|wtm_at $s)=>uS s "d&"
namespace MX.P
open PySem L2 MX
theorem Ku{α:Type}{nx:Nat->So->Option (Option D)}{fe:EF}{S:So}{rest:Sg}(qs:List α)(enc g:α->D)(hnx:∀i:Nat,nx i S=some ((qs.map enc)[i]?))(hstep:∀q∈qs,fe (some (enc q)::rest) S=some (g q,S)):
 ∀(n i:Nat) (v:Option D) (acc:List D),i+n=qs.length->jo nx (aL 0) d8 fe n i (v::rest) S acc=some (acc++(qs.drop i).map g,S)
 |0,i,v,acc,h=>by rw[Gh (by rw[hnx,kh (by simp;omega)]),List.drop_of_length_le (by omega)];simp
 |n+1,i,v,acc,h=>by
  have hi:i<qs.length:=by omega
  have e:(qs.map enc)[i]?=some (enc qs[i]):=by simp[hi]
  refine(yZ (by rw[hnx,e]) (dR rfl) zm (hstep _ (List.getElem_mem hi)) rfl (Ku qs enc g hnx hstep n (i+1) (some (enc qs[i])) (acc++[g qs[i]]) (by omega))).trans ?_;rw[List.drop_eq_getElem_cons hi,iC,f9];rfl
theorem Bl{α:Type}{S1:So}{fi:IF}{rest:Sg}(qs:List α)(enc g:α->D)(h1:fi Z S=some (.lst n,S1))(hn:S1[n]?=some (.lst (qs.map enc)))(hl:qs.length<=1000)(hτ:oG src Z=none::rest)(hstep:∀q∈qs,fe (some (enc q)::rest) S1=some (g q,S1)):eV fi (aL 0) d8 fe src Z S=some (.ref S1.length,S1++[.lst (qs.map g)]):=by
 have key:=Ku (nx:=dJ (.lst n)) (S:=S1) (rest:=rest) (fe:=fe) qs enc g (λi=>by unfold dJ;simp only;rw[hn]) hstep qs.length 0 none [] (by omega);refine vV (n:=qs.length) h1 ?_ (by rw[sizeLine_eq];omega) hτ ?_
 .show(match S1[n]? with|some (.lst xs)=>some xs.length|some (.frz xs)=>some xs.length|_=>none)=_;rw[hn];simp
 .rw[key];simp
abbrev Lf:=Pt×Pt×Nat
def dN(q:Lf):Tr := .lf q.1 q.2.1 q.2.2
def Tr.leaves:Tr->List Lf
 |.lf lo hi i=>[(lo,hi,i)]
 |.nd _ _ l r=>l.leaves++r.leaves
def sZ(k:Nat):Tr->Prop
 |.lf lo hi _=>aJ k lo/\aJ k hi
 |.nd lo hi l r=>(aJ k lo/\aJ k hi)/\sZ k l/\sZ k r/\∀q∈l.leaves++r.leaves,qp lo q.1/\qp q.2.1 hi
def ZV{h:Nat}(hl:h<=xs.length):jF xs none (some (h:Nat))=xs.take h:=by unfold jF;rw[HT.zjV,HT.zh3];simp[Nat.min_eq_left hl]
theorem zmR{h:Nat}(hl:h<=xs.length):jF xs (some (h:Nat)) none=xs.drop h:=by unfold jF;rw[HT.zjV,HT.zh3,Nat.min_eq_left hl];rw[List.take_of_length_le (by simp)]
def nP{x:Str}{G:So}(h:jd x S=true):jd x (S++G)=true:=by
 unfold jd at *
 rw[List.any_append,h];rfl
theorem Rq{S1:So}{fb:EF}{src:List Nat}{dg kz:List D}(h1:fe Z S=some (.ref n,S1))(h2:vK src Z=some dg)(h3:xg dg=true)(hn:S1[n]?=some (.lst xs))(hl:xs.length<64)(hk:pX (t6 fb dg) S1 xs=some kz)(ho:(kz.all nq||kz.all lY)=true):
 yc fe src fb Z S=some (.ref S1.length,S1++[.lst ((gJ kz).map λi=>xs.getD i .non)]):=by
 unfold yc;rw[h1];simp only[bM];rw[h2];simp only[bM];rw[if_pos h3,hn];simp only;rw[if_pos hl,hk];simp only[bM];rw[if_pos ho]
def LR{α:Type}{ψ:GN}{S:So}{enc g:α->D}:∀{qs:List α},(∀q∈qs,ψ [enc q] S=some (g q,S))->pX ψ S (qs.map enc)=some (qs.map g)
 |[],_=>rfl
 |q::r,h=>zjf (h q (fG ..)) (LR λy hy=>h y (cM _ hy))
theorem Wa{α:Type}(a0:α)(qs:List α)(h:l.Perm (List.range qs.length)):(l.map λi=>qs.getD i a0).Perm qs:=by
 have h1:=h.map λi=>qs.getD i a0;have h2:(List.range qs.length).map (λi=>qs.getD i a0)=qs:=by
  apply List.ext_getElem?;intro i;by_cases hi:i<qs.length
  .simp[hi]
  .rw[kh (by simp;omega),kh (by omega)]
 rw[h2] at h1;exact h1
theorem Vk{α:Type}{enc:α->D}(a0:α)(qs:List α)(h:∀i∈l,i<qs.length):(l.map λi=>(qs.map enc).getD i .non)=(l.map λi=>qs.getD i a0).map enc:=by rw[List.map_map];refine List.map_congr_left λi hi=>?_;have:=h i hi;simp[List.getD_eq_getElem?_getD,this]
theorem zm0{q:Lf}{j:Nat}(hj:j<=2)(S:So):t6 (eB (aN .Add) (eB aH (eB aH (gF "Tree" "box" (aj 0)) (kq 0)) (aj 1)) (eB aH (eB aH (gF "Tree" "box" (aj 0)) (kq 1)) (aj 1))) [.int (j:Nat)] [bf (dN q)] S=some (.int (co j q.1+co j q.2.1),S):=by show eB _ _ _ [some (bf (dN q)),some (.int (j:Nat))] S=_;refine bI (bI (bI (rB (d := .tup [pD q.1,pD q.2.1]) (aG rfl) rfl rfl) bG (ji (z:=pD q.1) rfl)) (aG rfl) (ji (Ba (by omega) (by omega) q.1))) (bI (bI (rB (d := .tup [pD q.1,pD q.2.1]) (aG rfl) rfl rfl) bG (ji (z:=pD q.2.1) rfl)) (aG rfl) (ji (Ba (by omega) (by omega) q.2.1))) JW
theorem Gn(n:Nat)(qs:List Lf):O.lo n (.lst (qs.map λq=>bf (dN q)))=true:=by show cL n _=true;rw[jB];intro x hx;obtain⟨q,_,rfl⟩:=List.mem_map.mp hx;exact rm n _
theorem Gm{α:Type}(n:Nat)(qs:List α)(f:α->Pt):cL n (qs.map λq=>pD (f q))=true:=by rw[jB];intro x hx;obtain⟨p,_,rfl⟩:=List.mem_map.mp hx;simp[D.lo,cL]
theorem zo7{ys:List D}(h1:cL n xs=true)(h2:cL n ys=true):cL n (xs++ys)=true:=by
 rw[jB] at *
 intro x hx;rcases lB.mp hx with h|h
 .exact h1 x h
 .exact h2 x h
theorem znZ:∀(k:Nat) (qs:List Lf) (n:Nat) (S:So),WF S->jd "tree_over" S=true->S[n]?=some (.lst (qs.map λq=>bf (dN q)))->1<=qs.length->qs.length<=2 ^ k->qs.length<=60->(∀q∈qs,aJ K q.1/\aJ K q.2.1) ->
 ∃t,jl (k+1) [.ref n] S=some (bf t,S)/\sZ K t/\t.leaves.Perm qs:=by
 intro k
 induction k with
 |zero =>
  intro qs n S hS hT hn h1 h2 h60 hb;obtain⟨q,rfl⟩:=List.length_eq_one_iff.mp (show qs.length=1 by have:qs.length<=1:=h2;omega);refine⟨dN q,?_,hb q (by simp),List.Perm.refl _⟩;show oM "tree_over" 5 (nT (jl 0)) _ S=_;unfold oM;rw[if_pos hT];apply bY
  .wtm_at "b"
   unfold nT;refine aM (gK (b:=true) (gk ?_) (jz rfl (aM (gC (bI (aG rfl) bG (vZ hn (z:=bf (dN q)) rfl))) eZ))) eZ;exact bI (bC (aK (aG rfl) aZ) (oO hn)) bG rfl
  .exact pO
  .exact rm _ _
 |succ k ih =>
  intro qs n S hS hT hn h1 h2 h60 hb;show ∃t,oM "tree_over" 5 (nT (jl (k+1))) _ S=_/\_;unfold oM;rw[if_pos hT];by_cases hL:qs.length=1
  .obtain⟨q,rfl⟩:=List.length_eq_one_iff.mp hL;refine⟨dN q,?_,hb q (by simp),List.Perm.refl _⟩;apply bY
   .wtm_at "b"
    unfold nT;refine aM (gK (b:=true) (gk ?_) (jz rfl (aM (gC (bI (aG rfl) bG (vZ hn (z:=bf (dN q)) rfl))) eZ))) eZ;exact bI (bC (aK (aG rfl) aZ) (oO hn)) bG rfl
   .exact pO
   .exact rm _ _
  .obtain⟨lo,hi,B⟩:=Rx (pts:=qs.map (·.1)++qs.map (·.2.1)) (by
    intro e;have:=congrArg List.length e;rw[jE,cX,cX,Ab] at this;omega)
   have bb:aJ K lo/\aJ K hi:=B.bd λp hp=>by
    rcases lB.mp hp with hp|hp
    .obtain⟨q,hq,rfl⟩:=List.mem_map.mp hp;exact(hb q hq).1
    .obtain⟨q,hq,rfl⟩:=List.mem_map.mp hp;exact(hb q hq).2
   obtain⟨j,hj,hw⟩:=zjM lo hi;have hm:qs.map (λq=>pD q.1)++qs.map (λq=>pD q.2.1)=(qs.map (·.1)++qs.map (·.2.1)).map pD:=by rw[tV,List.map_map,List.map_map];rfl
   have W1:WF (S++[.lst (qs.map λq=>pD q.1)]):=hS.snoc (Gm _ _ _);have W2:WF (S++[.lst (qs.map λq=>pD q.1)]++[.lst (qs.map λq=>pD q.2.1)]):=W1.snoc (Gm _ _ _);have W3:WF (S++[.lst (qs.map λq=>pD q.1)]++[.lst (qs.map λq=>pD q.2.1)]++[.lst (qs.map (λq=>pD q.1)++qs.map λq=>pD q.2.1)]):=W2.snoc (zo7 (Gm _ _ _) (Gm _ _ _));have Em:eN (aO 1 zE) (ak (eB (aN .Add) (eV (fP (aj 0)) (aL 0) d8 (eB aH (gF "Tree" "box" (aj 0)) (kq 0)) [none]) (eV (fP (aj 0)) (aL 0) d8 (eB aH (gF "Tree" "box" (aj 0)) (kq 1)) [none])) au) [some (.ref n),none,none,none,none] S=some (.tup [pD lo,pD hi],S++[.lst (qs.map λq=>pD q.1)]++[.lst (qs.map λq=>pD q.2.1)]++[.lst (qs.map (λq=>pD q.1)++qs.map λq=>pD q.2.1)]):=by
    refine bC (aK (bI (Bl qs (λq=>bf (dN q)) (λq=>pD q.1) (qb (aG rfl) hn) hn (by omega) rfl λq _=>?_) (Bl qs (λq=>bf (dN q)) (λq=>pD q.2.1) (qb (aG rfl) (fB hn)) (fB hn) (by omega) rfl λq _=>?_) (zpC (fB cD) cD ?_)) aZ) (cY rfl (R4 (pts:=qs.map (·.1)++qs.map (·.2.1)) W3 ?_ ?_ B))
    .exact bI (rB (d := .tup [pD q.1,pD q.2.1]) (aG rfl) rfl rfl) bG (ji rfl)
    .exact bI (rB (d := .tup [pD q.1,pD q.2.1]) (aG rfl) rfl rfl) bG (ji rfl)
    .simp only[cX];rw[sizeLine_eq];omega
    .rw[<-hm];exact cD
    .simp only[jE,cX];omega
   have Ek:bZ (eB (bB .Eq) (eN iD (ak (aj 0) au)) (kq 1)) [some (.ref n),none,none,none,none] S=some (false,S):=by have:=gk (bI (bC (aK (aG (Z:=[some (.ref n),none,none,none,none]) (i:=0) rfl) aZ) (oO hn)) (bG (d := .int 1)) Gf);rw[this,nO];rw[cX];omega
   generalize sH:S++[.lst (qs.map λq=>pD q.1)]++[.lst (qs.map λq=>pD q.2.1)]++[.lst (qs.map (λq=>pD q.1)++qs.map λq=>pD q.2.1)]=S3 at W3 Em;have n3:S3[n]?=some (.lst (qs.map λq=>bf (dN q))):=by rw[<-sH];exact fB (fB (fB hn))
   have T3:jd "tree_over" S3=true:=by rw[<-sH,f9,f9];exact nP hT
   have tk3:S3.take S.length=S:=by rw[<-sH,f9,f9];simp
   have l3:S.length<=S3.length:=by rw[<-sH];simp
   have kp:=BL (qs.map λq=>D.int (co j q.1+co j q.2.1));rw[cX] at kp;have hlt:∀i∈gJ (qs.map λq=>D.int (co j q.1+co j q.2.1)),i<qs.length:=λi hi=>List.mem_range.mp (kp.mem_iff.mp hi);have pp:=Wa ((0,0,0),(0,0,0),0) qs kp;have pe:=Vk (enc:=λq=>bf (dN q)) ((0,0,0),(0,0,0),0) qs hlt;generalize hrow:(gJ (qs.map λq=>D.int (co j q.1+co j q.2.1))).map (λi=>qs.getD i ((0,0,0),(0,0,0),0))=row at pp pe;have rl:row.length=qs.length:=pp.length_eq;have b4:∀q∈row,aJ K q.1/\aJ K q.2.1:=λq hq=>hb q (pp.mem_iff.mp hq);have W4:WF (S3++[.lst (row.map λq=>bf (dN q))]):=W3.snoc (Gn _ _);have W5:WF (S3++[.lst (row.map λq=>bf (dN q))]++[.lst ((row.take (qs.length / 2)).map λq=>bf (dN q))]):=W4.snoc (Gn _ _);have W6:WF (S3++[.lst (row.map λq=>bf (dN q))]++[.lst ((row.take (qs.length / 2)).map λq=>bf (dN q))]++[.lst ((row.drop (qs.length / 2)).map λq=>bf (dN q))]):=W5.snoc (Gn _ _);have hp2:2 ^ (k+1)=2 ^ k+2 ^ k:=by rw[Nat.pow_succ];omega
   obtain⟨t1,e1,o1,p1⟩:=ih (row.take (qs.length / 2)) _ _ W5 (by rw[f9];exact nP T3) cD (by simp;omega) (by simp;omega) (by simp;omega) (λq hq=>b4 q (List.mem_of_mem_take hq));obtain⟨t2,e2,o2,p2⟩:=ih (row.drop (qs.length / 2)) _ _ W6 (by rw[f9,f9];exact nP T3) cD (by simp;omega) (by simp;omega) (by simp;omega) (λq hq=>b4 q (List.mem_of_mem_drop hq));have pq:(t1.leaves++t2.leaves).Perm qs:=((p1.append p2).trans (by rw[List.take_append_drop])).trans pp;refine⟨.nd lo hi t1 t2,?_,⟨bb,o1,o2,λq hq=>?_⟩,pq⟩
   .apply bY (S':=S3++[.lst (row.map λq=>bf (dN q))]++[.lst ((row.take (qs.length / 2)).map λq=>bf (dN q))]++[.lst ((row.drop (qs.length / 2)).map λq=>bf (dN q))])
    .wtm_at "b"
     unfold nT;refine aM (gK Ek (ir rfl gB)) (aX ?_);refine aM (dY Em (dR rfl)) (aX ?_);refine aM (dY (bC (aK (aG rfl) aZ) (cY rfl (hw S3))) (dR rfl)) (aX ?_);refine aM (dY (Rq (dg:=[.int (j:Nat)]) (aG rfl) rfl rfl n3 (by simp;omega) (LR (g:=λq:Lf=>D.int (co j q.1+co j q.2.1)) λq _=>zm0 hj S3) (by rw[lV];exact .inl (List.all_eq_true.mpr λx hx=>by obtain⟨q,_,rfl⟩:=List.mem_map.mp hx;rfl))) (dR rfl)) (aX ?_);rw[pe];have hfd:((qs.length:Int)).fdiv 2=((qs.length / 2:Nat):Int):=by rw[Int.fdiv_eq_ediv_of_nonneg _ (by decide)];rfl
     refine aM (dY (bI (bC (aK (aG rfl) aZ) (oO cD)) bG (p6 (by decide))) (dR rfl)) (aX ?_);simp only[cX,rl,hfd];have c1:eN (aO 1 (jl (k+1))) (ak (j9 (aj 2) lG (jT (aj 3))) au) [some (.ref n),some (.tup [pD lo,pD hi]),some (.ref S3.length),some (.int ((qs.length / 2:Nat):Int)),some (.int (j:Nat))] (S3++[.lst (row.map λq=>bf (dN q))])=some (bf t1,S3++[.lst (row.map λq=>bf (dN q))]++[.lst ((row.take (qs.length / 2)).map λq=>bf (dN q))]):=by refine bC (aK (Ar (aG rfl) Hg (Hh (aG rfl)) (J7 cD ?_)) aZ) (cY rfl e1);rw[ZV (by simp[rl];omega),List.map_take]
     have c2:eN (aO 1 (jl (k+1))) (ak (j9 (aj 2) (jT (aj 3)) lG) au) [some (.ref n),some (.tup [pD lo,pD hi]),some (.ref S3.length),some (.int ((qs.length / 2:Nat):Int)),some (.int (j:Nat))] (S3++[.lst (row.map λq=>bf (dN q))]++[.lst ((row.take (qs.length / 2)).map λq=>bf (dN q))])=some (bf t2,S3++[.lst (row.map λq=>bf (dN q))]++[.lst ((row.take (qs.length / 2)).map λq=>bf (dN q))]++[.lst ((row.drop (qs.length / 2)).map λq=>bf (dN q))]):=by refine bC (aK (Ar (aG rfl) (Hh (aG rfl)) Hg (J7 (fB cD) ?_)) aZ) (cY rfl e2);rw[zmR (by simp[rl];omega),List.map_drop]
     exact aM (gC (VL (aK (aG rfl) (aK bG (aK (bC (aK c1 (aK c2 aZ)) (jX (by show 2<=sizeLine;decide))) aZ))) W6 (by simp[cL,D.lo,rm]))) eZ
    .rw[f9,f9,List.take_append_of_le_length l3];exact tk3
    .exact rm _ (.nd lo hi t1 t2)
   .have hq':=pq.mem_iff.mp hq;exact⟨(B.has (List.mem_append_left _ (List.mem_map_of_mem hq'))).1,(B.has (List.mem_append_right _ (List.mem_map_of_mem hq'))).2⟩
abbrev jL(b:Pt×Pt):D := .tup [pD b.1,pD b.2]
def gH(bs:List (Pt×Pt)):List Lf:=bs.zipIdx.map λp=>(p.1.1,p.1.2,p.2)
def mH(bs:List (Pt×Pt)):(gH bs).length=bs.length:=by simp[gH]
def Ht{bs:List (Pt×Pt)}(h:i<bs.length):(gH bs)[i]?=some (bs[i].1,bs[i].2,i):=by simp[gH,h]
theorem V6{bs:List (Pt×Pt)}{q:Lf}(h:q∈gH bs):q.2.2<bs.length/\(q.1,q.2.1)∈bs:=by obtain⟨i,hi,e⟩:=List.mem_iff_getElem.mp h;rw[mH] at hi;have:=Ht hi;rw[fM (by rw[mH];exact hi),e] at this;cases this;exact⟨hi,List.getElem_mem hi⟩
theorem TY{S:So}{n:Nat}{bs:List (Pt×Pt)}(hS:WF S)(hn:S[n]?=some (.lst (bs.map jL))):∀(m i:Nat) (τ:Sg) (acc:List D),τ.length=2->i+m=bs.length ->
 jo (dJ (.enm n)) (lO 2 (gA (aL 0) (gA (aL 1) nJ))) d8 (pJ "Tree" 4 zM (ak (aj 1) (ak (aj 0) (ak (eN b8 au) au)))) m i τ S acc=some (acc++((gH bs).drop i).map (λq=>bf (dN q)),S)
 |0,i,τ,acc,hτ,h=>by rw[Gh (by unfold dJ;simp only;rw[hn];simp;omega),List.drop_of_length_le (by rw[mH];omega)];simp
 |m+1,i,τ,acc,hτ,h=>by
  have hi:i<bs.length:=by omega
  obtain⟨a,b,rfl⟩:∃a b,τ=[a,b]:=by
   match τ,hτ with
   |[a,b],_=>exact⟨a,b,rfl⟩
  have hq:(gH bs)[i]?=some (bs[i].1,bs[i].2,i):=Ht hi;have nx:dJ (.enm n) i S=some (some (.tup [.int (i:Nat),jL bs[i]])):=by unfold dJ;simp only;rw[hn];simp[hi]
  refine(yZ nx (RD rfl (Mv (dR rfl) (Mv (dR rfl) Us))) zm (VL (aK (aG rfl) (aK (aG rfl) (aK (bC aZ (jX (by show 0<=sizeLine;exact Nat.zero_le _))) aZ))) hS (by simp[cL,D.lo])) rfl (TY hS hn m (i+1) _ _ rfl (by omega))).trans ?_;rw[List.drop_eq_getElem_cons (l:=gH bs) (i:=i) (by rw[mH];exact hi),iC,f9];have e2:(gH bs)[i]'(by rw[mH];exact hi)=(bs[i].1,bs[i].2,i):=by rw[fM (by rw[mH];exact hi)] at hq;exact Option.some.inj hq
  rw[e2];rfl
def gj:Option Tr->D
 |none => .non
 |some t=>bf t
def zT:Option Tr->List Lf
 |none=>[]
 |some t=>t.leaves
def Zv(n:Nat)(t:Option Tr):D.lo n (gj t)=true:=by
 cases t with
 |none=>simp[gj,D.lo]
 |some t=>exact rm n t
theorem zlU{bs:List (Pt×Pt)}(hS:WF S)(hT:jd "tree_over" S=true)(hn:S[n]?=some (.lst (bs.map jL)))(hl:bs.length<=32)(hb:∀b∈bs,aJ K b.1/\aJ K b.2):
 ∃t,HB [.ref n] S=some (gj t,S)/\(∀t',t=some t'->sZ K t')/\(zT t).Perm (gH bs):=by
 have e1:Nm [some (.ref n),none] S=some (.nx,[some (.ref n),some (.ref S.length)],S++[.lst ((gH bs).map λq=>bf (dN q))]):=by
  unfold Nm;refine dY (vV (j := .enm n) (n:=bs.length) (σ1:=[none,none]) ?_ ?_ (by rw[sizeLine_eq];omega) rfl ((TY hS hn bs.length 0 [none,none] [] rfl (by omega)).trans (by simp))) (dR rfl)
  .unfold pB;rw[aG (d := .ref n) rfl];simp only[bM];rw[hn]
  .show(match S[n]? with|some (.lst xs)=>some xs.length|_=>none)=_;rw[hn];simp
 have W1:WF (S++[.lst ((gH bs).map λq=>bf (dN q))]):=hS.snoc (Gn _ _);have Cm:∀b:Bool,b=decide (bs.length=0)->bZ (eB (bB .Eq) (eN iD (ak (aj 1) au)) (kq 0)) [some (.ref n),some (.ref S.length)] (S++[.lst ((gH bs).map λq=>bf (dN q))])=some (b,S++[.lst ((gH bs).map λq=>bf (dN q))]):=λb hb=>by have:=gk (bI (bC (aK (aG (Z:=[some (.ref n),some (.ref S.length)]) (i:=1) rfl) aZ) (oO (cD (S:=S) (o := .lst ((gH bs).map λq=>bf (dN q)))))) (bG (d := .int 0)) Gf);rw[this,hb];congr 2;rw[cX,mH];simp
 by_cases h0:bs.length=0
 .refine⟨none,?_,λt' e=>(by cases e),by rw[List.eq_nil_of_length_eq_zero h0];exact List.Perm.refl _⟩;apply bY
  .wtm_at "b"
   unfold M8;have e3:Bv [some (.ref n),some (.ref S.length)] (S++[.lst ((gH bs).map λq=>bf (dN q))])=some (.rt (gj none),[some (.ref n),some (.ref S.length)],S++[.lst ((gH bs).map λq=>bf (dN q))]):=by unfold Bv;exact gC (Aq (Cm true (by simp[h0])) (jz rfl bG))
   exact aM e1 (aX (aM e3 eZ))
  .wtm_at "c"
  .rfl
 .obtain⟨t,e2,o2,p2⟩:=znZ (K:=K) 5 (gH bs) S.length (S++[.lst ((gH bs).map λq=>bf (dN q))]) W1 (nP hT) cD (by rw[mH];omega) (by rw[mH];omega) (by rw[mH];omega) (λq hq=>hb _ (V6 hq).2);refine⟨some t,?_,λt' e=>(by cases e;exact o2),p2⟩;apply bY
  .wtm_at "b"
   unfold M8;have e3:Bv [some (.ref n),some (.ref S.length)] (S++[.lst ((gH bs).map λq=>bf (dN q))])=some (.rt (gj (some t)),[some (.ref n),some (.ref S.length)],S++[.lst ((gH bs).map λq=>bf (dN q))]):=by unfold Bv;exact gC (Aq (Cm false (by simp[h0])) (ir rfl (bC (aK (aG rfl) aZ) (cY rfl e2))))
   exact aM e1 (aX (aM e3 eZ))
  .wtm_at "c"
  .exact rm _ _
def Tr.size:Tr->Nat
 |.lf _ _ _=>1
 |.nd _ _ l r=>1+l.size+r.size
def jU(ws:List Tr):Nat:=(ws.map Tr.size).sum
def Vo:∀t:Tr,1<=t.size
 |.lf _ _ _=>bT _
 |.nd _ _ _ _=>by simp[Tr.size];omega
def Vu(a b:List Tr):jU (a++b)=jU a+jU b:=by simp[jU]
theorem V5(ws:List Tr):ws.length<=jU ws:=by
 induction ws with
 |nil=>simp[jU]
 |cons t r ih =>
  have:=Vo t;simp only[jU,iC,List.sum_cons,jb] at *
  omega
def bF(i:Nat):D := .int (i:Nat)
section
variable {K:Nat}{o d:Pt}(ho:aJ K o)(hd:aJ K d)(h0:d≠(0,0,0))(hK:K<=10000)
theorem zmd{x:D}{S3:So}(h:S[n]?=some (.lst (xs++[x])))(h3:S.set n (.lst xs)=S3):mO (.ref n) [] S=some (x,S3):=by unfold mO;simp only;rw[h];simp[h3]
def R0{a b c:O}(hn:n=S.length+1):(S++[a]++[b]).set n c=S++[a]++[c]:=by subst hn;rw[show S.length+1=(S++[a]).length by simp];simp
def KD{a b c:O}(hn:n=S.length):(S++[a]++[b]).set n c=S++[c]++[b]:=by subst hn;simp
def Ft(o d:Pt)(q:Lf):Bool:=(gD o d q.1 q.2.1).isSome
def kY(o d:Pt)(l:List Lf):List Nat:=(l.filter (Ft o d)).map (·.2.2)
theorem zqd:∀{t:Tr},sZ K t->∀q∈t.leaves,qp t.lo q.1/\qp q.2.1 t.hi
 |.lf lo hi i,_,q,hq=>by rw[List.mem_singleton.mp hq];exact⟨⟨Int.le_refl _,Int.le_refl _,Int.le_refl _⟩,Int.le_refl _,Int.le_refl _,Int.le_refl _⟩
 |.nd lo hi l r,h,q,hq=>h.2.2.2 q hq
include h0 in
theorem zl1{t:Tr}(ht:sZ K t)(e:gD o d t.lo t.hi=none):kY o d t.leaves=[]:=by unfold kY;rw[List.filter_eq_nil_iff.mpr λq hq=>?_,List.map_nil];have k:=zqd ht q hq;unfold Ft;rw[zjL h0 k.1 k.2 e];simp
def Vn(a b:List Lf):kY o d (a++b)=kY o d a++kY o d b:=by simp[kY]
def U7{m:Option ((Int×Int)×(Int×Int))}{b:Bool}(h:mD (Fv m)=b):m.isSome = !b:=by cases m<;>cases b<;>first|rfl|cases h
abbrev Ii:TF:=bZ (eB (bB .Gt) (eN iD (ak (aj 3) au)) (kq 0))
include ho hd h0 hK in
theorem zlA:∀(N:Nat) (ws:List Tr) (fs:List Nat),jU ws<=N->N+fs.length<=1000->(∀t∈ws,sZ K t) ->
 ∃fs':List Nat,fs'.Perm (fs++kY o d (ws.flatMap Tr.leaves))/\fs'.length<=fs.length+N/\∀(S:So) (x0 p:Option D),∃p',jK Ii uD [x0,some (.tup [pD o,pD d]),some (.ref S.length),some (.ref (S.length+1)),p] (S++[.lst (fs.map bF)]++[.lst (ws.map bf)]) =
  some (.nx,[x0,some (.tup [pD o,pD d]),some (.ref S.length),some (.ref (S.length+1)),p'],S++[.lst (fs'.map bF)]++[.lst []]):=by
 intro N
 induction N with
 |zero =>
  intro ws fs h1 h2 h3;have hw:ws=[]:=by have:=V5 ws;exact List.eq_nil_of_length_eq_zero (by omega)
  subst hw;refine⟨fs,by simp[kY],by omega,λS x0 p=>⟨p,?_⟩⟩;have l2:(S++[O.lst (fs.map bF)]++[O.lst []])[S.length+1]?=some (.lst []):=by rw[show S.length+1=(S++[O.lst (fs.map bF)]).length by simp];exact cD
  exact Be (gk (bI (bC (aK (aG rfl) aZ) (oO l2)) bG rfl))
 |succ N ih =>
  intro ws fs h1 h2 h3;rcases List.eq_nil_or_concat ws with rfl|⟨ws',t,rfl⟩
  .refine⟨fs,by simp[kY],by omega,λS x0 p=>⟨p,?_⟩⟩;have l2:(S++[O.lst (fs.map bF)]++[O.lst []])[S.length+1]?=some (.lst []):=by rw[show S.length+1=(S++[O.lst (fs.map bF)]).length by simp];exact cD
   exact Be (gk (bI (bC (aK (aG rfl) aZ) (oO l2)) bG rfl))
  .rw[List.concat_eq_append] at *
   have hsz:=Vu ws' [t];have hpt:=Vo t;have ht:jU [t]=t.size:=by simp[jU]
   have hto:=h3 t (by simp);have htl:aJ K t.lo/\aJ K t.hi:=by
    cases t with
    |lf lo hi i=>exact hto
    |nd lo hi l r=>exact hto.1
   have fb:∀fx:EF,∀(Z:Sg) (S:So),fx Z S=some (bf t,S)->gF "Tree" "box" fx Z S=some (.tup [pD t.lo,pD t.hi],S):=λfx Z S h=>by cases t<;>exact rB h rfl rfl
   have turn:∀(S:So) (x0 p:Option D) (r:Fl×Sg×So) (fl:Fl) (σ2:Sg) (S2:So),uD [x0,some (.tup [pD o,pD d]),some (.ref S.length),some (.ref (S.length+1)),p] (S++[.lst (fs.map bF)]++[.lst ((ws'++[t]).map bf)])=some (fl,σ2,S2)->(fl = .nx\/fl = .ct)->jK Ii uD σ2 S2=some r ->
    jK Ii uD [x0,some (.tup [pD o,pD d]),some (.ref S.length),some (.ref (S.length+1)),p] (S++[.lst (fs.map bF)]++[.lst ((ws'++[t]).map bf)])=some r:=λS x0 p r fl σ2 S2 e hf hr=>by
    have l2:(S++[O.lst (fs.map bF)]++[O.lst ((ws'++[t]).map bf)])[S.length+1]?=some (.lst ((ws'++[t]).map bf)):=by rw[show S.length+1=(S++[O.lst (fs.map bF)]).length by simp];exact cD
    refine Ls (σ1:=[]) ?_ e hf hr;have:=gk (bI (bC (aK (aG (Z:=[x0,some (.tup [pD o,pD d]),some (.ref S.length),some (.ref (S.length+1)),p]) (i:=3) rfl) aZ) (oO l2)) (bG (d := .int 0)) Gg);rw[show Ii=bZ (eB (bB .Gt) (eN iD (ak (aj 3) au)) (kq 0)) from rfl,this,lJ];simp
   have st1:∀(S:So) (x0 p:Option D),Oo [x0,some (.tup [pD o,pD d]),some (.ref S.length),some (.ref (S.length+1)),p] (S++[.lst (fs.map bF)]++[.lst ((ws'++[t]).map bf)])=some (.nx,[x0,some (.tup [pD o,pD d]),some (.ref S.length),some (.ref (S.length+1)),some (bf t)],S++[.lst (fs.map bF)]++[.lst (ws'.map bf)]):=λS x0 p=>by
    have l2:(S++[O.lst (fs.map bF)]++[O.lst ((ws'++[t]).map bf)])[S.length+1]?=some (.lst ((ws'++[t]).map bf)):=by rw[show S.length+1=(S++[O.lst (fs.map bF)]).length by simp];exact cD
    unfold Oo;refine dY (x:=bf t) (S1:=S++[.lst (fs.map bF)]++[.lst (ws'.map bf)]) ?_ (dR rfl);unfold uZ;rw[aG (d := .ref (S.length+1)) rfl];simp only[bM];rw[l2];simp only;exact zmd (by rw[l2,tV];rfl) (R0 rfl)
   have sp:=λS=>Wt (lo:=t.lo) (hi:=t.hi) ho hd htl.1 htl.2 h0 hK S;have st2:∀(S:So) (x0:Option D) (b:Bool),mD (Fv (gD o d t.lo t.hi))=b->bZ (eB (bB .Is) (eN (aO 2 wC) (ak (aj 1) (ak (gF "Tree" "box" (aj 4)) au))) (eC .non)) [x0,some (.tup [pD o,pD d]),some (.ref S.length),some (.ref (S.length+1)),some (bf t)] (S++[.lst (fs.map bF)]++[.lst (ws'.map bf)])=some (b,S++[.lst (fs.map bF)]++[.lst (ws'.map bf)]):=λS x0 b hb=>by rw[<-hb];exact gk (bI (bC (aK (aG rfl) (aK (fb _ _ _ (aG rfl)) aZ)) (cY rfl (sp _))) bG yV)
   cases hsp:mD (Fv (gD o d t.lo t.hi)) with
   |true =>
    obtain⟨fs',p1,p2,p3⟩:=ih ws' fs (by omega) (by omega) (λt' h=>h3 t' (by simp[h]));refine⟨fs',?_,by omega,λS x0 p=>?_⟩
    .have hn:gD o d t.lo t.hi=none:=by have:=U7 hsp;cases q:gD o d t.lo t.hi with|none=>rfl|some _=>rw[q] at this;cases this
     rw[List.flatMap_append,Vn,List.flatMap_singleton,zl1 h0 hto hn,List.append_nil];exact p1
    .obtain⟨p',e⟩:=p3 S x0 (some (bf t));refine⟨p',turn S x0 p _ .ct _ _ ?_ (.inr rfl) e⟩;unfold uD;refine aM (st1 S x0 p) (aX (aM (fl := .ct) ?_ KC));unfold zN;exact gK (st2 S x0 true hsp) (jz rfl (aM T7 KC))
   |false =>
    cases t with
    |lf lo hi i =>
     obtain⟨fs',p1,p2,p3⟩:=ih ws' (fs++[i]) (by omega) (by simp;omega) (λt' h=>h3 t' (by simp[h]));refine⟨fs',?_,by simp at p2;omega,λS x0 p=>?_⟩
     .have hs:kY o d (Tr.leaves (.lf lo hi i))=[i]:=by have:Ft o d (lo,hi,i)=true:=U7 hsp;unfold kY Tr.leaves;rw[List.filter_cons_of_pos this];rfl
      rw[List.flatMap_append,Vn,List.flatMap_singleton,hs];rw[f9] at p1;exact p1.trans (List.Perm.append_left _ List.perm_append_comm)
     .obtain⟨p',e⟩:=p3 S x0 (some (bf (.lf lo hi i)));refine⟨p',turn S x0 p _ .nx _ _ ?_ (.inl rfl) e⟩;unfold uD;have s2:zN [x0,some (.tup [pD o,pD d]),some (.ref S.length),some (.ref (S.length+1)),some (bf (.lf lo hi i))] (S++[.lst (fs.map bF)]++[.lst (ws'.map bf)])=some (.nx,[x0,some (.tup [pD o,pD d]),some (.ref S.length),some (.ref (S.length+1)),some (bf (.lf lo hi i))],S++[.lst (fs.map bF)]++[.lst (ws'.map bf)]):=by unfold zN;exact gK (st2 S x0 false hsp) (ir rfl gB)
      have s3:Cg [x0,some (.tup [pD o,pD d]),some (.ref S.length),some (.ref (S.length+1)),some (bf (.lf lo hi i))] (S++[.lst (fs.map bF)]++[.lst (ws'.map bf)])=some (.nx,[x0,some (.tup [pD o,pD d]),some (.ref S.length),some (.ref (S.length+1)),some (bf (.lf lo hi i))],S++[.lst ((fs++[i]).map bF)]++[.lst (ws'.map bf)]):=by unfold Cg;have l1:(S++[O.lst (fs.map bF)]++[O.lst (ws'.map bf)])[S.length]?=some (.lst (fs.map bF)):=fB cD;rw[tV];exact gK (b:=false) (gk (bI (rB (d:=bF i) (aG rfl) rfl rfl) bG yV)) (ir rfl (aM (oN (yU (aG rfl) l1 (aK (rB (d:=bF i) (aG rfl) rfl rfl) aZ) (Mu l1 (by rw[cX,sizeLine_eq];omega) (KD rfl)))) (aX gB)))
      exact aM (st1 S x0 p) (aX (aM s2 (aX (aM s3 (aX gB)))))
    |nd lo hi l r =>
     have hsl:jU (ws'++[l,r])<=N:=by
      have e1:=Vu ws' [l,r];have e2:jU [l,r]=l.size+r.size:=by simp[jU]
      have e3:(Tr.nd lo hi l r).size=1+l.size+r.size:=rfl;omega
     obtain⟨fs',p1,p2,p3⟩:=ih (ws'++[l,r]) fs hsl (by omega) (λt' h=>by
      rcases lB.mp h with h|h
      .exact h3 t' (by simp[h])
      .rcases List.mem_cons.mp h with rfl|h
       .exact hto.2.1
       .rw[List.mem_singleton.mp h];exact hto.2.2.1)
     refine⟨fs',?_,by omega,λS x0 p=>?_⟩
     .have hl:(ws'++[l,r]).flatMap Tr.leaves=(ws'++[Tr.nd lo hi l r]).flatMap Tr.leaves:=by simp[Tr.leaves]
      rw[<-hl];exact p1
     .obtain⟨p',e⟩:=p3 S x0 (some (bf (.nd lo hi l r)));refine⟨p',turn S x0 p _ .nx _ _ ?_ (.inl rfl) e⟩;unfold uD;have s2:zN [x0,some (.tup [pD o,pD d]),some (.ref S.length),some (.ref (S.length+1)),some (bf (.nd lo hi l r))] (S++[.lst (fs.map bF)]++[.lst (ws'.map bf)])=some (.nx,[x0,some (.tup [pD o,pD d]),some (.ref S.length),some (.ref (S.length+1)),some (bf (.nd lo hi l r))],S++[.lst (fs.map bF)]++[.lst (ws'.map bf)]):=by unfold zN;exact gK (st2 S x0 false hsp) (ir rfl gB)
      have s3:Cg [x0,some (.tup [pD o,pD d]),some (.ref S.length),some (.ref (S.length+1)),some (bf (.nd lo hi l r))] (S++[.lst (fs.map bF)]++[.lst (ws'.map bf)])=some (.nx,[x0,some (.tup [pD o,pD d]),some (.ref S.length),some (.ref (S.length+1)),some (bf (.nd lo hi l r))],S++[.lst (fs.map bF)]++[.lst ((ws'++[l,r]).map bf)]):=by
       unfold Cg;have l2:(S++[O.lst (fs.map bF)]++[O.lst (ws'.map bf)])[S.length+1]?=some (.lst (ws'.map bf)):=by rw[show S.length+1=(S++[O.lst (fs.map bF)]).length by simp];exact cD
       have hx:yQ (.ref (S.length+1)) [.tup [bf l,bf r]] (S++[.lst (fs.map bF)]++[.lst (ws'.map bf)])=some (.non,S++[.lst (fs.map bF)]++[.lst ((ws'++[l,r]).map bf)]):=by have hlw:=V5 ws';unfold yQ;simp only;rw[l2];simp only;rw[if_pos (by rw[cX,sizeLine_eq];simp;omega),R0 rfl,tV];rfl
       exact gK (b:=true) (gk (bI (rB (d := .non) (aG rfl) rfl rfl) bG yV)) (jz rfl (aM (oN (yU (aG rfl) l2 (aK (rB (d := .tup [bf l,bf r]) (aG rfl) rfl rfl) aZ) hx)) (aX gB)))
      exact aM (st1 S x0 p) (aX (aM s2 (aX (aM s3 (aX gB)))))
end
def MT:∀t:Tr,t.size+1=2*t.leaves.length
 |.lf _ _ _=>rfl
 |.nd _ _ l r=>by have h1:=MT l;have h2:=MT r;simp only[Tr.size,Tr.leaves,jE];omega
theorem GQ(n:Nat)(fs:List Nat):O.lo n (.lst (fs.map bF))=true:=by show cL n _=true;rw[jB];intro x hx;obtain⟨i,_,rfl⟩:=List.mem_map.mp hx;simp[bF,D.lo]
section
variable {K:Nat}{o d:Pt}(ho:aJ K o)(hd:aJ K d)(h0:d≠(0,0,0))
include ho hd h0 in
theorem zlT(hK:K<=10000){t:Option Tr}(ht:∀t',t=some t'->sZ K t'/\t'.leaves.length<=40):
 ∃fs:List Nat,fs.Perm (kY o d (zT t))/\fs.length<=100/\∀S,WF S->HD [gj t,bL o d] S=some (.ref S.length,S++[.lst (fs.map bF)]++[.lst []]):=by
 have hsz:jU t.toList<=100:=by
  cases t with
  |none=>simp[jU]
  |some t' =>
   have h1:=MT t';have h2:=(ht t' rfl).2;simp[jU];omega
 obtain⟨fs,p1,p2,p3⟩:=zlA ho hd h0 hK 100 t.toList [] hsz (by simp) (λt' h=>by
  cases t with
  |none=>simp at h
  |some t2 =>
   have:t'=t2:=by simpa using h
   subst this;exact(ht t' rfl).1)
 refine⟨fs,?_,by simpa using p2,λS hS=>?_⟩
 .have e:(t.toList.flatMap Tr.leaves)=zT t:=by cases t<;>simp[zT]
  rw[vq,e] at p1;exact p1
 .obtain⟨p',e⟩:=p3 S (some (gj t)) none;have a1:Ov [some (gj t),some (bL o d),none,none,none] S=some (.nx,[some (gj t),some (bL o d),some (.ref S.length),none,none],S++[.lst []]):=by unfold Ov;exact dY (bC aZ (v7 (Nat.zero_le _))) (dR rfl)
  have a2:Ow [some (gj t),some (bL o d),some (.ref S.length),none,none] (S++[.lst []])=some (.nx,[some (gj t),some (bL o d),some (.ref S.length),some (.ref (S.length+1)),none],S++[.lst []]++[.lst (t.toList.map bf)]):=by
   unfold Ow;have hlen:(S++[O.lst []]).length=S.length+1:=by simp
   rw[<-hlen];cases t with
   |none=>exact dY (Aq (b:=true) (gk (bI (aG rfl) bG yV)) (jz rfl (bC aZ (v7 (Nat.zero_le _))))) (dR rfl)
   |some t' =>
    have hn:mD (gj (some t'))=false:=by cases t'<;>rfl
    refine dY (Aq (b:=false) (gk ?_) (ir rfl (bC (aK (aG rfl) aZ) (v7 (by show 1<=sizeLine;decide))))) (dR rfl);rw[<-hn];exact bI (aG rfl) bG yV
  have a3:Xz [some (gj t),some (bL o d),some (.ref S.length),some (.ref (S.length+1)),none] (S++[.lst []]++[.lst (t.toList.map bf)])=some (.nx,[some (gj t),some (bL o d),some (.ref S.length),some (.ref (S.length+1)),p'],S++[.lst (fs.map bF)]++[.lst []]):=e;have a4:Ox [some (gj t),some (bL o d),some (.ref S.length),some (.ref (S.length+1)),p'] (S++[.lst (fs.map bF)]++[.lst []])=some (.rt (.ref S.length),[some (gj t),some (bL o d),some (.ref S.length),some (.ref (S.length+1)),p'],S++[.lst (fs.map bF)]++[.lst []]):=by unfold Ox;exact gC (aG rfl)
  refine uw (Z':=[some (gj t),some (bL o d),some (.ref S.length),some (.ref (S.length+1)),p']) ?_ ?_ (by simp) (by simp[D.lo]) ((hS.snoc (GQ _ _)).snoc rfl)
  .wtm_at "b"
   unfold Xo;exact aM a1 (aX (aM a2 (aX (aM a3 (aX (aM a4 eZ))))))
  .intro h;simp[D.lo] at h
structure ju(S:So)(c:Nat)(shs:List Sh)(t:Option Tr):Prop where
 ins:S[c]?=some (.ins "Scene" [("kept",.ref (c+1)),("tree",gj t)])
 kept:S[c+1]?=some (.lst (shs.map cI))
structure mW(K:Nat)(shs:List Sh)(t:Option Tr):Prop where
 sh:∀s∈shs,kj K s
 tree:∀t',t=some t'->sZ K t'/\t'.leaves.length<=40
 lf:∃g:Sh->Pt×Pt,(∀s∈shs,lU s.pts (g s).1 (g s).2)/\(zT t).Perm (gH (shs.map g))
theorem ju.app{t:Option Tr}(h:ju S c shs t)(G:So):ju (S++G) c shs t:=by
 have g:∀{n:Nat} {o:O},S[n]?=some o->(S++G)[n]?=some o:=λ{n o} e=>by rw[lW (fj.mp e).1];exact e
 exact⟨g h.ins,g h.kept⟩
abbrev d7:=(Int×Int)×Nat
noncomputable def bH(h:d7):D := .tup [rD h.1,bF h.2]
def cR(o d:Pt)(shs:List Sh)(i:Nat):Option d7:=(shs[i]?).bind λs=>(iw o d s).map λp=>(p,i)
def pL(o d:Pt)(shs:List Sh):List d7:=(List.range shs.length).filterMap (cR o d shs)
theorem zkA(bs:List (Pt×Pt)):(gH bs).map (·.2.2)=List.range bs.length:=by
 apply List.ext_getElem?;intro i;by_cases h:i<bs.length
 .rw[gR,Ht h,List.getElem?_range h];rfl
 .rw[kh (by rw[cX,mH];omega),kh (by rw[List.length_range];omega)]
theorem Tv{α β:Type}{p:α->Bool}{f:α->Nat}{h:Nat->Option β}:∀l:List α,(∀q∈l,p q=false->h (f q)=none)->((l.filter p).map f).filterMap h=(l.map f).filterMap h
 |[],_=>rfl
 |q::r,k=>by
  have ih:=Tv r λx hx=>k x (cM _ hx);cases e:p q with
  |true=>rw[List.filter_cons_of_pos e,iC,iC,List.filterMap_cons,List.filterMap_cons,ih]
  |false=>rw[List.filter_cons_of_neg (by simp[e]),iC,List.filterMap_cons,k q (fG ..) e,ih]
include h0 in
theorem zl2{g:Sh->Pt×Pt}(hg:∀s∈shs,lU s.pts (g s).1 (g s).2):(kY o d (gH (shs.map g))).filterMap (cR o d shs)=pL o d shs:=by
 unfold kY pL;rw[Tv,zkA,cX];intro q hq e;obtain⟨i,hi,rfl⟩:=List.getElem_of_mem hq;have hi':i<(shs.map g).length:=by rw[<-mH];exact hi
 have hi2:i<shs.length:=by simpa using hi'
 have e2:=Ht hi';rw[fM hi] at e2;have e3:=Option.some.inj e2;rw[e3] at e ⊢;simp only[List.getElem_map] at e;unfold cR;rw[fM hi2];have:iw o d shs[i]=none:=Classical.byContradiction λc=>by
  have:=zoa h0 (hg _ (List.getElem_mem hi2)) c;unfold Ft at e;simp only at e;cases q:gD o d (g shs[i]).1 (g shs[i]).2 with
  |none=>exact this q
  |some _=>rw[q] at e;cases e
 show(iw o d shs[i]).map _=none;rw[this];rfl
theorem ux(n:Nat)(hs:List d7):O.lo n (.lst (hs.map bH))=true:=by show cL n _=true;rw[jB];intro x hx;obtain⟨i,_,rfl⟩:=List.mem_map.mp hx;simp[bH,bF,D.lo,cL]
include ho hd h0 in
theorem zn2(hK:K<=1500){t:Option Tr}(ok:mW K shs t):
 ∃fs:List Nat,(fs.filterMap (cR o d shs)).Perm (pL o d shs)/\fs.length<=100/\∀S c,WF S->ju S c shs t->uE [.ref c,bL o d] S=some (.ref S.length,S++[.lst ((fs.filterMap (cR o d shs)).map bH)]++[.lst (fs.map bF)]++[.lst []]):=by
 obtain⟨fs,p1,p2,p3⟩:=zlT ho hd h0 (by omega) ok.tree;obtain⟨g,hg,hlf⟩:=ok.lf;have p4:fs.Perm (kY o d (gH (shs.map g))):=p1.trans ((hlf.filter _).map _);have hfs:∀i∈fs,i<shs.length:=λi hi=>by obtain⟨q,hq,rfl⟩:=List.mem_map.mp (p4.mem_iff.mp hi);have:=(V6 (List.mem_filter.mp hq).1).1;simpa using this
 refine⟨fs,by rw[<-zl2 h0 hg];exact p4.filterMap _,p2,λS c hS sc=>?_⟩;have hrs:=Xv (o:=o) h0 S;have a1:HY [some (.ref c),some (bL o d),none,none,none] S=some (.nx,[some (.ref c),some (bL o d),none,none,none],S):=by unfold HY;exact oN (bC (aK (aG rfl) aZ) (cY rfl hrs))
 have a2:Nu [some (.ref c),some (bL o d),none,none,none] S=some (.nx,[some (.ref c),some (bL o d),some (.ref S.length),none,none],S++[.lst []]):=by unfold Nu;exact dY (bC aZ (v7 (Nat.zero_le _))) (dR rfl)
 have W1:WF (S++[.lst []]):=hS.snoc rfl;have sc1:=sc.app [.lst []];have it:fP (eN (aO 2 HD) (ak (gF "Scene" "tree" (aj 0)) (ak (aj 1) au))) [some (.ref c),some (bL o d),some (.ref S.length),none,none] (S++[.lst []])=some (.lst (S.length+1),S++[.lst []]++[.lst (fs.map bF)]++[.lst []]):=by
  have hlen:(S++[O.lst []]).length=S.length+1:=by simp
  rw[<-hlen];exact qb (bC (aK (KR (aG rfl) sc1.ins rfl) (aK (aG rfl) aZ)) (cY rfl (p3 _ W1))) (fB cD)
 have inv:=GX (nx:=dJ (.lst (S.length+1))) (g:=aL 3) (f:=zL) (xs:=fs.map bF)
  (λi Z S'=>∃a b,Z=[some (.ref c),some (bL o d),some (.ref S.length),a,b]/\S'=S++[.lst (((fs.take i).filterMap (cR o d shs)).map bH)]++[.lst (fs.map bF)]++[.lst []])
  (λi Z S' ⟨a,b,_,e⟩=>by
   subst e;have l:(S++[O.lst (((fs.take i).filterMap (cR o d shs)).map bH)]++[O.lst (fs.map bF)]++[O.lst []])[S.length+1]?=some (.lst (fs.map bF)):=by rw[show S.length+1=(S++[O.lst (((fs.take i).filterMap (cR o d shs)).map bH)]).length by simp];exact fB cD
   unfold dJ;simp only;rw[l])
  (λi dd Z S' hi ⟨a,b,e1,e2⟩=>?_) fs.length 0 [some (.ref c),some (bL o d),some (.ref S.length),none,none] (S++[.lst []]++[.lst (fs.map bF)]++[.lst []]) ⟨none,none,rfl,rfl⟩ (by simp)
 .obtain⟨Z',S',e,a,b,rfl,rfl⟩:=inv;rw[cX,pO] at e;have a3:Nv [some (.ref c),some (bL o d),some (.ref S.length),none,none] (S++[.lst []])=some (.nx,[some (.ref c),some (bL o d),some (.ref S.length),a,b],S++[.lst ((fs.filterMap (cR o d shs)).map bH)]++[.lst (fs.map bF)]++[.lst []]):=by
   unfold Nv;refine rz it (n:=fs.length) ?_ e;have l:(S++[O.lst []]++[O.lst (fs.map bF)]++[O.lst []])[S.length+1]?=some (.lst (fs.map bF)):=by rw[show S.length+1=(S++[O.lst []]).length by simp];exact fB cD
   unfold mU;simp only;rw[l];simp
  have a4:Nx [some (.ref c),some (bL o d),some (.ref S.length),a,b] (S++[.lst ((fs.filterMap (cR o d shs)).map bH)]++[.lst (fs.map bF)]++[.lst []])=some (.rt (.ref S.length),[some (.ref c),some (bL o d),some (.ref S.length),a,b],S++[.lst ((fs.filterMap (cR o d shs)).map bH)]++[.lst (fs.map bF)]++[.lst []]):=by unfold Nx;exact gC (aG rfl)
  refine uw (Z':=[some (.ref c),some (bL o d),some (.ref S.length),a,b]) ?_ ?_ (by simp) (by simp[D.lo]) (((hS.snoc (ux _ _)).snoc (GQ _ _)).snoc rfl)
  .wtm_at "b"
   unfold zG;exact aM a1 (aX (aM a2 (aX (aM a3 (aX (aM a4 eZ))))))
  .intro h;simp[D.lo] at h
 .subst e1 e2;have hi':i<fs.length:=by have:=(fj.mp hi).1;simpa using this
  have hd':dd=bF fs[i]:=by rw[gR,fM hi'] at hi;exact(Option.some.inj hi).symm
  subst hd';have hj:=hfs fs[i] (List.getElem_mem hi');have hWS:WF (S++[.lst (((fs.take i).filterMap (cR o d shs)).map bH)]++[.lst (fs.map bF)]++[.lst []]):=((hS.snoc (ux _ _)).snoc (GQ _ _)).snoc rfl;have X8:ju (S++[.lst (((fs.take i).filterMap (cR o d shs)).map bH)]++[.lst (fs.map bF)]++[.lst []]) c shs t:=by rw[f9,f9];exact sc.app _
  have tm:=Vw ho hd (ok.sh _ (List.getElem_mem hj)) h0 hK _ hWS;have hix:fX (shs.map cI) ((fs[i]:Nat):Int)=some (cI shs[fs[i]]):=Gq (by simp[hj]);have b1:Oz [some (.ref c),some (bL o d),some (.ref S.length),some (bF fs[i]),b] (S++[.lst (((fs.take i).filterMap (cR o d shs)).map bH)]++[.lst (fs.map bF)]++[.lst []])=some (.nx,[some (.ref c),some (bL o d),some (.ref S.length),some (bF fs[i]),some (tD (iw o d shs[fs[i]]))],S++[.lst (((fs.take i).filterMap (cR o d shs)).map bH)]++[.lst (fs.map bF)]++[.lst []]):=by unfold Oz;exact dY (bC (aK (aG rfl) (aK (bI (KR (aG rfl) X8.ins rfl) (aG rfl) (vZ X8.kept hix)) aZ)) (cY rfl tm)) (dR rfl)
  have tk:fs.take (i+1)=fs.take i++[fs[i]]:=by rw[List.take_add_one,fM hi'];rfl
  have hat:cR o d shs fs[i]=(iw o d shs[fs[i]]).map λp=>(p,fs[i]):=by unfold cR;rw[fM hj];rfl
  cases ht:iw o d shs[fs[i]] with
  |none =>
   rw[ht] at b1 hat
   have b2:Cd [some (.ref c),some (bL o d),some (.ref S.length),some (bF fs[i]),some (tD none)] (S++[.lst (((fs.take i).filterMap (cR o d shs)).map bH)]++[.lst (fs.map bF)]++[.lst []])=some (.nx,[some (.ref c),some (bL o d),some (.ref S.length),some (bF fs[i]),some (tD none)],S++[.lst (((fs.take i).filterMap (cR o d shs)).map bH)]++[.lst (fs.map bF)]++[.lst []]):=by unfold Cd;exact gK (b:=false) (gk (bI (aG rfl) bG Bk)) (ir rfl gB)
   have b3:zL [some (.ref c),some (bL o d),some (.ref S.length),some (bF fs[i]),b] (S++[.lst (((fs.take i).filterMap (cR o d shs)).map bH)]++[.lst (fs.map bF)]++[.lst []])=some (.nx,[some (.ref c),some (bL o d),some (.ref S.length),some (bF fs[i]),some (tD none)],S++[.lst (((fs.take i).filterMap (cR o d shs)).map bH)]++[.lst (fs.map bF)]++[.lst []]):=by unfold zL;exact aM b1 (aX (aM b2 (aX gB)))
   refine⟨_,_,.nx,_,_,dR rfl,b3,.inl rfl,some (bF fs[i]),some (tD none),rfl,?_⟩
   .rw[tk,List.filterMap_append];simp[hat]
  |some p =>
   rw[ht] at b1 hat
   have b2:Cd [some (.ref c),some (bL o d),some (.ref S.length),some (bF fs[i]),some (tD (some p))] (S++[.lst (((fs.take i).filterMap (cR o d shs)).map bH)]++[.lst (fs.map bF)]++[.lst []])=some (.nx,[some (.ref c),some (bL o d),some (.ref S.length),some (bF fs[i]),some (tD (some p))],S++[.lst (((fs.take i).filterMap (cR o d shs)).map bH++[bH (p,fs[i])])]++[.lst (fs.map bF)]++[.lst []]):=by
    unfold Cd;have l1:(S++[O.lst (((fs.take i).filterMap (cR o d shs)).map bH)]++[O.lst (fs.map bF)]++[O.lst []])[S.length]?=some (.lst (((fs.take i).filterMap (cR o d shs)).map bH)):=fB (fB cD);refine gK (b:=true) (gk (bI (aG rfl) bG Bk)) (jz rfl (aM (oN (yU (aG rfl) l1 (aK (bC (aK (aG rfl) (aK (aG rfl) aZ)) (jX (by show 2<=sizeLine;decide))) aZ) (Mu l1 ?_ ?_))) (aX gB)))
    .rw[cX,sizeLine_eq];have:=List.length_filterMap_le (cR o d shs) (fs.take i);have h2:(fs.take i).length<=100:=by simp;omega
     omega
    .rw[List.set_append_left _ _ (by simp),List.set_append_left _ _ (by simp)];simp[bH,tD]
   have b3:zL [some (.ref c),some (bL o d),some (.ref S.length),some (bF fs[i]),b] (S++[.lst (((fs.take i).filterMap (cR o d shs)).map bH)]++[.lst (fs.map bF)]++[.lst []])=some (.nx,[some (.ref c),some (bL o d),some (.ref S.length),some (bF fs[i]),some (tD (some p))],S++[.lst (((fs.take i).filterMap (cR o d shs)).map bH++[bH (p,fs[i])])]++[.lst (fs.map bF)]++[.lst []]):=by unfold zL;exact aM b1 (aX (aM b2 (aX gB)))
   refine⟨_,_,.nx,_,_,dR rfl,b3,.inl rfl,some (bF fs[i]),some (tD (some p)),rfl,?_⟩
   .rw[tk,List.filterMap_append];simp[hat]
end
open Classical in
def soon(h b:d7):Bool:=decide (h.1.1*b.1.2<b.1.1*h.1.2)||(decide (rD h.1=rD b.1)&&decide ((h.2:Int)<(b.2:Int)))
structure z8(k:Nat)(h:d7):Prop where
 a:Bd k h.1.1
 b:Bd k h.1.2
def jf(h:d7):Prop:=0<h.1.2/\dG h.1.1 h.1.2=h.1
theorem zf{h b:d7}:soon h b=true↔eH h.1 b.1\/(h.1=b.1/\h.2<b.2):=by
 have e:rD h.1=rD b.1↔h.1=b.1:=⟨λq=>by
  obtain⟨⟨x,y⟩,i⟩:=h;obtain⟨⟨z,w⟩,j⟩:=b;simp[rD] at q;simp[q.1,q.2],λq=>by rw[q]⟩
 unfold soon eH;simp only[lV,cG,tL];exact or_congr Iff.rfl (and_congr e Int.ofNat_lt)
def Kp{a b:d7}(ha:jf a)(hb:jf b)(h1:leQ a.1 b.1)(h2:leQ b.1 a.1):a.1=b.1:=by rw[<-ha.2,<-hb.2];exact ziX ha.1 hb.1 h1 h2
def jD(x y:d7):Prop:=¬soon y x=true
theorem Zr{x y z:d7}(gx:jf x)(gy:jf y)(gz:jf z)(h1:jD x y)(h2:jD y z):jD x z:=by
 unfold jD at *
 rw[zf] at *
 have q1:leQ x.1 y.1:=p7 λc=>h1 (.inl c);have q2:leQ y.1 z.1:=p7 λc=>h2 (.inl c)
 rintro(c|⟨c1,c2⟩)
 .exact Vh (zA gx.1 gy.1 gz.1 q1 q2) c
 .rw[c1] at q2;have e:=Kp gx gy q1 q2;have k1:¬y.2<x.2:=λc=>h1 (.inr ⟨e.symm,c⟩);have k2:¬z.2<y.2:=λc=>h2 (.inr ⟨c1.trans e,c⟩);omega
theorem zmt{x y:d7}(gx:jf x)(gy:jf y)(h1:jD x y)(h2:jD y x):x=y:=by
 unfold jD at *
 rw[zf] at *
 have e:=Kp gx gy (p7 λc=>h1 (.inl c)) (p7 λc=>h2 (.inl c));have k1:¬y.2<x.2:=λc=>h1 (.inr ⟨e.symm,c⟩);have k2:¬x.2<y.2:=λc=>h2 (.inr ⟨e,c⟩);exact Prod.ext e (by omega)
theorem zpa{x y:d7}(h:soon y x=true):jD y x:=by
 unfold jD;rw[zf] at *
 unfold eH at *
 rcases h with h|⟨h1,h2⟩
 .rintro(c|⟨c,_⟩)
  .omega
  .rw[c] at h;omega
 .rintro(c|⟨_,c⟩)
  .rw[h1] at c;omega
  .omega
section
variable {K:Nat}{o d:Pt}(ho:aJ K o)(hd:aJ K d)(h0:d≠(0,0,0))
theorem Bm{h:d7}:cR o d shs i=some h↔∃s p,shs[i]?=some s/\iw o d s=some p/\h=(p,i):=by
 unfold cR;simp only[aU,aR];constructor
 .rintro⟨s,e1,p,e2,rfl⟩;exact⟨s,p,e1,e2,rfl⟩
 .rintro⟨s,p,e1,e2,rfl⟩;exact⟨s,e1,p,e2,rfl⟩
include h0 in
def LK{h:d7}(e:cR o d shs i=some h):jf h:=by obtain⟨s,p,e1,e2,rfl⟩:=Bm.mp e;exact⟨(R9 h0 s p e2).2.1,zqe o d s p e2⟩
include ho hd h0 in
theorem zrH{t:Option Tr}(ok:mW K shs t){h:d7}(e:cR o d shs i=some h):z8 (4*K+10) h/\h.2=i:=by unfold cR at e;simp only[aU,aR] at e;obtain⟨s,e1,p,e2,rfl⟩:=e;have b:=JS ho hd (ok.sh s (List.mem_of_getElem? e1)) h0 p e2;exact⟨⟨b.2.2.1,b.2.2.2⟩,rfl⟩
end
theorem J4(n:Nat)(shs:List Sh):O.lo n (.lst (shs.map cI))=true:=by show cL n _=true;rw[jB];intro x hx;obtain⟨s,_,rfl⟩:=List.mem_map.mp hx;cases s<;>simp[cI,D.lo,cL]
theorem RM(n:Nat)(bs:List (Pt×Pt)):O.lo n (.lst (bs.map jL))=true:=by show cL n _=true;rw[jB];intro x hx;obtain⟨s,_,rfl⟩:=List.mem_map.mp hx;simp[D.lo,cL]
theorem zlV{m:Nat}(hS:WF S)(hT:jd "tree_over" S=true)(hm:S[m]?=some (.lst (shs.map cI)))(hl:shs.length<=32)(hk:∀s∈shs,kj K s):
 ∃(t:Option Tr) (bs:List (Pt×Pt)),mW K shs t/\HN [.ref S.length,.ref m] (S++[.ins "Scene" []])=some (.non,S++[.ins "Scene" [("kept",.ref (S.length+1)),("tree",gj t)]]++[.lst (shs.map cI)]++[.lst (bs.map jL)]) /\
  WF (S++[.ins "Scene" [("kept",.ref (S.length+1)),("tree",gj t)]]++[.lst (shs.map cI)]++[.lst (bs.map jL)]):=by
 classical
 obtain⟨g,hg0⟩:∃g:Sh->Pt×Pt,∀s∈shs,lU s.pts (g s).1 (g s).2/\aJ K (g s).1/\aJ K (g s).2/\∀S,WF S->wg [cI s] S=some (jL (g s),S):=by
  have ex:∀s∈shs,∃b:Pt×Pt,lU s.pts b.1 b.2/\aJ K b.1/\aJ K b.2/\∀S,WF S->wg [cI s] S=some (jL b,S):=λs hs=>by obtain⟨lo,hi,b0,b1,b2,e⟩:=zn3 (hk s hs);exact⟨(lo,hi),b0,b1,b2,e⟩
  refine⟨λs=>if h:s∈shs then(ex s h).choose else((0,0,0),(0,0,0)),λs hs=>?_⟩;simp only[dif_pos hs];exact(ex s hs).choose_spec
 have hg:=λs hs=>(hg0 s hs).2;have wf:∀(fs:List (Str×D)) (G:So),cL (S.length+1+G.length) (fs.map (·.2))=true->(∀o∈G,O.lo (S.length+1+G.length) o=true)->WF (S++[.ins "Scene" fs]++G):=λfs G h1 h2 o ho=>by
  have hlen:(S++[O.ins "Scene" fs]++G).length=S.length+1+G.length:=by rw[jE,jE];rfl
  rw[hlen];rcases lB.mp ho with ho|ho
  .rcases lB.mp ho with ho|ho
   .exact O.lo_mono (by omega) (hS o ho)
   .rw[List.mem_singleton.mp ho];exact h1
  .exact h2 o ho
 have Ea:(S++[O.ins "Scene" []]).length=S.length+1:=by simp
 have W2:WF (S++[.ins "Scene" [("kept",.ref (S.length+1))]]++[.lst (shs.map cI)]):=wf _ [_] (by simp[cL,D.lo]) (λo ho=>by rw[List.mem_singleton.mp ho];exact J4 _ _);have W3:WF (S++[.ins "Scene" [("kept",.ref (S.length+1))]]++[.lst (shs.map cI)]++[.lst ((shs.map g).map jL)]):=W2.snoc (RM _ _);have T3:jd "tree_over" (S++[.ins "Scene" [("kept",.ref (S.length+1))]]++[.lst (shs.map cI)]++[.lst ((shs.map g).map jL)])=true:=by rw[f9,f9];exact nP hT
 obtain⟨t,e1,e2,e3⟩:=zlU (K:=K) (bs:=shs.map g) W3 T3 cD (by simpa using hl) (λb hb=>by
  obtain⟨s,hs,rfl⟩:=List.mem_map.mp hb;exact⟨(hg s hs).1,(hg s hs).2.1⟩)
 have Wf:WF (S++[.ins "Scene" [("kept",.ref (S.length+1)),("tree",gj t)]]++[.lst (shs.map cI)]++[.lst ((shs.map g).map jL)]):=by
  rw[f9 _ [O.lst (shs.map cI)]];refine wf _ [_,_] ?_ λo ho=>?_
  .simp[cL,D.lo,Zv]
  .rcases List.mem_cons.mp ho with rfl|ho
   .exact J4 _ _
   .rw[List.mem_singleton.mp ho];exact RM _ _
 refine⟨t,shs.map g,⟨hk,λt' e=>⟨e2 t' e,?_⟩,g,λs hs=>(hg0 s hs).1,e3⟩,?_,Wf⟩
 .have:=e3.length_eq;rw[e,mH,cX] at this;have h2:(zT (some t')).length=t'.leaves.length:=rfl;omega
 .apply Tw (Z':=[some (.ref S.length),some (.ref m)])
  .wtm_at "b"
   unfold Ou;have s1:oK "Scene" "kept" (aj 0) (eN qO (ak (aj 1) au)) [some (.ref S.length),some (.ref m)] (S++[.ins "Scene" []])=some (.nx,[some (.ref S.length),some (.ref m)],S++[.ins "Scene" [("kept",.ref (S.length+1))]]++[.lst (shs.map cI)]):=by rw[<-Ea];exact Bg (bC (aK (aG rfl) aZ) (Uu (fB hm))) (aG rfl) (fB cD) (show(0:Nat)<3 by decide) (KD rfl)
   have k2:(S++[O.ins "Scene" [("kept",.ref (S.length+1))]]++[O.lst (shs.map cI)])[S.length+1]?=some (.lst (shs.map cI)):=by
    have:∀x:O,(S++[x]++[O.lst (shs.map cI)])[S.length+1]?=some (.lst (shs.map cI)):=λx=>by rw[show S.length+1=(S++[x]).length by simp];exact cD
    exact this _
   have s2:eN (aO 1 HB) (ak (eV (fP (gF "Scene" "kept" (aj 0))) (aL 0) d8 (eN (aO 1 wg) (ak (aj 0) au)) [none]) au) [some (.ref S.length),some (.ref m)] (S++[.ins "Scene" [("kept",.ref (S.length+1))]]++[.lst (shs.map cI)])=some (gj t,S++[.ins "Scene" [("kept",.ref (S.length+1))]]++[.lst (shs.map cI)]++[.lst ((shs.map g).map jL)]):=by rw[List.map_map] at e1 ⊢;refine bC (aK (Bl shs cI (λs=>jL (g s)) (qb (KR (aG rfl) (fB cD) rfl) k2) k2 (by omega) rfl λs hs=>?_) aZ) (cY rfl e1);exact bC (aK (aG rfl) aZ) (cY rfl ((hg s hs).2.2 _ W2))
   refine aM s1 (aX (aM (Bg s2 (aG rfl) (fB (fB cD)) (show(1:Nat)<3 by decide) ?_) (aX gB)));rw[List.set_append_left _ _ (by simp),KD rfl];rfl
  .intro e;have:=congrArg (λl=>l[S.length]?) e;simp at this
  .simp
  .exact Wf
def fW(m:Int):Pt:=(m.fmod 9 - 4,(m.fdiv 9).fmod 9 - 4,(m.fdiv 81).fmod 9 - 4)
theorem zj(m:Int):aJ 5 (fW m):=by
 have f:∀x:Int,Bd 5 (x.fmod 9 - 4):=λx=>by have h1:=qD x (show(0:Int)<9 by decide);have h2:=tU x (show(0:Int)<9 by decide);unfold Bd;omega
 exact⟨f _,f _,f _⟩
def uy(m:Int)(S:So):rH [.int m] S=some (pD (fW m),S):=by
 apply bY
 .wtm_at "b"
  unfold Wv;wtm_at "a"
 .wtm_at "c"
 .rfl
def vR(ce:Int):Int:=1+ce.fmod (1*2 ^ (50:Int).toNat)
theorem Lw(ce:Int):Bd 51 (vR ce)/\0<vR ce:=by
 have h1:=qD ce (show(0:Int)<1*2 ^ (50:Int).toNat by decide);have h2:=tU ce (show(0:Int)<1*2 ^ (50:Int).toNat by decide);have e:(1:Int)*2 ^ (50:Int).toNat=1125899906842624:=by decide
 unfold vR;rw[e] at h1 h2;rw[e];unfold Bd;have:(2:Nat) ^ 51=2251799813685248:=by decide
 omega
noncomputable def iM(ce:Int)(p:Pt):Pt:=if ce.fmod 3=0 then p else(p.1*vR ce+ce.fmod 1000003,p.2.1*vR ce - ce.fmod 997,p.2.2*vR ce+5)
theorem RW{ce:Int}(h:aJ k p):aJ (k+60) (iM ce p):=by
 unfold iM;split
 .exact h.le (by omega)
 .have s:=(Lw ce).1;have m1:Bd 20 (ce.fmod 1000003):=(Bd.fmod (by decide)).le (by decide);have m2:Bd 20 (ce.fmod 997):=(Bd.fmod (by decide)).le (by decide);have m3:Bd 20 5:=(Bd.lit 5).le (by decide);exact⟨((h.1.mul s).add m1).le (by omega),((h.2.1.mul s).sub m2).le (by omega),((h.2.2.mul s).add m3).le (by omega)⟩
theorem Ke(bp:aJ k p)(hk:k<=100)(ce:Int)(S:So):zH [pD p,.int ce] S=some (pD (iM ce p),S):=by
 obtain⟨x,y,z⟩:=p;obtain⟨bx,by',bz⟩:=bp;simp only at bx by' bz;have bs:Bd 51 (1+ce.fmod (1*2 ^ (50:Int).toNat)):=(Lw ce).1;by_cases h3:ce.fmod 3=0
 .unfold iM;rw[if_pos h3];apply bY
  .wtm_at "b"
   unfold NZ;wtm_at "a"
  .wtm_at "c"
  .rfl
 .unfold iM;rw[if_neg h3];unfold vR;apply bY
  .wtm_at "b"
   unfold NZ;wtm_at "a"
  .wtm_at "c"
  .rfl
theorem zqW{ce:Int}{q:Pt}(h:p.1<=q.1/\p.2.1<=q.2.1/\p.2.2<=q.2.2):(iM ce p).1<=(iM ce q).1/\(iM ce p).2.1<=(iM ce q).2.1/\(iM ce p).2.2<=(iM ce q).2.2:=by
 unfold iM;split
 .exact h
 .have s:=Int.le_of_lt (Lw ce).2;have a:=Int.mul_le_mul_of_nonneg_right h.1 s;have b:=Int.mul_le_mul_of_nonneg_right h.2.1 s;have c:=Int.mul_le_mul_of_nonneg_right h.2.2 s;refine⟨?_,?_,?_⟩<;>simp only<;>omega
def lA(ns:List Int)(S:So):Prop:=S[0]?=some (.frz (ns.map .int))
def lA.app(h:lA ns S)(G:So):lA ns (S++G):=by
 unfold lA at *
 rw[lW (fj.mp h).1];exact h
theorem zlP(hn:ns.length<=63)(k:Int):∃s:Sh,kj 8 s/\∀S,lA ns S->Oh [.ref 0,.int k] S=some (cI s,S):=by
 have bm:∀x:Int,cO (k.fmod 3) (x.fmod 2)=true:=λx=>wj (k:=2) (l:=2) ((Bd.fmod (by decide)).le (by decide)) ((Bd.fmod (by decide)).le (by decide)) (by decide);generalize hpl:k - k.fmod 3*(jc ns 0).fmod 2=pl;generalize hmo:FQ (jc ns (pl+1)) pl=mo;by_cases hb:(mo.fdiv 729).fmod 2=0
 .have low:=zj mo;have wd:=zj (mo.fdiv 1458);generalize hl:fW mo=lo at low;generalize hw:fW (mo.fdiv 1458)=w at wd;refine⟨.box lo (lo.1+(if w.1<0 then -w.1 else w.1),lo.2.1+(if w.2.1<0 then -w.2.1 else w.2.1).fdiv 2,lo.2.2+(if w.2.2<0 then -w.2.2 else w.2.2).fmod 3),⟨λp hp=>?_,λl h e=>?_⟩,λS hS=>?_⟩
  .simp only[Sh.pts,List.mem_cons,qC,or_false] at hp;have q1:=qD (if w.2.2<0 then -w.2.2 else w.2.2) (show(0:Int)<3 by decide);have q2:=tU (if w.2.2<0 then -w.2.2 else w.2.2) (show(0:Int)<3 by decide);have q3:(if w.2.1<0 then -w.2.1 else w.2.1).fdiv 2=(if w.2.1<0 then -w.2.1 else w.2.1) / 2:=Int.fdiv_eq_ediv_of_nonneg _ (by decide);obtain⟨l1,l2,l3⟩:=low;obtain⟨w1,w2,w3⟩:=wd;unfold Bd at l1 l2 l3 w1 w2 w3;rcases hp with rfl|rfl
   .exact aJ.le (k:=5) ⟨l1,l2,l3⟩ (by decide)
   .refine⟨?_,?_,?_⟩
    .show(lo.1+(if w.1<0 then -w.1 else w.1)).natAbs<2 ^ 8;split<;>omega
    .show(lo.2.1+(if w.2.1<0 then -w.2.1 else w.2.1).fdiv 2).natAbs<2 ^ 8;rw[q3];split<;>omega
    .show(lo.2.2+(if w.2.2<0 then -w.2.2 else w.2.2).fmod 3).natAbs<2 ^ 8;omega
  .cases e;have q1:=qD (if w.2.2<0 then -w.2.2 else w.2.2) (show(0:Int)<3 by decide);have q3:(if w.2.1<0 then -w.2.1 else w.2.1).fdiv 2=(if w.2.1<0 then -w.2.1 else w.2.1) / 2:=Int.fdiv_eq_ediv_of_nonneg _ (by decide);refine⟨?_,?_,?_⟩
   .show lo.1<=lo.1+(if w.1<0 then -w.1 else w.1)
    split<;>omega
   .show lo.2.1<=lo.2.1+(if w.2.1<0 then -w.2.1 else w.2.1).fdiv 2;rw[q3];split<;>omega
   .show lo.2.2<=lo.2.2+(if w.2.2<0 then -w.2.2 else w.2.2).fmod 3;omega
  .have c0:=p8 hn 0 hS;have c1:=p8 hn (pl+1) hS;have d1:=sp_drawn (jc ns (pl+1)) pl S;have s1:=uy mo S;have s2:=uy (mo.fdiv 1458) S;rw[hmo] at d1;rw[hl] at s1;rw[hw] at s2;apply bY
   .wtm_at "b"
    unfold M7;have b0:=bm (jc ns 0);refine aM (fl := .nx) (σ1:=[some (.ref 0),some (.int k),some (.int (k - k.fmod 3*(jc ns 0).fmod 2)),none,none,none]) (S1:=S) (by wtm_at "a") (aX ?_);rw[hpl];refine aM (fl := .nx) (σ1:=[some (.ref 0),some (.int k),some (.int pl),some (.int mo),none,none]) (S1:=S) (by wtm_at "a") (aX ?_);refine aM (fl := .nx) (σ1:=[some (.ref 0),some (.int k),some (.int pl),some (.int mo),some (pD lo),none]) (S1:=S) (by wtm_at "a") (aX ?_);have t:bZ (eB (bB .Eq) (eB (aN .Mod) (eB (aN .FloorDiv) (aj 3) (kq 729)) (kq 2)) (kq 0)) [some (.ref 0),some (.int k),some (.int pl),some (.int mo),some (pD lo),none] S=some (decide ((mo.fdiv 729).fmod 2=0),S):=by wtm_at "a"
    rw[lJ hb] at t;refine aM (fl := .rt _) (gK t (jz rfl (aM (fl := .nx) (σ1:=[some (.ref 0),some (.int k),some (.int pl),some (.int mo),some (pD lo),some (pD w)]) (S1:=S) (by wtm_at "a") (aX (aM (gC (S1:=S) ?_) eZ))))) eZ;wtm_at "a"
   .wtm_at "c"
   .rfl
 .refine⟨.tri (fW mo) (fW (mo.fdiv 1458)) (fW (mo.fdiv 1062882)),⟨λp hp=>?_,λl h e=>by cases e⟩,λS hS=>?_⟩
  .simp only[Sh.pts,List.mem_cons,qC,or_false] at hp;rcases hp with rfl|rfl|rfl<;>exact(zj _).le (by decide)
  .have c0:=p8 hn 0 hS;have c1:=p8 hn (pl+1) hS;have d1:=sp_drawn (jc ns (pl+1)) pl S;have s1:=uy mo S;have s2:=uy (mo.fdiv 1458) S;have s3:=uy (mo.fdiv 1062882) S;rw[hmo] at d1;apply bY
   .wtm_at "b"
    unfold M7;have b0:=bm (jc ns 0);refine aM (fl := .nx) (σ1:=[some (.ref 0),some (.int k),some (.int (k - k.fmod 3*(jc ns 0).fmod 2)),none,none,none]) (S1:=S) (by wtm_at "a") (aX ?_);rw[hpl];refine aM (fl := .nx) (σ1:=[some (.ref 0),some (.int k),some (.int pl),some (.int mo),none,none]) (S1:=S) (by wtm_at "a") (aX ?_);refine aM (fl := .nx) (σ1:=[some (.ref 0),some (.int k),some (.int pl),some (.int mo),some (pD (fW mo)),none]) (S1:=S) (by wtm_at "a") (aX ?_);have t:bZ (eB (bB .Eq) (eB (aN .Mod) (eB (aN .FloorDiv) (aj 3) (kq 729)) (kq 2)) (kq 0)) [some (.ref 0),some (.int k),some (.int pl),some (.int mo),some (pD (fW mo)),none] S=some (decide ((mo.fdiv 729).fmod 2=0),S):=by wtm_at "a"
    rw[nO hb] at t;refine aM (fl := .nx) (gK t (ir rfl gB)) (aX (aM (gC (S1:=S) ?_) eZ));exact bC (aK bG (aK (aG rfl) (aK (bC (aK (bI (aG rfl) bG (p6 (by decide))) aZ) (cY rfl s2)) (aK (bC (aK (bI (aG rfl) bG (p6 (by decide))) aZ) (cY rfl s3)) aZ)))) (jX (by show 4<=sizeLine;decide))
   .wtm_at "c"
   .rfl
theorem zmL{α:Type}{S1:So}{fi:IF}{rest:Sg}(qs:List α)(enc g:α->D)(h1:fi Z S=some (.fix (qs.map enc),S1))(hl:qs.length<=1000)(hτ:oG src Z=none::rest)(hstep:∀q∈qs,fe (some (enc q)::rest) S1=some (g q,S1)):eV fi (aL 0) d8 fe src Z S=some (.ref S1.length,S1++[.lst (qs.map g)]):=by
 have key:=Ku (nx:=dJ (.fix (qs.map enc))) (S:=S1) (rest:=rest) (fe:=fe) qs enc g (λi=>rfl) hstep qs.length 0 none [] (by omega);refine vV (n:=qs.length) h1 ?_ (by rw[sizeLine_eq];omega) hτ ?_
 .show some (qs.map enc).length=_;simp
 .rw[key];simp
def Sh.nm:Sh->Str
 |.box _ _ => "box"
 |.tri _ _ _ => "triangle"
def R3(s:Sh):cI s = .tup (.str s.nm::s.pts.map pD):=by cases s<;>rfl
def Sh.by(f:Pt->Pt):Sh->Sh
 |.box lo hi => .box (f lo) (f hi)
 |.tri a b c => .tri (f a) (f b) (f c)
def JT(f:Pt->Pt)(s:Sh):(s.by f).pts=s.pts.map f/\(s.by f).nm=s.nm:=by cases s<;>exact⟨rfl,rfl⟩
theorem zlO(hn:ns.length<=63)(k:Int):∃s:Sh,kj 70 s/\∀S,lA ns S->wI [.ref 0,.int k] S=some (cI s,S):=by
 obtain⟨s,ok,e⟩:=zlP hn k;generalize hc:jc ns 0=ce;refine⟨s.by (iM ce),⟨λp hp=>?_,λlo hi e=>?_⟩,λS hS=>?_⟩
 .rw[(JT _ s).1] at hp;obtain⟨q,hq,rfl⟩:=List.mem_map.mp hp;exact(RW (ok.bd q hq)).le (by decide)
 .cases s with
  |box l h =>
   simp only[Sh.by,Sh.box.injEq] at e;obtain⟨rfl,rfl⟩:=e;exact zqW (ok.ord l h rfl)
  |tri a b c=>cases e
 .have c0:=p8 hn 0 hS;rw[hc] at c0;have e0:=e S hS;have hlen:s.pts.length<=10:=by cases s<;>simp[Sh.pts]
  rw[R3] at e0;rw[R3,(JT _ s).1,(JT _ s).2];have hlc:eV (fP (j9 (aj 2) (jT (kq 1)) lG)) (aL 0) d8 (eN (aO 2 zH) (ak (aj 0) (ak (eN (aO 2 nU) (ak (aj 1) (ak (kq 0) au))) au))) [none,some 0] [some (.ref 0),some (.int k),some (.tup (.str s.nm::s.pts.map pD))] S=some (.ref S.length,S++[.lst (s.pts.map λp=>pD (iM ce p))]):=by
   refine zmL s.pts pD (λp=>pD (iM ce p)) (Ut (Ar (aG rfl) (Hh bG) Hg (J8 (ys:=s.pts.map pD) ?_ Hf))) (by omega) rfl λp hp=>?_
   .rintro⟨e1,e2⟩
    have:HT.sIx (D.str s.nm::s.pts.map pD).length 0 (some 1)=1:=by unfold HT.sIx;simp
    omega
   .exact bC (aK (aG rfl) (aK (bC (aK (aG rfl) (aK bG aZ)) (cY rfl c0)) aZ)) (cY rfl (Ke (ok.bd p hp) (by decide) ce S))
  apply bY (S':=S++[.lst (s.pts.map λp=>pD (iM ce p))]) (Z':=[some (.ref 0),some (.int k),some (.tup (.str s.nm::s.pts.map pD))])
  .wtm_at "b"
   unfold WQ;have Qv:fX (D.str s.nm::s.pts.map pD) 0=some (D.str s.nm):=Gq (j:=0) rfl;have r:=zpB (S:=S++[.lst (s.pts.map λp=>pD (iM ce p))]) (xs:=[.str s.nm]) (ys:=s.pts.map λp=>pD (iM ce p)) (by simp) (by simp;rw[sizeLine_eq];omega);rw[List.map_map];exact aM (dY (bC (aK (aG rfl) (aK (aG rfl) aZ)) (cY rfl e0)) (dR rfl)) (aX (aM (gC (bI (bC (aK (bI (aG rfl) bG (ji Qv)) aZ) (jX (by show 1<=sizeLine;decide))) (bC (aK hlc aZ) (VN cD)) r)) eZ))
  .simp
  .rw[D.lo,jB];intro x hx;rcases List.mem_cons.mp hx with rfl|hx
   .simp[D.lo]
   .obtain⟨p,_,rfl⟩:=List.mem_map.mp hx;simp[D.lo,cL]
theorem xj(i:Int)(h0:0<=i)(h6:i<6):∃d:Pt,aJ 5 d/\d≠(0,0,0)/\fX [P3 1 0 0,P3 0 (0 - 2) 0,P3 0 0 3,P3 1 1 0,P3 0 1 (0 - 1),P3 (0 - 1) 0 0] i=some (pD d):=by
 have:i=0\/i=1\/i=2\/i=3\/i=4\/i=5:=by omega
 rcases this with rfl|rfl|rfl|rfl|rfl|rfl
 .exact⟨(1,0,0),⟨by unfold Bd;decide,by unfold Bd;decide,by unfold Bd;decide⟩,by decide,rfl⟩
 .exact⟨(0,0 - 2,0),⟨by unfold Bd;decide,by unfold Bd;decide,by unfold Bd;decide⟩,by decide,rfl⟩
 .exact⟨(0,0,3),⟨by unfold Bd;decide,by unfold Bd;decide,by unfold Bd;decide⟩,by decide,rfl⟩
 .exact⟨(1,1,0),⟨by unfold Bd;decide,by unfold Bd;decide,by unfold Bd;decide⟩,by decide,rfl⟩
 .exact⟨(0,1,0 - 1),⟨by unfold Bd;decide,by unfold Bd;decide,by unfold Bd;decide⟩,by decide,rfl⟩
 .exact⟨(0 - 1,0,0),⟨by unfold Bd;decide,by unfold Bd;decide,by unfold Bd;decide⟩,by decide,rfl⟩
theorem zqt(hn:ns.length<=63)(k:Int):∃o d:Pt,aJ 80 o/\aJ 5 d/\d≠(0,0,0)/\∀S,lA ns S->N6 [.ref 0,.int k] S=some (bL o d,S):=by
 generalize hce:jc ns k=ck;generalize hc0:jc ns 0=c0;generalize hmo:FQ ck k=mo;obtain⟨dm,bm,nm,em⟩:=xj ((mo.fdiv 1594323).fmod 6) (qD _ (by decide)) (tU _ (by decide));obtain⟨d,bd,nd,ed⟩:∃d:Pt,aJ 5 d/\d≠(0,0,0)/\∀S,∃G:So,H9 [some (.ref 0),some (.int k),some (.int mo),some (pD (fW mo)),some (pD (fW (mo.fdiv 729))),none] S=some (.nx,[some (.ref 0),some (.int k),some (.int mo),some (pD (fW mo)),some (pD d),none],S++G):=by
  by_cases h3:(mo.fdiv 531441).fmod 3=0\/pD (fW (mo.fdiv 729))=P3 0 0 0
  .refine⟨dm,bm,nm,λS=>⟨[.lst [P3 1 0 0,P3 0 (0 - 2) 0,P3 0 0 3,P3 1 1 0,P3 0 1 (0 - 1),P3 (0 - 1) 0 0]],?_⟩⟩;have t:kW (bZ (eB (bB .Eq) (eB (aN .Mod) (eB (aN .FloorDiv) (aj 2) (kq 531441)) (kq 3)) (kq 0))) (bZ (eB (bB .Eq) (aj 4) (eN b8 (ak (kq 0) (ak (kq 0) (ak (kq 0) au)))))) [some (.ref 0),some (.int k),some (.int mo),some (pD (fW mo)),some (pD (fW (mo.fdiv 729))),none] S=some (true,S):=by
    by_cases ha:(mo.fdiv 531441).fmod 3=0
    .refine Av (b:=true) (S1:=S) ?_ (jz rfl rfl);rw[<-lJ ha];wtm_at "a"
    .have hb:=h3.resolve_left ha;refine Av (b:=false) (S1:=S) ?_ (ir rfl ?_)
     .rw[<-nO ha];wtm_at "a"
     .have q:=gk (bI (aG (Z:=[some (.ref 0),some (.int k),some (.int mo),some (pD (fW mo)),some (pD (fW (mo.fdiv 729))),none]) (i:=4) (d:=pD (fW (mo.fdiv 729))) (S:=S) rfl) (bC (aK (bG (d := .int 0)) (aK (bG (d := .int 0)) (aK (bG (d := .int 0)) aZ))) (jX (by show 3<=sizeLine;decide))) (yX rfl 1 rfl rfl (by decide)));rw[q,lJ hb]
   unfold H9;refine gK t (jz rfl (aM (dY (x:=pD dm) (S1:=S++[.lst [P3 1 0 0,P3 0 (0 - 2) 0,P3 0 0 3,P3 1 1 0,P3 0 1 (0 - 1),P3 (0 - 1) 0 0]]) ?_ (dR rfl)) (aX gB)));refine bI (x := .ref S.length) (S1:=S++[.lst [P3 1 0 0,P3 0 (0 - 2) 0,P3 0 0 3,P3 1 1 0,P3 0 1 (0 - 1),P3 (0 - 1) 0 0]]) ?_ (bI (bI (aG rfl) bG (p6 (by decide))) bG (za (by decide))) (vZ cD em);wtm_at "a"
  .have ha:¬(mo.fdiv 531441).fmod 3=0:=λh=>h3 (.inl h);have hb:¬pD (fW (mo.fdiv 729))=P3 0 0 0:=λh=>h3 (.inr h);refine⟨fW (mo.fdiv 729),zj _,λh=>hb (by rw[h]),λS=>⟨[],?_⟩⟩;have t:kW (bZ (eB (bB .Eq) (eB (aN .Mod) (eB (aN .FloorDiv) (aj 2) (kq 531441)) (kq 3)) (kq 0))) (bZ (eB (bB .Eq) (aj 4) (eN b8 (ak (kq 0) (ak (kq 0) (ak (kq 0) au)))))) [some (.ref 0),some (.int k),some (.int mo),some (pD (fW mo)),some (pD (fW (mo.fdiv 729))),none] S=some (false,S):=by
    refine Av (b:=false) (S1:=S) ?_ (ir rfl ?_)
    .rw[<-nO ha];wtm_at "a"
    .have q:=gk (bI (aG (Z:=[some (.ref 0),some (.int k),some (.int mo),some (pD (fW mo)),some (pD (fW (mo.fdiv 729))),none]) (i:=4) (d:=pD (fW (mo.fdiv 729))) (S:=S) rfl) (bC (aK (bG (d := .int 0)) (aK (bG (d := .int 0)) (aK (bG (d := .int 0)) aZ))) (jX (by show 3<=sizeLine;decide))) (yX rfl 1 rfl rfl (by decide)));rw[q,nO hb]
   unfold H9;rw[List.append_nil];exact gK t (ir rfl gB)
 have bs:=zj mo;generalize hsp:fW mo=st at *
 generalize hof:(mo.fdiv 9565938).fmod 4=of;have bo:Bd 4 of:=by have h1:=qD (mo.fdiv 9565938) (show(0:Int)<4 by decide);have h2:=tU (mo.fdiv 9565938) (show(0:Int)<4 by decide);rw[hof] at h1 h2;unfold Bd;omega
 have bp:aJ 15 (st.1 - of*d.1,st.2.1 - of*d.2.1,st.2.2 - of*d.2.2) :=
  ⟨(bs.1.sub (bo.mul bd.1)).le (by decide),(bs.2.1.sub (bo.mul bd.2.1)).le (by decide),(bs.2.2.sub (bo.mul bd.2.2)).le (by decide)⟩
 refine⟨iM c0 (st.1 - of*d.1,st.2.1 - of*d.2.1,st.2.2 - of*d.2.2),d,(RW bp).le (by decide),bd,nd,λS hS=>?_⟩;obtain⟨G,e4⟩:=ed S;have cc:=p8 hn k hS;have cz:=p8 hn 0 ((hS.app G).app [.lst [.int (st.1 - of*d.1),.int (st.2.1 - of*d.2.1),.int (st.2.2 - of*d.2.2)]]);have s1:=uy mo S;have s2:=uy (mo.fdiv 729) S;have dr:=sp_drawn ck k S;rw[hmo] at dr;rw[hce] at cc;rw[hc0] at cz;rw[hsp] at s1;have a1:Ny [some (.ref 0),some (.int k),none,none,none,none] S=some (.nx,[some (.ref 0),some (.int k),some (.int mo),none,none,none],S):=by unfold Ny;exact dY (bC (aK (bC (aK (aG rfl) (aK (aG rfl) aZ)) (cY rfl cc)) (aK (aG rfl) aZ)) (cY rfl dr)) (dR rfl)
 have a2:Nz [some (.ref 0),some (.int k),some (.int mo),none,none,none] S=some (.nx,[some (.ref 0),some (.int k),some (.int mo),some (pD st),none,none],S):=by unfold Nz;exact dY (bC (aK (aG rfl) aZ) (cY rfl s1)) (dR rfl)
 have a3:NP [some (.ref 0),some (.int k),some (.int mo),some (pD st),none,none] S=some (.nx,[some (.ref 0),some (.int k),some (.int mo),some (pD st),some (pD (fW (mo.fdiv 729))),none],S):=by unfold NP;exact dY (bC (aK (bI (aG rfl) bG (p6 (by decide))) aZ) (cY rfl s2)) (dR rfl)
 have a5:NQ [some (.ref 0),some (.int k),some (.int mo),some (pD st),some (pD d),none] (S++G)=some (.nx,[some (.ref 0),some (.int k),some (.int mo),some (pD st),some (pD d),some (.int of)],S++G):=by unfold NQ;rw[<-hof];exact dY (bI (bI (aG rfl) bG (p6 (by decide))) bG (za (by decide))) (dR rfl)
 have m1:cO of d.1=true:=wj bo bd.1 (by decide);have m2:cO of d.2.1=true:=wj bo bd.2.1 (by decide);have m3:cO of d.2.2=true:=wj bo bd.2.2 (by decide);have a6:NT [some (.ref 0),some (.int k),some (.int mo),some (pD st),some (pD d),some (.int of)] (S++G)=some (.nx,[some (.ref 0),some (.int k),some (.int mo),some (pD (st.1 - of*d.1,st.2.1 - of*d.2.1,st.2.2 - of*d.2.2)),some (pD d),some (.int of)],S++G++[.lst [.int (st.1 - of*d.1),.int (st.2.1 - of*d.2.1),.int (st.2.2 - of*d.2.2)]]):=by unfold NT;refine dY (x:=pD (st.1 - of*d.1,st.2.1 - of*d.2.1,st.2.2 - of*d.2.2)) (S1:=S++G++[.lst [.int (st.1 - of*d.1),.int (st.2.1 - of*d.2.1),.int (st.2.2 - of*d.2.2)]]) ?_ (dR rfl);wtm_at "a"
 have a7:OJ [some (.ref 0),some (.int k),some (.int mo),some (pD (st.1 - of*d.1,st.2.1 - of*d.2.1,st.2.2 - of*d.2.2)),some (pD d),some (.int of)] (S++G++[.lst [.int (st.1 - of*d.1),.int (st.2.1 - of*d.2.1),.int (st.2.2 - of*d.2.2)]])=some (.rt (bL (iM c0 (st.1 - of*d.1,st.2.1 - of*d.2.1,st.2.2 - of*d.2.2)) d),[some (.ref 0),some (.int k),some (.int mo),some (pD (st.1 - of*d.1,st.2.1 - of*d.2.1,st.2.2 - of*d.2.2)),some (pD d),some (.int of)],S++G++[.lst [.int (st.1 - of*d.1),.int (st.2.1 - of*d.2.1),.int (st.2.2 - of*d.2.2)]]):=by unfold OJ;exact gC (bC (aK (bC (aK (aG rfl) (aK (bC (aK (aG rfl) (aK bG aZ)) (cY rfl cz)) aZ)) (cY rfl (Ke bp (by decide) c0 _))) (aK (aG rfl) aZ)) (jX (by show 2<=sizeLine;decide)))
 apply bY (S':=S++G++[.lst [.int (st.1 - of*d.1),.int (st.2.1 - of*d.2.1),.int (st.2.2 - of*d.2.2)]])
 .wtm_at "b"
  unfold Xp;exact aM a1 (aX (aM a2 (aX (aM a3 (aX (aM e4 (aX (aM a5 (aX (aM a6 (aX (aM a7 eZ))))))))))))
 .rw[f9];simp
 .simp[D.lo,cL]
theorem zn1(hn:ns.length<=63):∃m:Nat,m<=30/\∀S,lA ns S->BW [.ref 0] S=some (.int (m:Nat),S):=by
 generalize hmo:FQ (jc ns 0) 77=mo;have pre:∀S,lA ns S->bD (eN (aO 2 zB) (ak (eN (aO 2 nU) (ak (aj 0) (ak (kq 0) au))) (ak (kq 77) au))) (aL 1) [some (.ref 0),none] S=some (.nx,[some (.ref 0),some (.int mo)],S):=λS F=>by have d0:=sp_drawn (jc ns 0) 77 S;rw[hmo] at d0;exact dY (bC (aK (bC (aK (aG rfl) (aK bG aZ)) (cY rfl (p8 hn 0 F))) (aK bG aZ)) (cY rfl d0)) (dR rfl)
 have Cm:∀S b,decide (mo.fmod 8=5)=b->bZ (eB (bB .Eq) (eB (aN .Mod) (aj 1) (kq 8)) (kq 5)) [some (.ref 0),some (.int mo)] S=some (b,S):=λS b h=>by rw[<-h];exact gk (bI (bI (aG rfl) bG (za (by decide))) bG Gf)
 by_cases h:mo.fmod 8=5
 .refine⟨30,by decide,λS F=>?_⟩;apply bY
  .wtm_at "b"
   unfold Mz;exact aM (pre S F) (aX (aM (gK (Cm S true (lJ h)) (jz rfl (aM (gC bG) eZ))) eZ))
  .exact pO
  .rfl
 .have h1:=qD (mo.fdiv 8) (show(0:Int)<13 by decide);have h2:=tU (mo.fdiv 8) (show(0:Int)<13 by decide);refine⟨((mo.fdiv 8).fmod 13).toNat,by omega,λS F=>?_⟩;rw[Int.toNat_of_nonneg h1];apply bY
  .wtm_at "b"
   unfold Mz;exact aM (pre S F) (aX (aM (gK (Cm S false (nO h)) (ir rfl gB)) (aX (aM (gC (bI (bI (aG rfl) bG (p6 (by decide))) bG (za (by decide)))) eZ))))
  .exact pO
  .rfl
theorem zg8{s:Sh}(ho:aJ k o)(hd:aJ k d)(hs:kj k s)(h0:d≠(0,0,0))(hk:k<=1500)(S:So)(hS:WF S):
 Km [bL o d,cI s] S=some (tD (iw o d s),S):=by
 have hm:=Vw ho hd hs h0 hk S hS;have hr:=Xv (o:=o) h0 S;have hn:BZ [cI s] S=some (.non,S):=by
  apply Xu;cases s with
  |box l h =>
   obtain⟨o1,o2,o3⟩:=hs.ord l h rfl;exact XH o1 o2 o3
  |tri a b c=>exact XJ
 apply bY
 .wtm_at "b"
  unfold Ss;exact aM (oN (bC (aK (aG rfl) aZ) (cY rfl hr))) (aX (aM (oN (bC (aK (aG rfl) aZ) (cY rfl hn))) (aX (aM (gC (bC (aK (aG rfl) (aK (aG rfl) aZ)) (cY rfl hm))) eZ))))
 .exact pO
 .cases iw o d s<;>rfl
theorem zkB(hn:ns.length<=63):∃shs:List Sh,shs.length<=30/\(∀s∈shs,kj 70 s)/\∀(Z:Sg) (S:So),lA ns S->aj 0 Z S=some (.ref 0,S)->oG [none,some 0] Z=[none,some (.ref 0)] ->
 eV (nj (ak (eN (aO 1 BW) (ak (aj 0) au)) au)) (aL 0) d8 (eN (aO 2 wI) (ak (aj 1) (ak (aj 0) au))) [none,some 0] Z S=some (.ref S.length,S++[.lst (shs.map cI)]):=by
 obtain⟨m,hm,em⟩:=zn1 hn;have X6:∀k:Nat,∃s:Sh,kj 70 s/\∀S,lA ns S->wI [.ref 0,.int (k:Nat)] S=some (cI s,S):=λk=>zlO hn (k:Nat);obtain⟨sh,hsh⟩:∃sh:Nat->Sh,∀k:Nat,kj 70 (sh k)/\∀S,lA ns S->wI [.ref 0,.int (k:Nat)] S=some (cI (sh k),S):=⟨λk=>(X6 k).choose,λk=>(X6 k).choose_spec⟩
 refine⟨(List.range m).map sh,by simpa using hm,λs hs=>?_,λZ S F hv hτ=>?_⟩
 .obtain⟨k,_,rfl⟩:=List.mem_map.mp hs;exact(hsh k).1
 .have lc:=vV (Z:=Z) (S:=S) (fi:=nj (ak (eN (aO 1 BW) (ak (aj 0) au)) au)) (g:=aL 0) (t:=d8) (src:=[none,some 0]) (n:=m) (KZ (j:=(m:Int)) (aK (bC (aK hv aZ) (cY rfl (em S F))) aZ) (by omega)) (by show some (gZ 0 (m:Int).toNat).length=_;simp[gZ]) (by rw[sizeLine_eq];omega) hτ (by rw[Int.toNat_natCast];exact Zq (fe:=eN (aO 2 wI) (ak (aj 1) (ak (aj 0) au))) (m:=m) (rest:=[some (.ref 0)]) (λx=>cI (sh x)) (λx hx=>bC (aK (aG rfl) (aK (aG rfl) aZ)) (cY rfl ((hsh x).2 S F))));rw[lc,List.map_map];rfl
theorem zmp{m:Nat}{S0:So}{fa:AF}(hS:WF S)(hT:jd "tree_over" S=true)(hm:S[m]?=some (.lst (shs.map cI)))(hl:shs.length<=32)(hk:∀s∈shs,kj K s)(h1:fa Z S0=some ([.ref m],S)):
 ∃t G,mW K shs t/\pJ "Scene" 2 HN fa Z S0=some (.ref S.length,S++G)/\WF (S++G)/\ju (S++G) S.length shs t:=by
 obtain⟨t,bs,ok,e,W⟩:=zlV hS hT hm hl hk;have mk:=RB (C := "Scene") (n:=2) h1 rfl e;have Yn:(S++[O.ins "Scene" [("kept",.ref (S.length+1)),("tree",gj t)]]++[O.lst (shs.map cI)]++[O.lst (bs.map jL)])[S.length]?=some (.ins "Scene" [("kept",.ref (S.length+1)),("tree",gj t)]):=fB (fB cD);have kp3:(S++[O.ins "Scene" [("kept",.ref (S.length+1)),("tree",gj t)]]++[O.lst (shs.map cI)]++[O.lst (bs.map jL)])[S.length+1]?=some (.lst (shs.map cI)):=by refine fB ?_;generalize O.ins "Scene" [("kept",.ref (S.length+1)),("tree",gj t)]=o;rw[show S.length+1=(S++[o]).length by simp];exact cD
 have fz:mQ "Scene" S.length (S++[O.ins "Scene" [("kept",.ref (S.length+1)),("tree",gj t)]]++[O.lst (shs.map cI)]++[O.lst (bs.map jL)])=(.ref S.length,S++[O.ins "Scene" [("kept",.ref (S.length+1)),("tree",gj t)]]++[O.lst (shs.map cI)]++[O.lst (bs.map jL)]):=by unfold mQ;rw[Yn];simp only;rw[if_neg];intro h;have:=h.2.1;simp at this
 rw[fz] at mk;rw[f9,f9] at *
 exact⟨t,_,ok,mk,W,Yn,kp3⟩
end MX.P
end
section
namespace MX.P
open PySem L2 MX
def Zg:oh "tuple" "tuple" = some true:=by kernel_rfl
def zrB:oh "int" "int" = some true:=by kernel_rfl
def zrC:oh "int" "bool" = some false:=by kernel_rfl
theorem ev_isi_tup:m9 [.tup xs,.ty "tuple"] S=some (.bl true,S):=by show((some "tuple").bind λt=>(oh t "tuple").map λb=>(D.bl b,S))=_;simp only[bM,Zg,m8]
theorem ev_isi_int{i:Int}:m9 [.int i,.ty "int"] S=some (.bl true,S):=by show((some "int").bind λt=>(oh t "int").map λb=>(D.bl b,S))=_;simp only[bM,zrB,m8]
theorem ev_isi_bool{i:Int}:m9 [.int i,.ty "bool"] S=some (.bl false,S):=by show((some "int").bind λt=>(oh t "bool").map λb=>(D.bl b,S))=_;simp only[bM,zrC,m8]
end MX.P
local macro_rules|`(tactic|wtm_at $s)=>uS s "d&#m=P.ev_isi_tup|=P.ev_isi_int|=P.ev_isi_bool"
namespace MX.P
def zlN(i:Int)(S:So):Hy [.int i] S=some (.bl true,S):=by
 apply bY
 .wtm_at "b"
  unfold WR;wtm_at "a"
 .wtm_at "c"
 .rfl
end MX.P
end
section
local macro_rules|`(tactic|wtm_at $s)=>uS s "d&"
namespace MX.P
open PySem L2 MX
theorem zlQ{l:Nat}{a b c d:Int}(ha:Bd k a)(hb:Bd k b)(hc:Bd l c)(hd:Bd l d)(hk:k+l<=134217728)(S:So):BV [R2 a b,R2 c d] S=some (.bl (decide (a*d<c*b)),S):=by refine bY (Z':=[some (R2 a b),some (R2 c d)]) (S':=S) ?_ (by simp) rfl;show Mx [some (R2 a b),some (R2 c d)] S=_;unfold Mx;wtm_at "a"
abbrev eE(o:Pt):D := .tup [pD o,P3 0 0 0]
theorem Uh:bZ (eB (bB .Eq) (eB aH (aj 0) (kq 1)) (eN b8 (ak (kq 0) (ak (kq 0) (ak (kq 0) au))))) [some (eE o)] S=some (true,S):=by refine gk (bI (bI (aG rfl) bG (ji rfl)) (bC (aK bG (aK bG (aK bG aZ))) (jX (vG rfl))) ?_);exact(yX (x:=P3 0 0 0) (y:=P3 0 0 0) rfl 8 rfl rfl (by decide)).trans (by rw[lJ rfl])
theorem znS:uz [eE o] S=none:=by
 have e:BX (iH 1 [eE o]) S=none:=by show BX [some (eE o)] S=none;unfold BX aB dD;rw[Uh];rfl
 unfold uz fnOf;rw[e]
theorem znR:Ca [eE o] S=some ("NoRay" : Str):=by
 have e:Ce (iH 1 [eE o]) S=some (("NoRay" : Str),S):=by show Ce [some (eE o)] S=_;unfold Ce uH;rw[Uh];rfl
 unfold Ca nM;rw[e];simp only;rw[if_pos pO]
theorem Wi:uE [.ref c,eE o] S=none/\HW [.ref c,eE o] S=some ("NoRay" : Str):=by
 constructor
 .have e:zG (iH 5 [.ref c,eE o]) S=none:=by show zG [some (.ref c),some (eE o),none,none,none] S=none;have e2:eN (aO 1 uz) (ak (aj 1) au) [some (.ref c),some (eE o),none,none,none] S=none:=bC (aK (aG rfl) aZ) (cY rfl znS);unfold zG HY aB jH;rw[e2];rfl
  unfold uE fnOf;rw[e]
 .have e:Bw (iH 5 [.ref c,eE o]) S=some (("NoRay" : Str),S):=by show Bw [some (.ref c),some (eE o),none,none,none] S=_;have ea:ak (aj 1) au [some (.ref c),some (eE o),none,none,none] S=some ([eE o],S):=aK (aG rfl) aZ;unfold Bw vO;rw[ea];simp only[bM];rw[if_pos (show[eE o].length=1 from rfl),znR];rfl
  unfold HW nM;rw[e];simp only;rw[if_pos pO]
theorem zpt{src:List Nat}{fb:EF}{xb:XF}{iT:Nat->D}{S':So}{dg:List D}{y:Str}{d:D}(h1:vK src Z=some dg)(h2:fb (dg.map some) S=none)(h3:xb (dg.map some) S=some (y,S'))(h4:FW iT y=some d):yL src fb xb iT Z S=some (d,S'):=by unfold yL;rw[h1];simp only[bM];rw[h2];simp only;rw[h3];simp only[bM];rw[h4];rfl
noncomputable def lZ(w:Int)(h:d7):Int×Int:=(h.1.1*(w*w) / h.1.2,(h.2:Int))
theorem RL{a1 a2 b1 b2:Int}(ha:0<a2)(hb:0<b2)(wa:a2<=w)(wb:b2<=w)(h:a1*b2<b1*a2):a1*(w*w) / a2<b1*(w*w) / b2:=by have hw:0<=w*w:=Int.mul_nonneg (by omega) (by omega);have h1:a1*(w*w) / a2*a2<=a1*(w*w):=Int.ediv_mul_le _ (by omega);generalize a1*(w*w) / a2=q at h1 ⊢;apply Int.lt_of_add_one_le;rw[Int.le_ediv_iff_mul_le hb];apply Int.not_lt.mp;intro c;have h2:q*a2*b2<=a1*(w*w)*b2:=Int.mul_le_mul_of_nonneg_right h1 (by omega);have h3:(w*w)*(a1*b2+1)<=(w*w)*(b1*a2):=Int.mul_le_mul_of_nonneg_left (by omega) hw;have h4:a2*b2<=w*w:=Int.mul_le_mul wa wb (by omega) (by omega);have h5:(b1*(w*w)+1)*a2<=((q+1)*b2)*a2:=Int.mul_le_mul_of_nonneg_right (by omega) (by omega);grind
theorem zmw{a b:d7}(ga:jf a)(gb:jf b)(wa:a.1.2<=w)(wb:b.1.2<=w):lC (lZ w a) (lZ w b)=soon a b:=by
 rw[Bool.eq_iff_iff,zf];have k1:eH a.1 b.1->(lZ w a).1<(lZ w b).1:=RL ga.1 gb.1 wa wb;have k2:eH b.1 a.1->(lZ w b).1<(lZ w a).1:=RL gb.1 ga.1 wb wa;unfold lC;by_cases h1:eH a.1 b.1
 .have:=k1 h1;rw[if_neg (by omega),decide_eq_true_iff];exact⟨λ_ => .inl h1,λ_=>this⟩
 .by_cases h2:eH b.1 a.1
  .have:=k2 h2;rw[if_neg (by omega),decide_eq_true_iff];refine⟨λz=>by omega,?_⟩
   rintro(z|⟨z,_⟩)
   .exact absurd z h1
   .rw[z] at h2;unfold eH at h2;omega
  .have e:=Kp ga gb (p7 h2) (p7 h1);rw[if_pos (by unfold lZ;rw[e]),decide_eq_true_iff];show((a.2:Nat):Int)<((b.2:Nat):Int)↔_;refine⟨λz => .inr ⟨e,by omega⟩,?_⟩
   rintro(z|⟨_,z⟩)
   .exact absurd z h1
   .omega
theorem Zu{b c:Int×Int}(h1:lC b a=false)(h2:lC c b=false):lC c a=false:=by
 unfold lC at *
 repeat' split at *
 all_goals simp only[decide_eq_false_iff_not] at *;omega
theorem zo8{b:Int×Int}(h1:lC a b=true):lC b a=false:=by
 unfold lC at *
 repeat' split at *
 all_goals simp only[decide_eq_false_iff_not,decide_eq_true_iff] at *;omega
theorem Zt{b:Int×Int}(h1:lC a b=false)(h2:lC b a=false):a=b:=by
 unfold lC at *
 apply Prod.ext
 all_goals
  repeat' split at *
  all_goals simp only[decide_eq_false_iff_not] at *;omega
abbrev jR(w:Int)(h:d7):D := .tup [.int (lZ w h).1,.int (lZ w h).2]
abbrev jQ:d7:=((0,1),0)
theorem zmk{hs:List d7}(g:∀h∈hs,jf h/\h.1.2<=w)(nd:(hs.map (·.2)).Nodup):((gJ (hs.map (jR w))).map λi=>hs.getD i jQ).Perm hs/\((gJ (hs.map (jR w))).map λi=>hs.getD i jQ).Pairwise jD:=by
 have kp:=BL (hs.map (jR w));rw[cX] at kp;have lt:∀i∈gJ (hs.map (jR w)),i<hs.length:=λi hi=>List.mem_range.mp (kp.mem_iff.mp hi);have ka:∀i,i<hs.length->iU ((hs.map (jR w)).getD i .non)=lZ w (hs.getD i jQ):=λi hi=>by rw[List.getD_eq_getElem?_getD,List.getD_eq_getElem?_getD,gR,fM hi];rfl
 have gm:∀i,i<hs.length->jf (hs.getD i jQ)/\(hs.getD i jQ).1.2<=w:=λi hi=>by rw[List.getD_eq_getElem?_getD,fM hi];exact g _ (List.getElem_mem hi)
 refine⟨Wa jQ hs kp,?_⟩;have T:iJ (hs.map (jR w)).length (tZ (hs.map (jR w))):=⟨λi j k=>Zu,λi j=>zo8,λi j hi hj h1 h2=>by
  rw[cX] at hi hj;have e:=Zt h1 h2;rw[ka i hi,ka j hj] at e;have e2:(((hs.getD i jQ).2:Nat):Int)=(((hs.getD j jQ).2:Nat):Int):=congrArg Prod.snd e;have hi':i<(hs.map (·.2)).length:=by simpa using hi
  have hj':j<(hs.map (·.2)).length:=by simpa using hj
  refine(List.getElem_inj (h₀:=hi') (h₁:=hj') nd).mp ?_;rw[List.getElem_map,List.getElem_map];rw[List.getD_eq_getElem?_getD,List.getD_eq_getElem?_getD,fM hi,fM hj] at e2;exact Int.ofNat_inj.mp e2⟩
 have up:=zlZ T;rw[List.pairwise_map];refine List.Pairwise.imp_of_mem (λ{i j} hi hj h=>?_) up;have hi:=lt i hi;have hj:=lt j hj;unfold tZ at h;rw[ka i hi,ka j hj,zmw (gm j hj).1 (gm i hi).1 (gm j hj).2 (gm i hi).2] at h;unfold jD;rw[h];simp
def gM(t:Int×Int)(l:List d7):Nat->Nat
 |0=>0
 |k+1=>if eH t (l.getD k jQ).1 then gM t l k else k+1
theorem Mp(t:Int×Int)(l:List d7):∀k,gM t l k<=k/\(∀i,gM t l k<=i->i<k->eH t (l.getD i jQ).1)/\(gM t l k=0\/¬eH t (l.getD (gM t l k - 1) jQ).1)
 |0=>⟨bT _,λi _ h=>by omega,.inl rfl⟩
 |k+1=>by
  obtain⟨h1,h2,h3⟩:=Mp t l k;unfold gM;split
  .rename_i c;refine⟨by omega,λi a b=>?_,h3⟩;by_cases hi:i=k
   .rw[hi];exact c
   .exact h2 i a (by omega)
  .rename_i c;exact⟨bT _,λi a b=>by omega,.inr c⟩
def vC(h:d7)(l:List d7):List d7:=l.take (gM h.1 l l.length)++h::l.drop (gM h.1 l l.length)
def zkM(h:d7)(l:List d7):(vC h l).Perm (h::l):=by unfold vC;refine List.perm_middle.trans (List.Perm.cons _ ?_);rw[List.take_append_drop]
theorem zpi{h:d7}{l:List d7}(gh:jf h)(gl:∀x∈l,jf x)(hn:∀x∈l,x.2<h.2)(p:l.Pairwise jD):(vC h l).Pairwise jD:=by
 obtain⟨h1,h2,h3⟩:=Mp h.1 l l.length;unfold vC;generalize gM h.1 l l.length=k at *
 have pg:=List.pairwise_iff_getElem.mp p;have ge:∀i (hi:i<l.length),l.getD i jQ=l[i]:=λi hi=>by rw[List.getD_eq_getElem?_getD,fM hi];rfl
 have lo:∀i (hi:i<l.length),i<k->jD l[i] h:=λi hi hk=>by
  have c:=h3.resolve_left (by omega);have hk1:k - 1<l.length:=by omega
  rw[ge _ hk1] at c;have a:jD l[k - 1] h:=by
   unfold jD;rw[zf]
   rintro(z|⟨_,z⟩)
   .exact c z
   .have:=hn _ (List.getElem_mem hk1);omega
  by_cases e:i=k - 1
  .subst e;exact a
  .exact Zr (gl _ (List.getElem_mem hi)) (gl _ (List.getElem_mem hk1)) gh (pg i (k - 1) hi hk1 (by omega)) a
 have hi:∀i (hi:i<l.length),k<=i->jD h l[i]:=λi hi hk=>by have c:=h2 i hk hi;rw[ge i hi] at c;exact zpa (zf.mpr (.inl c))
 rw[List.pairwise_append];refine⟨p.sublist (List.take_sublist _ _),List.pairwise_cons.mpr ⟨λx hx=>?_,p.sublist (List.drop_sublist _ _)⟩,λx hx y hy=>?_⟩
 .obtain⟨i,hi',rfl⟩:=List.mem_iff_getElem.mp hx;rw[List.getElem_drop];exact hi _ _ (by omega)
 .obtain⟨i,hi',rfl⟩:=List.mem_iff_getElem.mp hx;rw[vz] at hi';rw[List.getElem_take];rcases List.mem_cons.mp hy with rfl|hy
  .exact lo i (by omega) (by omega)
  .obtain⟨j,hj',rfl⟩:=List.mem_iff_getElem.mp hy;rw[List.length_drop] at hj';rw[List.getElem_drop];exact pg i (k+j) (by omega) (by omega) (by omega)
def fC(o d:Pt)(shs:List Sh):Nat->List d7
 |0=>[]
 |j+1=>match cR o d shs j with
  |none=>fC o d shs j
  |some h=>vC h (fC o d shs j)
theorem v9(o d:Pt)(shs:List Sh):∀j,(fC o d shs j).Perm ((List.range j).filterMap (cR o d shs))
 |0=>List.Perm.refl _
 |j+1=>by
  rw[List.range_succ,List.filterMap_append];unfold fC;have ih:=v9 o d shs j;split
  .rename_i e;simpa[e] using ih
  .rename_i h e;refine(zkM h _).trans ((List.Perm.cons _ ih).trans ?_);simp only[List.filterMap_cons,e,List.filterMap_nil];exact(List.perm_append_comm (l₁:=[h])).trans (List.Perm.refl _)
section
variable {o d:Pt}{shs:List Sh}(h0:d≠(0,0,0))
include h0 in
theorem Bj{j:Nat}{h:d7}(e:h∈fC o d shs j):jf h/\h.2<j/\cR o d shs h.2=some h:=by
 obtain⟨i,hi,e⟩:=List.mem_filterMap.mp ((v9 o d shs j).mem_iff.mp e);have e2:h.2=i:=by obtain⟨s,p,_,_,rfl⟩:=Bm.mp e;rfl
 exact⟨LK h0 e,by rw[e2];exact List.mem_range.mp hi,by rw[e2];exact e⟩
include h0 in
theorem JV:∀j,(fC o d shs j).Pairwise jD
 |0=>List.Pairwise.nil
 |j+1=>by
  unfold fC;split
  .exact JV j
  .rename_i h e;have e2:h.2=j:=by obtain⟨s,p,_,_,rfl⟩:=Bm.mp e;rfl
   exact zpi (LK h0 e) (λx hx=>(Bj h0 hx).1) (λx hx=>by rw[e2];exact(Bj h0 hx).2.1) (JV j)
include h0 in
theorem zoI{hs:List d7}(p:hs.Perm (pL o d shs))(hw:∀h∈hs,h.1.2<=w):((gJ (hs.map (jR w))).map λi=>hs.getD i jQ)=fC o d shs shs.length:=by
 have q:=p.trans (v9 o d shs shs.length).symm;have gd:∀h∈hs,jf h:=λh hh=>(Bj h0 (q.mem_iff.mp hh)).1;have nd:(hs.map (·.2)).Nodup:=by
  refine(p.map _).nodup_iff.mpr ?_;unfold pL;rw[List.map_filterMap];refine List.Pairwise.sublist ?_ (List.nodup_range (n:=shs.length));have:(λi=>Option.map (λx:d7=>x.2) (cR o d shs i))=λi=>if(cR o d shs i).isSome=true then some i else none:=by
   funext i;cases e:cR o d shs i with
   |none=>rfl
   |some h=>obtain⟨s,p,_,_,rfl⟩:=Bm.mp e;rfl
  rw[this];generalize List.range shs.length=l
  induction l with
  |nil=>exact List.Sublist.slnil
  |cons a l ih =>
   rw[List.filterMap_cons];split
   .exact ih.cons _
   .rename_i e;split at e
    .cases e;exact ih.cons₂ _
    .cases e
 obtain⟨a,b⟩:=zmk (λh hh=>⟨gd h hh,hw h hh⟩) nd;refine List.Perm.eq_of_pairwise (λx y hx hy=>zmt (gd x (a.mem_iff.mp hx)) (Bj h0 hy).1) b (JV h0 _) (a.trans q)
end
theorem Z1{S1:So}{fd:EF}{k:Int}(h1:fe Z S=some (.ref n,S1))(h2:fd Z S1=some (.int k,S1))(hn:S1[n]?=some (.lst (ns.map .int))):∃m,(m∈ns\/m=k)/\(∀a∈ns,a<=m)/\vA fe fd Z S=some (.int m,S1):=by
 have e:vA fe fd Z S=if ns=[] then some (.int k,S1) else(iK ns).map λm=>(.int m,S1):=by unfold vA;rw[h1];simp only[bM];rw[h2];simp only[bM];rw[hn];simp only;rw[Mw];rfl
 by_cases h:ns=[]
 .subst h;exact⟨k,.inr rfl,λa ha=>(nomatch ha),by rw[e,if_pos rfl]⟩
 .obtain⟨m,q⟩:=Aw h;exact⟨m,.inl (Bo q),GR q,by rw[e,if_neg h,q];rfl⟩
theorem zmZ{h:d7}(g:jf h)(b:z8 k h)(bw:Bd (k+k) (w*w))(hk:k<=2000)(S:So):
 t6 (eN b8 (ak (eB (aN .FloorDiv) (eB (aN .Mult) (eB aH (eB aH (aj 0) (kq 0)) (kq 0)) (aj 1)) (eB aH (eB aH (aj 0) (kq 0)) (kq 1))) (ak (eB aH (aj 0) (kq 1)) au))) [.int (w*w)] [bH h] S=some (jR w h,S):=by
 show eN _ _ [some (bH h),some (.int (w*w))] S=_;have e0:∀S,eB aH (aj 0) (kq 0) [some (bH h),some (.int (w*w))] S=some (rD h.1,S):=λS=>bI (aG rfl) bG (ji rfl);have hq:h.1.1*(w*w) / h.1.2=(h.1.1*(w*w)).fdiv h.1.2:=(Int.fdiv_eq_ediv_of_nonneg _ (Int.le_of_lt g.1)).symm;unfold jR lZ;rw[hq];refine bC (aK (bI (bI (bI (e0 S) bG (ji rfl)) (aG rfl) (Gi (wj b.a bw (by omega)))) (bI (e0 S) bG (ji rfl)) (p6 (La b.b (by have:=g.1;omega) (by omega)))) (aK (bI (aG rfl) bG (ji rfl)) aZ)) (jX (by show 2<=sizeLine;decide))
theorem zg9{hs:List d7}(hg:∀h∈hs,jf h/\z8 k h)(hl:hs.length<64)(h1:1<=k)(hk:k<=2000)(hS:WF S)(hT:jd "in_order" S=true)(hn:S[n]?=some (.lst (hs.map bH))):
 ∃w,(∀h∈hs,h.1.2<=w)/\Hj [.ref n] S=some (.ref (S.length+1),S++[.lst (hs.map λh => .int h.1.2)]++[.lst (((gJ (hs.map (jR w))).map λi=>hs.getD i jQ).map bH)]):=by
 have e1:eV (fP (aj 0)) (aL 0) d8 (eB aH (eB aH (aj 0) (kq 0)) (kq 1)) [none] [some (.ref n),none,none] S=some (.ref S.length,S++[.lst (hs.map λh => .int h.1.2)]) :=
  Bl hs bH (λh => .int h.1.2) (qb (aG rfl) hn) hn (by omega) rfl λh _=>bI (bI (aG rfl) bG (ji (z:=rD h.1) rfl)) bG (ji rfl)
 have hm:(S++[O.lst (hs.map λh=>D.int h.1.2)])[S.length]?=some (.lst ((hs.map λh=>h.1.2).map .int)):=by rw[List.map_map];exact cD
 obtain⟨w,w1,w2,e2⟩:=Z1 (k:=1) e1 bG hm;have bw:Bd k w:=by
  rcases w1 with w1|rfl
  .obtain⟨h,hh,rfl⟩:=List.mem_map.mp w1;exact(hg h hh).2.b
  .exact(show Bd 1 1 by unfold Bd;decide).le h1
 have hw:∀h∈hs,h.1.2<=w:=λh hh=>w2 _ (List.mem_map.mpr ⟨h,hh,rfl⟩);refine⟨w,hw,?_⟩;have W1:WF (S++[.lst (hs.map λh=>D.int h.1.2)]):=hS.snoc (by
  have:=Bb S.length (hs.map λh=>h.1.2)
  rwa [List.map_map] at this)
 have kp:=BL (hs.map (jR w));rw[cX] at kp;have lt:∀i∈gJ (hs.map (jR w)),i<hs.length:=λi hi=>List.mem_range.mp (kp.mem_iff.mp hi);have pe:=Vk (enc:=bH) jQ hs lt;have ks:pX (t6 (eN b8 (ak (eB (aN .FloorDiv) (eB (aN .Mult) (eB aH (eB aH (aj 0) (kq 0)) (kq 0)) (aj 1)) (eB aH (eB aH (aj 0) (kq 0)) (kq 1))) (ak (eB aH (aj 0) (kq 1)) au))) [.int (w*w)]) (S++[.lst (hs.map λh=>D.int h.1.2)]) (hs.map bH)=some (hs.map (jR w)) :=
  LR λh hh=>zmZ (hg h hh).1 (hg h hh).2 (bw.mul bw) hk _
 have kk:((hs.map (jR w)).all nq||(hs.map (jR w)).all lY)=true:=by rw[lV];exact .inr (List.all_eq_true.mpr λx hx=>by obtain⟨q,_,rfl⟩:=List.mem_map.mp hx;rfl)
 unfold Hj oM;rw[if_pos hT];refine uw (Z':=[some (.ref n),some (.int w),some (.int (w*w))]) ?_ ?_ (by simp) (by simp[D.lo]) (W1.snoc (ux _ _))
 .show Hi [some (.ref n),none,none] S=_;unfold Hi;refine aM (dY e2 (dR rfl)) (aX (aM (dY (bI (aG rfl) (aG rfl) (Gi (wj bw bw (by omega)))) (dR rfl)) (aX (aM (gC ?_) eZ))));refine(Rq (fe:=aj 0) (dg:=[.int (w*w)]) (Z:=[some (.ref n),some (.int w),some (.int (w*w))]) (src:=[2]) (aG rfl) rfl rfl (fB hn) (by simp;omega) ks kk).trans ?_;rw[pe,jE];rfl
 .intro h;simp[D.lo] at h;omega
section
variable {K:Nat}{o d:Pt}(ho:aJ K o)(hd:aJ K d)(h0:d≠(0,0,0))
include ho hd h0 in
theorem zlR(hK:K<=400){t:Option Tr}(ok:mW K shs t)(hl:shs.length<64)(hS:WF S)(hT:jd "in_order" S=true)(sc:ju S c shs t):
 ∃(n:Nat) (G:So),wG [.ref c,bL o d] S=some (.ref n,S++G)/\WF (S++G)/\S.length<=n/\(S++G)[n]?=some (.lst ((fC o d shs shs.length).map bH)):=by
 obtain⟨fs,p1,p2,p3⟩:=zn2 ho hd h0 (by omega) ok;have hh:=p3 S c hS sc;generalize hhs:fs.filterMap (cR o d shs)=hs at *
 have W3:WF (S++[.lst (hs.map bH)]++[.lst (fs.map bF)]++[.lst []]):=((hS.snoc (ux _ _)).snoc (GQ _ _)).snoc rfl;have n3:(S++[O.lst (hs.map bH)]++[O.lst (fs.map bF)]++[O.lst []])[S.length]?=some (.lst (hs.map bH)):=fB (fB cD);have T3:jd "in_order" (S++[O.lst (hs.map bH)]++[O.lst (fs.map bF)]++[O.lst []])=true:=by rw[f9,f9];exact nP hT
 have hg:∀h∈hs,jf h/\z8 (4*K+10) h:=λh hm=>by rw[<-hhs] at hm;obtain⟨i,hi,e⟩:=List.mem_filterMap.mp hm;exact⟨LK h0 e,(zrH ho hd h0 ok e).1⟩
 have ll:hs.length<64:=by have:=(p1.trans (v9 o d shs shs.length).symm).length_eq;have l2:=(v9 o d shs shs.length).length_eq;have l3:=List.length_filterMap_le (cR o d shs) (List.range shs.length);rw[List.length_range] at l3;omega
 obtain⟨w,hw,ei⟩:=zg9 hg ll (by omega) (by omega) W3 T3 n3;rw[zoI h0 p1 hw] at ei;generalize sH:S++[O.lst (hs.map bH)]++[O.lst (fs.map bF)]++[O.lst []]=S3 at *
 have l3:S.length<=S3.length:=by rw[<-sH];simp
 have lw:=Bb S3.length (hs.map λh=>h.1.2);rw[List.map_map] at lw;have W5:WF (S3++[.lst (hs.map λh => .int h.1.2)]++[.lst ((fC o d shs shs.length).map bH)]):=(W3.snoc lw).snoc (ux _ _);have eG:S3++[O.lst (hs.map λh => .int h.1.2)]++[O.lst ((fC o d shs shs.length).map bH)]=S++([O.lst (hs.map bH)]++[O.lst (fs.map bF)]++[O.lst []]++[O.lst (hs.map λh => .int h.1.2)]++[O.lst ((fC o d shs shs.length).map bH)]):=by rw[<-sH];simp only[f9]
 refine⟨S3.length+1,_,?_,by rw[<-eG];exact W5,by omega,?_⟩
 .rw[<-eG];refine uw (Z':=[some (.ref c),some (bL o d)]) ?_ ?_ (by simp;omega) (by simp[D.lo]) W5
  .show wF [some (.ref c),some (bL o d)] S=_;unfold wF;exact aM (gC (bC (aK (Gs (aG rfl) sc.ins rfl (aK (aG rfl) aZ) rfl hh) aZ) (cY rfl ei))) eZ
  .intro h;simp[D.lo] at h;omega
 .rw[<-eG,show S3.length+1=(S3++[O.lst (hs.map λh=>D.int h.1.2)]).length by simp];exact cD
end
theorem zpx{i:Int}{d:D}{S3:So}(h1:S[n]?=some (.lst xs))(h:0<=i/\i<=xs.length/\xs.length<sizeLine)(h3:S.set n (.lst (xs.take i.toNat++d::xs.drop i.toNat))=S3):yR (.ref n) [.int i,d] S=some (.non,S3):=by unfold yR;simp only;rw[h1];simp only;rw[if_pos h,h3]
def zn5{o o':O}:(S++[o]).set S.length o'=S++[o']:=by simp
theorem Ub{k:Nat}{t:Int×Int}{fs:List d7}{x0 x1:D}{x3:Option D}{n:Nat}{S:So}(hS:S[n]?=some (.lst (fs.map bH)))(b1:Bd k t.1)(b2:Bd k t.2)(hb:∀x∈fs,z8 k x)(hk:k<=10000):
 ∀p,p<=fs.length->jK (qT (bZ (eB (bB .Gt) (aj 5) (kq 0))) (jy (eN (aO 2 BV) (ak (aj 4) (ak (eB aH (eB aH (aj 2) (eB (aN .Sub) (aj 5) (kq 1))) (kq 0)) au))))) (aB (bD (eB (aN .Sub) (aj 5) (kq 1)) (aL 5)) aP)
  [some x0,some x1,some (.ref n),x3,some (rD t),some (.int (p:Nat))] S=some (.nx,[some x0,some x1,some (.ref n),x3,some (rD t),some (.int (gM t fs p:Nat))],S)
 |0,_=>Be (K4 (b:=false) (gk (bI (aG rfl) bG Gg)) (ir rfl rfl))
 |p+1,hp=>by
  have ih:=Ub (x0:=x0) (x1:=x1) (x3:=x3) hS b1 b2 hb hk p (by omega);have hp':p<fs.length:=by omega
  have hg:fs.getD p jQ=fs[p]:=by rw[List.getD_eq_getElem?_getD,fM hp'];rfl
  have hat:fX (fs.map bH) (((p+1:Nat):Int) - 1)=some (bH fs[p]):=by rw[show((p+1:Nat):Int) - 1=(p:Nat) by omega];exact Gq (by simp[hp'])
  have bq:=hb _ (List.getElem_mem hp');have hless:=zlQ b1 b2 bq.a bq.b (show k+k<=134217728 by omega) S;have tt:∀bb,decide (t.1*(fs[p]).1.2<(fs[p]).1.1*t.2)=bb->qT (bZ (eB (bB .Gt) (aj 5) (kq 0))) (jy (eN (aO 2 BV) (ak (aj 4) (ak (eB aH (eB aH (aj 2) (eB (aN .Sub) (aj 5) (kq 1))) (kq 0)) au)))) [some x0,some x1,some (.ref n),x3,some (rD t),some (.int ((p+1:Nat):Int))] S=some (bb,S):=λbb e=>by rw[e] at hless;exact K4 (b:=true) (gk ((bI (aG rfl) bG Gg).trans (by rw[lJ (show(0:Int)<((p+1:Nat):Int) by omega)]))) (jz rfl (Gu (bC (aK (aG rfl) (aK (bI (bI (aG rfl) (bI (aG rfl) bG Gj) (vZ hS hat)) bG (ji (z:=rD (fs[p]).1) rfl)) aZ)) (cY rfl hless)) rfl))
  unfold gM;rw[hg];by_cases hc:eH t (fs[p]).1
  .rw[if_pos hc];refine Ls (σ1:=[some x0,some x1,some (.ref n),x3,some (rD t),some (.int ((p:Nat):Int))]) (fl := .nx) (S1:=S) (S2:=S) (tt true (decide_eq_true hc)) ?_ (.inl rfl) ih;have e:((p:Nat):Int)=((p+1:Nat):Int) - 1:=by omega
   rw[e];exact aM (dY (bI (aG rfl) bG Gj) (dR rfl)) (aX gB)
  .rw[if_neg hc];exact Be (tt false (decide_eq_false hc))
section
variable {K:Nat}{o d:Pt}(ho:aJ K o)(hd:aJ K d)(h0:d≠(0,0,0))
include ho hd h0 in
theorem ziP(hK:K<=400)(hs:∀s∈shs,kj K s)(hl:shs.length<=32){m:Nat}(hS:WF S)(hm:S[m]?=some (.lst (shs.map cI))):Np [bL o d,.ref m] S=some (.ref S.length,S++[.lst ((fC o d shs shs.length).map bH)]):=by
 have bd:∀j,∀x∈fC o d shs j,z8 (4*K+10) x:=λj x hx=>by obtain⟨_,_,e⟩:=Bj h0 hx;obtain⟨s,p,e1,e2,e3⟩:=Bm.mp e;have b:=JS ho hd (hs s (List.mem_of_getElem? e1)) h0 p e2;have e4:x.1=p:=congrArg Prod.fst e3;exact⟨by rw[e4];exact b.2.2.1,by rw[e4];exact b.2.2.2⟩
 have len:∀j,(fC o d shs j).length<=j:=λj=>by have l2:=(v9 o d shs j).length_eq;have l3:=List.length_filterMap_le (cR o d shs) (List.range j);rw[List.length_range] at l3;omega
 have inv:=GX (nx:=dJ (.fix (gZ 0 shs.length))) (g:=aL 3) (f:=HJ) (xs:=gZ 0 shs.length)
  (λj Z S'=>∃a b c,Z=[some (bL o d),some (.ref m),some (.ref S.length),a,b,c]/\S'=S++[.lst ((fC o d shs j).map bH)])
  (λj Z S' _=>rfl)
  (λj dd Z S' hj ⟨a,b,c,e1,e2⟩=>?_) shs.length 0 [some (bL o d),some (.ref m),some (.ref S.length),none,none,none] (S++[.lst []]) ⟨none,none,none,rfl,rfl⟩ (by simp[gZ])
 .obtain⟨Z',S',e,a,b,c,rfl,hSS⟩:=inv;rw[hSS] at e;rw[show(gZ 0 shs.length).length=shs.length by simp[gZ]] at e;refine uw (Z':=[some (bL o d),some (.ref m),some (.ref S.length),a,b,c]) ?_ ?_ (by simp) (by simp[D.lo]) (hS.snoc (ux _ _))
  .show N8 [some (bL o d),some (.ref m),none,none,none,none] S=_;unfold N8 XM Xw Xx;have ln:=oO (fB (p:=O.lst []) hm);rw[cX] at ln;refine aM (dY (bC aZ (v7 (Nat.zero_le _))) (dR rfl)) (aX (aM (fl := .nx) (rz (n:=shs.length) (KZ (j:=(shs.length:Int)) (aK (bC (aK (aG rfl) aZ) ln) aZ) (by omega)) ?_ ?_) (aX (aM (gC (aG rfl)) eZ))))
   .show some (gZ 0 (shs.length:Int).toNat).length=_;simp[gZ]
   .rw[Int.toNat_natCast];exact e
  .intro h;simp[D.lo] at h
 .subst e1 e2;have hj':j<shs.length:=by have:=(fj.mp hj).1;simpa[gZ] using this
  have hd':dd = .int (j:Nat):=by rw[Nf,if_pos hj'] at hj;have:=(Option.some.inj hj).symm;rw[this];congr 1;omega
  subst hd';have Yp:=hs _ (List.getElem_mem hj');have W1:WF (S++[.lst ((fC o d shs j).map bH)]):=hS.snoc (ux _ _);have mt:=zg8 ho hd Yp h0 (by omega) _ W1;have hix:fX (shs.map cI) ((j:Nat):Int)=some (cI shs[j]):=Gq (by simp[hj']);have hat:cR o d shs j=(iw o d shs[j]).map λp=>(p,j):=by unfold cR;rw[fM hj'];rfl
  have b1:Oj [some (bL o d),some (.ref m),some (.ref S.length),some (.int (j:Nat)),b,c] (S++[.lst ((fC o d shs j).map bH)])=some (.nx,[some (bL o d),some (.ref m),some (.ref S.length),some (.int (j:Nat)),some (tD (iw o d shs[j])),c],S++[.lst ((fC o d shs j).map bH)]):=by unfold Oj;exact dY (bC (aK (aG rfl) (aK (bI (aG rfl) (aG rfl) (vZ (fB hm) hix)) aZ)) (cY rfl mt)) (dR rfl)
  have b2:∃c',Ol [some (bL o d),some (.ref m),some (.ref S.length),some (.int (j:Nat)),some (tD (iw o d shs[j])),c] (S++[.lst ((fC o d shs j).map bH)])=some (.nx,[some (bL o d),some (.ref m),some (.ref S.length),some (.int (j:Nat)),some (tD (iw o d shs[j])),c'],S++[.lst ((fC o d shs (j+1)).map bH)]):=by
   unfold Ol;have ed:fC o d shs (j+1)=match cR o d shs j with
    |none=>fC o d shs j
    |some h=>vC h (fC o d shs j):=rfl
   rw[ed,hat];cases e:iw o d shs[j] with
   |none=>exact⟨c,gK (b:=false) (gk (bI (aG rfl) bG Bk)) (ir rfl gB)⟩
   |some p =>
    have bp:=JS ho hd Yp h0 p e;have wh:=Ub (x0:=bL o d) (x1 := .ref m) (x3:=some (.int (j:Nat))) (t:=p) (n:=S.length) (S:=S++[.lst ((fC o d shs j).map bH)]) cD bp.2.2.1 bp.2.2.2 (bd j) (by omega) _ (bT _);have ln:=oO (S:=S++[.lst ((fC o d shs j).map bH)]) cD;rw[cX] at ln;obtain⟨q1,q2,q3⟩:=Mp p (fC o d shs j) (fC o d shs j).length;have ll:=len j;refine⟨some (.int (gM p (fC o d shs j) (fC o d shs j).length:Nat)),gK (b:=true) (gk (bI (aG rfl) bG Bk)) (jz rfl ?_)⟩;refine aM (dY (bC (aK (aG rfl) aZ) ln) (dR rfl)) (aX (aM wh (aX (aM (oN (yU (aG rfl) cD (aK (aG rfl) (aK (bC (aK (aG rfl) (aK (aG rfl) aZ)) (jX (by show 2<=sizeLine;decide))) aZ)) (zpx cD ⟨by omega,by rw[cX];omega,by rw[cX,sizeLine_eq];omega⟩ ?_))) (aX gB)))));rw[Int.toNat_natCast,zn5];unfold vC;simp only[tV,iC,List.map_take,List.map_drop,m8];rfl
  obtain⟨c',b2⟩:=b2;have b3:HJ [some (bL o d),some (.ref m),some (.ref S.length),some (.int (j:Nat)),b,c] (S++[.lst ((fC o d shs j).map bH)])=some (.nx,[some (bL o d),some (.ref m),some (.ref S.length),some (.int (j:Nat)),some (tD (iw o d shs[j])),c'],S++[.lst ((fC o d shs (j+1)).map bH)]):=by unfold HJ;exact aM b1 (aX (aM b2 (aX gB)))
  exact⟨_,_,.nx,_,_,dR rfl,b3,.inl rfl,_,_,_,rfl,rfl⟩
end
end MX.P
end
end
section
local macro_rules|`(tactic|wtm_at $s)=>uS s "d&"
namespace MX.K17
open PySem PySem.Spec L2 MX MX.P
theorem zhB{o:Pt}{S:So}{c:Nat}{shs:List Sh}{t:Option Tr}(sc:ju S c shs t):wG [.ref c,eE o] S=none/\Bx [.ref c,eE o] S=some ("NoRay" : Str):=by
 have ea:ak (aj 1) au [some (.ref c),some (eE o)] S=some ([eE o],S):=aK (aG rfl) aZ;have ev:aj 0 [some (.ref c),some (eE o)] S=some (.ref c,S):=aG rfl;constructor
 .have e:wF (iH 2 [.ref c,eE o]) S=none:=by
   show wF [some (.ref c),some (eE o)] S=none;have e2:kI "Scene" "hits" 2 uE (aj 0) (ak (aj 1) au) [some (.ref c),some (eE o)] S=none:=Gs ev sc.ins rfl ea rfl Wi.1;have e3:ak (kI "Scene" "hits" 2 uE (aj 0) (ak (aj 1) au)) au [some (.ref c),some (eE o)] S=none:=by show(kI "Scene" "hits" 2 uE (aj 0) (ak (aj 1) au) [some (.ref c),some (eE o)] S).bind _=none;rw[e2];rfl
   unfold wF aB bW eN;rw[e3];rfl
  unfold wG fnOf;rw[e]
 .have e:BJ (iH 2 [.ref c,eE o]) S=some (("NoRay" : Str),S):=by show BJ [some (.ref c),some (eE o)] S=_;unfold BJ tY;rw[ev];simp only[bM];rw[sc.ins];simp only;rw[if_pos ⟨trivial,rfl⟩,ea];simp only[bM];rw[if_pos (show[eE o].length+1=2 from rfl),Wi.2];rfl
  unfold Bx nM;rw[e];simp only;rw[if_pos pO]
def zrA:oh "list" "list" = some true:=by kernel_rfl
theorem zmM{n:Nat}{xs:List D}{S:So}(h:S[n]?=some (.lst xs)):m9 [.ref n,.ty "list"] S=some (.bl true,S):=by
 have:zP (.ref n) S=some "list" := by unfold zP;simp only;rw[h]
 show((zP (.ref n) S).bind λt=>(oh t "list").map λb=>(D.bl b,S))=_;rw[this];simp only[bM,zrA,m8]
def zpu{n:Nat}{xs:List D}{S:So}(h1:S[n]?=some (.lst xs)):yO (.ref n) [] S=some (.non,S.set n (.lst xs.reverse)):=by unfold yO;simp only[h1]
theorem YJ{g:GM}{fo:EF}{Z:Sg}{S S1:So}{n:Nat}{xs:List D}{r:Option (D×So)}(h1:fo Z S=some (.ref n,S1))(h2:S1[n]?=some (.lst xs))(h3:g (.ref n) [] S1=r):uZ g fo Z S=r:=by unfold uZ;rw[h1];simp only[bM];rw[h2];exact h3
theorem Sq{S:So}{n:Nat}{o:O}(h:WF S)(ho:O.lo S.length o=true):WF (S.set n o):=λp hp=>by
 rw[List.length_set];rcases List.mem_or_eq_of_mem_set hp with q|rfl
 .exact h p q
 .exact ho
def zow(h:d7):c7 2 (bH h)=true:=rfl
abbrev loc(k m r du to c st:Option D):Sg:=[some (.ref 0),k,m,r,du,to,c,st]
section
variable {ns:List Int}(hn:ns.length<=63){shs:List Sh}{t:Option Tr}{m c:Nat}{S:So}
include hn in
theorem turn(hk:∀s∈shs,kj 101 s)(hl:shs.length<=32)(ok:mW 101 shs t)(hS:WF S)(F:lA ns S)(hT:jd "in_order" S=true)(sc:ju S c shs t)(hm:S[m]?=some (.lst (shs.map cI)))(j:Int)(r du to:Option D):
 ∃r' Yy XS G,Hx (loc (some (.int j)) (some (.ref m)) r du to (some (.ref c)) none) S=some (.nx,loc (some (.int j)) (some (.ref m)) r' Yy XS (some (.ref c)) none,S++G)/\WF (S++G):=by
 obtain⟨o,d,bo,bd,h0,er⟩:=zqt hn j;have Yz:aJ 101 o:=bo.le (by omega);have YB:aJ 101 d:=bd.le (by omega);have Yx:=ziP Yz YB h0 (by omega) hk hl hS hm;generalize hD:fC o d shs shs.length=dl at Yx;have ll:dl.length<=32:=by rw[<-hD];have l2:=(v9 o d shs shs.length).length_eq;have l3:=List.length_filterMap_le (cR o d shs) (List.range shs.length);rw[List.length_range] at l3;omega
 have W1:WF (S++[.lst (dl.map bH)]):=hS.snoc (ux _ _);obtain⟨n,G1,ev1,W2,hn1,hn2⟩:=zlR Yz YB h0 (by omega) ok (by omega) W1 (nP hT) (sc.app _);rw[hD] at hn2;have du2:(S++[O.lst (dl.map bH)]++G1)[S.length]?=some (.lst (dl.map bH)):=by rw[lW (by simp)];exact cD
 rw[jE] at hn1;generalize hS2:S++[O.lst (dl.map bH)]++G1=S2 at *
 have hpl:∀x∈dl.map bH,c7 2 x=true:=λx hx=>by obtain⟨h,_,rfl⟩:=List.mem_map.mp hx;exact zow h
 have ne:=Z3 (S:=S2) 2 (.inl hn2) (.inl du2) hpl hpl (by decide);rw[lJ rfl] at ne;have s1:Ob (loc (some (.int j)) (some (.ref m)) r du to (some (.ref c)) none) S=some (.nx,loc (some (.int j)) (some (.ref m)) (some (bL o d)) du to (some (.ref c)) none,S):=by unfold Ob;exact dY (bC (aK (aG rfl) (aK (aG rfl) aZ)) (cY rfl (er S F))) (dR rfl)
 have s2:Oc (loc (some (.int j)) (some (.ref m)) (some (bL o d)) du to (some (.ref c)) none) S=some (.nx,loc (some (.int j)) (some (.ref m)) (some (bL o d)) (some (.ref S.length)) to (some (.ref c)) none,S++[.lst (dl.map bH)]):=by unfold Oc;exact dY (bC (aK (aG rfl) (aK (aG rfl) aZ)) (cY rfl Yx)) (dR rfl)
 have s3:Od (loc (some (.int j)) (some (.ref m)) (some (bL o d)) (some (.ref S.length)) to (some (.ref c)) none) (S++[.lst (dl.map bH)])=some (.nx,loc (some (.int j)) (some (.ref m)) (some (bL o d)) (some (.ref S.length)) (some (.ref n)) (some (.ref c)) none,S2):=by unfold Od;exact dY (Gs (aG rfl) (sc.app [.lst (dl.map bH)]).ins rfl (aK (aG rfl) aZ) rfl ev1) (dR rfl)
 have s4:Oe (loc (some (.int j)) (some (.ref m)) (some (bL o d)) (some (.ref S.length)) (some (.ref n)) (some (.ref c)) none) S2=some (.nx,loc (some (.int j)) (some (.ref m)) (some (bL o d)) (some (.ref S.length)) (some (.ref n)) (some (.ref c)) none,S2):=by unfold Oe;exact gK (b:=false) (Av (b:=false) (K5 (b:=true) (Gu (bC (aK (aG rfl) (aK bG aZ)) (zmM hn2)) rfl)) (ir rfl (gk (bI (aG rfl) (aG rfl) ne)))) (ir rfl gB)
 have s5:Og (loc (some (.int j)) (some (.ref m)) (some (bL o d)) (some (.ref S.length)) (some (.ref n)) (some (.ref c)) none) S2=some (.nx,loc (some (.int j)) (some (.ref m)) (some (bL o d)) (some (.ref S.length)) (some (.ref n)) (some (.ref c)) none,S2++[.lst (dl.map λ_ => .bl true)]):=by
  unfold Og;have lc:=Bl (Z:=loc (some (.int j)) (some (.ref m)) (some (bL o d)) (some (.ref S.length)) (some (.ref n)) (some (.ref c)) none) (src:=[none]) (fe:=pP (eN m9 (ak (aj 0) (ak (eC (.ty "tuple")) au))) (eN (aO 1 Hy) (ak (eB aH (aj 0) (kq 1)) au))) dl bH (λ_=>D.bl true) (qb (fe:=aj 5) (aG rfl) hn2) hn2 (by omega) rfl λh _ =>
   S9 (b:=true) (bC (aK (aG rfl) (aK bG aZ)) ev_isi_tup) (jz rfl (bC (aK (bI (aG rfl) bG (ji (z:=bF h.2) rfl)) aZ) (cY rfl (zlN (h.2:Int) S2))))
  have al:=ZX (S:=S2++[.lst (dl.map λ_=>D.bl true)]) (n:=S2.length) (bs:=dl.map λ_=>true) (by rw[List.map_map];exact cD);have e:(dl.map λ_=>true).all id=true:=by simp
  rw[e] at al;exact gK (b:=false) (K5 (b:=true) (Gu (bC (aK lc aZ) al) rfl)) (ir rfl gB)
 have lo5:O.lo S2.length (.lst (dl.map λ_=>D.bl true))=true:=jB.mpr λx hx=>by obtain⟨_,_,rfl⟩:=List.mem_map.mp hx;rfl
 have W5:=W2.snoc lo5;have Im:(S2++[O.lst (dl.map λ_=>D.bl true)])[n]?=some (.lst (dl.map bH)):=fB hn2;generalize hS5:S2++[O.lst (dl.map λ_=>D.bl true)]=S5 at *
 have Qx:S5=S++([O.lst (dl.map bH)]++G1++[O.lst (dl.map λ_=>D.bl true)]):=by rw[<-hS5,<-hS2];simp only[f9]
 have hnl:n<S5.length:=(fj.mp Im).1;have Ym:∀k,∀x∈dl.map bH++[D.tup [bL o d,.int (0 - 1)]],D.lo k x=true:=λk x hx=>by
  rcases lB.mp hx with hx|hx
  .exact JZ (hpl x hx)
  .rw[List.mem_singleton.mp hx];exact JZ (n:=4) rfl
 have W6:WF (S5.set n (.lst (dl.map bH++[D.tup [bL o d,.int (0 - 1)]]))):=Sq W5 (jB.mpr (Ym _));have s6:Ng (loc (some (.int j)) (some (.ref m)) (some (bL o d)) (some (.ref S.length)) (some (.ref n)) (some (.ref c)) none) S5=some (.nx,loc (some (.int j)) (some (.ref m)) (some (bL o d)) (some (.ref S.length)) (some (.ref n)) (some (.ref c)) none,S5.set n (.lst (dl.map bH++[D.tup [bL o d,.int (0 - 1)]]))):=by unfold Ng;exact oN (yU (aG rfl) Im (aK (bC (aK (aG rfl) (aK (bI bG bG Gj) aZ)) (jX (by show 2<=sizeLine;decide))) aZ) (Mu Im (by rw[cX,sizeLine_eq];omega) rfl))
 have Il:(S5.set n (.lst (dl.map bH++[D.tup [bL o d,.int (0 - 1)]])))[n]?=some (.lst (dl.map bH++[D.tup [bL o d,.int (0 - 1)]])):=zqv hnl;have s7:Nh (loc (some (.int j)) (some (.ref m)) (some (bL o d)) (some (.ref S.length)) (some (.ref n)) (some (.ref c)) none) (S5.set n (.lst (dl.map bH++[D.tup [bL o d,.int (0 - 1)]])))=some (.nx,loc (some (.int j)) (some (.ref m)) (some (bL o d)) (some (.ref S.length)) (some (.ref n)) (some (.ref c)) none,(S5.set n (.lst (dl.map bH++[D.tup [bL o d,.int (0 - 1)]]))).set n (.lst (dl.map bH++[D.tup [bL o d,.int (0 - 1)]]).reverse)):=by unfold Nh;exact oN (YJ (aG rfl) Il (zpu Il))
 have W7:=Sq (n:=n) W6 (o := .lst (dl.map bH++[D.tup [bL o d,.int (0 - 1)]]).reverse) (jB.mpr λx hx=>Ym _ x (List.mem_reverse.mp hx));have eG:∃G,(S5.set n (.lst (dl.map bH++[D.tup [bL o d,.int (0 - 1)]]))).set n (.lst (dl.map bH++[D.tup [bL o d,.int (0 - 1)]]).reverse)=S++G:=by rw[Qx,List.set_append_right _ _ (by omega),List.set_append_right _ _ (by omega)];exact⟨_,rfl⟩
 obtain⟨G,eG⟩:=eG;rw[eG] at s7 W7;refine⟨some (bL o d),some (.ref S.length),some (.ref n),G,?_,W7⟩;unfold Hx;exact aM s1 (aX (aM s2 (aX (aM s3 (aX (aM s4 (aX (aM s5 (aX (aM s6 (aX (aM s7 (aX gB)))))))))))))
end
theorem zmu:∀ns:List Int,ns.length<=63->∃Z' gP,Wb (iH 8 [.ref 0]) (.frz (ns.map D.int)::(["tree_over", "in_order", "law"]:List Str).map O.tbl)=some (.rt (.bl true),Z',gP):=by
 intro ns hn;have F0:lA ns (.frz (ns.map D.int)::(["tree_over", "in_order", "law"]:List Str).map O.tbl):=rfl;have T0:∀x∈(["tree_over", "in_order"]:List Str),jd x (.frz (ns.map D.int)::(["tree_over", "in_order", "law"]:List Str).map O.tbl)=true:=by
  intro x hx;unfold jd;rw[List.any_eq_true];refine⟨.tbl x,cM _ (List.mem_map.mpr ⟨x,?_,rfl⟩),decide_eq_true rfl⟩;rcases List.mem_cons.mp hx with rfl|hx
  .exact fG ..
  .rw[List.mem_singleton.mp hx];exact cM _ (fG ..)
 have Tt:=T0 "tree_over" (fG ..);have Ti:=T0 "in_order" (cM _ (List.mem_singleton.mpr rfl));have W0:WF (.frz (ns.map D.int)::(["tree_over", "in_order", "law"]:List Str).map O.tbl):=by
  intro o ho;rcases List.mem_cons.mp ho with rfl|ho
  .show cL _ _=true;rw[jB];intro x hx;obtain⟨z,_,rfl⟩:=List.mem_map.mp hx;simp[D.lo]
  .obtain⟨y,_,rfl⟩:=List.mem_map.mp ho;rfl
 clear T0;generalize hS0:(.frz (ns.map D.int)::(["tree_over", "in_order", "law"]:List Str).map O.tbl:So)=S0 at *
 have st0:iH 8 [.ref 0]=loc none none none none none none none:=rfl;rw[st0];obtain⟨shs,hl,hk,lc⟩:=zkB hn;have e1:=lc (loc none none none none none none none) S0 F0 rfl rfl;have W1:WF (S0++[.lst (shs.map cI)]):=W0.snoc (J4 _ _);have hk':∀s∈shs,kj 101 s:=λs hs=>⟨λp hp=>((hk s hs).bd p hp).le (by omega),(hk s hs).2⟩
 obtain⟨t,G,ok,mk,W2,sc⟩:=zmp (K:=101) (S:=S0++[.lst (shs.map cI)]) (S0:=S0++[.lst (shs.map cI)]) (Z:=loc none (some (.ref S0.length)) none none none none none) (fa:=ak (aj 2) au) W1 (nP Tt) cD (by omega) hk' (aK (aG rfl) aZ);have sh2:(S0++[O.lst (shs.map cI)]++G)[S0.length]?=some (.lst (shs.map cI)):=by rw[lW (by simp)];exact cD
 have F2:lA ns (S0++[O.lst (shs.map cI)]++G):=(F0.app _).app _;have Ti2:jd "in_order" (S0++[O.lst (shs.map cI)]++G)=true:=nP (nP Ti);generalize hc:(S0++[O.lst (shs.map cI)]).length=c at *
 generalize hm:S0.length=m at *
 generalize hS2:S0++[O.lst (shs.map cI)]++G=S2 at *
 have W3:WF (S2++[.lst [.int 40,.int 41,.int 40]]):=W2.snoc rfl;have X7:=sc.app [.lst [.int 40,.int 41,.int 40]];have F3:=F2.app [.lst [.int 40,.int 41,.int 40]];have T3:jd "in_order" (S2++[O.lst [.int 40,.int 41,.int 40]])=true:=nP Ti2;have sh3:(S2++[O.lst [.int 40,.int 41,.int 40]])[m]?=some (.lst (shs.map cI)):=fB sh2;have Qm:(S2++[O.lst [.int 40,.int 41,.int 40]])[S2.length]?=some (.lst [.int 40,.int 41,.int 40]):=cD;generalize sH:S2++[O.lst [.int 40,.int 41,.int 40]]=S3 at *
 have old:∀(G:So) {i:Nat} {x:O},S3[i]?=some x->(S3++G)[i]?=some x:=λG i x e=>by rw[lW (fj.mp e).1];exact e
 have inv:=GX (nx:=dJ (.lst S2.length)) (g:=aL 1) (f:=Hx) (xs:=[.int 40,.int 41,.int 40])
  (λj Z S'=>∃k r du to G,Z=loc k (some (.ref m)) r du to (some (.ref c)) none/\S'=S3++G/\WF (S3++G))
  (λj Z S' ⟨_,_,_,_,G,_,e,_⟩=>by subst e;unfold dJ;simp only;rw[old G Qm])
  (λj dd Z S' hj ⟨k,r,du,to,G,e1,e2,e3⟩=>?_) 3 0 (loc none (some (.ref m)) none none none (some (.ref c)) none) S3 ⟨none,none,none,none,[],rfl,by simp,by simpa using W3⟩ (by simp)
 .obtain⟨Z',S',e,k,r,du,to,G,rfl,rfl,W4⟩:=inv;have F4:=F3.app G;have Pz:=X7.app G;generalize S3++G=S4 at *
  have c0:=p8 hn 0 F4;have c2:=p8 hn 2 F4;generalize jc ns 0=ce at c0;generalize jc ns 2=c2' at c2;have p1:=Ke (zj c2') (by decide) ce S4;have q1:=uy c2' S4;generalize iM ce (fW c2')=o at p1;generalize fW c2'=u1 at p1 q1;have fs:=zhB (o:=o) Pz;have ev0:aj 0 [some (.ref c),some (eE o)] S4=some (.ref c,S4):=aG rfl;have ea:ak (aj 1) au [some (.ref c),some (eE o)] S4=some ([eE o],S4):=aK (aG rfl) aZ;have xb:tY "Scene" "every" 2 Bx (aj 0) (ak (aj 1) au) [some (.ref c),some (eE o)] S4=some (("NoRay" : Str),S4):=by unfold tY;rw[ev0];simp only[bM];rw[Pz.ins];simp only;rw[if_pos ⟨trivial,rfl⟩,ea];simp only[bM];rw[if_pos (show[eE o].length+1=2 from rfl),fs.2];rfl
  have told:=zpt (Z:=loc k (some (.ref m)) r du to (some (.ref c)) (some (eE o))) (src:=[6,7]) (dg:=[.ref c,eE o]) (iT:=rN "refused") (fb:=kI "Scene" "every" 2 wG (aj 0) (ak (aj 1) au)) (S:=S4) rfl (Gs (aG rfl) Pz.ins rfl (aK (aG rfl) aZ) rfl fs.1) xb (d := .tup [.str "refused",.str "NoRay"]) rfl;apply Exists.intro;apply Exists.intro;refine aM (dY e1 (dR rfl)) (aX (aM (dY mk (dR rfl)) (aX ?_)));refine aM (fl := .nx) (rz (n:=3) (qb (bC (aK bG (aK bG (aK bG aZ))) (by rw[<-sH];exact v7 (by show 3<=sizeLine;decide))) Qm) (by show(match S3[S2.length]? with|some (.lst xs)=>some xs.length|some (.frz xs)=>some xs.length|_=>none)=_;rw[Qm];rfl) e) (aX ?_);refine aM (dY (bC (aK (bC (aK (bC (aK (bC (aK (aG rfl) (aK bG aZ)) (cY rfl c2)) aZ) (cY rfl q1)) (aK (bC (aK (aG rfl) (aK bG aZ)) (cY rfl c0)) aZ)) (cY rfl p1)) (aK (bC (aK bG (aK bG (aK bG aZ))) (jX (by show 3<=sizeLine;decide))) aZ)) (jX (by show 2<=sizeLine;decide))) (dR rfl)) (aX ?_);have fin:=bI told (bC (aK (bG (d := .str "refused")) (aK (bG (d := .str "NoRay")) aZ)) (jX (by show 2<=sizeLine;decide))) (yX (x := .tup [.str "refused",.str "NoRay"]) (y := .tup [.str "refused",.str "NoRay"]) (S:=S4) rfl 2 (by decide +kernel) (by decide +kernel) (by decide));rw[lJ rfl] at fin;exact aM (gC fin) eZ
 .subst e1 e2;obtain⟨z,hz⟩:∃z:Int,dd = .int z:=by
   have hm:=List.mem_of_getElem? hj;simp only[List.mem_cons,qC,or_false] at hm;rcases hm with rfl|rfl|rfl
   .exact⟨40,rfl⟩
   .exact⟨41,rfl⟩
   .exact⟨40,rfl⟩
  subst hz;obtain⟨r',Yy,XS,G',e,w⟩:=turn hn hk' (by omega) ok e3 (F3.app G) (nP T3) (X7.app G) (old G sh3) z r du to;exact⟨_,_,.nx,_,_,dR rfl,e,.inl rfl,_,_,_,_,G++G',rfl,f9 ..,by rw[<-f9];exact w⟩
end MX.K17
end
section
local macro_rules|`(tactic|wtm_at $s)=>uS s "AJ#zK"
namespace MX.K17
open PySem PySem.Spec PySem.W PyProof.Rows L2 MX MX.P
abbrev LF:=List (Str×Nat×GN)
abbrev F0:LF:=[]
abbrev E0:CE:={ flds:=[("kept", "Scene"),("tree", "Scene"),("box", "Tree"),("number", "Tree"),("halves", "Tree")],gls:=[] }
section
variable {w:World}{K:FgA}{mg:Str->Option Value}{base h:Heap}{k n:Nat}{x:Str}{F:LF}{E:CE}{fb:SF}
abbrev AA(w:World)(K:FgA)(mg:Str->Option Value)(base:Heap)(k:Nat)(F:LF)(E:CE):Prop:=bO PG w K mg base k F/\dX PG w K mg base k E
theorem nf(st:Stmt)(ps:List Str)(a:AA w K mg base k F E)(b:K.In h/\h.Ns mainGlobals mg/\∀y∈blt,mg y=none)(hD:cV K x st)(p:mz x st ps/\jJ (fu (aY st).names) ps (aY st)/\(aY st).names.all (λy=>decide ((aY st).names.lookup y.1=some y.2))=true/\(fu (aY st).names).length=n/\jq 40 (lE st F blt E) (fV st)=some fb):AA w K mg base (k+1) ((x,ps.length,fnOf n fb)::F) E :=
 ⟨zmI a.1 a.2 b.1 b.2.1 b.2.2 hD p.1 p.2.1 p.2.2.1 p.2.2.2.1 p.2.2.2.2,a.2.mono (Nat.le_succ k)⟩
theorem nt{c:Addr}(a:AA w K mg base k F E)(b:K.In h/\h.Ns mainGlobals mg/\∀y∈blt,mg y=none)(hD:qM K "tree_over" (top 39) c)(hC:CodeHd base c (gY K "tree_over"))(hB:BM base mg)(hb:jq 40 (sy 40 (top 39) F blt E "leaf") (fV (top 39))=some fb:=by kernel_rfl):AA w K mg base (k+4) (("tree_over",1,oM "tree_over" 5 fb)::F) E :=
 ⟨Ux (ps:=["leaves"]) a.1 a.2 b.1 b.2.1 b.2.2 hD hC hB (zuC λ_ _ _ _ _ _ _=>rfl) (by exact⟨rfl,rfl,rfl,by decide +kernel,by kernel_rfl,by decide +kernel,by decide +kernel⟩) (by decide +kernel) (λ_ _ _ _ _ _ _ _ _=>rfl) (by kernel_rfl) hb,a.2.mono (Nat.le_add_right k 4)⟩
theorem zho{c:Addr}(a:AA w K mg base k F E)(b:K.In h/\h.Ns mainGlobals mg/\∀y∈blt,mg y=none)(hD:qM K "in_order" (top 44) c)(hC:CodeHd base c (gY K "in_order"))(hB:BM base mg)(hb:jq 40 (sy 40 (top 44) F blt E "hit") (fV (top 44))=some fb:=by kernel_rfl):AA w K mg base (k+4) (("in_order",1,oM "in_order" 3 fb)::F) E :=
 ⟨Ux (ps:=["hits"]) a.1 a.2 b.1 b.2.1 b.2.2 hD hC hB (zuC λ_ _ _ _ _ _ _=>rfl) (by exact⟨rfl,rfl,rfl,by decide +kernel,by kernel_rfl,by decide +kernel,by decide +kernel⟩) (by decide +kernel) (λ_ _ _ _ _ _ _ _ _=>rfl) (by kernel_rfl) hb,a.2.mono (Nat.le_add_right k 4)⟩
end
abbrev X0:List (Str×Nat×XN):=[]
abbrev Y0:List (Str×Str×Nat×XN):=[]
abbrev F1:LF:=("_law_drawn",2,zB)::F0
abbrev F2:LF:=("_law_cell",2,nU)::F1
abbrev F3:LF:=("_law_many",1,BW)::F2
abbrev F4:LF:=("_law_spot",1,rH)::F3
abbrev F5:LF:=("_law_plain",2,Oh)::F4
abbrev F6:LF:=("_law_put",2,zH)::F5
abbrev F7:LF:=("_law_shape",2,wI)::F6
abbrev E1:CE:={ E0 with mks:=("Tree",4,zM)::E0.mks }
abbrev F8:LF:=("numbers_at",2,Hz)::F7
abbrev F9:LF:=("box_around",1,zE)::F8
abbrev F10:LF:=("widest_place",1,Nr)::F9
abbrev F11:LF:=("tree_over",1,λ_ _=>none)::F10
abbrev F12:LF:=("tree_over",1,jl 1)::F11
abbrev F13:LF:=("tree_over",1,jl 2)::F12
abbrev F14:LF:=("tree_over",1,jl 3)::F13
abbrev F15:LF:=("tree_over",1,jl 4)::F14
abbrev F16:LF:=("tree_over",1,jl 5)::F15
abbrev F17:LF:=("tree_over",1,jl 6)::F16
abbrev F18:LF:=("tree_about",1,HB)::F17
abbrev F19:LF:=("are_in_order",2,Nq)::F18
abbrev F20:LF:=("is_shape",1,wA)::F19
abbrev F21:LF:=("refuse_no_shape",1,BZ)::F20
abbrev F22:LF:=("bounds",1,wg)::F21
abbrev E2:CE:={ E1 with mks:=("Scene",2,HN)::E1.mks }
abbrev F23:LF:=("_law_ray",2,N6)::F22
abbrev X1:List (Str×Nat×XN):=("refuse_standing",1,Ca)::X0
abbrev F24:LF:=("refuse_standing",1,uz)::F23
abbrev F25:LF:=("times_between",4,O4)::F24
abbrev F26:LF:=("is_less",2,zx)::F25
abbrev F27:LF:=("span_in",2,wC)::F26
abbrev F28:LF:=("common_divisor",2,HF)::F27
abbrev F29:LF:=("lowest_terms",1,uF)::F28
abbrev F30:LF:=("meets_box",2,zdt)::F29
abbrev F31:LF:=("cross",2,jm)::F30
abbrev F32:LF:=("way_between",2,eO)::F31
abbrev F33:LF:=("edges_of",1,wz)::F32
abbrev F34:LF:=("dot",2,fQ)::F33
abbrev F35:LF:=("meets_along",3,N7)::F34
abbrev F36:LF:=("meets_segment",3,O3)::F35
abbrev F37:LF:=("meets_edges",2,zJ)::F36
abbrev F38:LF:=("goes_through",3,qe)::F37
abbrev F39:LF:=("meets_within_plane",3,zO)::F38
abbrev F40:LF:=("meets_triangle",2,nR)::F39
abbrev F41:LF:=("time_at",2,zy)::F40
abbrev F42:LF:=("meets",2,Km)::F41
abbrev F43:LF:=("_law_less",2,BV)::F42
abbrev F44:LF:=("_law_all_due",2,Np)::F43
abbrev F45:LF:=("in_order",1,Hj)::F44
abbrev F46:LF:=("numbers_along",2,HD)::F45
abbrev E3:CE:={ E2 with mths:=("hits", "Scene",2,uE)::E2.mths }
abbrev Y1:List (Str×Str×Nat×XN):=("hits", "Scene",2,HW)::Y0
abbrev E4:CE:={ E3 with mths:=("every", "Scene",2,wG)::E3.mths }
abbrev Y2:List (Str×Str×Nat×XN):=("every", "Scene",2,Bx)::Y1
abbrev F47:LF:=("_law_whole",1,Hy)::F46
theorem call:WalkO seen loose (λ_ _=>True) (ztp xb ms defs blt ts).says PySem.Challenge.rw_firsthit_k17_whole_every_of_a_scene.row.toRowW lawRec [] λf vs=>PySem.call f vs:=by
 refine ziG (k:=76) (x := "_law_script") rfl rfl ⟨rfl,by decide,by decide⟩ ?F
 case F =>
  intro w mg fa h K KX G hmg hD hB0 hM hX hT;have H:∀i (h:i<defs.length),cV K (defs[i]).1 (defs[i]).2:=λi h=>hD _ (List.getElem_mem h);have M:∀i (h:i<ms.length),fZ K (ms[i]).1 (ms[i]).2.1 (ms[i]).2.2:=λi h=>hM _ (List.getElem_mem h);have hb:=zm1 KX G hB0;unfold xb at hX;simp only[cG] at hX;obtain⟨⟨⟨iu,cZ⟩,Cj⟩,O5⟩:=hX;obtain⟨T,O,hcl⟩:=Z6 KX G Cj;have hcl:∀y∈(["NotClosed", "NoRay", "NoShape", "BadRow"]:List Str),∃C,tM K mg y C:=λy hy=>by
   simp only[List.mem_cons,qC,or_false] at hy;rcases hy with rfl|rfl|rfl|rfl
   .exact hcl 2 (by decide)
   .exact hcl 0 (by decide)
   .exact hcl 1 (by decide)
   .exact hcl 3 (by decide)
  obtain⟨tf,tfd,m1,m2,m3,m4⟩:=znH (w:=w) T O KX G (H 39 (by decide)) (H 40 (by decide));obtain⟨c0,z0,hC0⟩:=hT ("tree_over",top 39) (by simp[ts]);obtain⟨c1,z1,hC1⟩:=hT ("in_order",top 44) (by simp[ts]);obtain⟨c2,z2,hC2⟩:=hT ("law",top 60) (by simp[ts]);have hs:∀base:Heap,Mod K mg base->BM base mg->AA w K mg base 73 F47 E4/\dh PG w K mg base 73 X1/\cQ PG w K mg base 73 Y2:=λbase hMd hB=>by
   have z:=z0;have hC:=hC0 base hMd.kin;have e0:dX PG w K mg base 0 E0:=ZR KX G (λy hy=>by
    simp only[List.mem_cons,qC,or_false] at hy;rcases hy with rfl|rfl|rfl|rfl|rfl
    .exact⟨_,cZ,by decide⟩
    .exact⟨_,cZ,by decide⟩
    .exact⟨_,iu,by decide⟩
    .exact⟨_,iu,by decide⟩
    .exact⟨_,iu,by decide⟩) (λy hy=>by
    cases hy)
   have b:K.In h/\h.Ns mainGlobals mg/\∀y∈blt,mg y=none:=⟨KX,G,hb⟩
   have a:AA w K mg base 0 F0 E0:=⟨bO.nil,e0⟩
   have x:dh PG w K mg base 0 X0:=dh.nil;have m:cQ PG w K mg base 0 Y0:=cQ.nil;have a:AA w K mg base 1 F1 E0:=nf (top 48) ["_law_cell_here", "_law_k"] a b (H 0 (by decide)) (by wtm_at "z");have a:AA w K mg base 2 F2 E0:=nf (top 47) ["_law_script", "_law_k"] a b (H 1 (by decide)) (by wtm_at "z");have a:AA w K mg base 3 F3 E0:=nf (top 55) ["_law_script"] a b (H 2 (by decide)) (by wtm_at "z");have a:AA w K mg base 4 F4 E0:=nf (top 51) ["_law_more"] a b (H 3 (by decide)) (by wtm_at "z");have a:AA w K mg base 5 F5 E0:=nf (top 53) ["_law_script", "_law_k"] a b (H 4 (by decide)) (by wtm_at "z");have a:AA w K mg base 6 F6 E0:=nf (top 52) ["_law_point", "_law_cell_here"] a b (H 5 (by decide)) (by wtm_at "z");have a:AA w K mg base 7 F7 E0:=nf (top 54) ["_law_script", "_law_k"] a b (H 6 (by decide)) (by wtm_at "z");have a:AA w K mg base 9 F7 E1:=⟨a.1.mono (by decide),U5 (C := "Tree") (st:=qm 37 0) (ps:=["self", "box", "number", "halves"]) (n:=4) (fb:=Oq) (m:=40) a.1 a.2 hb (Sy KX G iu) (Rp (M 0 (by decide)) iu (by decide)) (λ_ _ _ _ _ _=>Eo λ_ _ _ _=>rfl) (by wtm_at "A") (by decide +kernel) (by kernel_rfl) (by kernel_rfl)⟩
   have a:AA w K mg base 10 F8 E1:=nf (top 15) ["points", "place"] a b (H 7 (by decide)) (by wtm_at "z");have a:AA w K mg base 11 F9 E1:=nf (top 16) ["points"] a b (H 8 (by decide)) (by wtm_at "z");have a:AA w K mg base 12 F10 E1:=nf (top 38) ["box"] a b (H 9 (by decide)) (by wtm_at "z");have a:AA w K mg base 12 F11 E1:=⟨zmH (ps:=["leaves"]) a.1 KX G (let ⟨f,fd,a,F,_⟩:=z;⟨f,fd,a,F⟩) (zuC λ_ _ _ _ _ _ _=>rfl),a.2⟩
   have a:AA w K mg base 16 F12 E1:=nt (fb:=nT (jl 0)) a b z hC hB;have a:AA w K mg base 20 F13 E1:=nt (fb:=nT (jl 1)) a b z hC hB;have a:AA w K mg base 24 F14 E1:=nt (fb:=nT (jl 2)) a b z hC hB;have a:AA w K mg base 28 F15 E1:=nt (fb:=nT (jl 3)) a b z hC hB;have a:AA w K mg base 32 F16 E1:=nt (fb:=nT (jl 4)) a b z hC hB;have a:AA w K mg base 36 F17 E1:=nt (fb:=nT (jl 5)) a b z hC hB;have a:AA w K mg base 37 F18 E1:=nf (top 40) ["boxes"] a b (H 10 (by decide)) (by wtm_at "z");have a:AA w K mg base 38 F19 E1:=nf (top 30) ["low", "high"] a b (H 11 (by decide)) (by wtm_at "z");have a:AA w K mg base 39 F20 E1:=nf (top 31) ["shape"] a b (H 12 (by decide)) (by wtm_at "z");have a:AA w K mg base 40 F21 E1:=nf (top 32) ["shape"] a b (H 13 (by decide)) (by wtm_at "z");have a:AA w K mg base 41 F22 E1:=nf (top 35) ["shape"] a b (H 14 (by decide)) (by wtm_at "z");have a:AA w K mg base 43 F22 E2:=⟨a.1.mono (by decide),U5 (C := "Scene") (st:=qm 45 0) (ps:=["self", "shapes"]) (n:=2) (fb:=Ou) (m:=40) a.1 a.2 hb (Sy KX G cZ) (Rp (M 1 (by decide)) cZ (by decide)) (λ_ _ _ _ _ _=>vJ λ_ _=>rfl) (by wtm_at "A") (by decide +kernel) (by kernel_rfl) (by kernel_rfl)⟩
   have a:AA w K mg base 44 F23 E2:=nf (top 56) ["_law_script", "_law_k"] a b (H 15 (by decide)) (by wtm_at "z");have x:dh PG w K mg base 45 X1:=zkW (x := "refuse_standing") (st:=top 29) (ps:=["ray"]) (n:=1) (xb:=Ce) (m:=40) a.1 a.2 (x.mono (by decide)) (m.mono (by decide)) KX G hb hcl (H 16 (by decide)) (zuC λ_ _ _ _ _ _ _=>rfl) (by wtm_at "A") (by decide +kernel) (by kernel_rfl) (by kernel_rfl);have a:AA w K mg base 45 F24 E2:=nf (top 29) ["ray"] a b (H 16 (by decide)) (by wtm_at "z");have a:AA w K mg base 46 F25 E2:=nf (top 17) ["start", "step", "low", "high"] a b (H 17 (by decide)) (by wtm_at "z");have a:AA w K mg base 47 F26 E2:=nf (top 10) ["one", "other"] a b (H 18 (by decide)) (by wtm_at "z");have a:AA w K mg base 48 F27 E2:=nf (top 18) ["ray", "box"] a b (H 19 (by decide)) (by wtm_at "z");have a:AA w K mg base 49 F28 E2:=nf (top 8) ["one", "other"] a b (H 20 (by decide)) (by wtm_at "z");have a:AA w K mg base 50 F29 E2:=nf (top 9) ["ratio"] a b (H 21 (by decide)) (by wtm_at "z");have a:AA w K mg base 51 F30 E2:=nf (top 19) ["ray", "box"] a b (H 22 (by decide)) (by wtm_at "z");have a:AA w K mg base 52 F31 E2:=nf (top 13) ["one", "other"] a b (H 23 (by decide)) (by wtm_at "z");have a:AA w K mg base 53 F32 E2:=nf (top 11) ["one", "other"] a b (H 24 (by decide)) (by wtm_at "z");have a:AA w K mg base 54 F33 E2:=nf (top 21) ["triangle"] a b (H 25 (by decide)) (by wtm_at "z");have a:AA w K mg base 55 F34 E2:=nf (top 12) ["one", "other"] a b (H 26 (by decide)) (by wtm_at "z");have a:AA w K mg base 56 F35 E2:=nf (top 22) ["ray", "one", "other"] a b (H 27 (by decide)) (by wtm_at "z");have a:AA w K mg base 57 F36 E2:=nf (top 23) ["ray", "one", "other"] a b (H 28 (by decide)) (by wtm_at "z");have a:AA w K mg base 58 F37 E2:=nf (top 24) ["ray", "triangle"] a b (H 29 (by decide)) (by wtm_at "z");have a:AA w K mg base 59 F38 E2:=nf (top 25) ["start", "way", "triangle"] a b (H 30 (by decide)) (by wtm_at "z");have a:AA w K mg base 60 F39 E2:=nf (top 26) ["ray", "triangle", "upright"] a b (H 31 (by decide)) (by wtm_at "z");have a:AA w K mg base 61 F40 E2:=nf (top 27) ["ray", "triangle"] a b (H 32 (by decide)) (by wtm_at "z");have a:AA w K mg base 62 F41 E2:=nf (top 33) ["ray", "shape"] a b (H 33 (by decide)) (by wtm_at "z");have a:AA w K mg base 63 F42 E2:=nf (top 34) ["ray", "shape"] a b (H 34 (by decide)) (by wtm_at "z");have a:AA w K mg base 64 F43 E2:=nf (top 50) ["_law_one", "_law_other"] a b (H 35 (by decide)) (by wtm_at "z");have a:AA w K mg base 65 F44 E2:=nf (top 59) ["_law_ray_here", "_law_shapes"] a b (H 36 (by decide)) (by wtm_at "z");have a:AA w K mg base 69 F45 E2:=zho (fb:=Hi) a b z1 (hC1 base hMd.kin) hB;have a:AA w K mg base 70 F46 E2:=nf (top 41) ["tree", "ray"] a b (H 37 (by decide)) (by wtm_at "z");have m:cQ PG w K mg base 71 Y1:=Wl (C := "Scene") (x := "hits") (st:=qm 45 6) (ps:=["self", "ray"]) (n:=5) (xb:=Bw) (m:=40) a.1 a.2 (x.mono (by decide)) (m.mono (by decide)) (G9 cZ) hb hcl (M 2 (by decide)) (λ_ _ _ _ _ _=>vJ λ_ _=>rfl) (by wtm_at "A") (by decide +kernel) (by kernel_rfl) (by kernel_rfl);have a:AA w K mg base 71 F46 E3:=⟨a.1.mono (by decide),V7 (C := "Scene") (x := "hits") (st:=qm 45 6) (ps:=["self", "ray"]) (n:=5) (fb:=zG) (m:=40) a.1 a.2 (G9 cZ) hb (M 2 (by decide)) (λ_ _ _ _ _ _=>vJ λ_ _=>rfl) (by wtm_at "A") (by decide +kernel) (by kernel_rfl) (by kernel_rfl)⟩
   have m:cQ PG w K mg base 72 Y2:=Wl (C := "Scene") (x := "every") (st:=qm 45 8) (ps:=["self", "ray"]) (n:=2) (xb:=BJ) (m:=40) a.1 a.2 (x.mono (by decide)) (m.mono (by decide)) (G9 cZ) hb hcl (M 3 (by decide)) (λ_ _ _ _ _ _=>vJ λ_ _=>rfl) (by wtm_at "A") (by decide +kernel) (by kernel_rfl) (by kernel_rfl);have a:AA w K mg base 72 F46 E4:=⟨a.1.mono (by decide),V7 (C := "Scene") (x := "every") (st:=qm 45 8) (ps:=["self", "ray"]) (n:=2) (fb:=wF) (m:=40) a.1 a.2 (G9 cZ) hb (M 3 (by decide)) (λ_ _ _ _ _ _=>vJ λ_ _=>rfl) (by wtm_at "A") (by decide +kernel) (by kernel_rfl) (by kernel_rfl)⟩
   have a:AA w K mg base 73 F47 E4:=nf (top 49) ["_law_thing"] a b (H 38 (by decide)) (by wtm_at "z");exact⟨a,x.mono (by decide),m.mono (by decide)⟩
  refine zkF (m:=40) (n:=8) (fb:=Wb) (fns:=F47) (E:=E4) (k:=73) (ys:=["tree_over", "in_order", "law"]) (ext:=Jk (lE (top 60) F47 blt E4) E4 X1 Y2 "_law_told" (rN "refused")) KX G hb hmg z2 hC2 (by decide) (of_decide_eq_true O5) (show mz "law" (top 60) ["_law_script"] from zuC λ_ _ _ _ _ _ _=>rfl) (by wtm_at "A") (by decide +kernel) (by kernel_rfl) (by kernel_rfl) (λbase u v=>(hs base u v).1) (λX e1 e2 e3 e4 hN hnm L hr x es g p pos hx=>?_) zmu;refine ziK (k:=73) (tS:=wN "refused" _) hN hnm (by rw[e4];exact hb) L hr (λbase=>by rw[e1,e2,e3,e4];intro u v;exact⟨(hs base u v).1.1,(hs base u v).1.2,(hs base u v).2⟩) (by rw[e4];exact T.name) (by rw[e4];exact m1) (by rw[e3];exact m2) (by rw[e3];exact m3) (λbase=>by rw[e1,e2,e3,e4];exact m4 base _ (by decide)) (λa e i H Q=>znJ a e i H Q) hx
end MX.K17
theorem PySem.Challenge.cw_firsthit_k17_whole_every_of_a_scene_holds : PySem.Challenge.rw_firsthit_k17_whole_every_of_a_scene.Holds := by
 exact MX.zmE (H:=MX.ztp MX.K17.xb MX.K17.ms MX.K17.defs MX.K17.blt MX.K17.ts) (q:=MX.K17.seen) (d:=MX.K17.lawRec) MX.K17.p1 (MX.left5 MX.K17.leftA MX.K17.leftB1 MX.K17.leftB2 MX.K17.leftC1 MX.K17.leftC2) MX.K17.p2 MX.K17.p3 MX.K17.p4 MX.K17.p5 MX.K17.p6 (by w_witness2) MX.K17.call
#print axioms PySem.Challenge.cw_firsthit_k17_whole_every_of_a_scene_holds
end
