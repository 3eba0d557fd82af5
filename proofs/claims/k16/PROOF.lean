import PyProof.Rows.All
import Wide.All
import OpenK.AllK
import Wide.FinOn
import PyProof.EqAt
import PyProof.EqKinds
import PyProof.TupleCall
import KE.KIsAll
import PyProof.DictRoadsH
import PyProof.DictItems
import KE.KSortKey
import PyProof.EnumFor
import PyProof.EnumMake
import PyProof.EnumStmt
import PyProof.Rows.SeqMore2
import PyProof.Rows.SortPure
import PyProof.Rows.SortRuns
import PyProof.Rows.StrWeight2
import Open.Pieces
import PySem.Challenge.RW_firsthit_k16_whole_first_of_a_scene
abbrev eV:=@List.getElem?_eq_some_iff
abbrev cG:=@List.mem_cons_of_mem
abbrev fX:=@List.mem_cons_self
abbrev dg:=@Nat.lt_of_lt_of_le
abbrev cX:=@PySem.Heap.get?_push_of_some
abbrev fB:=@Bool.false_ne_true
abbrev uU:=@Nat.le_of_ble_eq_true
abbrev gP:=@PySem.mem_of_lookup
abbrev cL:=@Bool.and_eq_true
abbrev bQ:=@Option.bind_some
abbrev cZ:=@List.length_map
abbrev dM:=@List.size_toArray
abbrev jQ:=@List.length_append
abbrev gH:=@List.append_assoc
abbrev gG:=@List.getElem?_map
abbrev qg:=@Int.fmod_nonneg_of_pos
abbrev rZ:=@Int.fmod_lt_of_pos
abbrev gO:=@Nat.lt_irrefl
abbrev lO:=@List.mem_append
abbrev jd:=@List.length_cons
abbrev uT:=@List.map_append
abbrev mR:=@List.getElem?_append_left
abbrev zJ:=@List.getElem?_append_right
abbrev gB:=@PySem.Heap.get?_push_size
abbrev DX:=@Nat.lt_of_le_of_lt
abbrev aF:=@PySem.wpAny_bind
abbrev bT:=@PySem.wpAny_pure
abbrev iw:=@PySem.wpAny_mono
abbrev cg:=@PySem.Heap.lt_size
abbrev bZ:=@Nat.le_refl
abbrev kO:=@List.all_cons
abbrev gJ:=@List.getElem?_eq_getElem
abbrev zH:=@List.length_nil
abbrev xT:=@List.length_take
abbrev o9:=@Option.map_some
abbrev o8:=@Bool.or_eq_true
abbrev uW:=@Nat.le_of_lt
abbrev dh:=@Nat.ne_of_lt
abbrev kJ:=@List.take_length
abbrev qi:=@List.mem_nil_iff
abbrev su:=@decide_eq_true_eq
abbrev iT:=@List.lookup_cons
abbrev iU:=@List.map_cons
abbrev uX:=@List.nil_append
abbrev jw:=@List.getElem?_eq_none
def aR{α β:Type _}{f:α→β}{x:Option α}{b:β}:x.map f=some b↔∃a,x=some a∧f a=b:=Option.map_eq_some_iff
def aW{α β:Type _}{f:α→Option β}{x:Option α}{b:β}:x.bind f=some b↔∃a,x=some a∧f a=some b:=Option.bind_eq_some_iff
noncomputable section
noncomputable abbrev FgA:=PySem.W.Frag
set_option compiler.extract_closed false
set_option Elab.async false
set_option linter.all false
set_option maxRecDepth 100000
set_option maxHeartbeats 0
section
namespace MX
open PySem PySem.Spec PySem.W PyProof.Rows
noncomputable def qD(a:Addr)(o:Obj):Bool:=match o.data with
 |.freed=>false
 |.dict _ _=>true
 |_=>match o.cls with
  |.none=>Nat.beq a 3
  |_=>true
noncomputable def qG:List Obj->Addr->FgA
 |[],_=>[]
 |o::r,a=>bif qD a o then(a,o)::qG r (Nat.succ a) else qG r (Nat.succ a)
noncomputable def iG(h:Heap):FgA:=qG h.objs.toList 0
noncomputable def zQ(K:FgA)(x:Str):Option (Arguments×List Stmt×Scope×Bool):=match nsIn K mainGlobals x with
 |some (some (.ref f))=>match K.lookup f with
  |some ⟨_,_,.func ⟨n,q,ps,.stmts b,sc,g,[],.none,_,_,_,_,cd,_,bn⟩,_⟩=>some (ps,b,sc,n==x&&(q==x&&(Nat.beq g mainGlobals&&(Nat.beq bn builtinsNs&&(codeIn K cd x&&keepIn K (.ref f))))))
  |_=>none
 |_=>none
noncomputable def Ew(K:FgA)(h:Heap)(x:Str):Option Obj×Bool:=match nsIn K mainGlobals x with
 |some (some (.ref f))=>match K.lookup f with
  |some ⟨_,_,.func F,_⟩=>match F.code with
   |.ref c=>match K.lookup c with
    |some ⟨_,_,.fields vs,_⟩=>match(vs[11]?:Option Value) with
     |some (.ref P)=>(h.get? P,codeHdIn K c P&&(K.lookup P).isNone)
     |_=>(none,false)
    |_=>(none,false)
   |_=>(none,false)
  |_=>(none,false)
 |_=>(none,false)
noncomputable def dA(s:Stmt):Arguments:=match s with
 |.FunctionDef _ a _ _ _ _ _ _ _ _=>a
 |_=>{ posonlyargs:=[],args:=[],vararg:=none,kwonlyargs:=[],kw_defaults:=[],kwarg:=none,defaults:=[] }
noncomputable def dB(s:Stmt):List Stmt:=match s with
 |.FunctionDef _ _ b _ _ _ _ _ _ _=>b
 |_=>[]
noncomputable def dS(s:Stmt):Scope:=match s with
 |.FunctionDef _ _ _ _ _ _ c _ _ _=>c
 |_=>{ kind := .function,names:=[],isGenerator:=false,isCoroutine:=false }
noncomputable def wY(s:Stmt):Pos:=match s with
 |.FunctionDef _ _ _ _ _ _ _ _ _ p=>p
 |_=>⟨0,0,0,0⟩
noncomputable def O7(ds:List (Str×Stmt))(blt:List Str)(s:Shared):List (Option (Arguments×List Stmt×Scope×Bool))×List (Option (Option Value)):=(ds.map λy=>zQ (iG s.heap) y.1,blt.map λy=>nsIn (iG s.heap) mainGlobals y)
noncomputable def sE(ds:List (Str×Stmt))(blt:List Str):List (Option (Arguments×List Stmt×Scope×Bool))×List (Option (Option Value)):=(ds.map λy=>some (dA y.2,dB y.2,dS y.2,true),blt.map λ_=>some none)
noncomputable def O6(ds:List (Str×Stmt))(blt:List Str)(x:Str)(s:Shared):(List (Option (Arguments×List Stmt×Scope×Bool))×List (Option (Option Value)))×Option (Arguments×List Stmt×Scope×Bool)×(Option Obj×Bool):=(O7 ds blt s,zQ (iG s.heap) x,Ew (iG s.heap) s.heap x)
noncomputable def N5(ds:List (Str×Stmt))(blt:List Str)(st:Stmt):(List (Option (Arguments×List Stmt×Scope×Bool))×List (Option (Option Value)))×Option (Arguments×List Stmt×Scope×Bool)×(Option Obj×Bool):=(sE ds blt,some (dA st,dB st,dS st,true),(some (tabObj #[]),true))
noncomputable abbrev gD:List Value:=[.type "ValueError",.type "Exception",.type "BaseException",.type "object"]
noncomputable def wn:Nat->Str
 |0 => "NoRay"
 |1 => "NoShape"
 |2 => "NotClosed"
 |_ => "BadRow"
noncomputable def vp(K:FgA)(D:Addr):Bool :=
 (findIn K (.ref D) "__getattribute__" == some (some (.builtin "BaseException.__getattribute__"))&&(findIn K (.ref D) "__getattr__" == some none&&mroIn K D (.type "BaseException")==some true))&&((clsIn K D).isSome&&(findIn K (.ref D) "__class__" == some (some (.builtin "object.__class__")) &&
  (specialIn K (.builtin "object.__class__") "__get__" == some (some (.builtin "getset_descriptor.__get__"))&&(takesIn K (.builtin "object.__class__")==some true&&mroIn K D (.type "object")==some true))))
noncomputable def cu(K:FgA)(x:Str):Addr:=match nsIn K mainGlobals x with
 |some (some (.ref a))=>a
 |_=>0
noncomputable def gZ(K:FgA)(x:Str):Addr:=match nsIn K mainGlobals x with
 |some (some (.ref f))=>match K.lookup f with
  |some ⟨_,_,.func F,_⟩=>match F.code with
   |.ref c=>match K.lookup c with
    |some ⟨_,_,.fields vs,_⟩=>match(vs[11]?:Option Value) with
     |some (.ref P)=>P
     |_=>0
    |_=>0
   |_=>0
  |_=>0
 |_=>0
noncomputable def Qx(K:FgA)(i:Nat):Bool:=(vp K (cu K (wn i))&&excIn K (cu K (wn i)) gD "ValueError.__new__")&&(mroIn K (cu K (wn i)) (.ref (cu K "HitError"))==some true &&
 (kitOne K (.ref (cu K (wn i))) (.ref (cu K "HitError"))==some true&&(kitOne K (.ref (cu K (wn i))) (.type "ValueError")==some true &&
  ((List.range 4).all (λj=>kitOne K (.ref (cu K (wn i))) (.ref (cu K (wn j)))==some (decide (i=j)))&&nsIn K mainGlobals (wn i)==some (some (.ref (cu K (wn i))))))))
noncomputable def rK(K:FgA):Bool:=(List.range 4).all (Qx K)&&((nsIn K mainGlobals "HitError" == some (some (.ref (cu K "HitError")))&&excIn K (cu K "HitError") gD "ValueError.__new__")&&(nsIn K mainGlobals "isinstance" == some none&&nsIn K mainGlobals "ValueError" == some none))
noncomputable def oA(K:FgA)(D:Addr):Bool:=findIn K (.ref D) "__str__" == some (some (.builtin "BaseException.__str__"))&&mroIn K D (.type "BaseException")==some true
noncomputable def excB2(K:FgA):Bool:=rK K&&(List.range 4).all λi=>keepIn K (.ref (cu K (wn i)))&&oA K (cu K (wn i))
noncomputable def obsX(xb:FgA->Bool)(ds:List (Str×Stmt))(blt:List Str)(x:Str)(s:Shared):((List (Option (Arguments×List Stmt×Scope×Bool))×List (Option (Option Value)))×Option (Arguments×List Stmt×Scope×Bool)×(Option Obj×Bool))×Bool:=(O6 ds blt x s,xb (iG s.heap))
noncomputable def valX(ds:List (Str×Stmt))(blt:List Str)(st:Stmt):((List (Option (Arguments×List Stmt×Scope×Bool))×List (Option (Option Value)))×Option (Arguments×List Stmt×Scope×Bool)×(Option Obj×Bool))×Bool:=(N5 ds blt st,true)
noncomputable def IK(K:FgA)(C m:Str):Option (Arguments×List Stmt×Scope×Bool):=match findIn K (.ref (cu K C)) m with
 |some (some (.ref f))=>match K.lookup f with
  |some ⟨_,_,.func ⟨n,q,ps,.stmts b,sc,g,[],.none,_,_,_,_,cd,_,bn⟩,_⟩=>some (ps,b,sc,n==m&&(q==C ++ "." ++ m&&(Nat.beq g mainGlobals&&(Nat.beq bn builtinsNs&&(codeIn K cd (C ++ "." ++ m)&&(keepIn K (.ref f)&&isFn K (.ref f)))))))
  |_=>none
 |_=>none
noncomputable def sO(K:FgA)(C:Str)(fs:List Str):Bool:=(plainGet K (cu K C) Str.empty&&(hasDictIn K (cu K C)&&(plainOver K (cu K C)&&findIn K (.ref (cu K C)) "__setattr__" == some (some (.builtin "object.__setattr__"))))) &&
 ((makesIn K (cu K C)&&(keepIn K (.ref (cu K C))&&nsIn K mainGlobals C==some (some (.ref (cu K C)))))&&fs.all λf=>findIn K (.ref (cu K C)) f==some none)
noncomputable def vY(K:FgA)(x y:Str):Bool:=match nsIn K mainGlobals x with
 |some (some (.str z _))=>z==y
 |_=>false
noncomputable def Ib(os:List Obj)(cd:Value)(x:Str):Bool:=match cd with
 |.ref c=>(match os[c]? with
  |some o=>(match o.data with
   |.fields vs=>(match o.cls with
    |.none=>false
    |_=>(match vs.toList with | _ :: .str n _::_=>n==x | _=>false))
   |_=>false)
  |none=>false)
 |_=>false
noncomputable def Iz(K:FgA)(os:List Obj)(x:Str):Option (Arguments×List Stmt×Scope×Bool):=match nsIn K mainGlobals x with
 |some (some (.ref f))=>match os[f]? with
  |some o=>match o.data with
   |.func ⟨n,q,ps,.stmts b,sc,g,[],.none,_,_,_,_,cd,_,bn⟩=>(match o.cls with
    |.none=>none
    |_=>some (ps,b,sc,n==x&&(q==x&&(Nat.beq g mainGlobals&&(Nat.beq bn builtinsNs&&Ib os cd x)))))
   |_=>none
  |none=>none
 |_=>none
noncomputable def sU(ds:List (Str×Stmt))(blt:List Str)(s:Shared):List (Option (Arguments×List Stmt×Scope×Bool))×List (Option (Option Value)):=(ds.map λy=>Iz (iG s.heap) s.heap.objs.toList y.1,blt.map λy=>nsIn (iG s.heap) mainGlobals y)
noncomputable abbrev xO:=Option (Arguments×List Stmt×Scope×Bool)
noncomputable def zM(ys:List Str)(s:Shared):List (xO×(Option Obj×Bool)):=ys.map λy=>(zQ (iG s.heap) y,Ew (iG s.heap) s.heap y)
noncomputable def Em(ts:List (Str×Stmt)):List (xO×(Option Obj×Bool)):=ts.map λy=>(some (dA y.2,dB y.2,dS y.2,true),(some (tabObj #[]),true))
noncomputable def rA(xb:FgA->Bool)(ms:List (Str×Str×Stmt))(s:Shared):List xO×Bool:=(ms.map λy=>IK (iG s.heap) y.1 y.2.1,xb (iG s.heap))
noncomputable def vN(ms:List (Str×Str×Stmt)):List xO×Bool:=(ms.map λy=>some (dA y.2.2,dB y.2.2,dS y.2.2,true),true)
end MX
end
section
namespace MX
open PySem PySem.Spec PySem.W PyProof.Rows
noncomputable def tQ1:List Obj->BT->Nat->Option (BT×Nat)
 |[],T,n=>some (T,n)
 |o::r,T,n=>match((T.ins n o).get n).isSome with
  |true=>tQ1 r (T.ins n o) (n+1)
  |false=>none
theorem tQ2{v:Life}:∀{l:List Obj}{T:BT}{n:Nat}{T':BT}{n':Nat}{a:Array Obj},absHeap T n v=⟨a,v⟩->tQ1 l T n=some (T',n')->absHeap T' n' v=⟨a++l.toArray,v⟩
 |[],T,n,T',n',a,e,h=>by cases h;rw[e];simp
 |o::r,T,n,T',n',a,e,h=>by
  unfold tQ1 at h;split at h
  . rename_i g;have e2:absHeap (T.ins n o) (n+1) v=⟨a.push o,v⟩:=by rw[absHeap_ins g,e];rfl
    rw[tQ2 e2 h];simp
  . cases h
noncomputable def tQ3(p:Program)(w:World)(m:Nat)(z:Option Value):Nat->SharedT->Thread->Option SharedT
 |0,_,_=>none
 |n+1,s,t=>match through t with
  |true=>some s
  |false=>match stepOk m z t with
   |false=>none
   |true=>match stepT (denote treeTable) p w s t with
    |some (s',t')=>tQ3 p w m z n s' t'
    |none=>none
theorem tQ4{p:Program}{w:World}{m:Nat}{z:Option Value}:∀{n:Nat}{s s':SharedT}{t:Thread},tQ3 p w m z n s t=some s'->topRun treeTable p w m z n s.abs t=some s'.abs
 |0,_,_,_,h=>by cases h
 |n+1,s,s',t,h=>by
  unfold tQ3 at h;unfold topRun;cases ht:through t with
  |true=>rw[ht] at h;cases h;rfl
  |false=>
   rw[ht] at h;cases hk:stepOk m z t with
   |false=>rw[hk] at h;cases h
   |true=>
    rw[hk] at h;cases hs:stepT (denote treeTable) p w s t with
    |none=>rw[hs] at h;cases h
    |some r=>obtain⟨s₂,t₂⟩:=r;rw[hs] at h;rw[stepT_spec hs];exact tQ4 h
noncomputable def tQ5(p:Program)(w:World)(N:Nat)(os:OsState):Option SharedT:=let b:=boot_heap w.params;match b.isNs mainGlobals with
 |false=>none
 |true=>(tQ1 b.objs.toList .nil 0).bind λx=>(tQ3 p w b.objs.size (b.nsMap mainGlobals "__annotations__") N ⟨x.1,x.2,b.life,#[],boot_drawn,boot_toks,os⟩ (topStub p)).bind λs=>match staticsOk (importedModules p.main.body) b s.abs.heap&&namesBound p s.abs.heap&&gensDone s.abs&&laidKept b s.abs.heap with
  |true=>some s
  |false=>none
theorem tQ6{p:Program}{w:World}{N:Nat}{α:Type}{look:Shared->α}{a:α}(e:opening p=plainProg p.main.scope.names)(hN:Nat.ble 600 N=true)(f:∀s,fenceModules? p s=some s)(h:∀os,(tQ5 p w N os).map (λs=>look s.abs)=some a):(openEnds treeTable p w N).map look=some a:=by
 obtain⟨⟨hp,gs,d,k,os⟩,e1,e2⟩:=Option.map_eq_some_iff.mp (boot_open e hN f w);obtain⟨rfl,rfl,rfl,rfl⟩:hp=boot_heap w.params∧gs=#[]∧d=boot_drawn∧k=boot_toks:=by simpa using e2
 obtain⟨s,h1,h2⟩:=Option.map_eq_some_iff.mp (h os);unfold tQ5 at h1;dsimp only at h1;split at h1
 . cases h1
 . rename_i hns;obtain⟨⟨T,n⟩,h3,h4⟩:=Option.bind_eq_some_iff.mp h1;obtain⟨s₂,h5,h6⟩:=Option.bind_eq_some_iff.mp h4;split at h6
   . rename_i hst;cases h6;have z:absHeap T n (boot_heap w.params).life=boot_heap w.params:=by have:=tQ2 (v:=(boot_heap w.params).life) (a:=#[]) rfl h3;rw[this];simp
     have r:=tQ4 h5;rw[show SharedT.abs ⟨T,n,(boot_heap w.params).life,#[],boot_drawn,boot_toks,os⟩=⟨boot_heap w.params,#[],boot_drawn,boot_toks,os⟩ by unfold SharedT.abs;dsimp only;rw[z]] at r
     unfold openEnds;rw[e1];show((topFrom treeTable p w N _)).map look=_;unfold topFrom;dsimp only;rw[hns,r];show(match(_:Bool) with|true=>some s.abs|false=>none).map look=_;rw[hst];exact congrArg some h2
   . cases h6
end MX
end
section
namespace MX.K16
open PySem PySem.Spec PySem.W PyProof.Rows MX
noncomputable abbrev PP:Program:=PySem.Challenge.pw_firsthit_k16_whole_first_of_a_scene
noncomputable abbrev PG:Program:=PySem.Challenge.rw_firsthit_k16_whole_first_of_a_scene.prog
noncomputable def top(i:Nat):Stmt:=PP.main.body.getD i (.Pass ⟨0,0,0,0⟩)
noncomputable def nH(i j:Nat):Stmt:=match top i with
 |.ClassDef _ _ _ b _ _ _ _ _ _ _=>b.getD j (.Pass ⟨0,0,0,0⟩)
 |_ => .Pass ⟨0,0,0,0⟩
noncomputable def blt:List Str:=["len", "abs", "min", "max", "isinstance", "all", "any", "sum", "sorted", "tuple", "list", "range", "zip", "int", "bool", "str", "enumerate"]
noncomputable def nm(s:Stmt):Str:=match s with
 |.FunctionDef n _ _ _ _ _ _ _ _ _=>n
 |_ => ""
noncomputable def ix1:List Nat:=[47,46,54,50,52,51,53,15,16,38,40,30,31,32,35,48,55,29,17,10,18]
noncomputable def ix2:List Nat:=[8,9,19,13,11,21,12,22,23,24,25,26,27,33,34,49,58,41,43,56,57]
noncomputable def Ie:List (Str×Stmt):=ix1.map λi=>(nm (top i),top i)
noncomputable def Ig:List (Str×Stmt):=ix2.map λi=>(nm (top i),top i)
noncomputable abbrev defs:List (Str×Stmt):=Ie++Ig
noncomputable def ms:List (Str×Str×Stmt):=[("Tree", "__init__",nH 37 0),("Scene", "__init__",nH 44 0),("Scene", "size",nH 44 1),("Scene", "hits",nH 44 6),("Scene", "first",nH 44 7)]
noncomputable def xb(K:Frag):Bool:=sO K "Tree" ["box", "number", "halves"]&&sO K "Scene" ["kept", "tree"]&&rK K&&decide ((["tree_over", "law"]:List Str).map (gZ K)).Nodup
noncomputable def ts:List (Str×Stmt):=[("tree_over",top 39),("law",top 59)]
noncomputable def seen:Program:=view PP [59]
noncomputable def loose:List Str:=(["_wall", "HitError", "NoRay", "NoShape", "NotClosed", "BadRow", "common_divisor", "lowest_terms", "is_less", "way_between", "dot", "cross", "numbers_at", "box_around", "times_between", "span_in", "meets_box", "edges_of", "meets_along", "meets_segment", "meets_edges", "goes_through", "meets_within_plane", "meets_triangle", "refuse_standing", "are_in_order", "is_shape", "refuse_no_shape", "time_at", "meets", "bounds", "Tree", "widest_place", "tree_over", "tree_about", "numbers_along", "is_sooner", "Scene", "_law_cell", "_law_drawn", "_law_whole", "_law_less", "_law_spot", "_law_put", "_law_plain", "_law_shape", "_law_many", "_law_ray", "_law_word", "_law_told", "_law_due"]:List String).map Str.ofString
noncomputable def lawRec:DefRec:=⟨"law",dA (top 59),dB (top 59),dS (top 59),wY (top 59)⟩
theorem tQ7:opening PP=plainProg PP.main.scope.names:=by kernel_rfl
theorem tQ8:∀s,fenceModules? PP s=some s:=by intro s;kernel_rfl
def leftA:LeftO PP seen loose (λ_=>true) (λ_=>()) (λ_=>()) 5760:=λw=>tQ6 tQ7 rfl tQ8 λos=>by kernel_rfl
def leftB1:∀w,(openEnds treeTable PP w 5760).map (sU Ie blt)=some (sE Ie blt):=λw=>tQ6 tQ7 rfl tQ8 λos=>by kernel_rfl
def leftB2:∀w,(openEnds treeTable PP w 5760).map (sU Ig [])=some (sE Ig []):=λw=>tQ6 tQ7 rfl tQ8 λos=>by kernel_rfl
def leftC1:∀w,(openEnds treeTable PP w 5760).map (zM (ts.map (·.1)))=some (Em ts):=λw=>tQ6 tQ7 rfl tQ8 λos=>by kernel_rfl
def leftC2:∀w,(openEnds treeTable PP w 5760).map (rA xb ms)=some (vN ms):=λw=>tQ6 tQ7 rfl tQ8 λos=>by kernel_rfl
abbrev LW:=PySem.Challenge.rw_firsthit_k16_whole_first_of_a_scene
def p1:LW.wellSaid=true:=by kernel_rfl
def p2:defOf seen LW.name=some (lawRec,[]):=by kernel_rfl
def p3:LW.prog.theDef LW.name=some (lawRec.params,lawRec.body,lawRec.scope):=by kernel_rfl
def p4:kwWritten? lawRec.params.kwonlyargs lawRec.params.kw_defaults=some []:=by kernel_rfl
def p5:(chainsOk seen&&opensWell LW.prog&&(frees LW.row.toRowW&&LW.row.within.isEmpty))=true:=by kernel_rfl
def p6:LW.prog.bare:=⟨rfl,rfl,rfl,rfl,rfl,by decide +kernel⟩
end MX.K16
end
section
namespace L2
open PySem PySem.Spec PyProof.Rows
noncomputable abbrev Key:=Sum Int Str
noncomputable def uE:Key->Value->Bool
 |.inl k,v=>Value.isInt k v
 |.inr x,v=>Value.isStrOf x v
noncomputable def Pb(w:World):Key->Int
 |.inl k=>hashInt k
 |.inr x=>hashStr w x
theorem qP:∀{k:Key} {v:Value},uE k v=true->(∃i t,k=Sum.inl i/\v=Value.int i t)\/(∃x t,k=Sum.inr x/\v=Value.str x t)
 |.inl i,v,h=>by obtain⟨t,e⟩:=Value.isInt_shape (k:=i) (v:=v) h;exact .inl ⟨i,t,rfl,e⟩
 |.inr x,v,h=>by obtain⟨t,e⟩:=Value.isStrOf_shape (x:=x) (v:=v) h;exact .inr ⟨x,t,rfl,e⟩
theorem YB(a b:Int):decide ((Sum.inl a:Key)=Sum.inl b)=(a==b):=by
 by_cases e:a=b
 .subst e;simp
 .have h:¬(Sum.inl a:Key)=Sum.inl b:=λq=>e (Sum.inl.inj q);rw[decide_eq_false h];exact(beq_eq_false_iff_ne.mpr e).symm
theorem YF(a b:Str):decide ((Sum.inr a:Key)=Sum.inr b)=decide (a=b):=by
 by_cases e:a=b
 .subst e;simp
 .have h:¬(Sum.inr a:Key)=Sum.inr b:=λq=>e (Sum.inr.inj q);rw[decide_eq_false h,decide_eq_false e]
def YC(a:Int)(b:Str):decide ((Sum.inl a:Key)=Sum.inr b)=false:=decide_eq_false (λq=>nomatch q)
def YD(a:Str)(b:Int):decide ((Sum.inr a:Key)=Sum.inl b)=false:=decide_eq_false (λq=>nomatch q)
noncomputable def Ik(prog:Program)(w:World):PySem.KeyKind prog w Key where
 is:=uE
 hash:=Pb w
 inj:=λv a b ha hb=>by
  rcases qP ha with⟨i,t,rfl,rfl⟩|⟨x,t,rfl,rfl⟩
  .rcases qP hb with⟨j,u,rfl,e⟩|⟨y,u,rfl,e⟩
   .injection e with e1 _;rw[e1]
   .exact nomatch e
  .rcases qP hb with⟨j,u,rfl,e⟩|⟨y,u,rfl,e⟩
   .exact nomatch e
   .injection e with e1 _;rw[e1]
 byValue:=λk v h=>by rcases qP h with⟨i,t,rfl,rfl⟩|⟨x,t,rfl,rfl⟩<;>rfl
 pyHash:=λhv h=>by
  rcases qP hv with⟨i,t,rfl,rfl⟩|⟨x,t,rfl,rfl⟩
  .exact wpAny_pyHash_int h
  .exact wpAny_pyHash_str h
 eqBool:=λhu hv h=>by
  rcases qP hu with⟨i,t,rfl,rfl⟩|⟨x,t,rfl,rfl⟩
  .rcases qP hv with⟨j,u,rfl,rfl⟩|⟨y,u,rfl,rfl⟩
   .rw[YB] at h;exact wpAny_eqBool_int h
   .rw[YC] at h;exact SeqAt.EqAt.int_str i t y u _ _ _ _ h
  .rcases qP hv with⟨j,u,rfl,rfl⟩|⟨y,u,rfl,rfl⟩
   .rw[YD] at h;exact SeqAt.EqAt.str_int x t j u _ _ _ _ h
   .rw[YF] at h;exact wpAny_eqBool_str h
 «strs»:=λk x t v h=>by
  rcases qP h with⟨i,u,rfl,e⟩|⟨y,u,rfl,e⟩
  .exact nomatch e
  .injection e with e1 _;subst e1;cases v<;>rfl
inductive V where
 |non|bl (b:Bool)|int (i:Int)|str (x:Str)|byt (b:Array UInt8)|flt (b:UInt64)|ref (a:Addr)|ty (n:String)
 deriving DecidableEq
noncomputable def RelV:V->Value->Prop
 |.non,u=>u=Value.none
 |.bl b,u=>u=Value.bool b
 |.int i,u=>∃t,u=Value.int i t
 |.str x,u=>∃t,u=Value.str x t
 |.byt b,u=>∃t,u=Value.bytes b t
 |.flt b,u=>∃t,u=Value.float b t
 |.ref a,u=>u=Value.ref a
 |.ty n,u=>u=Value.type n
noncomputable abbrev Vals:List V->List Value->Prop:=Paired RelV
def Vals.length{xs:List V}{us:List Value}(r:Vals xs us):xs.length=us.length:=Paired.length r
theorem Vals.get:∀{xs:List V} {us:List Value} {i:Nat} {x:V},Vals xs us->xs[i]?=some x->∃u,us[i]?=some u/\RelV x u
 |_,_,_,_,.nil,e=>by simp at e
 |_,_,0,_,.cons r _,e=>by simp at e;subst e;exact⟨_,rfl,r⟩
 |_,_,i+1,x,.cons _ t,e=>by obtain⟨u,h1,h2⟩:=Vals.get (i:=i) (x:=x) t (by simpa using e);exact⟨u,by simpa using h1,h2⟩
def Vals.append:∀{xs ys:List V} {us ws:List Value},Vals xs us->Vals ys ws->Vals (xs++ys) (us++ws)
 |_,_,_,_,.nil,s=>s
 |_,_,_,_,.cons r t,s => .cons r (Vals.append t s)
def Vals.take:∀{xs:List V} {us:List Value} (n:Nat),Vals xs us->Vals (xs.take n) (us.take n)
 |_,_,0,_ => .nil
 |_,_,_+1,.nil => .nil
 |_,_,n+1,.cons r t => .cons r (Vals.take n t)
def Vals.drop:∀{xs:List V} {us:List Value} (n:Nat),Vals xs us->Vals (xs.drop n) (us.drop n)
 |_,_,0,r=>r
 |_,_,_+1,.nil => .nil
 |_,_,n+1,.cons _ t=>Vals.drop n t
theorem Vals.none_of:∀{xs:List V} {us:List Value} {i:Nat},Vals xs us->xs[i]?=none->us[i]?=none:=λ{xs us i} r e=>by have h1:=r.length;have h2:xs.length<=i:=List.getElem?_eq_none_iff.mp e;exact List.getElem?_eq_none_iff.mpr (by omega)
noncomputable def iR:Option V->Option Value->Prop
 |some v,some u=>RelV v u
 |none,none=>True
 |_,_=>False
noncomputable def KV{κ:Type}:List (κ×V)->List (κ×Value)->Prop:=Paired fun(p:κ×V) (q:κ×Value)=>p.1=q.1/\RelV p.2 q.2
noncomputable def kV:Key->V
 |.inl i => .int i
 |.inr x => .str x
inductive HO where
 |lst (xs:List V)
 |tup (xs:List V)
 |dK (kvs:List (Key×V))|dT (kvs:List (List Key×V))
 |set (S:Int->Bool) (n:Nat)
 |ins (C dx:Addr) (fs:List (Str×V))
 |own (x:Addr)
 |xd (fs:List (Str×V))
 |met (f x:Addr)
 |rng (lo hi:Int)
 |frz (o:Obj) (u:HO)
 |tbl (ps:Array Value)
 |ext (φ:Heap->Prop)
noncomputable abbrev Hp:=Addr->Option HO
noncomputable def upd(H:Hp)(a:Addr)(o:HO):Hp:=λb=>if b=a then some o else H b
def dU{H:Hp}{a:Addr}{o:HO}:upd H a o a=some o:=by unfold upd;rw[if_pos rfl]
def bN{H:Hp}{a b:Addr}{o:HO}(h:b≠a):upd H a o b=H b:=by unfold upd;rw[if_neg h]
def Ey{H:Hp}{a b:Addr}{o u:HO}(h:H a=some o)(h':H b=some u)(d:o≠u):a≠b:=by intro e;subst e;rw[h] at h';exact d (Option.some.inj h')
def fD{H:Hp}{a b:Addr}{o:HO}(h:H a=some o)(h':H b=none):a≠b:=by intro e;subst e;rw[h] at h';cases h'
section
variable (P:Program)(w:World)
noncomputable def bJ(H:Hp)(h:Heap)(a:Addr):HO->Prop
 |.lst xs=>xs.length<=sizeLine/\∃(its:List Value) (n:Nat),Vals xs its/\h.get? a=some { cls := .type "list",data := .seq its.toArray n }
 |.tup xs=>xs.length<=sizeLine/\∃its:List Value,Vals xs its/\IsTup h a its.toArray
 |.dK kvs=>kvs.length<=sizeLine/\(a==sysModules)=false/\∃vs,KV kvs vs/\h.DictOf (Ik P w) a vs
 |.dT kvs=>kvs.length<=sizeLine/\(a==sysModules)=false/\∃xs:List (List Key×Addr×Value),
  Paired (fun(p:List Key×V) (q:List Key×Addr×Value)=>p.1=q.1/\H q.2.1=some (.tup (p.1.map kV))/\RelV p.2 q.2.2) kvs xs /\
  ∃o es ep,h.get? a=some o/\o.ExactDict/\o.data = .dict es ep/\es.toList=xs.map (entryOfKey (tupleKind (Ik P w)))/\(xs.map (·.1)).Nodup
 |.set S n=>h.SetOf (intKind P w) a S n
 |.ins C dx fs=>H dx=some (.own a)/\fs.length<=1000/\dx≠a/\h.get? a=some (PySem.W.instObj C dx) /\
  ∃mA,h.Ns1 dx mA/\(∀f,iR (fs.lookup f) (mA f))/\PySem.Within mA (fs.map (·.1))
 |.own _=>∃o,h.get? a=some o
 |.xd fs=>∃mA,h.Ns1 a mA/\∀f,iR (fs.lookup f) (mA f)
 |.rng lo hi=>∃t u v,h.get? a=some { cls := .type "range",data := .fields #[.int lo t,.int hi u,.int 1 v] }
 |.frz o u=>h.get? a=some o/\bJ H h a u
 |.tbl ps=>h.get? a=some { cls := .none,data := .fields ps }/\TriplesOk ps.toList/\∀pos cv,codeAmong pos ps.toList=some cv->∃c q oc vs t,cv=Value.ref c/\H c=some (.own a)/\h.get? c=some oc/\oc.data = .fields vs/\vs[1]?=some (.str q t)
 |.met f x=>h.get? a=some (PySem.W.methodObj (.ref f) (.ref x))
 |.ext φ=>φ h/\(∃o,h.get? a=some o)/\∀h1 h2:Heap,φ h1->(∀o,h1.get? a=some o->h2.get? a=some o)->φ h2
def fJ(H:Hp)(h:Heap):Prop:=∀a o,H a=some o->bJ P w H h a o
end
section
variable {P:Program}{w:World}{H H':Hp}{h h':Heap}{a:Addr}{o:HO}
theorem bJ.lt(x:bJ P w H h a o):a<h.objs.size:=by
 cases o with
 |lst xs=>obtain⟨_,_,_,_,e⟩:=x;exact cg e
 |tup xs=>obtain⟨_,_,_,p⟩:=x;exact p.lt
 |dK kvs=>obtain⟨_,_,_,_,o,_,_,e,_⟩:=x;exact cg e
 |dT kvs=>obtain⟨_,_,_,_,o,_,_,e,_⟩:=x;exact cg e
 |set S n=>obtain⟨o,_,_,_,e,_⟩:=x;exact cg e
 |ins C dx fs=>obtain⟨_,_,_,e,_⟩:=x;exact cg e
 |own y=>obtain⟨_,e⟩:=x;exact cg e
 |xd fs=>obtain⟨_,⟨_,_,_,e,_⟩,_⟩:=x;exact cg e
 |rng lo hi=>obtain⟨_,_,_,e⟩:=x;exact cg e
 |frz ob u=>obtain⟨e,_⟩:=x;exact cg e
 |tbl ps=>exact cg x.1
 |met f y=>exact cg (show h.get? a=some _ from x)
 |ext φ=>obtain⟨_,⟨_,e⟩,_⟩:=x;exact cg e
def Paired.mapP{α β:Type}{F G:α->β->Prop}:∀{l₁:List α} {l₂:List β},Paired F l₁ l₂->(∀a b,F a b->G a b)->Paired G l₁ l₂
 |_,_,.nil,_ => .nil
 |_,_,.cons r t,f => .cons (f _ _ r) (Paired.mapP t f)
theorem bJ.stay(x:bJ P w H h a o)(k:∀b u,(b=a\/H b=some (.own a))->h.get? b=some u->h'.get? b=some u)(ho:∀b,H b=some (.own a)->H' b=some (.own a))(ht:∀b xs,H b=some (.tup xs)->H' b=some (.tup xs)):bJ P w H' h' a o:=by
 induction o with
 |lst xs=>obtain⟨z,its,n,r,e⟩:=x;exact⟨z,its,n,r,k _ _ (.inl rfl) e⟩
 |tup xs=>obtain⟨z,its,r,ob,e,c⟩:=x;exact⟨z,its,r,ob,k _ _ (.inl rfl) e,c⟩
 |dK kvs=>obtain⟨z,y,vs,r,ob,es,ep,e,c⟩:=x;exact⟨z,y,vs,r,ob,es,ep,k _ _ (.inl rfl) e,c⟩
 |dT kvs =>
  obtain⟨z,y,xs,r,ob,es,ep,e,c⟩:=x;exact⟨z,y,xs,Paired.mapP r λp q z=>⟨z.1,ht _ _ z.2.1,z.2.2⟩,ob,es,ep,k _ _ (.inl rfl) e,c⟩
 |set S n=>obtain⟨ob,es,ep,t,e,c⟩:=x;exact⟨ob,es,ep,t,k _ _ (.inl rfl) e,c⟩
 |ins C dx fs =>
  obtain⟨d,z,ne,e,mA,⟨od,es,ep,e2,c⟩,r⟩:=x;exact⟨ho _ d,z,ne,k _ _ (.inl rfl) e,mA,⟨od,es,ep,k _ _ (.inr d) e2,c⟩,r⟩
 |own y=>obtain⟨ob,e⟩:=x;exact⟨ob,k _ _ (.inl rfl) e⟩
 |xd fs=>obtain⟨mA,⟨od,es,ep,e,c⟩,r⟩:=x;exact⟨mA,⟨od,es,ep,k _ _ (.inl rfl) e,c⟩,r⟩
 |rng lo hi=>obtain⟨t,u,v,e⟩:=x;exact⟨t,u,v,k _ _ (.inl rfl) e⟩
 |frz ob u ih=>obtain⟨e,q⟩:=x;exact⟨k _ _ (.inl rfl) e,ih q⟩
 |tbl ps =>
  obtain⟨e,h1,h2⟩:=x;refine⟨k a _ (.inl rfl) e,h1,λpos cv q=>?_⟩;obtain⟨c,q,oc,vs,t,e1,e2,e3,e4⟩:=h2 pos cv q;exact⟨c,q,oc,vs,t,e1,ho _ e2,k _ _ (.inr e2) e3,e4⟩
 |met f y =>
  have e:h.get? a=some (PySem.W.methodObj (.ref f) (.ref y)):=x;show h'.get? a=some (PySem.W.methodObj (.ref f) (.ref y));exact k a _ (.inl rfl) e
 |ext φ=>obtain⟨p,⟨o,e⟩,st⟩:=x;exact⟨st _ _ p λo q=>k _ _ (.inl rfl) q,⟨o,k _ _ (.inl rfl) e⟩,st⟩
def fJ.lt(x:fJ P w H h)(e:H a=some o):a<h.objs.size:=(x a o e).lt
def fJ.fresh(x:fJ P w H h)(e:h.objs.size<=a):H a=none:=by
 cases q:H a with
 |none=>rfl
 |some u=>exact absurd (dg (x.lt q) e) (gO _)
def fJ.kept(x:fJ P w H h)(k:∀b u,h.get? b=some u->h'.get? b=some u):fJ P w H h':=λa o e =>
 (x a o e).stay (λb u _ q=>k b u q) (λ_ q=>q) λ_ _ q=>q
theorem fJ.laid(x:fJ P w H h)(k:∀b u,h.get? b=some u->h'.get? b=some u)(hp:h.objs.size<=a)(new:bJ P w (upd H a o) h' a o):fJ P w (upd H a o) h':=λb u e=>by
 have hn:=x.fresh hp;by_cases hb:b=a
 .subst hb;rw[dU] at e;cases e;exact new
 .rw[bN hb] at e;exact(x b u e).stay (λc v _ q=>k c v q) (λc q=>by rw[bN (fD q hn)];exact q) λc xs q=>by rw[bN (fD q hn)];exact q
end
def Rd(H:Hp)(a:Addr)(u:HO):Prop:=H a=some u\/∃o,H a=some (.frz o u)
theorem Rd.ok{P:Program}{w:World}{H:Hp}{h:Heap}{a:Addr}{u:HO}(r:Rd H a u)(x:fJ P w H h):bJ P w H h a u:=by
 rcases r with r|⟨o,r⟩
 .exact x a u r
 .obtain⟨_,q⟩:=x a _ r;exact q
noncomputable def Ht:Option HO->Prop
 |some (.lst _)=>True
 |some (.dK _)=>True
 |some (.dT _)=>True
 |some (.set _ _)=>True
 |some (.ins _ _ _)=>True
 |some (.ext _)=>True
 |_=>False
section
variable {P:Program}{w:World}{H:Hp}{h h':Heap}{x e:Addr}{o':HO}
theorem fJ.write(ok:fJ P w H h)(mu:Ht (H x))(he:e=x\/H e=some (.own x))(k:∀b u,b≠e->h.get? b=some u->h'.get? b=some u)(heo:∃u,h'.get? e=some u)(new:bJ P w (upd H x o') h' x o'):fJ P w (upd H x o') h':=λb u q=>by
 have CG:∀c y,H c=some (.own y)->c≠x:=λc y r z=>by subst z;rw[r] at mu;exact mu
 have O8:∀c xs,H c=some (.tup xs)->c≠x:=λc xs r z=>by subst z;rw[r] at mu;exact mu
 by_cases hb:b=x
 .subst hb;rw[dU] at q;cases q;exact new
 .rw[bN hb] at q;by_cases hbe:b=e
  .have q':H b=some (.own x):=by
    rcases he with z|z
    .exact absurd (hbe.trans z) hb
    .rw[hbe];exact z
   rw[q] at q';cases q';obtain⟨v,hv⟩:=heo;exact⟨v,by rw[hbe];exact hv⟩
  .refine(ok b u q).stay (λc v hc r=>k c v ?_ r) (λc r=>by rw[bN (CG c b r)];exact r) λc xs r=>by rw[bN (O8 c xs r)];exact r
   rcases hc with rfl|hc
   .exact hbe
   .rintro rfl
    rcases he with z|z
    .exact CG c b hc z
    .rw[hc] at z;cases z;exact hb rfl
end
structure Un(fs ex:List Addr)(H H':Hp)(h h':Heap):Prop where
 keep:∀b o,h.get? b=some o->H b=none->b∉fs->b∉ex->h'.get? b=some o
 slot:∀b o,h.get? b=some o->H b=none->b∈fs->b∉ex->∃sl,h'.get? b=some { o with slots:=sl }
 free:∀b o,h.get? b=some o->H b=none->b∉ex->H' b=none
 there:∀b o,h.get? b=some o->b∉ex->∃o',h'.get? b=some o'
 tups:∀b xs,H b=some (.tup xs)->H' b=some (.tup xs)
 frzs:∀b o u,H b=some (.frz o u)->H' b=some (.frz o u)
 tbls:∀b ps,H b=some (.tbl ps)->∃more,H' b=some (.tbl (ps++more))
section
variable {fs fs' ex ex':List Addr}{H H1 H2:Hp}{h h1 h2 h':Heap}{a x e:Addr}{o:HO}
theorem Un.any(u:Un fs ex H H1 h h1){b:Addr}{ob:Obj}(q:h.get? b=some ob)(n:H b=none)(hx:b∉ex):∃sl,h1.get? b=some { ob with slots:=sl }:=by
 by_cases hb:b∈fs
 .exact u.slot b ob q n hb hx
 .exact⟨ob.slots,u.keep b ob q n hb hx⟩
theorem Un.kept(k:∀b u,h.get? b=some u->h'.get? b=some u):Un fs ex H H h h' :=
 ⟨λb ob q _ _ _=>k b ob q,λb ob q _ _ _=>⟨ob.slots,k b ob q⟩,λ_ _ _ n _=>n,λb ob q _=>⟨ob,k b ob q⟩,λ_ _ q=>q,λ_ _ _ q=>q,λ_ ps q=>⟨#[],by rw[q];simp⟩⟩
def Un.refl:Un fs ex H H h h:=Un.kept λ_ _ q=>q
theorem Un.laid(k:∀b u,h.get? b=some u->h'.get? b=some u)(hp:h.objs.size<=a)(hn:H a=none):Un fs ex H (upd H a o) h h' where
 keep:=λb u q _ _ _=>k b u q
 slot:=λb u q _ _ _=>⟨u.slots,k b u q⟩
 free:=λb u q n _=>by rw[bN (dh (dg (cg q) hp))];exact n
 there:=λb u q _=>⟨u,k b u q⟩
 tups:=λb xs q=>by rw[bN (fD q hn)];exact q
 frzs:=λb u xs q=>by rw[bN (fD q hn)];exact q
 tbls:=λb ps q=>⟨#[],by rw[bN (fD q hn),q];simp⟩
theorem Un.write(mu:Ht (H x))(he:e=x\/H e=some (.own x))(k:∀b u,b≠e->h.get? b=some u->h'.get? b=some u)(heo:∃u,h'.get? e=some u):Un fs ex H (upd H x o) h h':=by
 have hx:∀b,H b=none->b≠x:=λb n z=>by subst z;rw[n] at mu;exact mu
 have hb:∀b,H b=none->b≠e:=λb n z=>by
  subst z;rcases he with r|r
  .exact hx b n r
  .rw[n] at r;cases r
 have hm:∀b u,H b=some u->¬Ht (some u)->b≠x:=λb u q nm z=>by subst z;rw[q] at mu;exact nm mu
 refine⟨λb u q n _ _=>k b u (hb b n) q,λb u q n _ _=>⟨u.slots,k b u (hb b n) q⟩,λb u q n _=>by rw[bN (hx b n)];exact n,λb u q _=>?_,
  λb xs q=>by rw[bN (hm b _ q λz=>z)];exact q,λb u xs q=>by rw[bN (hm b _ q λz=>z)];exact q,λb ps q=>⟨#[],by rw[bN (hm b _ q λz=>z),q];simp⟩⟩
 by_cases hbe:b=e
 .subst hbe;exact heo
 .exact⟨u,k b u hbe q⟩
end
noncomputable def zj(h:Heap)(H:Hp):List Addr:=(List.range h.objs.size).filter λa=>(H a).isSome
noncomputable def pC(h:Heap)(H:Hp):Heap:=PySem.W.hideAll h (zj h H)
def zkQ(h:Heap)(H:Hp):(pC h H).objs.size=h.objs.size:=PySem.W.hideAll_size _ _
theorem zmy{h:Heap}{H:Hp}{b:Addr}{o:Obj}(e:h.get? b=some o)(n:H b=none):(pC h H).get? b=some o :=
 PySem.W.hideAll_get _ e λhm=>by have q:(H b).isSome=true:=(List.mem_filter.mp hm).2;rw[n] at q;simp at q
theorem zoV{h:Heap}{H:Hp}{b:Addr}{o:Obj}(e:(pC h H).get? b=some o):h.get? b=some o/\H b=none:=by
 have e':h.get? b=some o:=PySem.W.of_hideAll (zj h H) e;refine⟨e',?_⟩;cases q:H b with
 |none=>rfl
 |some x =>
  have hm:b∈zj h H:=List.mem_filter.mpr ⟨List.mem_range.mpr (cg e'),by simp[q]⟩;have z:(pC h H).get? b=none:=PySem.W.hideAll_none (zj h H) hm;rw[z] at e;cases e
structure Mod(K:FgA)(mg:Str->Option Value)(base:Heap):Prop where
 kin:K.In base
 glob:base.Ns mainGlobals mg
 blt:∃mb,base.Ns builtinsNs mb/\∀x:Str,x ≠ "__name__" -> mb x=bootBuiltins x
 nolimit:base.NoLimit
structure Cx where
 prog:Program
 w:World
 K:FgA
 mg:Str->Option Value
 base:Heap
 A:Around
 N:List Str
 s₀:Shared
 H₀:Hp
 env:Env
 outer:List Env
 stack:List Env
 ex:List Addr
 fn:Str->Bool
 calm:Bool
 pn:List (Addr×Obj)
 xe:Value->Shared->Prop
noncomputable def frs(l:List Env):List Addr:=l.filterMap (·.frame)
noncomputable abbrev Cx.fs(X:Cx):List Addr:=frs X.outer
def p7(sc:Scope)(x:Str):Prop:=sc.names.lookup x=some .local\/sc.names.lookup x=some .cell\/sc.names.lookup x=some .free
def Loc(sc:Scope)(x:Str):Prop:=sc.names.lookup x=some .local\/sc.names.lookup x=some .cell
noncomputable def Look(env:Env)(h:Heap)(m:Str->Option Value)(x:Str)(u:Value):Prop :=
 (env.kindOf x=some .local/\m x=some u)\/((env.kindOf x=some .cell\/env.kindOf x=some .free)/\∃c,env.cells.lookup x=some c/\h.IsCell c (some u))
structure Cx.Ok(X:Cx):Prop where
 mod:Mod X.K X.mg X.base
 kind:X.env.scope.kind = .function
 glob:X.env.globals=mainGlobals
 blt:X.env.builtins=builtinsNs
 above:X.s₀.heap.objs.size<=X.env.locals
 inj:∀x y c,X.env.cells.lookup x=some c->X.env.cells.lookup y=some c->x=y
 has:∀x,(X.env.kindOf x=some .cell\/X.env.kindOf x=some .free)->∃c,X.env.cells.lookup x=some c
 cab:∀x c,X.fn x=true->X.env.cells.lookup x=some c->X.s₀.heap.objs.size<=c
 hd:X.calm=true->X.A.handled=none
 frames:X.A.frames=some X.stack
 stk:X.stack=X.outer\/(X.stack=X.env::X.outer/\X.env.frame=some X.env.locals)
 exf:∀b∈X.ex,b≠X.env.locals/\∀x c,X.env.cells.lookup x=some c->c≠b
 bs:∀b o,X.base.get? b=some o->X.s₀.heap.get? b=some o/\X.H₀ b=none
 bsz:X.base.objs.size<=X.s₀.heap.objs.size
 noex:∀b o,X.base.get? b=some o->b∉X.ex
 exfs:∀b∈X.ex,b∉X.fs
 funs:X.s₀.heap.FunFrames X.base X.outer
 frf:∀b∈X.fs,X.H₀ b=none
structure Inv(X:Cx)(pins:List (Addr×Obj))(σ:List (Option V))(H:Hp)(s:Shared):Prop where
 ok:X.Ok
 os:s.os=X.s₀.os
 bare:AllBare s.gens
 base:Un X.fs X.ex X.H₀ H X.s₀.heap s.heap
 loc:∃m,s.heap.Ns X.env.locals m/\∀(i:Nat) (x:Str) (v:V),X.N[i]?=some x->σ[i]?=some (some v)->p7 X.env.scope x->∃u,RelV v u/\Look X.env s.heap m x u
 cell:∀x c,X.env.cells.lookup x=some c->∃v,s.heap.IsCell c v
 free:H X.env.locals=none
 freeC:∀x c,X.env.cells.lookup x=some c->H c=none
 pin:∀p∈X.pn++pins,s.heap.get? p.1=some p.2/\H p.1=none/\p.1≠X.env.locals/\p.1∉X.fs/\∀v,p.2.data ≠ .cell v
 hok:fJ X.prog X.w H s.heap
 len:σ.length=X.N.length
section
variable {X:Cx}{pins:List (Addr×Obj)}{σ:List (Option V)}{H H':Hp}{s:Shared}{h':Heap}
def Cx.Ok.nofr(ok:X.Ok){b:Addr}{o:Obj}(e:X.base.get? b=some o):b∉X.fs:=λhb=>by have:=(ok.funs.mem hb).1;rw[e] at this;cases this
def Inv.bs(I:Inv X pins σ H s):∀b o,X.base.get? b=some o->s.heap.get? b=some o/\H b=none:=λb o e =>
 ⟨I.base.keep b o (I.ok.bs b o e).1 (I.ok.bs b o e).2 (I.ok.nofr e) (I.ok.noex b o e),I.base.free b o (I.ok.bs b o e).1 (I.ok.bs b o e).2 (I.ok.noex b o e)⟩
def Inv.bk(I:Inv X pins σ H s):∀b o,X.base.get? b=some o->s.heap.get? b=some o:=λb o e=>(I.bs b o e).1
def Inv.mod(I:Inv X pins σ H s):Mod X.K X.mg X.base:=I.ok.mod
def Inv.kIn(I:Inv X pins σ H s):X.K.In s.heap:=I.ok.mod.kin.keeps I.bk
def Inv.lt(I:Inv X pins σ H s):X.env.locals<s.heap.objs.size:=let ⟨_,hn,_⟩:=I.loc;hn.lt
def Inv.sz(I:Inv X pins σ H s):X.s₀.heap.objs.size<=s.heap.objs.size:=Nat.le_trans I.ok.above (uW I.lt)
theorem Inv.nofs(I:Inv X pins σ H s){a:Addr}(h:s.heap.objs.size<=a):a∉X.fs:=λhb=>by obtain⟨_,o,ho,_⟩:=I.ok.funs.mem hb;exact absurd (dg (cg ho) (Nat.le_trans I.sz h)) (gO _)
theorem Inv.cne(I:Inv X pins σ H s):∀x c,X.env.cells.lookup x=some c->c≠X.env.locals:=λx c e z=>by obtain⟨v,o,ho,hd⟩:=I.cell x c e;obtain⟨m,⟨o',es,ep,ho',hd',_⟩,_⟩:=I.loc;rw[z,ho'] at ho;cases ho;rw[hd'] at hd;cases hd
theorem Inv.funs(I:Inv X pins σ H s):s.heap.FunFrames X.base X.outer:=by
 have all:∀(l:List Env),(∀b∈frs l,b∈X.fs)->X.s₀.heap.FunFrames X.base l->s.heap.FunFrames X.base l:=by
  intro l
  induction l with
  |nil=>intro _ _;trivial
  |cons env r ih =>
   intro hs hl;obtain⟨hk,⟨L,o,hf,hn,ho,hd⟩,hr⟩:=hl;have hL:L∈X.fs:=hs L (by unfold frs;rw[List.filterMap_cons,hf];exact fX);obtain⟨sl,e⟩:=I.base.slot L o ho (I.ok.frf L hL) hL λz=>I.ok.exfs L z hL;exact⟨hk,⟨L,_,hf,hn,e,hd⟩,ih (λb hb=>hs b (by unfold frs;rw[List.filterMap_cons,hf];exact cG _ hb)) hr⟩
 exact all X.outer (λ_ hb=>hb) I.ok.funs
theorem Inv.stack(I:Inv X pins σ H s):s.heap.FunFrames X.base X.stack:=by
 rcases I.ok.stk with e|⟨e,hf⟩
 .rw[e];exact I.funs
 .rw[e];obtain⟨m,hn,_⟩:=I.loc;refine .cons (by rw[I.ok.kind];decide) hf hn ?_ I.funs;exact Heap.get?_none_of_le (Nat.le_trans I.ok.bsz I.ok.above)
theorem Inv.stkSub(I:Inv X pins σ H s):∀b∈frs X.stack,b∈X.env.locals::X.fs:=λb hb=>by
 rcases I.ok.stk with e|⟨e,hf⟩
 .rw[e] at hb;exact cG _ hb
 .rw[e] at hb;unfold frs at hb;rw[List.filterMap_cons,hf] at hb;exact hb
theorem Inv.stkFree(I:Inv X pins σ H s):∀b∈frs X.stack,H b=none:=λb hb=>by
 rcases List.mem_cons.mp (I.stkSub b hb) with e|hb
 .rw[e];exact I.free
 .obtain⟨_,o,ho,_⟩:=I.ok.funs.mem hb;exact I.base.free b o ho (I.ok.frf b hb) λz=>I.ok.exfs b z hb
theorem Inv.step{g':Array GenState}{t':Nat}{d':Drawn}{ch:List Addr}(I:Inv X pins σ H s)(hch:∀b∈ch,(b∈X.ex\/X.s₀.heap.objs.size<=b)/\b≠X.env.locals/\(∀x c,X.env.cells.lookup x=some c->c≠b)/\∀p∈X.pn++pins,p.1≠b)(keep:∀b o,b≠X.env.locals->b∉X.fs->b∉ch->s.heap.get? b=some o->H b=none->h'.get? b=some o)(slot:∀b o,b≠X.env.locals->b∈X.fs->b∉ch->s.heap.get? b=some o->H b=none->∃sl,h'.get? b=some { o with slots:=sl })(free:∀b o,b∉ch->s.heap.get? b=some o->H b=none->H' b=none)(there:∀b o,b∉ch->s.heap.get? b=some o->∃o',h'.get? b=some o')(tups:∀b xs,H b=some (.tup xs)->H' b=some (.tup xs))(frzs:∀b o u,H b=some (.frz o u)->H' b=some (.frz o u))(tbls:∀b ps,H b=some (.tbl ps)->∃more,H' b=some (.tbl (ps++more)))(ns:∀m,s.heap.Ns X.env.locals m->h'.Ns X.env.locals m)(hok:fJ X.prog X.w H' h')(hg:AllBare g'):
 Inv X pins σ H' { s with heap:=h',gens:=g',drawn:=d',toks:=t' }:=by
 have Xz:∀b o,X.s₀.heap.get? b=some o->b≠X.env.locals:=λb o e=>dh (dg (cg e) I.ok.above);have uz:∀b o,X.s₀.heap.get? b=some o->b∉X.ex->b∉ch:=λb o e hx hb=>by
  rcases(hch b hb).1 with z|z
  .exact hx z
  .exact absurd (dg (cg e) z) (gO _)
 have cellK:∀x c,X.env.cells.lookup x=some c->∀v,s.heap.IsCell c v->h'.IsCell c v:=λx c e v ⟨o,ho,hd⟩=>by
  have oH:c∉ch:=λz=>(hch c z).2.2.1 x c e rfl;by_cases hc:c∈X.fs
  .obtain⟨sl,q⟩:=slot c o (I.cne x c e) hc oH ho (I.freeC x c e);exact⟨_,q,hd⟩
  .exact⟨o,keep c o (I.cne x c e) hc oH ho (I.freeC x c e),hd⟩
 refine⟨I.ok,I.os,hg,⟨λb o e n hb hx=>?_,λb o e n hb hx=>?_,λb o e n hx=>?_,λb o e hx=>?_,λb xs e=>tups b xs (I.base.tups b xs e),λb o xs e=>frzs b o xs (I.base.frzs b o xs e),λb ps e=>?_⟩,?_,λx c e=>?_,?_,λx c e=>?_,λp hp=>?_,hok,I.len⟩
 .exact keep b o (Xz b o e) hb (uz b o e hx) (I.base.keep b o e n hb hx) (I.base.free b o e n hx)
 .obtain⟨sl,e1⟩:=I.base.slot b o e n hb hx;obtain⟨sl',e2⟩:=slot b _ (Xz b o e) hb (uz b o e hx) e1 (I.base.free b o e n hx);exact⟨sl',e2⟩
 .obtain⟨o',e1⟩:=I.base.there b o e hx;exact free b o' (uz b o e hx) e1 (I.base.free b o e n hx)
 .obtain⟨o',e1⟩:=I.base.there b o e hx;exact there b o' (uz b o e hx) e1
 .obtain⟨m1,e1⟩:=I.base.tbls b ps e;obtain⟨m2,e2⟩:=tbls b _ e1;exact⟨m1++m2,by rw[e2,Array.append_assoc]⟩
 .obtain⟨m,hn,hl⟩:=I.loc;refine⟨m,ns m hn,λi x v e1 e2 e3=>?_⟩;obtain⟨u,r,l⟩:=hl i x v e1 e2 e3;refine⟨u,r,?_⟩;rcases l with l|⟨k,c,e,z⟩
  .exact .inl l
  .exact .inr ⟨k,c,e,cellK x c e _ z⟩
 .obtain⟨v,z⟩:=I.cell x c e;exact⟨v,cellK x c e v z⟩
 .obtain⟨m,⟨o,_,_,ho,_⟩,_⟩:=I.loc;exact free _ o (λz=>(hch _ z).2.1 rfl) ho I.free
 .obtain⟨v,o,ho,hd⟩:=I.cell x c e;exact free c o (λz=>(hch c z).2.2.1 x c e rfl) ho (I.freeC x c e)
 .obtain⟨e,n,ne,nf,d⟩:=I.pin p hp;have oH:p.1∉ch:=λz=>(hch p.1 z).2.2.2 p hp rfl;exact⟨keep p.1 p.2 ne nf oH e n,free p.1 p.2 oH e n,ne,nf,d⟩
theorem Inv.un{t':Nat}(I:Inv X pins σ H s)(u:Un X.fs [] H H' s.heap h')(hok:fJ X.prog X.w H' h'):Inv X pins σ H' { s with heap:=h',toks:=t' }:=by
 obtain⟨m,⟨o,es,ep,ho,r⟩,_⟩:=id I.loc;obtain⟨sl,hL⟩:=u.any ho I.free (by simp);exact I.step (g':=s.gens) (d':=s.drawn) (ch:=[]) (λ_ z=>nomatch z) (λb o _ hb _ e n=>u.keep b o e n hb (by simp)) (λb o _ hb _ e n=>u.slot b o e n hb (by simp)) (λb o _ e n=>u.free b o e n (by simp)) (λb o _ e=>u.there b o e (by simp)) u.tups u.frzs u.tbls (λm' hm=>by
  obtain⟨o',es',ep',ho',r'⟩:=hm;rw[ho] at ho';cases ho';exact⟨_,es',ep',hL,r'⟩) hok I.bare
theorem Inv.call{g':Array GenState}{t':Nat}{d':Drawn}{ch:List Addr}(I:Inv X pins σ H s)(u:Un (frs X.stack) ch H H' s.heap h')(hok:fJ X.prog X.w H' h')(hg:AllBare g')(hch:∀b∈ch,(b∈X.ex\/X.s₀.heap.objs.size<=b)/\b≠X.env.locals/\(∀x c,X.env.cells.lookup x=some c->c≠b)/\∀p∈X.pn++pins,p.1≠b):
 Inv X pins σ H' { s with heap:=h',gens:=g',drawn:=d',toks:=t' }:=by
 obtain⟨m,⟨o,es,ep,ho,r⟩,_⟩:=id I.loc;obtain⟨sl,hL⟩:=u.any ho I.free λz=>(hch _ z).2.1 rfl;exact I.step (ch:=ch) hch (λb o hL hb hc e n=>u.keep b o e n (λz=>(List.mem_cons.mp (I.stkSub b z)).elim hL hb) hc) (λb o _ _ hc e n=>u.any e n hc) (λb o hc e n=>u.free b o e n hc) (λb o hc e=>u.there b o e hc) u.tups u.frzs u.tbls (λm' hm=>by
  obtain⟨o',es',ep',ho',r'⟩:=hm;rw[ho] at ho';cases ho';exact⟨_,es',ep',hL,r'⟩) hok hg
theorem Inv.turned{t':Nat}{it:Addr}(I:Inv X pins σ H s)(k:∀b o,b≠it->s.heap.get? b=some o->h'.get? b=some o)(hn:H it=none)(hL:it≠X.env.locals)(h1:it∈X.ex\/X.s₀.heap.objs.size<=it)(h2:∀x c,X.env.cells.lookup x=some c->c≠it)(h3:∀p∈X.pn++pins,p.1≠it):Inv X pins σ H { s with heap:=h',toks:=t' }:=by
 have Xx:∀b u,H b=some u->b≠it:=λb u e z=>by rw[z,hn] at e;cases e
 refine I.step (g':=s.gens) (d':=s.drawn) (ch:=[it]) (λb hb=>?_) (λb o _ _ hc e _=>k b o (λz=>hc (by simp[z])) e) (λb o _ _ hc e _=>⟨o.slots,k b o (λz=>hc (by simp[z])) e⟩) (λ_ _ _ _ n=>n)
  (λb o hc e=>⟨o,k b o (λz=>hc (by simp[z])) e⟩) (λ_ _ e=>e) (λ_ _ _ e=>e) (λb ps e=>⟨#[],by rw[e];simp⟩) (λm hm=>?_) (λb u e=>?_) I.bare
 .have e:b=it:=by simpa using hb
  subst e;exact⟨h1,hL,h2,h3⟩
 .obtain⟨o,es,ep,ho,r⟩:=hm;exact⟨o,es,ep,k _ o (Ne.symm hL) ho,r⟩
 .refine(I.hok b u e).stay (λc v hc q=>k c v ?_ q) (λ_ q=>q) λ_ _ q=>q;rcases hc with z|z
  .rw[z];exact Xx b u e
  .exact Xx c _ z
def Inv.tok(I:Inv X pins σ H s)(t:Nat):Inv X pins σ H { s with toks:=t }:=I.un (h':=s.heap) (t':=t) Un.refl I.hok
def Inv.kept{t':Nat}(I:Inv X pins σ H s)(k:∀b u,s.heap.get? b=some u->h'.get? b=some u):Inv X pins σ H { s with heap:=h',toks:=t' }:=I.un (Un.kept k) (I.hok.kept k)
def Inv.laid{a:Addr}{o:HO}{t':Nat}(I:Inv X pins σ H s)(k:∀b u,s.heap.get? b=some u->h'.get? b=some u)(hp:s.heap.objs.size<=a)(new:bJ X.prog X.w (upd H a o) h' a o):
 Inv X pins σ (upd H a o) { s with heap:=h',toks:=t' }:=I.un (Un.laid k hp (I.hok.fresh hp)) (I.hok.laid k hp new)
def Inv.write{x e:Addr}{o:HO}{t':Nat}(I:Inv X pins σ H s)(mu:Ht (H x))(he:e=x\/H e=some (.own x))(k:∀b u,b≠e->s.heap.get? b=some u->h'.get? b=some u)(heo:∃u,h'.get? e=some u)(new:bJ X.prog X.w (upd H x o) h' x o):Inv X pins σ (upd H x o) { s with heap:=h',toks:=t' }:=I.un (Un.write mu he k heo) (I.hok.write mu he k heo new)
def Inv.pins_of{uy:List (Addr×Obj)}(I:Inv X pins σ H s)(h:∀p∈uy,s.heap.get? p.1=some p.2/\H p.1=none/\p.1≠X.env.locals/\p.1∉X.fs/\∀v,p.2.data ≠ .cell v):Inv X uy σ H s :=
 ⟨I.ok,I.os,I.bare,I.base,I.loc,I.cell,I.free,I.freeC,λp hp=>(lO.mp hp).elim (λz=>I.pin p (List.mem_append_left _ z)) (h p),I.hok,I.len⟩
theorem Uh{N:List Str}(hN:N.Nodup){i j:Nat}{x:Str}(a:N[i]?=some x)(b:N[j]?=some x):i=j:=by obtain⟨h1,e1⟩:=eV.mp a;obtain⟨h2,e2⟩:=eV.mp b;exact(List.getElem_inj hN).mp (e1.trans e2.symm)
theorem zjF{M:Model}{A:Around}{E:Value->Shared->Prop}{i:Nat}{x:Str}{v:V}{u:Value}{Q:Unit->Shared->Prop}(I:Inv X pins σ H s)(hN:X.N.Nodup)(hi:X.N[i]?=some x)(hx:Loc X.env.scope x)(r:RelV v u)(h:∀s',Inv X pins (σ.set i (some v)) H s'->(∃a,Heap.SameBut a s.heap s'.heap/\(a=X.env.locals\/X.env.cells.lookup x=some a))->Q () s')(hf:X.fn x=true\/X.env.scope.names.lookup x=some .local:=by first|exact .inl rfl|exact .inr rfl|assumption):wpAny M A (storeName X.env x u) Q E s:=by
 obtain⟨m,hn,hl⟩:=id I.loc;have hcls:(X.env.scope.kind == .class||(X.env.scope.kind == .module&&X.env.locals != X.env.globals))=false:=by rw[I.ok.kind];rfl
 have hiσ:i<σ.length:=by rw[I.len];exact(eV.mp hi).1
 have cne:=I.cne;have tracked:∀{a:Addr} {h':Heap},(∃o,s.heap.get? a=some o/\H a=none)->Heap.SameBut a s.heap h'->fJ X.prog X.w H h':=λ{a h'} ha hs b ob e=>by
  obtain⟨_,_,hfree⟩:=ha;refine(I.hok b ob e).stay (λc w' hc q=>(hs.2 c ?_).trans q) (λ_ q=>q) λ_ _ q=>q
  rintro rfl
  rcases hc with rfl|hc
  .rw[hfree] at e;cases e
  .rw[hfree] at hc;cases hc
 rcases hx with hk|hk
 .refine wpAny_storeName_local hk hn (λh' hn' hs=>?_) hcls;obtain⟨oL,_,_,hoL,_⟩:=id hn;refine h _ ⟨I.ok,I.os,I.bare,⟨λb o e n hb hx=>?_,λb o e n hb hx=>?_,I.base.free,λb o e hx=>?_,I.base.tups,I.base.frzs,I.base.tbls⟩,⟨_,hn',λj y v' e1 e2 e3=>?_⟩,λy c e=>?_,I.free,I.freeC,λp hp=>?_,tracked ⟨oL,hoL,I.free⟩ hs,by simpa using I.len⟩ ⟨_,hs,.inl rfl⟩
  .exact(hs.2 b (dh (dg (cg e) I.ok.above))).trans (I.base.keep b o e n hb hx)
  .obtain⟨sl,e1⟩:=I.base.slot b o e n hb hx;exact⟨sl,(hs.2 b (dh (dg (cg e) I.ok.above))).trans e1⟩
  .obtain⟨o',e1⟩:=I.base.there b o e hx;exact⟨o',(hs.2 b (dh (dg (cg e) I.ok.above))).trans e1⟩
  .by_cases hj:j=i
   .subst hj;rw[hi] at e1;cases e1;rw[List.getElem?_set_self hiσ] at e2;cases e2;exact⟨u,r,.inl ⟨hk,by simp⟩⟩
   .rw[List.getElem?_set_ne (Ne.symm hj)] at e2;obtain⟨u',r',q⟩:=hl j y v' e1 e2 e3;refine⟨u',r',?_⟩;rcases q with⟨k,e⟩|⟨k,c,e,z⟩
    .refine .inl ⟨k,?_⟩;have:y≠x:=λe=>hj (Uh hN e1 (e ▸ hi));simp[this,e]
    .exact .inr ⟨k,c,e,z.sameBut hs (cne y c e)⟩
  .obtain⟨w',z⟩:=I.cell y c e;exact⟨w',z.sameBut hs (cne y c e)⟩
  .obtain⟨e,n,ne,nf,d⟩:=I.pin p hp;exact⟨(hs.2 p.1 ne).trans e,n,ne,nf,d⟩
 .have hfn:X.fn x=true:=by
   rcases hf with z|z
   .exact z
   .rw[z] at hk;cases hk
  obtain⟨c,hc⟩:=I.ok.has x (.inl hk);obtain⟨w',z⟩:=I.cell x c hc;refine wpAny_storeName_cell I.ok.kind hk hc z (λh' hc' hs=>?_);obtain⟨oc,hoc,Pr⟩:=id z;refine h { s with heap:=h' } ⟨I.ok,I.os,I.bare,⟨λb o e n hb hx=>?_,λb o e n hb hx=>?_,I.base.free,λb o e hx=>?_,I.base.tups,I.base.frzs,I.base.tbls⟩,⟨m,hn.sameBut hs (Ne.symm (cne x c hc)),λj y v' e1 e2 e3=>?_⟩,λy c' e=>?_,I.free,I.freeC,λp hp=>?_,tracked ⟨oc,hoc,I.freeC x c hc⟩ hs,by simpa using I.len⟩ ⟨c,hs,.inr hc⟩
  .exact(hs.2 b (dh (dg (cg e) (I.ok.cab x c hfn hc)))).trans (I.base.keep b o e n hb hx)
  .obtain⟨sl,e1⟩:=I.base.slot b o e n hb hx;exact⟨sl,(hs.2 b (dh (dg (cg e) (I.ok.cab x c hfn hc)))).trans e1⟩
  .obtain⟨o',e1⟩:=I.base.there b o e hx;exact⟨o',(hs.2 b (dh (dg (cg e) (I.ok.cab x c hfn hc)))).trans e1⟩
  .by_cases hj:j=i
   .subst hj;rw[hi] at e1;cases e1;rw[List.getElem?_set_self hiσ] at e2;cases e2;exact⟨u,r,.inr ⟨.inl hk,c,hc,hc'⟩⟩
   .rw[List.getElem?_set_ne (Ne.symm hj)] at e2;obtain⟨u',r',q⟩:=hl j y v' e1 e2 e3;refine⟨u',r',?_⟩;rcases q with q|⟨k,c',e,z'⟩
    .exact .inl q
    .refine .inr ⟨k,c',e,z'.sameBut hs ?_⟩
     rintro rfl
     exact hj (Uh hN e1 (I.ok.inj _ _ _ e hc ▸ hi))
  .by_cases hcc:c'=c
   .subst hcc;exact⟨_,hc'⟩
   .obtain⟨w2,z2⟩:=I.cell y c' e;exact⟨w2,z2.sameBut hs hcc⟩
  .obtain⟨e,n,ne,nf,d⟩:=I.pin p hp;refine⟨(hs.2 p.1 ?_).trans e,n,ne,nf,d⟩;intro q;rw[q,hoc] at e;have q':oc=p.2:=Option.some.inj e;exact d w' (by rw[<-q'];exact Pr)
theorem Gi{M:Model}{A:Around}{E:Value->Shared->Prop}{i:Nat}{x:Str}{v:V}{u:Value}{Q:Unit->Shared->Prop}(I:Inv X pins σ H s)(hN:X.N.Nodup)(hi:X.N[i]?=some x)(hx:Loc X.env.scope x)(r:RelV v u)(h:∀s',Inv X pins (σ.set i (some v)) H s'->Q () s')(hf:X.fn x=true\/X.env.scope.names.lookup x=some .local:=by first|exact .inl rfl|exact .inr rfl|assumption):wpAny M A (storeName X.env x u) Q E s :=
 zjF I hN hi hx r (λs' I' _=>h s' I') hf
theorem Inv.call'{s':Shared}{ch:List Addr}(I:Inv X pins σ H s)(ho:s'.os=s.os)(u:Un (frs X.stack) ch H H' s.heap s'.heap)(hok:fJ X.prog X.w H' s'.heap)(hg:AllBare s'.gens)(hch:∀b∈ch,(b∈X.ex\/X.s₀.heap.objs.size<=b)/\b≠X.env.locals/\(∀x c,X.env.cells.lookup x=some c->c≠b)/\∀p∈X.pn++pins,p.1≠b):Inv X pins σ H' s':=by obtain⟨h',g',d',t',o'⟩:=s';have e:o'=s.os:=ho;subst e;exact I.call (g':=g') (t':=t') (d':=d') u hok hg hch
end
noncomputable abbrev XK:=Value->Option Addr->Hp->Prop
noncomputable abbrev St:=List (Option V)
noncomputable abbrev VK:=V->Hp->Prop
noncomputable abbrev TE:=St->Hp->VK->Prop
noncomputable abbrev TT:=St->Hp->(Bool->Hp->Prop)->Prop
noncomputable abbrev TA:=St->Hp->(List V->Hp->Prop)->Prop
structure qj where
 nx:St->Hp->Prop
 rt:VK
 bk:St->Hp->Prop:=λ_ _=>False
 ct:St->Hp->Prop:=λ_ _=>False
noncomputable abbrev TS:=qj->St->Hp->Prop
def EP(X:Cx)(pins:List (Addr×Obj))(σ:St)(Q:VK)(u:Value)(s':Shared):Prop:=∃v H',Inv X pins σ H' s'/\RelV v u/\Q v H'
def TP(X:Cx)(pins:List (Addr×Obj))(σ:St)(Q:Bool->Hp->Prop)(b:Bool)(s':Shared):Prop:=∃H',Inv X pins σ H' s'/\Q b H'
def AP(X:Cx)(pins:List (Addr×Obj))(σ:St)(Q:List V->Hp->Prop)(us:List Value)(s':Shared):Prop:=∃vs H',Inv X pins σ H' s'/\Vals vs us/\Q vs H'
noncomputable def SP(X:Cx)(pins:List (Addr×Obj))(D:qj)(f:Flow)(s':Shared):Prop :=
 match f with
 |.next=>∃σ' H',Inv X pins σ' H' s'/\D.nx σ' H'
 |.brk=>∃σ' H',Inv X pins σ' H' s'/\D.bk σ' H'
 |.cont=>∃σ' H',Inv X pins σ' H' s'/\D.ct σ' H'
 |.ret u=>∃v σ' H',Inv X pins σ' H' s'/\RelV v u/\D.rt v H'
noncomputable def PE(X:Cx)(e:Expr)(t:TE):Prop :=
 ∀(pins:List (Addr×Obj)) (s:Shared) (σ:St) (H:Hp) (Q:VK),Inv X pins σ H s->t σ H Q->wpAny (model X.prog X.w) X.A (eval e X.env) (EP X pins σ Q) X.xe s
noncomputable def PT(X:Cx)(e:Expr)(t:TT):Prop :=
 ∀(pins:List (Addr×Obj)) (s:Shared) (σ:St) (H:Hp) (Q:Bool->Hp->Prop),Inv X pins σ H s->t σ H Q->wpAny (model X.prog X.w) X.A (isTrue e X.env (eval e X.env)) (TP X pins σ Q) X.xe s
noncomputable def PW(X:Cx)(e:Expr)(t:TT):Prop :=
 ∀(whole:Sem Value) (pins:List (Addr×Obj)) (s:Shared) (σ:St) (H:Hp) (Q:Bool->Hp->Prop),Inv X pins σ H s->t σ H Q->wpAny (model X.prog X.w) X.A (isTrue e X.env whole) (TP X pins σ Q) X.xe s
def PW.pt{X:Cx}{e:Expr}{t:TT}(h:PW X e t):PT X e t:=h _
noncomputable def PA(X:Cx)(es:List Expr)(t:TA):Prop :=
 ∀(pos:Pos) (pins:List (Addr×Obj)) (s:Shared) (σ:St) (H:Hp) (Q:List V->Hp->Prop),Inv X pins σ H s->t σ H Q->wpAny (model X.prog X.w) X.A (spliced (backTo pos (starEach es X.env))) (AP X pins σ Q) X.xe s
noncomputable def PS(X:Cx)(st:Stmt)(t:TS):Prop :=
 ∀(pins:List (Addr×Obj)) (s:Shared) (σ:St) (H:Hp) (D:qj),Inv X pins σ H s->t D σ H->wpAny (model X.prog X.w) X.A (exec st X.env) (SP X pins D) X.xe s
noncomputable def fM(X:Cx)(st:List Stmt)(t:TS):Prop :=
 ∀(pins:List (Addr×Obj)) (s:Shared) (σ:St) (H:Hp) (D:qj),Inv X pins σ H s->t D σ H->wpAny (model X.prog X.w) X.A (execs st X.env) (SP X pins D) X.xe s
def bK{α:Type}{t:Sem α}{Q Q':α->Shared->Prop}{M:Model}{A:Around}{E:Value->Shared->Prop}{s:Shared}(h:wpAny M A t Q E s)(hQ:∀a s,Q a s->Q' a s):wpAny M A t Q' E s:=iw h hQ λ_ _ x=>x
section
variable {X:Cx}
noncomputable def oh(i:Nat):TE:=λσ H Q=>∃v,σ[i]?=some (some v)/\Q v H
noncomputable def tC(v:V):TE:=λ_ H Q=>Q v H
theorem yt{i:Nat}{x:Str}{pos:Pos}(hN:X.N[i]?=some x)(hv:p7 X.env.scope x)(hd:(x==("__debug__" : Str))=false:=by decide)(hcd:(x==("__classdict__" : Str))=false:=by decide):PE X (.Name x pos) (oh i):=by
 intro pins s σ H Q I h;obtain⟨v,e,h⟩:=h;obtain⟨m,hn,hl⟩:=I.loc;obtain⟨u,r,l⟩:=hl i x v hN e hv;have fin:EP X pins σ Q u s:=⟨v,H,I,r,h⟩
 rcases l with⟨hk,hm⟩|⟨hk,c,hc,hcell⟩
 .exact wpAny_Name (wpAny_loadName_local I.ok.kind hk hn hm fin) hd
 .rcases hk with hk|hk
  .exact wpAny_Name (wpAny_loadName_cell I.ok.kind hk hc hcell fin) hd
  .exact wpAny_Name (wpAny_loadName_free I.ok.kind hk hc hcell fin hcd) hd
def Rj{i j pos}:PE X (.Constant (.int i) j pos) (tC (.int i)):=λ_ _ _ H _ I h=>wpAny_Constant_int ⟨.int i,H,I.tok _,⟨_,rfl⟩,h⟩
def Jf{b j pos}:PE X (.Constant (.bool b) j pos) (tC (.bl b)):=λ_ _ _ H _ I h=>Constant_bool ⟨.bl b,H,I,rfl,h⟩
def Z9{j pos}:PE X (.Constant .none j pos) (tC .non):=λ_ _ _ H _ I h=>Constant_none ⟨.non,H,I,rfl,h⟩
def vA{x j pos}:PE X (.Constant (.str x) j pos) (tC (.str x)):=λ_ _ _ H _ I h=>Calls.Constant_str ⟨.str x,H,I.tok _,⟨_,rfl⟩,h⟩
def Gl(X:Cx)(x:Str):Prop:=X.env.kindOf x=some .globalImplicit
theorem tR{E:Value->Shared->Prop}{pins:List (Addr×Obj)}{s:Shared}{σ:St}{H:Hp}{x:Str}{u:Value}{pos:Pos}{Q:Value->Shared->Prop}(I:Inv X pins σ H s)(hg:Gl X x)(hm:X.mg x=some u)(h:Q u s)(hd:(x==("__debug__" : Str))=false:=by decide):wpAny (model X.prog X.w) X.A (eval (.Name x pos) X.env) Q E s :=
 Calls.Name_function_global I.ok.kind hg (Calls.loadGlobal_global (by rw[I.ok.glob];exact I.mod.glob.keeps I.bk) hm h) hd
theorem tH{E:Value->Shared->Prop}{pins:List (Addr×Obj)}{s:Shared}{σ:St}{H:Hp}{x:Str}{u:Value}{pos:Pos}{Q:Value->Shared->Prop}(I:Inv X pins σ H s)(hg:Gl X x)(hm:X.mg x=none)(hv:bootBuiltins x=some u)(h:Q u s)(hn:x ≠ "__name__" := by decide)(hd:(x==("__debug__" : Str))=false:=by decide):wpAny (model X.prog X.w) X.A (eval (.Name x pos) X.env) Q E s:=by obtain⟨mb,h1,h2⟩:=I.mod.blt;exact Calls.Name_function_global I.ok.kind hg (Calls.loadGlobal_builtin (by rw[I.ok.glob];exact I.mod.glob.keeps I.bk) hm (by rw[I.ok.blt];exact h1.keeps I.bk) ((h2 x hn).trans hv) h) hd
theorem R8{x:Str}{v:V}{u:Value}{pos:Pos}(hg:Gl X x)(hm:X.mg x=some u)(r:RelV v u)(hd:(x==("__debug__" : Str))=false:=by decide):PE X (.Name x pos) (tC v) :=
 λ_ _ _ H _ I h=>tR I hg hm ⟨v,H,I,r,h⟩ hd
theorem R6{x:Str}{v:V}{u:Value}{pos:Pos}(hg:Gl X x)(hm:X.mg x=none)(hv:bootBuiltins x=some u)(r:RelV v u)(hn:x ≠ "__name__" := by decide)(hd:(x==("__debug__" : Str))=false:=by decide):PE X (.Name x pos) (tC v) :=
 λ_ _ _ H _ I h=>tH I hg hm hv ⟨v,H,I,r,h⟩ hn hd
variable {a b:Expr}{ta tb:TE}{pos:Pos}
noncomputable def tB(t:TE):TT:=λσ H Q=>t σ H λx H1=>∃c,x = .bl c/\Q c H1
theorem Rq{e:Expr}{t:TE}(h:PE X e t)(he:∀whole,isTrue e X.env whole=(do let v <-whole;standAt e.pos;holding [v] (truthy v)):=by intro _;rfl):PT X e (tB t):=by intro pins s σ H Q I hw;refine isTrue_plain (bK (h pins s σ H _ I hw) λv s1 ⟨x,H1,I1,r1,q1⟩=>?_) (he _);obtain⟨d,rfl,q⟩:=q1;cases r1;exact wpAny_truthy_bool ⟨H1,I1,q⟩
variable {tA G7:TT}{rest:List Expr}
noncomputable def Oj(t u:TT):TT:=λσ H Q=>t σ H λc H1=>if c=true then u σ H1 Q else Q false H1
noncomputable def Ob(t u:TT):TT:=λσ H Q=>t σ H λc H1=>if c=true then Q true H1 else u σ H1 Q
noncomputable def vU(t:TT):TT:=λσ H Q=>t σ H λc H1=>Q (!c) H1
theorem zok(ha:PT X a tA):PW X (.BoolOp .And [a] pos) tA:=by
 intro wh pins s σ H Q I h;refine isTrue_and (bK (ha pins s σ H Q I h) λc s1 e=>?_);cases c with
 |true=>exact isTrue_and_nil e
 |false=>exact e
theorem Rt(ha:PT X a tA):PW X (.BoolOp .Or [a] pos) tA:=by
 intro wh pins s σ H Q I h;refine isTrue_or (bK (ha pins s σ H Q I h) λc s1 e=>?_);cases c with
 |false=>exact isTrue_or_nil e
 |true=>exact e
theorem zqJ(ha:PT X a tA)(hb:PW X (.BoolOp .And (b::rest) pos) G7):PW X (.BoolOp .And (a::b::rest) pos) (Oj tA G7):=by
 intro wh pins s σ H Q I h;refine isTrue_and (bK (ha pins s σ H _ I h) λc s1 ⟨H1,I1,q1⟩=>?_);cases c with
 |true=>exact hb wh pins s1 σ H1 Q I1 q1
 |false=>exact⟨H1,I1,q1⟩
theorem Je(ha:PT X a tA)(hb:PW X (.BoolOp .Or (b::rest) pos) G7):PW X (.BoolOp .Or (a::b::rest) pos) (Ob tA G7):=by
 intro wh pins s σ H Q I h;refine isTrue_or (bK (ha pins s σ H _ I h) λc s1 ⟨H1,I1,q1⟩=>?_);cases c with
 |true=>exact⟨H1,I1,q1⟩
 |false=>exact hb wh pins s1 σ H1 Q I1 q1
def Jz(ha:PT X a tA):PT X (.UnaryOp .Not a pos) (vU tA):=by intro pins s σ H Q I h;exact isTrue_not (ha pins s σ H (λc H1=>Q (!c) H1) I h)
noncomputable def BR(ta tb:TE):TE:=λσ H Q=>ta σ H λx H1=>∃c,x = .bl c/\if c=true then tb σ H1 Q else Q (.bl false) H1
noncomputable def Oa(ta tb:TE):TE:=λσ H Q=>ta σ H λx H1=>∃c,x = .bl c/\if c=true then Q (.bl true) H1 else tb σ H1 Q
noncomputable def Bw(ta:TE):TE:=λσ H Q=>ta σ H λx H1=>∃c,x = .bl c/\Q (.bl (!c)) H1
def zqU{op}{t:TE}(h:PE X a t):PE X (.BoolOp op [a] pos) t:=λpins s σ H Q I hw=>BoolOp_one (h pins s σ H Q I hw)
theorem zq0(ha:PE X a ta)(hb:PE X (.BoolOp .And (b::rest) pos) tb):PE X (.BoolOp .And (a::b::rest) pos) (BR ta tb):=by
 intro pins s σ H Q I h;refine BoolOp_and (bK (ha pins s σ H _ I h) λv s1 ⟨x,H1,I1,r1,q1⟩=>?_);obtain⟨c,rfl,q1⟩:=q1;cases r1;refine wpAny_truthy_bool ?_;cases c with
 |true=>exact hb pins s1 σ H1 Q I1 q1
 |false=>exact⟨.bl false,H1,I1,rfl,q1⟩
theorem Zu(ha:PE X a ta)(hb:PE X (.BoolOp .Or (b::rest) pos) tb):PE X (.BoolOp .Or (a::b::rest) pos) (Oa ta tb):=by
 intro pins s σ H Q I h;refine BoolOp_or (bK (ha pins s σ H _ I h) λv s1 ⟨x,H1,I1,r1,q1⟩=>?_);obtain⟨c,rfl,q1⟩:=q1;cases r1;refine wpAny_truthy_bool ?_;cases c with
 |false=>exact hb pins s1 σ H1 Q I1 q1
 |true=>exact⟨.bl true,H1,I1,rfl,q1⟩
theorem zqV(ha:PE X a ta):PE X (.UnaryOp .Not a pos) (Bw ta):=by intro pins s σ H Q I h;refine UnaryOp_ (bK (ha pins s σ H _ I h) λv s1 ⟨x,H1,I1,r1,q1⟩=>?_);obtain⟨c,rfl,q1⟩:=q1;cases r1;exact not_of (wpAny_truthy_bool ⟨.bl (!c),H1,I1,rfl,q1⟩)
noncomputable def tIf(t:TT)(ta tb:TE):TE:=λσ H Q=>t σ H λc H1=>if c=true then ta σ H1 Q else tb σ H1 Q
theorem zmf{c:Expr}(hc:PT X c tA)(ha:PE X a ta)(hb:PE X b tb):PE X (.IfExp c a b pos) (tIf tA ta tb):=by
 intro pins s σ H Q I h;refine wpAny_IfExp (bK (hc pins s σ H _ I h) λd s1 ⟨H1,I1,q1⟩=>?_);cases d with
 |true=>exact ha pins s1 σ H1 Q I1 q1
 |false=>exact hb pins s1 σ H1 Q I1 q1
end
noncomputable def cQ(K:FgA)(H:Hp)(a:Addr)(xs:List V):Prop :=
 Rd H a (.lst xs) \/
  ∃(o:Obj) (its:Array Value) (n:Nat),K.lookup a=some o/\o.cls = .type "list" /\ o.dict=none/\o.data = .seq its n/\its.size<=sizeLine/\Vals xs its.toList
noncomputable def dG(K:FgA)(H:Hp)(a:Addr)(xs:List V):Prop :=
 Rd H a (.tup xs) \/
  ∃(o:Obj) (its:Array Value) (n:Nat),K.lookup a=some o/\o.cls = .type "tuple" /\ o.data = .seq its n/\its.size<=sizeLine/\Vals xs its.toList
noncomputable def Qi:Value->Option V
 |.none=>some .non
 |.bool b=>some (.bl b)
 |.int i _=>some (.int i)
 |.str x _=>some (.str x)
 |.bytes b _=>some (.byt b)
 |.float b _=>some (.flt b)
 |.ref a=>some (.ref a)
 |.type n=>some (.ty n)
 |_=>none
theorem RelV.abs{x:V}{u:Value}(r:RelV x u):Qi u=some x:=by
 cases x with
 |non=>cases r;rfl
 |bl _=>cases r;rfl
 |int _=>obtain⟨t,rfl⟩:=r;rfl
 |str _=>obtain⟨t,rfl⟩:=r;rfl
 |byt _=>obtain⟨t,rfl⟩:=r;rfl
 |flt _=>obtain⟨t,rfl⟩:=r;rfl
 |ref _=>cases r;rfl
 |ty _=>cases r;rfl
def RelV.inj{x y:V}{u:Value}(r:RelV x u)(q:RelV y u):x=y:=Option.some.inj (r.abs.symm.trans q.abs)
theorem Vals.inj:∀{xs ys:List V} {us:List Value},Vals xs us->Vals ys us->xs=ys
 |_,_,_,.nil,.nil=>rfl
 |_,_,_,.cons r t,.cons r' t'=>by rw[r.inj r',Vals.inj t t']
section
variable {X:Cx}{pins:List (Addr×Obj)}{σ:St}{H:Hp}{s:Shared}{a:Addr}{xs ys:List V}
def cQ.of{K:FgA}(h:H a=some (.lst xs)):cQ K H a xs := .inl (.inl h)
def dG.of{K:FgA}(h:H a=some (.tup xs)):dG K H a xs := .inl (.inl h)
theorem Inv.list(I:Inv X pins σ H s)(h:cQ X.K H a xs):∃its:List Value,Vals xs its/\PlainL s.heap a its.toArray/\xs.length<=sizeLine:=by
 rcases h with h|⟨o,its,n,hk,hc,hd,hs,hz,r⟩
 .obtain⟨z,its,n,r,e⟩:=h.ok I.hok;exact⟨its,r,⟨_,n,e,rfl,rfl,rfl⟩,z⟩
 .refine⟨its.toList,r,⟨o,n,I.kIn a o hk,hc,hd,by simpa using hs⟩,?_⟩;have e:=r.length;simp only[Array.length_toList] at e;omega
theorem Inv.tuple(I:Inv X pins σ H s)(h:dG X.K H a xs):∃its:List Value,Vals xs its/\IsTup s.heap a its.toArray/\xs.length<=sizeLine:=by
 rcases h with h|⟨o,its,n,hk,hc,hs,hz,r⟩
 .obtain⟨z,its,r,p⟩:=h.ok I.hok;exact⟨its,r,p,z⟩
 .refine⟨its.toList,r,⟨o,I.kIn a o hk,hc,n,by simpa using hs⟩,?_⟩;have e:=r.length;simp only[Array.length_toList] at e;omega
theorem Inv.list_inj(I:Inv X pins σ H s)(h:cQ X.K H a xs)(h':cQ X.K H a ys):xs=ys:=by
 obtain⟨its,r,⟨o,n,e,_,_,d⟩,_⟩:=I.list h;obtain⟨its',r',⟨o',n',e',_,_,d'⟩,_⟩:=I.list h';rw[e] at e';cases e';rw[d] at d';injection d' with d1 _;have:its=its':=by simpa using congrArg Array.toList d1
 subst this;exact r.inj r'
theorem Inv.tuple_inj(I:Inv X pins σ H s)(h:dG X.K H a xs)(h':dG X.K H a ys):xs=ys:=by
 obtain⟨its,r,⟨o,e,_,n,d⟩,_⟩:=I.tuple h;obtain⟨its',r',⟨o',e',_,n',d'⟩,_⟩:=I.tuple h';rw[e] at e';cases e';rw[d] at d';injection d' with d1 _;have:its=its':=by simpa using congrArg Array.toList d1
 subst this;exact r.inj r'
end
noncomputable abbrev Cx.wish(X:Cx)(E:Value->Shared->Prop):Cx:={ X with xe:=E }
noncomputable abbrev Cx.nox(X:Cx):Cx:=X.wish λ_ _=>False
def Cx.Ok.wish{X:Cx}(ok:X.Ok)(E:Value->Shared->Prop):(X.wish E).Ok :=
 ⟨ok.mod,ok.kind,ok.glob,ok.blt,ok.above,ok.inj,ok.has,ok.cab,ok.hd,ok.frames,ok.stk,ok.exf,ok.bs,ok.bsz,ok.noex,ok.exfs,ok.funs,ok.frf⟩
def Cx.Ok.unwish{X:Cx}{E:Value->Shared->Prop}(ok:(X.wish E).Ok):X.Ok :=
 ⟨ok.mod,ok.kind,ok.glob,ok.blt,ok.above,ok.inj,ok.has,ok.cab,ok.hd,ok.frames,ok.stk,ok.exf,ok.bs,ok.bsz,ok.noex,ok.exfs,ok.funs,ok.frf⟩
section
variable {X:Cx}{pins:List (Addr×Obj)}{σ:St}{H:Hp}{s:Shared}{E:Value->Shared->Prop}
def Inv.wish(I:Inv X pins σ H s)(E:Value->Shared->Prop):Inv (X.wish E) pins σ H s:=⟨I.ok.wish E,I.os,I.bare,I.base,I.loc,I.cell,I.free,I.freeC,I.pin,I.hok,I.len⟩
def Inv.unwish(I:Inv (X.wish E) pins σ H s):Inv X pins σ H s:=⟨I.ok.unwish,I.os,I.bare,I.base,I.loc,I.cell,I.free,I.freeC,I.pin,I.hok,I.len⟩
theorem SP.unwish{D:qj}{f:Flow}{s':Shared}(h:SP (X.wish E) pins D f s'):SP X pins D f s':=by
 cases f with
 |next=>obtain⟨σ',H',I,q⟩:=h;exact⟨σ',H',I.unwish,q⟩
 |brk=>obtain⟨σ',H',I,q⟩:=h;exact⟨σ',H',I.unwish,q⟩
 |cont=>obtain⟨σ',H',I,q⟩:=h;exact⟨σ',H',I.unwish,q⟩
 |ret u=>obtain⟨v,σ',H',I,r,q⟩:=h;exact⟨v,σ',H',I.unwish,r,q⟩
def PE.nox{e:Expr}{t:TE}(h:PE X.nox e t):PE X e t:=λpins s σ H Q I hw =>
 iw (h pins s σ H Q (I.wish _) hw) (λ_ _ ⟨v,H',I',r,q⟩=>⟨v,H',I'.unwish,r,q⟩) λ_ _ z=>False.elim z
def fM.nox{st:List Stmt}{t:TS}(h:fM X.nox st t):fM X st t:=λpins s σ H D I hw =>
 iw (h pins s σ H D (I.wish _) hw) (λ_ _ q=>q.unwish) λ_ _ z=>False.elim z
end
section
variable {X:Cx}{st:Stmt}{rest:List Stmt}{t u:TS}{e:Expr}{te:TE}{pos:Pos}
noncomputable def xX:TS:=λD σ H=>D.nx σ H
noncomputable def ou(t u:TS):TS:=λD σ H=>t { D with nx:=u D } σ H
def Fw:fM X [] xX:=λ_ _ σ H _ I h=>wpAny_execs_nil ⟨σ,H,I,h⟩
theorem tU(h1:PS X st t)(h2:fM X rest u):fM X (st::rest) (ou t u):=by
 intro pins s σ H D I h;refine wpAny_execs_cons (bK (h1 pins s σ H { D with nx:=u D } I h) λf s1 q=>?_);cases f with
 |next =>
  obtain⟨σ',H',I',q⟩:=q;exact h2 pins s1 σ' H' D I' q
 |ret v=>exact q
 |brk=>exact q
 |cont=>exact q
theorem TV(h1:PS X st t):fM X [st] t:=by
 intro pins s σ H D I h;refine wpAny_execs_cons (bK (h1 pins s σ H D I h) λf s1 q=>?_);cases f with
 |next=>exact wpAny_execs_nil q
 |ret v=>exact q
 |brk=>exact q
 |cont=>exact q
noncomputable def vW:TS:=λD σ H=>D.bk σ H
noncomputable def BL:TS:=λD σ H=>D.ct σ H
def zop:PS X (.Pass pos) xX:=λ_ _ σ H _ I h=>wpAny_Pass ⟨σ,H,I,h⟩
def zl8:PS X (.Break pos) vW:=λ_ _ σ H _ I h=>wpAny_Break ⟨σ,H,I,h⟩
def zhq:PS X (.Continue pos) BL:=λ_ _ σ H _ I h=>wpAny_Continue ⟨σ,H,I,h⟩
def Inv.quiet{pins:List (Addr×Obj)}{σ:St}{H:Hp}{s:Shared}(I:Inv X pins σ H s):interactive X.env=false:=by simp[interactive,I.ok.kind]
def zqO{x j pos pos'}:PS X (.Expr (.Constant (.str x) j pos) pos') xX:=λ_ s σ H _ I h=>wpAny_Expr (Calls.Constant_str (show SP X _ _ .next { s with toks:=s.toks+1 } from⟨σ,H,I.tok _,h⟩)) I.quiet
noncomputable def BK(te:TE):TS:=λD σ H=>te σ H λ_ H1=>D.nx σ H1
theorem TQ(he:PE X e te)(hs:swapsWith e none pos.line X.env=pure false:=by rfl):PS X (.Expr e pos) (BK te):=by intro pins s σ H D I h;exact wpAny_Expr_any (bK (he pins s σ H _ I h) λv s1 ⟨x,H1,I1,r1,q1⟩=>⟨σ,H1,I1,q1⟩) I.quiet hs
noncomputable def qW(te:TE):TS:=λD σ H=>te σ H D.rt
theorem z7(he:PE X e te):PS X (.Return (some e) pos) (qW te):=by intro pins s σ H D I h;exact wpAny_Return_some (bK (he pins s σ H _ I h) λv s1 ⟨x,H1,I1,r1,q1⟩=>⟨x,σ,H1,I1,r1,q1⟩)
noncomputable def Bu:TS:=λD _ H=>D.rt .non H
def zoo:PS X (.Return none pos) Bu:=λ_ _ σ H _ I h=>wpAny_Return_none ⟨.non,σ,H,I,rfl,h⟩
noncomputable def BJ(c:TT)(t u:TS):TS:=λD σ H=>c σ H λb H1=>if b=true then t D σ H1 else u D σ H1
theorem Jd{c:Expr}{a b:List Stmt}{tc:TT}(hc:PT X c tc)(ha:fM X a t)(hb:fM X b u):PS X (.If c a b pos) (BJ tc t u):=by
 intro pins s σ H D I h;refine wpAny_If (bK (hc pins s σ H _ I h) λd s1 ⟨H1,I1,q1⟩=>?_);cases d with
 |true=>exact ha pins s1 σ H1 D I1 q1
 |false=>exact hb pins s1 σ H1 D I1 q1
end
noncomputable abbrev TG:=V->St->Hp->(St->Hp->Prop)->Prop
noncomputable abbrev p8:=List V->St->Hp->(St->Hp->Prop)->Prop
noncomputable def PG(X:Cx)(target:Expr)(t:TG):Prop :=
 ∀(pins:List (Addr×Obj)) (s:Shared) (σ:St) (H:Hp) (v:V) (u:Value) (Q:St->Hp->Prop),Inv X pins σ H s->RelV v u->t v σ H Q ->
  wpAny (model X.prog X.w) X.A (assign target X.env u) (λ_ s'=>∃σ' H',Inv X pins σ' H' s'/\Q σ' H') X.xe s
noncomputable def zA(X:Cx)(ts:List Expr)(t:p8):Prop :=
 ∀(pins:List (Addr×Obj)) (s:Shared) (σ:St) (H:Hp) (vs:List V) (us:List Value) (Q:St->Hp->Prop),Inv X pins σ H s->Vals vs us->t vs σ H Q ->
  wpAny (model X.prog X.w) X.A (assignInOrder ((assignEach ts X.env).map (·.2)) us) (λ_ s'=>∃σ' H',Inv X pins σ' H' s'/\Q σ' H') X.xe s
section
variable {X:Cx}{pos:Pos}
noncomputable def Ih(i:Nat):TG:=λv σ H Q=>Q (σ.set i (some v)) H
theorem zow{i:Nat}{x:Str}(hN:X.N.Nodup)(hi:X.N[i]?=some x)(hx:Loc X.env.scope x)(hf:X.fn x=true\/X.env.scope.names.lookup x=some .local:=by first|exact .inl rfl|exact .inr rfl|assumption):PG X (.Name x pos) (Ih i):=by intro pins s σ H v u Q I r h;exact wpAny_assign_Name (Gi I hN hi hx r (λs' I'=>⟨_,H,I',h⟩) hf)
noncomputable def PL:p8:=λvs σ H Q=>vs=[]/\Q σ H
noncomputable def Dn(t:TG)(u:p8):p8:=λvs σ H Q=>∃v r,vs=v::r/\t v σ H λσ' H'=>u r σ' H' Q
def zou:zA X [] PL:=by intro pins s σ H vs us Q I r h;obtain⟨e,h⟩:=h;subst e;cases r;exact assignInOrder_nil ⟨σ,H,I,h⟩
theorem zmc{e:Expr}{es:List Expr}{t:TG}{u:p8}(h1:PG X e t)(h2:zA X es u)(hs:(assignEach (e::es) X.env).map (·.2)=assign e X.env::(assignEach es X.env).map (·.2):=by rfl):zA X (e::es) (Dn t u):=by
 intro pins s σ H vs us Q I r h;obtain⟨v,vr,e1,h⟩:=h;subst e1;cases r with
 |cons r rr =>
  rw[hs];refine assignInOrder_cons (bK (h1 pins s σ H _ _ _ I r h) λ_ s1 ⟨σ1,H1,I1,q1⟩=>?_);exact h2 pins s1 σ1 H1 _ _ Q I1 rr q1
noncomputable def cB(K:FgA)(n:Nat)(t:p8):TG:=λv σ H Q=>∃a xs,v = .ref a/\dG K H a xs/\xs.length=n/\t xs σ H Q
theorem zqT{es:List Expr}{k:Nat}{t:p8}{n:Nat}(hc:X.calm=true)(h:zA X es t)(hn:(assignEach es X.env).length=n:=by rfl)(hst:(assignEach es X.env).findIdx? (·.1)=none:=by rfl):PG X (.Tuple es k pos) (cB X.K n t):=by intro pins s σ H v u Q I r hw;obtain⟨a,xs,e1,hq,hl,hw⟩:=hw;subst e1;cases r;obtain⟨its,rv,ht,hz⟩:=I.tuple hq;refine assign_Tuple_tuple (I.ok.hd hc) ht (by simp[hn,<-hl,rv.length]) hst λh' hx=>?_;have I1:Inv X pins σ H { s with heap:=h' }:=I.kept (t':=s.toks) λb o e=>hx b o (dh (cg e)) e;exact h pins _ σ H xs _ Q I1 (by simpa using rv) hw
noncomputable def vX(te:TE)(g:TG):TS:=λD σ H=>te σ H λx H1=>g x σ H1 D.nx
theorem zqP{tg e:Expr}{te:TE}{g:TG}(he:PE X e te)(hg:PG X tg g)(hs:swapsWithSole [tg] e pos.line X.env=pure false:=by rfl)(hw:swappedStores [tg] e X.env=pure none:=by rfl)(h1:(assignEach [tg] X.env).map (·.2)=[assign tg X.env]:=by rfl):PS X (.Assign [tg] e pos) (vX te g):=by intro pins s σ H D I h;refine wpAny_Assign_stores (bK (he pins s σ H _ I h) λv s1 ⟨x,H1,I1,r1,q1⟩=>?_) hs hw;rw[h1];exact bK (hg pins s1 σ H1 x v _ I1 r1 q1) λ_ s2 q=>q
theorem Rn{i:Nat}{x:Str}{e:Expr}{te:TE}{pos':Pos}(hN:X.N.Nodup)(hi:X.N[i]?=some x)(hx:Loc X.env.scope x)(he:PE X e te)(hs:swapsWith e (some (.Name x pos')) pos.line X.env=pure false:=by rfl)(hf:X.fn x=true\/X.env.scope.names.lookup x=some .local:=by first|exact .inl rfl|exact .inr rfl|assumption):
 PS X (.Assign [.Name x pos'] e pos) (vX te (Ih i)):=by
 intro pins s σ H D I h;refine wpAny_Assign_Name (bK (he pins s σ H _ I h) λv s1 ⟨y,H1,I1,r1,q1⟩=>?_) hs;exact Gi I1 hN hi hx r1 (λs2 I2=>⟨_,H1,I2,q1⟩) hf
end
section
variable {X:Cx}{pos:Pos}
noncomputable def vQ(c:TT)(tb:TS):TS:=λD σ H=>∃W:Nat->St->Hp->Prop,(∃m,W m σ H)/\∀m σ H,W m σ H ->
 c σ H λb H1=>if b=true then ∃N:St->Hp->Prop,(∀σ' H',N σ' H'->∃m',m'<m/\W m' σ' H')/\tb { D with nx:=N,ct:=N,bk:=D.nx } σ H1 else D.nx σ H1
theorem zl6{c:Expr}{body:List Stmt}{tc:TT}{tb:TS}(hp:PassesOwn (model X.prog X.w) X.A X.env X.xe)(hc:PT X c tc)(hb:fM X body tb):PS X (.While c body [] pos) (vQ tc tb):=by
 intro pins s σ H D I h;obtain⟨W,⟨m0,w0⟩,turn⟩:=h;refine wpAny_While (codeAny_whileLoop (λn s'=>∃σ' H',Inv X pins σ' H' s'/\W n σ' H') ?_ m0 ⟨σ,H,I,w0⟩)
 rintro n s1 ⟨σ1,H1,I1,w1⟩
 refine wpAny_passesOwn hp (bK (hc pins s1 σ1 H1 _ I1 (turn n σ1 H1 w1)) λb s2 ⟨H2,I2,q2⟩=>?_);cases b with
 |true =>
  obtain⟨N,hN,q2⟩:=q2;rw[if_pos rfl];refine wpAny_passesOwn hp (bK (hb pins s2 σ1 H2 _ I2 q2) λf s3 q3=>?_);cases f with
  |next =>
   obtain⟨σ3,H3,I3,n3⟩:=q3;obtain⟨m',hm,w3⟩:=hN σ3 H3 n3;exact⟨m',hm,σ3,H3,I3,w3⟩
  |cont =>
   obtain⟨σ3,H3,I3,n3⟩:=q3;obtain⟨m',hm,w3⟩:=hN σ3 H3 n3;exact⟨m',hm,σ3,H3,I3,w3⟩
  |brk=>exact q3
  |ret v=>exact q3
 |false =>
  rw[if_neg fB];exact wpAny_execs_nil ⟨σ1,H2,I2,q2⟩
end
structure It where
 go:Nat->Hp->Prop
 yld:Nat->Hp->V->Hp->Prop
 stop:Nat->Hp->Prop
noncomputable def jE(X:Cx)(pins:List (Addr×Obj))(H:Hp)(b:Addr):Prop :=
 H b=none/\b≠X.env.locals/\b∉X.fs/\(b∈X.ex\/X.s₀.heap.objs.size<=b)/\(∀x c,X.env.cells.lookup x=some c->c≠b)/\∀p∈X.pn++pins,p.1≠b
theorem Inv.fpOk{X:Cx}{pins:List (Addr×Obj)}{σ:St}{H H':Hp}{s:Shared}{b:Addr}(I:Inv X pins σ H s)(hb:s.heap.objs.size<=b)(hn:H' b=none):jE X pins H' b:=by
 refine⟨hn,Nat.ne_of_gt (dg I.lt hb),I.nofs hb,.inr (Nat.le_trans I.sz hb),λx c e z=>?_,λp hp z=>?_⟩
 .obtain⟨v,q⟩:=I.cell x c e;exact absurd (dg q.lt (by rw[z];exact hb)) (gO _)
 .exact absurd (dg (cg (I.pin p hp).1) (by rw[z];exact hb)) (gO _)
structure uV(P:Program)(w:World)(K:FgA)(tg:Expr)(J:It)(fp:List Addr)(it:Addr)(tn:Nat->Heap->Prop):Prop where
 mem:it∈fp
 obj:∀i h,tn i h->∀b∈fp,∃o,h.get? b=some o/\∀v,o.data ≠ .cell v
 keep:∀i h h',tn i h->(∀b∈fp,∀o,h.get? b=some o->h'.get? b=some o)->tn i h'
 item:∀(X:Cx),X.prog=P->X.w=w->X.K=K->X.calm=true->∀(i:Nat) (pins:List (Addr×Obj)) (s:Shared) (σ:St) (H:Hp) (E:Value->Shared->Prop),Inv X pins σ H s->(∀b∈fp,jE X pins H b)->tn i s.heap->J.go i H ->
  wpAny (model P w) X.A (pyNext (.ref it)) (λr s1=>∃u,r=some u /\
   wpAny (model P w) X.A (letOwnedTupleGo tg (.ref it) u) (λ_ s2=>∃x H',Inv X pins σ H' s2/\RelV x u/\J.yld i H x H'/\tn (i+1) s2.heap/\∀b∈fp,H' b=none) E s1) E s
 done:∀(X:Cx),X.prog=P->X.w=w->X.K=K->X.calm=true->∀(i:Nat) (pins:List (Addr×Obj)) (s:Shared) (σ:St) (H:Hp) (E:Value->Shared->Prop),Inv X pins σ H s->(∀b∈fp,jE X pins H b)->tn i s.heap->J.stop i H ->
  wpAny (model P w) X.A (pyNext (.ref it)) (λr s1=>r=none/\Inv X pins σ H s1) E s
 self:∀(A:Around) (i:Nat) (s:Shared) (Q:Value->Shared->Prop) (E:Value->Shared->Prop),tn i s.heap->Q (.ref it) s->wpAny (model P w) A (pyIter (.ref it)) Q E s
noncomputable abbrev TI:=St->Hp->(It->Hp->Prop)->Prop
noncomputable def PIE(X:Cx)(pins:List (Addr×Obj))(σ:St)(tg:Expr)(R:It->Hp->Prop)(itv:Value)(s2:Shared):Prop :=
 ∃(it:Addr) (fp:List Addr) (tn:Nat->Heap->Prop) (J:It) (H':Hp),itv = .ref it/\Inv X pins σ H' s2/\uV X.prog X.w X.K tg J fp it tn/\tn 0 s2.heap/\(∀b∈fp,jE X pins H' b)/\R J H'
noncomputable def PI(X:Cx)(tg iter:Expr)(wi:TI):Prop :=
 ∀(pins:List (Addr×Obj)) (s:Shared) (σ:St) (H:Hp) (R:It->Hp->Prop),Inv X pins σ H s->wi σ H R ->
  wpAny (model X.prog X.w) X.A (eval iter X.env) (λv s1=>wpAny (model X.prog X.w) X.A (pyIter v) (PIE X pins σ tg R) X.xe s1) X.xe s
theorem Jb{M:Model}{A:Around}{E:Value->Shared->Prop}{s:Shared}{tg:Expr}{it:Addr}{u:Value}{o:Obj}{n:String}{vs:Array Value}{Q:Unit->Shared->Prop}(ho:s.heap.get? it=some o)(hc:o.cls = .type n)(hd:o.data = .fields vs)(hn:["enumerate", "zip", "dict_itemiterator", "dict_reverseitemiterator", "odict_iterator", "itertools.zip_longest", "itertools.pairwise"].contains n=false)(hQ:Q () s):wpAny M A (letOwnedTupleGo tg (.ref it) u) Q E s:=by
 unfold letOwnedTupleGo;cases tg<;>first
  |exact bT hQ
  | (cases u<;>first
   |exact bT hQ
   | (refine aF (wpAny_load ho ?_)
      rw[hc,hd];show wpAny M A (if(["enumerate", "zip", "dict_itemiterator", "dict_reverseitemiterator", "odict_iterator", "itertools.zip_longest", "itertools.pairwise"].contains n&&vs[0]?==some (rawInt _))=true then _ else _) Q E s;rw[if_neg (by intro h;rw[hn,Bool.false_and] at h;cases h)];exact bT hQ))
noncomputable def zB(K:FgA)(a:Addr):It :=
 ⟨λi H=>∃xs x,cQ K H a xs/\xs[i]?=some x,λi H x H'=>H'=H/\∀xs,cQ K H a xs->xs[i]?=some x,λi H=>∃xs,cQ K H a xs/\xs.length<=i⟩
noncomputable def Qn(K:FgA)(a:Addr):It :=
 ⟨λi H=>∃xs x,dG K H a xs/\xs[i]?=some x,λi H x H'=>H'=H/\∀xs,dG K H a xs->xs[i]?=some x,λi H=>∃xs,dG K H a xs/\xs.length<=i⟩
noncomputable def DN(lo:Int)(n:Nat):It:=⟨λi _=>i<n,λi H x H'=>H'=H/\x = .int (lo+i),λi _=>n<=i⟩
theorem zjy{P:Program}{w:World}{K:FgA}{tg:Expr}(a it:Addr):uV P w K tg (zB K a) [it] it (λi h=>h.IsListIter it a i) where
 mem:=by simp
 obj:=λi h st b hb=>by
  have e:b=it:=by simpa using hb
  subst e;obtain⟨o,e,c,d⟩:=st;exact⟨o,e,λv z=>by rw[d] at z;cases z⟩
 keep:=λi h h' st k=>st.at λo e=>k it (by simp) o e
 item:=by intro X hP hw hK hc i pins s σ H E I hf st hg;subst hP hw hK;obtain⟨xs,x,hq,hx⟩:=hg;obtain⟨its,rv,p,hz⟩:=I.list hq;obtain⟨u,hu,ru⟩:=rv.get hx;obtain⟨f0,f1,f2,f3,f4,f5⟩:=hf it (by simp);refine wpAny_pyNext_list_item st p.isList (x:=u) (by simpa using hu) λh' st' sb=>?_;have I1:Inv X pins σ H { s with heap:=h' }:=I.turned (t':=s.toks) (λb o hb e=>(sb.2 b hb).trans e) f0 f1 f3 f4 f5;obtain⟨o,e,c,d⟩:=id st';exact⟨u,rfl,Jb (s:={ s with heap:=h' }) e c d (by decide) ⟨x,H,I1,ru,⟨rfl,λys hy=>by rw[I.list_inj hy hq];exact hx⟩,st',λb hb=>(hf b hb).1⟩⟩
 done:=by intro X hP hw hK hc i pins s σ H E I hf st hg;subst hP hw hK;obtain⟨xs,hq,hx⟩:=hg;obtain⟨its,rv,p,hz⟩:=I.list hq;obtain⟨f0,f1,f2,f3,f4,f5⟩:=hf it (by simp);have hl:=rv.length;exact wpAny_pyNext_list_end (I.ok.hd hc) st p.isList (by simp;omega) λh' eb=>⟨rfl,I.turned (t':=s.toks) (λb o hb e=>eb b o hb e) f0 f1 f3 f4 f5⟩
 self:=λ_ _ _ _ _ st h=>wpAny_pyIter_listiter st h
theorem ziN{P:Program}{w:World}{K:FgA}{tg:Expr}(a it:Addr):uV P w K tg (Qn K a) [it] it (λi h=>h.IsTupleIter it a i) where
 mem:=by simp
 obj:=λi h st b hb=>by
  have e:b=it:=by simpa using hb
  subst e;obtain⟨o,e,c,d⟩:=st;exact⟨o,e,λv z=>by rw[d] at z;cases z⟩
 keep:=λi h h' st k=>st.at λo e=>k it (by simp) o e
 item:=by intro X hP hw hK hc i pins s σ H E I hf st hg;subst hP hw hK;obtain⟨xs,x,hq,hx⟩:=hg;obtain⟨its,rv,p,hz⟩:=I.tuple hq;obtain⟨u,hu,ru⟩:=rv.get hx;obtain⟨f0,f1,f2,f3,f4,f5⟩:=hf it (by simp);refine wpAny_pyNext_tuple_item st (show s.heap.IsTuple a its.toArray from p) (x:=u) (by simpa using hu) λh' st' sb=>?_;have I1:Inv X pins σ H { s with heap:=h' }:=I.turned (t':=s.toks) (λb o hb e=>(sb.2 b hb).trans e) f0 f1 f3 f4 f5;obtain⟨o,e,c,d⟩:=id st';exact⟨u,rfl,Jb (s:={ s with heap:=h' }) e c d (by decide) ⟨x,H,I1,ru,⟨rfl,λys hy=>by rw[I.tuple_inj hy hq];exact hx⟩,st',λb hb=>(hf b hb).1⟩⟩
 done:=by intro X hP hw hK hc i pins s σ H E I hf st hg;subst hP hw hK;obtain⟨xs,hq,hx⟩:=hg;obtain⟨its,rv,p,hz⟩:=I.tuple hq;obtain⟨f0,f1,f2,f3,f4,f5⟩:=hf it (by simp);have hl:=rv.length;exact wpAny_pyNext_tuple_end (I.ok.hd hc) st (show s.heap.IsTuple a its.toArray from p) (by simp;omega) λh' eb=>⟨rfl,I.turned (t':=s.toks) (λb o hb e=>eb b o hb e) f0 f1 f3 f4 f5⟩
 self:=λ_ _ _ _ _ st h=>wpAny_pyIter_tupleiter st h
theorem ziO{P:Program}{w:World}{K:FgA}{tg:Expr}(it:Addr)(lo:Int)(n:Nat):uV P w K tg (DN lo n) [it] it (λi h=>IsRangeIter h it (lo+(i:Nat)*1) ((n:Int) - (i:Nat)) 1) where
 mem:=by simp
 obj:=λi h st b hb=>by
  have e:b=it:=by simpa using hb
  subst e;exact⟨_,st,λv z=>by
   have z':Data.fields _=Data.cell v:=z;cases z'⟩
 keep:=λi h h' st k=>k it (by simp) _ st
 item:=by intro X hP hw hK hc i pins s σ H E I hf st hg;subst hP hw hK;obtain⟨f0,f1,f2,f3,f4,f5⟩:=hf it (by simp);have W:=Walks.range (prog:=X.prog) (w:=X.w) (I.ok.hd hc) it lo 1 n;refine W.item i s _ _ hg st λv h' tk hv st' kk=>?_;obtain⟨t,rfl⟩:=hv;have I1:Inv X pins σ H { s with heap:=h',toks:=tk }:=I.turned (λb o hb e=>kk b o (by simpa using hb) e) f0 f1 f3 f4 f5;refine⟨_,rfl,Jb (s:={ s with heap:=h',toks:=tk }) (n := "range_iterator") st' rfl rfl (by decide) ⟨.int (lo+i),H,I1,⟨t,?_⟩,⟨rfl,rfl⟩,st',λb hb=>(hf b hb).1⟩⟩;rw[Int.mul_one]
 done:=by intro X hP hw hK hc i pins s σ H E I hf st hg;subst hP hw hK;obtain⟨f0,f1,f2,f3,f4,f5⟩:=hf it (by simp);exact wpAny_pyNext_range_end (I.ok.hd hc) st (by have:n<=i:=hg;omega) λh' eb=>⟨rfl,I.turned (t':=s.toks) (λb o hb e=>eb b o hb e) f0 f1 f3 f4 f5⟩
 self:=λ_ _ _ _ _ st h=>wpAny_pyIter_rangeiter st h
section
variable {X:Cx}{tg:Expr}
noncomputable def Dc(K:FgA)(tl:TE):TI:=λσ H R=>tl σ H λx H1=>∃a,x = .ref a/\(∃xs,cQ K H1 a xs)/\R (zB K a) H1
noncomputable def Pj(K:FgA)(tl:TE):TI:=λσ H R=>tl σ H λx H1=>∃a,x = .ref a/\(∃xs,dG K H1 a xs)/\R (Qn K a) H1
theorem zot{l:Expr}{tl:TE}(hl:PE X l tl):PI X tg l (Dc X.K tl):=by
 intro pins s σ H R I h;refine bK (hl pins s σ H _ I h) λv s1 ⟨x,H1,I1,r1,q1⟩=>?_;obtain⟨a,e,⟨xs,hq⟩,q⟩:=q1;subst e;cases r1;obtain⟨its,rv,p,hz⟩:=I1.list hq;refine wpAny_pyIter_list p.isList ?_;refine⟨s1.heap.objs.size,[s1.heap.objs.size],_,_,H1,rfl,I1.kept (t':=s1.toks) λb o e=>cX _ e,zjy a _,⟨_,gB _ rfl,rfl,rfl⟩,λb hb=>?_,q⟩;have e:b=s1.heap.objs.size:=by simpa using hb
 subst e;exact I1.fpOk (bZ _) (I1.hok.fresh (bZ _))
theorem zqS{l:Expr}{tl:TE}(hl:PE X l tl):PI X tg l (Pj X.K tl):=by
 intro pins s σ H R I h;refine bK (hl pins s σ H _ I h) λv s1 ⟨x,H1,I1,r1,q1⟩=>?_;obtain⟨a,e,⟨xs,hq⟩,q⟩:=q1;subst e;cases r1;obtain⟨its,rv,p,hz⟩:=I1.tuple hq;refine wpAny_pyIter_tuple (show s1.heap.IsTuple a its.toArray from p) ?_;refine⟨s1.heap.objs.size,[s1.heap.objs.size],_,_,H1,rfl,I1.kept (t':=s1.toks) λb o e=>cX _ e,ziN a _,⟨_,gB _ rfl,rfl,rfl⟩,λb hb=>?_,q⟩;have e:b=s1.heap.objs.size:=by simpa using hb
 subst e;exact I1.fpOk (bZ _) (I1.hok.fresh (bZ _))
theorem Um{pins:List (Addr×Obj)}{σ:St}{H:Hp}{s:Shared}{R:It->Hp->Prop}{E:Value->Shared->Prop}{lo hi:Int}{t u v:Tok}{tk:Nat}(I:Inv X pins σ H s)(h1 : -(2 ^ 62)<=lo)(h2:lo<2 ^ 62)(h3 : -(2 ^ 62)<=hi)(h4:hi<2 ^ 62)(q:R (DN lo (hi - lo).toNat) H):wpAny (model X.prog X.w) X.A (pyIter (.ref s.heap.objs.size)) (PIE X pins σ tg R) E { s with heap:=s.heap.push { cls := .type "range",data := .fields #[.int lo t,.int hi u,.int 1 v] },toks:=tk }:=by
 refine wpAny_pyIter_range (IsRange.new ..) (small_one h1 h2 h3 h4) ?_;have I1:Inv X pins σ H { s with heap:=s.heap.push { cls := .type "range",data := .fields #[.int lo t,.int hi u,.int 1 v] },toks:=tk }:=I.kept λb o e=>cX _ e;refine⟨(s.heap.push { cls := .type "range",data := .fields #[.int lo t,.int hi u,.int 1 v] }).objs.size,[(s.heap.push { cls := .type "range",data := .fields #[.int lo t,.int hi u,.int 1 v] }).objs.size],_,_,H,rfl,
  I1.kept (t':=tk) λb o e=>cX _ e,ziO _ lo (hi - lo).toNat,?_,λb hb=>?_,q⟩
 .have e1:lo+((0:Nat):Int)*1=lo:=by simp
  have e2:(((hi - lo).toNat:Nat):Int) - ((0:Nat):Int)=Builtin.Range.rangeSize lo hi 1:=by rw[rangeSize_one];split<;>omega
  show IsRangeIter _ _ (lo+((0:Nat):Int)*1) ((((hi - lo).toNat:Nat):Int) - ((0:Nat):Int)) 1;rw[e1,e2];exact gB _ rfl
 .have e:b=(s.heap.push { cls := .type "range",data := .fields #[.int lo t,.int hi u,.int 1 v] }).objs.size:=by simpa using hb
  subst e;exact I1.fpOk (bZ _) (I1.hok.fresh (bZ _))
noncomputable def CZ(ta:TA):TI:=λσ H R=>ta σ H λvs H1=>∃j:Int,vs=[.int j] /\ -(2 ^ 62)<=j/\j<2 ^ 62/\R (DN 0 j.toNat) H1
noncomputable def CW(ta:TA):TI:=λσ H R=>ta σ H λvs H1=>∃i j:Int,vs=[.int i,.int j]/\(-(2 ^ 62)<=i/\i<2 ^ 62 /\ -(2 ^ 62)<=j/\j<2 ^ 62)/\R (DN i (j - i).toNat) H1
theorem zkb{a:Expr}{ta:TA}{p pos:Pos}(hg:Gl X "range")(hm:X.mg "range" = none)(ha:PA X [a] ta)(hs:starEach [a] X.env=[(false,eval a X.env)]:=by rfl):PI X tg (.Call (.Name "range" p) [a] [] pos) (CZ ta):=by
 intro pins s σ H R I h;refine Call_ (tH I hg hm boot_range (PyProof.Rows.callWith_type1 (bK (ha pos pins s σ H _ I h) λus s1 ⟨vs,H1,I1,r1,q1⟩=>?_) hs rfl));obtain⟨j,e,q1,q2,q⟩:=q1;subst e;cases r1 with
 |cons r rr =>
  cases rr;obtain⟨t,rfl⟩:=r;exact call_range_1 (Um I1 (by omega) (by omega) q1 q2 (by simpa using q))
theorem zka{a b:Expr}{ta:TA}{p pos:Pos}(hg:Gl X "range")(hm:X.mg "range" = none)(ha:PA X [a,b] ta)(hs:starEach [a,b] X.env=[(false,eval a X.env),(false,eval b X.env)]:=by rfl)(hs2:starEach [b] X.env=[(false,eval b X.env)]:=by rfl):
 PI X tg (.Call (.Name "range" p) [a,b] [] pos) (CW ta):=by
 intro pins s σ H R I h;refine Call_ (tH I hg hm boot_range (PyProof.Rows.callWith_type1 (bK (ha pos pins s σ H _ I h) λus s1 ⟨vs,H1,I1,r1,q1⟩=>?_) (by rw[hs,hs2]) (by rw[hs2];rfl)));obtain⟨i,j,e,⟨q1,q2,q3,q4⟩,q⟩:=q1;subst e;cases r1 with
 |cons r rr =>
  cases rr with
  |cons r' rr =>
   cases rr;obtain⟨t,rfl⟩:=r;obtain⟨t',rfl⟩:=r';exact call_range_2 (Um I1 q1 q2 q3 q4 q)
noncomputable def Od(wi:TI)(g:TG)(tb:TS):TS:=λD σ H=>wi σ H λJ H1=>∃W:Nat->Nat->St->Hp->Prop,(∃m,W 0 m σ H1)/\∀i m σ H,W i m σ H ->
 (J.stop i H/\D.nx σ H)\/(J.go i H/\∃N:St->Hp->Prop,(∀σ' H',N σ' H'->∃m',m'<m/\W (i+1) m' σ' H')/\∀x H',J.yld i H x H'->g x σ H' λσ2 H2=>tb { D with nx:=N,ct:=N,bk:=D.nx } σ2 H2)
noncomputable def zU(fp:List Addr)(h:Heap):List (Addr×Obj):=fp.filterMap λb=>(h.get? b).map λo=>(b,o)
def K5{fp:List Addr}{h:Heap}{b:Addr}{o:Obj}(hb:b∈fp)(e:h.get? b=some o):(b,o)∈zU fp h:=List.mem_filterMap.mpr ⟨b,hb,by rw[e];rfl⟩
theorem zkk{fp:List Addr}{h:Heap}{p:Addr×Obj}(hp:p∈zU fp h):p.1∈fp/\h.get? p.1=some p.2:=by
 obtain⟨b,hb,e⟩:=List.mem_filterMap.mp hp;cases q:h.get? b with
 |none=>rw[q] at e;cases e
 |some o =>
  rw[q] at e;have e':(b,o)=p:=Option.some.inj e;subst e';exact⟨hb,q⟩
theorem Inv.pinned{pins:List (Addr×Obj)}{σ:St}{H:Hp}{s:Shared}{fp:List Addr}(I:Inv X pins σ H s)(hf:∀b∈fp,jE X pins H b)(ho:∀b∈fp,∃o,s.heap.get? b=some o/\∀v,o.data ≠ .cell v):Inv X (pins++zU fp s.heap) σ H s :=
 I.pins_of λp hp=>(lO.mp hp).elim (λz=>I.pin p (List.mem_append_right _ z)) λz=>by obtain⟨hb,e⟩:=zkk z;obtain⟨f0,f1,f2,_⟩:=hf p.1 hb;obtain⟨o,e',d⟩:=ho p.1 hb;rw[e] at e';cases e';exact⟨e,f0,f1,f2,d⟩
def Inv.unpinned{pins pl:List (Addr×Obj)}{σ:St}{H:Hp}{s:Shared}(I:Inv X (pins++pl) σ H s):Inv X pins σ H s:=I.pins_of λp hp=>I.pin p (List.mem_append_right _ (List.mem_append_left _ hp))
theorem zqM{iter:Expr}{body:List Stmt}{wi:TI}{g:TG}{tb:TS}{pos:Pos}(hp:PassesOwn (model X.prog X.w) X.A X.env X.xe)(hc:X.calm=true)(hi:PI X tg iter wi)(hg:PG X tg g)(hb:fM X body tb)(hs:∀x,foldedSetIterable iter X.env x=pure x:=by intro _;rfl):PS X (.For tg iter body [] pos) (Od wi g tb):=by
 intro pins s σ H D I h;refine wpAny_For (bK (hi pins s σ H _ I h) λv s1 h1=>bK h1 λitv s2 h2=>?_) hs;obtain⟨it,fp,tn,J,H2,e,I2,T,st2,f2,W,⟨m0,w0⟩,turn⟩:=h2;subst e;have stat:∀{H':Hp},(∀b∈fp,H' b=none)->∀b∈fp,jE X pins H' b:=λhn b hb=>⟨hn b hb,(f2 b hb).2⟩
 refine codeAny_forLoop_any (λn s'=>∃i σ' H',Inv X pins σ' H' s'/\tn i s'.heap/\(∀b∈fp,H' b=none)/\W i n σ' H') ?_ m0 ⟨0,σ,H2,I2,st2,λb hb=>(f2 b hb).1,w0⟩
 rintro n s3 ⟨i,σ3,H3,I3,st3,Ho,w3⟩
 rcases turn i n σ3 H3 w3 with⟨stop,qn⟩|⟨go,N,hN,step⟩
 .refine wpAny_passesOwn hp (bK (T.done X rfl rfl rfl hc i pins s3 σ3 H3 X.xe I3 (stat Ho) st3 stop) λr s4 ⟨hr,I4⟩=>?_);subst hr;exact wpAny_execs_nil ⟨σ3,H3,I4,qn⟩
 .refine wpAny_passesOwn hp (bK (T.item X rfl rfl rfl hc i pins s3 σ3 H3 X.xe I3 (stat Ho) st3 go) λr s4 ⟨u,hr,h4⟩=>?_);subst hr;refine wpAny_passesOwn hp (bK h4 λ_ s5 ⟨x,H5,I5,r5,y5,vZ,PN⟩=>?_);have Qp:=I5.pinned (stat PN) (T.obj _ _ vZ);refine wpAny_passesOwn hp (bK (hg _ s5 σ3 H5 x u _ Qp r5 (step x H5 y5)) λ_ s6 ⟨σ6,H6,I6,q6⟩=>?_);refine wpAny_passesOwn hp (bK (hb _ s6 σ6 H6 _ I6 q6) λf s7 q7=>?_);have again:∀{σ7:St} {H7:Hp},Inv X (pins++zU fp s5.heap) σ7 H7 s7->N σ7 H7->∃m,m<n/\∃i σ' H',Inv X pins σ' H' s7/\tn i s7.heap/\(∀b∈fp,H' b=none)/\W i m σ' H':=λ{σ7 H7} I7 n7=>by obtain⟨m',hm,w7⟩:=hN σ7 H7 n7;refine⟨m',hm,i+1,σ7,H7,I7.unpinned,T.keep _ _ _ vZ λb hb o e=>(I7.pin (b,o) (List.mem_append_right _ (List.mem_append_right _ (K5 hb e)))).1,λb hb=>?_,w7⟩;obtain⟨o,e,d⟩:=T.obj _ _ vZ b hb;exact(I7.pin (b,o) (List.mem_append_right _ (List.mem_append_right _ (K5 hb e)))).2.1
  cases f with
  |next=>obtain⟨σ7,H7,I7,n7⟩:=q7;exact again I7 n7
  |cont=>obtain⟨σ7,H7,I7,n7⟩:=q7;exact again I7 n7
  |brk=>obtain⟨σ7,H7,I7,q7⟩:=q7;exact⟨σ7,H7,I7.unpinned,q7⟩
  |ret v=>obtain⟨x7,σ7,H7,I7,r7,q7⟩:=q7;exact⟨x7,σ7,H7,I7.unpinned,r7,q7⟩
end
noncomputable abbrev R2:=V->V->Hp->VK->Prop
noncomputable def fu(X:Cx)(f:Value->Value->Sem Value)(r:R2):Prop :=
 ∀(pins:List (Addr×Obj)) (s:Shared) (σ:St) (H:Hp) (x y:V) (v u:Value) (Q:VK),Inv X pins σ H s->RelV x v->RelV y u->r x y H Q ->
  wpAny (model X.prog X.w) X.A (f v u) (EP X pins σ Q) X.xe s
noncomputable def Qj(X:Cx)(f:Value->Sem Value)(r:V->Hp->VK->Prop):Prop :=
 ∀(pins:List (Addr×Obj)) (s:Shared) (σ:St) (H:Hp) (x:V) (v:Value) (Q:VK),Inv X pins σ H s->RelV x v->r x H Q ->
  wpAny (model X.prog X.w) X.A (f v) (EP X pins σ Q) X.xe s
noncomputable def gQ(X:Cx)(f:Value)(r:List V->Hp->VK->Prop):Prop :=
 ∀(pins:List (Addr×Obj)) (s:Shared) (σ:St) (H:Hp) (xs:List V) (us:List Value) (Q:VK),Inv X pins σ H s->Vals xs us->r xs H Q ->
  wpAny (model X.prog X.w) X.A (call f us) (EP X pins σ Q) X.xe s
noncomputable def Qk(X:Cx)(r:V->Hp->(Bool->Hp->Prop)->Prop):Prop :=
 ∀(pins:List (Addr×Obj)) (s:Shared) (σ:St) (H:Hp) (x:V) (v:Value) (Q:Bool->Hp->Prop),Inv X pins σ H s->RelV x v->r x H Q ->
  wpAny (model X.prog X.w) X.A (truthy v) (TP X pins σ Q) X.xe s
noncomputable def zm(r:R2)(ta tb:TE):TE:=λσ H Q=>ta σ H λx H1=>tb σ H1 λy H2=>r x y H2 Q
noncomputable def tUn(r:V->Hp->VK->Prop)(ta:TE):TE:=λσ H Q=>ta σ H λx H1=>r x H1 Q
noncomputable def rI(C:Int->Int->Prop)(g:Int->Int->V):R2:=λx y H Q=>∃i j,x = .int i/\y = .int j/\C i j/\Q (g i j) H
noncomputable def pW(g:Int->Int->V):R2:=λx y H Q=>∃i j,x = .int i/\y = .int j/\Q (g i j) H
noncomputable def rU(g:Int->V):V->Hp->VK->Prop:=λx H Q=>∃i,x = .int i/\Q (g i) H
section
variable {X:Cx}{a b c:Expr}{ta tb tc:TE}{pos:Pos}
theorem xr(ha:PE X a ta)(hb:PE X b tb){pins:List (Addr×Obj)}{s:Shared}{σ:St}{H:Hp}{R:V->V->Hp->Prop}(I:Inv X pins σ H s)(h:ta σ H λx H1=>tb σ H1 λy H2=>R x y H2){Q:Value->Shared->Prop}{f:Value->Value->Sem Value}(hf:∀v u s2 x y H2,Inv X pins σ H2 s2->RelV x v->RelV y u->R x y H2->wpAny (model X.prog X.w) X.A (f v u) Q X.xe s2):
 wpAny (model X.prog X.w) X.A (eval a X.env) (λv s₁=>wpAny (model X.prog X.w) X.A (eval b X.env) (λu s₂=>wpAny (model X.prog X.w) X.A (f v u) Q X.xe s₂) X.xe s₁) X.xe s:=by
 refine bK (ha pins s σ H _ I h) λv s1 ⟨x,H1,I1,r1,q1⟩=>?_;refine bK (hb pins s1 σ H1 _ I1 q1) λu s2 ⟨y,H2,I2,r2,q2⟩=>?_;exact hf v u s2 x y H2 I2 r1 r2 q2
theorem Zt{op:Operator}{r:R2}(ho:fu X (binaryOp op) r)(ha:PE X a ta)(hb:PE X b tb):PE X (.BinOp a op b pos) (zm r ta tb):=by intro pins s σ H Q I h;exact wpAny_BinOp (xr ha hb I h λv u s2 x y H2 I2 rx ry q=>ho pins s2 σ H2 x y v u Q I2 rx ry q)
theorem Zv{op:UnaryOp}{r:V->Hp->VK->Prop}(ho:Qj X (unaryOp op) r)(ha:PE X a ta):PE X (.UnaryOp op a pos) (tUn r ta):=by intro pins s σ H Q I h;exact UnaryOp_ (bK (ha pins s σ H _ I h) λv s1 ⟨x,H1,I1,r1,q1⟩=>ho pins s1 σ H1 x v Q I1 r1 q1)
theorem Cy{f:Value->Value->Sem Value}{C:Int->Int->Prop}{g:Int->Int->Int}(rule:∀(i j:Int) (t u:Tok) (s:Shared) (Q:Value->Shared->Prop) (E:Value->Shared->Prop),C i j->Q (.int (g i j) s.toks) { s with toks:=s.toks+1 }->wpAny (model X.prog X.w) X.A (f (.int i t) (.int j u)) Q E s):
 fu X f (rI C λi j => .int (g i j)):=by
 intro pins s σ H x y v u Q I rx ry h;obtain⟨i,j,rfl,rfl,hc,q⟩:=h;obtain⟨t,rfl⟩:=rx;obtain⟨t',rfl⟩:=ry;exact rule i j t t' s _ _ hc ⟨.int (g i j),H,I.tok _,⟨_,rfl⟩,q⟩
theorem Cw{f:Value->Value->Sem Value}{g:Int->Int->Int}(rule:∀(i j:Int) (t u:Tok) (s:Shared) (Q:Value->Shared->Prop) (E:Value->Shared->Prop),Q (.int (g i j) s.toks) { s with toks:=s.toks+1 }->wpAny (model X.prog X.w) X.A (f (.int i t) (.int j u)) Q E s):
 fu X f (pW λi j => .int (g i j)):=by
 intro pins s σ H x y v u Q I rx ry h;obtain⟨i,j,rfl,rfl,q⟩:=h;obtain⟨t,rfl⟩:=rx;obtain⟨t',rfl⟩:=ry;exact rule i j t t' s _ _ ⟨.int (g i j),H,I.tok _,⟨_,rfl⟩,q⟩
theorem mq{f:Value->Value->Sem Value}{g:Int->Int->Bool}(rule:∀(i j:Int) (t u:Tok) (s:Shared) (Q:Value->Shared->Prop) (E:Value->Shared->Prop),Q (.bool (g i j)) s->wpAny (model X.prog X.w) X.A (f (.int i t) (.int j u)) Q E s):
 fu X f (pW λi j => .bl (g i j)):=by
 intro pins s σ H x y v u Q I rx ry h;obtain⟨i,j,rfl,rfl,q⟩:=h;obtain⟨t,rfl⟩:=rx;obtain⟨t',rfl⟩:=ry;exact rule i j t t' s _ _ ⟨.bl (g i j),H,I,rfl,q⟩
def DW(i j:Int):Prop:=0<=j/\j<=1000000/\i.natAbs<2 ^ 64
def zq6:fu X (binaryOp .Add) (pW λi j => .int (i+j)):=Cw λ_ _ _ _ _ _ _ q=>add_int q
def zq1:fu X (binaryOp .Sub) (pW λi j => .int (i - j)):=Cw λ_ _ _ _ _ _ _ q=>sub_int q
def zoR:fu X (binaryOp .Mod) (rI (λ_ j=>j≠0) λi j => .int (i.fmod j)):=Cy λ_ _ _ _ _ _ _ hc q=>mod_int' hc q
def zq3:fu X (binaryOp .Pow) (rI DW λi j => .int (i ^ j.toNat)):=Cy λ_ _ _ _ _ _ _ hc q=>pow_int_small hc.1 hc.2.1 hc.2.2 q
def zq2:fu X (binaryOp .LShift) (rI DW λi j => .int (i*2 ^ j.toNat)):=Cy λ_ _ _ _ _ _ _ hc q=>lshift_int_small hc.1 hc.2.1 hc.2.2 q
theorem unI{f:Value->Sem Value}{g:Int->Int}(rule:∀(i:Int) (t:Tok) (s:Shared) (Q:Value->Shared->Prop) (E:Value->Shared->Prop),Q (.int (g i) s.toks) { s with toks:=s.toks+1 }->wpAny (model X.prog X.w) X.A (f (.int i t)) Q E s):
 Qj X f (rU λi => .int (g i)):=by
 intro pins s σ H x v Q I rx h;obtain⟨i,rfl,q⟩:=h;obtain⟨t,rfl⟩:=rx;exact rule i t s _ _ ⟨.int (g i),H,I.tok _,⟨_,rfl⟩,q⟩
def zpO:Qj X (unaryOp .USub) (rU λi => .int (-i)):=unI λ_ _ _ _ _ q=>neg_int q
end
noncomputable def Oq:V->V->Bool
 |.non,.non=>true|.non,.int _=>true|.int _,.non=>true|.non,.bl _=>true|.bl _,.non=>true|.non,.str _=>true|.str _,.non=>true
 |.int _,.int _=>true|.bl _,.bl _=>true|.str _,.str _=>true|.byt _,.byt _=>true
 |.int _,.str _=>true|.str _,.int _=>true|.bl _,.str _=>true|.str _,.bl _=>true
 |_,_=>false
noncomputable def Xu:R2:=λx y H Q=>Oq x y=true/\Q (.bl (!decide (x=y))) H
def zpu{i j:Int}:decide (V.int i=V.int j)=(i==j):=by rw[Bool.eq_iff_iff];simp
def Zi{i j:Bool}:decide (V.bl i=V.bl j)=(i==j):=by rw[Bool.eq_iff_iff];simp
def zpt{i j:Str}:decide (V.str i=V.str j)=(i==j):=by rw[Bool.eq_iff_iff];simp
def zpv{i j:Array UInt8}:decide (V.byt i=V.byt j)=(i.toList==j.toList):=by rw[Bool.eq_iff_iff];cases i;cases j;simp
section
variable {X:Cx}{a b c:Expr}{ta tb tc:TE}{pos:Pos}
theorem jg{pins:List (Addr×Obj)}{σ:St}{H:Hp}{s:Shared}{Q:VK}{k k':Bool}(I:Inv X pins σ H s)(q:Q (.bl k) H)(e:k=k'):EP X pins σ Q (.bool k') s:=by subst e;exact⟨.bl k,H,I,rfl,q⟩
theorem Zn:fu X (compareOp .NotEq) Xu:=by
 intro pins s σ H x y v u Q I rx ry h;obtain⟨hs,q⟩:=h;cases x with
 |non =>
  cases rx;cases y with
  |non=>cases ry;exact PySem.EqNone.ne_none_none (jg I q (by simp))
  |bl j=>cases ry;exact PySem.EqNone.ne_none_bool (jg I q (by simp))
  |int j=>obtain⟨t',rfl⟩:=ry;exact PySem.EqNone.ne_none_int (jg I q (by simp))
  |str j=>obtain⟨t',rfl⟩:=ry;exact PySem.EqNone.ne_none_str (jg I q (by simp))
  |_=>exact absurd (show false=true from hs) fB
 |bl i =>
  cases rx;cases y with
  |non=>cases ry;exact PySem.EqNone.ne_bool_none (jg I q (by simp))
  |bl j=>cases ry;exact ne_bool (jg I q (congrArg not Zi))
  |str j=>obtain⟨t',rfl⟩:=ry;exact PySem.EqMixed.ne_bool_str (jg I q (by simp))
  |_=>exact absurd (show false=true from hs) fB
 |int i =>
  obtain⟨t,rfl⟩:=rx;cases y with
  |non=>cases ry;exact PySem.EqNone.ne_int_none (jg I q (by simp))
  |int j=>obtain⟨t',rfl⟩:=ry;exact ne_int (jg I q (congrArg not zpu))
  |str j=>obtain⟨t',rfl⟩:=ry;exact PySem.EqMixed.ne_int_str (jg I q (by simp))
  |_=>exact absurd (show false=true from hs) fB
 |str i =>
  obtain⟨t,rfl⟩:=rx;cases y with
  |non=>cases ry;exact PySem.EqNone.ne_str_none (jg I q (by simp))
  |bl j=>cases ry;exact PySem.EqMixed.ne_str_bool (jg I q (by simp))
  |int j=>obtain⟨t',rfl⟩:=ry;exact PySem.EqMixed.ne_str_int (jg I q (by simp))
  |str j=>obtain⟨t',rfl⟩:=ry;exact ne_str (jg I q (congrArg not zpt))
  |_=>exact absurd (show false=true from hs) fB
 |byt i =>
  obtain⟨t,rfl⟩:=rx;cases y with
  |byt j=>obtain⟨t',rfl⟩:=ry;exact PySem.W.ne_bytes (jg I q (congrArg not zpv))
  |_=>exact absurd (show false=true from hs) fB
 |_=>cases y<;>exact absurd (show false=true from hs) fB
def Zm:fu X (compareOp .Lt) (pW λi j => .bl (decide (i<j))):=mq λ_ _ _ _ _ _ _ q=>lt_int q
def Zk:fu X (compareOp .LtE) (pW λi j => .bl (decide (i<=j))):=mq λ_ _ _ _ _ _ _ q=>le_int q
def Zj:fu X (compareOp .Gt) (pW λi j => .bl (decide (j<i))):=mq λ_ _ _ _ _ _ _ q=>gt_int q
def Yj:fu X (compareOp .GtE) (pW λi j => .bl (decide (j<=i))):=mq λ_ _ _ _ _ _ _ q=>ge_int q
theorem zq4:fu X (compareOp .Is) (λx y H Q=>y = .non/\Q (.bl (decide (x = .non))) H):=by
 intro pins s σ H x y v u Q I rx ry h;obtain⟨rfl,q⟩:=h;cases ry;refine is_none_gen (jg I q ?_);cases x<;>first
  | (cases rx;rfl)
  | (obtain⟨t,rfl⟩:=rx;rfl)
theorem zoP:fu X (compareOp .IsNot) (λx y H Q=>y = .non/\Q (.bl (!decide (x = .non))) H):=by
 intro pins s σ H x y v u Q I rx ry h;obtain⟨rfl,q⟩:=h;cases ry;refine isnot_none_gen (jg I q ?_);cases x<;>first
  | (cases rx;rfl)
  | (obtain⟨t,rfl⟩:=rx;rfl)
theorem Il(b:Expr){op:CmpOp}(h:op ≠ .In:=by decide)(h2:op ≠ .NotIn:=by decide):behindInMarks op b=false:=by
 have e1:(op==CmpOp.In)=false:=by cases op<;>first|rfl|exact absurd rfl h
 have e2:(op==CmpOp.NotIn)=false:=by cases op<;>first|rfl|exact absurd rfl h2
 cases b<;>simp[behindInMarks,e1,e2]
theorem zoz{op:CmpOp}{r:R2}(ho:fu X (compareOp op) r)(ha:PE X a ta)(hb:PE X b tb)(hm:behindInMarks op b=false):PE X (.Compare a [op] [b] pos) (zm r ta tb):=by intro pins s σ H Q I h;exact wpAny_Compare1 (xr ha hb I h λv u s2 x y H2 I2 rx ry q=>ho pins s2 σ H2 x y v u Q I2 rx ry q) hm
noncomputable def ug(t:TE):TT:=λσ H Q=>t σ H λx H'=>∃k,x = .bl k/\Q k H'
theorem TX{op:CmpOp}{r:R2}(ho:fu X (compareOp op) r)(ha:PE X a ta)(hb:PE X b tb)(hm:behindInMarks op b=false):PT X (.Compare a [op] [b] pos) (ug (zm r ta tb)):=by
 intro pins s σ H Q I h;refine wpAny_isTrue_Compare1 (bK (ha pins s σ H _ I h) λv s1 ⟨x,H1,I1,r1,q1⟩=>bK (hb pins s1 σ H1 _ I1 q1) λu s2 ⟨y,H2,I2,r2,q2⟩ =>
  bK (ho pins s2 σ H2 x y v u _ I2 r1 r2 q2) λc s3 ⟨z,H3,I3,r3,k,e,q3⟩=>?_) hm
 subst e;cases r3;exact wpAny_truthy_bool ⟨H3,I3,q3⟩
noncomputable def xG(K:FgA)(x:V)(H:Hp)(k:Bool):Prop :=
 match x with
 |.non=>k=false
 |.bl b=>k=b
 |.int i=>k=(i != 0)
 |.str y=>y.length<=sizeLine/\k=((y.length:Int) != 0)
 |.byt y=>y.size<=sizeLine/\k=((y.size:Int) != 0)
 |.ref p=>(∃xs,cQ K H p xs/\k = !xs.isEmpty)\/(∃xs,dG K H p xs/\k = !xs.isEmpty)\/∃kvs,H p=some (.dK kvs)/\k = !kvs.isEmpty
 |_=>False
def zjj{κ:Type}{kvs:List (κ×V)}{vs:List (κ×Value)}(r:KV kvs vs):(!vs.isEmpty) = !kvs.isEmpty:=by cases r<;>rfl
def V9{xs:List V}{its:List Value}(r:Vals xs its):(!its.toArray.isEmpty) = !xs.isEmpty:=by cases r<;>simp
def yj:(sizeLine:Nat)<2 ^ 63:=by rw[sizeLine_eq];decide
theorem zpQ:Qk X (λx H Q=>∃k,xG X.K x H k/\Q k H):=by
 intro pins s σ H x v Q I rx h;obtain⟨k,e,q⟩:=h;have hl:=yj;have hs:sizeLine=16777216:=sizeLine_eq;cases x with
 |non =>
  cases rx;have e':k=false:=e;subst e';exact truthy_none ⟨H,I,q⟩
 |bl b =>
  cases rx;have e':k=b:=e;subst e';exact wpAny_truthy_bool ⟨H,I,q⟩
 |int i =>
  obtain⟨t,rfl⟩:=rx;have e':k=(i != 0):=e;subst e';exact PySem.P.truthy_int ⟨H,I,q⟩
 |str y =>
  obtain⟨t,rfl⟩:=rx;obtain⟨hy,e'⟩:y.length<=sizeLine/\k=((y.length:Int) != 0):=e;subst e';exact PySem.P.truthy_str (by omega) ⟨H,I.tok _,q⟩
 |byt y =>
  obtain⟨t,rfl⟩:=rx;obtain⟨hy,e'⟩:y.size<=sizeLine/\k=((y.size:Int) != 0):=e;subst e';exact PySem.W.truthy_bytes (by omega) ⟨H,I.tok _,q⟩
 |ref p =>
  cases rx;have e':(∃xs,cQ X.K H p xs/\k = !xs.isEmpty)\/(∃xs,dG X.K H p xs/\k = !xs.isEmpty)\/∃kvs,H p=some (.dK kvs)/\k = !kvs.isEmpty:=e;rcases e' with⟨xs,hx,e'⟩|⟨xs,hx,e'⟩|⟨kvs,hx,e'⟩
  .subst e';obtain⟨its,r,pl,hz⟩:=I.list hx;have hlen:=r.length;exact wpAny_truthy_list pl.isList (by simp only[dM];omega) ⟨H,I.tok _,by rw[V9 r];exact q⟩
  .subst e';obtain⟨its,r,pl,hz⟩:=I.tuple hx;have hlen:=r.length;exact truthy_tuple pl (by simp only[dM];omega) ⟨H,I.tok _,by rw[V9 r];exact q⟩
  .subst e';obtain⟨hz,hS,vs,r,m⟩:kvs.length<=sizeLine/\(p==sysModules)=false/\∃vs,KV kvs vs/\s.heap.DictOf (Ik X.prog X.w) p vs:=I.hok p _ hx;have hlen:kvs.length=vs.length:=Paired.length r;exact wpAny_truthy_dict hS m (by omega) ⟨H,I.tok _,by rw[zjj r];exact q⟩
 |_=>exact(show False from e).elim
theorem zl5(ha:PE X a ta)(he:∀whole,isTrue a X.env whole=(do let v <-whole;standAt a.pos;holding [v] (truthy v))):
 PT X a (λσ H Q=>ta σ H λx H'=>∃k,xG X.K x H' k/\Q k H'):=by
 intro pins s σ H Q I h;exact isTrue_plain (bK (ha pins s σ H _ I h) λv s1 ⟨x,H1,I1,r1,q1⟩=>zpQ pins s1 σ H1 x v Q I1 r1 q1) (he _)
theorem zi7:fu X (binaryOp .Add) (λx y H Q=>∃i j,x = .str i/\y = .str j/\i.length+j.length<=sizeLine/\Q (.str (i++j)) H):=by intro pins s σ H x y v u Q I rx ry h;obtain⟨i,j,rfl,rfl,hz,q⟩:=h;obtain⟨t,rfl⟩:=rx;obtain⟨t',rfl⟩:=ry;exact add_str (λt' tk=>⟨.str (i++j),H,I.tok _,⟨_,rfl⟩,q⟩) hz
def pL{x:V}{us:List Value}(r:Vals [x] us):∃u,us=[u]/\RelV x u:=by
 cases r with
 |cons r1 r2=>cases r2;exact⟨_,rfl,r1⟩
theorem HY{x y:V}{us:List Value}(r:Vals [x,y] us):∃u w',us=[u,w']/\RelV x u/\RelV y w':=by
 cases r with
 |cons r1 r2 =>
  cases r2 with
  |cons r3 r4=>cases r4;exact⟨_,_,rfl,r1,r3⟩
theorem zmS:gQ X (.builtin "abs") (λxs H Q=>∃i,xs=[.int i]/\Q (.int (if i<0 then -i else i)) H):=by intro pins s σ H xs us Q I r h;obtain⟨i,rfl,q⟩:=h;obtain⟨u,rfl,t,rfl⟩:=pL r;exact call_abs_int λu tk=>⟨.int (if i<0 then -i else i),H,I.tok _,⟨_,rfl⟩,q⟩
theorem zlp(hc:X.calm=true):gQ X (.builtin "max") (λxs H Q=>∃i j,xs=[.int i,.int j]/\Q (.int (if j>i then j else i)) H):=by
 intro pins s σ H xs us Q I r h;obtain⟨i,j,rfl,q⟩:=h;obtain⟨u,w',rfl,⟨t,rfl⟩,⟨t',rfl⟩⟩:=HY r;refine max_two_ints (I.ok.hd hc) λh' tk k=>⟨_,H,I.kept k,?_,q⟩
 by_cases hj:j>i
 .rw[if_pos hj,if_pos hj];exact⟨_,rfl⟩
 .rw[if_neg hj,if_neg hj];exact⟨_,rfl⟩
theorem zlo(hc:X.calm=true):gQ X (.builtin "min") (λxs H Q=>∃i j,xs=[.int i,.int j]/\Q (.int (if j<i then j else i)) H):=by
 intro pins s σ H xs us Q I r h;obtain⟨i,j,rfl,q⟩:=h;obtain⟨u,w',rfl,⟨t,rfl⟩,⟨t',rfl⟩⟩:=HY r;refine min_two_ints (I.ok.hd hc) λh' tk k=>⟨_,H,I.kept k,?_,q⟩
 by_cases hj:j<i
 .rw[if_pos hj,if_pos hj];exact⟨_,rfl⟩
 .rw[if_neg hj,if_neg hj];exact⟨_,rfl⟩
end
structure kI(h:Heap)(x dx C:Addr)(mA:Str->Option Value):Prop where
 obj:h.get? x=some (PySem.W.instObj C dx)
 ns:h.Ns1 dx mA
 ne:dx≠x
theorem zkB{h:Heap}{dx:Addr}{mA:Str->Option Value}(n:h.Ns1 dx mA):∃od,h.get? dx=some od/\∀name,PySem.W.lookIn name od=some (mA name):=by
 obtain⟨o,es,ep,ho,hd,hk,_,hm⟩:=n;refine⟨o,ho,λname=>?_⟩;have e:=hm name;unfold nsFind findBy at e;rw[<-Array.find?_toList] at e;unfold PySem.W.lookIn;rw[hd];dsimp only;split
 .rename_i y q;rw[q] at e;exact congrArg some e
 .rename_i q;rw[q] at e;have a:es.toList.any (·.refKey)=false:=by rw[List.any_eq_false];intro y hy;obtain⟨z,t,hkey⟩:=hk y (Array.mem_toList_iff.mp hy);simp[DictEntry.refKey,hkey]
  have a':¬es.toList.any (·.refKey)=true:=by rw[a];exact fB
  rw[if_neg a'];exact congrArg some e
def kI.look{h:Heap}{x dx C:Addr}{mA:Str->Option Value}(I:kI h x dx C mA):∃od,PySem.W.InstAt h x (PySem.W.instObj C dx) C (some od)/\∀name,PySem.W.lookIn name od=some (mA name) :=
 let ⟨od,ho,hl⟩:=zkB I.ns
 ⟨od,⟨I.obj,rfl,rfl,ho⟩,hl⟩
section
variable {prog:Program}{w:World}{A:Around}{E:Value->Shared->Prop}{s:Shared}{K:FgA}{x dx C f:Addr}{mA:Str->Option Value}{name:Str}{v:Value}
theorem zpc{expr:Bool}{Q:Value->Shared->Prop}(X:K.In s.heap)(I:kI s.heap x dx C mA)(hg:PySem.W.plainGet K C name=true)(hh:PySem.W.hasDictIn K C=true)(ha:PySem.W.findIn K (.ref C) name=some none)(hv:mA name=some v)(hv':PySem.W.handedIn v=true)(h:Q v { s with toks:=s.toks+1 }):
 wpAny (model prog w) A (getAttr (.ref x) name expr) Q E s:=by
 obtain⟨od,J,hl⟩:=I.look;exact PySem.W.get_value X J (PySem.W.plainGet_of hg).1 (PySem.W.findObj_own hh ha rfl (by rw[hl,hv])) hv' h
theorem zmA{pl:Sem Bool}{Q:Value×List Value->Shared->Prop}(X:K.In s.heap)(I:kI s.heap x dx C mA)(hg:PySem.W.plainGet K C name=true)(hf:PySem.W.findIn K (.ref C) name=some (some (.ref f)))(ht:PySem.W.isFn K (.ref f)=true)(hv:mA name=none)(h:Q (.ref f,[.ref x]) s):
 wpAny (model prog w) A (getMethod (.ref x) name pl) Q E s:=by
 obtain⟨od,J,hl⟩:=I.look;exact PySem.W.method_fn X J (PySem.W.plainGet_of hg).1 (PySem.W.plainGet_of hg).2 hf (beq_iff_eq.mp ht) (by show(PySem.W.lookIn name od).map (·.isSome)=some false;rw[hl,hv];rfl) h
theorem zoc{ns:List Str}{Q:Unit->Shared->Prop}(X:K.In s.heap)(I:kI s.heap x dx C mA)(hs:PySem.W.findIn K (.ref C) "__setattr__" = some (some (.builtin "object.__setattr__")))(hp:PySem.W.plainOver K C=true)(ht:PySem.W.takerIn K C name=some none)(hh:PySem.W.hasDictIn K C=true)(hw:PySem.Within mA ns)(hsz:ns.length<=sizeLine)(h:∀h',kI h' x dx C (λy=>if y=name then some v else mA y)->Heap.SameBut dx s.heap h'->Q () { s with heap:=h',toks:=s.toks+2 }):
 wpAny (model prog w) A (setAttr (.ref x) name v) Q E s:=by
 obtain⟨od,J,hl⟩:=I.look;refine PySem.W.set_plain X J hs (PySem.W.osa_open (s:={ s with toks:=s.toks+1 }) (r:=none) X J hp ht λb=>?_);obtain⟨cd,hc,hd'⟩:=PySem.W.any_some hh;have hx:s.heap.get? x=some ⟨.ref C,some dx,.plain,#[]⟩:=I.obj;refine aF (bT (aF (aF (wpAny_loadPart hx (aF (PySem.W.Looks.here (s:={ s with toks:=s.toks+1 }) (PySem.W.looks_clsIn X hc) ?_))))));rw[hd'];refine bT (a:=some dx) (aF (bT (aF ?_)));refine wpAny_nsSet1 (s:={ s with toks:=s.toks+1 }) I.ns λh' hn2 hs2=>?_;obtain⟨oD,esD,epD,hoD,hdD,hcD⟩:=hn2.count (PySem.Within.cons name v hw);refine aF (wpAny_lookBehind hoD (by rw[hdD];exact pastItsLine_dict (Nat.le_trans hcD (by rw[jd];omega))) ?_);exact bT (h _ ⟨(hs2.2 _ (Ne.symm I.ne)).trans I.obj,hn2,I.ne⟩ hs2)
theorem zmo{R:Result->Shared->Prop}{vs:List Value}{kw:List (Str×Value)}(X:K.In s.heap)(hm:PySem.W.makesIn K C=true)(hi:PySem.W.findIn K (.ref C) "__init__" = some (some (.ref f)))(hf:PySem.W.typeIn K (.ref f)=some (.type "function"))(h:codeAny (model prog w) (A.under (.builtin "type.__call__" ⟨.ref C::vs,kw⟩)) (.call (.ref f) ⟨.ref (s.heap.objs.size+1)::vs,kw⟩) (PySem.W.InitBack (s.heap.objs.size+1) R)
  { s with heap:=(s.heap.push PySem.W.emptyDict).push (PySem.W.instObj C s.heap.objs.size) }):
 codeAny (model prog w) A (.call (.ref C) ⟨vs,kw⟩) R s:=by
 obtain⟨hh,g,d,t,os⟩:=s;exact PySem.W.make_core (PySem.W.makes_of X hm) (PySem.W.looks_findIn X hi) (λself=>PySem.W.bind_fn X self hf) (.inl rfl) h
end
noncomputable def jf(f:Str)(v:V):List (Str×V)->List (Str×V)
 |[]=>[(f,v)]
 | (g,x)::r=>if g=f then(g,v)::r else(g,x)::jf f v r
theorem WD(f g:Str)(v:V):∀fs:List (Str×V),(jf f v fs).lookup g=if g=f then some v else fs.lookup g
 |[]=>by
  show List.lookup g [(f,v)]=_;by_cases h:g=f
  .have hb:(g==f)=true:=beq_iff_eq.mpr h;simp only[List.lookup,hb,if_pos h]
  .have hb:(g==f)=false:=beq_eq_false_iff_ne.mpr h;simp only[List.lookup,hb,if_neg h]
 | (k,x)::r=>by
   have ih:=WD f g v r;rw[show jf f v ((k,x)::r)=(if k=f then(k,v)::r else(k,x)::jf f v r) from rfl];by_cases hk:k=f
   .rw[if_pos hk];by_cases h:g=k
    .have hb:(g==k)=true:=beq_iff_eq.mpr h;simp only[List.lookup,hb,if_pos (h.trans hk)]
    .have hb:(g==k)=false:=beq_eq_false_iff_ne.mpr h;simp only[List.lookup,hb,if_neg (λe:g=f=>h (e.trans hk.symm))]
   .rw[if_neg hk];by_cases h:g=k
    .have hb:(g==k)=true:=beq_iff_eq.mpr h;simp only[List.lookup,hb,if_neg (λe:g=f=>hk (h.symm.trans e))]
    .have hb:(g==k)=false:=beq_eq_false_iff_ne.mpr h;simp only[List.lookup,hb];exact ih
theorem K9(f:Str)(v:V):∀fs:List (Str×V),f∈(jf f v fs).map (·.1)/\∀g,g∈fs.map (·.1)->g∈(jf f v fs).map (·.1)
 |[]=>⟨by simp[jf],λg h=>by simp at h⟩
 | (k,x)::r=>by
   obtain⟨i1,i2⟩:=K9 f v r;rw[show jf f v ((k,x)::r)=(if k=f then(k,v)::r else(k,x)::jf f v r) from rfl];by_cases hk:k=f
   .rw[if_pos hk];subst hk;exact⟨by simp,λg h=>by simpa using h⟩
   .rw[if_neg hk];refine⟨?_,λg h=>?_⟩
    .rw[iU];exact cG _ i1
    .rw[iU] at h ⊢;rcases List.mem_cons.mp h with e|e
     .exact List.mem_cons.mpr (.inl e)
     .exact cG _ (i2 g e)
theorem Wz(f:Str)(v:V):∀fs:List (Str×V),(jf f v fs).length<=fs.length+1
 |[]=>by simp[jf]
 | (k,x)::r=>by
   have ih:=Wz f v r;rw[show jf f v ((k,x)::r)=(if k=f then(k,v)::r else(k,x)::jf f v r) from rfl];by_cases hk:k=f
   .rw[if_pos hk,jd,jd];omega
   .rw[if_neg hk,jd,jd];omega
theorem iR.some_of{v:V}{o:Option Value}(r:iR (some v) o):∃u,o=some u/\RelV v u:=by
 cases o with
 |none=>exact(show False from r).elim
 |some u=>exact⟨u,rfl,r⟩
def iR.none_of{o:Option Value}(r:iR none o):o=none:=by
 cases o with
 |none=>rfl
 |some u=>exact(show False from r).elim
theorem zkR{v:V}{u:Value}(r:RelV v u):PySem.W.handedIn u=true:=by
 cases v with
 |non=>cases (show u=Value.none from r);rfl
 |bl b=>cases (show u=Value.bool b from r);rfl
 |int i=>obtain⟨t,e⟩:=(show ∃t,u=Value.int i t from r);cases e;rfl
 |str x=>obtain⟨t,e⟩:=(show ∃t,u=Value.str x t from r);cases e;rfl
 |byt b=>obtain⟨t,e⟩:=(show ∃t,u=Value.bytes b t from r);cases e;rfl
 |flt b=>obtain⟨t,e⟩:=(show ∃t,u=Value.float b t from r);cases e;rfl
 |ref a=>cases (show u=Value.ref a from r);rfl
 |ty n=>cases (show u=Value.type n from r);rfl
section
variable {P:Program}{w:World}{H H':Hp}{h h':Heap}{a C dx:Addr}{fs fs':List (Str×V)}
theorem Fv(hok:fJ P w H h)(e:H a=some (.ins C dx fs)):∃mA,kI h a dx C mA/\(∀f,iR (fs.lookup f) (mA f))/\PySem.Within mA (fs.map (·.1))/\fs.length<=1000/\H dx=some (.own a):=by
 obtain⟨d,z,ne,ob,mA,n,r,q⟩:=(show bJ P w H h a (.ins C dx fs) from hok a _ e)
 exact⟨mA,⟨ob,n,ne⟩,r,q,z,d⟩
end
structure jc(K:FgA)(C:Addr):Prop where
 pg:PySem.W.plainGet K C Str.empty=true
 hd:PySem.W.hasDictIn K C=true
 po:PySem.W.plainOver K C=true
 sa:PySem.W.findIn K (.ref C) "__setattr__" = some (some (.builtin "object.__setattr__"))
def jc.get{K:FgA}{C:Addr}(c:jc K C)(f:Str):PySem.W.plainGet K C f=true:=c.pg
def dX(K:FgA)(C:Addr)(f:Str):Prop:=PySem.W.findIn K (.ref C) f=some none
theorem dX.taker{K:FgA}{C:Addr}{f:Str}(n:dX K C f):PySem.W.takerIn K C f=some none:=by unfold PySem.W.takerIn;rw[show PySem.W.findIn K (.ref C) f=some none from n];rfl
structure sI(K:FgA)(C:Addr)(m:Str)(f:Addr):Prop where
 at_:PySem.W.findIn K (.ref C) m=some (some (.ref f))
 fn:PySem.W.isFn K (.ref f)=true
 kp:PySem.W.keepIn K (.ref f)=true
section
variable {X:Cx}{pins:List (Addr×Obj)}{σ:St}{H:Hp}{s:Shared}{a C dx:Addr}{fs:List (Str×V)}{f:Str}{v:V}{A:Around}{E:Value->Shared->Prop}
theorem zjk{b:Bool}{Q:Value->Shared->Prop}(I:Inv X pins σ H s)(e:H a=some (.ins C dx fs))(c:jc X.K C)(n:dX X.K C f)(l:fs.lookup f=some v)(h:∀u s',Inv X pins σ H s'->RelV v u->Q u s'):wpAny (model X.prog X.w) A (getAttr (.ref a) f b) Q E s:=by obtain⟨mA,O,r,_,_,_⟩:=Fv I.hok e;obtain⟨u,hu,ru⟩:=iR.some_of (v:=v) (o:=mA f) (by rw[<-l];exact r f);exact zpc I.kIn O (c.get f) c.hd n hu (zkR ru) (h u _ (I.tok _) ru)
theorem V7{m:Str}{g:Addr}{pl:Sem Bool}{Q:Value×List Value->Shared->Prop}(I:Inv X pins σ H s)(e:H a=some (.ins C dx fs))(c:jc X.K C)(k:sI X.K C m g)(l:fs.lookup m=none)(h:Q (.ref g,[.ref a]) s):wpAny (model X.prog X.w) A (getMethod (.ref a) m pl) Q E s:=by obtain⟨mA,O,r,_,_,_⟩:=Fv I.hok e;have hn:mA m=none:=iR.none_of (by rw[<-l];exact r m);exact zmA I.kIn O (c.get m) k.at_ k.fn hn h
theorem zi1{y:V}{u:Value}{Q:Unit->Shared->Prop}(I:Inv X pins σ H s)(e:H a=some (.ins C dx fs))(c:jc X.K C)(n:dX X.K C f)(hl:fs.length<1000)(ry:RelV y u)(h:∀s',Inv X pins σ (upd H a (.ins C dx (jf f y fs))) s'->Q () s'):wpAny (model X.prog X.w) A (setAttr (.ref a) f u) Q E s:=by
 obtain⟨mA,O,r,wi,_,ho⟩:=Fv I.hok e;have hz:(fs.map (·.1)).length<=sizeLine:=by rw[cZ,sizeLine_eq];omega
 refine zoc I.kIn O c.sa c.po n.taker c.hd wi hz λh' O' sb=>h _ ?_;have hd:∃o,h'.get? dx=some o:=let ⟨o,_,_,e',_⟩:=O'.ns;⟨o,e'⟩;refine I.write (x:=a) (e:=dx) (by rw[e];exact True.intro) (.inr ho) (λb q hb z=>(sb.2 b hb).trans z) hd ?_;refine⟨by rw[bN O.ne];exact ho,?_,O.ne,O'.obj,_,O'.ns,λg=>?_,λg hg=>?_⟩
 .have:=Wz f y fs;omega
 .show iR ((jf f y fs).lookup g) (if g=f then some u else mA g);rw[WD];by_cases q:g=f
  .rw[if_pos q,if_pos q];exact ry
  .rw[if_neg q,if_neg q];exact r g
 .by_cases q:g=f
  .rw[q];exact(K9 f y fs).1
  .refine(K9 f y fs).2 g (wi g λz=>hg ?_);show(if g=f then some u else mA g)=none;rw[if_neg q];exact z
theorem Inv.made(I:Inv X pins σ H s):Inv X pins σ (upd (upd H s.heap.objs.size (.own (s.heap.objs.size+1))) (s.heap.objs.size+1) (.ins C s.heap.objs.size []))
 { s with heap:=(s.heap.push PySem.W.emptyDict).push (PySem.W.instObj C s.heap.objs.size) }:=by
 have e1:(s.heap.push PySem.W.emptyDict).get? s.heap.objs.size=some PySem.W.emptyDict:=gB s.heap rfl;have e2:((s.heap.push PySem.W.emptyDict).push (PySem.W.instObj C s.heap.objs.size)).get? (s.heap.objs.size+1)=some (PySem.W.instObj C s.heap.objs.size):=by
  have:=gB (s.heap.push PySem.W.emptyDict) (o:=PySem.W.instObj C s.heap.objs.size) rfl
  rwa [Heap.size_push] at this
 have e3:(s.heap.push PySem.W.emptyDict).Ns s.heap.objs.size (λ_=>none):=⟨PySem.W.emptyDict,#[],_,e1,rfl,(λe he=>absurd he (by simp)),λ_=>rfl⟩
 have I1:=I.laid (a:=s.heap.objs.size) (o := .own (s.heap.objs.size+1)) (h':=s.heap.push PySem.W.emptyDict) (t':=s.toks) (λb u q=>cX _ q) (bZ _) ⟨_,e1⟩;refine I1.laid (a:=s.heap.objs.size+1) (o := .ins C s.heap.objs.size []) (t':=s.toks) (λb u q=>cX _ q) (Nat.le_of_eq (Heap.size_push _ _)) ?_;have ne:s.heap.objs.size≠s.heap.objs.size+1:=dh (Nat.lt_succ_self _);refine⟨by rw[bN ne,dU],Nat.zero_le _,ne,e2,λ_=>none,(Heap.Ns1.of_empty e3).at λo q=>cX _ q,λ_=>True.intro,λy hy=>absurd rfl hy⟩
theorem zpJ{prog:Program}{w:World}{env:Env}{e:Expr}{f:Str}{pos:Pos}{s:Shared}{Q:Value->Shared->Prop}(hb:attributeBase e f env (eval e env)=eval e env)(h:wpAny (model prog w) A (eval e env) (λo s₁=>wpAny (model prog w) A (getAttr o f true) Q E s₁) E s):wpAny (model prog w) A (eval (.Attribute e f pos) env) Q E s :=
 Attribute_any_ h (by rw[arm_eval_Attribute,hb])
end
noncomputable def Oe(K:FgA)(ta:TE)(f:Str):TE:=λσ H Q=>ta σ H λx H1=>∃a C dx fs v,x = .ref a/\H1 a=some (.ins C dx fs)/\jc K C/\dX K C f/\fs.lookup f=some v/\Q v H1
noncomputable def Ot(K:FgA)(ta tv:TE)(f:Str):TS:=λD σ H=>tv σ H λy H1=>ta σ H1 λx H2=>∃a C dx fs,x = .ref a/\H2 a=some (.ins C dx fs)/\jc K C/\dX K C f/\fs.length<1000 /\
 D.nx σ (upd H2 a (.ins C dx (jf f y fs)))
section
variable {X:Cx}{o e value:Expr}{f:Str}{pos pos' tpos:Pos}{ta tv:TE}
theorem Z8(he:PE X e ta)(hb:attributeBase e f X.env (eval e X.env)=eval e X.env):PE X (.Attribute e f pos) (Oe X.K ta f):=by intro pins s σ H Q I h;refine zpJ hb (bK (he pins s σ H _ I h) λu s1 ⟨x,H1,I1,rx,a,C,dx,fs,v,ex,ea,c,n,l,q⟩=>?_);subst ex;obtain rfl:u=Value.ref a:=rx;exact zjk I1 ea c n l λu' s2 I2 ru=>⟨v,H1,I2,ru,q⟩
theorem zqN(ha:PE X o ta)(hv:PE X value tv)(hs:swapsWith value (some (.Attribute o f pos')) pos.line X.env=pure false):PS X (.Assign [.Attribute o f pos'] value pos) (Ot X.K ta tv f):=by intro pins s σ H D I h;refine plainObj_wpAny_Assign_Attribute (bK (hv pins s σ H _ I h) λu s1 ⟨y,H1,I1,ry,q⟩=>bK (ha pins s1 σ H1 _ I1 q) λov s2 ⟨x,H2,I2,rx,a,C,dx,fs,ex,ea,c,n,l,q2⟩=>?_) hs;subst ex;obtain rfl:ov=Value.ref a:=rx;exact zi1 I2 ea c n l ry λs3 I3=>⟨σ,_,I3,q2⟩
end
section
variable {X:Cx}{pins:List (Addr×Obj)}{σ:St}{H:Hp}{s:Shared}{A:Around}{E:Value->Shared->Prop}{Q:Value->Shared->Prop}{c:Value}{b:Bool}
inductive lQ(K:FgA)(H:Hp):V->Value->Prop where
 |non:lQ K H .non (.type "NoneType")
 |bl (x:Bool):lQ K H (.bl x) (.type "bool")
 |int (i:Int):lQ K H (.int i) (.type "int")
 |str (x:Str):lQ K H (.str x) (.type "str")
 |flt (x:UInt64):lQ K H (.flt x) (.type "float")
 |lst {a:Addr} {xs:List V} (e:H a=some (.lst xs)):lQ K H (.ref a) (.type "list")
 |frz {a:Addr} {o:Obj} {xs:List V} (e:H a=some (.frz o (.lst xs))):lQ K H (.ref a) (.type "list")
 |tup {a:Addr} {xs:List V} (e:H a=some (.tup xs)):lQ K H (.ref a) (.type "tuple")
 |dK {a:Addr} {kvs:List (Key×V)} (e:H a=some (.dK kvs)):lQ K H (.ref a) (.type "dict")
 |dT {a:Addr} {kvs:List (List Key×V)} (e:H a=some (.dT kvs)):lQ K H (.ref a) (.type "dict")
 |ins {a C dx:Addr} {fs:List (Str×V)} (e:H a=some (.ins C dx fs)) (cl:jc K C) (ha:PySem.W.findIn K (.ref C) "__class__" = some (some (.builtin "object.__class__")))
  (hn:PySem.W.specialIn K (.builtin "object.__class__") "__get__" = some (some (.builtin "getset_descriptor.__get__"))) (htk:PySem.W.takesIn K (.builtin "object.__class__")=some true)
  (hm:PySem.W.mroIn K C (.type "object")=some true):lQ K H (.ref a) (.ref C)
theorem zkL{x:V}{u t:Value}(I:Inv X pins σ H s)(rx:RelV x u)(ty:lQ X.K H x t)(e:PySem.W.kitOne X.K t c=some b)(h:∀tk,Q (.bool b) { s with toks:=tk }):
 wpAny (model X.prog X.w) A (call (.builtin "isinstance") [u,c]) Q E s:=by
 cases ty with
 |non=>cases (show u=Value.none from rx);exact PySem.W.kia_one PySem.W.kitx_none I.kIn True.intro e (λz=>nomatch z) h
 |bl y=>cases (show u=Value.bool y from rx);exact PySem.W.kia_one PySem.W.kitx_bool I.kIn True.intro e (λz=>nomatch z) h
 |int i=>obtain⟨t,q⟩:=(show ∃t,u=Value.int i t from rx);cases q;exact PySem.W.kia_one PySem.W.kitx_int I.kIn True.intro e (λz=>nomatch z) h
 |str y=>obtain⟨t,q⟩:=(show ∃t,u=Value.str y t from rx);cases q;exact PySem.W.kia_one PySem.W.kitx_str I.kIn True.intro e (λz=>nomatch z) h
 |flt y=>obtain⟨t,q⟩:=(show ∃t,u=Value.float y t from rx);cases q;exact PySem.W.kia_one PySem.W.kitx_float I.kIn True.intro e (λz=>nomatch z) h
 |@lst a xs ea =>
  cases (show u=Value.ref a from rx);obtain⟨_,_,n,_,h1⟩:=(show bJ X.prog X.w H s.heap a (.lst xs) from I.hok a _ ea)
  exact PySem.W.kia_one PySem.W.kitx_list I.kIn ⟨_,h1,rfl⟩ e (λz=>nomatch z) h
 |@frz a ob xs ea =>
  cases (show u=Value.ref a from rx);obtain⟨_,_,_,n,_,h1⟩:=(show bJ X.prog X.w H s.heap a (.frz ob (.lst xs)) from I.hok a _ ea)
  exact PySem.W.kia_one PySem.W.kitx_list I.kIn ⟨_,h1,rfl⟩ e (λz=>nomatch z) h
 |@tup a xs ea =>
  cases (show u=Value.ref a from rx);obtain⟨_,_,_,p⟩:=(show bJ X.prog X.w H s.heap a (.tup xs) from I.hok a _ ea)
  obtain⟨o,h1,h2,_⟩:=p;exact PySem.W.kia_one PySem.W.kitx_tuple I.kIn ⟨o,h1,h2⟩ e (λz=>nomatch z) h
 |@dK a kvs ea =>
  cases (show u=Value.ref a from rx);obtain⟨_,_,vs,_,p⟩:=(show bJ X.prog X.w H s.heap a (.dK kvs) from I.hok a _ ea)
  obtain⟨o,es,ep,h1,h2,_⟩:=p;exact PySem.W.kia_one PySem.W.kitx_dict I.kIn ⟨o,h1,h2.1⟩ e (λz=>nomatch z) h
 |@dT a kvs ea =>
  cases (show u=Value.ref a from rx);obtain⟨_,_,xs,_,o,es,ep,h1,h2,_⟩:=(show bJ X.prog X.w H s.heap a (.dT kvs) from I.hok a _ ea)
  exact PySem.W.kia_one PySem.W.kitx_dict I.kIn ⟨o,h1,h2.1⟩ e (λz=>nomatch z) h
 |@ins a C dx fs ea cl ha hn htk hm =>
  cases (show u=Value.ref a from rx);obtain⟨mA,O,_⟩:=Fv I.hok ea;obtain⟨od,J,_⟩:=O.look;exact PySem.W.kia_one (PySem.W.kitx_own (cl.get _) cl.hd ha hn htk hm) I.kIn J e (λz=>nomatch z) h
end
structure aU(k:Nat)(A:Around):Prop where
 hd:A.handled=none
 dp:A.depth+3*k+5<recursionLimit
 un:A.units+16*k+200<cLine
def aU.mono{j k:Nat}{A:Around}(r:aU k A)(h:j<=k):aU j A:=⟨r.hd,by have:=r.dp;omega,by have:=r.un;omega⟩
theorem aU.deeper{k:Nat}{A:Around}(r:aU (k+1) A)(env:Env):aU k (A.deeper env) :=
 ⟨r.hd,by have:=r.dp;show A.depth+1+3*k+5<_;omega,by have:=r.un;show A.units+3+16*k+200<_;omega⟩
def aU.in1{k:Nat}{A:Around}(r:aU (k+1) A):aU k A.in1 :=
 ⟨r.hd,by have:=r.dp;show A.depth+3*k+5<_;omega,by have:=r.un;show A.units+1+16*k+200<_;omega⟩
theorem zje{A:Around}{C:Addr}{us:List Value}{kw:List (Str×Value)}:(A.under (.builtin "type.__call__" ⟨.ref C::us,kw⟩)).depth=A.depth+1:=by
 first|rfl|simp[Around.under,Code.weight,Code.isCreation,Code.isGuard,Code.isCaller,Code.frames,Code.isFrame,guardIds]
theorem zjd{A:Around}{C:Addr}{us:List Value}{kw:List (Str×Value)}:(A.under (.builtin "type.__call__" ⟨.ref C::us,kw⟩)).units=A.units+1:=by
 first|rfl|simp[Around.under,Code.cUnits,Code.frames,Code.isFrame]
theorem aU.make{k:Nat}{A:Around}(r:aU (k+1) A)(C:Addr)(us:List Value)(kw:List (Str×Value)):aU k (A.under (.builtin "type.__call__" ⟨.ref C::us,kw⟩)) :=
 ⟨r.hd,by have:=r.dp;rw[zje];omega,by have:=r.un;rw[zjd];omega⟩
def aU.depth{k:Nat}{A:Around}(r:aU k A):A.depth<recursionLimit:=by have:=r.dp;omega
def aU.units{k:Nat}{A:Around}(r:aU k A):A.units+64<cLine:=by have:=r.un;omega
noncomputable def qu:TA:=λ_ H Q=>Q [] H
noncomputable def jL(ta:TE)(tr:TA):TA:=λσ H Q=>ta σ H λx H1=>tr σ H1 λxs H2=>Q (x::xs) H2
section
variable {X:Cx}{e:Expr}{es:List Expr}{te:TE}{t:TA}{pos:Pos}
def tL:PA X [] qu:=λ_ _ _ _ H Q I h=>Calls.spliced_nil ⟨[],H,I,.nil,h⟩
theorem jM(ha:PE X e te)(hr:PA X es t)(hs:starEach (e::es) X.env=(false,eval e X.env)::starEach es X.env:=by rfl):PA X (e::es) (jL te t):=by intro pos pins s σ H Q I h;rw[hs];show wpAny _ _ (spliced ((false,eval e X.env)::backTo pos (starEach es X.env))) _ _ s;refine Calls.spliced_cons (bK (ha pins s σ H _ I h) λu s1 ⟨x,H1,I1,r1,q1⟩=>?_);exact bK (hr pos pins s1 σ H1 _ I1 q1) λus s2 ⟨xs,H2,I2,r2,q2⟩=>⟨x::xs,H2,I2,.cons r1 r2,q2⟩
noncomputable def Bt(t:TA):TE:=λσ H Q=>t σ H λxs H1=>xs.length<=sizeLine/\∀p,H1 p=none->Q (.ref p) (upd H1 p (.tup xs))
noncomputable def vV(t:TA):TE:=λσ H Q=>t σ H λxs H1=>xs.length<=sizeLine/\∀p,H1 p=none->Q (.ref p) (upd H1 p (.lst xs))
theorem Rk{x1}(h:PA X es t):PE X (.Tuple es x1 pos) (Bt t):=by intro pins s σ H Q I hq;refine wpAny_Tuple_spliced (bK (h pos pins s σ H _ I hq) λus s1 ⟨xs,H1,I1,r,z,q⟩=>⟨by rw[<-r.length];exact z,?_⟩);have hf:H1 s1.heap.objs.size=none:=I1.hok.fresh (bZ _);refine⟨.ref s1.heap.objs.size,upd H1 s1.heap.objs.size (.tup xs),I1.laid (t':=s1.toks) (λb u e=>cX _ e) (bZ _) ?_,rfl,q _ hf⟩;exact⟨z,us,r,⟨_,gB _ rfl,rfl,_,rfl⟩⟩
theorem Jq(h:PA X es t):PE X (.List es pos) (vV t):=by intro pins s σ H Q I hq;refine wpAny_List_spliced (bK (h pos pins s σ H _ I hq) λus s1 ⟨xs,H1,I1,r,z,q⟩=>⟨by rw[<-r.length];exact z,?_⟩);have hf:H1 s1.heap.objs.size=none:=I1.hok.fresh (bZ _);refine⟨.ref s1.heap.objs.size,upd H1 s1.heap.objs.size (.lst xs),I1.laid (t':=s1.toks) (λb u e=>cX _ e) (bZ _) ?_,rfl,q _ hf⟩;exact⟨z,us,0,r,gB _ rfl⟩
end
noncomputable abbrev Sp:=List V->Hp->VK->XK->Prop
noncomputable abbrev mQ:=List Env->Hp->Shared->XK->Value->Shared->Prop
structure iu(P:Program)(w:World)(K:FgA)(mg:Str->Option Value)(base:Heap)(A:Around)(outer:List Env)(s:Shared)(H:Hp):Prop where
 frames:A.frames=some outer
 mod:Mod K mg base
 bs:∀b o,base.get? b=some o->s.heap.get? b=some o/\H b=none
 bsz:base.objs.size<=s.heap.objs.size
 funs:s.heap.FunFrames base outer
 frf:∀b∈frs outer,H b=none
 hok:fJ P w H s.heap
 bare:AllBare s.gens
noncomputable def CE(outer:List Env)(P:Program)(w:World)(H:Hp)(s:Shared)(Q:VK)(u:Value)(s':Shared):Prop :=
 ∃v H',s'.os=s.os/\AllBare s'.gens/\Un (frs outer) [] H H' s.heap s'.heap/\fJ P w H' s'.heap/\RelV v u/\Q v H'
noncomputable def CR(CX:mQ)(outer:List Env)(P:Program)(w:World)(H:Hp)(s:Shared)(Q:VK)(E:XK)(r:Result)(s':Shared):Prop :=
 match r with
 |.ok (.ret u)=>CE outer P w H s Q u s'
 |.ok _=>False
 |.error e=>CX outer H s E e s'
structure bO(P:Program)(w:World)(K:FgA)(mg:Str->Option Value)(base:Heap)(CX:mQ)(k:Nat)(f:Addr)(fd:FuncData)(ps:List Str)(sp:Sp):Prop where
 len:∀vs H Q E,sp vs H Q E->vs.length=ps.length
 run:∀(A:Around) (outer:List Env) (s:Shared) (H:Hp) (args:Args) (us:List Value) (vs:List V) (Q:VK) (E:XK),aU k A->iu P w K mg base A outer s H->BindsTo s fd args (ps.zip us)->Vals vs us->sp vs H Q E ->
  codeAny (model P w) A (.call (.ref f) args) (CR CX outer P w H s Q E) s
def bO.mono{P:Program}{w:World}{K:FgA}{mg:Str->Option Value}{base:Heap}{CX:mQ}{j k:Nat}{f:Addr}{fd:FuncData}{ps:List Str}{sp:Sp}(F:bO P w K mg base CX j f fd ps sp)(h:j<=k):
 bO P w K mg base CX k f fd ps sp:=⟨F.len,λA outer s H args us vs Q E hr=>F.run A outer s H args us vs Q E (hr.mono h)⟩
theorem iu.make{P:Program}{w:World}{K:FgA}{mg:Str->Option Value}{base:Heap}{A:Around}{outer:List Env}{s:Shared}{H:Hp}(e:iu P w K mg base A outer s H)(C:Addr)(us:List Value)(kw:List (Str×Value)):
 iu P w K mg base (A.under (.builtin "type.__call__" ⟨.ref C::us,kw⟩)) outer s H:=⟨by first|exact e.frames|(simpa[Around.under,Code.envs,Code.isFrame,pushEnvs] using e.frames),e.mod,e.bs,e.bsz,e.funs,e.frf,e.hok,e.bare⟩
section
variable {X:Cx}{pins:List (Addr×Obj)}{σ:St}{H:Hp}{s s':Shared}
def Inv.env0(I:Inv X pins σ H s):iu X.prog X.w X.K X.mg X.base X.A X.stack s H :=
 ⟨I.ok.frames,I.ok.mod,I.bs,Nat.le_trans I.ok.bsz I.sz,I.stack,I.stkFree,I.hok,I.bare⟩
theorem Inv.after{Q:VK}{u:Value}(I:Inv X pins σ H s)(h:CE X.stack X.prog X.w H s Q u s'):EP X pins σ Q u s':=by obtain⟨v,H',os,bare,un,hok,r,q⟩:=h;obtain⟨hh,g,d,t,os'⟩:=s';obtain rfl:os'=s.os:=os;exact⟨v,H',I.call (h':=hh) (g':=g) (d':=d) (t':=t) (ch:=[]) un hok bare (λb z=>absurd z (by simp)),r,q⟩
end
noncomputable def BP(sp:Sp)(iK:List V)(E:XK)(t:TA):TE:=λσ H Q=>t σ H λvs H1=>sp (vs++iK) H1 Q E
noncomputable def uh(C:Addr)(m:Str)(sp:Sp)(iK:List V)(E:XK)(ta:TE)(t:TA):TE:=λσ H Q=>ta σ H λx H1=>∃a dx fs,x = .ref a/\H1 a=some (.ins C dx fs)/\fs.lookup m=none /\
 t σ H1 λvs H2=>sp (x::(vs++iK)) H2 Q E
noncomputable def Bx(C:Addr)(sp:Sp)(iK:List V)(E:XK)(t:TA):TE:=λσ H Q=>t σ H λvs H1=>∀x dx,H1 x=none->H1 dx=none->dx≠x ->
 sp (.ref x::(vs++iK)) (upd (upd H1 dx (.own x)) x (.ins C dx [])) (λv H2=>v = .non/\Q (.ref x) H2) E
noncomputable def Binds(K:FgA)(fd:FuncData)(ps:List Str)(ds:List Value):Prop :=
 ∀(s:Shared) (us:List Value),K.In s.heap->(us++ds).length=ps.length->BindsTo s fd ⟨us,[]⟩ (ps.zip (us++ds))
theorem Binds.all{K:FgA}{fd:FuncData}{ps:List Str}(h:∀us:List Value,us.length=ps.length->bindArgs fd ⟨us,[]⟩=pure (ps.zip us)):Binds K fd ps []:=λs us _ hl=>by rw[List.append_nil] at hl ⊢;exact .of_eq (h us hl)
def sZ(CX:mQ)(X:Cx)(E:XK):Prop:=∀(pins:List (Addr×Obj)) (σ:St) (H:Hp) (s:Shared) (e:Value) (s':Shared),Inv X pins σ H s->CX X.stack H s E e s'->X.xe e s'
section
variable {X:Cx}{CX:mQ}{k:Nat}{f C:Addr}{fd:FuncData}{ps:List Str}{sp:Sp}{iK:List V}{ds:List Value}{E:XK}{x m:Str}{p pos apos:Pos}{e o:Expr}{es:List Expr}{ta:TE}{t:TA}
theorem Ju{pins:List (Addr×Obj)}{σ:St}{H:Hp}{s:Shared}{Q:VK}{us:List Value}{vs:List V}(F:bO X.prog X.w X.K X.mg X.base CX k f fd ps sp)(hr:aU k X.A)(hb:Binds X.K fd ps ds)(hd:Vals iK ds)(hx:sZ CX X E)(I:Inv X pins σ H s)(r:Vals vs us)(h:sp (vs++iK) H Q E):wpAny (model X.prog X.w) X.A (call (.ref f) us) (EP X pins σ Q) X.xe s:=by
 have r2:Vals (vs++iK) (us++ds):=r.append hd;have hl:(us++ds).length=ps.length:=by rw[<-r2.length];exact F.len _ _ _ _ h
 refine wpAny_call (codeAny_mono (F.run X.A X.stack s H ⟨us,[]⟩ (us++ds) (vs++iK) Q E hr I.env0 (hb s us I.kIn hl) r2 h) λr s' hq=>?_);cases r with
 |error e=>exact hx pins σ H s e s' I hq
 |ok fl =>
  cases fl with
  |ret u=>exact I.after hq
  |next=>exact False.elim hq
  |brk=>exact False.elim hq
  |cont=>exact False.elim hq
theorem R7(F:bO X.prog X.w X.K X.mg X.base CX k f fd ps sp)(hr:aU k X.A)(hg:Gl X x)(hm:X.mg x=some (.ref f))(hk:PySem.W.keepIn X.K (.ref f)=true)(hb:Binds X.K fd ps ds)(hd:Vals iK ds)(hx:sZ CX X E)(ha:PA X (e::es) t)(hdb:(x==("__debug__" : Str))=false:=by decide)(he:starEach (e::es) X.env=(false,eval e X.env)::starEach es X.env:=by rfl)(hpl:(backTo pos (starEach es X.env)).any (·.1)=false:=by rfl):
 PE X (.Call (.Name x p) (e::es) [] pos) (BP sp iK E t):=by
 intro pins s σ H Q I h;refine wpAny_Call_Name_kw (tR I hg hm ?_ hdb);refine PySem.W.callWith_K (h₀:=X.base) I.ok.mod.kin hk (bK (ha pos pins s σ H _ I h) λus s1 ⟨vs,H1,I1,r,q⟩=>⟨I1.kIn,?_⟩) he hpl;exact Ju F hr hb hd hx I1 r q
theorem R9{pl:Sem Bool}(he:PE X o ta)(c:jc X.K C)(hm:sI X.K C m f)(F:bO X.prog X.w X.K X.mg X.base CX k f fd ps sp)(hr:aU k X.A)(hb:Binds X.K fd ps ds)(hd:Vals iK ds)(hx:sZ CX X E)(ha:PA X (e::es) t)(hst:starEach (e::es) X.env=(false,eval e X.env)::starEach es X.env:=by rfl)(hpl:(backTo pos (starEach es X.env)).any (·.1)=false:=by rfl)(ht:eval (.Call (.Attribute o m apos) (e::es) [] pos) X.env=(do
  let ov <-eval o X.env
  standAt apos.atName
  let (f,first) <-holding [ov] (getMethod ov m pl)
  callWith pos f first (backTo pos (starEach (e::es) X.env)) (backToKw pos (keywordEach [] X.env))):=by rfl):
 PE X (.Call (.Attribute o m apos) (e::es) [] pos) (uh C m sp iK E ta t):=by
 intro pins s σ H Q I h;refine PySem.W.methodCall_KW (pl:=pl) (bK (he pins s σ H _ I h) λu s1 ⟨x,H1,I1,rx,a,dx,fs,ex,ea,l,q⟩=>?_) ht;subst ex;obtain rfl:u=Value.ref a:=rx;refine V7 I1 ea c hm l ?_;refine PySem.W.callWith_K (first:=[.ref a]) (h₀:=X.base) I.ok.mod.kin hm.kp (bK (ha pos pins s1 σ H1 _ I1 q) λus s2 ⟨vs,H2,I2,r,q2⟩=>⟨I2.kIn,?_⟩) hst hpl;exact Ju (us := .ref a::us) (vs := .ref a::vs) F hr hb hd hx I2 (.cons rfl r) q2
theorem zme{pl:Sem Bool}(he:PE X o ta)(c:jc X.K C)(hm:sI X.K C m f)(F:bO X.prog X.w X.K X.mg X.base CX k f fd ps sp)(hr:aU k X.A)(hb:Binds X.K fd ps ds)(hd:Vals iK ds)(hx:sZ CX X E)(ht:eval (.Call (.Attribute o m apos) [] [] pos) X.env=(do
  let ov <-eval o X.env
  standAt apos.atName
  let (f,first) <-holding [ov] (getMethod ov m pl)
  callWith pos f first (backTo pos (starEach [] X.env)) (backToKw pos (keywordEach [] X.env))):=by rfl):
 PE X (.Call (.Attribute o m apos) [] [] pos) (uh C m sp iK E ta qu):=by
 intro pins s σ H Q I h;refine PySem.W.methodCall_KW (pl:=pl) (bK (he pins s σ H _ I h) λu s1 ⟨x,H1,I1,rx,a,dx,fs,ex,ea,l,q⟩=>?_) ht;subst ex;obtain rfl:u=Value.ref a:=rx;refine V7 I1 ea c hm l ?_;exact PySem.W.callWith_K0 (first:=[.ref a]) I1.kIn hm.kp (Ju (us:=[.ref a]) (vs:=[.ref a]) F hr hb hd hx I1 (.cons rfl .nil) q)
structure Mk(K:FgA)(C f:Addr):Prop where
 makes:PySem.W.makesIn K C=true
 init:PySem.W.findIn K (.ref C) "__init__" = some (some (.ref f))
 fn:PySem.W.isFn K (.ref f)=true
 kp:PySem.W.keepIn K (.ref C)=true
theorem zl4{pins:List (Addr×Obj)}{σ:St}{H:Hp}{s:Shared}{Q:VK}{us:List Value}{vs:List V}(M:Mk X.K C f)(F:bO X.prog X.w X.K X.mg X.base CX k f fd ps sp)(hr:aU (k+1) X.A)(hb:Binds X.K fd ps ds)(hd:Vals iK ds)(hx:sZ CX X E)(I:Inv X pins σ H s)(r:Vals vs us)(h:∀x dx,H x=none->H dx=none->dx≠x->sp (.ref x::(vs++iK)) (upd (upd H dx (.own x)) x (.ins C dx [])) (λv H2=>v = .non/\Q (.ref x) H2) E):
 wpAny (model X.prog X.w) X.A (call (.ref C) us) (EP X pins σ Q) X.xe s:=by
 have hq:=h (s.heap.objs.size+1) s.heap.objs.size (I.hok.fresh (Nat.le_succ _)) (I.hok.fresh (bZ _)) (dh (Nat.lt_succ_self _));have I2:=Inv.made (C:=C) I;have r2:Vals (V.ref (s.heap.objs.size+1)::(vs++iK)) (Value.ref (s.heap.objs.size+1)::(us++ds)) := .cons rfl (r.append hd);have hl:(Value.ref (s.heap.objs.size+1)::us++ds).length=ps.length:=by have e:=r2.length;rw[F.len _ _ _ _ hq] at e;exact e.symm
 refine wpAny_call (zmo (f:=f) I.kIn M.makes M.init (beq_iff_eq.mp M.fn) (codeAny_mono (F.run _ X.stack _ _ ⟨Value.ref (s.heap.objs.size+1)::us,[]⟩ (Value.ref (s.heap.objs.size+1)::(us++ds)) _ _ E (hr.make C us [])
  (I2.env0.make C us []) (hb _ (Value.ref (s.heap.objs.size+1)::us) I2.kIn hl) r2 hq) λr s' hq'=>?_))
 cases r with
 |error e=>exact hx pins σ _ _ e s' I2 hq'
 |ok fl =>
  cases fl with
  |ret u =>
   obtain⟨v,H',I3,rv,ev,q3⟩:=I2.after hq';subst ev;exact⟨rv,⟨V.ref (s.heap.objs.size+1),H',I3,rfl,q3⟩⟩
  |next=>exact False.elim hq'
  |brk=>exact False.elim hq'
  |cont=>exact False.elim hq'
theorem zoy(M:Mk X.K C f)(F:bO X.prog X.w X.K X.mg X.base CX k f fd ps sp)(hr:aU (k+1) X.A)(hg:Gl X x)(hm:X.mg x=some (.ref C))(hb:Binds X.K fd ps ds)(hd:Vals iK ds)(hx:sZ CX X E)(ha:PA X (e::es) t)(hdb:(x==("__debug__" : Str))=false:=by decide)(he:starEach (e::es) X.env=(false,eval e X.env)::starEach es X.env:=by rfl)(hpl:(backTo pos (starEach es X.env)).any (·.1)=false:=by rfl):
 PE X (.Call (.Name x p) (e::es) [] pos) (Bx C sp iK E t):=by
 intro pins s σ H Q I h;refine wpAny_Call_Name_kw (tR I hg hm ?_ hdb);refine PySem.W.callWith_K (h₀:=X.base) I.ok.mod.kin M.kp (bK (ha pos pins s σ H _ I h) λus s1 ⟨vs,H1,I1,r,q⟩=>⟨I1.kIn,?_⟩) he hpl;exact zl4 M F hr hb hd hx I1 r q
end
structure jA(N P:List Str)(sc:Scope):Prop where
 kind:sc.kind = .function
 co:sc.isCoroutine=false
 gen:sc.isGenerator=false
 nd:N.Nodup
 pre:N.take P.length=P
 par:∀x∈P,sc.names.lookup x=some .local\/sc.names.lookup x=some .cell
 nofree:∀y∈sc.names,y.2 ≠ .free
theorem VB{kindOf:Str->Option NameKind}{x:Str}:∀{binds:List (Str×Value)} {m:Str->Option Value},(∀v,(x,v)∉binds)->bindL kindOf binds m x=m x
 |[],_,_=>rfl
 | (n,v)::r,m,h=>by
   unfold bindL;rw[VB λw hw=>h w (cG _ hw)];split
   .have:x≠n:=by rintro rfl;exact h v fX
    simp[this]
   .rfl
theorem Vy{kindOf:Str->Option NameKind}{x:Str}:∀{binds:List (Str×Value)} {m:Str->Option Value},(∀v,(x,v)∉binds)->bindC kindOf binds m x=m x
 |[],_,_=>rfl
 | (n,v)::r,m,h=>by
   unfold bindC;rw[Vy λw hw=>h w (cG _ hw)];split
   .rfl
   .have:x≠n:=by rintro rfl;exact h v fX
    simp[this]
theorem Vz{kindOf:Str->Option NameKind}{x:Str}{v:Value}:∀{P:List Str} {vs:List Value} {i:Nat} {m:Str->Option Value},P.Nodup->P[i]?=some x->vs[i]?=some v->kindOf x=some .local ->
 bindL kindOf (P.zip vs) m x=some v
 |[],_,_,_,_,h,_,_=>by simp at h
 |_::_,[],_,_,_,_,h,_=>by simp at h
 |p::P,w::vs,0,m,nd,h1,h2,hk=>by simp at h1 h2;subst h1;subst h2;show bindL kindOf ((p,w)::P.zip vs) m p=_;unfold bindL;rw[VB λv hv=>(List.nodup_cons.mp nd).1 (List.of_mem_zip hv).1,if_pos hk];simp
 |p::P,w::vs,i+1,m,nd,h1,h2,hk=>by show bindL kindOf ((p,w)::P.zip vs) m x=_;unfold bindL;exact Vz (i:=i) (List.nodup_cons.mp nd).2 (by simpa using h1) (by simpa using h2) hk
theorem Vx{kindOf:Str->Option NameKind}{x:Str}{v:Value}:∀{P:List Str} {vs:List Value} {i:Nat} {m:Str->Option Value},P.Nodup->P[i]?=some x->vs[i]?=some v->kindOf x≠some .local ->
 bindC kindOf (P.zip vs) m x=some v
 |[],_,_,_,_,h,_,_=>by simp at h
 |_::_,[],_,_,_,_,h,_=>by simp at h
 |p::P,w::vs,0,m,nd,h1,h2,hk=>by simp at h1 h2;subst h1;subst h2;show bindC kindOf ((p,w)::P.zip vs) m p=_;unfold bindC;rw[Vy λv hv=>(List.nodup_cons.mp nd).1 (List.of_mem_zip hv).1,if_neg hk];simp
 |p::P,w::vs,i+1,m,nd,h1,h2,hk=>by show bindC kindOf ((p,w)::P.zip vs) m x=_;unfold bindC;exact Vx (i:=i) (List.nodup_cons.mp nd).2 (by simpa using h1) (by simpa using h2) hk
noncomputable def start(N:List Str)(vs:List V):St:=vs.map some++List.replicate (N.length - vs.length) none
noncomputable def jR(CX:mQ)(P:Program)(w:World)(K:FgA)(mg:Str->Option Value)(base:Heap)(N:List Str)(qual:Str)(scope:Scope)(f:Addr)(cd:Value)(A:Around)(outer:List Env)(s:Shared)(H:Hp)(E:XK):Cx where
 prog:=P
 w:=w
 K:=K
 mg:=mg
 base:=base
 A:=A.deeper (envOfC qual scope s.heap.objs.size f cd)
 N:=N
 s₀:=s
 H₀:=H
 env:=envOfC qual scope s.heap.objs.size f cd
 outer:=outer
 stack:=envOfC qual scope s.heap.objs.size f cd::outer
 ex:=[]
 calm:=true
 fn:=λ_=>true
 pn:=[]
 xe:=λe s'=>wpAny (model P w) (A.deeper (envOfC qual scope s.heap.objs.size f cd)) (leaving (envOfC qual scope s.heap.objs.size f cd) e) (λ_ s''=>CX outer H s E e s'') (λe' s''=>CX outer H s E e' s'') s'
theorem Uq{sc:Scope}{n:Nat}{x:Str}(h:sc.names.lookup x=some .cell):∃c,(cellsFrom n sc.names []).lookup x=some c:=by have q:=PySem.W.cellsFrom_some sc.names n [] (.inl h);exact Option.isSome_iff_exists.mp q
theorem Vj{CX:mQ}{P:Program}{w:World}{K:FgA}{mg:Str->Option Value}{base:Heap}{N ps:List Str}{qual:Str}{scope:Scope}{f:Addr}{cd:Value}{A:Around}{outer:List Env}{s s1:Shared}{H:Hp}{E:XK}{us:List Value}{vs:List V}(S:jA N ps scope)(hd:A.handled=none)(e0:iu P w K mg base A outer s H)(hl:vs.length=ps.length)(r:Vals vs us)(x:InCallC s s.heap.objs.size (bindL (envOfC qual scope s.heap.objs.size f cd).kindOf (ps.zip us) λ_=>none) (cellsFrom (s.heap.objs.size+1) scope.names []) (bindC (envOfC qual scope s.heap.objs.size f cd).kindOf (ps.zip us) λ_=>none) s1):
 Inv (jR CX P w K mg base N qual scope f cd A outer s H E) [] (start N vs) H s1:=by
 have hpl:ps.length<=N.length:=by have:=congrArg List.length S.pre;rw[xT] at this;omega
 obtain⟨h1,tk,rfl,hk⟩:=x.done;have mz:∀b:Addr,b∉(jR CX P w K mg base N qual scope f cd A outer s H E).ex:=λb z=>absurd (show b∈([]:List Addr) from z) (by simp);refine⟨⟨e0.mod,S.kind,rfl,rfl,bZ _,λy z c h1 h2=>?_,λy hy=>?_,λy c _ h=>?_,λ_=>hd,Around.frames_deeper e0.frames,.inr ⟨rfl,rfl⟩,λb z=>absurd z (mz b),e0.bs,e0.bsz,λb _ _=>mz b,λb z=>absurd z (mz b),e0.funs,e0.frf⟩,
  rfl,e0.bare,Un.kept hk,⟨_,x.toInCall.ns,λi y v h1 h2 h3=>?_⟩,λy c h=>⟨_,x.cell y c h⟩,e0.hok.fresh (bZ _),λy c h=>?_,λp hp=>absurd (show p∈([]:List (Addr×Obj)) from hp) (by simp),e0.hok.kept hk,?_⟩
 .exact name_of_addr x.apart (gP h1) (gP h2)
 .have hy:scope.names.lookup y=some .cell\/scope.names.lookup y=some .free:=hy;rcases hy with hy|hy
  .exact Uq hy
  .exact absurd rfl (S.nofree _ (gP hy))
 .exact uW (x.above y c (gP h))
 .have hi:i<vs.length:=by
   unfold start at h2;by_cases hi:i<vs.length
   .exact hi
   .rw[zJ (by simpa using hi)] at h2;rw[List.getElem?_replicate] at h2;split at h2<;>cases h2
  have ha:vs[i]?=some v:=by
   unfold start at h2;rw[mR (by simpa using hi),gG] at h2;cases e:vs[i]? with
   |none=>rw[e] at h2;cases h2
   |some a=>rw[e] at h2;cases h2;rfl
  obtain⟨u,hu,rv⟩:=r.get ha;have hp:ps[i]?=some y:=by rw[<-S.pre,List.getElem?_take_of_lt (by omega)];exact h1
  have XC:ps.Nodup:=by rw[<-S.pre];exact S.nd.sublist (List.take_sublist _ _)
  refine⟨u,rv,?_⟩;rcases S.par y (List.mem_of_getElem? hp) with k|k
  .exact .inl ⟨k,Vz XC hp hu k⟩
  .obtain⟨c,e⟩:=Uq (n:=s.heap.objs.size+1) k;refine .inr ⟨.inl k,c,e,?_⟩;have q:=x.cell y c e;rw[Vx XC hp hu (by show scope.names.lookup y≠_;rw[k];decide)] at q;exact q
 .exact e0.hok.fresh (uW (x.above y c (gP h)))
 .unfold start;show _=N.length;rw[jQ,cZ,List.length_replicate];omega
theorem zV{CX:mQ}{P:Program}{w:World}{K:FgA}{mg:Str->Option Value}{base:Heap}{k:Nat}{f:Addr}{name qual:Str}{params:Arguments}{body:List Stmt}{scope:Scope}{dV kV doc pm cdv ct oc:Value}{an od:Option Addr}{osl:Array (Option Value)}{N ps:List Str}{sp:Sp}(lk:K.lookup f=some ⟨oc,od,.func (PySem.W.fnOf name qual params body scope dV kV doc pm an cdv ct),osl⟩)(hcd:PySem.W.codeIn K cdv qual=true)(S:jA N ps scope)(len:∀vs H Q E,sp vs H Q E->vs.length=ps.length)(hbody:∀(A:Around) (outer:List Env) (s:Shared) (H:Hp) (vs:List V) (Q:VK) (E:XK),aU k (A.deeper (envOfC qual scope s.heap.objs.size f cdv))->sp vs H Q E ->
  ∃t,fM (jR CX P w K mg base N qual scope f cdv A outer s H E) body t/\t { nx:=λ_ H'=>Q .non H',rt:=Q } (start N vs) H):
 bO P w K mg base CX (k+1) f (PySem.W.fnOf name qual params body scope dV kV doc pm an cdv ct) ps sp:=by
 refine⟨len,λA outer s H args us vs Q E hr e0 hb r hsp=>?_⟩;have hl:=len _ _ _ _ hsp;have KX:K.In s.heap:=e0.mod.kin.keeps λb o e=>(e0.bs b o e).1;have lim:s.heap.NoLimit:=e0.mod.nolimit.keeps λb o e=>(e0.bs b o e).1;have hkind:∀y∈ps.zip us,scope.names.lookup y.1=some .local\/(scope.names.lookup y.1=some .cell/\((cellsFrom (s.heap.objs.size+1) scope.names []).lookup y.1).isSome=true):=fun⟨n,v⟩ hy=>by
  rcases S.par n (List.of_mem_zip hy).1 with q|q
  .exact .inl q
  .exact .inr ⟨q,PySem.W.cellsFrom_some _ _ _ (.inl q)⟩
 refine codeAny_call_function hr.depth (KX _ _ lk) rfl S.co S.gen rfl (PySem.W.codeRec_of KX hcd) (hb _ _ _ _ ?_);refine wpAny_newFunctionEnv_cells S.kind hkind λenv he s1 x=>?_;subst he;refine⟨lim.keeps x.toInCall.keep,codeAny_func ?_⟩;obtain⟨t,ht,hq⟩:=hbody A outer s H vs Q E (hr.deeper _) hsp;have I:Inv (jR CX P w K mg base N qual scope f cdv A outer s H E) [] (start N vs) H s1:=Vj S hr.hd e0 hl r x;refine iw (ht [] s1 (start N vs) H _ I hq) (λfl s' hs=>?_) λe s' hs=>hs;have fin:∀{σ':St} {H':Hp} {v:V} {u:Value},Inv (jR CX P w K mg base N qual scope f cdv A outer s H E) [] σ' H' s'->RelV v u->Q v H'->CE outer P w H s Q u s' :=
  λ{σ' H' v u} J rv q=>⟨v,H',J.os,J.bare,J.base,J.hok,rv,q⟩
 cases fl with
 |ret u =>
  obtain⟨v,σ',H',J,rv,q⟩:=hs;exact fin J rv q
 |next =>
  obtain⟨σ',H',J,q⟩:=hs;exact fin (v:=V.non) (u:=Value.none) J rfl q
 |brk =>
  obtain⟨_,_,_,q⟩:=hs;exact False.elim q
 |cont =>
  obtain⟨_,_,_,q⟩:=hs;exact False.elim q
section
variable {X:Cx}{x:Str}{p pos:Pos}{e:Expr}{es:List Expr}{t:TA}{id T:String}{r:List V->Hp->VK->Prop}
noncomputable def Og(r:List V->Hp->VK->Prop)(t:TA):TE:=λσ H Q=>t σ H λvs H1=>r vs H1 Q
theorem Ul(hc:gQ X (.builtin id) r)(hg:Gl X x)(hm:X.mg x=none)(hv:bootBuiltins x=some (.builtin id))(ha:PA X (e::es) t)(hn:x ≠ "__name__" := by decide)(hdb:(x==("__debug__" : Str))=false:=by decide)(he:starEach (e::es) X.env=(false,eval e X.env)::starEach es X.env:=by rfl)(hpl:(backTo pos (starEach es X.env)).any (·.1)=false:=by rfl):PE X (.Call (.Name x p) (e::es) [] pos) (Og r t):=by intro pins s σ H Q I h;refine wpAny_Call_Name_kw (tH I hg hm hv ?_ hn hdb);exact PyProof.Rows.callWith_builtin1 (bK (ha pos pins s σ H _ I h) λus s1 ⟨vs,H1,I1,r1,q1⟩=>hc pins s1 σ H1 vs us Q I1 r1 q1) he hpl
theorem zkf(hc:gQ X (.type T) r)(hg:Gl X x)(hm:X.mg x=none)(hv:bootBuiltins x=some (.type T))(ha:PA X (e::es) t)(hn:x ≠ "__name__" := by decide)(hdb:(x==("__debug__" : Str))=false:=by decide)(he:starEach (e::es) X.env=(false,eval e X.env)::starEach es X.env:=by rfl)(hpl:(backTo pos (starEach es X.env)).any (·.1)=false:=by rfl):PE X (.Call (.Name x p) (e::es) [] pos) (Og r t):=by intro pins s σ H Q I h;refine wpAny_Call_Name_kw (tH I hg hm hv ?_ hn hdb);exact PyProof.Rows.callWith_type1 (bK (ha pos pins s σ H _ I h) λus s1 ⟨vs,H1,I1,r1,q1⟩=>hc pins s1 σ H1 vs us Q I1 r1 q1) he hpl
end
end L2
namespace HT
open PySem PyProof.Rows
section
variable {prog:Program}{w:World}{A:Around}{E:Value->Shared->Prop}{s:Shared}
theorem zpD{t b:Addr}{vs ws:List Value}{Q:Value->Shared->Prop}(ht:IsTup s.heap t vs.toArray)(hb:IsTup s.heap b ws.toArray)(hv:vs≠[])(h1:ws=[]->Q (.ref t) s)(h2:ws≠[]->Q (.ref s.heap.objs.size) { s with heap:=s.heap.push { cls := .type "tuple",data := .seq (vs++ws).toArray } })(hsz:vs.length+ws.length<=sizeLine):wpAny (model prog w) A (binaryOp .Add (.ref t) (.ref b)) Q E s:=by
 obtain⟨⟨cls,dd,data,sl⟩,ho,hc,n,hd⟩:=id ht;obtain⟨⟨cls2,dd2,data2,sl2⟩,ho2,hc2,n2,hd2⟩:=id hb;simp only at hc hd hc2 hd2;subst hc hd hc2 hd2;have e:vs.toArray++ws.toArray=(vs++ws).toArray:=by simp
 by_cases hw:ws=[]
 .exact concat_meets ⟨_,ho,rfl⟩ ⟨_,ho2,rfl⟩ noFill_tuple_add seq_tuple_add PySem.F.slot_tuple_add PySem.F.entry_tuple_add (PySem.F.args_tuple_add_2 _ _)
   (tuple_addW1 t b vs.toArray ws.toArray n n2 dd dd2 sl sl2 (by simpa using hv) (by simp[hw])) ⟨ho,ho2,h1 hw⟩
 .refine concat_meets ⟨_,ho,rfl⟩ ⟨_,ho2,rfl⟩ noFill_tuple_add seq_tuple_add PySem.F.slot_tuple_add PySem.F.entry_tuple_add (PySem.F.args_tuple_add_2 _ _)
   (tuple_addW2 t b vs.toArray ws.toArray n n2 dd dd2 sl sl2 (by simpa using hv) (by simpa using hw) (by rw[dM,dM];exact hsz)) ⟨ho,ho2,?_⟩
  rw[e];exact h2 hw
noncomputable def sIx(n d:Nat):Option Int->Nat
 |none=>d
 |some v=>if v<0 then(v+(n:Int)).toNat else min v.toNat n
def zh9(n d:Nat):sIx n d none=d:=rfl
theorem zjV(n d k:Nat):sIx n d (some (k:Int))=min k n:=by show(if(k:Int)<0 then((k:Int)+(n:Int)).toNat else min (k:Int).toNat n)=min k n;rw[if_neg (by omega),Int.toNat_natCast]
theorem zqI(n d:Nat)(hd:d<=n)(o:Option Int):sIx n d o<=n:=by
 cases o with
 |none=>exact hd
 |some v =>
  show(if v<0 then(v+(n:Int)).toNat else min v.toNat n)<=n;by_cases hv:v<0
  .rw[if_pos hv];omega
  .rw[if_neg hv];exact Nat.min_le_right _ _
theorem RK(v:Int)(n d:Nat):(if v<0 then max (v+(n:Int)) 0 else min v (n:Int))=((sIx n d (some v):Nat):Int):=by
 show(if v<0 then max (v+(n:Int)) 0 else min v (n:Int))=(((if v<0 then(v+(n:Int)).toNat else min v.toNat n):Nat):Int)
 by_cases hv:v<0
 .simp only[if_pos hv];omega
 .simp only[if_neg hv];omega
theorem zjt(lo hi:Option Int)(n:Nat):Builtin.Slice.sliceAdjust lo hi 1 (n:Int)=(((sIx n 0 lo:Nat):Int),((sIx n n hi:Nat):Int)):=by
 have h1:¬((1:Int)<0):=by omega
 unfold Builtin.Slice.sliceAdjust;simp only[h1,if_false];refine Prod.ext ?_ ?_
 .cases lo with
  |none=>rfl
  |some v=>exact RK v n 0
 .cases hi with
  |none=>rfl
  |some v=>exact RK v n n
theorem zi5(i j:Nat):Builtin.Slice.slicePlaces (i:Int) (j:Int) 1=j - i:=by
 unfold Builtin.Slice.slicePlaces;have h1:(1:Int)>0:=by omega
 simp only[h1,if_true,Int.ediv_one];split<;>omega
theorem Wg{v:Value}{o:Option Int}{Q:Option Int->Shared->Prop}(p:IsPart v o)(h:Q o s):wpAny (model prog w) A (Builtin.Slice.slicePartIndex v) Q E s:=by
 cases p with
 |none=>exact slicePart_none h
 |int i t=>exact slicePart_int h
theorem zc5{sl:Addr}{vl vu:Value}{lo hi:Option Int}{n:Nat}{Q:Int×Int×Nat->Shared->Prop}(hs:s.heap.IsSliceOf sl vl vu .none)(pl:IsPart vl lo)(pu:IsPart vu hi)(h:Q (((sIx n 0 lo:Nat):Int),1,sIx n n hi - sIx n 0 lo) s):wpAny (model prog w) A (Builtin.Slice.sliceApplied (.ref sl) (pure (n:Int))) Q E s:=by obtain⟨os,hos,hcs,hds⟩:=id hs;unfold Builtin.Slice.sliceApplied Builtin.Slice.sliceFields;refine aF (aF (wpAny_field hos hds (x:=vl) rfl (aF (wpAny_field hos hds (x:=vu) rfl (aF (wpAny_field hos hds (x := .none) rfl (bT ?_)))))));refine aF (slicePart_none ?_);show wpAny _ _ (if((1:Int)==0)=true then _ else _) _ _ s;rw[if_neg (by decide)];refine aF (Wg pl (aF (Wg pu (aF (bT ?_)))));show wpAny _ _ (match Builtin.Slice.sliceAdjust lo hi 1 (n:Int) with|(lo,hi)=>pure (lo,(1:Int),Builtin.Slice.slicePlaces lo hi 1)) _ _ s;rw[zjt lo hi n];show wpAny _ _ (pure (((sIx n 0 lo:Nat):Int),(1:Int),Builtin.Slice.slicePlaces ((sIx n 0 lo:Nat):Int) ((sIx n n hi:Nat):Int) 1)) _ _ s;rw[zi5];exact bT h
theorem zma(xs:Array Value)(i k:Nat):((List.range k).filterMap fun(m:Nat)=>xs[((i:Int)+(m:Int)*1).toNat]?).toArray=((xs.toList.drop i).take k).toArray:=by
 have e:(fun(m:Nat)=>xs[((i:Int)+(m:Int)*1).toNat]?)=λm=>xs[i+m]?:=by
  funext m;have:((i:Int)+(m:Int)*1).toNat=i+m:=by omega
  rw[this]
 rw[e];have:=pick_run xs i k;rw[List.filterMap_map] at this;have e2:((λx=>xs[x]?) ∘ λx=>i+x)=λm=>xs[i+m]?:=rfl;rw[e2] at this;rw[this]
theorem zec{t sl:Addr}{items:Array Value}{vl vu:Value}{lo hi:Option Int}{Q:Value->Shared->Prop}(ht:IsTup s.heap t items)(hs:s.heap.IsSliceOf sl vl vu .none)(pl:IsPart vl lo)(pu:IsPart vu hi)(hw:¬(sIx items.size 0 lo=0/\sIx items.size items.size hi=items.size))(h:Q (.ref s.heap.objs.size) { s with heap:=s.heap.push { cls := .type "tuple",data := .seq ((items.toList.drop (sIx items.size 0 lo)).take (sIx items.size items.size hi - sIx items.size 0 lo)).toArray } })(hsz:items.size<=sizeLine):wpAny (model prog w) A (getItem (.ref t) (.ref sl)) Q E s:=by
 have ir:sizeOk (.seq ((items.toList.drop (sIx items.size 0 lo)).take (sIx items.size items.size hi - sIx items.size 0 lo)).toArray):=by show((items.toList.drop (sIx items.size 0 lo)).take (sIx items.size items.size hi - sIx items.size 0 lo)).toArray.size<=sizeLine;rw[dM,xT,List.length_drop,Array.length_toList];omega
 have hj:sIx items.size items.size hi<=items.size:=zqI _ _ (bZ _) hi;obtain⟨os,hos,hcs,hds⟩:=id hs;have hTs:s.TypeIs (.ref sl) "slice" := ⟨os,hos,hcs⟩
 unfold getItem
 try with_reducible refine wpAny_holding ?_
 first|refine aF (bT ?_)|skip
 refine aF (wpAny_sequenceKey ht.typeIs (by decide) ?_);refine aF (wpAny_callSpecial?_slot (name:=Str.ofString "__getitem__") ht.typeIs PyProof.Rows.slot_tuple_getitem
  (wpAny_call_entry PyProof.Rows.slot_tuple_getitem ht.typeIs entry_tuple_getitem ?_ (args_tuple_getitem _ _)))
 show wpAny _ _ (Builtin.Tuple.tupleItemsOf (.ref t) >>= _) _ _ s;refine aF (tupleItemsOf_ ht ?_);refine aF (wpAny_typeOf hTs ?_);rw[if_pos (by decide)];refine aF (zc5 hs pl pu ?_);have hno:¬((((sIx items.size 0 lo:Nat):Int)==0&&(1:Int)==1&&(sIx items.size items.size hi - sIx items.size 0 lo)==items.size)=true):=by intro q;rw[cL,cL] at q;have q1:((sIx items.size 0 lo:Nat):Int)=0:=eq_of_beq q.1.1;have q2:sIx items.size items.size hi - sIx items.size 0 lo=items.size:=eq_of_beq q.2;exact hw ⟨by omega,by omega⟩
 show wpAny _ _ (if(((sIx items.size 0 lo:Nat):Int)==0&&(1:Int)==1&&(sIx items.size items.size hi - sIx items.size 0 lo)==items.size)=true then _ else _) _ _ s;rw[if_neg hno,zma]
 first
  |exact aF (m:=Builtin.Tuple.tupleExact _) (wpAny_newObj_type (bT ⟨_,rfl,bT h⟩) ir)
  |exact aF (m:=Builtin.Tuple.tupleExact _) (wpAny_newObj_type (aF (bT (bT ⟨_,rfl,bT h⟩))) ir)
  |exact aF (aF (m:=Builtin.Tuple.tupleExact _) (wpAny_newObj_type (bT (bT ⟨_,rfl,bT h⟩)) ir))
  |exact aF (aF (m:=Builtin.Tuple.tupleExact _) (wpAny_newObj_type (bT ⟨_,rfl,bT h⟩) ir))
end
end HT
namespace L2
open PySem PySem.Spec PyProof.Rows
noncomputable abbrev TO:=St->Hp->(Option Int->Hp->Prop)->Prop
noncomputable def PO(X:Cx)(e:Option Expr)(t:TO):Prop :=
 ∀(pins:List (Addr×Obj)) (s:Shared) (σ:St) (H:Hp) (Q:Option Int->Hp->Prop),Inv X pins σ H s->t σ H Q ->
  wpAny (model X.prog X.w) X.A (evalPart e X.env) (λu s'=>∃o H',Inv X pins σ H' s'/\IsPart u o/\Q o H') X.xe s
noncomputable def qX:TO:=λ_ H Q=>Q none H
noncomputable def Bv(t:TE):TO:=λσ H Q=>t σ H λx H1=>∃i,x = .int i/\Q (some i) H1
section
variable {X:Cx}{e:Expr}{te:TE}{lo hi:Option Expr}{tl th:TO}{pos p2:Pos}
def zos:PO X none qX:=by intro pins s σ H Q I h;rw[evalPart_none];exact bT ⟨none,H,I,.none,h⟩
theorem zor(h:PE X e te):PO X (some e) (Bv te):=by intro pins s σ H Q I hw;rw[evalPart_some];refine bK (h pins s σ H _ I hw) λu s1 ⟨x,H1,I1,r1,q1⟩=>?_;obtain⟨i,rfl,q⟩:=q1;obtain⟨t,rfl⟩:=r1;exact⟨some i,H1,I1,.int i t,q⟩
noncomputable def qb(X:Cx)(r:V->Option Int->Option Int->Hp->VK->Prop):Prop :=
 ∀(pins:List (Addr×Obj)) (s:Shared) (σ:St) (H:Hp) (x:V) (v vl vu:Value) (lo hi:Option Int) (sl:Addr) (Q:VK),Inv X pins σ H s->RelV x v->s.heap.IsSliceOf sl vl vu .none->IsPart vl lo->IsPart vu hi->r x lo hi H Q ->
  ∃T id,typeLookup (.type T) "__getitem__" = pure (some (.builtin id))/\s.TypeIs v T/\wpAny (model X.prog X.w) X.A (getItem v (.ref sl)) (EP X pins σ Q) X.xe s
theorem qb.or{r r':V->Option Int->Option Int->Hp->VK->Prop}(h:qb X r)(h':qb X r'):qb X (λx lo hi H Q=>r x lo hi H Q\/r' x lo hi H Q):=by
 intro pins s σ H x v vl vu lo hi sl Q I rx hs pl pu q;rcases q with q|q
 .exact h pins s σ H x v vl vu lo hi sl Q I rx hs pl pu q
 .exact h' pins s σ H x v vl vu lo hi sl Q I rx hs pl pu q
noncomputable def tSl(r:V->Option Int->Option Int->Hp->VK->Prop)(te:TE)(tl th:TO):TE:=λσ H Q=>te σ H λx H1=>tl σ H1 λl H2=>th σ H2 λu H3=>r x l u H3 Q
theorem zmd{r:V->Option Int->Option Int->Hp->VK->Prop}(hr:qb X r)(he:PE X e te)(hl:PO X lo tl)(hu:PO X hi th):PE X (.Subscript e (.Slice lo hi none p2) pos) (tSl r te tl th):=by intro pins s σ H Q I h;refine Subscript_ (bK (he pins s σ H _ I h) λv s1 ⟨x,H1,I1,r1,q1⟩=>?_);refine wpAny_Slice (bK (hl pins s1 σ H1 _ I1 q1) λvl s2 ⟨l,H2,I2,pl,q2⟩=>bK (hu pins s2 σ H2 _ I2 q2) λvu s3 ⟨u,H3,I3,pu,q3⟩=>?_);rw[evalPart_none];refine bT ?_;have I4:Inv X pins σ H3 { s3 with heap:=s3.heap.push { cls := .type "slice",data := .fields #[vl,vu,.none] } }:=I3.kept (t':=s3.toks) λb ob q=>cX _ q;obtain⟨T,id,hT,ht,hg⟩:=hr pins { s3 with heap:=s3.heap.push { cls := .type "slice",data := .fields #[vl,vu,.none] } } σ H3 x v vl vu l u s3.heap.objs.size Q I4 r1 (Heap.IsSliceOf.new ..) pl pu q3;show wpAny (model X.prog X.w) X.A (subscriptTail e (.Slice lo hi none p2) v (.ref s3.heap.objs.size)) (EP X pins σ Q) X.xe { s3 with heap:=s3.heap.push { cls := .type "slice",data := .fields #[vl,vu,.none] } };exact tail_any (ops:=[.ref s3.heap.objs.size,v]) ht hT hg (by with_unfolding_all rfl)
noncomputable def ql(xs:List V)(lo hi:Option Int):List V:=(xs.drop (HT.sIx xs.length 0 lo)).take (HT.sIx xs.length xs.length hi - HT.sIx xs.length 0 lo)
def VP(xs:List V)(lo hi:Option Int):(ql xs lo hi).length<=xs.length:=by unfold ql;rw[xT,List.length_drop];omega
noncomputable def Cp(K:FgA):V->Option Int->Option Int->Hp->VK->Prop:=λx lo hi H Q=>∃a xs,x = .ref a/\dG K H a xs /\
 ¬(HT.sIx xs.length 0 lo=0/\HT.sIx xs.length xs.length hi=xs.length)/\∀p,H p=none->Q (.ref p) (upd H p (.tup (ql xs lo hi)))
theorem ZR:qb X (Cp X.K):=by
 intro pins s σ H x v vl vu lo hi sl Q I rx hs pl pu h;obtain⟨a,xs,rfl,hx,hw,q⟩:=h;cases rx;obtain⟨its,r,ht,hz⟩:=I.tuple hx;have hlen:its.toArray.size=xs.length:=by rw[dM];exact r.length.symm
 refine⟨"tuple",_,PyProof.Rows.slot_tuple_getitem.lookup,ht.typeIs,?_⟩;refine HT.zec ht hs pl pu (by rw[hlen];exact hw) ?_ (by rw[hlen];exact hz);rw[hlen];refine⟨.ref s.heap.objs.size,_,I.laid (t':=s.toks) (o := .tup (ql xs lo hi)) (λb ob q=>cX _ q) (bZ _) ?_,rfl,q _ (I.hok.fresh (bZ _))⟩;exact⟨Nat.le_trans (VP xs lo hi) hz,_,(r.drop (HT.sIx xs.length 0 lo)).take (HT.sIx xs.length xs.length hi - HT.sIx xs.length 0 lo),IsTup.new _ _⟩
noncomputable def Cv(K:FgA):R2:=λx y H Q=>∃a b xs ys,x = .ref a/\y = .ref b/\dG K H a xs/\dG K H b ys/\xs≠[]/\xs.length+ys.length<=sizeLine /\
 (ys=[]->Q (.ref a) H)/\(ys≠[]->∀p,H p=none->Q (.ref p) (upd H p (.tup (xs++ys))))
def Vals.nil_iff{xs:List V}{us:List Value}(r:Vals xs us):us=[]↔xs=[]:=by
 cases r with
 |nil=>simp
 |cons _ _=>simp
theorem zoT:fu X (binaryOp .Add) (Cv X.K):=by intro pins s σ H x y v u Q I rx ry h;obtain⟨a,b,xs,ys,rfl,rfl,ha,hb,hx,hz,q1,q2⟩:=h;cases rx;cases ry;obtain⟨its,r1,p1,_⟩:=I.tuple ha;obtain⟨its2,r2,p2,_⟩:=I.tuple hb;refine HT.zpD p1 p2 (λz=>hx (r1.nil_iff.mp z)) (λz=>⟨.ref a,H,I,rfl,q1 (r2.nil_iff.mp z)⟩) (λz=>?_) (by rw[<-r1.length,<-r2.length];exact hz);refine⟨.ref s.heap.objs.size,_,I.laid (t':=s.toks) (o := .tup (xs++ys)) (λb ob q=>cX _ q) (bZ _) ?_,rfl,q2 (λw=>z (r2.nil_iff.mpr w)) _ (I.hok.fresh (bZ _))⟩;exact⟨by rw[jQ];exact hz,_,r1.append r2,IsTup.new _ _⟩
end
noncomputable def uF(n:Nat)(i:Int):Option Nat:=if 0<=i then(if i<n then some i.toNat else none) else if -(n:Int)<=i then some (i+n).toNat else none
noncomputable def gq{α:Type}(xs:List α)(i:Int):Option α:=(uF xs.length i).bind λj=>xs[j]?
theorem zo2{n:Nat}{i:Int}{j:Nat}(h:uF n i=some j):seqIndex? i n=some j/\j<n /\ -(n:Int)<=i/\i<n:=by
 unfold uF at h;by_cases h0:0<=i
 .rw[if_pos h0] at h;by_cases h1:i<n
  .rw[if_pos h1] at h;have e:i.toNat=j:=Option.some.inj h;exact⟨by rw[seqIndex_of h0 h1,e],by omega,by omega,h1⟩
  .rw[if_neg h1] at h;cases h
 .rw[if_neg h0] at h;by_cases h1 : -(n:Int)<=i
  .rw[if_pos h1] at h;have e:(i+n).toNat=j:=Option.some.inj h;exact⟨by rw[seqIndex_neg (by omega) h1,e],by omega,h1,by omega⟩
  .rw[if_neg h1] at h;cases h
theorem JT{α:Type}{xs:List α}{i:Int}{v:α}(h:gq xs i=some v):∃j,seqIndex? i xs.length=some j/\xs[j]?=some v/\j<xs.length /\ -(xs.length:Int)<=i/\i<xs.length:=by
 unfold gq at h;cases e:uF xs.length i with
 |none=>rw[e] at h;cases h
 |some j =>
  rw[e] at h;obtain⟨h1,h2,h3,h4⟩:=zo2 e;exact⟨j,h1,h,h2,h3,h4⟩
theorem JV{α:Type}{xs:List α}{j:Nat}{v:α}(h:xs[j]?=some v):gq xs (j:Int)=some v:=by
 have hj:j<xs.length:=(eV.mp h).1;have e:uF xs.length (j:Int)=some j:=by unfold uF;rw[if_pos (by omega),if_pos (by omega)];simp
 unfold gq;rw[e];exact h
def Ij(b:Expr):Prop:=∀o i,subscripted b false o i=operate [o,i] (getItem o i)
noncomputable def DK(X:Cx)(r:R2):Prop :=
 ∀(value slice:Expr) (pins:List (Addr×Obj)) (s:Shared) (σ:St) (H:Hp) (x y:V) (v u:Value) (Q:VK),Inv X pins σ H s->RelV x v->RelV y u->r x y H Q ->
  subscripted slice false v u=operate [v,u] (getItem v u)->wpAny (model X.prog X.w) X.A (subscriptTail value slice v u) (EP X pins σ Q) X.xe s
noncomputable def o6(X:Cx)(id:String)(r:V->List V->Hp->VK->Prop):Prop :=
 ∀(pins:List (Addr×Obj)) (s:Shared) (σ:St) (H:Hp) (x:V) (xs:List V) (v:Value) (us:List Value) (Q:VK),Inv X pins σ H s->RelV x v->Vals xs us->r x xs H Q ->
  wpAny (model X.prog X.w) X.A (call (.builtin id) (v::us)) (EP X pins σ Q) X.xe s
section
variable {X:Cx}{a b:Expr}{ta tb:TE}{pos:Pos}
theorem QS{r:R2}(hr:DK X r)(ha:PE X a ta)(hb:PE X b tb)(hs:Ij b):PE X (.Subscript a b pos) (zm r ta tb):=by intro pins s σ H Q I h;exact Subscript_ (xr ha hb I h λv u s2 x y H2 I2 rx ry q=>hr a b pins s2 σ H2 x y v u Q I2 rx ry q (hs _ _))
noncomputable def Cr(K:FgA):R2:=λx y H Q=>∃p xs i v,x = .ref p/\y = .int i/\cQ K H p xs/\gq xs i=some v/\Q v H
noncomputable def Oz(K:FgA):R2:=λx y H Q=>∃p xs i v,x = .ref p/\y = .int i/\dG K H p xs/\gq xs i=some v/\Q v H
noncomputable def OD:R2:=λx y H Q=>∃z i c,x = .str z/\y = .int i/\z.length<=sizeLine/\gq z.cps.toList i=some c/\Q (.str ⟨#[c]⟩) H
theorem JB:DK X (Cr X.K):=by
 intro value slice pins s σ H x y v u Q I rx ry h hs;obtain⟨p,xs,i,z,rfl,rfl,hq,he,q⟩:=h;cases rx;obtain⟨t,rfl⟩:=ry;obtain⟨its,r,pl,hz⟩:=I.list hq;obtain⟨j,h1,h2,h3,h4,h5⟩:=JT he;obtain⟨w,ew,fj⟩:=r.get h2;have hl:=r.length;have hn:=yj;have fin:EP X pins σ Q w s:=⟨z,H,I,fj,q⟩
 by_cases h0:0<=i
 .have hj:i.toNat=j:=by rw[seqIndex_of h0 h5] at h1;exact Option.some.inj h1
  exact item_listR pl.isList h0 (by omega) (by rw[hj];simpa using ew) fin hs
 .have hj:(i+(its.toArray.size:Int)).toNat=j:=by rw[seqIndex_neg (by omega) h4] at h1;rw[dM,<-hl];exact Option.some.inj h1
  exact subscriptTail_builtinR (x:=w) pl.isList.typeIs slot_list_getitem.lookup
   (wpAny_getItem_list_neg (Q:=λr s'=>r=w/\EP X pins σ Q r s') pl.isList (by omega) (by rw[dM]<;>omega) (by omega) (by rw[hj];simpa using ew) ⟨rfl,fin⟩) hs
theorem Yz:DK X (Oz X.K):=by
 intro value slice pins s σ H x y v u Q I rx ry h hs;obtain⟨p,xs,i,z,rfl,rfl,hq,he,q⟩:=h;cases rx;obtain⟨t,rfl⟩:=ry;obtain⟨its,r,pl,hz⟩:=I.tuple hq;obtain⟨j,h1,h2,h3,h4,h5⟩:=JT he;obtain⟨w,ew,fj⟩:=r.get h2;have hl:=r.length;have hn:=yj;have fin:EP X pins σ Q w s:=⟨z,H,I,fj,q⟩
 exact subscriptTail_builtinR (x:=w) pl.typeIs slot_tuple_getitem.lookup
  (getItem_tuple (j:=j) (Q:=λr s'=>r=w/\EP X pins σ Q r s') pl (by omega) (by omega) (by rw[dM,<-hl];exact h1) (by simpa using ew) ⟨rfl,fin⟩) hs
theorem Yy:DK X OD:=by
 intro value slice pins s σ H x y v u Q I rx ry h hs;obtain⟨z,i,c,rfl,rfl,hz,he,q⟩:=h;obtain⟨t,rfl⟩:=rx;obtain⟨t',rfl⟩:=ry;obtain⟨j,h1,h2,h3,h4,h5⟩:=JT he;have hl:z.cps.toList.length=z.length:=by simp[Str.length]
 rw[hl] at h1 h4 h5;have hn:=yj;exact tail_any (typeIs_str s z t) slot_str_getitem.lookup (getItem_str (c:=c) (by
  have e1:decide (i < -(2 ^ 63:Int))=false:=decide_eq_false (by omega);have e2:decide (i ≥ 2 ^ 63)=false:=decide_eq_false (by omega);rw[e1,e2,Bool.or_false]) (by rw[h1];simpa using h2) ⟨.str ⟨#[c]⟩,H,I.tok _,⟨_,rfl⟩,q⟩) hs
theorem zgA(lo hi:Option Int)(n:Nat):(sliceBounds lo hi none n).1=((HT.sIx n 0 lo:Nat):Int)/\(sliceBounds lo hi none n).2.1=((HT.sIx n n hi:Nat):Int)/\(sliceBounds lo hi none n).2.2=1:=by
 refine⟨?_,?_,rfl⟩
 .cases lo with
  |none=>simp[sliceBounds,HT.sIx]
  |some i =>
   simp only[sliceBounds,HT.sIx,Option.getD_none,show(1:Int)>0 by decide,if_true];by_cases h:i<0
   .simp only[h,if_true]<;>omega
   .simp only[h,if_false]<;>omega
 .cases hi with
  |none=>simp[sliceBounds,HT.sIx]
  |some i =>
   simp only[sliceBounds,HT.sIx,Option.getD_none,show(1:Int)>0 by decide,if_true];by_cases h:i<0
   .simp only[h,if_true]<;>omega
   .simp only[h,if_false]<;>omega
theorem zf5(its:List Value)(lo hi:Option Int):slicePick its.toArray lo hi none=((its.drop (HT.sIx its.length 0 lo)).take (HT.sIx its.length its.length hi - HT.sIx its.length 0 lo)).toArray:=by obtain⟨h1,h2,h3⟩:=zgA lo hi its.toArray.size;unfold slicePick;rw[h1,h2,h3];simp only[sliceRange_one,pick_run,dM]<;>rfl
noncomputable def Cq(K:FgA):V->Option Int->Option Int->Hp->VK->Prop:=λx lo hi H Q=>∃a xs,x = .ref a/\cQ K H a xs/\∀p,H p=none->Q (.ref p) (upd H p (.lst (ql xs lo hi)))
theorem zn5:qb X (Cq X.K):=by intro pins s σ H x v vl vu lo hi sl Q I rx hs pl pu h;obtain⟨a,xs,rfl,hx,q⟩:=h;cases rx;obtain⟨its,r,ht,hz⟩:=I.list hx;have hlen:=r.length;refine⟨"list",_,slot_list_getitem.lookup,ht.isList.typeIs,?_⟩;refine wpAny_getItem_list_slice ht.isList hs pl pu .none (by simp) ?_ (by rw[dM]<;>omega);rw[zf5,<-hlen];refine⟨.ref s.heap.objs.size,_,I.laid (t':=s.toks) (o := .lst (ql xs lo hi)) (λb ob q=>cX _ q) (bZ _) ?_,rfl,q _ (I.hok.fresh (bZ _))⟩;exact⟨Nat.le_trans (VP xs lo hi) hz,_,0,(r.drop (HT.sIx xs.length 0 lo)).take (HT.sIx xs.length xs.length hi - HT.sIx xs.length 0 lo),gB _ rfl⟩
theorem Wq:gQ X (.builtin "len") (λxs H Q=>∃p ys,xs=[.ref p]/\(cQ X.K H p ys\/dG X.K H p ys)/\Q (.int ys.length) H):=by
 intro pins s σ H xs us Q I r h;obtain⟨p,ys,rfl,hq,q⟩:=h;obtain⟨u,rfl,rx⟩:=pL r;cases rx;have hn:=yj;rcases hq with hq|hq
 .obtain⟨its,r',pl,hz⟩:=I.list hq;have hlen:=r'.length;exact Calls.call_len_list pl.isList (by simp only[dM]<;>omega) ⟨.int ys.length,H,I.tok _,⟨s.toks+1,by rw[dM,hlen]⟩,q⟩
 .obtain⟨its,r',pl,hz⟩:=I.tuple hq;have hlen:=r'.length;exact len_tuple pl (by simp only[dM]<;>omega) ⟨.int ys.length,H,I.tok _,⟨s.toks+1,by rw[dM,hlen]⟩,q⟩
theorem zg3:gQ X (.builtin "len") (λxs H Q=>∃z,xs=[.str z]/\z.length<=sizeLine/\Q (.int z.length) H):=by intro pins s σ H xs us Q I r h;obtain⟨z,rfl,hz,q⟩:=h;obtain⟨u,rfl,t,rfl⟩:=pL r;have hn:=yj;exact len_str (by omega) ⟨.int z.length,H,I.tok _,⟨_,rfl⟩,q⟩
theorem Wr:gQ X (.type "list") (λxs H Q=>∃p ys,xs=[.ref p]/\(cQ X.K H p ys\/dG X.K H p ys)/\∀l,H l=none->Q (.ref l) (upd H l (.lst ys))):=by
 intro pins s σ H xs us Q I r h;obtain⟨p,ys,rfl,hq,q⟩:=h;obtain⟨u,rfl,rx⟩:=pL r;cases rx;have fin:∀(its:List Value),Vals ys its->ys.length<=sizeLine->∀(h':Heap) (c':Nat),(∀b o',s.heap.get? b=some o'->h'.get? b=some o') ->
  h'.get? s.heap.objs.size=some { cls := .type "list",dict:=none,data := .seq its.toArray c',slots:=#[] }->EP X pins σ Q (.ref s.heap.objs.size) { s with heap:=h' }:=λits r' hz h' c' kp e =>
  ⟨.ref s.heap.objs.size,_,I.laid (t':=s.toks) kp (bZ _) (show bJ X.prog X.w _ h' _ (.lst ys) from⟨hz,its,c',r',e⟩),rfl,q _ (I.hok.fresh (bZ _))⟩
 rcases hq with hq|hq
 .obtain⟨its,r',pl,hz⟩:=I.list hq;have hlen:=r'.length;obtain⟨o,ho,hc,n,hd⟩:=pl.isList;exact call_list_seq p (.inl rfl) ho hc hd (λh' c' kp e=>fin its r' hz h' c' kp e) (by simp only[dM]<;>omega)
 .obtain⟨its,r',pl,hz⟩:=I.tuple hq;have hlen:=r'.length;obtain⟨o,ho,hc,n,hd⟩:=pl;exact call_list_seq p (.inr rfl) ho hc hd (λh' c' kp e=>fin its r' hz h' c' kp e) (by simp only[dM]<;>omega)
theorem W8:gQ X (.type "tuple") (λxs H Q=>∃p ys,xs=[.ref p]/\((cQ X.K H p ys/\∀l,H l=none->Q (.ref l) (upd H l (.tup ys)))\/(dG X.K H p ys/\Q (.ref p) H))):=by
 intro pins s σ H xs us Q I r h;obtain⟨p,ys,rfl,h⟩:=h;obtain⟨u,rfl,rx⟩:=pL r;cases rx;rcases h with⟨hq,q⟩|⟨hq,q⟩
 .obtain⟨its,r',pl,hz⟩:=I.list hq;have hlen:=r'.length;refine call_tuple_list pl.isList (λh' kp=>?_) (by simp only[dM]<;>omega);have I1:Inv X pins σ H { s with heap:=h' }:=I.kept (t':=s.toks) kp;have I2:Inv X pins σ (upd H h'.objs.size (.tup ys)) { s with heap:=h'.push { cls := .type "tuple",data := .seq its.toArray } } :=
   I1.laid (t':=s.toks) (λb o e=>cX _ e) (bZ _) (show bJ X.prog X.w _ _ _ (.tup ys) from⟨hz,its,r',IsTup.new _ _⟩)
  exact⟨.ref h'.objs.size,_,I2,rfl,q _ (I1.hok.fresh (bZ _))⟩
 .obtain⟨its,r',pl,hz⟩:=I.tuple hq;exact call_tuple_same pl ⟨.ref p,H,I,rfl,q⟩
noncomputable def N6(K:FgA)(T:String)(x:V)(H:Hp):Prop:=match x with
 |.str _=>T = "str"
 |.int _=>T = "int"
 |.ref p=>(T = "list" /\ ∃xs,cQ K H p xs)\/(T = "tuple" /\ ∃o,K.lookup p=some o/\o.cls = .type "tuple" /\ o.dict=none) \/
  (T = "dict" /\ ((∃kvs,H p=some (.dK kvs))\/∃kvs,H p=some (.dT kvs)))\/(T = "set" /\ ∃S n,H p=some (.set S n))
 |_=>False
theorem Rp{pins:List (Addr×Obj)}{σ:St}{H:Hp}{s:Shared}{T:String}{x:V}{v:Value}(I:Inv X pins σ H s)(r:RelV x v)(ty:N6 X.K T x H):
 s.TypeIs v T/\∀a,v = .ref a->∃ob,s.heap.get? a=some ob/\ob.dict=none:=by
 cases x with
 |str z =>
  obtain⟨t,rfl⟩:=r;cases (show T = "str" from ty);exact⟨typeIs_str s z t,λ_ e=>nomatch e⟩
 |int i =>
  obtain⟨t,rfl⟩:=r;cases (show T = "int" from ty);exact⟨typeIs_int s i t,λ_ e=>nomatch e⟩
 |ref p =>
  cases r;rcases ty with⟨rfl,xs,hq⟩|⟨rfl,o,hk,hc,hd⟩|⟨rfl,hk⟩|⟨rfl,S,n,hk⟩
  .obtain⟨its,_,pl,_⟩:=I.list hq;refine⟨pl.isList.typeIs,λa e=>?_⟩;cases e;obtain⟨o,n,e,c,hd,_⟩:=pl;exact⟨o,e,hd⟩
  .refine⟨⟨o,I.kIn p o hk,hc⟩,λa e=>?_⟩;cases e;exact⟨o,I.kIn _ o hk,hd⟩
  .have z:∃o,s.heap.get? p=some o/\o.ExactDict:=by
    rcases hk with⟨kvs,hk⟩|⟨kvs,hk⟩
    .obtain⟨_,_,_,_,o,_,_,e,ex,_⟩:=I.hok p _ hk;exact⟨o,e,ex⟩
    .obtain⟨_,_,_,_,o,_,_,e,ex,_⟩:=I.hok p _ hk;exact⟨o,e,ex⟩
   obtain⟨o,e,ex⟩:=z;refine⟨⟨o,e,ex.1⟩,λa e2=>?_⟩;cases e2;exact⟨o,e,ex.2.1⟩
  .obtain⟨o,_,_,_,e,ex,_⟩:=I.hok p _ hk;refine⟨⟨o,e,ex.1⟩,λa e2=>?_⟩;cases e2;exact⟨o,e,ex.2.1⟩
 |_=>exact False.elim ty
noncomputable def Oh(K:FgA)(T:String)(r:V->List V->Hp->VK->Prop)(to:TE):TE:=λσ H Q=>to σ H λx H1=>N6 K T x H1/\r x [] H1 Q
noncomputable def Oi(K:FgA)(T:String)(r:V->List V->Hp->VK->Prop)(to:TE)(t:TA):TE:=λσ H Q=>to σ H λx H1=>N6 K T x H1/\t σ H1 λxs H2=>r x xs H2 Q
variable {o e:Expr}{es:List Expr}{to:TE}{t:TA}{name:Str}{apos cpos:Pos}{T id:String}{r:V->List V->Hp->VK->Prop}
theorem Z7(pa:PlainAttrs T)(slot:Slot T name id)(hty:typeOf (.builtin id)=pure (.type "method_descriptor"))(hm:o6 X id r)(ho:PE X o to)(hbase:attributeBase o name X.env (eval o X.env)=eval o X.env:=by rfl)(hline:(apos.endLine==cpos.line)=true:=by rfl):PE X (.Call (.Attribute o name apos) [] [] cpos) (Oh X.K T r to):=by intro pins s σ H Q I h;refine wpAny_Call_method0_late hbase hline (bK (ho pins s σ H _ I h) λv s1 ⟨x,H1,I1,r1,ty,q1⟩=>?_);obtain⟨h1,h2⟩:=Rp I1 r1 ty;exact⟨T,id,pa,slot,hty,h1,h2,Calls.callWith_builtin rfl (PySem.evalArgs_none (hm pins s1 σ H1 x [] v [] Q I1 r1 .nil q1))⟩
theorem Jg(pa:PlainAttrs T)(slot:Slot T name id)(hty:typeOf (.builtin id)=pure (.type "method_descriptor"))(hm:o6 X id r)(ho:PE X o to)(ha:PA X (e::es) t)(hbase:attributeBase o name X.env (eval o X.env)=eval o X.env:=by rfl)(hfew:((backTo cpos (starEach (e::es) X.env)).all (λx => !x.1)&&(backToKw cpos (keywordEach [] X.env)).all (λx=>x.1.isSome)
  && decide ((e::es).length+([]:List Keyword).length+(if([]:List Keyword).isEmpty then 0 else 1)<30))=true:=by rfl)(hline:(apos.endLine==cpos.line)=true:=by rfl)(hs:starEach (e::es) X.env=(false,eval e X.env)::starEach es X.env:=by rfl)(hplain:(backTo cpos (starEach es X.env)).any (·.1)=false:=by rfl):
 PE X (.Call (.Attribute o name apos) (e::es) [] cpos) (Oi X.K T r to t):=by
 intro pins s σ H Q I h;refine wpAny_Call_method_late hbase hfew hline rfl (bK (ho pins s σ H _ I h) λv s1 ⟨x,H1,I1,r1,ty,q1⟩=>?_);obtain⟨h1,h2⟩:=Rp I1 r1 ty;refine⟨T,id,pa,slot,hty,h1,h2,?_⟩;have hA:=ha cpos pins s1 σ H1 _ I1 q1;rw[hs] at hA ⊢;refine Calls.callWith_builtin (by show(false||(backTo cpos (starEach es X.env)).any (·.1))=false;rw[hplain]<;>rfl) (Calls.evalArgs_plain ?_);exact bK hA λus s2 ⟨vs,H2,I2,r2,q2⟩=>hm pins s2 σ H2 x vs v us Q I2 r1 r2 q2
end
noncomputable def Hu(X:Cx)(id:String)(r:V->List V->Hp->VK->Prop):Prop :=
 ∀(pins:List (Addr×Obj)) (s:Shared) (σ:St) (H:Hp) (x:V) (xs:List V) (v:Value) (us:List Value) (Q:VK),Inv X pins σ H s->RelV x v->Vals xs us->r x xs H Q ->
  wpAny (model X.prog X.w) X.A (call (.builtin id) (v::us)) (EP X pins σ Q) X.xe s
def Vals.one:∀{x:V} {us:List Value},Vals [x] us->∃u,us=[u]/\RelV x u
 |_,_,.cons r .nil=>⟨_,rfl,r⟩
def Vals.zero:∀{us:List Value},Vals [] us->us=[]
 |_,.nil=>rfl
theorem Vals.dropLast{xs:List V}{us:List Value}(h:Vals xs us):Vals xs.dropLast us.dropLast:=by
 induction h with
 |nil=>exact .nil
 |cons r t ih =>
  cases t with
  |nil=>exact .nil
  |cons q t'=>exact .cons r ih
def Vals.eraseIdx:∀{xs:List V} {us:List Value} (i:Nat),Vals xs us->Vals (xs.eraseIdx i) (us.eraseIdx i)
 |_,_,_,.nil => .nil
 |_,_,0,.cons _ t=>t
 |_,_,i+1,.cons r t => .cons r (Vals.eraseIdx i t)
theorem zjo{α:Type}(l:List α):l.eraseIdx (l.length - 1)=l.dropLast:=by
 induction l with
 |nil=>rfl
 |cons a r ih =>
  cases r with
  |nil=>rfl
  |cons b r =>
   have e:(a::b::r).length - 1=((b::r).length - 1)+1:=by have h1:(a::b::r).length=r.length+2:=rfl;have h2:(b::r).length=r.length+1:=rfl;omega
   rw[e,List.eraseIdx_cons_succ,ih]
   all_goals rfl
def Vm{α:Type}:∀(l:List α) (i:Nat),(l.eraseIdx i).length<=l.length
 |[],_=>bZ _
 |_::_,0=>Nat.le_succ _
 |_::r,i+1=>Nat.succ_le_succ (Vm r i)
section
variable {X:Cx}{pins:List (Addr×Obj)}{σ:St}{H:Hp}{s:Shared}{l b:Addr}{xs ys zs:List V}
theorem Inv.lset{its its':List Value}{n:Nat}{f:Array Value->Array Value}{t':Nat}(I:Inv X pins σ H s)(hH:H l=some (.lst xs))(e:s.heap.get? l=some { cls := .type "list",data := .seq its.toArray n })(hf:f its.toArray=its'.toArray)(hv:Vals ys its')(hz:ys.length<=sizeLine):
 Inv X pins σ (upd H l (.lst ys)) { s with heap:=s.heap.update l (Obj.mapSeq f),toks:=t' }:=by
 have q:=PySem.IsL.update e f;rw[hf] at q;refine I.write (x:=l) (e:=l) (by rw[hH];exact trivial) (.inl rfl) (λb' u hb hu=>(Heap.get?_update_other s.heap (Obj.mapSeq f) (Ne.symm hb)).trans hu) ⟨_,q⟩ ?_;exact⟨hz,its',_,hv,q⟩
def Inv.lnew{its:List Value}{t':Nat}(I:Inv X pins σ H s)(hv:Vals ys its)(hz:ys.length<=sizeLine):
 Inv X pins σ (upd H s.heap.objs.size (.lst ys)) { s with heap:=s.heap.push { cls := .type "list",data := .seq its.toArray },toks:=t' } :=
 I.laid (λ_ _ q=>cX _ q) (bZ _) ⟨hz,its,0,hv,gB _ rfl⟩
def Inv.fresh(I:Inv X pins σ H s):H s.heap.objs.size=none:=I.hok.fresh (bZ _)
theorem Inv.lstM(I:Inv X pins σ H s)(hH:H l=some (.lst xs)):xs.length<=sizeLine/\∃(its:List Value) (n:Nat),Vals xs its/\xs.length=its.length/\s.heap.get? l=some { cls := .type "list",data := .seq its.toArray n }:=by obtain⟨z,its,n,r,e⟩:=I.hok l _ hH;exact⟨z,its,n,r,r.length,e⟩
def QF{n:Nat}(h:n<=sizeLine):Builtin.List.listTooLong n=false:=by unfold Builtin.List.listTooLong;exact decide_eq_false (by omega)
end
section
variable {X:Cx}
noncomputable def rm:V->List V->Hp->VK->Prop:=λx vs H Q=>∃l xs y,x = .ref l/\vs=[y]/\H l=some (.lst xs)/\xs.length<sizeLine/\Q .non (upd H l (.lst (xs++[y])))
theorem zkt:Hu X "list.append" rm:=by intro pins s σ H x vs v us Q I rx rv h;obtain⟨l,xs,y,rfl,rfl,hH,hz,q⟩:=h;cases rx;obtain⟨u,rfl,ru⟩:=rv.one;obtain⟨z,its,n,r,hl,e⟩:=I.lstM hH;refine call_meets F.slot_list_append ⟨_,e,rfl⟩ F.entry_list_append (F.args_list_append_2 _ _) (PySem.list_append l its.toArray n u (by rw[dM];omega)) ⟨e,?_⟩;refine⟨.non,_,I.lset (its':=its++[u]) hH e (by simp) (r.append (.cons ru .nil)) ?_,rfl,q⟩;rw[jQ,List.length_singleton];omega
noncomputable def qZ:V->List V->Hp->VK->Prop:=λx vs H Q=>∃l b xs zs,x = .ref l/\vs=[.ref b]/\H l=some (.lst xs)/\H b=some (.lst zs)/\xs.length+zs.length<=sizeLine/\Q .non (upd H l (.lst (xs++zs)))
theorem zkr:Hu X "list.extend" qZ:=by
 intro pins s σ H x vs v us Q I rx rv h;obtain⟨l,b,xs,zs,rfl,rfl,hH,hB,hz,q⟩:=h;cases rx;obtain⟨u,rfl,ru⟩:=rv.one;cases ru;obtain⟨z,its,n,r,hl,e⟩:=I.lstM hH;obtain⟨z2,its2,n2,r2,hl2,e2⟩:=I.lstM hB;have hsz:its.toArray.size+its2.toArray.size<=sizeLine:=by rw[dM,dM];omega
 have oO:¬(!its.toArray.isEmpty&&Builtin.List.listTooLong (its.toArray.size+its2.toArray.size))=true:=by rw[QF hsz,Bool.and_false];exact fB
 refine call_meets F.slot_list_extend ⟨_,e,rfl⟩ F.entry_list_extend (F.args_list_extend_2 _ _)
  (AutoSeq1.list_extend_list_list_0 l its.toArray n b its2.toArray n2 oO (by rw[dM];omega) (by omega)) ⟨e,e2,?_⟩
 refine⟨.non,_,I.lset (its':=its++its2) hH e (by simp) (r.append r2) ?_,rfl,q⟩;rw[jQ];omega
noncomputable def Ox:V->List V->Hp->VK->Prop:=λx vs H Q=>∃l xs y,x = .ref l/\vs=[]/\H l=some (.lst xs)/\xs[xs.length - 1]?=some y/\Q y (upd H l (.lst xs.dropLast))
theorem zq9:Hu X "list.pop" Ox:=by
 intro pins s σ H x vs v us Q I rx rv h;obtain⟨l,xs,y,rfl,rfl,hH,hy,q⟩:=h;cases rx;have hus:=rv.zero;subst hus;obtain⟨z,its,n,r,hl,e⟩:=I.lstM hH;obtain⟨u,hu,ru⟩:=r.get hy;have hy':its.toArray[its.toArray.size - 1]?=some u:=by show its.toArray[its.length - 1]?=some u;rw[<-Array.getElem?_toList,<-hl];exact hu
 refine call_meets F.slot_list_pop ⟨_,e,rfl⟩ F.entry_list_pop (F.args_list_pop_1 _) (MeetsSeq.list_pop_last l its.toArray n u hy' (by rw[dM];omega)) ⟨e,?_⟩;refine⟨y,_,I.lset (its':=its.dropLast) hH e ?_ r.dropLast ?_,ru,q⟩
 .show its.toArray.eraseIdxIfInBounds (its.toArray.size - 1)=its.dropLast.toArray;rw[dM,List.eraseIdxIfInBounds_toArray,zjo]
 .rw[List.length_dropLast];omega
noncomputable def wj:V->List V->Hp->VK->Prop:=λx vs H Q=>∃l xs i k y,x = .ref l/\vs=[.int i]/\H l=some (.lst xs) /\ -(2 ^ 63)<=i/\i<2 ^ 63/\seqIndex? i xs.length=some k/\xs[k]?=some y/\Q y (upd H l (.lst (xs.eraseIdx k)))
theorem zmj:Hu X "list.pop" wj:=by
 intro pins s σ H x vs v us Q I rx rv h;obtain⟨l,xs,i,k,y,rfl,rfl,hH,h1,h2,hk,hy,q⟩:=h;cases rx;obtain⟨u,rfl,ru⟩:=rv.one;obtain⟨t,rfl⟩:=ru;obtain⟨z,its,n,r,hl,e⟩:=I.lstM hH;obtain⟨w,hw,fj⟩:=r.get hy;refine call_meets F.slot_list_pop ⟨_,e,rfl⟩ F.entry_list_pop (F.args_list_pop_2 _ _)
  (MeetsSeq.list_pop_at l its.toArray n i t k w (fitsIndex_both h1 h2) (by rw[dM,<-hl];exact hk) (by rw[<-Array.getElem?_toList];exact hw) (by rw[dM];omega)) ⟨e,?_⟩
 refine⟨y,_,I.lset (its':=its.eraseIdx k) hH e ?_ (r.eraseIdx k) ?_,fj,q⟩
 .show its.toArray.eraseIdxIfInBounds k=(its.eraseIdx k).toArray;rw[List.eraseIdxIfInBounds_toArray]
 .have:=Vm xs k;omega
noncomputable def OJ:R2:=λx y H Q=>∃l b xs zs,x = .ref l/\y = .ref b/\H l=some (.lst xs)/\H b=some (.lst zs)/\xs.length+zs.length<=sizeLine/\∀p,H p=none->Q (.ref p) (upd H p (.lst (xs++zs)))
theorem zq5:fu X (binaryOp .Add) OJ:=by
 intro pins s σ H x y v u Q I rx ry h;obtain⟨l,b,xs,zs,rfl,rfl,hH,hB,hz,q⟩:=h;cases rx;cases ry;obtain⟨z,its,n,r,hl,e⟩:=I.lstM hH;obtain⟨z2,its2,n2,r2,hl2,e2⟩:=I.lstM hB;refine PySem.P.add_list e e2 ?_ (by rw[dM,dM];omega);have ea:its.toArray++its2.toArray=(its++its2).toArray:=by simp
 rw[ea];exact⟨.ref _,_,I.lnew (t':=s.toks) (r.append r2) (by rw[jQ];omega),rfl,q _ I.fresh⟩
end
end L2
namespace Yb
open PySem PySem.W PySem.Calls PyProof.Rows
theorem zfa{P:Params}{h:Heap}:∀(ns:List Int) (vs:List Value),WellAll P h vs (ns.map WData.int)->IntsAre vs ns:=by
 intro ns
 induction ns with
 |nil =>
  intro vs w;rw[List.map_nil] at w;cases w;exact .nil
 |cons n ns ih =>
  intro vs w;rw[iU] at w;cases w with
  |cons a b =>
   cases a;exact .cons _ _ (ih _ b)
theorem zjU{l:OpenLaw}{n:Nat}(hn:l.most=some n){P:Params}{h:Heap}{args:List WData}{vals:List Value}(hpre:l.row.toRowW.claim.pre args=true)(hwl:WellAll P h vals args):
 ∃a vs ns,vals=[Value.ref a]/\args=[WData.list (ns.map WData.int)]/\h.get? a=some { cls := .type "list",data := .seq vs.toArray }/\IntsAre vs ns/\ns.length<=n:=by
 have hsh:WShape.hasAll [] args [.list .int]=true:=(pre_splitW hpre).1;have hc:l.pre.holds [] { args:=args }=true:=(pre_splitW hpre).2;obtain⟨d,r,rfl,h1,h2⟩:=hasAllW_cons hsh;obtain rfl:=hasAllW_nil h2;obtain⟨xs,rfl,h3⟩:=hasW_list h1;obtain⟨ns,rfl⟩:=items_int h3;have hlen:ns.length<=n:=by
  unfold OpenLaw.pre at hc;have h4:(WTm.not (.lt (.lit (.int (n:Int))) (.len (.arg 0)))).holds [] { args:=[.list (ns.map .int)] }=true:=by have h4:=(holds_andW hc).1;rw[hn] at h4;exact h4
  have h5:=condW_of h4 (w_not (w_lt w_lit (w_len_list (w_arg rfl))));rw[cZ] at h5;refine Nat.le_of_not_lt λq=>?_;have q':(n:Int)<((ns.length:Nat):Int):=by omega
  first
   | (rw[decide_eq_true q'] at h5;exact absurd h5 (by decide))
   | (simp at h5;omega)
 cases hwl with
 |cons w1 w2 =>
  cases w2;cases w1 with
  |list ho hall=>exact⟨_,_,ns,rfl,rfl,ho,zfa ns _ hall,hlen⟩
theorem zj4(l:OpenLaw)(args:List WData):l.row.toRowW.claim.post args (.bool true) args=true :=
 postW_of (r:=l.row.toRowW) (X:=(true==true))
  (show WShape.has [] (.bool true) .bool=true by first|rfl|decide|simp[WShape.has,WShape.arms,WShape.armsAll])
  (show(WTm.eq .res (.lit (.bool true))).value [] { args:=args,res:=some (.bool true),after:=args }=some (.bool (true==true)) from w_eq_bool (w_res rfl) w_lit) rfl
theorem zhP{l:OpenLaw}{n:Nat}{q:Program}{loose:List Str}{XP:(Str->Option Value)->Heap->Prop}{YP:World->Heap->Prop}{d:DefRec}(hn:l.most=some n)(hdf:d.params.defaults=[])(call:∀(w:World) (s₀ s₁:Shared) (mg mb:Str->Option Value) (fa:Addr) (o:Obj) (pm cd doc:Value) (a:Addr) (vs:List Value) (ns:List Int),
  Ground q loose [] XP w s₀ mg mb s₁.heap->YP w s₁.heap ->
  s₁.heap.get? fa=some o->o.data = .func (docDef d.name d.params d.body d.scope pm cd doc)->s₁.heap.CodeRec cd d.name->mg d.name=some (.ref fa) ->
  s₁.heap.get? a=some { cls := .type "list",data := .seq vs.toArray }->IntsAre vs ns->ns.length<=n->s₁.gens=#[] ->
  codeAny (model l.prog w) callerA (.call (.ref fa) ⟨[.ref a],[]⟩) (λr s'=>r = .ok (.ret (.bool true))/\OldK s₁.heap s'.heap/\s'.os=s₁.os/\AllBare s'.gens) s₁):
 WalkO q loose XP YP l.row.toRowW d [] (λf vs=>PySem.call f vs):=by
 intro w s₀ s₁ mg mb G Y fa o pm cd doc dV kV ho hd hcd hD hmg hg args vals as hpre hlay hrd hwl hlo;obtain rfl:dV = .none:=Dflts.none hD hdf;obtain rfl:kV = .none:=Dflts.noKw hD;obtain⟨a,vs,ns,rfl,rfl,hobj,hints,hlen⟩:=zjU hn hpre hwl;refine enter_call (codeAny_mono (call w s₀ s₁ mg mb fa o pm cd doc a vs ns G Y ho (fd_plain hd) hcd hmg hobj hints hlen hg) λr s' hq=>?_);obtain⟨rfl,h2,h3,h4⟩:=hq;exact⟨.inl ⟨.bool true,.bool true,[],rfl,λ_=>rfl,.bool true,zj4 l _,λ_=>⟨List.Pairwise.nil,λ_ hm=>(nomatch hm)⟩⟩,h2,h3,h4⟩
end Yb
namespace L2
open PySem PySem.Spec PyProof.Rows
def U8:∀{vs:List Value} {ns:List Int},IntsAre vs ns->Vals (ns.map V.int) vs
 |_,_,.nil => .nil
 |_,_,.cons n t h => .cons ⟨t,rfl⟩ (U8 h)
noncomputable def lW(s:Stmt):Arguments:=match s with
 |.FunctionDef _ a _ _ _ _ _ _ _ _=>a
 |_=>{ posonlyargs:=[],args:=[],vararg:=none,kwonlyargs:=[],kw_defaults:=[],kwarg:=none,defaults:=[] }
noncomputable def gk(s:Stmt):List Stmt:=match s with
 |.FunctionDef _ _ b _ _ _ _ _ _ _=>b
 |_=>[]
noncomputable def bf(s:Stmt):Scope:=match s with
 |.FunctionDef _ _ _ _ _ _ sc _ _ _=>sc
 |_=>{ kind := .function,names:=[],isGenerator:=false,isCoroutine:=false }
noncomputable abbrev fV:mQ:=λ_ _ _ _ _ _=>False
noncomputable abbrev E0:XK:=λ_ _ _=>False
def Eg{X:Cx}:sZ fV X E0:=λ_ _ _ _ _ _ _ h=>h.elim
structure nM(K:FgA)(x qual:Str)(st:Stmt)(f:Addr)(fd:FuncData):Prop where
 ex:∃(oc:Value) (od:Option Addr) (kV doc pm:Value) (an:Option Addr) (cdv ct:Value) (osl:Array (Option Value)),
  fd=PySem.W.fnOf x qual (lW st) (gk st) (bf st) .none kV doc pm an cdv ct/\K.lookup f=some ⟨oc,od,.func fd,osl⟩/\PySem.W.codeIn K cdv qual=true
 kp:PySem.W.keepIn K (.ref f)=true
section
variable {P:Program}{w:World}{K:FgA}{mg:Str->Option Value}{base:Heap}
theorem nM.ok{x qual:Str}{st:Stmt}{f:Addr}{fd:FuncData}{N ps:List Str}{k:Nat}{sp:Sp}(F:nM K x qual st f fd)(S:jA N ps (bf st))(len:∀vs H Q E,sp vs H Q E->vs.length=ps.length)(hbody:∀(cdv:Value) (A:Around) (outer:List Env) (s:Shared) (H:Hp) (vs:List V) (Q:VK) (E:XK),aU k (A.deeper (envOfC qual (bf st) s.heap.objs.size f cdv))->sp vs H Q E ->
  ∃t,fM (jR fV P w K mg base N qual (bf st) f cdv A outer s H E).nox (gk st) t/\t { nx:=λ_ H'=>Q .non H',rt:=Q } (start N vs) H):bO P w K mg base fV (k+1) f fd ps sp:=by
 obtain⟨oc,od,kV,doc,pm,an,cdv,ct,osl,rfl,lk,hcd⟩:=F.ex;refine zV lk hcd S len λA outer s H vs Q E hr hsp=>?_;obtain⟨t,h,q⟩:=hbody cdv A outer s H vs Q E hr hsp;exact⟨t,h.nox,q⟩
theorem nM.binds{x qual:Str}{st:Stmt}{f:Addr}{fd:FuncData}{ps:List Str}(F:nM K x qual st f fd)(h:∀(kV doc pm:Value) (an:Option Addr) (cdv ct:Value) (us:List Value),us.length=ps.length->bindArgs (PySem.W.fnOf x qual (lW st) (gk st) (bf st) .none kV doc pm an cdv ct) ⟨us,[]⟩=pure (ps.zip us)):Binds K fd ps []:=by obtain⟨oc,od,kV,doc,pm,an,cdv,ct,osl,rfl,lk,hcd⟩:=F.ex;exact .all (h kV doc pm an cdv ct)
theorem Rf{x qual:Str}{st:Stmt}{f:Addr}{oc:Value}{od an:Option Addr}{osl:Array (Option Value)}{kV doc pm cdv ct:Value}(l:K.lookup f=some ⟨oc,od,.func (PySem.W.fnOf x qual (lW st) (gk st) (bf st) .none kV doc pm an cdv ct),osl⟩)(c:PySem.W.codeIn K cdv qual=true)(k:PySem.W.keepIn K (.ref f)=true):nM K x qual st f (PySem.W.fnOf x qual (lW st) (gk st) (bf st) .none kV doc pm an cdv ct):=⟨⟨oc,od,kV,doc,pm,an,cdv,ct,osl,rfl,l,c⟩,k⟩
end
def Same(H H':Hp):Prop:=∀b o,H b=some o->H' b=some o
def Same.refl(H:Hp):Same H H:=λ_ _ h=>h
end L2
end
section
namespace MX
open PySem PySem.Spec PyProof.Rows L2
noncomputable abbrev NK:=List (List Int)
noncomputable def Dj(k:NK):Int:=reduceHash (Builtin.Tuple.tupleHashOf (k.map λks=>reduceHash (Builtin.Tuple.tupleHashOf (ks.map hashInt))))
noncomputable def Qc(x:NK×Addr×Value):DictEntry:=⟨Dj x.1,.ref x.2.1,x.2.2⟩
def Qo(h:Heap)(d:Addr)(xs:List (NK×Addr×Value)):Prop:=∃o es,h.get? d=some o/\o.ExactDict/\o.data = .dict es xs.length/\es.toList=xs.map Qc/\(xs.map (·.1)).Nodup
noncomputable def Qd(a:Addr)(xs:List (NK×Addr×Value)):HO := .ext λh=>(a==sysModules)=false/\xs.length<=sizeLine/\Qo h a xs
def rW(K:FgA)(H:Hp)(k:NK)(b:Addr):Prop:=∃bs:List Addr,dG K H b (bs.map V.ref)/\Paired (fun(ks:List Int) (c:Addr)=>dG K H c (ks.map V.int)) k bs
theorem rW.mono{K:FgA}{H H':Hp}{k:NK}{b:Addr}(t:∀a vs,dG K H a vs->dG K H' a vs)(h:rW K H k b):rW K H' k b:=by
 obtain⟨bs,h1,h2⟩:=h;refine⟨bs,t _ _ h1,?_⟩;clear h1
 induction h2 with
 |nil=>exact .nil
 |cons hc _ ih=>exact .cons (t _ _ hc) ih
inductive DR(K:FgA)(H:Hp):List (NK×Int)->List (NK×Addr×Value)->Prop
 |nil:DR K H [] []
 |cons {k:NK} {i:Int} {b:Addr} {t:Tok} {xs:List (NK×Int)} {ys:List (NK×Addr×Value)}:rW K H k b->DR K H xs ys->DR K H ((k,i)::xs) ((k,b,.int i t)::ys)
section
variable {K:FgA}{H H':Hp}{xs:List (NK×Int)}{ys:List (NK×Addr×Value)}
theorem DR.mono(t:∀a vs,dG K H a vs->dG K H' a vs)(h:DR K H xs ys):DR K H' xs ys:=by
 induction h with
 |nil=>exact .nil
 |cons hc _ ih=>exact .cons (hc.mono t) ih
end
section
variable {prog:Program}{w:World}{A:Around}{E:Value->Shared->Prop}
theorem QZ{it l:Addr}{us:Array Value}(ne:l≠it):∀(n i:Nat) (t:Shared) (Q:List Value->Shared->Prop),t.heap.IsListIter it l i->t.heap.IsList l us->i+n<=us.size ->
 (∀h',h'.IsListIter it l (i+n)->Heap.SameBut it t.heap h'->Q ((us.toList.drop i).take n) { t with heap:=h' })->wpAny (model prog w) A (draw (.ref it) n) Q E t
 |0,i,t,Q,g,_,_,q=>by show wpAny _ _ (pure []) Q E t;exact bT (by simpa using q t.heap g (Heap.SameBut.refl ..))
 |n+1,i,t,Q,g,gl,le,q=>by
  have lt:i<us.size:=by omega
  show wpAny _ _ (pyNext (.ref it) >>= _) Q E t;refine aF (wpAny_pyNext_list_item g gl (x:=us[i]) (by simp[lt]) λk₁ g₁ s₁=>?_);have gl₁:k₁.IsList l us:=let ⟨o,e,r⟩:=gl;⟨o,s₁.extBut _ _ ne e,r⟩;refine aF (wpAny_holding (QZ ne n (i+1) _ _ g₁ gl₁ (by omega) λk₂ g₂ s₂=>bT ?_));have e:us.toList.drop i=us[i]::us.toList.drop (i+1):=by simp[List.drop_eq_getElem_cons,lt]
  have z:=q k₂ (by rw[show i+(n+1)=i+1+n by omega];exact g₂) (s₁.trans s₂);rw[e,List.take_succ_cons] at z;exact z
theorem zlC{l:Addr}{us:Array Value}{t:Shared}{Q:List Value->Shared->Prop}(hh:A.handled=none)(gl:t.heap.IsList l us)(q:∀h',Heap.ExtBut t.heap.objs.size t.heap h'->Q us.toList { t with heap:=h' }):wpAny (model prog w) A (unpackItems (.ref l) us.size none) Q E t:=by
 have ne:l≠t.heap.objs.size:=by obtain⟨o,e,_⟩:=gl;exact dh (cg e)
 have gp:∀o,(t.heap.push o).IsList l us:=λo=>let ⟨u,e,r⟩:=gl;⟨u,cX _ e,r⟩;unfold unpackItems notIterableAtAll;refine aF (aF (wpAny_specialOf gl.typeIs slot_list_iter.lookup (bT ?_)));simp only[Bool.false_eq_true,if_false];refine aF (wpAny_holding (wpAny_pyIter_list gl (aF (wpAny_holding (QZ ne us.size 0 _ _ ⟨_,gB _ rfl,rfl,rfl⟩ (gp _) (by omega) λk₁ g₁ s₁=>?_)))));rw[show List.take us.size (List.drop 0 us.toList)=us.toList by rw[List.drop_zero];exact List.take_of_length_le (by simp),if_neg (by simp)];have gl₁:k₁.IsList l us:=let ⟨o,e,r⟩:=gp _;⟨o,s₁.extBut _ _ ne e,r⟩;refine aF (wpAny_holding (wpAny_pyNext_list_end hh g₁ gl₁ (by simp) λk₂ e₂=>?_));simp only[Option.isSome_none,Bool.false_eq_true,if_false];exact bT (q k₂ λc o hc e=>e₂ c o hc (s₁.extBut c o hc (cX _ e)))
end
noncomputable def Dl(K:FgA)(n:Nat)(t:p8):TG:=λv σ H Q=>∃a xs,v = .ref a/\cQ K H a xs/\xs.length=n/\t xs σ H Q
theorem zov{X:Cx}{pos:Pos}{es:List Expr}{k:Nat}{t:p8}{n:Nat}(hc:X.calm=true)(h:zA X es t)(hn:(assignEach es X.env).length=n)(hst:(assignEach es X.env).findIdx? (·.1)=none):PG X (.Tuple es k pos) (Dl X.K n t):=by
 intro pins s σ H v u Q I r hw;obtain⟨a,xs,rfl,hq,hl,hw⟩:=hw;cases r;obtain⟨its,rv,ht,hz⟩:=I.list hq;rw[arm_assign_Tuple];refine aF (wpAny_standAt ?_);unfold unpack;have el:(assignEach es X.env).length=its.toArray.size:=by simp[hn,<-hl,rv.length]
 rw[el,hst];refine aF (wpAny_holding (zlC (I.ok.hd hc) ht.isList λh' hx=>?_));have I1:Inv X pins σ H { s with heap:=h' }:=I.kept (t':=s.toks) λb o e=>hx b o (dh (cg e)) e;exact h pins _ σ H xs _ Q I1 (by simpa using rv) hw
theorem PG.or{X:Cx}{e:Expr}{t t':TG}(h:PG X e t)(h':PG X e t'):PG X e (λv σ H Q=>t v σ H Q\/t' v σ H Q):=λpins s σ H v u Q I r q=>by
 rcases q with q|q
 .exact h pins s σ H v u Q I r q
 .exact h' pins s σ H v u Q I r q
inductive D where
 |non|bl (b:Bool)|int (i:Int)|str (x:Str)|tup (xs:List D)|ref (n:Nat)
 |ty (n:String)|adr (a:Addr)
 |obj (C:Str) (ks:List Str) (xs:List D)
inductive O where
 |lst (xs:List D)
 |frz (xs:List D)
 |ins (C:Str) (fs:List (Str×D))
 |dct (xs:List (NK×Int))
 |tbl (x:Str)
noncomputable abbrev Sg:=List (Option D)
noncomputable abbrev So:=List O
mutual
inductive Rep(K:FgA)(H:Hp)(α:List Addr):D->V->Prop
 |non:Rep K H α .non .non
 |bl (b:Bool):Rep K H α (.bl b) (.bl b)
 |int (i:Int):Rep K H α (.int i) (.int i)
 |str (x:Str):Rep K H α (.str x) (.str x)
 |tup {a:Addr} {ds:List D} {vs:List V}:dG K H a vs->aB K H α ds vs->Rep K H α (.tup ds) (.ref a)
 |ref {n:Nat} {a:Addr}:α[n]?=some a->Rep K H α (.ref n) (.ref a)
 |ty (n:String):Rep K H α (.ty n) (.ty n)
 |adr (a:Addr):Rep K H α (.adr a) (.ref a)
 |obj {a:Addr} {C:Str} {dx:Addr} {gs:List (Str×V)} {ks:List Str} {ds:List D} {vs:List V}:H a=some (.ins (cu K C) dx gs)->3<=gs.length->gs.map (·.1)=ks->gs.map (·.2)=vs->aB K H α ds vs->Rep K H α (.obj C ks ds) (.ref a)
inductive aB(K:FgA)(H:Hp)(α:List Addr):List D->List V->Prop
 |nil:aB K H α [] []
 |cons {d:D} {v:V} {ds:List D} {vs:List V}:Rep K H α d v->aB K H α ds vs->aB K H α (d::ds) (v::vs)
end
structure Ext(K:FgA)(H:Hp)(α:List Addr)(H':Hp)(α':List Addr):Prop where
 tups:∀a vs,dG K H a vs->dG K H' a vs
 pre:∀(n:Nat) a,α[n]?=some a->α'[n]?=some a
 insts:∀a c dx gs,3<=gs.length->H a=some (.ins c dx gs)->H' a=some (.ins c dx gs)
section
variable {K:FgA}{H H' DQ:Hp}{α α' α'':List Addr}
def Ext.refl:Ext K H α H α:=⟨λ_ _ h=>h,λ_ _ h=>h,λ_ _ _ _ _ h=>h⟩
def Ext.trans(a:Ext K H α H' α')(b:Ext K H' α' DQ α''):Ext K H α DQ α'':=⟨λc vs h=>b.tups c vs (a.tups c vs h),λn c h=>b.pre n c (a.pre n c h),λx c d g l h=>b.insts x c d g l (a.insts x c d g l h)⟩
mutual
theorem Rep.mono(e:Ext K H α H' α'):∀{d:D} {v:V},Rep K H α d v->Rep K H' α' d v
 |_,_,.non => .non
 |_,_,.bl b => .bl b
 |_,_,.int i => .int i
 |_,_,.str x => .str x
 |_,_,.tup h r => .tup (e.tups _ _ h) (aB.mono e r)
 |_,_,.ref h => .ref (e.pre _ _ h)
 |_,_,.ty n => .ty n
 |_,_,.adr a => .adr a
 |_,_,.obj h l k v r => .obj (e.insts _ _ _ _ l h) l k v (aB.mono e r)
theorem aB.mono(e:Ext K H α H' α'):∀{ds:List D} {vs:List V},aB K H α ds vs->aB K H' α' ds vs
 |_,_,.nil => .nil
 |_,_,.cons h r => .cons (Rep.mono e h) (aB.mono e r)
end
def aB.length:∀{ds:List D} {vs:List V},aB K H α ds vs->ds.length=vs.length
 |_,_,.nil=>rfl
 |_,_,.cons _ r=>by simp[aB.length r]
theorem aB.get:∀{ds:List D} {vs:List V} {i:Nat} {d:D},aB K H α ds vs->ds[i]?=some d->∃v,vs[i]?=some v/\Rep K H α d v
 |_,_,_,_,.nil,e=>by simp at e
 |_,_,0,_,.cons h _,e=>by simp at e;subst e;exact⟨_,rfl,h⟩
 |_,_,i+1,_,.cons _ r,e=>by obtain⟨v,h1,h2⟩:=aB.get (i:=i) r (by simpa using e);exact⟨v,by simpa using h1,h2⟩
theorem aB.getV:∀{ds:List D} {vs:List V} {i:Nat} {v:V},aB K H α ds vs->vs[i]?=some v->∃d,ds[i]?=some d/\Rep K H α d v
 |_,_,_,_,.nil,e=>by simp at e
 |_,_,0,_,.cons h _,e=>by simp at e;subst e;exact⟨_,rfl,h⟩
 |_,_,i+1,_,.cons _ r,e=>by obtain⟨v,h1,h2⟩:=aB.getV (i:=i) r (by simpa using e);exact⟨v,by simpa using h1,h2⟩
def aB.append:∀{ds es:List D} {vs ws:List V},aB K H α ds vs->aB K H α es ws->aB K H α (ds++es) (vs++ws)
 |_,_,_,_,.nil,s=>s
 |_,_,_,_,.cons h r,s => .cons h (aB.append r s)
theorem aB.take:∀{ds:List D} {vs:List V} (n:Nat),aB K H α ds vs->aB K H α (ds.take n) (vs.take n)
 |_,_,0,_=>by simp;exact .nil
 |_,_,_+1,.nil => .nil
 |_,_,n+1,.cons h r => .cons h (aB.take n r)
theorem aB.drop:∀{ds:List D} {vs:List V} (n:Nat),aB K H α ds vs->aB K H α (ds.drop n) (vs.drop n)
 |_,_,0,r=>by simpa using r
 |_,_,_+1,.nil => .nil
 |_,_,n+1,.cons h r=>by simpa using aB.drop n r
theorem Same.tups(s:Same H H'):∀a vs,dG K H a vs->dG K H' a vs:=λa vs h=>by
 rcases h with(h|⟨o,h⟩)|h
 .exact .inl (.inl (s _ _ h))
 .exact .inl (.inr ⟨o,s _ _ h⟩)
 .exact .inr h
def Same.ext(s:Same H H'):Ext K H α H' α:=⟨Same.tups s,λ_ _ h=>h,λ_ _ _ _ _ h=>s _ _ h⟩
def lE{p:Addr}{o:HO}(h:H p=none):Same H (upd H p o):=λb u e=>by rw[bN (fD e h)];exact e
noncomputable def qe(K:FgA)(H:Hp)(a:Addr)(xs:List V):Prop :=
 (∃o,H a=some (.frz o (.lst xs))) \/
  ∃(o:Obj) (its:Array Value) (n:Nat),K.lookup a=some o/\o.cls = .type "list" /\ o.dict=none/\o.data = .seq its n/\its.size<=sizeLine/\Vals xs its.toList
def qe.sq{a:Addr}{xs:List V}(h:qe K H a xs):cQ K H a xs:=by
 rcases h with h|h
 .exact .inl (.inr h)
 .exact .inr h
def qe.same{a:Addr}{xs:List V}(s:Same H H')(h:qe K H a xs):qe K H' a xs:=by
 rcases h with⟨o,h⟩|h
 .exact .inl ⟨o,s _ _ h⟩
 .exact .inr h
noncomputable def O.own:O->Bool
 |.frz _=>false
 |_=>true
noncomputable def f9(K:FgA)(H:Hp)(α:List Addr)(a:Addr):O->Prop
 |.lst ds=>∃vs,H a=some (.lst vs)/\aB K H α ds vs
 |.frz ds=>∃vs,qe K H a vs/\aB K H α ds vs
 |.ins C fs=>∃dx gs,H a=some (.ins (cu K C) dx gs)/\fs.map (·.1)=gs.map (·.1)/\aB K H α (fs.map (·.2)) (gs.map (·.2))
 |.dct xs=>∃ys,H a=some (Qd a ys)/\DR K H xs ys
 |.tbl x=>a=gZ K x/\∃ps,H a=some (.tbl ps)
structure aq(K:FgA)(H:Hp)(α:List Addr)(S:So):Prop where
 len:α.length=S.length
 nd:∀(n m:Nat) o o' a,S[n]?=some o->S[m]?=some o'->O.own o=true->O.own o'=true->α[n]?=some a->α[m]?=some a->n=m
 obj:∀(n:Nat) o a,S[n]?=some o->α[n]?=some a->f9 K H α a o
noncomputable def bD(K:FgA)(H:Hp)(α:List Addr)(σd:Sg)(σ:L2.St):Prop :=
 σd.length=σ.length/\∀(i:Nat) d,σd[i]?=some (some d)->∃v,σ[i]?=some (some v)/\Rep K H α d v
def bD.mono{σd:Sg}{σ:L2.St}(e:Ext K H α H' α')(h:bD K H α σd σ):bD K H' α' σd σ :=
 ⟨h.1,λi d q=>let ⟨v,h1,h2⟩:=h.2 i d q;⟨v,h1,h2.mono e⟩⟩
theorem bD.set{σd:Sg}{σ:L2.St}{d:D}{v:V}(h:bD K H α σd σ)(r:Rep K H α d v)(i:Nat):bD K H α (σd.set i (some d)) (σ.set i (some v)):=by
 refine⟨by simpa using h.1,λj e q=>?_⟩;by_cases hj:j=i
 .subst hj;by_cases hlt:j<σd.length
  .rw[List.getElem?_set_self hlt] at q;cases q;exact⟨v,by rw[List.getElem?_set_self (by rw[<-h.1];exact hlt)],r⟩
  .rw[jw (by simpa using hlt)] at q;cases q
 .rw[List.getElem?_set_ne (Ne.symm hj)] at q;obtain⟨u,h1,h2⟩:=h.2 j e q;exact⟨u,by rw[List.getElem?_set_ne (Ne.symm hj)];exact h1,h2⟩
theorem f9.mono{a:Addr}{o:O}(s:Same H H')(e:Ext K H α H' α')(h:f9 K H α a o):f9 K H' α' a o:=by
 cases o with
 |lst ds=>obtain⟨vs,h1,h2⟩:=h;exact⟨vs,s _ _ h1,h2.mono e⟩
 |frz ds=>obtain⟨vs,h1,h2⟩:=h;exact⟨vs,qe.same s h1,h2.mono e⟩
 |ins C fs=>obtain⟨dx,gs,h1,h2,h3⟩:=h;exact⟨dx,gs,s _ _ h1,h2,h3.mono e⟩
 |dct xs=>obtain⟨ys,h1,h2⟩:=h;exact⟨ys,s _ _ h1,h2.mono e.tups⟩
 |tbl x=>obtain⟨h0,ps,h1⟩:=h;exact⟨h0,ps,s _ _ h1⟩
def aq.mono{S:So}(s:Same H H')(h:aq K H α S):aq K H' α S :=
 ⟨h.len,h.nd,λn o a h1 h2=>(h.obj n o a h1 h2).mono s (Same.ext s)⟩
theorem f9.some{a:Addr}{o:O}(h:f9 K H α a o)(w:O.own o=true):∃u,H a=some u:=by
 cases o with
 |lst ds=>obtain⟨vs,h1,_⟩:=h;exact⟨_,h1⟩
 |frz ds=>cases w
 |ins C fs=>obtain⟨dx,gs,h1,_⟩:=h;exact⟨_,h1⟩
 |dct xs=>obtain⟨ys,h1,_⟩:=h;exact⟨_,h1⟩
 |tbl x=>obtain⟨_,ps,h1⟩:=h;exact⟨_,h1⟩
theorem getElem?oZ{α:Type}{l:List α}{x y:α}{n:Nat}(h:(l++[x])[n]?=some y):l[n]?=some y\/(n=l.length/\y=x):=by
 by_cases hn:n<l.length
 .rw[mR hn] at h;exact .inl h
 .rw[zJ (by omega)] at h;by_cases h0:n - l.length=0
  .rw[h0] at h;simp at h;exact .inr ⟨by omega,h.symm⟩
  .rw[jw (by simp;omega)] at h;cases h
theorem aq.snoc{S:So}{p:Addr}{o:O}{u:HO}(h:aq K H α S)(hp:H p=none)(ho:∀α',Ext K H α (upd H p u) α'->f9 K (upd H p u) α' p o):
 aq K (upd H p u) (α++[p]) (S++[o])/\Ext K H α (upd H p u) (α++[p]):=by
 have s:Same H (upd H p u):=lE hp;have e:Ext K H α (upd H p u) (α++[p]):=⟨Same.tups s,λn a q=>by rw[mR (eV.mp q).1];exact q,λ_ _ _ _ _ h=>s _ _ h⟩
 have old:∀{n:Nat} {o':O} {a:Addr},S[n]?=some o'->(α++[p])[n]?=some a->α[n]?=some a:=λ{n o' a} h1 h2=>by
  have hn:n<α.length:=by rw[h.len];exact(eV.mp h1).1
  rw[mR hn] at h2;exact h2
 have oK:(α++[p])[S.length]?=some p:=by rw[<-h.len];simp
 have apart:∀{n:Nat} {o':O},S[n]?=some o'->O.own o'=true->¬(α++[p])[n]?=some p:=λ{n o'} h1 w h2=>by obtain⟨u,z⟩:=(h.obj n o' p h1 (old h1 h2)).some w;rw[hp] at z;cases z
 refine⟨⟨by simp[h.len],λn m o1 o2 a h1 h2 w1 w2 a1 a2=>?_,λn o' a h1 h2=>?_⟩,e⟩
 .rcases getElem?oZ h1 with q1|⟨e1,e2⟩<;>rcases getElem?oZ h2 with q2|⟨e3,e4⟩
  .exact h.nd n m o1 o2 a q1 q2 w1 w2 (old q1 a1) (old q2 a2)
  .rw[e3,oK] at a2;cases a2;exact absurd a1 (apart q1 w1)
  .rw[e1,oK] at a1;cases a1;exact absurd a2 (apart q2 w2)
  .rw[e1,e3]
 .rcases getElem?oZ h1 with h1|⟨rfl,rfl⟩
  .exact(h.obj n o' a h1 (old h1 h2)).mono s e
  .rw[oK] at h2;cases h2;exact ho _ e
theorem aq.put'{S:So}{n:Nat}{a:Addr}{o₀ o:O}{u₀ u:HO}(h:aq K H α S)(hn:S[n]?=some o₀)(w₀:O.own o₀=true)(w:O.own o=true)(ha:α[n]?=some a)(hv:H a=some u₀)(nt:∀ws,HO.tup ws≠u₀)(nf:∀ob x,HO.frz ob x≠u₀)(ni:∀c dx gs,3<=gs.length->HO.ins c dx gs≠u₀)(ho:Ext K H α (upd H a u) α->f9 K (upd H a u) α a o):aq K (upd H a u) α (S.set n o)/\Ext K H α (upd H a u) α:=by
 have e:Ext K H α (upd H a u) α:=⟨λb ws q=>by
  rcases q with(q|⟨o,q⟩)|q
  .exact .inl (.inl (by rw[bN (Ey q hv (nt _))];exact q))
  .exact .inl (.inr ⟨o,by rw[bN (Ey q hv (nf _ _))];exact q⟩)
  .exact .inr q,λ_ _ q=>q,λb c dx gs l q=>by rw[bN (Ey q hv (ni _ _ _ l))];exact q⟩
 have hlt:n<S.length:=(eV.mp hn).1;have at':∀{m:Nat} {o':O},(S.set n o)[m]?=some o'->(m=n/\o'=o)\/(m≠n/\S[m]?=some o'):=λ{m o'} h1=>by
  by_cases hm:m=n
  .subst hm;rw[List.getElem?_set_self hlt] at h1;exact .inl ⟨rfl,(Option.some.inj h1).symm⟩
  .rw[List.getElem?_set_ne (Ne.symm hm)] at h1;exact .inr ⟨hm,h1⟩
 refine⟨⟨by simpa using h.len,λm k o1 o2 b h1 h2 w1 w2 b1 b2=>?_,λm o' b h1 h2=>?_⟩,e⟩
 .rcases at' h1 with⟨e1,e2⟩|⟨n1,q1⟩<;>rcases at' h2 with⟨e3,e4⟩|⟨n2,q2⟩
  .rw[e1,e3]
  .rw[e1] at b1 ⊢;exact h.nd _ _ o₀ o2 b hn q2 w₀ w2 b1 b2
  .rw[e3] at b2 ⊢;exact h.nd _ _ o1 o₀ b q1 hn w1 w₀ b1 b2
  .exact h.nd _ _ o1 o2 b q1 q2 w1 w2 b1 b2
 .rcases at' h1 with⟨rfl,rfl⟩|⟨hm,h1⟩
  .rw[ha] at h2;cases h2;exact ho e
  .have q:=h.obj m o' b h1 h2;have hba:O.own o'=true->b≠a:=λw' z=>hm (by subst z;exact h.nd m n o' o₀ b h1 hn w' w₀ h2 ha);cases o' with
   |lst ds=>obtain⟨ws,q1,q2⟩:=q;exact⟨ws,by rw[bN (hba rfl)];exact q1,q2.mono e⟩
   |frz ds =>
    obtain⟨ws,q1,q2⟩:=q;refine⟨ws,?_,q2.mono e⟩;rcases q1 with⟨ob,q1⟩|q1
    .exact .inl ⟨ob,by rw[bN (Ey q1 hv (nf _ _))];exact q1⟩
    .exact .inr q1
   |ins C fs=>obtain⟨dx,gs,q1,q2,q3⟩:=q;exact⟨dx,gs,by rw[bN (hba rfl)];exact q1,q2,q3.mono e⟩
   |dct xs=>obtain⟨ys,q1,q2⟩:=q;exact⟨ys,by rw[bN (hba rfl)];exact q1,q2.mono e.tups⟩
   |tbl x=>obtain⟨q0,ps,q1⟩:=q;exact⟨q0,ps,by rw[bN (hba rfl)];exact q1⟩
theorem aq.put{S:So}{n:Nat}{a:Addr}{o₀ o:O}{u₀ u:HO}(h:aq K H α S)(hn:S[n]?=some o₀)(w₀:O.own o₀=true)(w:O.own o=true)(ha:α[n]?=some a)(hv:H a=some u₀)(hu:(∃vs,u₀ = .lst vs)\/∃f,u₀ = .ext f)(ho:Ext K H α (upd H a u) α->f9 K (upd H a u) α a o):aq K (upd H a u) α (S.set n o)/\Ext K H α (upd H a u) α :=
 h.put' hn w₀ w ha hv (λws z=>by rcases hu with⟨vs,e⟩|⟨f,e⟩<;>(rw[e] at z;cases z)) (λob x z=>by rcases hu with⟨vs,e⟩|⟨f,e⟩<;>(rw[e] at z;cases z)) (λc dx gs _ z=>by rcases hu with⟨vs,e⟩|⟨f,e⟩<;>(rw[e] at z;cases z)) ho
end
mutual
def D.lo(n:Nat):D->Bool
 |.tup xs=>cI n xs
 |.obj _ _ xs=>cI n xs
 |.ref m=>decide (m<n)
 |_=>true
def cI(n:Nat):List D->Bool
 |[]=>true
 |d::ds=>D.lo n d&&cI n ds
end
noncomputable def O.lo(n:Nat):O->Bool
 |.lst xs=>cI n xs
 |.frz xs=>cI n xs
 |.ins _ fs=>cI n (fs.map (·.2))
 |.dct _=>true
 |.tbl _=>true
section
variable {K:FgA}{H:Hp}{α β:List Addr}
mutual
theorem Rep.lo:∀{d:D} {v:V},Rep K H α d v->D.lo α.length d=true
 |_,_,.non=>by simp[D.lo]
 |_,_,.bl _=>by simp[D.lo]
 |_,_,.int _=>by simp[D.lo]
 |_,_,.str _=>by simp[D.lo]
 |_,_,.tup _ r=>by rw[D.lo];exact aB.lo r
 |_,_,.ref h=>by rw[D.lo];exact decide_eq_true (eV.mp h).1
 |_,_,.ty _=>by simp[D.lo]
 |_,_,.adr _=>by simp[D.lo]
 |_,_,.obj _ _ _ _ r=>by rw[D.lo];exact aB.lo r
theorem aB.lo:∀{ds:List D} {vs:List V},aB K H α ds vs->cI α.length ds=true
 |_,_,.nil=>by simp[cI]
 |_,_,.cons h r=>by rw[cI,Rep.lo h,aB.lo r];rfl
end
mutual
theorem Rep.cut(n:Nat):∀{d:D} {v:V},Rep K H α d v->D.lo n d=true->Rep K H (α.take n) d v
 |_,_,.non,_ => .non
 |_,_,.bl b,_ => .bl b
 |_,_,.int i,_ => .int i
 |_,_,.str x,_ => .str x
 |_,_,.tup h r,b => .tup h (aB.cut n r (by rw[D.lo] at b;exact b))
 |_,_,.ref h,b => .ref (by
  rw[D.lo] at b;rw[List.getElem?_take_of_lt (of_decide_eq_true b)];exact h)
 |_,_,.ty n,_ => .ty n
 |_,_,.adr a,_ => .adr a
 |_,_,.obj h l k v r,b => .obj h l k v (aB.cut n r (by rw[D.lo] at b;exact b))
theorem aB.cut(n:Nat):∀{ds:List D} {vs:List V},aB K H α ds vs->cI n ds=true->aB K H (α.take n) ds vs
 |_,_,.nil,_ => .nil
 |_,_,.cons h r,b=>by rw[cI,cL] at b;exact .cons (Rep.cut n h b.1) (aB.cut n r b.2)
end
theorem f9.lo{a:Addr}{o:O}(h:f9 K H α a o):O.lo α.length o=true:=by
 cases o with
 |lst ds=>obtain⟨_,_,r⟩:=h;exact r.lo
 |frz ds=>obtain⟨_,_,r⟩:=h;exact r.lo
 |ins C fs=>obtain⟨_,_,_,_,r⟩:=h;exact r.lo
 |dct xs=>rfl
 |tbl x=>rfl
theorem f9.cut{a:Addr}{o:O}(n:Nat)(h:f9 K H α a o)(b:O.lo n o=true):f9 K H (α.take n) a o:=by
 cases o with
 |lst ds=>obtain⟨vs,h1,r⟩:=h;exact⟨vs,h1,r.cut n b⟩
 |frz ds=>obtain⟨vs,h1,r⟩:=h;exact⟨vs,h1,r.cut n b⟩
 |ins C fs=>obtain⟨dx,gs,h1,h2,r⟩:=h;exact⟨dx,gs,h1,h2,r.cut n b⟩
 |dct xs=>exact h
 |tbl x=>exact h
def WF(S:So):Prop:=∀o∈S,O.lo S.length o=true
theorem aq.wf{S:So}(h:aq K H α S):WF S:=λo ho=>by
 obtain⟨n,hn,e⟩:=List.mem_iff_getElem.mp ho;have hn':n<α.length:=by rw[h.len];exact hn
 have:=(h.obj n o α[n] (by rw[eV];exact⟨hn,e⟩) (by simp)).lo;rw[h.len] at this;exact this
theorem aq.cut{S:So}(h:aq K H α S)(n:Nat)(b:∀o∈S.take n,O.lo n o=true):aq K H (α.take n) (S.take n):=by
 have lt:∀{m:Nat} {o:O},(S.take n)[m]?=some o->m<n:=λ{m o} h1=>by have:=(eV.mp h1).1;simp at this;omega
 refine⟨by simp[h.len],λm k o1 o2 a h1 h2 w1 w2 a1 a2=>?_,λm o a h1 h2=>?_⟩
 .have l1:=lt h1;have l2:=lt h2;rw[List.getElem?_take_of_lt l1] at h1 a1;rw[List.getElem?_take_of_lt l2] at h2 a2;exact h.nd m k o1 o2 a h1 h2 w1 w2 a1 a2
 have hm:m<n:=by have:=(eV.mp h1).1;simp at this;omega
 have b1:=b o (List.mem_of_getElem? h1);rw[List.getElem?_take_of_lt hm] at h1 h2;exact(h.obj m o a h1 h2).cut n b1
end
noncomputable def kD(k:NK):D := .tup (k.map λks => .tup (ks.map .int))
section
variable {K:FgA}{H:Hp}{α:List Addr}
def Vr:∀l:List Int,aB K H α (l.map .int) (l.map V.int)
 |[] => .nil
 |i::l => .cons (.int i) (Vr l)
end
end MX
end
section
namespace MX
open PySem PySem.Spec PyProof.Rows L2
open Builtin.Int (intBits)
noncomputable abbrev EF:=Sg->So->Option (D×So)
noncomputable def Kt(K:FgA)(H:Hp)(α:List Addr)(z:D)(S':So)(Q:VK):Prop :=
 ∀w H' α',aq K H' α' S'->Ext K H α H' α'->Rep K H' α' z w->Q w H'
noncomputable def wg(K:FgA)(f:EF):TE:=λσ H Q=>∃σd S α z S',bD K H α σd σ/\aq K H α S/\f σd S=some (z,S')/\Kt K H α z S' Q
def SE(X:Cx)(e:Expr)(f:EF):Prop:=PE X e (wg X.K f)
def PE.imp{X:Cx}{e:Expr}{t t':TE}(h:PE X e t)(k:∀σ H Q,t' σ H Q->t σ H Q):PE X e t':=λpins s σ H Q I q=>h pins s σ H Q I (k σ H Q q)
noncomputable abbrev G2:=D->D->So->Option (D×So)
noncomputable abbrev GN:=List D->So->Option (D×So)
noncomputable def nO(K:FgA)(g:G2):R2:=λv u H Q=>∃S α x y z S',aq K H α S/\Rep K H α x v/\Rep K H α y u/\g x y S=some (z,S')/\Kt K H α z S' Q
noncomputable def jt(K:FgA)(g:GN):List V->Hp->VK->Prop:=λvs H Q=>∃S α ds z S',aq K H α S/\aB K H α ds vs/\g ds S=some (z,S')/\Kt K H α z S' Q
def Kt.same{K:FgA}{H:Hp}{α:List Addr}{z:D}{S:So}{Q:VK}{w:V}(k:Kt K H α z S Q)(s:aq K H α S)(r:Rep K H α z w):Q w H:=k w H α s Ext.refl r
def Kt.new{K:FgA}{H H':Hp}{α:List Addr}{z:D}{S:So}{Q:VK}{w:V}(k:Kt K H α z S Q)(s:aq K H α S)(m:Same H H')(r:Rep K H' α z w):Q w H':=k w H' α (s.mono m) (Same.ext m) r
def Kt.trans{K:FgA}{H H1:Hp}{α α1:List Addr}{z:D}{S':So}{Q:VK}(k:Kt K H α z S' Q)(e:Ext K H α H1 α1):Kt K H1 α1 z S' Q:=λw H' α' s x r=>k w H' α' s (e.trans x) r
noncomputable def cO(i j:Int):Bool:=decide (intBits i<=64)||decide (intBits j<=64)||decide (intBits i+intBits j<=134217728)
theorem cO.ok{i j:Int}(h:cO i j=true):IntMulOk i j:=by
 unfold cO at h;rw[o8,o8] at h;rcases h with(h|h)|h
 .exact .of_left (of_decide_eq_true h)
 .exact .of_right (of_decide_eq_true h)
 .exact IntMulOk.of_le (bZ _) (bZ _) (of_decide_eq_true h)
noncomputable def eX(j:Int):Bool:=decide (j≠0)&&decide (intBits j<=8000)
theorem eX.ok{i j:Int}(h:eX j=true):j≠0/\Builtin.divisionGoesByPylong i j=false:=by
 unfold eX at h;rw[cL] at h;have h1:j≠0:=of_decide_eq_true h.1;have h2:intBits j<=8000:=of_decide_eq_true h.2;refine⟨h1,PyProof.noPylong_of_log2 ?_⟩;have hb:(j==0)=false:=by simpa using h1
 unfold Builtin.Int.intBits at h2;rw[hb] at h2;simp only[Bool.false_eq_true,if_false] at h2;omega
section
variable {X:Cx}
def zoQ:fu X (binaryOp .Mult) (rI (λi j=>cO i j=true) λi j => .int (i*j)):=Cy λ_ _ _ _ _ _ _ hc q=>mul_int q (cO.ok hc)
def zoS:fu X (binaryOp .FloorDiv) (rI (λ_ j=>eX j=true) λi j => .int (i.fdiv j)):=Cy λ_ _ _ _ _ _ _ hc q=>floordiv_int (eX.ok (i:=0) hc).1 q (.inl (eX.ok hc).2)
end
noncomputable def oV:G2
 |.int i,.int j,S=>some (.int (i+j),S)
 |.str a,.str b,S=>if a.length+b.length<=sizeLine then some (.str (a++b),S) else none
 |.tup xs,.tup ys,S=>if xs≠[]/\xs.length+ys.length<=sizeLine then some (.tup (xs++ys),S) else none
 |.ref n,.ref m,S=>match S[n]?,S[m]? with
  |some (.lst xs),some (.lst ys)=>if xs.length+ys.length<=sizeLine then some (.ref S.length,S++[.lst (xs++ys)]) else none
  |_,_=>none
 |_,_,_=>none
noncomputable def wO:G2
 |.int i,.int j,S=>some (.int (i - j),S)
 |_,_,_=>none
noncomputable def rF:G2
 |.int i,.int j,S=>if cO i j=true then some (.int (i*j),S) else none
 |_,_,_=>none
noncomputable def rJ:G2
 |.int i,.int j,S=>if eX j=true then some (.int (i.fdiv j),S) else none
 |_,_,_=>none
noncomputable def rG:G2
 |.int i,.int j,S=>if j≠0 then some (.int (i.fmod j),S) else none
 |_,_,_=>none
noncomputable def rC:G2
 |.int i,.int j,S=>if 0<=j/\j<=1000000/\i.natAbs<2 ^ 64 then some (.int (i*2 ^ j.toNat),S) else none
 |_,_,_=>none
noncomputable def wQ:G2
 |.int i,.int j,S=>if 0<=j/\j<=1000000/\i.natAbs<2 ^ 64 then some (.int (i ^ j.toNat),S) else none
 |_,_,_=>none
noncomputable def aP:Operator->G2
 |.Add=>oV
 |.Sub=>wO
 |.Mult=>rF
 |.FloorDiv=>rJ
 |.Mod=>rG
 |.LShift=>rC
 |.Pow=>wQ
 |_=>λ_ _ _=>none
section
variable {X:Cx}
theorem zoO:fu X (binaryOp .Add) (nO X.K oV):=by
 intro pins s σ H v u vv uu Q I rv ru h;obtain⟨S,α,x,y,z,S',hs,rx,ry,hg,k⟩:=h;unfold oV at hg;split at hg
 .cases hg;cases rx;cases ry;exact zq6 pins s σ H _ _ _ _ Q I rv ru ⟨_,_,rfl,rfl,k.same hs (.int _)⟩
 .split at hg
  .rename_i hl;cases hg;cases rx;cases ry;exact zi7 pins s σ H _ _ _ _ Q I rv ru ⟨_,_,rfl,rfl,hl,k.same hs (.str _)⟩
  .cases hg
 .split at hg
  .rename_i hl;cases hg;cases rx with
   |tup h1 r1 =>
    cases ry with
    |tup h2 r2 =>
     refine zoT pins s σ H _ _ _ _ Q I rv ru ⟨_,_,_,_,rfl,rfl,h1,h2,?_,?_,?_,?_⟩
     .intro e;subst e;cases r1;exact hl.1 rfl
     .rw[<-r1.length,<-r2.length];exact hl.2
     .intro e;subst e;cases r2;exact k.same hs (.tup h1 (by rw[List.append_nil];exact r1))
     .intro _ p hp;exact k.new hs (lE hp) (.tup (dG.of dU) ((r1.append r2).mono (Same.ext (lE hp))))
  .cases hg
 .split at hg
  .rename_i n m xs ys e1 e2;split at hg
   .rename_i hl;cases hg;cases rx with
    |ref a1 =>
     cases ry with
     |ref a2 =>
      obtain⟨vs,h1,r1⟩:=hs.obj _ _ _ e1 a1;obtain⟨ws,h2,r2⟩:=hs.obj _ _ _ e2 a2;refine zq5 pins s σ H _ _ _ _ Q I rv ru ⟨_,_,_,_,rfl,rfl,h1,h2,by rw[<-r1.length,<-r2.length];exact hl,λp hp=>?_⟩;obtain⟨s',e'⟩:=hs.snoc (p:=p) (o := .lst (xs++ys)) (u := .lst (vs++ws)) hp λα' e=>⟨_,dU,(r1.append r2).mono e⟩
      exact k _ _ _ s' e' (.ref (by rw[<-hs.len];simp))
   .cases hg
  .cases hg
 .cases hg
theorem zoD:fu X (binaryOp .Sub) (nO X.K wO):=by
 intro pins s σ H v u vv uu Q I rv ru h;obtain⟨S,α,x,y,z,S',hs,rx,ry,hg,k⟩:=h;unfold wO at hg;split at hg
 .cases hg;cases rx;cases ry;exact zq1 pins s σ H _ _ _ _ Q I rv ru ⟨_,_,rfl,rfl,k.same hs (.int _)⟩
 .cases hg
theorem zoI:fu X (binaryOp .Mult) (nO X.K rF):=by
 intro pins s σ H v u vv uu Q I rv ru h;obtain⟨S,α,x,y,z,S',hs,rx,ry,hg,k⟩:=h;unfold rF at hg;split at hg
 .split at hg
  .rename_i hc;cases hg;cases rx;cases ry;exact zoQ pins s σ H _ _ _ _ Q I rv ru ⟨_,_,rfl,rfl,hc,k.same hs (.int _)⟩
  .cases hg
 .cases hg
theorem zoM:fu X (binaryOp .FloorDiv) (nO X.K rJ):=by
 intro pins s σ H v u vv uu Q I rv ru h;obtain⟨S,α,x,y,z,S',hs,rx,ry,hg,k⟩:=h;unfold rJ at hg;split at hg
 .split at hg
  .rename_i hc;cases hg;cases rx;cases ry;exact zoS pins s σ H _ _ _ _ Q I rv ru ⟨_,_,rfl,rfl,hc,k.same hs (.int _)⟩
  .cases hg
 .cases hg
theorem zoJ:fu X (binaryOp .Mod) (nO X.K rG):=by
 intro pins s σ H v u vv uu Q I rv ru h;obtain⟨S,α,x,y,z,S',hs,rx,ry,hg,k⟩:=h;unfold rG at hg;split at hg
 .split at hg
  .rename_i hc;cases hg;cases rx;cases ry;exact zoR pins s σ H _ _ _ _ Q I rv ru ⟨_,_,rfl,rfl,hc,k.same hs (.int _)⟩
  .cases hg
 .cases hg
theorem zoE:fu X (binaryOp .LShift) (nO X.K rC):=by
 intro pins s σ H v u vv uu Q I rv ru h;obtain⟨S,α,x,y,z,S',hs,rx,ry,hg,k⟩:=h;unfold rC at hg;split at hg
 .split at hg
  .rename_i hc;cases hg;cases rx;cases ry;exact zq2 pins s σ H _ _ _ _ Q I rv ru ⟨_,_,rfl,rfl,hc,k.same hs (.int _)⟩
  .cases hg
 .cases hg
theorem zoF:fu X (binaryOp .Pow) (nO X.K wQ):=by
 intro pins s σ H v u vv uu Q I rv ru h;obtain⟨S,α,x,y,z,S',hs,rx,ry,hg,k⟩:=h;unfold wQ at hg;split at hg
 .split at hg
  .rename_i hc;cases hg;cases rx;cases ry;exact zq3 pins s σ H _ _ _ _ Q I rv ru ⟨_,_,rfl,rfl,hc,k.same hs (.int _)⟩
  .cases hg
 .cases hg
theorem zoN:∀op:Operator,fu X (binaryOp op) (nO X.K (aP op)):=by
 intro op;cases op
 case Add=>exact zoO
 case Sub=>exact zoD
 case Mult=>exact zoI
 case FloorDiv=>exact zoM
 case Mod=>exact zoJ
 case LShift=>exact zoE
 case Pow=>exact zoF
 all_goals
  intro pins s σ H v u vv uu Q I rv ru h;obtain⟨S,α,x,y,z,S',hs,rx,ry,hg,k⟩:=h;exact absurd hg (by simp[aP])
end
noncomputable def mV(f:D->Option PyData):List D->Option (List PyData)
 |[]=>some []
 |d::ds=>(f d).bind λp=>(mV f ds).map λps=>p::ps
noncomputable def dW(S:So):Nat->D->Option PyData
 |0,_=>none
 |_+1,.non=>some .none
 |_+1,.bl b=>some (.bool b)
 |_+1,.int i=>some (.int i)
 |_+1,.str x=>some (.str x)
 |n+1,.tup ds=>(mV (dW S n) ds).map .tuple
 |n+1,.ref m=>match S[m]? with
  |some (.lst ds)=>(mV (dW S n) ds).map .list
  |some (.frz ds)=>(mV (dW S n) ds).map .list
  |_=>none
 |_+1,_=>none
theorem VH{X:Cx}{s:Shared}{H:Hp}{α:List Addr}{f:D->Option PyData}(hf:∀d v u p,Rep X.K H α d v->RelV v u->f d=some p->∃as,Reads s.heap u p as):
 ∀ds vs us ps,aB X.K H α ds vs->Vals vs us->mV f ds=some ps->∃as,ReadsAll s.heap us ps as
 |_,_,_,_,.nil,.nil,e=>by simp[mV] at e;subst e;exact⟨_,.nil⟩
 |_,_,_,_,.cons r rr,.cons rv rvs,e=>by simp only[mV,aW,aR] at e;obtain⟨p,e1,ps,e2,rfl⟩:=e;obtain⟨as,ra⟩:=hf _ _ _ _ r rv e1;obtain⟨bs,rb⟩:=VH hf _ _ _ _ rr rvs e2;exact⟨_,.cons ra rb⟩
theorem Av{X:Cx}{pins:List (Addr×Obj)}{s:Shared}{σ:L2.St}{H:Hp}{α:List Addr}{S:So}(I:Inv X pins σ H s)(hs:aq X.K H α S):∀(n:Nat) d v u p,Rep X.K H α d v->RelV v u->dW S n d=some p->∃as,Reads s.heap u p as
 |0,d,v,u,p,_,_,e=>by simp[dW] at e
 |n+1,d,v,u,p,r,rv,e=>by
  have ih:=VH (X:=X) (s:=s) (Av I hs n);cases r with
  |non=>cases rv;simp[dW] at e;subst e;exact⟨_,.none⟩
  |bl b=>cases rv;simp[dW] at e;subst e;exact⟨_,.bool b⟩
  |int i=>obtain⟨t,rfl⟩:=rv;simp[dW] at e;subst e;exact⟨_,.int i t⟩
  |str x=>obtain⟨t,rfl⟩:=rv;simp[dW] at e;subst e;exact⟨_,.str x t⟩
  |tup h r =>
   cases rv;simp only[dW,aR] at e;obtain⟨ps,e1,rfl⟩:=e;obtain⟨its,r',⟨o,ho,hc,m,hd⟩,_⟩:=I.tuple h;obtain⟨as,ra⟩:=ih _ _ _ _ r r' e1;exact⟨_,.tuple ho hc hd (by simpa using ra)⟩
  |@ref m a h =>
   cases rv;simp only[dW] at e;cases hm:S[m]? with
   |none=>rw[hm] at e;simp at e
   |some o =>
    rw[hm] at e;have hob:=hs.obj _ _ _ hm h;cases o with
    |lst ds =>
     simp only[aR] at e;obtain⟨ps,e1,rfl⟩:=e;obtain⟨vs,h1,r⟩:=hob;obtain⟨its,r',⟨o,m,ho,hc,hdd,hd⟩,_⟩:=I.list (cQ.of (K:=X.K) h1);obtain⟨as,ra⟩:=ih _ _ _ _ r r' e1;exact⟨_,.list ho hc hd (by simpa using ra)⟩
    |frz ds =>
     simp only[aR] at e;obtain⟨ps,e1,rfl⟩:=e;obtain⟨vs,h1,r⟩:=hob;obtain⟨its,r',⟨o,m,ho,hc,hdd,hd⟩,_⟩:=I.list h1.sq;obtain⟨as,ra⟩:=ih _ _ _ _ r r' e1;exact⟨_,.list ho hc hd (by simpa using ra)⟩
    |ins C fs=>simp at e
    |dct xs=>simp at e
    |tbl x=>simp at e
  |ty n=>simp[dW] at e
  |adr a=>simp[dW] at e
  |obj _ _ _ _ _=>simp[dW] at e
noncomputable def mH(S:So)(x y:D):Option Bool:=(dW S 24 x).bind λp=>(dW S 24 y).bind λq=>if SeqAt.shaped p=true/\SeqAt.shaped q=true then some (PyData.eqv p q) else none
noncomputable def nW:D->Bool
 |.non=>true
 |_=>false
noncomputable def aZ:CmpOp->G2
 |.Lt,.int i,.int j,S=>some (.bl (decide (i<j)),S)
 |.LtE,.int i,.int j,S=>some (.bl (decide (i<=j)),S)
 |.Gt,.int i,.int j,S=>some (.bl (decide (j<i)),S)
 |.GtE,.int i,.int j,S=>some (.bl (decide (j<=i)),S)
 |.Eq,.int i,.int j,S=>some (.bl (decide (i=j)),S)
 |.NotEq,.int i,.int j,S=>some (.bl (!decide (i=j)),S)
 |.Eq,x,y,S=>(mH S x y).map λb=>(.bl b,S)
 |.NotEq,x,y,S=>(mH S x y).map λb=>(.bl (!b),S)
 |.Is,x,.non,S=>some (.bl (nW x),S)
 |.IsNot,x,.non,S=>some (.bl (!nW x),S)
 |.Is,.bl a,.bl b,S=>some (.bl (a==b),S)
 |.IsNot,.bl a,.bl b,S=>some (.bl (!(a==b)),S)
 |_,_,_,_=>none
def Ti{K:FgA}{H:Hp}{α:List Addr}{x:D}{v:V}(r:Rep K H α x v):decide (v = .non)=nW x:=by cases r<;>simp[nW]
section
variable {X:Cx}
def zoK:fu X (compareOp .Eq) (pW λi j => .bl (decide (i=j))):=mq λ_ _ _ _ _ _ _ q=>eq_int (by rw[Bool.beq_eq_decide_eq];exact q)
def zoG:fu X (compareOp .NotEq) (pW λi j => .bl (!decide (i=j))):=mq λ_ _ _ _ _ _ _ q=>ne_int (by rw[bne,Bool.beq_eq_decide_eq];exact q)
theorem zoL{pins:List (Addr×Obj)}{s:Shared}{σ:L2.St}{H:Hp}{v u:V}{vv uu:Value}{Q:VK}{S:So}{α:List Addr}{x y:D}{b:Bool}(hu:X.A.units+64<cLine)(I:Inv X pins σ H s)(rv:RelV v vv)(ru:RelV u uu)(hs:aq X.K H α S)(rx:Rep X.K H α x v)(ry:Rep X.K H α y u)(hg:mH S x y=some b)(k:Q (.bl b) H):wpAny (model X.prog X.w) X.A (compareOp .Eq vv uu) (EP X pins σ Q) X.xe s:=by
 unfold mH at hg;simp only[aW] at hg;obtain⟨p,e1,q,e2,hg⟩:=hg;split at hg
 .rename_i hc;obtain⟨as,ra⟩:=Av I hs 24 _ _ _ _ rx rv e1;obtain⟨bs,rb⟩:=Av I hs 24 _ _ _ _ ry ru e2;cases hg;exact SeqAt.compareEq_shaped ra rb hc.1 hc.2 hu ⟨.bl _,H,I,rfl,k⟩
 .cases hg
theorem zoH{pins:List (Addr×Obj)}{s:Shared}{σ:L2.St}{H:Hp}{v u:V}{vv uu:Value}{Q:VK}{S:So}{α:List Addr}{x y:D}{b:Bool}(hu:X.A.units+64<cLine)(I:Inv X pins σ H s)(rv:RelV v vv)(ru:RelV u uu)(hs:aq X.K H α S)(rx:Rep X.K H α x v)(ry:Rep X.K H α y u)(hg:mH S x y=some b)(k:Q (.bl (!b)) H):wpAny (model X.prog X.w) X.A (compareOp .NotEq vv uu) (EP X pins σ Q) X.xe s:=by
 unfold mH at hg;simp only[aW] at hg;obtain⟨p,e1,q,e2,hg⟩:=hg;split at hg
 .rename_i hc;obtain⟨as,ra⟩:=Av I hs 24 _ _ _ _ rx rv e1;obtain⟨bs,rb⟩:=Av I hs 24 _ _ _ _ ry ru e2;cases hg;exact SeqAt.compareNe_shaped ra rb hc.1 hc.2 hu ⟨.bl _,H,I,rfl,k⟩
 .cases hg
theorem R5(hu:X.A.units+64<cLine):∀op:CmpOp,fu X (compareOp op) (nO X.K (aZ op)):=by
 intro op pins s σ H v u vv uu Q I rv ru h;obtain⟨S,α,x,y,z,S',hs,rx,ry,hg,k⟩:=h;unfold aZ at hg;split at hg
 .cases hg;cases rx;cases ry;exact Zm pins s σ H _ _ _ _ Q I rv ru ⟨_,_,rfl,rfl,k.same hs (.bl _)⟩
 .cases hg;cases rx;cases ry;exact Zk pins s σ H _ _ _ _ Q I rv ru ⟨_,_,rfl,rfl,k.same hs (.bl _)⟩
 .cases hg;cases rx;cases ry;exact Zj pins s σ H _ _ _ _ Q I rv ru ⟨_,_,rfl,rfl,k.same hs (.bl _)⟩
 .cases hg;cases rx;cases ry;exact Yj pins s σ H _ _ _ _ Q I rv ru ⟨_,_,rfl,rfl,k.same hs (.bl _)⟩
 .cases hg;cases rx;cases ry;exact zoK pins s σ H _ _ _ _ Q I rv ru ⟨_,_,rfl,rfl,k.same hs (.bl _)⟩
 .cases hg;cases rx;cases ry;exact zoG pins s σ H _ _ _ _ Q I rv ru ⟨_,_,rfl,rfl,k.same hs (.bl _)⟩
 .simp only[aR] at hg;obtain⟨b,e,hg⟩:=hg;cases hg;exact zoL hu I rv ru hs rx ry e (k.same hs (.bl _))
 .simp only[aR] at hg;obtain⟨b,e,hg⟩:=hg;cases hg;exact zoH hu I rv ru hs rx ry e (k.same hs (.bl _))
 .cases hg;cases ry;exact zq4 pins s σ H _ _ _ _ Q I rv ru ⟨rfl,by rw[Ti rx];exact k.same hs (.bl _)⟩
 .cases hg;cases ry;refine zoP pins s σ H _ _ _ _ Q I rv ru ⟨rfl,?_⟩;rw[Ti rx];exact k.same hs (.bl _)
 .cases hg;cases rx;cases ry;cases rv;cases ru;exact is_bool (jg I (k.same hs (.bl _)) rfl)
 .cases hg;cases rx;cases ry;cases rv;cases ru;exact isnot_bool (jg I (k.same hs (.bl _)) rfl)
 .cases hg
end
noncomputable def aL:G2
 |.tup xs,.int i,S=>(gq xs i).map λz=>(z,S)
 |.ref n,.int i,S=>match S[n]? with
  |some (.lst xs)=>(gq xs i).map λz=>(z,S)
  |some (.frz xs)=>(gq xs i).map λz=>(z,S)
  |_=>none
 |.str z,.int i,S=>if z.length<=sizeLine then(gq z.cps.toList i).map λc=>(.str ⟨#[c]⟩,S) else none
 |_,_,_=>none
theorem JW{K:FgA}{H:Hp}{α:List Addr}{ds:List D}{vs:List V}{i:Int}{z:D}(r:aB K H α ds vs)(h:gq ds i=some z):∃w,gq vs i=some w/\Rep K H α z w:=by
 unfold gq at h ⊢;rw[<-r.length];cases e:uF ds.length i with
 |none=>rw[e] at h;simp at h
 |some j =>
  rw[e] at h;exact r.get h
theorem ixs{X:Cx}:DK X (nO X.K aL):=by
 intro value slice pins s σ H v u vv uu Q I rv ru h hsub;obtain⟨S,α,x,y,z,S',hs,rx,ry,hg,k⟩:=h;unfold aL at hg;split at hg
 .simp only[aR] at hg;obtain⟨b,e,hg⟩:=hg;cases hg;cases ry;cases rx with
  |tup h r =>
   obtain⟨w,e',fj⟩:=JW r e;exact Yz value slice pins s σ H _ _ _ _ Q I rv ru ⟨_,_,_,_,rfl,rfl,h,e',k.same hs fj⟩ hsub
 .cases ry;cases rx with
  |ref h =>
   rename_i n i a;cases hm:S[n]? with
   |none=>rw[hm] at hg;simp at hg
   |some o =>
    rw[hm] at hg;have hob:=hs.obj _ _ _ hm h;cases o with
    |lst ds =>
     simp only[aR] at hg;obtain⟨b,e,hg⟩:=hg;cases hg;obtain⟨vs,h1,r⟩:=hob;obtain⟨w,e',fj⟩:=JW r e;exact JB value slice pins s σ H _ _ _ _ Q I rv ru ⟨_,_,_,_,rfl,rfl,cQ.of h1,e',k.same hs fj⟩ hsub
    |frz ds =>
     simp only[aR] at hg;obtain⟨b,e,hg⟩:=hg;cases hg;obtain⟨vs,h1,r⟩:=hob;obtain⟨w,e',fj⟩:=JW r e;exact JB value slice pins s σ H _ _ _ _ Q I rv ru ⟨_,_,_,_,rfl,rfl,h1.sq,e',k.same hs fj⟩ hsub
    |ins C fs=>simp at hg
    |dct xs=>simp at hg
    |tbl x=>simp at hg
 .split at hg
  .rename_i hl;simp only[aR] at hg;obtain⟨b,e,hg⟩:=hg;cases hg;cases rx;cases ry;exact Yy value slice pins s σ H _ _ _ _ Q I rv ru ⟨_,_,_,rfl,rfl,hl,e,k.same hs (.str _)⟩ hsub
  .cases hg
 .cases hg
end MX
end
section
namespace MX
open PySem PySem.Spec PyProof.Rows L2
theorem FN(names:List (Str×NameKind)):∀(n:Nat) (acc:List (Str×Addr)),cellsFrom n names acc=cellsFrom n names []++acc:=by
 induction names with
 |nil=>intro n acc;simp[cellsFrom]
 |cons p r ih =>
  intro n acc;obtain⟨x,k⟩:=p;unfold cellsFrom;split
  .rw[ih,ih _ [(x,n)],gH];rfl
  .exact ih n acc
theorem Fj{names:List (Str×NameKind)}:∀{n:Nat} {x:Str} {c:Addr},(x,c)∈cellsFrom n names []->n<=c/\(x,NameKind.cell)∈names:=by
 induction names with
 |nil=>intro n x c h;simp[cellsFrom] at h
 |cons p r ih =>
  intro n x c h;obtain⟨y,k⟩:=p;unfold cellsFrom at h;split at h
  .rename_i hk;rw[FN,lO] at h;rcases h with h|h
   .have:=ih h;exact⟨by omega,cG _ this.2⟩
   .have e:(x,c)=(y,n):=by simpa using h
    cases e;have:k=NameKind.cell:=by simpa using hk
    subst this;exact⟨bZ _,fX⟩
  .have:=ih h;exact⟨this.1,cG _ this.2⟩
theorem GX{α:Type}(x:Str):∀(l r:List (Str×α)),(l++r).lookup x=(l.lookup x).or (r.lookup x)
 |[],r=>by simp
 | (k,v)::l,r=>by
   rw[List.cons_append,iT,iT];cases x==k with
   |true=>rfl
   |false=>exact GX x l r
theorem Ky{names:List (Str×NameKind)}{n:Nat}{acc:List (Str×Addr)}{x:Str}{c:Addr}(h:(cellsFrom n names acc).lookup x=some c):
 ((cellsFrom n names []).lookup x=some c)\/((cellsFrom n names []).lookup x=none/\acc.lookup x=some c):=by
 rw[FN,GX] at h;cases e:(cellsFrom n names []).lookup x with
 |some d=>rw[e] at h;exact .inl h
 |none=>rw[e] at h;exact .inr ⟨rfl,h⟩
theorem Ke{env:Env}(f:Str×NameKind->List (Str×Addr)->Sem (ForInStep (List (Str×Addr))))(hf:∀name kind cs,f (name,kind) cs=if(kind==NameKind.free)=true then(do let a <-cellOf env name;pure (.yield ((name,a)::cs))) else pure (.yield cs)):
 ∀(names:List (Str×NameKind)) (acc:List (Str×Addr)),(∀y∈names,y.2 = .free->∃c,env.cells.lookup y.1=some c)->∃cl,forIn names acc f=pure cl /\
  (∀x c,cl.lookup x=some c->acc.lookup x=some c\/((x,NameKind.free)∈names/\env.cells.lookup x=some c))/\∀x,((x,NameKind.free)∈names\/∃c,acc.lookup x=some c)->∃c,cl.lookup x=some c
 |[],acc,_=>⟨acc,by rw[List.forIn_nil],λx c h => .inl h,λx h=>by
  rcases h with h|h
  .cases h
  .exact h⟩
 | (y,k)::r,acc,h=>by
   by_cases hk:k=NameKind.free
   .subst hk;obtain⟨c,hc⟩:=h (y,.free) fX rfl;obtain⟨cl,e,h1,h2⟩:=Ke f hf r ((y,c)::acc) λz hz=>h z (cG _ hz);refine⟨cl,?_,λx d hx=>?_,λx hx=>h2 x ?_⟩
    .rw[List.forIn_cons,hf];have e1:cellOf env y=pure c:=by unfold cellOf;rw[hc]
     simp only[beq_self_eq_true,if_true,e1,pure_bind];exact e
    .rcases h1 x d hx with q|⟨q1,q2⟩
     .rw[iT] at q;cases hb:x==y with
      |true =>
       rw[hb] at q;cases q;obtain rfl:x=y:=by simpa using hb
       exact .inr ⟨fX,hc⟩
      |false=>rw[hb] at q;exact .inl q
     .exact .inr ⟨cG _ q1,q2⟩
    .rcases hx with hx|⟨d,hx⟩
     .rcases List.mem_cons.mp hx with q|q
      .cases q;exact .inr ⟨c,by simp⟩
      .exact .inl q
     .cases hb:x==y with
      |true=>exact .inr ⟨c,by rw[iT,hb]⟩
      |false=>exact .inr ⟨d,by rw[iT,hb];exact hx⟩
   .have hb:(k==NameKind.free)=false:=by simpa using hk
    obtain⟨cl,e,h1,h2⟩:=Ke f hf r acc λz hz=>h z (cG _ hz);refine⟨cl,?_,λx d hx=>?_,λx hx=>h2 x ?_⟩
    .rw[List.forIn_cons,hf,hb];simp only[Bool.false_eq_true,if_false,pure_bind];exact e
    .rcases h1 x d hx with q|⟨q1,q2⟩
     .exact .inl q
     .exact .inr ⟨cG _ q1,q2⟩
    .rcases hx with hx|hx
     .rcases List.mem_cons.mp hx with q|q
      .cases q;exact absurd rfl hk
      .exact .inl q
     .exact .inr hx
theorem zpC{scope:Scope}{env:Env}(h:∀y∈scope.names,y.2 = .free->∃c,env.cells.lookup y.1=some c):∃cl,closureFor scope env=pure cl /\
 (∀x c,cl.lookup x=some c->(x,NameKind.free)∈scope.names/\env.cells.lookup x=some c)/\∀x,(x,NameKind.free)∈scope.names->∃c,cl.lookup x=some c:=by
 obtain⟨cl,e,h1,h2⟩:=Ke (env:=env) (λx cs=>if(x.2==NameKind.free)=true then(do let a <-cellOf env x.1;pure (.yield ((x.1,a)::cs))) else pure (.yield cs)) (λ_ _ _=>rfl) scope.names [] h;refine⟨cl,?_,λx c q=>?_,λx q=>h2 x (.inl q)⟩
 .unfold closureFor;show(forIn scope.names [] _ >>= λcs=>pure cs)=_;rw[show(forIn scope.names ([]:List (Str×Addr)) _:Sem (List (Str×Addr)))=_ from e];rfl
 .rcases h1 x c q with z|z
  .simp at z
  .exact z
theorem Ng{env:Env}:∀{names:List (Str×NameKind)} {x:Str},
 (names.map fun(n,k)=>if(k==NameKind.free&&env.scope.kind == .function&&env.kindOf n==some .cell) then(n,NameKind.cell) else(n,k)).lookup x =
  (names.lookup x).map λk=>if(k==NameKind.free&&env.scope.kind == .function&&env.kindOf x==some .cell) then NameKind.cell else k
 |[],_=>rfl
 | (n,k)::r,x=>by
   have ih:=@Ng env r x;show List.lookup x ((if(k==NameKind.free&&env.scope.kind == .function&&env.kindOf n==some .cell)=true then(n,NameKind.cell) else(n,k))::_)=_;cases hx:x==n with
   |true =>
    obtain rfl:x=n:=by simpa using hx
    by_cases hc:(k==NameKind.free&&env.scope.kind == .function&&env.kindOf x==some .cell)=true
    .rw[if_pos hc];simp only[iT,hx,o9,if_pos hc]
    .rw[if_neg hc];simp only[iT,hx,o9,if_neg hc]
   |false =>
    by_cases hc:(k==NameKind.free&&env.scope.kind == .function&&env.kindOf n==some .cell)=true
    .rw[if_pos hc];simp only[iT,hx];exact ih
    .rw[if_neg hc];simp only[iT,hx];exact ih
theorem ziL{M:Model}{A:Around}{E:Value->Shared->Prop}{s:Shared}{scope:Scope}{globals:Addr}{cl:List (Str×Addr)}{qual:Str}{env:Env}{Q:Env->Shared->Prop}(h:Q { scope:=scope,locals:=s.heap.objs.size,globals:=globals,cells:=cellsFrom (s.heap.objs.size+1) scope.names cl,qual:=qual,func:=none,code:=env.code,frame:=env.frame,builtins:=env.builtins }
  { s with heap:=pushCells (s.heap.push { cls := .type "dict",data := .dict #[] }) scope.names }):
 wpAny M A (newFunctionEnv scope globals cl [] qual none .none (some env)) Q E s:=by
 simp only[newFunctionEnv,Option.isSome_some,if_true];refine aF (wpAny_alloc ?_);refine aF (wpAny_layCells _ (λname kind cells=>by cases hkc:kind==NameKind.cell<;>simp[hkc]) _ _ _ _ ?_);rw[show({ s with heap:=s.heap.push { cls := .type "dict",data := .dict #[] } }:Shared).heap.objs.size=s.heap.objs.size+1 from Heap.size_push ..];rw[List.forIn_nil];exact aF (bT (bT h))
structure qw(X:Cx)(scope:Scope)(N':List Str)(src:List (Option Nat)):Prop where
 kind:scope.kind = .function
 uniq:∀y∈scope.names,scope.names.lookup y.1=some y.2
 free:∀y∈scope.names,y.2 = .free->(X.env.kindOf y.1=some .cell\/X.env.kindOf y.1=some .free)
 len:src.length=N'.length
 src:∀(j i:Nat) x,N'[j]?=some x->src[j]?=some (some i)->X.N[i]?=some x/\scope.names.lookup x=some .free
noncomputable def lU(src:List (Option Nat))(σ:L2.St):L2.St:=src.map λo=>o.bind λi=>(σ[i]?).join
noncomputable def qx(X:Cx)(scope:Scope)(N':List Str)(cl:List (Str×Addr))(s₂:Shared)(H₂:Hp)(fp:List Addr):Cx where
 prog:=X.prog
 w:=X.w
 K:=X.K
 mg:=X.mg
 base:=X.base
 A:=X.A
 N:=N'
 s₀:=s₂
 H₀:=H₂
 env:={ scope:=relabel scope X.env,locals:=s₂.heap.objs.size+1,globals:=X.env.globals,cells:=cellsFrom (s₂.heap.objs.size+1+1) scope.names cl,qual:=X.env.qual,func:=none,code:=X.env.code,frame:=X.env.frame,builtins:=X.env.builtins }
 outer:=X.stack
 stack:=X.stack
 ex:=fp
 fn:=λx=>decide (scope.names.lookup x=some .cell)
 calm:=X.calm
 pn:=[]
 xe:=λ_ _=>False
structure nZ(X:Cx)(scope:Scope)(N':List Str)(Y:Cx):Prop where
 prog:Y.prog=X.prog
 w:Y.w=X.w
 K:Y.K=X.K
 mg:Y.mg=X.mg
 base:Y.base=X.base
 A:Y.A=X.A
 N:Y.N=N'
 sc:Y.env.scope=relabel scope X.env
 calm:Y.calm=X.calm
 fn:∀x,scope.names.lookup x=some .cell->Y.fn x=true
section
variable {X:Cx}{pins:List (Addr×Obj)}{σ:L2.St}{H:Hp}{s:Shared}{scope:Scope}{N':List Str}{src:List (Option Nat)}{cl:List (Str×Addr)}{fp:List Addr}
def zkN:nZ X scope N' (qx X scope N' cl s H fp):=⟨rfl,rfl,rfl,rfl,rfl,rfl,rfl,rfl,rfl,λx h=>decide_eq_true h⟩
theorem zmv(I:Inv X pins σ H s)(hf:∀b∈fp,jE X pins H b)(hfe:∀b∈fp,∃o,s.heap.get? b=some o)(ok:qw X scope N' src)(h1:∀x c,cl.lookup x=some c->(x,NameKind.free)∈scope.names/\X.env.cells.lookup x=some c)(h2:∀x,(x,NameKind.free)∈scope.names->∃c,cl.lookup x=some c){l:Obj}:
 Inv (qx X scope N' cl s H fp) [] (lU src σ) H { s with heap:=pushCells ((s.heap.push l).push { cls := .type "dict",data := .dict #[] }) scope.names }:=by
 have hC:((s.heap.push l).objs.size)=s.heap.objs.size+1:=Heap.size_push ..;have keep:∀b o,s.heap.get? b=some o->(pushCells ((s.heap.push l).push { cls := .type "dict",data := .dict #[] }) scope.names).get? b=some o:=λb o e =>
  pushCells_keeps _ _ b o (cX _ (cX _ e))
 have O3:=cellsFrom_ok scope.names ((s.heap.push l).push { cls := .type "dict",data := .dict #[] }) (s.heap.objs.size+1+1) [] ⟨λ_ _ hm=>(nomatch hm),List.Pairwise.nil⟩ (by rw[Heap.size_push,hC];exact bZ _);rw[Heap.size_push,hC] at O3;have cells:∀x c,(qx X scope N' cl s H fp).env.cells.lookup x=some c->((cellsFrom (s.heap.objs.size+1+1) scope.names []).lookup x=some c/\s.heap.objs.size+1+1<=c/\(x,NameKind.cell)∈scope.names)\/(X.env.cells.lookup x=some c/\(x,NameKind.free)∈scope.names):=λx c e=>by
  rcases Ky e with z|⟨_,z⟩
  .have:=Fj (gP z);exact .inl ⟨z,this.1,this.2⟩
  .exact .inr ⟨(h1 x c z).2,(h1 x c z).1⟩
 have Cz:∀x c,X.env.cells.lookup x=some c->c<s.heap.objs.size:=λx c e=>by obtain⟨v,q⟩:=I.cell x c e;exact q.lt
 have rel:∀x,(qx X scope N' cl s H fp).env.kindOf x=(scope.names.lookup x).map λk=>if(k==NameKind.free&&X.env.scope.kind == .function&&X.env.kindOf x==some .cell) then NameKind.cell else k:=λx=>Ng
 have wU:∀b∈fp,b<s.heap.objs.size:=λb hb=>by obtain⟨o,e⟩:=hfe b hb;exact cg e
 have cap:∀x y c,(qx X scope N' cl s H fp).env.cells.lookup x=some c->(qx X scope N' cl s H fp).env.cells.lookup y=some c->x=y:=λx y c ex ey=>by
  rcases cells x c ex with⟨z1,l1,m1⟩|⟨z1,m1⟩<;>rcases cells y c ey with⟨z2,l2,m2⟩|⟨z2,m2⟩
  .exact name_of_addr O3.apart (gP z1) (gP z2)
  .exact absurd (dg (Cz y c z2) (Nat.le_trans (Nat.le_add_right _ 2) l1)) (gO _)
  .exact absurd (dg (Cz x c z1) (Nat.le_trans (Nat.le_add_right _ 2) l2)) (gO _)
  .exact I.ok.inj x y c z1 z2
 have Dh:(pushCells ((s.heap.push l).push { cls := .type "dict",data := .dict #[] }) scope.names).Ns (s.heap.objs.size+1) (λ_=>none):=by have q:((s.heap.push l).push { cls := .type "dict",data := .dict #[] }).Ns (s.heap.push l).objs.size (λ_=>none):=Heap.Ns.new (s.heap.push l) (.type "dict");rw[hC] at q;exact q.keeps (pushCells_keeps _ _)
 refine⟨⟨I.ok.mod,ok.kind,I.ok.glob,I.ok.blt,Nat.le_succ _,cap,λx hx=>?_,λx c hx e=>?_,I.ok.hd,I.ok.frames,.inl rfl,λb hb=>?_,I.bs,Nat.le_trans I.ok.bsz I.sz,λb o e hb=>?_,λb hb=>?_,I.stack,I.stkFree⟩,
  rfl,I.bare,Un.kept keep,⟨_,Dh,λi x v e1 e2 e3=>?_⟩,λx c e=>?_,I.hok.fresh (Nat.le_succ _),λx c e=>?_,λp hp=>absurd (show p∈([]:List (Addr×Obj)) from hp) (by simp),I.hok.kept keep,?_⟩
 .-- has
  rw[rel] at hx;have hk:scope.names.lookup x=some .cell\/scope.names.lookup x=some .free:=by
   cases q:scope.names.lookup x with
   |none=>rw[q] at hx;simp at hx
   |some k =>
    rw[q] at hx;simp only[o9,Option.some.injEq] at hx;by_cases hk:k = .free
    .exact .inr (by rw[hk])
    .have hb:(k==NameKind.free)=false:=by simpa using hk
     simp only[hb,Bool.false_and,Bool.false_eq_true,if_false] at hx;rcases hx with hx|hx
     .exact .inl (by rw[hx])
     .exact absurd hx hk
  show ∃c,(cellsFrom (s.heap.objs.size+1+1) scope.names cl).lookup x=some c;rw[FN,GX];rcases hk with hk|hk
  .obtain⟨c,hc⟩:=Option.isSome_iff_exists.mp (PySem.W.cellsFrom_some scope.names (s.heap.objs.size+1+1) [] (.inl hk));exact⟨c,by rw[hc];rfl⟩
  .obtain⟨c,hc⟩:=h2 x (gP hk);cases q:(cellsFrom (s.heap.objs.size+1+1) scope.names []).lookup x with
   |some d=>exact⟨d,rfl⟩
   |none=>exact⟨c,hc⟩
 .-- cab
  have hx':scope.names.lookup x=some .cell:=of_decide_eq_true hx;rcases cells x c e with⟨_,l1,_⟩|⟨_,m1⟩
  .show s.heap.objs.size<=c;omega
  .rw[ok.uniq _ m1] at hx';cases hx'
 .-- exf
  refine⟨?_,λx c e z=>?_⟩
  .exact dh (Nat.lt_succ_of_lt (wU b hb))
  .subst z;rcases cells x c e with⟨_,l1,_⟩|⟨z1,_⟩
   .exact absurd (dg (wU c hb) (Nat.le_trans (Nat.le_add_right _ 2) l1)) (gO _)
   .exact(hf c hb).2.2.2.2.1 x c z1 rfl
 .-- noex
  obtain⟨_,_,_,q,_⟩:=hf b hb;rcases q with q|q
  .exact I.ok.noex b o e q
  .exact absurd (dg (dg (cg e) I.ok.bsz) q) (gO _)
 .-- exfs
  intro z;obtain⟨_,f1,f2,_⟩:=hf b hb;exact(List.mem_cons.mp (I.stkSub b z)).elim f1 f2
 .-- loc
  have e1':N'[i]?=some x:=e1;obtain⟨j,hj,hv⟩:∃j,src[i]?=some (some j)/\σ[j]?=some (some v):=by
   unfold lU at e2;rw[gG] at e2;cases q:src[i]? with
   |none=>rw[q] at e2;simp at e2
   |some o =>
    rw[q] at e2;cases o with
    |none=>simp at e2
    |some j =>
     refine⟨j,rfl,?_⟩;simp only[o9,bQ,Option.some.injEq] at e2;cases q2:σ[j]? with
     |none=>rw[q2] at e2;simp at e2
     |some o2=>rw[q2] at e2;simp at e2;rw[e2]
  obtain⟨hN,hfr⟩:=ok.src i j x e1' hj;have hm:=gP hfr;have hk:=ok.free _ hm rfl;obtain⟨m,hn,hl⟩:=I.loc;obtain⟨u,ru,lk⟩:=hl j x v hN hv (by rcases hk with hk|hk;exact .inr (.inl hk);exact .inr (.inr hk));refine⟨u,ru,.inr ⟨?_,?_⟩⟩
  .rw[rel,hfr];simp only[o9];split
   .exact .inl rfl
   .exact .inr rfl
  .rcases lk with⟨q,_⟩|⟨_,c,hc,hcell⟩
   .rcases hk with hk|hk<;>(rw[q] at hk;cases hk)
   .refine⟨c,?_,hcell.keeps keep⟩;show(cellsFrom (s.heap.objs.size+1+1) scope.names cl).lookup x=some c;rw[FN,GX];have hnone:(cellsFrom (s.heap.objs.size+1+1) scope.names []).lookup x=none:=by
     cases q:(cellsFrom (s.heap.objs.size+1+1) scope.names []).lookup x with
     |none=>rfl
     |some d =>
      have:=ok.uniq _ (Fj (gP q)).2;rw[hfr] at this;cases this
    rw[hnone];obtain⟨c',hc'⟩:=h2 x hm;have:=(h1 x c' hc').2;rw[hc] at this;cases this;exact hc'
 .-- cell
  rcases cells x c e with⟨z1,_,_⟩|⟨z1,_⟩
  .exact⟨none,(O3.empty x c (gP z1)).1⟩
  .obtain⟨v,q⟩:=I.cell x c z1;exact⟨v,q.keeps keep⟩
 .-- freeC
  rcases cells x c e with⟨_,l1,_⟩|⟨z1,_⟩
  .exact I.hok.fresh (by omega)
  .exact I.freeC x c z1
 .-- len
  show(lU src σ).length=N'.length;unfold lU;rw[cZ];exact ok.len
end
theorem zhN{prog:Program}{w:World}{A:Around}{R:Result->Shared->Prop}{s:Shared}{elt target iter:Expr}{ifs:List Expr}{scope:Scope}{pos:Pos}{it acc:Value}{env:Env}(I:Nat->Shared->Prop)(turn:∀n s,I n s->wpAny (model prog w) A (pyNext it) (λr s₁=>match r with
  |none=>R (.ok .next) s₁
  |some v=>wpAny (model prog w) A (letOwnedTupleGo target it v) (λ_ s₀=>wpAny (model prog w) A (assign target env v) (λ_ s₂ =>
   wpAny (model prog w) A (forIn ifs true λc r=>if r=true then do let ok <-isTrue c env (eval c env);pure (ForInStep.yield ok) else pure (ForInStep.yield r)) (λok s₃ =>
    if ok=true then wpAny (model prog w) A (eval elt env) (λx s₄ =>
     wpAny (model prog w) A (call (.builtin "list.append") [acc,x]) (λ_ s₅=>∃m,m<n/\I m s₅) (λ_ _=>False) s₄) (λ_ _=>False) s₃
    else ∃m,m<n/\I m s₃) (λ_ _=>False) s₂) (λ_ _=>False) s₀) (λ_ _=>False) s₁) (λ_ _=>False) s)(n:Nat)(h:I n s):
 codeAny (model prog w) A (.compLoop (.ListComp elt [⟨target,iter,ifs,0⟩] scope pos) 0 it acc env) R s:=by
 refine codeAny_loop rfl I (λn s hI=>?_) n h;show wpAny _ A ((compTurn (.ListComp elt [⟨target,iter,ifs,0⟩] scope pos) 0 it acc env).onRaise (λx=>do noteFrame x env;theTreesLotGoes x)) _ _ s;refine wpAny_noted ?_;rw[compTurn_list];refine aF (wpAny_standAt (aF (iw (turn n s hI) (λr s₁ h₁=>?_) λ_ _ h'=>h'.elim)));cases r with
 |none=>exact bT h₁
 |some v =>
  refine aF (iw h₁ (λ_ s₀ h₀=>?_) λ_ _ h'=>h'.elim);refine aF (iw h₀ (λ_ s₂ h₂=>aF (iw h₂ (λok s₃ h₃=>?_) λ_ _ h'=>h'.elim)) λ_ _ h'=>h'.elim);cases ok with
  |false=>exact bT ⟨rfl,h₃⟩
  |true =>
   exact aF (aF (iw h₃ (λx s₄ h₄=>aF (iw h₄ (λ_ s₅ h₅=>bT (bT ⟨rfl,h₅⟩)) λ_ _ h'=>h'.elim)) λ_ _ h'=>h'.elim))
noncomputable def xJ(X:Cx)(ifs:List Expr)(t:TT):Prop :=
 ∀(pins:List (Addr×Obj)) (s:Shared) (σ:L2.St) (H:Hp) (Q:Bool->Hp->Prop),Inv X pins σ H s->t σ H Q ->
  wpAny (model X.prog X.w) X.A (forIn ifs true λc r=>if r=true then do let ok <-isTrue c X.env (eval c X.env);pure (ForInStep.yield ok) else pure (ForInStep.yield r)) (TP X pins σ Q) X.xe s
def zom{X:Cx}:xJ X [] (λ_ H Q=>Q true H):=λ_ _ _ H _ I h=>wpAny_tests_nil ⟨H,I,h⟩
def zol{X:Cx}{c:Expr}{t:TT}(h:PT X c t):xJ X [c] t:=λpins s σ H Q I q=>wpAny_tests_one (h pins s σ H Q I q)
noncomputable def Hv(J:It)(g:TG)(tt:TT)(te:TE)(Fin:List V->Hp->Prop)(W:Nat->Nat->List V->L2.St->Hp->Prop):Prop :=
 ∀i m ys τ H,W i m ys τ H->(J.stop i H/\Fin ys H)\/(J.go i H/\ys.length<sizeLine/\∀x H',J.yld i H x H'->g x τ H' λτ2 H2=>tt τ2 H2 λb H3 =>
  if b=true then te τ2 H3 λy H4=>∃m',m'<m/\W (i+1) m' (ys++[y]) τ2 H4 else ∃m',m'<m/\W (i+1) m' ys τ2 H3)
theorem fJ.track{P:Program}{w:World}{H:Hp}{h:Heap}{a:Addr}{o:HO}(x:fJ P w H h)(hn:H a=none)(new:bJ P w (upd H a o) h a o):fJ P w (upd H a o) h:=λb u e=>by
 by_cases hb:b=a
 .subst hb;rw[dU] at e;cases e;exact new
 .rw[bN hb] at e;exact(x b u e).stay (λc v _ q=>q) (λc q=>by rw[bN (fD q hn)];exact q) λc xs q=>by rw[bN (fD q hn)];exact q
theorem Un.track{fs ex:List Addr}{H H':Hp}{h h':Heap}{a:Addr}{o:HO}(u:Un fs ex H H' h h')(hn:H' a=none)(ha:h.get? a=none):Un fs ex H (upd H' a o) h h' where
 keep:=u.keep
 slot:=u.slot
 free:=λb ob q n hx=>by rw[bN (λz=>by rw[z,ha] at q;cases q)];exact u.free b ob q n hx
 there:=u.there
 tups:=λb xs q=>by rw[bN (fD (u.tups b xs q) hn)];exact u.tups b xs q
 frzs:=λb ob xs q=>by rw[bN (fD (u.frzs b ob xs q) hn)];exact u.frzs b ob xs q
 tbls:=λb ps q=>by obtain⟨m,e⟩:=u.tbls b ps q;exact⟨m,by rw[bN (fD e hn)];exact e⟩
theorem VG{X:Cx}{pins:List (Addr×Obj)}{σ:L2.St}{H:Hp}{s:Shared}{scope:Scope}{N':List Str}{src:List (Option Nat)}{cl:List (Str×Addr)}{fp:List Addr}{elt tg iter:Expr}{ifs:List Expr}{pos:Pos}{J:It}{it:Addr}{tn:Nat->Heap->Prop}{g:TG}{tt:TT}{te:TE}{Fin:List V->Hp->Prop}{W:Nat->Nat->List V->L2.St->Hp->Prop}{RR:Value->Addr->Result->Shared->Prop}{E:Value->Shared->Prop}(hc:X.calm=true)(ok:qw X scope N' src)(I:Inv X pins σ H s)(T:uV X.prog X.w X.K tg J fp it tn)(st:tn 0 s.heap)(hf:∀b∈fp,jE X pins H b)(h1:∀x c,cl.lookup x=some c->(x,NameKind.free)∈scope.names/\X.env.cells.lookup x=some c)(h2:∀x,(x,NameKind.free)∈scope.names->∃c,cl.lookup x=some c)(hY:∀Y,nZ X scope N' Y->PG Y tg g/\xJ Y ifs tt/\PE Y elt te)(w0:∃m,W 0 m [] (lU src σ) H)(turn:Hv J g tt te Fin W)(hRR:∀ys H' s' oC m,H' s.heap.objs.size=none->LCg.NsObj oC m->Inv X (pins++[(s.heap.objs.size+1,oC)]) σ (upd H' s.heap.objs.size (.lst ys)) s'->Fin ys H'->RR (.ref s.heap.objs.size) (s.heap.objs.size+1) (.ok .next) s'):
 wpAny (model X.prog X.w) X.A (newList []) (λacc s₃=>wpAny (model X.prog X.w) X.A (newFunctionEnv scope X.env.globals cl [] X.env.qual none .none (some X.env)) (λcenv s₄ =>
  codeAny (model X.prog X.w) X.A (.compStart (.ListComp elt [⟨tg,iter,ifs,0⟩] scope pos) 0 (.ref it) acc { cenv with scope:=relabel scope X.env }) (RR acc cenv.locals) s₄) E s₃) E s:=by
 have hfe:∀b∈fp,∃o,s.heap.get? b=some o:=λb hb=>by obtain⟨o,e,_⟩:=T.obj _ _ st b hb;exact⟨o,e⟩
 refine wpAny_newObj_type (ziL ?_);have hC:(s.heap.push { cls := .type "list",dict:=none,data := .seq ([]:List Value).toArray }).objs.size=s.heap.objs.size+1:=Heap.size_push ..;dsimp only;rw[hC];have I0:Inv (qx X scope N' cl s H fp) [] (lU src σ) H { s with heap:=pushCells ((s.heap.push { cls := .type "list",dict:=none,data := .seq ([]:List Value).toArray }).push { cls := .type "dict",data := .dict #[] }) scope.names } :=
  zmv I hf hfe ok h1 h2
 have wC:nZ X scope N' (qx X scope N' cl s H fp):=zkN;obtain⟨hg,ht,he⟩:=hY _ wC;generalize wN:qx X scope N' cl s H fp=Y at I0 wC hg ht he;have eP:Y.prog=X.prog:=wC.prog;have ew:Y.w=X.w:=wC.w;have eA:Y.A=X.A:=wC.A;have eK:Y.K=X.K:=wC.K;have uI:Y.calm=true:=wC.calm.trans hc;have rM:Y.env={ scope:=relabel scope X.env,locals:=s.heap.objs.size+1,globals:=X.env.globals,cells:=cellsFrom (s.heap.objs.size+1+1) scope.names cl,qual:=X.env.qual,func:=none,code:=X.env.code,frame:=X.env.frame,builtins:=X.env.builtins }:=by rw[<-wN];rfl
 have exe:Y.xe=λ_ _=>False:=by rw[<-wN];rfl
 have Hr:Y.fs=frs X.stack:=by rw[<-wN];rfl
 have X5:Y.ex=fp:=by rw[<-wN];rfl
 have P0:Y.s₀=s:=by rw[<-wN];rfl
 have eH0:Y.H₀=H:=by rw[<-wN];rfl
 have Qa:Y.pn=[]:=by rw[<-wN];rfl
 have eL:Y.env.locals=s.heap.objs.size+1:=by rw[rM]
 rw[<-rM];have wU:∀b∈fp,b<s.heap.objs.size:=λb hb=>by obtain⟨o,e⟩:=hfe b hb;exact cg e
 have hD:∀(τ:L2.St) (H':Hp) (s':Shared) (pn:List (Addr×Obj)),Inv Y pn τ H' s'->∀x c,Y.env.cells.lookup x=some c->c≠s.heap.objs.size:=λτ H' s' pn J' x c e z=>by
  have e':=e;rw[rM] at e';rcases Ky e' with q|⟨_,q⟩
  .have:=(Fj (gP q)).1;rw[z] at this;exact absurd (dg (Nat.lt_succ_self _) (Nat.le_trans (Nat.le_succ _) this)) (gO _)
  .obtain⟨v,q'⟩:=I.cell x c (h1 x c q).2;have:=q'.lt;rw[z] at this;exact absurd this (gO _)
 have stat:∀{H':Hp} {pn:List (Addr×Obj)},(∀b∈fp,H' b=none)->(∀p∈pn,p.1=s.heap.objs.size)->∀b∈fp,jE Y pn H' b:=λ{H' pn} hn hp b hb=>by
  refine⟨hn b hb,?_,?_,.inl (by rw[X5];exact hb),λx c e z=>?_,λp hm z=>?_⟩
  .rw[eL];exact dh (Nat.lt_succ_of_lt (wU b hb))
  .rw[Hr];intro z;exact(List.mem_cons.mp (I.stkSub b z)).elim (hf b hb).2.1 (hf b hb).2.2.1
  .subst z;rw[rM] at e;rcases Ky e with q|⟨_,q⟩
   .have:=(Fj (gP q)).1;exact absurd (dg (wU c hb) (Nat.le_trans (Nat.le_add_right _ 2) this)) (gO _)
   .exact(hf c hb).2.2.2.2.1 x c (h1 x c q).2 rfl
  .rw[Qa,uX] at hm;have e1:=hp p hm;rw[e1] at z;have:=wU b hb;rw[<-z] at this;exact absurd this (gO _)
 obtain⟨m0,w0⟩:=w0;have loop:∀s₃:Shared,s₃={ s with heap:=pushCells ((s.heap.push { cls := .type "list",dict:=none,data := .seq ([]:List Value).toArray }).push { cls := .type "dict",data := .dict #[] }) scope.names } ->
  codeAny (model X.prog X.w) X.A (.compLoop (.ListComp elt [⟨tg,iter,ifs,0⟩] scope pos) 0 (.ref it) (.ref s.heap.objs.size) Y.env) (RR (.ref s.heap.objs.size) (s.heap.objs.size+1)) s₃:=by
  rintro s₃ rfl
  refine zhN (λn s'=>∃i ys τ H' its k,Inv Y [(s.heap.objs.size,{ cls := .type "list",data := .seq (List.toArray its) k })] τ H' s'/\Vals ys its/\ys.length<=sizeLine/\tn i s'.heap/\(∀b∈fp,H' b=none)/\W i n ys τ H') ?_ m0 ?_
  .rintro n s3 ⟨i,ys,τ,H3,its,k,I3,rv,hlen,st3,Ho,w3⟩
   have XS:=stat Ho (pn:=[(s.heap.objs.size,{ cls := .type "list",data := .seq (List.toArray its) k })]) (by simp);rcases turn i n ys τ H3 w3 with⟨stop,fin⟩|⟨go,hlt,step⟩
   .have q:=T.done Y eP ew eK uI i _ s3 τ H3 (λ_ _=>False) I3 XS st3 stop;rw[eA] at q;refine bK q λr s4 ⟨hr,I4⟩=>?_;subst hr;obtain⟨oD,nD,_⟩:=I4.pin (s.heap.objs.size,{ cls := .type "list",data := .seq (List.toArray its) k }) (by rw[Qa];simp);obtain⟨m,hn,_⟩:=I4.loc;rw[eL] at hn;obtain⟨oC,heC,hoC⟩:=LCg.ns_obj hn;have un:=I4.base;rw[Hr,X5,eH0,P0] at un;have hfresh:s.heap.get? s.heap.objs.size=none:=by
     cases q:s.heap.get? s.heap.objs.size with
     |none=>rfl
     |some o=>exact absurd (cg q) (gO _)
    have hok:=I4.hok;rw[eP,ew] at hok;have hCn:H3 (s.heap.objs.size+1)=none:=by have:=I4.free;rw[eL] at this;exact this
    have I5:Inv X pins σ (upd H3 s.heap.objs.size (.lst ys)) s4:=by refine I.call' (ch:=fp) (by have:=I4.os;rw[P0] at this;exact this) (Un.track un nD hfresh) (fJ.track hok nD ⟨hlen,its,k,rv,oD⟩) I4.bare λb hb=>?_;exact⟨(hf b hb).2.2.2.1,(hf b hb).2.1,(hf b hb).2.2.2.2.1,(hf b hb).2.2.2.2.2⟩
    refine hRR ys H3 s4 oC m nD hoC ?_ fin;refine I5.pins_of λp hp=>?_;rcases lO.mp hp with z|z
    .exact I5.pin p (List.mem_append_right _ z)
    .have e:p=(s.heap.objs.size+1,oC):=by simpa using z
     subst e;have fo:=I.fpOk (b:=s.heap.objs.size+1) (H':=upd H3 s.heap.objs.size (.lst ys)) (Nat.le_succ _) (by rw[bN (Nat.ne_of_gt (Nat.lt_succ_self _))];exact hCn);obtain⟨es,ep,hd,_⟩:=hoC;exact⟨heC,fo.1,fo.2.1,fo.2.2.1,λv z=>by rw[hd] at z;cases z⟩
   .have q:=T.item Y eP ew eK uI i _ s3 τ H3 (λ_ _=>False) I3 XS st3 go;rw[eA] at q;refine bK q λr s4 ⟨u,hr,h4⟩=>?_;subst hr;refine bK h4 λ_ s5 ⟨x,H5,I5,r5,y5,vZ,PN⟩=>?_;have fo5:=stat PN (pn:=[(s.heap.objs.size,{ cls := .type "list",data := .seq (List.toArray its) k })]) (by simp);have Qp:=I5.pinned fo5 (T.obj _ _ vZ);have q:=hg _ s5 τ H5 x u _ Qp r5 (step x H5 y5);rw[eP,ew,eA,exe] at q;refine bK q λ_ s6 ⟨τ6,H6,I6,q6⟩=>?_;have q:=ht _ s6 τ6 H6 _ I6 q6;rw[eP,ew,eA,exe] at q;refine bK q λb s7 ⟨H7,I7,q7⟩=>?_;have after:∀{τ8:L2.St} {H8:Hp} {s8:Shared},Inv Y ([(s.heap.objs.size,{ cls := .type "list",data := .seq (List.toArray its) k })]++zU fp s5.heap) τ8 H8 s8 ->
     tn (i+1) s8.heap/\(∀b∈fp,H8 b=none)/\s8.heap.get? s.heap.objs.size=some { cls := .type "list",data := .seq (List.toArray its) k }/\H8 s.heap.objs.size=none:=λ{τ8 H8 s8} I8=>by
     have pi:∀b∈fp,∀o,s5.heap.get? b=some o->s8.heap.get? b=some o/\H8 b=none:=λb hb o e=>by have:=I8.pin (b,o) (List.mem_append_right _ (List.mem_append_right _ (K5 hb e)));exact⟨this.1,this.2.1⟩
     have pd:=I8.pin (s.heap.objs.size,{ cls := .type "list",data := .seq (List.toArray its) k }) (List.mem_append_right _ (List.mem_append_left _ (by simp)));refine⟨T.keep _ _ _ vZ λb hb o e=>(pi b hb o e).1,λb hb=>?_,pd.1,pd.2.1⟩;obtain⟨o,e,d⟩:=T.obj _ _ vZ b hb;exact(pi b hb o e).2
    cases b with
    |false =>
     rw[if_neg fB];rw[if_neg fB] at q7;obtain⟨m',hm,w7⟩:=q7;obtain⟨a1,a2,_,_⟩:=after I7;exact⟨m',hm,i+1,ys,τ6,H7,its,k,I7.unpinned,rv,hlen,a1,a2,w7⟩
    |true =>
     rw[if_pos rfl];rw[if_pos rfl] at q7;have q:=he _ s7 τ6 H7 _ I7 q7;rw[eP,ew,eA,exe] at q;refine bK q λv s8 ⟨y,H8,I8,r8,m',hm,w8⟩=>?_;obtain⟨a1,a2,aD,nD⟩:=after I8;refine append_at (hsz:=by rw[dM,<-rv.length];exact hlen) aD λh9 Xp e9=>?_;have hne:s.heap.objs.size≠Y.env.locals:=by rw[eL];exact dh (Nat.lt_succ_self _)
     have I8':Inv Y [] τ6 H8 s8:=I8.pins_of λp hp=>absurd hp (by simp);have I9:Inv Y [] τ6 H8 { s8 with heap:=h9 }:=I8'.turned (t':=s8.toks) (λb o hb e=>Xp.extBut b o hb e) nD hne (.inr (by rw[P0];exact bZ _)) (λx c e=>hD _ _ _ _ I8 x c e) (by rw[Qa];simp);have I10:Inv Y [(s.heap.objs.size,{ cls := .type "list",data := .seq (List.toArray (its++[v])) (k+1) })] τ6 H8 { s8 with heap:=h9 }:=I9.pins_of λp hp=>by
      have e:p=(s.heap.objs.size,{ cls := .type "list",data := .seq (List.toArray (its++[v])) (k+1) }):=by simpa using hp
      subst e;refine⟨by rw[<-List.push_toArray];exact e9,nD,hne,?_,λv z=>by cases z⟩;rw[Hr];intro z;rcases List.mem_cons.mp (I.stkSub _ z) with z|z
      .exact absurd I.lt (by rw[<-z];exact gO _)
      .exact I.nofs (bZ _) z
     refine⟨m',hm,i+1,ys++[y],τ6,H8,its++[v],k+1,I10,rv.append (.cons r8 .nil),by rw[jQ];exact hlt,?_,a2,w8⟩;exact T.keep _ _ _ a1 λb hb o e=>Xp.extBut b o (dh (wU b hb)) e
  .refine⟨0,[],lU src σ,H,[],0,?_,.nil,Nat.zero_le _,?_,λb hb=>(hf b hb).1,w0⟩
   .refine I0.pins_of λp hp=>?_;have e:p=(s.heap.objs.size,{ cls := .type "list",data := .seq (List.toArray []) 0 }):=by simpa using hp
    subst e;refine⟨pushCells_keeps _ _ _ _ (cX _ (gB _ rfl)),I.hok.fresh (bZ _),by rw[eL];exact dh (Nat.lt_succ_self _),?_,λv z=>by cases z⟩;rw[Hr];intro z;rcases List.mem_cons.mp (I.stkSub _ z) with z|z
    .exact absurd I.lt (by rw[<-z];exact gO _)
    .exact I.nofs (bZ _) z
   .exact T.keep _ _ _ st λb hb o e=>pushCells_keeps _ _ _ _ (cX _ (cX _ e))
 exact codeAny_compStart_list (loop _ rfl) (T.self _ 0 _ _ _ (T.keep _ _ _ st λb hb o e=>pushCells_keeps _ _ _ _ (cX _ (cX _ e))) (loop _ rfl))
noncomputable def tLc(wi:TI)(g:TG)(tt:TT)(te:TE)(src:List (Option Nat)):TE:=λσ H Q=>wi σ H λJ H1=>∃W,(∃m,W 0 m [] (lU src σ) H1) /\
 Hv J g tt te (λys H'=>∀p,H' p=none->Q (.ref p) (upd H' p (.lst ys))) W
section
variable {X:Cx}{elt tg iter:Expr}{ifs:List Expr}{scope:Scope}{pos:Pos}{N':List Str}{src:List (Option Nat)}{wi:TI}{g:TG}{tt:TT}{te:TE}
def SN(ok:qw X scope N' src){pins:List (Addr×Obj)}{σ:L2.St}{H:Hp}{s:Shared}(I:Inv X pins σ H s):∃cl,closureFor scope X.env=pure cl /\
 (∀x c,cl.lookup x=some c->(x,NameKind.free)∈scope.names/\X.env.cells.lookup x=some c)/\∀x,(x,NameKind.free)∈scope.names->∃c,cl.lookup x=some c :=
 zpC (scope:=scope) (env:=X.env) λy hy e=>I.ok.has y.1 (ok.free y hy e)
theorem Zr(hc:X.calm=true)(ok:qw X scope N' src)(hi:PI X tg iter wi)(hY:∀Y,nZ X scope N' Y->PG Y tg g/\xJ Y ifs tt/\PE Y elt te)(hs:∀x,foldedSetIterable iter X.env x=pure x):PE X (.ListComp elt [⟨tg,iter,ifs,0⟩] scope pos) (tLc wi g tt te src):=by intro pins s σ H Q I h;obtain⟨cl,hclos,h1,h2⟩:=SN ok I;rw[eval_ListComp];refine wpAny_comprehension_free (use:=none) rfl hs hclos ok.kind (λy hy e=>by rw[ok.uniq y hy,e]) ?_;refine bK (hi pins s σ H _ I h) λv s1 q1=>bK q1 λitv s2 q2=>?_;obtain⟨it,fp,tn,J,H2,e,I2,T,st2,f2,W,w0,turn⟩:=q2;subst e;refine VG (RR:=λacc C=>compPost (model X.prog X.w) X.A X.xe none (EP X pins σ Q) acc C) hc ok I2 T st2 f2 h1 h2 hY w0 turn ?_;intro ys H' s' oC m nD hoC I3 fin;obtain⟨heC,nC,uz,nfC,dC⟩:=I3.pin (s2.heap.objs.size+1,oC) (List.mem_append_right _ (List.mem_append_right _ (by simp)));refine⟨m,hoC.ns heC,λh'' sb=>⟨.ref s2.heap.objs.size,_,?_,rfl,fin _ nD⟩⟩;have I4:Inv X pins σ (upd H' s2.heap.objs.size (.lst ys)) s':=I3.unpinned;have fo:=I2.fpOk (b:=s2.heap.objs.size+1) (H':=upd H' s2.heap.objs.size (.lst ys)) (Nat.le_succ _) nC;exact I4.turned (t':=s'.toks) (λb o hb e=>sb.extBut b o hb e) nC fo.2.1 fo.2.2.2.1 fo.2.2.2.2.1 fo.2.2.2.2.2
noncomputable def Oc(wi:TI)(g:TG)(tt:TT)(te:TE)(src:List (Option Nat))(i:Nat):TS:=λD σ H=>wi σ H λJ H1=>∃W,(∃m,W 0 m [] (lU src σ) H1) /\
 Hv J g tt te (λys H'=>∀p,H' p=none->D.nx (σ.set i (some (.ref p))) (upd H' p (.lst ys))) W
theorem zl7{y:Str}{py spos:Pos}{i:Nat}(hN:X.N.Nodup)(Pk:X.N[i]?=some y)(hy:X.env.kindOf y=some .local)(hsw:swapsWith (.ListComp elt [⟨tg,iter,ifs,0⟩] scope pos) (some (.Name y py)) spos.line X.env=pure true)(hc:X.calm=true)(ok:qw X scope N' src)(hi:PI X tg iter wi)(hY:∀Y,nZ X scope N' Y->PG Y tg g/\xJ Y ifs tt/\PE Y elt te)(hs:∀x,foldedSetIterable iter X.env x=pure x):PS X (.Assign [.Name y py] (.ListComp elt [⟨tg,iter,ifs,0⟩] scope pos) spos) (Oc wi g tt te src i):=by
 intro pins s σ H D I h;obtain⟨cl,hclos,h1,h2⟩:=SN ok I;rw[exec_Assign_Name_used _ _ _ _ hsw];refine aF (wpAny_standAt (aF ?_));show wpAny _ _ (do let _ <-comprehension (.ListComp elt [⟨tg,iter,ifs,0⟩] scope pos) scope X.env _ (newList []) false (eval iter X.env) (some (assign (.Name y py) X.env))) _ _ s;refine aF (iw (wpAny_comprehension_free (use:=some (assign (.Name y py) X.env)) (Q:=λ_ s'=>SP X pins D .next s') rfl hs hclos ok.kind (λy hy e=>by rw[ok.uniq y hy,e])
  ?_) (λ_ s' hq=>bT (bT hq)) λ_ _ e=>e)
 refine bK (hi pins s σ H _ I h) λv s1 q1=>bK q1 λitv s2 q2=>?_;obtain⟨it,fp,tn,J,H2,e,I2,T,st2,f2,W,w0,turn⟩:=q2;subst e;refine VG (RR:=λacc C=>compPost (model X.prog X.w) X.A X.xe (some (assign (.Name y py) X.env)) (λ_ s'=>SP X pins D .next s') acc C) hc ok I2 T st2 f2 h1 h2 hY w0 turn ?_;intro ys H' s' oC m nD hoC I3 fin;show wpAny _ _ (assign (.Name y py) X.env (.ref s2.heap.objs.size)) _ _ s';refine wpAny_assign_Name (Gi I3 hN Pk (.inl hy) (v := .ref s2.heap.objs.size) rfl (λs3 I4=>?_) (.inr hy));obtain⟨heC,nC,uz,nfC,dC⟩:=I4.pin (s2.heap.objs.size+1,oC) (List.mem_append_right _ (List.mem_append_right _ (by simp)));refine⟨m,hoC.ns heC,λh'' sb=>⟨_,_,?_,fin _ nD⟩⟩;have I5:Inv X pins _ (upd H' s2.heap.objs.size (.lst ys)) s3:=I4.unpinned;have fo:=I2.fpOk (b:=s2.heap.objs.size+1) (H':=upd H' s2.heap.objs.size (.lst ys)) (Nat.le_succ _) nC;exact I5.turned (t':=s3.toks) (λb o hb e=>sb.extBut b o hb e) nC fo.2.1 fo.2.2.2.1 fo.2.2.2.2.1 fo.2.2.2.2.2
end
noncomputable abbrev TF:=Sg->So->Option (Bool×So)
noncomputable abbrev AF:=Sg->So->Option (List D×So)
inductive Fl where
 |nx|bk|ct|rt (d:D)
noncomputable abbrev SF:=Sg->So->Option (Fl×Sg×So)
noncomputable abbrev GF:=D->Sg->So->Option (Sg×So)
def Kb(K:FgA)(H:Hp)(α:List Addr)(S':So)(Q:Hp->Prop):Prop:=∀H' α',aq K H' α' S'->Ext K H α H' α'->Q H'
noncomputable def Ci(K:FgA)(f:TF):TT:=λσ H Q=>∃σd S α b S',bD K H α σd σ/\aq K H α S/\f σd S=some (b,S')/\Kb K H α S' (Q b)
def ST(X:Cx)(e:Expr)(f:TF):Prop:=PT X e (Ci X.K f)
def SW(X:Cx)(e:Expr)(f:TF):Prop:=PW X e (Ci X.K f)
noncomputable def Xr(K:FgA)(f:AF):TA:=λσ H Q=>∃σd S α ds S',bD K H α σd σ/\aq K H α S/\f σd S=some (ds,S')/\∀vs H' α',aq K H' α' S'->Ext K H α H' α'->aB K H' α' ds vs->Q vs H'
def SA(X:Cx)(es:List Expr)(f:AF):Prop:=PA X es (Xr X.K f)
noncomputable def Ks(K:FgA)(H:Hp)(α:List Addr)(fl:Fl)(σd':Sg)(S':So)(D:qj):Prop :=
 ∀σ' H' α',bD K H' α' σd' σ'->aq K H' α' S'->Ext K H α H' α'->match fl with
  |.nx=>D.nx σ' H'
  |.bk=>D.bk σ' H'
  |.ct=>D.ct σ' H'
  |.rt d=>∀v,Rep K H' α' d v->D.rt v H'
noncomputable def Cj(K:FgA)(f:SF):TS:=λD σ H=>∃σd S α fl σd' S',bD K H α σd σ/\aq K H α S/\f σd S=some (fl,σd',S')/\Ks K H α fl σd' S' D
def SS(X:Cx)(st:Stmt)(f:SF):Prop:=PS X st (Cj X.K f)
def uN(X:Cx)(sts:List Stmt)(f:SF):Prop:=fM X sts (Cj X.K f)
noncomputable def Ow(K:FgA)(f:GF):TG:=λv σ H Q=>∃σd S α d σd' S',bD K H α σd σ/\aq K H α S/\Rep K H α d v/\f d σd S=some (σd',S') /\
 ∀σ' H' α',bD K H' α' σd' σ'->aq K H' α' S'->Ext K H α H' α'->Q σ' H'
def SG(X:Cx)(tg:Expr)(f:GF):Prop:=PG X tg (Ow X.K f)
def PT.imp{X:Cx}{e:Expr}{t t':TT}(h:PT X e t)(k:∀σ H Q,t' σ H Q->t σ H Q):PT X e t':=λpins s σ H Q I q=>h pins s σ H Q I (k σ H Q q)
def PW.imp{X:Cx}{e:Expr}{t t':TT}(h:PW X e t)(k:∀σ H Q,t' σ H Q->t σ H Q):PW X e t':=λwh pins s σ H Q I q=>h wh pins s σ H Q I (k σ H Q q)
def PA.imp{X:Cx}{e:List Expr}{t t':TA}(h:PA X e t)(k:∀σ H Q,t' σ H Q->t σ H Q):PA X e t':=λpos pins s σ H Q I q=>h pos pins s σ H Q I (k σ H Q q)
def PS.imp{X:Cx}{e:Stmt}{t t':TS}(h:PS X e t)(k:∀D σ H,t' D σ H->t D σ H):PS X e t':=λpins s σ H D I q=>h pins s σ H D I (k D σ H q)
def fM.imp{X:Cx}{e:List Stmt}{t t':TS}(h:fM X e t)(k:∀D σ H,t' D σ H->t D σ H):fM X e t':=λpins s σ H D I q=>h pins s σ H D I (k D σ H q)
def PG.imp{X:Cx}{e:Expr}{t t':TG}(h:PG X e t)(k:∀v σ H Q,t' v σ H Q->t v σ H Q):PG X e t':=λpins s σ H v u Q I r q=>h pins s σ H v u Q I r (k v σ H Q q)
def PI.imp{X:Cx}{tg e:Expr}{t t':TI}(h:PI X tg e t)(k:∀σ H Q,t' σ H Q->t σ H Q):PI X tg e t':=λpins s σ H Q I q=>h pins s σ H Q I (k σ H Q q)
noncomputable def aj(i:Nat):EF:=λσ S=>match σ[i]? with
 |some (some d)=>some (d,S)
 |_=>none
noncomputable def eC(d:D):EF:=λ_ S=>some (d,S)
noncomputable def eB(g:G2)(fa fb:EF):EF:=λσ S=>(fa σ S).bind λr=>(fb σ r.2).bind λq=>g r.1 q.1 q.2
noncomputable def eU(g:D->So->Option (D×So))(fa:EF):EF:=λσ S=>(fa σ S).bind λr=>g r.1 r.2
noncomputable def au:AF:=λ_ S=>some ([],S)
noncomputable def ak(fa:EF)(fr:AF):AF:=λσ S=>(fa σ S).bind λr=>(fr σ r.2).bind λq=>some (r.1::q.1,q.2)
noncomputable def eN(g:GN)(fa:AF):EF:=λσ S=>(fa σ S).bind λr=>g r.1 r.2
noncomputable def uJ(t:TF)(fa fb:EF):EF:=λσ S=>(t σ S).bind λr=>if r.1=true then fa σ r.2 else fb σ r.2
noncomputable def cB:GN:=λds S=>if ds.length<=sizeLine then some (.tup ds,S) else none
noncomputable def lu:GN:=λds S=>if ds.length<=sizeLine then some (.ref S.length,S++[.lst ds]) else none
section
variable {X:Cx}{a b:Expr}{fa fb:EF}{pos:Pos}
theorem ZF{i:Nat}{x:Str}(hN:X.N[i]?=some x)(hv:p7 X.env.scope x)(hd:(x==("__debug__" : Str))=false)(hcd:(x==("__classdict__" : Str))=false):SE X (.Name x pos) (aj i):=by
 refine PE.imp (yt hN hv hd hcd) λσ H Q h=>?_;obtain⟨σd,S,α,z,S',hv,hs,hf,k⟩:=h;unfold aj at hf;split at hf
 .rename_i d e;cases hf;obtain⟨v,h1,h2⟩:=hv.2 i _ e;exact⟨v,h1,k.same hs h2⟩
 .cases hf
theorem oF{e:Expr}{d:D}{v:V}(h:PE X e (tC v))(r:∀H α,Rep X.K H α d v):SE X e (eC d):=by refine PE.imp h λσ H Q h=>?_;obtain⟨σd,S,α,z,S',hv,hs,hf,k⟩:=h;cases hf;exact k.same hs (r _ _)
def zqD{i:Int}{j}:SE X (.Constant (.int i) j pos) (eC (.int i)):=oF Rj λ_ _ => .int i
def YL{i:Bool}{j}:SE X (.Constant (.bool i) j pos) (eC (.bl i)):=oF Jf λ_ _ => .bl i
def Zy{j}:SE X (.Constant .none j pos) (eC .non):=oF Z9 λ_ _ => .non
def ZC{x:Str}{j}:SE X (.Constant (.str x) j pos) (eC (.str x)):=oF vA λ_ _ => .str x
theorem Hf{K:FgA}{g:G2}{σ:L2.St}{H:Hp}{Q:VK}(h:wg K (eB g fa fb) σ H Q):wg K fa σ H λx H1=>wg K fb σ H1 λy H2=>nO K g x y H2 Q:=by obtain⟨σd,S,α,z,S',hv,hs,hf,k⟩:=h;unfold eB at hf;simp only[aW] at hf;obtain⟨⟨x,S1⟩,e1,⟨y,S2⟩,e2,e3⟩:=hf;refine⟨σd,S,α,x,S1,hv,hs,e1,λv H1 α1 s1 x1 r1=>⟨σd,S1,α1,y,S2,hv.mono x1,s1,e2,λu H2 α2 s2 x2 r2=>?_⟩⟩;exact⟨S2,α2,x,y,z,S',s2,r1.mono x2,r2,e3,k.trans (x1.trans x2)⟩
def YW{op:Operator}(ha:SE X a fa)(hb:SE X b fb):SE X (.BinOp a op b pos) (eB (aP op) fa fb) :=
 PE.imp (Zt (zoN op) ha hb) λ_ _ _ h=>Hf h
def zqF{op:CmpOp}(hu:X.A.units+64<cLine)(h1:op ≠ .In)(h2:op ≠ .NotIn)(ha:SE X a fa)(hb:SE X b fb):SE X (.Compare a [op] [b] pos) (eB (aZ op) fa fb) :=
 PE.imp (zoz (R5 hu op) ha hb (Il b h1 h2)) λ_ _ _ h=>Hf h
def YQ(hp:Ij b)(ha:SE X a fa)(hb:SE X b fb):SE X (.Subscript a b pos) (eB aL fa fb) :=
 PE.imp (QS ixs ha hb hp) λ_ _ _ h=>Hf h
noncomputable def u9:D->So->Option (D×So)
 |.int i,S=>some (.int (-i),S)
 |_,_=>none
theorem Zx(ha:SE X a fa):SE X (.UnaryOp .USub a pos) (eU u9 fa):=by
 refine PE.imp (Zv zpO ha) λσ H Q h=>?_;obtain⟨σd,S,α,z,S',hv,hs,hf,k⟩:=h;unfold eU at hf;simp only[aW] at hf;obtain⟨⟨x,S1⟩,e1,e2⟩:=hf;refine⟨σd,S,α,x,S1,hv,hs,e1,λv H1 α1 s1 x1 r1=>?_⟩;cases r1 with
 |int i=>cases e2;exact⟨_,rfl,(k.trans x1).same s1 (.int _)⟩
 |_=>cases e2
def zqH:SA X [] au:=by refine PA.imp tL λσ H Q h=>?_;obtain⟨σd,S,α,ds,S',hv,hs,hf,k⟩:=h;cases hf;exact k _ _ _ hs Ext.refl .nil
theorem zoi{e:Expr}{es:List Expr}{fe:EF}{fr:AF}(ha:SE X e fe)(hr:SA X es fr)(hst:starEach (e::es) X.env=(false,eval e X.env)::starEach es X.env):SA X (e::es) (ak fe fr):=by refine PA.imp (jM ha hr hst) λσ H Q h=>?_;obtain⟨σd,S,α,ds,S',hv,hs,hf,k⟩:=h;unfold ak at hf;simp only[aW] at hf;obtain⟨⟨x,S1⟩,e1,⟨ys,S2⟩,e2,e3⟩:=hf;cases e3;exact⟨σd,S,α,x,S1,hv,hs,e1,λv H1 α1 s1 x1 r1=>⟨σd,S1,α1,ys,_,hv.mono x1,s1,e2,λvs H2 α2 s2 x2 r2=>k _ _ _ s2 (x1.trans x2) (.cons (r1.mono x2) r2)⟩⟩
theorem Ck{K:FgA}{g:GN}{fa:AF}{σ:L2.St}{H:Hp}{Q:VK}(h:wg K (eN g fa) σ H Q):Xr K fa σ H λvs H1=>jt K g vs H1 Q:=by obtain⟨σd,S,α,z,S',hv,hs,hf,k⟩:=h;unfold eN at hf;simp only[aW] at hf;obtain⟨⟨ds,S1⟩,e1,e2⟩:=hf;exact⟨σd,S,α,ds,S1,hv,hs,e1,λvs H1 α1 s1 x1 r1=>⟨S1,α1,ds,z,S',s1,r1,e2,k.trans x1⟩⟩
theorem ZD{es:List Expr}{fs:AF}{k0}(h:SA X es fs):SE X (.Tuple es k0 pos) (eN cB fs):=by
 refine PE.imp (Rk h) λσ H Q q=>?_;obtain⟨σd,S,α,ds,S1,hv,hs,e1,k⟩:=Ck q;refine⟨σd,S,α,ds,S1,hv,hs,e1,λvs H1 α1 s1 x1 r1=>?_⟩;obtain⟨S2,α2,ds',z,S3,s2,r2,e2,k2⟩:=k vs H1 α1 s1 x1 r1;unfold cB at e2;split at e2
 .rename_i hl;cases e2;refine⟨by rw[<-r2.length];exact hl,λp hp=>?_⟩;exact k2.new s2 (lE hp) (.tup (dG.of dU) (r2.mono (Same.ext (lE hp))))
 .cases e2
theorem zqB{es:List Expr}{fs:AF}(h:SA X es fs):SE X (.List es pos) (eN lu fs):=by
 refine PE.imp (Jq h) λσ H Q q=>?_;obtain⟨σd,S,α,ds,S1,hv,hs,e1,k⟩:=Ck q;refine⟨σd,S,α,ds,S1,hv,hs,e1,λvs H1 α1 s1 x1 r1=>?_⟩;obtain⟨S2,α2,ds',z,S3,s2,r2,e2,k2⟩:=k vs H1 α1 s1 x1 r1;unfold lu at e2;split at e2
 .rename_i hl;cases e2;refine⟨by rw[<-r2.length];exact hl,λp hp=>?_⟩;obtain⟨s',e'⟩:=s2.snoc (p:=p) (o := .lst ds') (u := .lst vs) hp λα' e=>⟨_,dU,r2.mono e⟩
  exact k2 _ _ _ s' e' (.ref (by rw[<-s2.len];simp))
 .cases e2
noncomputable def qT:D->So->Option Bool
 |.non,_=>some false
 |.bl b,_=>some b
 |.int i,_=>some (i != 0)
 |.str x,_=>if x.length<=sizeLine then some ((x.length:Int) != 0) else none
 |.tup xs,_=>some (!xs.isEmpty)
 |.ref n,S=>match S[n]? with
  |some (.lst xs)=>some (!xs.isEmpty)
  |some (.frz xs)=>some (!xs.isEmpty)
  |_=>none
 |_,_=>none
def Lq{K:FgA}{H:Hp}{α:List Addr}{ds:List D}{vs:List V}(r:aB K H α ds vs):(!ds.isEmpty) = !vs.isEmpty:=by cases r<;>rfl
theorem znz{K:FgA}{H:Hp}{α:List Addr}{S:So}{d:D}{v:V}{b:Bool}(hs:aq K H α S)(r:Rep K H α d v)(e:qT d S=some b):xG K v H b:=by
 cases r with
 |non=>cases e;exact rfl
 |bl b=>cases e;exact rfl
 |int i=>cases e;exact rfl
 |str x =>
  have e':(if x.length<=sizeLine then some ((x.length:Int) != 0) else none)=some b:=e;split at e'
  .rename_i hl;cases e';exact⟨hl,rfl⟩
  .cases e'
 |tup h r=>cases e;exact .inr (.inl ⟨_,h,Lq r⟩)
 |@ref n a h =>
  simp only[qT] at e;cases hm:S[n]? with
  |none=>simp[hm] at e
  |some o =>
   simp only[hm] at e;have hob:=hs.obj _ _ _ hm h;cases o with
   |lst xs =>
    cases e;obtain⟨vs,h1,r⟩:=hob;exact .inl ⟨_,cQ.of h1,Lq r⟩
   |frz xs =>
    cases e;obtain⟨vs,h1,r⟩:=hob;exact .inl ⟨_,h1.sq,Lq r⟩
   |ins C fs=>cases e
   |dct xs=>cases e
   |tbl x=>cases e
 |ty n=>cases e
 |adr a=>cases e
 |obj _ _ _ _ _=>cases e
noncomputable def gY(fa:EF):TF:=λσ S=>(fa σ S).bind λr=>(qT r.1 r.2).map λb=>(b,r.2)
theorem zp8(ha:SE X a fa)(he:∀whole,isTrue a X.env whole=(do let v <-whole;standAt a.pos;holding [v] (truthy v))):ST X a (gY fa):=by refine PT.imp (zl5 ha he) λσ H Q h=>?_;obtain⟨σd,S,α,b,S',hv,hs,hf,k⟩:=h;unfold gY at hf;simp only[aW,aR] at hf;obtain⟨⟨x,S1⟩,e1,c,e2,e3⟩:=hf;cases e3;exact⟨σd,S,α,x,S1,hv,hs,e1,λv H1 α1 s1 x1 r1=>⟨b,znz s1 r1 e2,k _ _ s1 x1⟩⟩
noncomputable def bW(fa:EF):TF:=λσ S=>(fa σ S).bind λr=>match r.1 with
 |.bl b=>some (b,r.2)
 |_=>none
theorem Z6{op:CmpOp}(hu:X.A.units+64<cLine)(h1:op ≠ .In)(h2:op ≠ .NotIn)(ha:SE X a fa)(hb:SE X b fb):ST X (.Compare a [op] [b] pos) (bW (eB (aZ op) fa fb)):=by
 refine PT.imp (TX (R5 hu op) ha hb (Il b h1 h2)) λσ H Q h=>?_;obtain⟨σd,S,α,c,S',hv,hs,hf,k⟩:=h;unfold bW at hf;simp only[aW] at hf;obtain⟨⟨z,S1⟩,e1,e2⟩:=hf;cases z with
 |bl c' =>
  cases e2;exact Hf ⟨σd,S,α,.bl c,_,hv,hs,e1,λv H1 α1 s1 x1 r1=>by cases r1;exact⟨c,rfl,k _ _ s1 x1⟩⟩
 |_=>cases e2
noncomputable def mZ(t:TF):TF:=λσ S=>(t σ S).map λr=>(!r.1,r.2)
theorem zp9{t:TF}(ha:ST X a t):ST X (.UnaryOp .Not a pos) (mZ t):=by refine PT.imp (Jz ha) λσ H Q h=>?_;obtain⟨σd,S,α,c,S',hv,hs,hf,k⟩:=h;unfold mZ at hf;simp only[aR] at hf;obtain⟨⟨b,S1⟩,e1,e2⟩:=hf;cases e2;exact⟨σd,S,α,b,S1,hv,hs,e1,k⟩
noncomputable def pK(t u:TF):TF:=λσ S=>(t σ S).bind λr=>if r.1=true then u σ r.2 else some (false,r.2)
noncomputable def iW(t u:TF):TF:=λσ S=>(t σ S).bind λr=>if r.1=true then some (true,r.2) else u σ r.2
def znK{t:TF}(ha:ST X a t):SW X (.BoolOp .And [a] pos) t:=zok ha
def zp6{t:TF}(ha:ST X a t):SW X (.BoolOp .Or [a] pos) t:=Rt ha
theorem zp7{t u:TF}{rest:List Expr}(ha:ST X a t)(hb:SW X (.BoolOp .And (b::rest) pos) u):SW X (.BoolOp .And (a::b::rest) pos) (pK t u):=by
 refine PW.imp (zqJ ha hb) λσ H Q h=>?_;obtain⟨σd,S,α,c,S',hv,hs,hf,k⟩:=h;unfold pK at hf;simp only[aW] at hf;obtain⟨⟨b1,S1⟩,e1,e2⟩:=hf;refine⟨σd,S,α,b1,S1,hv,hs,e1,λH1 α1 s1 x1=>?_⟩;cases b1 with
 |true =>
  rw[if_pos rfl];rw[if_pos rfl] at e2;exact⟨σd,S1,α1,c,S',hv.mono x1,s1,e2,λH2 α2 s2 x2=>k _ _ s2 (x1.trans x2)⟩
 |false =>
  rw[if_neg fB];rw[if_neg fB] at e2;cases e2;exact k _ _ s1 x1
theorem Y5{t u:TF}{rest:List Expr}(ha:ST X a t)(hb:SW X (.BoolOp .Or (b::rest) pos) u):SW X (.BoolOp .Or (a::b::rest) pos) (iW t u):=by
 refine PW.imp (Je ha hb) λσ H Q h=>?_;obtain⟨σd,S,α,c,S',hv,hs,hf,k⟩:=h;unfold iW at hf;simp only[aW] at hf;obtain⟨⟨b1,S1⟩,e1,e2⟩:=hf;refine⟨σd,S,α,b1,S1,hv,hs,e1,λH1 α1 s1 x1=>?_⟩;cases b1 with
 |true =>
  rw[if_pos rfl];rw[if_pos rfl] at e2;cases e2;exact k _ _ s1 x1
 |false =>
  rw[if_neg fB];rw[if_neg fB] at e2;exact⟨σd,S1,α1,c,S',hv.mono x1,s1,e2,λH2 α2 s2 x2=>k _ _ s2 (x1.trans x2)⟩
theorem YM{c:Expr}{t:TF}(hc:ST X c t)(ha:SE X a fa)(hb:SE X b fb):SE X (.IfExp c a b pos) (uJ t fa fb):=by
 refine PE.imp (zmf hc ha hb) λσ H Q h=>?_;obtain⟨σd,S,α,z,S',hv,hs,hf,k⟩:=h;unfold uJ at hf;simp only[aW] at hf;obtain⟨⟨b1,S1⟩,e1,e2⟩:=hf;refine⟨σd,S,α,b1,S1,hv,hs,e1,λH1 α1 s1 x1=>?_⟩;cases b1 with
 |true =>
  rw[if_pos rfl];rw[if_pos rfl] at e2;exact⟨σd,S1,α1,z,S',hv.mono x1,s1,e2,k.trans x1⟩
 |false =>
  rw[if_neg fB];rw[if_neg fB] at e2;exact⟨σd,S1,α1,z,S',hv.mono x1,s1,e2,k.trans x1⟩
noncomputable def mJ(fa:EF):EF:=λσ S=>(fa σ S).bind λr=>match r.1 with
 |.bl b=>some (.bl (!b),r.2)
 |_=>none
theorem Zz(ha:SE X a fa):SE X (.UnaryOp .Not a pos) (mJ fa):=by
 refine PE.imp (zqV ha) λσ H Q h=>?_;obtain⟨σd,S,α,z,S',hv,hs,hf,k⟩:=h;unfold mJ at hf;simp only[aW] at hf;obtain⟨⟨x,S1⟩,e1,e2⟩:=hf;refine⟨σd,S,α,x,S1,hv,hs,e1,λv H1 α1 s1 x1 r1=>?_⟩;cases r1 with
 |bl c=>cases e2;exact⟨c,rfl,(k.trans x1).same s1 (.bl _)⟩
 |_=>cases e2
noncomputable def pA(fa fb:EF):EF:=λσ S=>(fa σ S).bind λr=>match r.1 with
 |.bl true=>fb σ r.2
 |.bl false=>some (.bl false,r.2)
 |_=>none
noncomputable def zy(fa fb:EF):EF:=λσ S=>(fa σ S).bind λr=>match r.1 with
 |.bl true=>some (.bl true,r.2)
 |.bl false=>fb σ r.2
 |_=>none
def zl3{op}(ha:SE X a fa):SE X (.BoolOp op [a] pos) fa:=zqU ha
theorem zqG{rest:List Expr}(ha:SE X a fa)(hb:SE X (.BoolOp .And (b::rest) pos) fb):SE X (.BoolOp .And (a::b::rest) pos) (pA fa fb):=by
 refine PE.imp (zq0 ha hb) λσ H Q h=>?_;obtain⟨σd,S,α,z,S',hv,hs,hf,k⟩:=h;unfold pA at hf;simp only[aW] at hf;obtain⟨⟨x,S1⟩,e1,e2⟩:=hf;refine⟨σd,S,α,x,S1,hv,hs,e1,λv H1 α1 s1 x1 r1=>?_⟩;cases r1 with
 |bl c =>
  refine⟨c,rfl,?_⟩;cases c with
  |true=>rw[if_pos rfl];exact⟨σd,S1,α1,z,S',hv.mono x1,s1,e2,k.trans x1⟩
  |false=>rw[if_neg fB];cases e2;exact(k.trans x1).same s1 (.bl _)
 |_=>cases e2
theorem YX{rest:List Expr}(ha:SE X a fa)(hb:SE X (.BoolOp .Or (b::rest) pos) fb):SE X (.BoolOp .Or (a::b::rest) pos) (zy fa fb):=by
 refine PE.imp (Zu ha hb) λσ H Q h=>?_;obtain⟨σd,S,α,z,S',hv,hs,hf,k⟩:=h;unfold zy at hf;simp only[aW] at hf;obtain⟨⟨x,S1⟩,e1,e2⟩:=hf;refine⟨σd,S,α,x,S1,hv,hs,e1,λv H1 α1 s1 x1 r1=>?_⟩;cases r1 with
 |bl c =>
  refine⟨c,rfl,?_⟩;cases c with
  |false=>rw[if_neg fB];exact⟨σd,S1,α1,z,S',hv.mono x1,s1,e2,k.trans x1⟩
  |true=>rw[if_pos rfl];cases e2;exact(k.trans x1).same s1 (.bl _)
 |_=>cases e2
end
noncomputable def sV(K:FgA)(n:Nat)(φ:GN):Sp:=λvs H Q _=>vs.length=n/\jt K φ vs H Q
def uP(X:Cx)(x:Str)(n:Nat)(φ:GN):Prop:=∃f fd ps k,X.mg x=some (.ref f)/\PySem.W.keepIn X.K (.ref f)=true/\Binds X.K fd ps [] /\
 bO X.prog X.w X.K X.mg X.base fV k f fd ps (sV X.K n φ)/\aU k X.A
section
variable {X:Cx}{x:Str}{p pos:Pos}{es:List Expr}{fs:AF}
noncomputable def aO(n:Nat)(φ:GN):GN:=λds S=>if ds.length=n then φ ds S else none
theorem zoh{e:Expr}{n:Nat}{φ:GN}(hg:Gl X x)(hF:uP X x n φ)(ha:SA X (e::es) fs)(hdb:(x==("__debug__" : Str))=false)(he:starEach (e::es) X.env=(false,eval e X.env)::starEach es X.env)(hpl:(backTo pos (starEach es X.env)).any (·.1)=false):SE X (.Call (.Name x p) (e::es) [] pos) (eN (aO n φ) fs):=by
 obtain⟨f,fd,ps,k,hm,hk,hb,F,hr⟩:=hF;refine PE.imp (R7 F hr hg hm hk hb .nil Eg ha hdb he hpl) λσ H Q h=>?_;obtain⟨σd,S,α,ds,S1,hv,hs,e1,k⟩:=Ck h;refine⟨σd,S,α,ds,S1,hv,hs,e1,λvs H1 α1 s1 x1 r1=>?_⟩;obtain⟨S2,α2,ds',z,S3,s2,r2,e2,k2⟩:=k vs H1 α1 s1 x1 r1;unfold aO at e2;split at e2
 .rename_i hl;rw[List.append_nil];exact⟨by rw[<-r2.length];exact hl,S2,α2,ds',z,S3,s2,r2,e2,k2⟩
 .cases e2
theorem zl2{e:Expr}{id:String}{g:GN}(hc:gQ X (.builtin id) (jt X.K g))(hg:Gl X x)(hm:X.mg x=none)(hv:bootBuiltins x=some (.builtin id))(ha:SA X (e::es) fs)(hn:x ≠ "__name__")(hdb:(x==("__debug__" : Str))=false)(he:starEach (e::es) X.env=(false,eval e X.env)::starEach es X.env)(hpl:(backTo pos (starEach es X.env)).any (·.1)=false):SE X (.Call (.Name x p) (e::es) [] pos) (eN g fs) :=
 PE.imp (Ul hc hg hm hv ha hn hdb he hpl) λ_ _ _ h=>Ck h
theorem zl1{e:Expr}{T:String}{g:GN}(hc:gQ X (.type T) (jt X.K g))(hg:Gl X x)(hm:X.mg x=none)(hv:bootBuiltins x=some (.type T))(ha:SA X (e::es) fs)(hn:x ≠ "__name__")(hdb:(x==("__debug__" : Str))=false)(he:starEach (e::es) X.env=(false,eval e X.env)::starEach es X.env)(hpl:(backTo pos (starEach es X.env)).any (·.1)=false):SE X (.Call (.Name x p) (e::es) [] pos) (eN g fs) :=
 PE.imp (zkf hc hg hm hv ha hn hdb he hpl) λ_ _ _ h=>Ck h
end
noncomputable def aK(i:Nat):GF:=λd σ S=>some (σ.set i (some d),S)
noncomputable abbrev nJ:=List D->Sg->So->Option (Sg×So)
noncomputable def mX:nJ:=λds σ S=>match ds with
 |[]=>some (σ,S)
 |_=>none
noncomputable def gA(f:GF)(fr:nJ):nJ:=λds σ S=>match ds with
 |d::r=>(f d σ S).bind λq=>fr r q.1 q.2
 |[]=>none
noncomputable def lJ(n:Nat)(fr:nJ):GF:=λd σ S=>match d with
 |.tup xs=>if xs.length=n then fr xs σ S else none
 |.ref m=>match S[m]? with
  |some (.lst xs)=>if xs.length=n then fr xs σ S else none
  |_=>none
 |_=>none
noncomputable def Ov(K:FgA)(f:nJ):p8:=λvs σ H Q=>∃σd S α ds σd' S',bD K H α σd σ/\aq K H α S/\aB K H α ds vs/\f ds σd S=some (σd',S') /\
 ∀σ' H' α',bD K H' α' σd' σ'->aq K H' α' S'->Ext K H α H' α'->Q σ' H'
def Dy(X:Cx)(Bs:List Expr)(f:nJ):Prop:=zA X Bs (Ov X.K f)
section
variable {X:Cx}{pos:Pos}
theorem zoa{i:Nat}{x:Str}(hN:X.N.Nodup)(hi:X.N[i]?=some x)(hx:Loc X.env.scope x)(hf:X.fn x=true\/X.env.scope.names.lookup x=some .local):SG X (.Name x pos) (aK i):=by refine PG.imp (zow hN hi hx hf) λv σ H Q h=>?_;obtain⟨σd,S,α,d,σd',S',hv,hs,r,hf,k⟩:=h;cases hf;exact k _ _ _ (hv.set r i) hs Ext.refl
theorem zn9:Dy X [] mX:=by
 refine λpins s σ H vs us Q I r0 h=>zou pins s σ H vs us Q I r0 ?_;obtain⟨σd,S,α,ds,σd',S',hv,hs,r,hf,k⟩:=h;cases r with
 |nil=>cases hf;exact⟨rfl,k _ _ _ hv hs Ext.refl⟩
 |cons _ _=>cases hf
theorem zlW{e:Expr}{es:List Expr}{f:GF}{fr:nJ}(h1:SG X e f)(h2:Dy X es fr)(hs:(assignEach (e::es) X.env).map (·.2)=assign e X.env::(assignEach es X.env).map (·.2)):Dy X (e::es) (gA f fr):=by
 refine λpins s σ H vs us Q I r0 h=>zmc h1 h2 hs pins s σ H vs us Q I r0 ?_;obtain⟨σd,S,α,ds,σd',S',hv,hs,r,hf,k⟩:=h;cases r with
 |nil=>cases hf
 |cons r rr =>
  unfold gA at hf;simp only[aW] at hf;obtain⟨⟨σ1,S1⟩,e1,e2⟩:=hf;exact⟨_,_,rfl,σd,S,α,_,σ1,S1,hv,hs,r,e1,λσ' H' α' v' s' x'=>⟨σ1,S1,α',_,σd',S',v',s',rr.mono x',e2,λσ2 H2 α2 v2 s2 x2=>k _ _ _ v2 s2 (x'.trans x2)⟩⟩
theorem ZJ{es:List Expr}{k0:Nat}{f:nJ}{n:Nat}(hc:X.calm=true)(h:Dy X es f)(hn:(assignEach es X.env).length=n)(hst:(assignEach es X.env).findIdx? (·.1)=none):SG X (.Tuple es k0 pos) (lJ n f):=by
 refine PG.imp (PG.or (zqT hc h hn hst) (zov hc h hn hst)) λv σ H Q h=>?_;obtain⟨σd,S,α,d,σd',S',hv,hs,r,hf,k⟩:=h;unfold lJ at hf;cases r with
 |tup h r =>
  simp only at hf;split at hf
  .rename_i hl;exact .inl ⟨_,_,rfl,h,by rw[<-r.length];exact hl,σd,S,α,_,σd',S',hv,hs,r,hf,k⟩
  .cases hf
 |ref ha =>
  simp only at hf;split at hf
  .rename_i xs em;split at hf
   .rename_i hl;obtain⟨vs,h1,r⟩:=hs.obj _ _ _ em ha;exact .inr ⟨_,vs,rfl,cQ.of h1,by rw[<-r.length];exact hl,σd,S,α,xs,σd',S',hv,hs,r,hf,k⟩
   .cases hf
  .cases hf
 |_=>cases hf
end
noncomputable def aJ:SF:=λσ S=>some (.nx,σ,S)
noncomputable def aA(f g:SF):SF:=λσ S=>(f σ S).bind λr=>match r.1 with
 |.nx=>g r.2.1 r.2.2
 |fl=>some (fl,r.2.1,r.2.2)
noncomputable def bG(fe:EF)(fg:GF):SF:=λσ S=>(fe σ S).bind λr=>(fg r.1 σ r.2).map λq=>(.nx,q.1,q.2)
noncomputable def lB(fe:EF):SF:=λσ S=>(fe σ S).map λr=>(.nx,σ,r.2)
noncomputable def bM(fe:EF):SF:=λσ S=>(fe σ S).map λr=>(.rt r.1,σ,r.2)
noncomputable def uo:SF:=λσ S=>some (.rt .non,σ,S)
noncomputable def Cd:SF:=λσ S=>some (.bk,σ,S)
noncomputable def oG:SF:=λσ S=>some (.ct,σ,S)
noncomputable def cW(t:TF)(f g:SF):SF:=λσ S=>(t σ S).bind λr=>if r.1=true then f σ r.2 else g σ r.2
section
variable {X:Cx}{st:Stmt}{rest:List Stmt}{f g:SF}{e:Expr}{fe:EF}{pos:Pos}
def Z4:uN X [] aJ:=by refine fM.imp Fw λD σ H h=>?_;obtain⟨σd,S,α,fl,σd',S',hv,hs,hf,k⟩:=h;cases hf;exact k _ _ _ hv hs Ext.refl
def Ks.trans{K:FgA}{H H1:Hp}{α α1:List Addr}{fl:Fl}{σd':Sg}{S':So}{D:qj}(k:Ks K H α fl σd' S' D)(e:Ext K H α H1 α1):Ks K H1 α1 fl σd' S' D:=λσ' H' α' v s x=>k σ' H' α' v s (e.trans x)
theorem znV(h1:SS X st f)(h2:uN X rest g):uN X (st::rest) (aA f g):=by
 refine fM.imp (tU h1 h2) λD σ H h=>?_;obtain⟨σd,S,α,fl,σd',S',hv,hs,hf,k⟩:=h;unfold aA at hf;simp only[aW] at hf;obtain⟨⟨X4,σ1,S1⟩,e1,e2⟩:=hf;refine⟨σd,S,α,X4,σ1,S1,hv,hs,e1,λσ' H' α' v' s' x'=>?_⟩;cases X4 with
 |nx=>exact⟨σ1,S1,α',fl,σd',S',v',s',e2,k.trans x'⟩
 |bk=>cases e2;exact k σ' H' α' v' s' x'
 |ct=>cases e2;exact k σ' H' α' v' s' x'
 |rt d=>cases e2;exact k σ' H' α' v' s' x'
def znT:SS X (.Pass pos) aJ:=by refine PS.imp zop λD σ H h=>?_;obtain⟨σd,S,α,fl,σd',S',hv,hs,hf,k⟩:=h;cases hf;exact k _ _ _ hv hs Ext.refl
theorem Z1{x j pos'}:SS X (.Expr (.Constant (.str x) j pos) pos') aJ:=by refine PS.imp zqO λD σ H h=>?_;obtain⟨σd,S,α,fl,σd',S',hv,hs,hf,k⟩:=h;cases hf;exact k _ _ _ hv hs Ext.refl
def ZX:SS X (.Break pos) Cd:=by refine PS.imp zl8 λD σ H h=>?_;obtain⟨σd,S,α,fl,σd',S',hv,hs,hf,k⟩:=h;cases hf;exact k _ _ _ hv hs Ext.refl
def Z0:SS X (.Continue pos) oG:=by refine PS.imp zhq λD σ H h=>?_;obtain⟨σd,S,α,fl,σd',S',hv,hs,hf,k⟩:=h;cases hf;exact k _ _ _ hv hs Ext.refl
theorem znU(he:SE X e fe)(hsw:swapsWith e none pos.line X.env=pure false):SS X (.Expr e pos) (lB fe):=by refine PS.imp (TQ he hsw) λD σ H h=>?_;obtain⟨σd,S,α,fl,σd',S',hv,hs,hf,k⟩:=h;unfold lB at hf;simp only[aR] at hf;obtain⟨⟨d,S1⟩,e1,e2⟩:=hf;cases e2;exact⟨σd,S,α,d,S1,hv,hs,e1,λv H' α' s' x' r'=>k _ _ _ (hv.mono x') s' x'⟩
theorem Z5(he:SE X e fe):SS X (.Return (some e) pos) (bM fe):=by refine PS.imp (z7 he) λD σ H h=>?_;obtain⟨σd,S,α,fl,σd',S',hv,hs,hf,k⟩:=h;unfold bM at hf;simp only[aR] at hf;obtain⟨⟨d,S1⟩,e1,e2⟩:=hf;cases e2;exact⟨σd,S,α,d,S1,hv,hs,e1,λv H' α' s' x' r'=>k _ _ _ (hv.mono x') s' x' v r'⟩
theorem znS:SS X (.Return none pos) uo:=by refine PS.imp zoo λD σ H h=>?_;obtain⟨σd,S,α,fl,σd',S',hv,hs,hf,k⟩:=h;cases hf;exact k _ _ _ hv hs Ext.refl _ .non
theorem Jx{tg:Expr}{fg:GF}(he:SE X e fe)(hg:SG X tg fg)(h1:swapsWithSole [tg] e pos.line X.env=pure false)(h2:swappedStores [tg] e X.env=pure none)(h3:(assignEach [tg] X.env).map (·.2)=[assign tg X.env]):SS X (.Assign [tg] e pos) (bG fe fg):=by refine PS.imp (zqP he hg h1 h2 h3) λD σ H h=>?_;obtain⟨σd,S,α,fl,σd',S',hv,hs,hf,k⟩:=h;unfold bG at hf;simp only[aW,aR] at hf;obtain⟨⟨d,S1⟩,e1,⟨σ1,S2⟩,e2,e3⟩:=hf;cases e3;exact⟨σd,S,α,d,S1,hv,hs,e1,λv H' α' s' x' r'=>⟨σd,S1,α',d,_,_,hv.mono x',s',r',e2,λσ2 H2 α2 v2 s2 x2=>k _ _ _ v2 s2 (x'.trans x2)⟩⟩
theorem Ry{i:Nat}{x:Str}{pos':Pos}(hN:X.N.Nodup)(hi:X.N[i]?=some x)(hx:Loc X.env.scope x)(he:SE X e fe)(hsw:swapsWith e (some (.Name x pos')) pos.line X.env=pure false)(hfn:X.fn x=true\/X.env.scope.names.lookup x=some .local):
 SS X (.Assign [.Name x pos'] e pos) (bG fe (aK i)):=by
 refine PS.imp (Rn hN hi hx he hsw hfn) λD σ H h=>?_;obtain⟨σd,S,α,fl,σd',S',hv,hs,hf,k⟩:=h;unfold bG at hf;simp only[aW,aR] at hf;obtain⟨⟨d,S1⟩,e1,⟨σ1,S2⟩,e2,e3⟩:=hf;cases e3;cases e2;exact⟨σd,S,α,d,S1,hv,hs,e1,λv H' α' s' x' r'=>k _ _ _ ((hv.mono x').set r' i) s' x'⟩
theorem Y4{c:Expr}{a b:List Stmt}{t:TF}(hc:ST X c t)(ha:uN X a f)(hb:uN X b g):SS X (.If c a b pos) (cW t f g):=by
 refine PS.imp (Jd hc ha hb) λD σ H h=>?_;obtain⟨σd,S,α,fl,σd',S',hv,hs,hf,k⟩:=h;unfold cW at hf;simp only[aW] at hf;obtain⟨⟨b1,S1⟩,e1,e2⟩:=hf;refine⟨σd,S,α,b1,S1,hv,hs,e1,λH1 α1 s1 x1=>?_⟩;cases b1 with
 |true =>
  rw[if_pos rfl];rw[if_pos rfl] at e2;exact⟨σd,S1,α1,fl,σd',S',hv.mono x1,s1,e2,k.trans x1⟩
 |false =>
  rw[if_neg fB];rw[if_neg fB] at e2;exact⟨σd,S1,α1,fl,σd',S',hv.mono x1,s1,e2,k.trans x1⟩
end
noncomputable def jO(t:TF)(f:SF):Nat->SF
 |0=>λ_ _=>none
 |n+1=>λσ S=>(t σ S).bind λr=>if r.1=true then(f σ r.2).bind λq=>match q.1 with
  |.nx=>jO t f n q.2.1 q.2.2
  |.ct=>jO t f n q.2.1 q.2.2
  |.bk=>some (.nx,q.2.1,q.2.2)
  |.rt d=>some (.rt d,q.2.1,q.2.2)
  else some (.nx,σ,r.2)
theorem KD{t:TF}{f:SF}:∀{n:Nat} {σ:Sg} {S:So} {r:Fl×Sg×So},jO t f n σ S=some r->jO t f (n+1) σ S=some r
 |0,_,_,_,h=>by cases h
 |n+1,σ,S,r,h=>by
  unfold jO at h ⊢;simp only[aW] at h ⊢;obtain⟨q,e1,e2⟩:=h;refine⟨q,e1,?_⟩;by_cases hb:q.1=true
  .rw[if_pos hb] at e2 ⊢;simp only[aW] at e2 ⊢;obtain⟨q2,e3,e4⟩:=e2;refine⟨q2,e3,?_⟩;obtain⟨fl,σ1,S1⟩:=q2;cases fl with
   |nx=>exact KD e4
   |ct=>exact KD e4
   |bk=>exact e4
   |rt d=>exact e4
  .rw[if_neg hb] at e2 ⊢;exact e2
theorem U4{t:TF}{f:SF}{n m:Nat}{σ:Sg}{S:So}{r:Fl×Sg×So}(h:jO t f n σ S=some r)(hm:n<=m):jO t f m σ S=some r:=by
 obtain⟨k,rfl⟩:=Nat.exists_eq_add_of_le hm;clear hm
 induction k with
 |zero=>exact h
 |succ k ih=>exact KD ih
open Classical in
noncomputable def j9(t:TF)(f:SF):SF:=λσ S=>if h:∃n r,jO t f n σ S=some r then some (Classical.choose (Classical.choose_spec h)) else none
theorem Ru{t:TF}{f:SF}{n:Nat}{σ:Sg}{S:So}{r:Fl×Sg×So}(h:jO t f n σ S=some r):j9 t f σ S=some r:=by
 have hx:∃n r,jO t f n σ S=some r:=⟨n,r,h⟩
 unfold j9;rw[dif_pos hx];have e:=Classical.choose_spec (Classical.choose_spec hx);have e1:=U4 e (Nat.le_max_left _ n);have e2:=U4 h (Nat.le_max_right (Classical.choose hx) n);rw[e1] at e2;exact e2
theorem Ri{t:TF}{f:SF}{σ:Sg}{S:So}{r:Fl×Sg×So}(h:j9 t f σ S=some r):∃n,jO t f n σ S=some r:=by
 unfold j9 at h;split at h
 .rename_i hx;cases h;exact⟨_,Classical.choose_spec (Classical.choose_spec hx)⟩
 .cases h
theorem Uy{t:TF}{f:SF}{σ σ1 σ2:Sg}{S S1 S2:So}{fl:Fl}{r:Fl×Sg×So}(h1:t σ S=some (true,S1))(h2:f σ S1=some (fl,σ2,S2))(hf:fl = .nx\/fl = .ct)(h3:j9 t f σ2 S2=some r):j9 t f σ S=some r:=by obtain⟨n,e⟩:=Ri h3;refine Ru (n:=n+1) ?_;unfold jO;rw[h1];simp only[bQ,if_true];rw[h2];rcases hf with rfl|rfl<;>exact e
def JM{t:TF}{f:SF}{σ:Sg}{S S1:So}(h1:t σ S=some (false,S1)):j9 t f σ S=some (.nx,σ,S1):=by refine Ru (n:=1) ?_;unfold jO;rw[h1];simp
section
variable {X:Cx}{pos:Pos}
theorem zlI{c:Expr}{body:List Stmt}{t:TF}{f:SF}(hp:PassesOwn (model X.prog X.w) X.A X.env X.xe)(hc:ST X c t)(hb:uN X body f):SS X (.While c body [] pos) (j9 t f):=by
 refine PS.imp (zl6 hp hc hb) λD σ H h=>?_;obtain⟨σd,S,α,fl,σd',S',hv,hs,hf,k⟩:=h;obtain⟨n,hn⟩:=Ri hf;refine⟨λm σ1 H1=>∃σd1 S1 α1,bD X.K H1 α1 σd1 σ1/\aq X.K H1 α1 S1/\Ext X.K H α H1 α1/\jO t f m σd1 S1=some (fl,σd',S'),⟨n,σd,S,α,hv,hs,Ext.refl,hn⟩,?_⟩
 rintro m σ1 H1 ⟨σd1,S1,α1,v1,s1,x1,e⟩
 cases m with
 |zero=>cases e
 |succ m =>
  unfold jO at e;simp only[aW] at e;obtain⟨⟨b,S2⟩,e1,e2⟩:=e;refine⟨σd1,S1,α1,b,S2,v1,s1,e1,λH2 α2 s2 x2=>?_⟩;cases b with
  |false =>
   rw[if_neg fB];rw[if_neg fB] at e2;cases e2;exact k _ _ _ (v1.mono x2) s2 (x1.trans x2)
  |true =>
   rw[if_pos rfl];rw[if_pos rfl] at e2;simp only[aW] at e2;obtain⟨⟨PX,σd3,S3⟩,e3,e4⟩:=e2;refine⟨λσ4 H4=>∃σd4 S4 α4,bD X.K H4 α4 σd4 σ4/\aq X.K H4 α4 S4/\Ext X.K H α H4 α4/\jO t f m σd4 S4=some (fl,σd',S'),λσ4 H4 q=>⟨m,Nat.lt_succ_self _,q⟩,?_⟩;refine⟨σd1,S2,α2,PX,σd3,S3,v1.mono x2,s2,e3,λσ4 H4 α4 v4 s4 x4=>?_⟩;have xx:=(x1.trans x2).trans x4;cases PX with
   |nx=>exact⟨σd3,S3,α4,v4,s4,xx,e4⟩
   |ct=>exact⟨σd3,S3,α4,v4,s4,xx,e4⟩
   |bk=>cases e4;exact k _ _ _ v4 s4 xx
   |rt d=>cases e4;exact k _ _ _ v4 s4 xx
end
end MX
end
section
variable {A:PySem.Around}{B base h h':PySem.Heap}{C a cH f:PySem.Addr}{E Q:PySem.Value->PySem.Shared->Prop}{H H':L2.Hp}{K:FgA}{N ps:List PySem.Str}{S S':MX.So}{X:L2.Cx}{aX apos cpos p pos spos:PySem.Pos}{body e tg:PySem.Expr}{c:Nat->PySem.Addr}{cF vs:List L2.V}{cd cdv:PySem.Value}{cl:List (PySem.Str×PySem.Addr)}{d:MX.D}{ds:List MX.D}{env:PySem.Env}{es:List PySem.Expr}{fa:MX.AF}{fb:MX.SF}{fd:PySem.FuncData}{fns:List (PySem.Str×Nat×MX.GN)}{i j k kk m n nrem t':Nat}{ks:List PySem.Keyword}{l outer:List PySem.Env}{mg:PySem.Str->Option PySem.Value}{name p1 qual x y:PySem.Str}{names:List (PySem.Str×PySem.NameKind)}{ns:List Int}{o:PySem.Obj}{osl:Array (Option PySem.Value)}{out:List PySem.Value}{params:PySem.Arguments}{pins:List (PySem.Addr×PySem.Obj)}{prog q:PySem.Program}{s:PySem.Shared}{scope:PySem.Scope}{sp:List L2.V->L2.Hp->L2.VK->Prop}{st:PySem.Stmt}{w:PySem.World}{xs:Array (Int×PySem.Tok)}{α:List PySem.Addr}{σ':MX.Sg}
section
namespace MZ
open PySem PySem.Spec PyProof.Rows L2
structure Sub where
 it:Addr
 src:Addr
 tup:Bool
def b8(h:Heap)(p:Sub)(k:Nat):Prop:=if p.tup=true then h.IsTupleIter p.it p.src k else h.IsListIter p.it p.src k
def SrcAt(h:Heap)(p:Sub)(items:List Value):Prop:=if p.tup=true then h.IsTuple p.src items.toArray else h.IsList p.src items.toArray
theorem b8.at{h h':Heap}{p:Sub}{k:Nat}(x:b8 h p k)(f:∀o,h.get? p.it=some o->h'.get? p.it=some o):b8 h' p k:=by
 unfold b8 at x ⊢;split
 .rename_i hp;rw[if_pos hp] at x;obtain⟨o,e,r⟩:=x;exact⟨o,f o e,r⟩
 .rename_i hp;rw[if_neg hp] at x;obtain⟨o,e,r⟩:=x;exact⟨o,f o e,r⟩
theorem SrcAt.at{h h':Heap}{p:Sub}{xs:List Value}(x:SrcAt h p xs)(f:∀o,h.get? p.src=some o->h'.get? p.src=some o):SrcAt h' p xs:=by
 unfold SrcAt at x ⊢;split
 .rename_i hp;rw[if_pos hp] at x;obtain⟨o,e,r⟩:=x;exact⟨o,f o e,r⟩
 .rename_i hp;rw[if_neg hp] at x;obtain⟨o,e,r⟩:=x;exact⟨o,f o e,r⟩
theorem b8.obj{h:Heap}{p:Sub}{k:Nat}(x:b8 h p k):∃o,h.get? p.it=some o/\∀v,o.data ≠ .cell v:=by
 unfold b8 at x;split at x
 .obtain⟨o,e,_,d⟩:=x;exact⟨o,e,λv z=>by rw[d] at z;cases z⟩
 .obtain⟨o,e,_,d⟩:=x;exact⟨o,e,λv z=>by rw[d] at z;cases z⟩
section
variable {prog:Program}{w:World}{A:Around}{E:Value->Shared->Prop}{s:Shared}
theorem zea{it t:Addr}{i:Nat}{items}{x:Value}{Q:Value->Shared->Prop}(hit:s.heap.IsTupleIter it t i)(ht:s.heap.IsTuple t items)(hx:items[i]?=some x)(hQ:∀h',h'.IsTupleIter it t (i+1)->Heap.SameBut it s.heap h'->Q x { s with heap:=h' }):
 wpAny (model prog w) A (Builtin.SmallTypes.nextOf (.ref it)) Q E s:=by
 obtain⟨o,ho,hc,hd⟩:=id hit;obtain⟨ol,hol,_,nl,hdl⟩:=ht;unfold Builtin.SmallTypes.nextOf;refine aF (wpAny_callSpecial?_slot (name:=Str.ofString "__next__") hit.typeIs F.slot_tuple_iterator_next
  (wpAny_call_entry F.slot_tuple_iterator_next hit.typeIs F.entry_tuple_iterator_next ?_ (F.args_tuple_iterator_next_1 _)))
 show wpAny _ _ (field (.ref it) 0 >>= _) _ _ s;refine aF (wpAny_field ho hd (x := .ref t) rfl ?_);show wpAny _ _ (if(Value.ref t==Value.none)=true then _ else _) _ _ s;rw[if_neg (show ¬((Value.ref t==Value.none)=true) from fB)];show wpAny _ _ (field (.ref it) 1 >>= _) _ _ s;refine aF (wpAny_field ho hd (x := .int i 0) rfl ?_);show wpAny _ _ (seqItems? (.ref t) >>= _) _ _ s;refine aF (wpAny_seqItems hol hdl ?_);simp only[Int.toNat_natCast,hx];refine aF (wpAny_setField ho hd (by simp) (bT ⟨x,rfl,bT (hQ _ ?_ (Heap.SameBut.update ..))⟩));exact⟨_,Heap.get?_update_self _ ho (Obj.isFreed_of_fields (Obj.data_mapFields hd _)),(Obj.cls_mapFields ..).trans hc,by
  rw[Obj.data_mapFields hd];simp[rawInt]⟩
theorem zeB{it t:Addr}{i:Nat}{items}{Q:Value->Shared->Prop}(hh:A.handled=none)(hit:s.heap.IsTupleIter it t i)(ht:s.heap.IsTuple t items)(hx:items[i]?=none)(hE:∀h' e,Heap.ExtBut it s.heap h'->(∃o,h'.get? e=some o/\o.cls = .type "StopIteration")->E (.ref e) { s with heap:=h' }):
 wpAny (model prog w) A (Builtin.SmallTypes.nextOf (.ref it)) Q E s:=by
 obtain⟨o,ho,hc,hd⟩:=id hit;obtain⟨ol,hol,_,nl,hdl⟩:=ht;unfold Builtin.SmallTypes.nextOf;refine aF (wpAny_callSpecial?_slot (name:=Str.ofString "__next__") hit.typeIs F.slot_tuple_iterator_next
  (wpAny_call_entry F.slot_tuple_iterator_next hit.typeIs F.entry_tuple_iterator_next ?_ (F.args_tuple_iterator_next_1 _)))
 show wpAny _ _ (field (.ref it) 0 >>= _) _ _ s;refine aF (wpAny_field ho hd (x := .ref t) rfl ?_);show wpAny _ _ (if(Value.ref t==Value.none)=true then _ else _) _ _ s;rw[if_neg (show ¬((Value.ref t==Value.none)=true) from fB)];show wpAny _ _ (field (.ref it) 1 >>= _) _ _ s;refine aF (wpAny_field ho hd (x := .int i 0) rfl ?_);show wpAny _ _ (seqItems? (.ref t) >>= _) _ _ s;refine aF (wpAny_seqItems hol hdl ?_);simp only[Int.toNat_natCast,hx];refine aF (wpAny_rule (aF (wpAny_setField ho hd (by simp) ?_)));show wpAny _ _ (newExc (.type "StopIteration") [] >>= _) _ _ _;refine aF ?_;simp only[newExc,newTuple];refine aF (wpAny_newObj_type ?_ (by size_fits));refine aF (m:=firstArgMember _ _) (wpAny_of_eq (a:=Value.none) (by first|rfl|(simp only[firstArgMember];rfl)) ?_);refine wpAny_newObj_type ?_ (by size_fits);simp only[raiseNew];refine aF (wpAny_handled ?_)
 first|rw[show A.in1.handled=none from hh]|rw[hh]
 refine aF (bT (wpAny_throw ?_));exact hE _ _ (((Heap.SameBut.update ..).extBut.push _).push _) ⟨_,gB _ rfl,rfl⟩
theorem U0{p:Sub}{xs:List Value}{k:Nat}{x:Value}{Q:Value->Shared->Prop}(hi:b8 s.heap p k)(hs:SrcAt s.heap p xs)(hx:xs[k]?=some x)(hQ:∀h',b8 h' p (k+1)->Heap.SameBut p.it s.heap h'->Q x { s with heap:=h' }):wpAny (model prog w) A (Builtin.SmallTypes.nextOf (.ref p.it)) Q E s:=by
 by_cases hp:p.tup=true
 .unfold b8 SrcAt at *
  rw[if_pos hp] at hi hs;exact zea hi hs (by simpa using hx) λh' a b=>hQ h' (by rw[if_pos hp];exact a) b
 .unfold b8 SrcAt at *
  rw[if_neg hp] at hi hs;exact wpAny_nextOf_list_item hi hs (by simpa using hx) λh' a b=>hQ h' (by rw[if_neg hp];exact a) b
theorem znL{p:Sub}{xs:List Value}{k:Nat}{Q:Value->Shared->Prop}(hh:A.handled=none)(hi:b8 s.heap p k)(hs:SrcAt s.heap p xs)(hx:xs[k]?=none)(hE:∀h' e,Heap.ExtBut p.it s.heap h'->(∃o,h'.get? e=some o/\o.cls = .type "StopIteration")->E (.ref e) { s with heap:=h' }):
 wpAny (model prog w) A (Builtin.SmallTypes.nextOf (.ref p.it)) Q E s:=by
 by_cases hp:p.tup=true
 .unfold b8 SrcAt at *
  rw[if_pos hp] at hi hs;exact zeB hh hi hs (by simpa using hx) hE
 .unfold b8 SrcAt at *
  rw[if_neg hp] at hi hs;exact wpAny_nextOf_list_end hh hi hs (by simpa using hx) hE
end
noncomputable abbrev cU(xs:List Value):Obj:={ cls := .type "tuple",data := .seq xs.toArray }
structure xU(z TI TO:Addr)(ps:List Sub):Prop where
 TIz:TI≠z
 TOz:TO≠z
 TITO:TI≠TO
 iz:∀p∈ps,p.it≠z
 iTI:∀p∈ps,p.it≠TI
 iTO:∀p∈ps,p.it≠TO
 sz:∀p∈ps,p.src≠z
 sTO:∀p∈ps,p.src≠TO
 si:∀p∈ps,∀q∈ps,p.src≠q.it
 nd:(ps.map (·.it)).Nodup
section
variable {prog:Program}{w:World}{A:Around}{E:Value->Shared->Prop}{s:Shared}
theorem Te{T:Addr}{ys:List Value}{k:Nat}{x:Value}{Q:Unit->Shared->Prop}(hT:s.heap.get? T=some (cU ys))(hz:ys.length<=sizeLine)(h:∀h',h'.get? T=some (cU (ys.set k x))->Heap.SameBut T s.heap h'->Q () { s with heap:=h' }):
 wpAny (model prog w) A (updateSeq T (·.setIfInBounds k x)) Q E s:=by
 refine wpAny_updateSeq hT rfl (h _ ?_ (Heap.SameBut.update ..)) (by rw[dM];exact hz) (by simp;omega);rw[Heap.get?_update_self _ hT rfl];simp[Obj.mapSeq,cU]
def zob{α:Type}(a b:List α)(y x:α):(a++y::b).set a.length x=a++x::b:=by rw[List.set_append_right _ _ (bZ _)];simp
theorem zly{z TI TO:Addr}{ps:List Sub}{xss:List (List Value)}{row ys:List Value}{k:Nat}{Q:Value->Shared->Prop}(D:xU z TI TO ps)(hne:ps≠[])(hps:ps.length<=100)(hz:IsZip s.heap z TI TO .none)(hTI:s.heap.get? TI=some (cU (ps.map λp=>Value.ref p.it)))(hTO:s.heap.get? TO=some (cU ys))(hy:ys.length=ps.length)(hl:xss.length=ps.length)(hr:row.length=ps.length)(hi:∀p∈ps,b8 s.heap p k)(hs:∀(j:Nat) p xs,ps[j]?=some p->xss[j]?=some xs->SrcAt s.heap p xs)(hx:∀(j:Nat) xs x,xss[j]?=some xs->row[j]?=some x->xs[k]?=some x)(hQ:∀h',IsZip h' z TI TO (rawInt s.heap.objs.size)->h'.get? TO=some (cU row)->(∀p∈ps,b8 h' p (k+1))->h'.get? s.heap.objs.size=some (cU row)->h'.objs.size=s.heap.objs.size+1 ->
  (∀c o,c≠z->c≠TO->(∀p∈ps,c≠p.it)->s.heap.get? c=some o->h'.get? c=some o)->Q (.ref s.heap.objs.size) { s with heap:=h' }):
 wpAny (model prog w) A (Builtin.«zip.__next__» ⟨[.ref z],[]⟩) (λfin s'=>∃v,fin = .done (.ret v)/\Q v s') E s:=by
 have line:(100:Nat)<=sizeLine:=by decide
 show wpAny _ _ (field (.ref z) 2 >>= _) _ _ _;refine aF (wpAny_field hz rfl (x := .bool false) rfl ?_);show wpAny _ _ (field (.ref z) 3 >>= _) _ _ _;refine aF (wpAny_field hz rfl (x := .ref TI) rfl ?_);refine aF (wpAny_seqItems hTI rfl ?_);have hemp:((ps.map λp=>Value.ref p.it).toArray.isEmpty)=false:=by
  cases ps with
  |nil=>exact absurd rfl hne
  |cons _ _=>simp
 show wpAny _ _ (if((ps.map λp=>Value.ref p.it).toArray.isEmpty)=true then _ else _) _ _ _;rw[if_neg (by rw[hemp];exact fB)];show wpAny _ _ (Builtin.SmallTypes.ownedTupleIsFree (.ref z) >>= _) _ _ _;refine aF ?_;unfold Builtin.SmallTypes.ownedTupleIsFree;refine aF (wpAny_field hz rfl (x := .none) rfl (bT ?_));simp only[if_true];refine aF (wpAny_rule ?_);refine aF (wpAny_field hz rfl (x := .ref TO) rfl ?_);refine aF (wpAny_setField_rec hz (by simp) λh₁ hz₁ hs₁=>?_);replace hz₁:IsZip h₁ z TI TO .ellipsis:=hz₁;refine aF ?_;refine wpAny_forIn_list _
  (λrest b s'=>b.1=none/\∃j h,s'={ s with heap:=h }/\rest=((ps.drop j).map λp=>Value.ref p.it).zipIdx j/\j<=ps.length/\IsZip h z TI TO .ellipsis/\h.get? TO=some (cU (row.take j++ys.drop j))/\h.objs.size=s.heap.objs.size /\
   (∀(i:Nat) p,ps[i]?=some p->b8 h p (if i<j then k+1 else k))/\∀c o,c≠z->c≠TO->(∀p∈ps,c≠p.it)->s.heap.get? c=some o->h.get? c=some o) _ ?_ ?_ _ _ ?_
 .rintro⟨v,kk⟩ rest b s' ⟨hb,j,h,rfl,hrest,hj,z1,t1,G8,i1,k1⟩
  have hjl:j<ps.length:=by refine Nat.lt_of_le_of_ne hj λe=>?_;rw[e] at hrest;simp at hrest
  obtain⟨p,hp⟩:∃p,ps[j]?=some p:=⟨ps[j],by simp[hjl]⟩
  have hpm:p∈ps:=List.mem_of_getElem? hp;have hdrop:ps.drop j=p::ps.drop (j+1):=by obtain⟨h1,h2⟩:=eV.mp hp;rw[<-h2];exact List.drop_eq_getElem_cons h1
  rw[hdrop,iU,List.zipIdx_cons] at hrest;injection hrest with e1 e2;obtain⟨e3,e4⟩:=Prod.mk.inj e1;subst e3;replace e4:=e4.symm;subst e4;obtain⟨xs,hxs⟩:∃xs,xss[j]?=some xs:=⟨xss[j]'(by omega),by simp⟩
  obtain⟨x,XJ⟩:∃x,row[j]?=some x:=⟨row[j]'(by omega),by simp⟩
  obtain⟨y,hyr⟩:∃y,ys[j]?=some y:=⟨ys[j]'(by omega),by simp⟩
  have hit:b8 h p k:=by have:=i1 j p hp;rw[if_neg (gO _)] at this;exact this
  have fQ:SrcAt h p xs:=(hs j p xs hp hxs).at λo e=>k1 _ o (D.sz p hpm) (D.sTO p hpm) (λq hq=>D.si p hpm q hq) e;have hcur:row.take j++ys.drop j=row.take j++y::ys.drop (j+1):=by obtain⟨h1,h2⟩:=eV.mp hyr;rw[List.drop_eq_getElem_cons h1,h2]
  have hlj:(row.take j).length=j:=by rw[xT];omega
  obtain⟨b1,b2⟩:=b;have hb':b1=none:=hb;subst hb';refine aF (wpAny_onRaise ?_);show wpAny _ _ (Builtin.SmallTypes.nextOf (.ref p.it) >>= _) _ _ _;refine aF (U0 hit fQ (hx j xs x hxs XJ) λh₂ it₂ sb₂=>bT ?_);have t2:h₂.get? TO=some (cU (row.take j++ys.drop j)):=sb₂.extBut _ _ (D.iTO p hpm).symm t1;refine aF (wpAny_seqItems t2 rfl ?_);refine aF (Te (s:={ s with heap:=h₂ }) (k:=j) t2 (by rw[jQ,xT,List.length_drop];omega) λh₃ t3 sb₃=>?_);refine aF (wpAny_letGo (bT ?_));refine⟨rfl,j+1,h₃,rfl,e2,hjl,?_,?_,?_,λi q hq=>?_,λc o c1 c2 c3 e=>?_⟩
  .exact sb₃.extBut _ _ D.TOz.symm (sb₂.extBut _ _ (D.iz p hpm).symm z1)
  .rw[t3,hcur];have:(row.take j++y::ys.drop (j+1)).set j x=row.take (j+1)++ys.drop (j+1):=by
    have e:row.take (j+1)=row.take j++[x]:=by obtain⟨h1,h2⟩:=eV.mp XJ;rw[<-h2];simp
    have:=zob (row.take j) (ys.drop (j+1)) y x;rw[hlj] at this;rw[this,e,gH];rfl
   rw[this]
  .rw[sb₃.1,sb₂.1,G8]
  .have Pq:q∈ps:=List.mem_of_getElem? hq;have k3:∀o,h₂.get? q.it=some o->h₃.get? q.it=some o:=λo e=>sb₃.extBut _ _ (D.iTO q Pq) e;by_cases hij:i=j
   .subst hij;rw[hp] at hq;cases hq;rw[if_pos (Nat.lt_succ_self _)];exact it₂.at k3
   .have hne':q.it≠p.it:=λz=>hij (by
     obtain⟨a1,a2⟩:=eV.mp hq;obtain⟨b1,b2⟩:=eV.mp hp;refine(List.getElem_inj (xs:=ps.map (·.it)) (i:=i) (j:=j) (h₀:=by simpa using a1) (h₁:=by simpa using b1) D.nd).mp ?_;simp[a2,b2,z])
    have:=i1 i q hq;have e:(if i<j+1 then k+1 else k)=(if i<j then k+1 else k):=by
     by_cases h1:i<j
     .rw[if_pos h1,if_pos (by omega)]
     .rw[if_neg h1,if_neg (by omega)]
    rw[e];exact(this.at λo e=>sb₂.extBut _ _ hne' e).at k3
  .exact sb₃.extBut _ _ c2 (sb₂.extBut _ _ (c3 p hpm) (k1 c o c1 c2 c3 e))
 .rintro⟨b1,b2⟩ s' ⟨hb,j,h,rfl,hrest,hj,z1,t1,G8,i1,k1⟩
  have hb':b1=none:=hb;subst hb';have hjl:j=ps.length:=by
   refine Nat.le_antisymm hj (Nat.le_of_not_lt λhlt=>?_);have hd:ps.drop j≠[]:=by intro e;have:=congrArg List.length e;rw[List.length_drop] at this;simp at this;omega
   cases q:ps.drop j with
   |nil=>exact hd q
   |cons a r=>rw[q] at hrest;simp at hrest
  subst hjl;have Xl:h.get? TO=some (cU row):=by rw[t1,List.take_of_length_le (by omega),List.drop_of_length_le (by omega),List.append_nil]
  show wpAny _ _ (seqItems? (.ref TO) >>= _) _ _ _;refine aF (wpAny_seqItems Xl rfl ?_);refine aF (wpAny_newTuple ?_ (by simp;omega));have hzlt:z<h.objs.size:=cg z1;show wpAny _ _ (Builtin.SmallTypes.ownedTupleHandOut (.ref z) (.ref h.objs.size) >>= _) _ _ _;refine aF ?_;unfold Builtin.SmallTypes.ownedTupleHandOut;have hz₆:IsZip (h.push { cls := .type "tuple",data := .seq row.toArray.toList.toArray }) z TI TO .ellipsis:=cX _ z1;refine aF (wpAny_setField_rec hz₆ (by simp) λh₇ hz₇ hs₇=>?_);replace hz₇:IsZip h₇ z TI TO (rawInt h.objs.size):=hz₇;refine wpAny_setField_rec hz₇ (by simp) λh₈ hz₈ hs₈=>?_;replace hz₈:IsZip h₈ z TI TO (rawInt h.objs.size):=hz₈;have up:∀c o,c≠z->h.get? c=some o->h₈.get? c=some o:=λc o c1 e=>hs₈.extBut _ _ c1 (hs₇.extBut _ _ c1 (cX _ e));have hT₈:h₈.get? h.objs.size=some (cU row):=hs₈.extBut _ _ (Nat.ne_of_gt hzlt) (hs₇.extBut _ _ (Nat.ne_of_gt hzlt) (by simpa[cU] using gB h (o:=cU row) rfl));have hz8:h₈.objs.size=h.objs.size+1:=by rw[hs₈.1,hs₇.1,Heap.size_push]
  rw[G8] at hz₈ hT₈ hz8;refine bT ⟨_,rfl,?_⟩;show Q (.ref h.objs.size) _;rw[G8];refine hQ h₈ hz₈ (up _ _ D.TOz Xl) (λp hp=>?_) hT₈ hz8 λc o c1 c2 c3 e=>up c o c1 (k1 c o c1 c2 c3 e);obtain⟨i,hil,e⟩:=List.mem_iff_getElem.mp hp;have:=i1 i p (by rw[eV];exact⟨hil,e⟩);rw[if_pos hil] at this;exact this.at λo e=>up _ o (D.iz p hp) e
 .refine⟨rfl,0,h₁,rfl,rfl,Nat.zero_le _,hz₁,by simpa using hs₁.extBut _ _ D.TOz hTO,hs₁.1,λi p hp=>?_,λc o c1 c2 c3 e=>hs₁.extBut _ _ c1 e⟩;have hpm:=List.mem_of_getElem? hp;rw[if_neg (Nat.not_lt_zero _)];exact(hi p hpm).at λo e=>hs₁.extBut _ _ (D.iz p hpm) e
theorem znt{z TI TO:Addr}{ps:List Sub}{xss:List (List Value)}{ys:List Value}{k j₀:Nat}{Q:Fin->Shared->Prop}(hh:A.handled=none)(D:xU z TI TO ps)(hne:ps≠[])(hps:ps.length<=100)(hz:IsZip s.heap z TI TO .none)(hTI:s.heap.get? TI=some (cU (ps.map λp=>Value.ref p.it)))(hTO:s.heap.get? TO=some (cU ys))(hy:ys.length=ps.length)(hl:xss.length=ps.length)(hi:∀p∈ps,b8 s.heap p k)(hs:∀(j:Nat) p xs,ps[j]?=some p->xss[j]?=some xs->SrcAt s.heap p xs)(hj₀:j₀<ps.length)(wM:∀(j:Nat) xs,j<j₀->xss[j]?=some xs->∃x,xs[k]?=some x)(hend:∀xs,xss[j₀]?=some xs->xs[k]?=none)(hE:∀h' e,(∀c o,c≠z->c≠TO->(∀p∈ps,c≠p.it)->s.heap.get? c=some o->h'.get? c=some o)->(∃o,h'.get? e=some o/\o.cls = .type "StopIteration")->E (.ref e) { s with heap:=h' }):
 wpAny (model prog w) A (Builtin.«zip.__next__» ⟨[.ref z],[]⟩) Q E s:=by
 have line:(100:Nat)<=sizeLine:=by decide
 show wpAny _ _ (field (.ref z) 2 >>= _) _ _ _;refine aF (wpAny_field hz rfl (x := .bool false) rfl ?_);show wpAny _ _ (field (.ref z) 3 >>= _) _ _ _;refine aF (wpAny_field hz rfl (x := .ref TI) rfl ?_);refine aF (wpAny_seqItems hTI rfl ?_);have hemp:((ps.map λp=>Value.ref p.it).toArray.isEmpty)=false:=by
  cases ps with
  |nil=>exact absurd rfl hne
  |cons _ _=>simp
 show wpAny _ _ (if((ps.map λp=>Value.ref p.it).toArray.isEmpty)=true then _ else _) _ _ _;rw[if_neg (by rw[hemp];exact fB)];show wpAny _ _ (Builtin.SmallTypes.ownedTupleIsFree (.ref z) >>= _) _ _ _;refine aF ?_;unfold Builtin.SmallTypes.ownedTupleIsFree;refine aF (wpAny_field hz rfl (x := .none) rfl (bT ?_));simp only[if_true];refine aF (wpAny_rule ?_);refine aF (wpAny_field hz rfl (x := .ref TO) rfl ?_);refine aF (wpAny_setField_rec hz (by simp) λh₁ hz₁ hs₁=>?_);replace hz₁:IsZip h₁ z TI TO .ellipsis:=hz₁;refine aF ?_;refine wpAny_forIn_list _
  (λrest b s'=>b.1=none/\∃j h cur,s'={ s with heap:=h }/\rest=((ps.drop j).map λp=>Value.ref p.it).zipIdx j/\j<=j₀/\IsZip h z TI TO .ellipsis/\h.get? TO=some (cU cur)/\cur.length=ps.length /\
   (∀(i:Nat) p,ps[i]?=some p->j<=i->b8 h p k)/\∀c o,c≠z->c≠TO->(∀p∈ps,c≠p.it)->s.heap.get? c=some o->h.get? c=some o) _ ?_ ?_ _ _ ?_
 .rintro⟨v,kk⟩ rest b s' ⟨hb,j,h,cur,rfl,hrest,hj,z1,t1,c1',i1,k1⟩
  have hjl:j<ps.length:=DX hj hj₀;obtain⟨p,hp⟩:∃p,ps[j]?=some p:=⟨ps[j],by simp[hjl]⟩
  have hpm:p∈ps:=List.mem_of_getElem? hp;have hdrop:ps.drop j=p::ps.drop (j+1):=by obtain⟨h1,h2⟩:=eV.mp hp;rw[<-h2];exact List.drop_eq_getElem_cons h1
  rw[hdrop,iU,List.zipIdx_cons] at hrest;injection hrest with e1 e2;obtain⟨e3,e4⟩:=Prod.mk.inj e1;subst e3;replace e4:=e4.symm;subst e4;obtain⟨xs,hxs⟩:∃xs,xss[j]?=some xs:=⟨xss[j]'(by omega),by simp⟩
  have hit:b8 h p k:=i1 j p hp (bZ _);have fQ:SrcAt h p xs:=(hs j p xs hp hxs).at λo e=>k1 _ o (D.sz p hpm) (D.sTO p hpm) (λq hq=>D.si p hpm q hq) e;obtain⟨b1,b2⟩:=b;have hb':b1=none:=hb;subst hb';by_cases hj0:j=j₀
  .subst hj0;refine aF (wpAny_onRaise ?_);show wpAny _ _ (Builtin.SmallTypes.nextOf (.ref p.it) >>= _) _ _ _;refine aF (znL hh hit fQ (hend xs hxs) λh₂ e sb₂ he=>?_);obtain⟨oe,hoe,hce⟩:=he;have hz₂:IsZip h₂ z TI TO .ellipsis:=sb₂ _ _ (D.iz p hpm).symm z1;have hez:e≠z:=λx=>by subst x;rw[hz₂] at hoe;cases hoe;simp at hce
   exact wpAny_setField_rec hz₂ (by simp) λh₃ _ hs₃=>hE h₃ e (λc o c1 c2 c3 x=>hs₃.extBut _ _ c1 (sb₂ _ _ (c3 p hpm) (k1 c o c1 c2 c3 x))) ⟨oe,hs₃.extBut _ _ hez hoe,hce⟩
  .obtain⟨x,hx⟩:=wM j xs (by omega) hxs;refine aF (wpAny_onRaise ?_);show wpAny _ _ (Builtin.SmallTypes.nextOf (.ref p.it) >>= _) _ _ _;refine aF (U0 hit fQ hx λh₂ it₂ sb₂=>bT ?_);have t2:h₂.get? TO=some (cU cur):=sb₂.extBut _ _ (D.iTO p hpm).symm t1;refine aF (wpAny_seqItems t2 rfl ?_);refine aF (Te (s:={ s with heap:=h₂ }) (k:=j) t2 (by omega) λh₃ t3 sb₃=>?_);refine aF (wpAny_letGo (bT ?_));refine⟨rfl,j+1,h₃,_,rfl,e2,by omega,?_,t3,by simpa using c1',λi q hq hiq=>?_,λc o c1 c2 c3 e=>?_⟩
   .exact sb₃.extBut _ _ D.TOz.symm (sb₂.extBut _ _ (D.iz p hpm).symm z1)
   .have Pq:q∈ps:=List.mem_of_getElem? hq;have hne':q.it≠p.it:=λz=>(show i≠j by omega) (by
     obtain⟨a1,a2⟩:=eV.mp hq;obtain⟨b1,b2⟩:=eV.mp hp;refine(List.getElem_inj (xs:=ps.map (·.it)) (i:=i) (j:=j) (h₀:=by simpa using a1) (h₁:=by simpa using b1) D.nd).mp ?_;simp[a2,b2,z])
    exact((i1 i q hq (by omega)).at λo e=>sb₂.extBut _ _ hne' e).at λo e=>sb₃.extBut _ _ (D.iTO q Pq) e
   .exact sb₃.extBut _ _ c2 (sb₂.extBut _ _ (c3 p hpm) (k1 c o c1 c2 c3 e))
 .rintro b s' ⟨hb,j,h,cur,rfl,hrest,hj,_⟩
  exfalso;have hd:ps.drop j≠[]:=by intro e;have:=congrArg List.length e;rw[List.length_drop] at this;simp at this;omega
  cases q:ps.drop j with
  |nil=>exact hd q
  |cons a r=>rw[q] at hrest;simp at hrest
 .refine⟨rfl,0,h₁,ys,rfl,rfl,Nat.zero_le _,hz₁,hs₁.extBut _ _ D.TOz hTO,hy,λi p hp _=>?_,λc o c1 c2 c3 e=>hs₁.extBut _ _ c1 e⟩;have hpm:=List.mem_of_getElem? hp;exact(hi p hpm).at λo e=>hs₁.extBut _ _ (D.iz p hpm) e
theorem zko{z TI TO:Addr}{ps:List Sub}{xss:List (List Value)}{row ys:List Value}{k:Nat}{Q:Option Value->Shared->Prop}(D:xU z TI TO ps)(hne:ps≠[])(hps:ps.length<=100)(hz:IsZip s.heap z TI TO .none)(hTI:s.heap.get? TI=some (cU (ps.map λp=>Value.ref p.it)))(hTO:s.heap.get? TO=some (cU ys))(hy:ys.length=ps.length)(hl:xss.length=ps.length)(hr:row.length=ps.length)(hi:∀p∈ps,b8 s.heap p k)(hs:∀(j:Nat) p xs,ps[j]?=some p->xss[j]?=some xs->SrcAt s.heap p xs)(hx:∀(j:Nat) xs x,xss[j]?=some xs->row[j]?=some x->xs[k]?=some x)(hQ:∀h',IsZip h' z TI TO (rawInt s.heap.objs.size)->h'.get? TO=some (cU row)->(∀p∈ps,b8 h' p (k+1))->h'.get? s.heap.objs.size=some (cU row)->h'.objs.size=s.heap.objs.size+1 ->
  (∀c o,c≠z->c≠TO->(∀p∈ps,c≠p.it)->s.heap.get? c=some o->h'.get? c=some o)->Q (some (.ref s.heap.objs.size)) { s with heap:=h' }):
 wpAny (model prog w) A (pyNext (.ref z)) Q E s:=by
 have hT:s.TypeIs (.ref z) "zip" := ⟨_,hz,rfl⟩
 unfold pyNext;exact aF (wpAny_attempt (wpAny_callSpecial?_slot (name:=Str.ofString "__next__") hT F.slot_zip_next
  (wpAny_call_entry F.slot_zip_next hT F.entry_zip_next
   (zly D hne hps hz hTI hTO hy hl hr hi hs hx λh' a1 a2 a3 a4 a5 a6=>bT (hQ h' a1 a2 a3 a4 a5 a6)) (F.args_zip_next_1 _))))
theorem zmh{z TI TO:Addr}{ps:List Sub}{xss:List (List Value)}{ys:List Value}{k j₀:Nat}{Q:Option Value->Shared->Prop}(hh:A.handled=none)(D:xU z TI TO ps)(hne:ps≠[])(hps:ps.length<=100)(hz:IsZip s.heap z TI TO .none)(hTI:s.heap.get? TI=some (cU (ps.map λp=>Value.ref p.it)))(hTO:s.heap.get? TO=some (cU ys))(hy:ys.length=ps.length)(hl:xss.length=ps.length)(hi:∀p∈ps,b8 s.heap p k)(hs:∀(j:Nat) p xs,ps[j]?=some p->xss[j]?=some xs->SrcAt s.heap p xs)(hj₀:j₀<ps.length)(wM:∀(j:Nat) xs,j<j₀->xss[j]?=some xs->∃x,xs[k]?=some x)(hend:∀xs,xss[j₀]?=some xs->xs[k]?=none)(hQ:∀h',(∀c o,c≠z->c≠TO->(∀p∈ps,c≠p.it)->s.heap.get? c=some o->h'.get? c=some o)->Q none { s with heap:=h' }):
 wpAny (model prog w) A (pyNext (.ref z)) Q E s:=by
 have hT:s.TypeIs (.ref z) "zip" := ⟨_,hz,rfl⟩
 unfold pyNext;refine aF (wpAny_attempt (wpAny_callSpecial?_slot (name:=Str.ofString "__next__") hT F.slot_zip_next
  (wpAny_call_entry F.slot_zip_next hT F.entry_zip_next (znt hh D hne hps hz hTI hTO hy hl hi hs hj₀ wM hend λh' e hk he=>?_) (F.args_zip_next_1 _))))
 obtain⟨o,ho,hc⟩:=he;refine aF (wpAny_isInstance (T := "StopIteration") (b:=true) ⟨o,ho,hc⟩ isSubtype_stop ?_);exact bT (hQ _ hk)
noncomputable def dD(n:Nat):List (Addr×Bool)->List Sub
 |[]=>[]
 | (a,t)::r=>⟨n,a,t⟩::dD (n+1) r
def eY(h:Heap)(p:Addr×Bool):Prop:=if p.2=true then ∃xs,h.IsTuple p.1 xs else ∃xs,h.IsList p.1 xs
theorem eY.keeps{h h':Heap}{p:Addr×Bool}(x:eY h p)(f:∀b o,h.get? b=some o->h'.get? b=some o):eY h' p:=by
 unfold eY at x ⊢;split
 .rename_i hp;rw[if_pos hp] at x;obtain⟨xs,o,e,r⟩:=x;exact⟨xs,o,f _ o e,r⟩
 .rename_i hp;rw[if_neg hp] at x;obtain⟨xs,o,e,r⟩:=x;exact⟨xs,o,f _ o e,r⟩
theorem zmt{p:Addr×Bool}{Q:Value->Shared->Prop}(hp:eY s.heap p)(h:∀h',(∀b o,s.heap.get? b=some o->h'.get? b=some o)->h'.objs.size=s.heap.objs.size+1->b8 h' ⟨s.heap.objs.size,p.1,p.2⟩ 0->Q (.ref s.heap.objs.size) { s with heap:=h' }):
 wpAny (model prog w) A (pyIter (.ref p.1)) Q E s:=by
 unfold eY at hp;by_cases ht:p.2=true
 .rw[if_pos ht] at hp;obtain⟨xs,hx⟩:=hp;refine wpAny_pyIter_tuple hx (h _ (λb o e=>cX _ e) (Heap.size_push ..) ?_);unfold b8;rw[if_pos ht];exact⟨_,gB _ rfl,rfl,rfl⟩
 .rw[if_neg ht] at hp;obtain⟨xs,hx⟩:=hp;refine wpAny_pyIter_list hx (h _ (λb o e=>cX _ e) (Heap.size_push ..) ?_);unfold b8;rw[if_neg ht];exact⟨_,gB _ rfl,rfl,rfl⟩
theorem Fz:∀(n:Nat) (l:List (Addr×Bool)) (p:Sub),p∈dD n l->n<=p.it/\p.it<n+l.length/\(p.src,p.tup)∈l
 |_,[],p,h=>by cases h
 |n,(a,t)::r,p,h=>by
  rcases List.mem_cons.mp h with rfl|h
  .exact⟨bZ _,by simp,fX⟩
  .obtain⟨h1,h2,h3⟩:=Fz (n+1) r p h;exact⟨Nat.le_of_succ_le h1,dg h2 (by rw[jd];omega),cG _ h3⟩
def KZ:∀(n:Nat) (l:List (Addr×Bool)),(dD n l).length=l.length
 |_,[]=>rfl
 |n,_::r=>by simp[dD,KZ (n+1) r]
theorem Tt:∀(n:Nat) (l:List (Addr×Bool)),((dD n l).map (·.it)).Nodup
 |_,[]=>List.nodup_nil
 |n,(a,t)::r=>by rw[dD,iU,List.nodup_cons];refine⟨λhm=>?_,Tt (n+1) r⟩;obtain⟨p,hp,e⟩:=List.mem_map.mp hm;have:=(Fz (n+1) r p hp).1;have e':p.it=n:=e;rw[e'] at this;exact absurd this (Nat.not_succ_le_self n)
theorem K8:∀(n:Nat) (l:List (Addr×Bool)) (p:Addr×Bool),dD n (l++[p])=dD n l++[⟨n+l.length,p.1,p.2⟩]
 |n,[],(a,t)=>rfl
 |n,(b,u)::r,p=>by
  rw[List.cons_append,dD,dD,K8 (n+1) r p,List.cons_append];have:n+1+r.length=n+(r.length+1):=by omega
  simp[this]
theorem zji{l:List (Addr×Bool)}{Q:List Value->Shared->Prop}(hl:∀p∈l,eY s.heap p)(h:∀h',(∀b o,s.heap.get? b=some o->h'.get? b=some o)->h'.objs.size=s.heap.objs.size+l.length->(∀p∈dD s.heap.objs.size l,b8 h' p 0)->Q ((dD s.heap.objs.size l).map λp=>Value.ref p.it) { s with heap:=h' }):
 wpAny (model prog w) A (Builtin.SmallTypes.iterAll (l.map λp=>Value.ref p.1)) Q E s:=by
 unfold Builtin.SmallTypes.iterAll;refine aF ?_;refine wpAny_forIn_list _ (λrest its s'=>∃d r h',l=d++r/\rest=r.map (λp=>Value.ref p.1)/\its=((dD s.heap.objs.size d).map λp=>Value.ref p.it).toArray/\s'={ s with heap:=h' } /\
  (∀b o,s.heap.get? b=some o->h'.get? b=some o)/\h'.objs.size=s.heap.objs.size+d.length/\∀p∈dD s.heap.objs.size d,b8 h' p 0) _ ?_ ?_ _ _ ?_
 .rintro x rest its s' ⟨d,r,h',rfl,hr,rfl,rfl,k1,z1,i1⟩
  cases r with
  |nil=>cases hr
  |cons p r =>
   rw[iU] at hr;injection hr with e1 e2;subst e1;refine aF (wpAny_holding (zmt (s:={ s with heap:=h' }) ((hl p (by simp)).keeps k1) λh2 k2 z2 i2=>bT ?_));refine⟨d++[p],r,h2,by simp,e2,?_,rfl,λb o e=>k2 b o (k1 b o e),by rw[z2];simp;show h'.objs.size+1=_;omega,λq hq=>?_⟩
   .rw[K8,uT];simp[z1]
   .rw[K8] at hq;rcases lO.mp hq with hq|hq
    .exact(i1 q hq).at λo e=>k2 _ o e
    .have e:q=⟨s.heap.objs.size+d.length,p.1,p.2⟩:=by simpa using hq
     subst e;have:({ s with heap:=h' }:Shared).heap.objs.size=s.heap.objs.size+d.length:=z1;rw[<-this];exact i2
 .rintro its s' ⟨d,r,h',rfl,hr,rfl,rfl,k1,z1,i1⟩
  cases r with
  |cons p r=>cases hr
  |nil =>
   rw[List.append_nil] at *
   exact bT (by simpa using h h' k1 z1 i1)
 .exact⟨[],l,s.heap,rfl,rfl,rfl,rfl,λ_ _ e=>e,rfl,λp hp=>by cases hp⟩
theorem zkz{l:List (Addr×Bool)}(hl:l.length<=100):
 Meets (Builtin.«zip.__new__» ⟨.type "zip" :: l.map (λp=>Value.ref p.1),[]⟩) (λ_ R s=>(∀p∈l,eY s.heap p) /\
  ∀h',IsZip h' (s.heap.objs.size+l.length+2) (s.heap.objs.size+l.length) (s.heap.objs.size+l.length+1) .none->h'.get? (s.heap.objs.size+l.length)=some (cU ((dD s.heap.objs.size l).map λp=>Value.ref p.it)) ->
   h'.get? (s.heap.objs.size+l.length+1)=some (cU ((dD s.heap.objs.size l).map λ_=>Value.none))->(∀p∈dD s.heap.objs.size l,b8 h' p 0)->h'.objs.size=s.heap.objs.size+l.length+3 ->
   (∀b o,s.heap.get? b=some o->h'.get? b=some o)->R (.ok (.ret (.ref (s.heap.objs.size+l.length+2)))) { s with heap:=h' }) :=
 .of_wp λprog w A R s h=>by
  obtain⟨hl1,h⟩:=h;have line:(100:Nat)<=sizeLine:=by decide
  have hsl:=KZ s.heap.objs.size l;unfold Builtin.«zip.__new__»;refine aF ?_;unfold Builtin.SmallTypes.newClass;show wpAny _ _ (isType (.type "zip") >>= _) _ _ _;refine aF (wpAny_of_eq (a:=true) rfl ?_);show wpAny _ _ (isSubtype (.type "zip") (.type "zip") >>= _) _ _ _;refine aF (wpAny_of_eq (a:=true) sub_zip ?_);refine bT ?_;show wpAny _ _ (Builtin.SmallTypes.iterAll (l.map λp=>Value.ref p.1) >>= _) _ _ _;refine aF (zji hl1 λh1 k1 z1 i1=>?_);show wpAny _ _ (newTuple ((dD s.heap.objs.size l).map λp=>Value.ref p.it) >>= _) _ _ _;refine aF (wpAny_newTuple ?_ (by rw[cZ];omega));refine aF (wpAny_newTuple ?_ (by simp only[cZ];omega));refine aF ?_;unfold Builtin.SmallTypes.newRecord;refine wpAny_newObj_type ?_ (by first|trivial|(show(_:Nat)<=_;simp;decide)|size_fits);refine bT ⟨_,rfl,?_⟩;have z2:(h1.push (cU ((dD s.heap.objs.size l).map λp=>Value.ref p.it))).objs.size=s.heap.objs.size+l.length+1:=by rw[Heap.size_push,z1]
  have z3:((h1.push (cU ((dD s.heap.objs.size l).map λp=>Value.ref p.it))).push (cU (((dD s.heap.objs.size l).map λp=>Value.ref p.it).map λ_=>Value.none))).objs.size=s.heap.objs.size+l.length+2:=by rw[Heap.size_push,z2]
  have g1:∀o,((h1.push (cU ((dD s.heap.objs.size l).map λp=>Value.ref p.it))).push (cU (((dD s.heap.objs.size l).map λp=>Value.ref p.it).map λ_=>Value.none)) |>.push o).get? (s.heap.objs.size+l.length)=some (cU ((dD s.heap.objs.size l).map λp=>Value.ref p.it)):=λo=>by rw[<-z1];exact cX _ (cX _ (gB _ rfl))
  have g2:∀o,((h1.push (cU ((dD s.heap.objs.size l).map λp=>Value.ref p.it))).push (cU (((dD s.heap.objs.size l).map λp=>Value.ref p.it).map λ_=>Value.none)) |>.push o).get? (s.heap.objs.size+l.length+1)=some (cU ((dD s.heap.objs.size l).map λ_=>Value.none)):=λo=>by rw[<-z2];have:=cX o (gB (h1.push (cU ((dD s.heap.objs.size l).map λp=>Value.ref p.it))) (o:=cU (((dD s.heap.objs.size l).map λp=>Value.ref p.it).map λ_=>Value.none)) rfl);rw[List.map_map] at this ⊢;exact this
  have g3:((h1.push (cU ((dD s.heap.objs.size l).map λp=>Value.ref p.it))).push (cU (((dD s.heap.objs.size l).map λp=>Value.ref p.it).map λ_=>Value.none)) |>.push { cls := .type "zip",dict:=none,data := .fields #[.none,.bool false,.bool false,.ref (s.heap.objs.size+l.length),.ref (s.heap.objs.size+l.length+1)],slots:=#[] }).get? (s.heap.objs.size+l.length+2)=some { cls := .type "zip",dict:=none,data := .fields #[.none,.bool false,.bool false,.ref (s.heap.objs.size+l.length),.ref (s.heap.objs.size+l.length+1)],slots:=#[] }:=by rw[<-z3];exact gB _ rfl
  have fin:=h _ g3 (g1 _) (g2 _) (λp hp=>(i1 p hp).at λo e=>cX _ (cX _ (cX _ e))) (by rw[Heap.size_push,z3]) λb o e=>cX _ (cX _ (cX _ (k1 b o e)));show R (.ok (.ret (.ref ((h1.push (cU ((dD s.heap.objs.size l).map λp=>Value.ref p.it))).push (cU (((dD s.heap.objs.size l).map λp=>Value.ref p.it).map λ_=>Value.none))).objs.size))) { s with heap:=((h1.push (cU ((dD s.heap.objs.size l).map λp=>Value.ref p.it))).push (cU (((dD s.heap.objs.size l).map λp=>Value.ref p.it).map λ_=>Value.none))).push { cls := .type "zip",dict:=none,data := .fields #[.none,.bool false,.bool false,.ref h1.objs.size,.ref (h1.push (cU ((dD s.heap.objs.size l).map λp=>Value.ref p.it))).objs.size],slots:=#[] } };rw[z3,z2,z1];exact fin
end
noncomputable def rowAt{α:Type}:List (List α)->Nat->Option (List α)
 |[],_=>some []
 |xs::r,i=>(xs[i]?).bind λx=>(rowAt r i).map (x::·)
theorem Vu{α:Type}:∀{xss:List (List α)} {i:Nat} {row:List α},rowAt xss i=some row->row.length=xss.length
 |[],_,_,h=>by cases h;rfl
 |xs::r,i,row,h=>by simp only[rowAt,aW,aR] at h;obtain⟨x,_,r',e,rfl⟩:=h;simp[Vu e]
theorem Vt{α:Type}:∀{xss:List (List α)} {i j:Nat} {row:List α} {xs:List α} {x:α},rowAt xss i=some row->xss[j]?=some xs->row[j]?=some x->xs[i]?=some x
 |[],_,_,_,_,_,_,h,_=>by simp at h
 |ys::r,i,0,row,xs,x,h,h1,h2=>by simp only[rowAt,aW,aR] at h;obtain⟨y,e1,r',e,rfl⟩:=h;simp at h1 h2;subst h1;subst h2;exact e1
 |ys::r,i,j+1,row,xs,x,h,h1,h2=>by simp only[rowAt,aW,aR] at h;obtain⟨y,e1,r',e,rfl⟩:=h;exact Vt e (by simpa using h1) (by simpa using h2)
theorem Wc{α:Type}:∀{xss:List (List α)} {i:Nat},rowAt xss i=none->∃j,j<xss.length/\(∀(k:Nat) xs,k<j->xss[k]?=some xs->∃x,xs[i]?=some x)/\∀xs,xss[j]?=some xs->xs[i]?=none
 |[],_,h=>by cases h
 |ys::r,i,h=>by
  cases e:ys[i]? with
  |none=>exact⟨0,by simp,λk xs hk=>absurd hk (Nat.not_lt_zero _),λxs hx=>by simp at hx;subst hx;exact e⟩
  |some y =>
   have h':rowAt r i=none:=by
    cases q:rowAt r i with
    |none=>rfl
    |some z=>simp[rowAt,e,q] at h
   obtain⟨j,h1,h2,h3⟩:=Wc h';refine⟨j+1,by simp;omega,λk xs hk hx=>?_,λxs hx=>h3 xs (by simpa using hx)⟩;cases k with
   |zero=>simp at hx;subst hx;exact⟨y,e⟩
   |succ k=>exact h2 k xs (by omega) (by simpa using hx)
inductive SrcsR(K:FgA)(H:Hp):List (Addr×Bool)->List (List V)->Prop
 |nil:SrcsR K H [] []
 |tup {a:Addr} {xs:List V} {l:List (Addr×Bool)} {r:List (List V)}:dG K H a xs->SrcsR K H l r->SrcsR K H ((a,true)::l) (xs::r)
 |lst {a:Addr} {xs:List V} {l:List (Addr×Bool)} {r:List (List V)}:cQ K H a xs->SrcsR K H l r->SrcsR K H ((a,false)::l) (xs::r)
noncomputable def Itz(K:FgA)(srcs:List (Addr×Bool)):It :=
 ⟨λi H=>∃xss row,SrcsR K H srcs xss/\rowAt xss i=some row,
  λi H x H'=>∃p row,x = .ref p/\H p=none/\H'=upd H p (.tup row)/\∀xss,SrcsR K H srcs xss->rowAt xss i=some row,
  λi H=>∃xss,SrcsR K H srcs xss/\rowAt xss i=none⟩
section
variable {X:Cx}{pins:List (Addr×Obj)}{σ:L2.St}{H:Hp}{s:Shared}
theorem KY(I:Inv X pins σ H s):∀{l:List (Addr×Bool)} {r r':List (List V)},SrcsR X.K H l r->SrcsR X.K H l r'->r=r'
 |_,_,_,.nil,.nil=>rfl
 |_,_,_,.tup h t,.tup h' t'=>by rw[I.tuple_inj h h',KY I t t']
 |_,_,_,.lst h t,.lst h' t'=>by rw[I.list_inj h h',KY I t t']
theorem Gh(I:Inv X pins σ H s):∀{l:List (Addr×Bool)} {r:List (List V)},SrcsR X.K H l r->∃us:List (List Value),us.length=l.length /\
 (∀(j:Nat) p u,l[j]?=some p->us[j]?=some u->SrcAt s.heap ⟨0,p.1,p.2⟩ u)/\(∀(i:Nat) row,rowAt r i=some row->∃iI,rowAt us i=some iI/\Vals row iI)/\∀(i:Nat),rowAt r i=none->rowAt us i=none
 |_,_,.nil=>⟨[],rfl,λj p u h=>by simp at h,λi row h=>by cases h;exact⟨[],rfl,.nil⟩,λi h=>by cases h⟩
 |_,_,@SrcsR.tup _ _ a xs l r h t=>by
  obtain⟨us,h1,h2,h3,h4⟩:=Gh I t;obtain⟨its,rv,ht,hz⟩:=I.tuple h;refine⟨its::us,by simp[h1],λj p u e1 e2=>?_,λi row e=>?_,λi e=>?_⟩
  .cases j with
   |zero=>simp at e1 e2;subst e1;subst e2;unfold SrcAt;rw[if_pos rfl];exact ht
   |succ j=>exact h2 j p u (by simpa using e1) (by simpa using e2)
  .simp only[rowAt,aW,aR] at e;obtain⟨x,e1,r',e2,rfl⟩:=e;obtain⟨w,ew,fj⟩:=rv.get e1;obtain⟨ur,e3,r3⟩:=h3 i r' e2;exact⟨w::ur,by simp[rowAt,ew,e3],.cons fj r3⟩
  .cases q:xs[i]? with
   |none=>simp[rowAt,rv.none_of q]
   |some x =>
    have e':rowAt r i=none:=by
     cases q2:rowAt r i with
     |none=>rfl
     |some z=>simp[rowAt,q,q2] at e
    obtain⟨w,ew,_⟩:=rv.get q;simp[rowAt,ew,h4 i e']
 |_,_,@SrcsR.lst _ _ a xs l r h t=>by
  obtain⟨us,h1,h2,h3,h4⟩:=Gh I t;obtain⟨its,rv,ht,hz⟩:=I.list h;refine⟨its::us,by simp[h1],λj p u e1 e2=>?_,λi row e=>?_,λi e=>?_⟩
  .cases j with
   |zero=>simp at e1 e2;subst e1;subst e2;unfold SrcAt;rw[if_neg fB];exact ht.isList
   |succ j=>exact h2 j p u (by simpa using e1) (by simpa using e2)
  .simp only[rowAt,aW,aR] at e;obtain⟨x,e1,r',e2,rfl⟩:=e;obtain⟨w,ew,fj⟩:=rv.get e1;obtain⟨ur,e3,r3⟩:=h3 i r' e2;exact⟨w::ur,by simp[rowAt,ew,e3],.cons fj r3⟩
  .cases q:xs[i]? with
   |none=>simp[rowAt,rv.none_of q]
   |some x =>
    have e':rowAt r i=none:=by
     cases q2:rowAt r i with
     |none=>rfl
     |some z=>simp[rowAt,q,q2] at e
    obtain⟨w,ew,_⟩:=rv.get q;simp[rowAt,ew,h4 i e']
def Tg{a:Addr}{u:HO}(h:Rd H a u):∃o,H a=some o:=by
 rcases h with h|⟨o,h⟩
 .exact⟨_,h⟩
 .exact⟨_,h⟩
theorem k_ne(I:Inv X pins σ H s){a b:Addr}{o:Obj}(hk:X.K.lookup a=some o)(hf:jE X pins H b):a≠b:=by
 rintro rfl
 have hb:=I.ok.mod.kin a o hk;rcases hf.2.2.2.1 with z|z
 .exact I.ok.noex a o hb z
 .exact absurd (dg (dg (cg hb) I.ok.bsz) z) (gO _)
theorem tM(I:Inv X pins σ H s){b:Addr}(hf:jE X pins H b):∀{l:List (Addr×Bool)} {r:List (List V)},SrcsR X.K H l r->∀p∈l,p.1≠b
 |_,_,.nil,p,hp=>by cases hp
 |_,_,.tup h t,p,hp=>by
  rcases List.mem_cons.mp hp with rfl|hp
  .rcases h with h|⟨o,_,_,hk,_⟩
   .obtain⟨o,e⟩:=Tg h;exact fD e hf.1
   .exact k_ne I hk hf
  .exact tM I hf t p hp
 |_,_,.lst h t,p,hp=>by
  rcases List.mem_cons.mp hp with rfl|hp
  .rcases h with h|⟨o,_,_,hk,_⟩
   .obtain⟨o,e⟩:=Tg h;exact fD e hf.1
   .exact k_ne I hk hf
  .exact tM I hf t p hp
theorem JR(I:Inv X pins σ H s):∀{l:List (Addr×Bool)} {r:List (List V)},SrcsR X.K H l r->∀p∈l,eY s.heap p
 |_,_,.nil,p,hp=>by cases hp
 |_,_,.tup h t,p,hp=>by
  rcases List.mem_cons.mp hp with rfl|hp
  .obtain⟨its,_,ht,_⟩:=I.tuple h;unfold eY;rw[if_pos rfl];exact⟨_,ht⟩
  .exact JR I t p hp
 |_,_,.lst h t,p,hp=>by
  rcases List.mem_cons.mp hp with rfl|hp
  .obtain⟨its,_,ht,_⟩:=I.list h;unfold eY;rw[if_neg fB];exact⟨_,ht.isList⟩
  .exact JR I t p hp
theorem Inv.turnedN{t':Nat}{h':Heap}{ch:List Addr}(I:Inv X pins σ H s)(k:∀b o,b∉ch->s.heap.get? b=some o->h'.get? b=some o)(hf:∀b∈ch,jE X pins H b):Inv X pins σ H { s with heap:=h',toks:=t' }:=by
 have oH:∀b u,H b=some u->b∉ch:=λb u e hb=>by rw[(hf b hb).1] at e;cases e
 refine I.step (g':=s.gens) (d':=s.drawn) (ch:=ch) (λb hb=>⟨(hf b hb).2.2.2.1,(hf b hb).2.1,(hf b hb).2.2.2.2.1,(hf b hb).2.2.2.2.2⟩) (λb o _ _ hc e _=>k b o hc e) (λb o _ _ hc e _=>⟨o.slots,k b o hc e⟩) (λ_ _ _ _ n=>n)
  (λb o hc e=>⟨o,k b o hc e⟩) (λ_ _ e=>e) (λ_ _ _ e=>e) (λb ps e=>⟨#[],by rw[e];simp⟩) (λm hm=>?_) (λb u e=>?_) I.bare
 .obtain⟨o,es,ep,ho,r⟩:=hm;exact⟨o,es,ep,k _ o (λhb=>(hf _ hb).2.1 rfl) ho,r⟩
 .refine(I.hok b u e).stay (λc v hc q=>k c v ?_ q) (λ_ q=>q) λ_ _ q=>q;rcases hc with rfl|hc
  .exact oH _ _ e
  .exact oH _ _ hc
theorem Inv.turnedT{t':Nat}{h':Heap}{ch:List Addr}{row:List V}{iI:List Value}(I:Inv X pins σ H s)(k:∀b o,b∉ch->s.heap.get? b=some o->h'.get? b=some o)(hf:∀b∈ch,jE X pins H b)(ht:h'.get? s.heap.objs.size=some (cU iI))(rv:Vals row iI)(hz:row.length<=sizeLine):Inv X pins σ (upd H s.heap.objs.size (.tup row)) { s with heap:=h',toks:=t' }:=by
 have oH:∀b u,H b=some u->b∉ch:=λb u e hb=>by rw[(hf b hb).1] at e;cases e
 have hn:H s.heap.objs.size=none:=I.hok.fresh (bZ _);have old:∀b o,s.heap.get? b=some o->b≠s.heap.objs.size:=λb o e=>dh (cg e);refine I.step (g':=s.gens) (d':=s.drawn) (ch:=ch) (λb hb=>⟨(hf b hb).2.2.2.1,(hf b hb).2.1,(hf b hb).2.2.2.2.1,(hf b hb).2.2.2.2.2⟩) (λb o _ _ hc e _=>k b o hc e) (λb o _ _ hc e _=>⟨o.slots,k b o hc e⟩)
  (λb o _ e n=>by rw[bN (old b o e)];exact n)
  (λb o hc e=>⟨o,k b o hc e⟩) (λb xs e=>by rw[bN (fD e hn)];exact e) (λb o u e=>by rw[bN (fD e hn)];exact e) (λb ps e=>⟨#[],by rw[bN (fD e hn),e];simp⟩) (λm hm=>?_) (λb u e=>?_) I.bare
 .obtain⟨o,es,ep,ho,r⟩:=hm;exact⟨o,es,ep,k _ o (λhb=>(hf _ hb).2.1 rfl) ho,r⟩
 .by_cases hb:b=s.heap.objs.size
  .subst hb;rw[dU] at e;cases e;exact⟨hz,iI,rv,⟨_,ht,rfl,_,rfl⟩⟩
  .rw[bN hb] at e;refine(I.hok b u e).stay (λc v hc q=>k c v ?_ q) (λc q=>by rw[bN (fD q hn)];exact q) λc xs q=>by rw[bN (fD q hn)];exact q
   rcases hc with rfl|hc
   .exact oH _ _ e
   .exact oH _ _ hc
end
structure xQ(z TI TO:Addr)(ps:List Sub):Prop where
 TIz:TI≠z
 TOz:TO≠z
 TITO:TI≠TO
 iz:∀p∈ps,p.it≠z
 iTI:∀p∈ps,p.it≠TI
 iTO:∀p∈ps,p.it≠TO
 nd:(ps.map (·.it)).Nodup
theorem zlD{P:Program}{w:World}{K:FgA}{es:List Expr}{kk:Nat}{tp:Pos}{z TI TO:Addr}{ps:List Sub}{srcs:List (Addr×Bool)}(D:xQ z TI TO ps)(fQ:ps.map (λp=>(p.src,p.tup))=srcs)(hne:ps≠[])(hps:ps.length<=100):
 uV P w K (.Tuple es kk tp) (Itz K srcs) (z::TI::TO::ps.map (·.it)) z (λi h=>IsZip h z TI TO .none/\h.get? TI=some (cU (ps.map λp=>Value.ref p.it))/\(∃ys,h.get? TO=some (cU ys)/\ys.length=ps.length)/\∀p∈ps,b8 h p i) where
 mem:=fX
 obj:=λi h ⟨h1,h2,⟨ys,h3,_⟩,h4⟩ b hb=>by
  rcases List.mem_cons.mp hb with rfl|hb
  .exact⟨_,h1,λv z=>by cases z⟩
  rcases List.mem_cons.mp hb with rfl|hb
  .exact⟨_,h2,λv z=>by cases z⟩
  rcases List.mem_cons.mp hb with rfl|hb
  .exact⟨_,h3,λv z=>by cases z⟩
  obtain⟨p,hp,rfl⟩:=List.mem_map.mp hb;exact(h4 p hp).obj
 keep:=λi h h' ⟨h1,h2,⟨ys,h3,h3'⟩,h4⟩ k=>by refine⟨k z fX _ h1,k TI (by simp) _ h2,⟨ys,k TO (by simp) _ h3,h3'⟩,λp hp=>(h4 p hp).at λo e=>k _ ?_ o e⟩;exact cG _ (cG _ (cG _ (List.mem_map.mpr ⟨p,hp,rfl⟩)))
 item:=by
  intro X hP hw hK hc i pins s σ H E I hf st hg;subst hP hw hK;obtain⟨h1,h2,⟨ys,h3,h3'⟩,h4⟩:=st;obtain⟨xss,row,hS,hrow⟩:=hg;obtain⟨us,u1,u2,u3,u4⟩:=Gh I hS;obtain⟨iI,e1,rv⟩:=u3 i row hrow;have hlen:srcs.length=ps.length:=by rw[<-fQ,cZ]
  have fz:=hf z fX;have Dq:=hf TO (by simp);have fit:∀p∈ps,jE X pins H p.it:=λp hp=>hf _ (cG _ (cG _ (cG _ (List.mem_map.mpr ⟨p,hp,rfl⟩))));have sm:∀p∈ps,(p.src,p.tup)∈srcs:=λp hp=>by rw[<-fQ];exact List.mem_map.mpr ⟨p,hp,rfl⟩
  have DD:xU z TI TO ps:=⟨D.TIz,D.TOz,D.TITO,D.iz,D.iTI,D.iTO,λp hp=>tM I fz hS _ (sm p hp),λp hp=>tM I Dq hS _ (sm p hp),λp hp q hq=>tM I (fit q hq) hS _ (sm p hp),D.nd⟩
  have ul:us.length=ps.length:=by rw[u1,hlen]
  have hrl:iI.length=ps.length:=by rw[Vu e1,ul]
  have hat:∀(j:Nat) p xs,ps[j]?=some p->us[j]?=some xs->SrcAt s.heap p xs:=λj p xs hp hx=>by
   have hj:srcs[j]?=some (p.src,p.tup):=by rw[<-fQ,gG,hp];rfl
   exact u2 j _ xs hj hx
  refine zko DD hne hps h1 h2 h3 h3' ul hrl h4 hat (λj xs x hx hr=>Vt e1 hx hr) λh' a1 a2 a3 a4 a5 a6=>?_;refine⟨_,rfl,wpAny_letOwnedTupleGo_zip (s:={ s with heap:=h' }) a1 λh'' b1 b2=>?_⟩;have PB:s.heap.objs.size≠z:=Nat.ne_of_gt (cg h1);have kp:∀c o,c∉(z::TO::ps.map (·.it))->s.heap.get? c=some o->h''.get? c=some o:=λc o hc e=>by have c1:c≠z:=λq=>hc (by simp[q]);have c2:c≠TO:=λq=>hc (by simp[q]);have c3:∀p∈ps,c≠p.it:=λp hp q=>hc (cG _ (cG _ (List.mem_map.mpr ⟨p,hp,q.symm⟩)));exact b2.extBut _ _ c1 (a6 c o c1 c2 c3 e)
  have fch:∀b∈z::TO::ps.map (·.it),jE X pins H b:=λb hb=>by
   rcases List.mem_cons.mp hb with rfl|hb
   .exact fz
   rcases List.mem_cons.mp hb with rfl|hb
   .exact Dq
   exact hf b (cG _ (cG _ (cG _ hb)))
  have line:(100:Nat)<=sizeLine:=by decide
  have I1:Inv X pins σ (upd H s.heap.objs.size (.tup row)) { s with heap:=h'' }:=Inv.turnedT (t':=s.toks) I kp fch (b2.extBut _ _ PB a4) rv (by rw[rv.length,hrl];omega);refine⟨.ref s.heap.objs.size,_,I1,rfl,⟨s.heap.objs.size,row,rfl,I.hok.fresh (bZ _),rfl,λxss' h=>by rw[KY I h hS];exact hrow⟩,⟨b1,?_,⟨iI,b2.extBut _ _ D.TOz a2,hrl⟩,λp hp=>(a3 p hp).at λo e=>b2.extBut _ _ (D.iz p hp) e⟩,λb hb=>?_⟩
  .exact b2.extBut _ _ D.TIz (a6 _ _ D.TIz D.TITO (λp hp=>(D.iTI p hp).symm) h2)
  .have hlt:b<s.heap.objs.size:=by
    rcases List.mem_cons.mp hb with rfl|hb
    .exact cg h1
    rcases List.mem_cons.mp hb with rfl|hb
    .exact cg h2
    rcases List.mem_cons.mp hb with rfl|hb
    .exact cg h3
    obtain⟨p,hp,rfl⟩:=List.mem_map.mp hb;obtain⟨o,e,_⟩:=(h4 p hp).obj;exact cg e
   rw[bN (dh hlt)];exact(hf b hb).1
 done:=by
  intro X hP hw hK hc i pins s σ H E I hf st hg;subst hP hw hK;obtain⟨h1,h2,⟨ys,h3,h3'⟩,h4⟩:=st;obtain⟨xss,hS,hrow⟩:=hg;obtain⟨us,u1,u2,u3,u4⟩:=Gh I hS;have e1:=u4 i hrow;obtain⟨j₀,j1,j2,j3⟩:=Wc e1;have hlen:srcs.length=ps.length:=by rw[<-fQ,cZ]
  have fz:=hf z fX;have Dq:=hf TO (by simp);have fit:∀p∈ps,jE X pins H p.it:=λp hp=>hf _ (cG _ (cG _ (cG _ (List.mem_map.mpr ⟨p,hp,rfl⟩))));have sm:∀p∈ps,(p.src,p.tup)∈srcs:=λp hp=>by rw[<-fQ];exact List.mem_map.mpr ⟨p,hp,rfl⟩
  have DD:xU z TI TO ps:=⟨D.TIz,D.TOz,D.TITO,D.iz,D.iTI,D.iTO,λp hp=>tM I fz hS _ (sm p hp),λp hp=>tM I Dq hS _ (sm p hp),λp hp q hq=>tM I (fit q hq) hS _ (sm p hp),D.nd⟩
  have ul:us.length=ps.length:=by rw[u1,hlen]
  have hat:∀(j:Nat) p xs,ps[j]?=some p->us[j]?=some xs->SrcAt s.heap p xs:=λj p xs hp hx=>by
   have hj:srcs[j]?=some (p.src,p.tup):=by rw[<-fQ,gG,hp];rfl
   exact u2 j _ xs hj hx
  refine zmh (I.ok.hd hc) DD hne hps h1 h2 h3 h3' ul h4 hat (by omega) j2 j3 λh' a6=>⟨rfl,?_⟩
  refine Inv.turnedN (t':=s.toks) (ch:=z::TO::ps.map (·.it)) I (λc o hc e=>a6 c o (λq=>hc (by simp[q])) (λq=>hc (by simp[q])) (λp hp q=>hc (cG _ (cG _ (List.mem_map.mpr ⟨p,hp,q.symm⟩)))) e) λb hb=>?_;rcases List.mem_cons.mp hb with rfl|hb
  .exact fz
  rcases List.mem_cons.mp hb with rfl|hb
  .exact Dq
  exact hf b (cG _ (cG _ (cG _ hb)))
 self:=λ_ _ _ _ _ st h=>wpAny_pyIter_zip st.1 h
def zmU:bootBuiltins "zip" = some (.type "zip"):=by decide +kernel
theorem arity(l:List Value)(h2:2<=l.length)(h4:l.length<=4):checkTypeCall "zip" ⟨l,[]⟩=pure ()/\checkBuiltinCall "zip.__new__" ⟨.type "zip" :: l,[]⟩=pure ()/\∀obj,argsOk "object.__init__" ⟨obj::l,[]⟩:=by
 have ao:∀(k:List Value),k.length<=5->k≠[]->argsOk "object.__init__" ⟨k,[]⟩:=λk hk hn=>by
  unfold argsOk;rw[signature?_of (id := "object.__init__") (n:=['_','_','t','i','n','i','_','_']) (o:=['t','c','e','j','b','o']) (by kernel_rfl) F.owner_object];rcases k with _|⟨k1,_|⟨k2,_|⟨k3,_|⟨k4,_|⟨k5,_|⟨k6,r⟩⟩⟩⟩⟩⟩
  .exact absurd rfl hn
  .kernel_rfl
  .kernel_rfl
  .kernel_rfl
  .kernel_rfl
  .kernel_rfl
  .exact absurd hk (by simp only[jd];omega)
 rcases l with _|⟨a,_|⟨b,_|⟨c,_|⟨d,_|⟨e,r⟩⟩⟩⟩⟩
 .exact absurd h2 (by simp only[zH];omega)
 .exact absurd h2 (by simp only[jd,zH];omega)
 .exact⟨by kernel_rfl,by kernel_rfl,λo=>ao _ (by simp) (by simp)⟩
 .exact⟨by kernel_rfl,by kernel_rfl,λo=>ao _ (by simp) (by simp)⟩
 .exact⟨by kernel_rfl,by kernel_rfl,λo=>ao _ (by simp) (by simp)⟩
 .exact absurd h4 (by simp only[jd];omega)
noncomputable def CV(K:FgA)(ta:TA):TI:=λσ H R=>ta σ H λvs H1=>∃srcs:List (Addr×Bool),vs=srcs.map (λp=>V.ref p.1)/\2<=srcs.length/\srcs.length<=4/\(∃xss,SrcsR K H1 srcs xss)/\R (Itz K srcs) H1
theorem Va:∀{l:List (Addr×Bool)} {us:List Value},Vals (l.map λp=>V.ref p.1) us->us=l.map λp=>Value.ref p.1
 |[],_,.nil=>rfl
 |_::_,_,.cons r t=>by cases r;rw[Va t];rfl
theorem zqR{X:Cx}{es ts:List Expr}{kk:Nat}{tp p pos:Pos}{ta:TA}{e:Expr}(hg:Gl X "zip")(hm:X.mg "zip" = none)(ha:PA X (e::es) ta)(hst:starEach (e::es) X.env=(false,eval e X.env)::starEach es X.env)(hpl:(backTo pos (starEach es X.env)).any (·.1)=false):PI X (.Tuple ts kk tp) (.Call (.Name "zip" p) (e::es) [] pos) (CV X.K ta):=by
 intro pins s σ H R I h;refine Call_ (tH I hg hm zmU (PyProof.Rows.callWith_type1 (bK (ha pos pins s σ H _ I h) λus s1 ⟨vs,H1,I1,r1,q1⟩=>?_) hst hpl));obtain⟨srcs,e0,h2,h4,⟨xss,hS⟩,q⟩:=q1;subst e0;have eu:=Va r1;subst eu;obtain⟨c1,c2,c3⟩:=arity (srcs.map λp=>Value.ref p.1) (by simpa using h2) (by simpa using h4);refine callType_new F.called_zip (by decide) c1 c2 c3 F.entry_zip_new (zkz (l:=srcs) (by omega)) ⟨JR I1 hS,λh' z1 z2 z3 z4 z5 z6=>?_⟩;show _/\_;refine⟨⟨_,z1,rfl⟩,?_⟩;refine wpAny_pyIter_zip (s:={ s1 with heap:=h' }) z1 ?_;have I2:Inv X pins σ H1 { s1 with heap:=h' }:=I1.kept (t':=s1.toks) z6;have hl:(dD s1.heap.objs.size srcs).length=srcs.length:=KZ _ _;have hmap:∀(n:Nat) (l:List (Addr×Bool)),(dD n l).map (λp=>(p.src,p.tup))=l:=λn l=>by
  induction l generalizing n with
  |nil=>rfl
  |cons a r ih=>obtain⟨a,t⟩:=a;rw[dD,iU,ih]
 have lt:∀p∈dD s1.heap.objs.size srcs,s1.heap.objs.size<=p.it/\p.it<s1.heap.objs.size+srcs.length:=λp hp=>⟨(Fz _ _ p hp).1,(Fz _ _ p hp).2.1⟩
 refine⟨_,_,_,_,H1,rfl,I2,zlD (K:=X.K) (srcs:=srcs) (ps:=dD s1.heap.objs.size srcs) (z:=s1.heap.objs.size+srcs.length+2) (TI:=s1.heap.objs.size+srcs.length) (TO:=s1.heap.objs.size+srcs.length+1)
  ⟨dh (by omega),dh (by omega),dh (by omega),λp hp=>dh (dg (lt p hp).2 (by omega)),λp hp=>dh (lt p hp).2,λp hp=>dh (dg (lt p hp).2 (by omega)),Tt _ _⟩ (hmap _ _) (λz=>by rw[z] at hl;simp at hl;omega) (by omega),⟨z1,z2,⟨_,z3,by simp⟩,z4⟩,λb hb=>?_,q⟩
 have hge:s1.heap.objs.size<=b:=by
  rcases List.mem_cons.mp hb with rfl|hb
  .omega
  rcases List.mem_cons.mp hb with rfl|hb
  .omega
  rcases List.mem_cons.mp hb with rfl|hb
  .omega
  obtain⟨p,hp,rfl⟩:=List.mem_map.mp hb;exact(lt p hp).1
 exact I1.fpOk hge (I1.hok.fresh hge)
end MZ
end
section
namespace MX
open PySem PySem.Spec PyProof.Rows L2
inductive zF where
 |fix (xs:List D)|lst (n:Nat)|zip (ds:List D)|itm (n m:Nat)|enm (n:Nat)
noncomputable def v7(S:So):D->Option (List D)
 |.tup xs=>some xs
 |.ref n=>match S[n]? with
  |some (.lst xs)=>some xs
  |some (.frz xs)=>some xs
  |_=>none
 |_=>none
noncomputable def pJ(S:So):List D->Option (List (List D))
 |[]=>some []
 |d::r=>(v7 S d).bind λxs=>(pJ S r).map (xs::·)
noncomputable def Qz:List (List D)->Option Nat
 |[]=>none
 |[xs]=>some xs.length
 |xs::r=>(Qz r).map λn=>min xs.length n
noncomputable def dj:zF->Nat->So->Option (Option D)
 |.fix xs,i,_=>some xs[i]?
 |.lst n,i,S=>match S[n]? with
  |some (.lst xs)=>some xs[i]?
  |some (.frz xs)=>some xs[i]?
  |_=>none
 |.zip ds,i,S=>(pJ S ds).map λxss=>(MZ.rowAt xss i).map D.tup
 |.itm n m,i,S=>match S[n]? with
  |some (.dct xs)=>if xs.length=m then some ((xs[i]?).map λx => .tup [kD x.1,.int x.2]) else none
  |_=>none
 |.enm n,i,S=>match S[n]? with
  |some (.lst xs)=>some ((xs[i]?).map λx => .tup [.int (i:Nat),x])
  |_=>none
noncomputable def u6:zF->So->Option Nat
 |.fix xs,_=>some xs.length
 |.lst n,S=>match S[n]? with
  |some (.lst xs)=>some xs.length
  |some (.frz xs)=>some xs.length
  |_=>none
 |.zip ds,S=>(pJ S ds).bind Qz
 |.itm n m,S=>match S[n]? with
  |some (.dct xs)=>if xs.length=m then some m else none
  |_=>none
 |.enm n,S=>match S[n]? with
  |some (.lst xs)=>some xs.length
  |_=>none
noncomputable abbrev IF:=Sg->So->Option (zF×So)
def zE(K:FgA)(H₀:Hp)(α₀:List Addr)(j:zF)(J:It):Prop:=∀(i:Nat) H α S,Ext K H₀ α₀ H α->aq K H α S ->
 (dj j i S=some none->J.stop i H)/\∀d,dj j i S=some (some d)->J.go i H/\∀x H',J.yld i H x H'->Same H H'/\Rep K H' α d x
noncomputable def Xq(K:FgA)(f:IF):TI:=λσ H R=>∃σd S α j S',bD K H α σd σ/\aq K H α S/\f σd S=some (j,S')/\∀J H' α',aq K H' α' S'->Ext K H α H' α'->zE K H' α' j J->R J H'
def SI(X:Cx)(tg e:Expr)(f:IF):Prop:=PI X tg e (Xq X.K f)
noncomputable def fO(fe:EF):IF:=λσ S=>(fe σ S).bind λr=>match r.1 with
 |.tup xs=>some (.fix xs,r.2)
 |.ref n=>match r.2[n]? with
  |some (.lst _)=>some (.lst n,r.2)
  |some (.frz _)=>some (.lst n,r.2)
  |_=>none
 |_=>none
noncomputable def gR(lo:Int)(n:Nat):List D:=(List.range n).map λk => .int (lo+(k:Nat))
noncomputable def mU(fa:AF):IF:=λσ S=>(fa σ S).bind λr=>match r.1 with
 |[.int j]=>if -(2 ^ 62)<=j/\j<2 ^ 62 then some (.fix (gR 0 j.toNat),r.2) else none
 |_=>none
noncomputable def wH(fa:AF):IF:=λσ S=>(fa σ S).bind λr=>match r.1 with
 |[.int i,.int j]=>if(-(2 ^ 62)<=i/\i<2 ^ 62) /\ -(2 ^ 62)<=j/\j<2 ^ 62 then some (.fix (gR i (j - i).toNat),r.2) else none
 |_=>none
noncomputable def qp(fa:AF):IF:=λσ S=>(fa σ S).bind λr=>if 2<=r.1.length/\r.1.length<=4 then(pJ r.2 r.1).map λ_=>(.zip r.1,r.2) else none
inductive iM(K:FgA)(H:Hp)(α:List Addr):List D->List (Addr×Bool)->Prop
 |nil:iM K H α [] []
 |tup {a:Addr} {xs:List D} {vs:List V} {ds:List D} {l:List (Addr×Bool)}:dG K H a vs->aB K H α xs vs->iM K H α ds l->iM K H α (.tup xs::ds) ((a,true)::l)
 |ref {a:Addr} {n:Nat} {ds:List D} {l:List (Addr×Bool)}:α[n]?=some a->iM K H α ds l->iM K H α (.ref n::ds) ((a,false)::l)
inductive jb(K:FgA)(H:Hp)(α:List Addr):List (List D)->List (List V)->Prop
 |nil:jb K H α [] []
 |cons {xs:List D} {vs:List V} {r:List (List D)} {q:List (List V)}:aB K H α xs vs->jb K H α r q->jb K H α (xs::r) (vs::q)
theorem Ar{K:FgA}{H H1:Hp}{α α1:List Addr}{S1:So}(x1:Ext K H α H1 α1)(s1:aq K H1 α1 S1):∀{ds:List D} {l:List (Addr×Bool)} {xss:List (List D)},iM K H α ds l->pJ S1 ds=some xss->∃jZ,MZ.SrcsR K H1 l jZ/\jb K H1 α1 xss jZ
 |_,_,_,.nil,e=>by cases e;exact⟨[],.nil,.nil⟩
 |_,_,_,.tup h r t,e=>by simp only[pJ,v7,bQ,aR] at e;obtain⟨Xg,e1,rfl⟩:=e;obtain⟨jZ,h1,h2⟩:=Ar x1 s1 t e1;exact⟨_,.tup (x1.tups _ _ h) h1,.cons (r.mono x1) h2⟩
 |_,_,_,@iM.ref _ _ _ a n ds l h t,e=>by
  simp only[pJ,aW,aR] at e;obtain⟨xs,e0,Xg,e1,rfl⟩:=e;obtain⟨jZ,h1,h2⟩:=Ar x1 s1 t e1;have ha:=x1.pre _ _ h;simp only[v7] at e0;split at e0
  .rename_i q;cases e0;obtain⟨vs,q1,q2⟩:=s1.obj _ _ _ q ha;exact⟨_,.lst (cQ.of q1) h1,.cons q2 h2⟩
  .rename_i q;cases e0;obtain⟨vs,q1,q2⟩:=s1.obj _ _ _ q ha;exact⟨_,.lst q1.sq h1,.cons q2 h2⟩
  .cases e0
theorem KJ{K:FgA}{H:Hp}{α:List Addr}{i:Nat}:∀{xss:List (List D)} {jZ:List (List V)},jb K H α xss jZ->(MZ.rowAt xss i=none->MZ.rowAt jZ i=none)/\∀row,MZ.rowAt xss i=some row->∃qR,MZ.rowAt jZ i=some qR/\aB K H α row qR
 |_,_,.nil=>⟨λh=>(by cases h),λrow h=>(by cases h;exact⟨[],rfl,.nil⟩)⟩
 |_,_,@jb.cons _ _ _ xs vs r q h t=>by
  obtain⟨i1,i2⟩:=KJ (i:=i) t;refine⟨λe=>?_,λrow e=>?_⟩
  .cases h1:xs[i]? with
   |none =>
    have:vs[i]?=none:=jw (by rw[<-h.length];exact List.getElem?_eq_none_iff.mp h1);simp[MZ.rowAt,this]
   |some x =>
    have e':MZ.rowAt r i=none:=by
     cases q2:MZ.rowAt r i with
     |none=>rfl
     |some z=>simp[MZ.rowAt,h1,q2] at e
    obtain⟨v,hv,_⟩:=h.get h1;simp[MZ.rowAt,hv,i1 e']
  .simp only[MZ.rowAt,aW,aR] at e;obtain⟨x,e1,r',e2,rfl⟩:=e;obtain⟨v,hv,rv⟩:=h.get e1;obtain⟨vr,e3,r3⟩:=i2 r' e2;exact⟨v::vr,by simp[MZ.rowAt,hv,e3],.cons rv r3⟩
theorem zo3{l:List (Addr×Bool)}(h:iM K H α ds l):zE K H α (.zip ds) (MZ.Itz K l):=λi H1 α1 S1 x1 s1=>by
 simp only[dj,aR];refine⟨fun⟨xss,e1,e2⟩=>?_,λd ⟨xss,e1,row,e2,e9⟩=>?_⟩
 .obtain⟨jZ,h1,h2⟩:=Ar x1 s1 h e1;exact⟨jZ,h1,(KJ h2).1 (by simpa using e2)⟩
 .subst e9;obtain⟨jZ,h1,h2⟩:=Ar x1 s1 h e1;obtain⟨qR,e3,r3⟩:=(KJ h2).2 row e2;refine⟨⟨jZ,qR,h1,e3⟩,λx H' y=>?_⟩;obtain⟨p,row',rfl,hp,rfl,hy⟩:=y;have:=hy jZ h1;rw[e3] at this;cases this;exact⟨lE hp,.tup (dG.of dU) (r3.mono (Same.ext (lE hp)))⟩
theorem Tn{K:FgA}{H:Hp}{α:List Addr}{S:So}(hs:aq K H α S):∀{ds:List D} {vs:List V} {xss:List (List D)},aB K H α ds vs->pJ S ds=some xss->∃l,iM K H α ds l/\vs=l.map λp=>V.ref p.1
 |_,_,_,.nil,_=>⟨[],.nil,rfl⟩
 |_,_,_,.cons r rr,e=>by
  simp only[pJ,aW,aR] at e;obtain⟨xs,e0,Xg,e1,rfl⟩:=e;obtain⟨l,h1,h2⟩:=Tn hs rr e1;cases r with
  |tup h q=>exact⟨_,.tup h q h1,by rw[h2];rfl⟩
  |ref h=>exact⟨_,.ref h h1,by rw[h2];rfl⟩
  |_=>cases e0
theorem KR{K:FgA}{H:Hp}{α:List Addr}:∀{ds:List D} {l:List (Addr×Bool)},iM K H α ds l->ds.length=l.length
 |_,_,.nil=>rfl
 |_,_,.tup _ _ t=>by simp[KR t]
 |_,_,.ref _ t=>by simp[KR t]
section
variable {X:Cx}{tg:Expr}
theorem PI.or{t t':TI}(h:PI X tg e t)(h':PI X tg e t'):PI X tg e (λσ H R=>t σ H R\/t' σ H R):=λpins s σ H R I q=>by
 rcases q with q|q
 .exact h pins s σ H R I q
 .exact h' pins s σ H R I q
theorem zo4(h:dG K H a vs)(r:aB K H α ds vs):zE K H α (.fix ds) (Qn K a):=λi H1 α1 S1 x1 s1=>by
 have h1:=x1.tups _ _ h;have r1:=r.mono x1;refine⟨λe=>?_,λd e=>?_⟩
 .have e':ds[i]?=none:=Option.some.inj e;exact⟨vs,h1,by rw[<-r.length];exact List.getElem?_eq_none_iff.mp e'⟩
 .obtain⟨v,e1,q⟩:=r1.get (Option.some.inj e);refine⟨⟨vs,v,h1,e1⟩,λx H' y=>?_⟩;obtain⟨rfl,y⟩:=y;have:=y vs h1;rw[e1] at this;cases this;exact⟨Same.refl _,q⟩
theorem Sy(h:α[n]?=some a):zE K H α (.lst n) (zB K a):=λi H1 α1 S1 x1 s1=>by
 have h1:=x1.pre _ _ h;have core:∀ds,(∃vs,cQ K H1 a vs/\aB K H1 α1 ds vs)->((some ds[i]?=some (none:Option D))->(zB K a).stop i H1)/\∀d,some ds[i]?=some (some d)->(zB K a).go i H1/\∀x H',(zB K a).yld i H1 x H'->Same H1 H'/\Rep K H' α1 d x:=λds ⟨vs,q,r⟩=>by
  refine⟨λe=>?_,λd e=>?_⟩
  .have e':ds[i]?=none:=Option.some.inj e;exact⟨vs,q,by rw[<-r.length];exact List.getElem?_eq_none_iff.mp e'⟩
  .obtain⟨v,e1,rv⟩:=r.get (Option.some.inj e);refine⟨⟨vs,v,q,e1⟩,λx H' y=>?_⟩;obtain⟨rfl,y⟩:=y;have:=y vs q;rw[e1] at this;cases this;exact⟨Same.refl _,rv⟩
 unfold dj;cases hm:S1[n]? with
 |none=>simp only[hm];exact⟨λe=>(nomatch e),λd e=>(nomatch e)⟩
 |some o =>
  have hob:=s1.obj _ _ _ hm h1;cases o with
  |lst ds=>simp only[hm];obtain⟨vs,q,r⟩:=hob;exact core ds ⟨vs,cQ.of q,r⟩
  |frz ds=>simp only[hm];obtain⟨vs,q,r⟩:=hob;exact core ds ⟨vs,q.sq,r⟩
  |ins C fs=>simp only[hm];exact⟨λe=>(nomatch e),λd e=>(nomatch e)⟩
  |dct xs=>simp only[hm];exact⟨λe=>(nomatch e),λd e=>(nomatch e)⟩
  |tbl x=>simp only[hm];exact⟨λe=>(nomatch e),λd e=>(nomatch e)⟩
theorem LR{lo:Int}:(gR lo n)[i]?=if i<n then some (.int (lo+(i:Nat))) else none:=by
 unfold gR;rw[gG];by_cases h:i<n
 .rw[if_pos h,List.getElem?_range h];rfl
 .rw[if_neg h,jw (by simpa using h)];rfl
theorem Vk{lo:Int}:zE K H α (.fix (gR lo n)) (DN lo n):=λi H1 α1 S1 x1 s1=>by
 simp only[dj];rw[LR];by_cases h:i<n
 .rw[if_pos h];refine⟨λe=>(nomatch e),λd e=>⟨h,λx H' y=>?_⟩⟩;obtain⟨rfl,rfl⟩:=y;cases e;exact⟨Same.refl _,.int _⟩
 .rw[if_neg h];exact⟨λ_=>Nat.le_of_not_lt h,λd e=>(nomatch e)⟩
theorem ZM{fe:EF}(he:SE X e fe):SI X tg e (fO fe):=by
 refine PI.imp (PI.or (zqS he) (zot he)) λσ H R h=>?_;obtain⟨σd,S,α,j,S',hv,hs,hf,k⟩:=h;unfold fO at hf;simp only[aW] at hf;obtain⟨⟨d,S1⟩,e1,e2⟩:=hf;cases d with
 |tup xs =>
  cases e2;refine .inl ⟨σd,S,α,.tup xs,_,hv,hs,e1,λv H1 α1 s1 x1 r1=>?_⟩;cases r1 with
  |tup h r=>exact⟨_,rfl,⟨_,h⟩,k _ _ _ s1 x1 (zo4 h r)⟩
 |ref n =>
  refine .inr ⟨σd,S,α,.ref n,S1,hv,hs,e1,λv H1 α1 s1 x1 r1=>?_⟩;cases r1 with
  |ref h =>
   refine⟨_,rfl,?_⟩;simp only at e2;cases hm:S1[n]? with
   |none=>simp[hm] at e2
   |some o =>
    have hob:=s1.obj _ _ _ hm h;cases o with
    |lst ds=>simp only[hm] at e2;cases e2;obtain⟨vs,q,r⟩:=hob;exact⟨⟨vs,cQ.of q⟩,k _ _ _ s1 x1 (Sy h)⟩
    |frz ds=>simp only[hm] at e2;cases e2;obtain⟨vs,q,r⟩:=hob;exact⟨⟨vs,q.sq⟩,k _ _ _ s1 x1 (Sy h)⟩
    |ins C fs=>simp[hm] at e2
    |dct xs=>simp[hm] at e2
    |tbl x=>simp[hm] at e2
 |_=>cases e2
theorem zjT{a:Expr}(hg:Gl X "range")(hm:X.mg "range" = none)(ha:SA X [a] fa)(hst:starEach [a] X.env=[(false,eval a X.env)]):SI X tg (.Call (.Name "range" p) [a] [] pos) (mU fa):=by
 refine PI.imp (zkb hg hm ha hst) λσ H R h=>?_;obtain⟨σd,S,α,j,S',hv,hs,hf,k⟩:=h;unfold mU at hf;simp only[aW] at hf;obtain⟨⟨ds,S1⟩,e1,e2⟩:=hf;refine⟨σd,S,α,ds,S1,hv,hs,e1,λvs H1 α1 s1 x1 r1=>?_⟩;split at e2
 .rename_i jj hj;simp only at hj;subst hj;split at e2
  .rename_i hb;cases e2;cases r1 with
   |cons r rr=>cases r;cases rr;exact⟨jj,rfl,hb.1,hb.2,k _ _ _ s1 x1 Vk⟩
  .cases e2
 .cases e2
theorem zjS{a b:Expr}(hg:Gl X "range")(hm:X.mg "range" = none)(ha:SA X [a,b] fa)(hst:starEach [a,b] X.env=[(false,eval a X.env),(false,eval b X.env)])(hst2:starEach [b] X.env=[(false,eval b X.env)]):
 SI X tg (.Call (.Name "range" p) [a,b] [] pos) (wH fa):=by
 refine PI.imp (zka hg hm ha hst hst2) λσ H R h=>?_;obtain⟨σd,S,α,j,S',hv,hs,hf,k⟩:=h;unfold wH at hf;simp only[aW] at hf;obtain⟨⟨ds,S1⟩,e1,e2⟩:=hf;refine⟨σd,S,α,ds,S1,hv,hs,e1,λvs H1 α1 s1 x1 r1=>?_⟩;split at e2
 .rename_i ii jj hj;simp only at hj;subst hj;split at e2
  .rename_i hb;cases e2;cases r1 with
   |cons r rr =>
    cases r;cases rr with
    |cons r rr=>cases r;cases rr;exact⟨ii,jj,rfl,⟨hb.1.1,hb.1.2,hb.2.1,hb.2.2⟩,k _ _ _ s1 x1 Vk⟩
  .cases e2
 .cases e2
theorem ZP{ts:List Expr}{tp:Pos}(hg:Gl X "zip")(hm:X.mg "zip" = none)(ha:SA X (e::es) fa)(hst:starEach (e::es) X.env=(false,eval e X.env)::starEach es X.env)(hpl:(backTo pos (starEach es X.env)).any (·.1)=false):SI X (.Tuple ts kk tp) (.Call (.Name "zip" p) (e::es) [] pos) (qp fa):=by
 refine PI.imp (MZ.zqR hg hm ha hst hpl) λσ H R h=>?_;obtain⟨σd,S,α,j,S',hv,hs,hf,k⟩:=h;unfold qp at hf;simp only[aW] at hf;obtain⟨⟨ds,S1⟩,e1,e2⟩:=hf;refine⟨σd,S,α,ds,S1,hv,hs,e1,λvs H1 α1 s1 x1 r1=>?_⟩;split at e2
 .rename_i hb;simp only[aR] at e2;obtain⟨xss,e3,e4⟩:=e2;cases e4;obtain⟨l,h1,h2⟩:=Tn s1 r1 e3;have hl:=KR h1;obtain⟨jZ,h3,_⟩:=Ar Ext.refl s1 h1 e3;exact⟨l,h2,by rw[<-hl];exact hb.1,by rw[<-hl];exact hb.2,⟨jZ,h3⟩,k _ _ _ s1 x1 (zo3 h1)⟩
 .cases e2
end
noncomputable def jo(nx:Nat->So->Option (Option D))(g:GF)(f:SF):Nat->Nat->SF
 |0,i=>λσ S=>match nx i S with
  |some none=>some (.nx,σ,S)
  |_=>none
 |k+1,i=>λσ S=>match nx i S with
  |some (some d)=>(g d σ S).bind λq=>(f q.1 q.2).bind λr=>match r.1 with
   |.nx=>jo nx g f k (i+1) r.2.1 r.2.2
   |.ct=>jo nx g f k (i+1) r.2.1 r.2.2
   |.bk=>some (.nx,r.2.1,r.2.2)
   |.rt d=>some (.rt d,r.2.1,r.2.2)
  |_=>none
noncomputable def lR(fi:IF)(g:GF)(f:SF):SF:=λσ S=>(fi σ S).bind λr=>(u6 r.1 r.2).bind λn=>jo (dj r.1) g f n 0 σ r.2
theorem Z3{iter:Expr}{body:List Stmt}{fi:IF}{g:GF}{f:SF}(hp:PassesOwn (model X.prog X.w) X.A X.env X.xe)(hc:X.calm=true)(hi:SI X tg iter fi)(hg:SG X tg g)(hb:uN X body f)(hfs:∀x,foldedSetIterable iter X.env x=pure x):SS X (.For tg iter body [] pos) (lR fi g f):=by
 refine PS.imp (zqM hp hc hi hg hb hfs) λD σ H h=>?_;obtain⟨σd,S,α,fl,σd',S',hv,hs,hf,k⟩:=h;unfold lR at hf;simp only[aW] at hf;obtain⟨⟨j,S1⟩,e1,n,e2,e3⟩:=hf;refine⟨σd,S,α,j,S1,hv,hs,e1,λJ H1 α1 s1 x1 jr=>?_⟩;refine⟨λi m σ2 H2=>∃σd2 S2 α2,bD X.K H2 α2 σd2 σ2/\aq X.K H2 α2 S2/\Ext X.K H1 α1 H2 α2/\jo (dj j) g f m i σd2 S2=some (fl,σd',S'),⟨n,σd,S1,α1,hv.mono x1,s1,Ext.refl,e3⟩,?_⟩
 rintro i m σ2 H2 ⟨σd2,S2,α2,v2,s2,x2,e⟩
 obtain⟨oM,Pg⟩:=jr i H2 α2 S2 x2 s2;cases m with
 |zero =>
  unfold jo at e;split at e
  .rename_i hn;cases e;exact .inl ⟨oM hn,k _ _ _ v2 s2 (x1.trans x2)⟩
  .cases e
 |succ m =>
  unfold jo at e;split at e
  .rename_i d hn;obtain⟨hgo,hy⟩:=Pg d hn;simp only[aW] at e;obtain⟨⟨σ3,S3⟩,e4,⟨X3,σ4,S4⟩,e5,e6⟩:=e;refine .inr ⟨hgo,λσ5 H5=>∃σd5 S5 α5,bD X.K H5 α5 σd5 σ5/\aq X.K H5 α5 S5/\Ext X.K H1 α1 H5 α5/\jo (dj j) g f m (i+1) σd5 S5=some (fl,σd',S'),λσ5 H5 q=>⟨m,Nat.lt_succ_self _,q⟩,λx H3 y=>?_⟩;obtain⟨sm,rx⟩:=hy x H3 y;have x3:Ext X.K H2 α2 H3 α2:=Same.ext sm;refine⟨σd2,S2,α2,d,σ3,S3,v2.mono x3,s2.mono sm,rx,e4,λσ5 H5 α5 v5 s5 x5=>?_⟩;refine⟨σ3,S3,α5,X3,σ4,S4,v5,s5,e5,λσ6 H6 α6 v6 s6 x6=>?_⟩;have xx:=((x2.trans x3).trans x5).trans x6;cases X3 with
   |nx=>exact⟨σ4,S4,α6,v6,s6,xx,e6⟩
   |ct=>exact⟨σ4,S4,α6,v6,s6,xx,e6⟩
   |bk=>cases e6;exact k _ _ _ v6 s6 (x1.trans xx)
   |rt d=>cases e6;exact k _ _ _ v6 s6 (x1.trans xx)
  .cases e
noncomputable def nR(src:List (Option Nat))(σ:Sg):Sg:=src.map λo=>o.bind λi=>(σ[i]?).join
theorem zlL{σd:Sg}{σ:L2.St}{src:List (Option Nat)}(h:bD K H α σd σ):bD K H α (nR src σd) (lU src σ):=by
 refine⟨by simp[nR,lU],λi d e=>?_⟩;unfold nR at e;rw[gG] at e;cases q:src[i]? with
 |none=>rw[q] at e;simp at e
 |some o =>
  rw[q] at e;cases o with
  |none=>simp at e
  |some j =>
   simp only[o9,bQ,Option.some.injEq] at e;cases q2:σd[j]? with
   |none=>rw[q2] at e;simp at e
   |some o2 =>
    rw[q2] at e;simp at e;subst e;obtain⟨v,h1,h2⟩:=h.2 j d q2;exact⟨v,by unfold lU;rw[gG,q];simp[h1],h2⟩
noncomputable def eZ:TF:=λ_ S=>some (true,S)
noncomputable def jl(nx:Nat->So->Option (Option D))(g:GF)(t:TF)(fe:EF):Nat->Nat->Sg->So->List D->Option (List D×So)
 |0,i,_,S,acc=>match nx i S with
  |some none=>some (acc,S)
  |_=>none
 |k+1,i,τ,S,acc=>match nx i S with
  |some (some d)=>(g d τ S).bind λq=>(t q.1 q.2).bind λb=>if b.1=true then(fe q.1 b.2).bind λr=>jl nx g t fe k (i+1) q.1 r.2 (acc++[r.1]) else jl nx g t fe k (i+1) q.1 b.2 acc
  |_=>none
noncomputable def Hj(fi:IF)(g:GF)(t:TF)(fe:EF)(src:List (Option Nat)):Sg->So->Option (List D×So):=λσ S=>(fi σ S).bind λr=>(u6 r.1 r.2).bind λn=>if n<=sizeLine then jl (dj r.1) g t fe n 0 (nR src σ) r.2 [] else none
noncomputable def fL(fi:IF)(g:GF)(t:TF)(fe:EF)(src:List (Option Nat)):EF:=λσ S=>(Hj fi g t fe src σ S).map λq=>(.ref q.2.length,q.2++[.lst q.1])
def uM(X:Cx)(ifs:List Expr)(t:TF):Prop:=xJ X ifs (Ci X.K t)
def znN:uM X [] eZ:=λpins s σ H Q I h=>zom pins s σ H Q I (by
 obtain⟨σd,S,α,b,S',hv,hs,hf,k⟩:=h;cases hf;exact k _ _ hs Ext.refl)
def znM{c:Expr}{t:TF}(h:ST X c t):uM X [c] t:=zol h
section
variable {X:Cx}{elt tg iter:Expr}{ifs:List Expr}{scope:Scope}{pos:Pos}{N':List Str}{src:List (Option Nat)}{fi:IF}{g:GF}{t:TF}{fe:EF}
theorem SQ{σd:Sg}{σ:L2.St}{Fin:List V->Hp->Prop}(hv:bD K H α σd σ)(hs:aq K H α S)(hf:Hj fi g t fe src σd S=some (ds,S'))(k:∀ys H' α',aq K H' α' S'->Ext K H α H' α'->aB K H' α' ds ys->Fin ys H'):
 Xq K fi σ H λJ H1=>∃W,(∃m,W 0 m [] (lU src σ) H1)/\Hv J (Ow K g) (Ci K t) (wg K fe) Fin W:=by
 unfold Hj at hf;simp only[aW] at hf;obtain⟨⟨j,S1⟩,e1,n,e2,e3⟩:=hf;split at e3
 .rename_i hn;refine⟨σd,S,α,j,S1,hv,hs,e1,λJ H1 α1 s1 x1 jr=>?_⟩;refine⟨λi m ys τ H2=>∃σd2 S2 α2 acc,bD K H2 α2 σd2 τ/\aq K H2 α2 S2/\Ext K H1 α1 H2 α2/\aB K H2 α2 acc ys/\acc.length+m<=sizeLine/\jl (dj j) g t fe m i σd2 S2 acc=some (ds,S'),
   ⟨n,nR src σd,S1,α1,[],zlL (hv.mono x1),s1,Ext.refl,.nil,by simpa using hn,e3⟩,?_⟩
  rintro i m ys τ H2 ⟨σd2,S2,α2,acc,v2,s2,x2,r2,hl,e⟩
  obtain⟨oM,Pg⟩:=jr i H2 α2 S2 x2 s2;cases m with
  |zero =>
   unfold jl at e;split at e
   .rename_i hn;cases e;exact .inl ⟨oM hn,k _ _ _ s2 (x1.trans x2) r2⟩
   .cases e
  |succ m =>
   unfold jl at e;split at e
   .rename_i d hn;obtain⟨hgo,hy⟩:=Pg d hn;simp only[aW] at e;obtain⟨⟨σ3,S3⟩,e4,⟨b,S4⟩,e5,e6⟩:=e;refine .inr ⟨hgo,by rw[<-r2.length];omega,λx H3 y=>?_⟩;obtain⟨sm,rx⟩:=hy x H3 y;have x3:Ext K H2 α2 H3 α2:=Same.ext sm;refine⟨σd2,S2,α2,d,σ3,S3,v2.mono x3,s2.mono sm,rx,e4,λσ5 H5 α5 v5 s5 x5=>?_⟩;refine⟨σ3,S3,α5,b,S4,v5,s5,e5,λH6 α6 s6 x6=>?_⟩;cases b with
    |false =>
     rw[if_neg fB];rw[if_neg fB] at e6;exact⟨m,Nat.lt_succ_self _,σ3,S4,α6,acc,v5.mono x6,s6,((x2.trans x3).trans x5).trans x6,((r2.mono x3).mono x5).mono x6,by omega,e6⟩
    |true =>
     rw[if_pos rfl];rw[if_pos rfl] at e6;simp only[aW] at e6;obtain⟨⟨z,S7⟩,e7,e8⟩:=e6;refine⟨σ3,S4,α6,z,S7,v5.mono x6,s6,e7,λw H8 α8 s8 x8 r8=>?_⟩;exact⟨m,Nat.lt_succ_self _,σ3,S7,α8,acc++[z],(v5.mono x6).mono x8,s8,(((x2.trans x3).trans x5).trans x6).trans x8,((((r2.mono x3).mono x5).mono x6).mono x8).append (.cons r8 .nil),by simp;omega,e8⟩
   .cases e
 .cases e3
theorem V4(hY:∀Y,nZ X scope N' Y->SG Y tg g/\uM Y ifs t/\SE Y elt fe):∀Y,nZ X scope N' Y->PG Y tg (Ow X.K g)/\xJ Y ifs (Ci X.K t)/\PE Y elt (wg X.K fe):=λY hy=>by obtain⟨h1,h2,h3⟩:=hY Y hy;unfold SG at h1;unfold uM at h2;unfold SE at h3;rw[hy.K] at h1 h2 h3;exact⟨h1,h2,h3⟩
theorem QT(hc:X.calm=true)(ok:qw X scope N' src)(hi:SI X tg iter fi)(hY:∀Y,nZ X scope N' Y->SG Y tg g/\uM Y ifs t/\SE Y elt fe)(hfs:∀x,foldedSetIterable iter X.env x=pure x):SE X (.ListComp elt [⟨tg,iter,ifs,0⟩] scope pos) (fL fi g t fe src):=by
 refine PE.imp (Zr hc ok hi (V4 hY) hfs) λσ H Q h=>?_;obtain⟨σd,S,α,z,S',hv,hs,hf,k⟩:=h;unfold fL at hf;simp only[aR] at hf;obtain⟨⟨ds,S1⟩,e1,e2⟩:=hf;cases e2;refine SQ hv hs e1 λys H' α' s' x' r' p hp=>?_;obtain⟨s2,x2⟩:=s'.snoc (p:=p) (o := .lst ds) (u := .lst ys) hp λα'' e=>⟨_,dU,r'.mono e⟩
 exact k _ _ _ s2 (x'.trans x2) (.ref (by rw[<-s'.len];simp))
theorem zlJ{py:Pos}(hN:X.N.Nodup)(Pk:X.N[i]?=some y)(hy:X.env.kindOf y=some .local)(hsw:swapsWith (.ListComp elt [⟨tg,iter,ifs,0⟩] scope pos) (some (.Name y py)) spos.line X.env=pure true)(hc:X.calm=true)(ok:qw X scope N' src)(hi:SI X tg iter fi)(hY:∀Y,nZ X scope N' Y->SG Y tg g/\uM Y ifs t/\SE Y elt fe)(hfs:∀x,foldedSetIterable iter X.env x=pure x):SS X (.Assign [.Name y py] (.ListComp elt [⟨tg,iter,ifs,0⟩] scope pos) spos) (bG (fL fi g t fe src) (aK i)):=by
 refine PS.imp (zl7 hN Pk hy hsw hc ok hi (V4 hY) hfs) λD σ H h=>?_;obtain⟨σd,S,α,fl,σd',S',hv,hs,hf,k⟩:=h;unfold bG fL at hf;simp only[aW,aR] at hf;obtain⟨⟨d,S1⟩,⟨⟨ds,S2⟩,e1,e2⟩,⟨σ1,S3⟩,e3,e4⟩:=hf;cases e4;cases e3;cases e2;refine SQ hv hs e1 λys H' α' s' x' r' p hp=>?_;obtain⟨s2,x2⟩:=s'.snoc (p:=p) (o := .lst ds) (u := .lst ys) hp λα'' e=>⟨_,dU,r'.mono e⟩
 exact k _ _ _ (((hv.mono x').mono x2).set (.ref (by rw[<-s'.len];simp)) i) s2 (x'.trans x2)
end
noncomputable def gW:GN
 |[.tup xs],S=>some (.int xs.length,S)
 |[.str z],S=>if z.length<=sizeLine then some (.int z.length,S) else none
 |[.ref n],S=>match S[n]? with
  |some (.lst xs)=>some (.int xs.length,S)
  |some (.frz xs)=>some (.int xs.length,S)
  |_=>none
 |_,_=>none
noncomputable def sS:GN
 |[.int i],S=>some (.int (if i<0 then -i else i),S)
 |_,_=>none
noncomputable def mY:List D->Option (List Int)
 |[]=>some []
 |.int i::r=>(mY r).map (i::·)
 |_::_=>none
noncomputable def je:List Int->Option Int
 |[]=>none
 |i::r=>some (r.foldl (λa b=>if b<a then b else a) i)
noncomputable def iV:List Int->Option Int
 |[]=>none
 |i::r=>some (r.foldl (λa b=>if b>a then b else a) i)
noncomputable def rH:GN
 |[.int i,.int j],S=>some (.int (if j<i then j else i),S)
 |[.ref n],S=>match S[n]? with
  |some (.lst xs)=>(mY xs).bind λns=>(je ns).map λm=>(.int m,S)
  |_=>none
 |_,_=>none
noncomputable def oU:GN
 |[.int i,.int j],S=>some (.int (if j>i then j else i),S)
 |[.ref n],S=>match S[n]? with
  |some (.lst xs)=>(mY xs).bind λns=>(iV ns).map λm=>(.int m,S)
  |_=>none
 |_,_=>none
noncomputable def qy:GN
 |[.tup xs],S=>some (.tup xs,S)
 |[.ref n],S=>match S[n]? with
  |some (.lst xs)=>some (.tup xs,S)
  |some (.frz xs)=>some (.tup xs,S)
  |_=>none
 |_,_=>none
noncomputable def nU:GN
 |[.tup xs],S=>some (.ref S.length,S++[.lst xs])
 |[.ref n],S=>match S[n]? with
  |some (.lst xs)=>some (.ref S.length,S++[.lst xs])
  |some (.frz xs)=>some (.ref S.length,S++[.lst xs])
  |_=>none
 |_,_=>none
theorem Wt:∀(r:List Int) (i:Int),r.foldl (λa b=>if b<a then b else a) i<=i/\(∀x∈r,r.foldl (λa b=>if b<a then b else a) i<=x)/\(r.foldl (λa b=>if b<a then b else a) i=i\/r.foldl (λa b=>if b<a then b else a) i∈r)
 |[],i=>⟨Int.le_refl _,λ_ h=>(nomatch h),.inl rfl⟩
 |x::r,i=>by
  obtain⟨h1,h2,h3⟩:=Wt r (if x<i then x else i);rw[List.foldl_cons];refine⟨?_,λy hy=>?_,?_⟩
  .refine Int.le_trans (by first|exact h1|(refine Int.le_trans ?_ h1;split<;>omega)) (by first|(split<;>omega)|exact Int.le_refl _)
  .rcases List.mem_cons.mp hy with rfl|hy
   .first
     |exact Int.le_trans h1 (by split<;>omega)
     |exact Int.le_trans (by split<;>omega) h1
   .exact h2 y hy
  .rcases h3 with h3|h3
   .rw[h3];split
    .exact .inr fX
    .exact .inl rfl
   .exact .inr (cG _ h3)
theorem Ws:∀(r:List Int) (i:Int),i<=r.foldl (λa b=>if b>a then b else a) i/\(∀x∈r,x<=r.foldl (λa b=>if b>a then b else a) i)/\(r.foldl (λa b=>if b>a then b else a) i=i\/r.foldl (λa b=>if b>a then b else a) i∈r)
 |[],i=>⟨Int.le_refl _,λ_ h=>(nomatch h),.inl rfl⟩
 |x::r,i=>by
  obtain⟨h1,h2,h3⟩:=Ws r (if x>i then x else i);rw[List.foldl_cons];refine⟨?_,λy hy=>?_,?_⟩
  .refine Int.le_trans (by first|exact h1|(refine Int.le_trans ?_ h1;split<;>omega)) (by first|(split<;>omega)|exact Int.le_refl _)
  .rcases List.mem_cons.mp hy with rfl|hy
   .first
     |exact Int.le_trans h1 (by split<;>omega)
     |exact Int.le_trans (by split<;>omega) h1
   .exact h2 y hy
  .rcases h3 with h3|h3
   .rw[h3];split
    .exact .inr fX
    .exact .inl rfl
   .exact .inr (cG _ h3)
theorem RX{m:Int}(h1:m∈ns)(h2:∀a∈ns,m<=a):je ns=some m:=by
 cases ns with
 |nil=>cases h1
 |cons i r =>
  obtain⟨a,b,c⟩:=Wt r i;unfold je;have l1:m<=r.foldl (λa b=>if b<a then b else a) i:=by
   rcases c with c|c
   .rw[c];exact h2 i fX
   .exact h2 _ (cG _ c)
  have l2:r.foldl (λa b=>if b<a then b else a) i<=m:=by
   rcases List.mem_cons.mp h1 with rfl|h1
   .exact a
   .exact b m h1
  exact congrArg some (Int.le_antisymm l2 l1)
theorem S6{m:Int}(h1:m∈ns)(h2:∀a∈ns,a<=m):iV ns=some m:=by
 cases ns with
 |nil=>cases h1
 |cons i r =>
  obtain⟨a,b,c⟩:=Ws r i;unfold iV;have l1:r.foldl (λa b=>if b>a then b else a) i<=m:=by
   rcases c with c|c
   .rw[c];exact h2 i fX
   .exact h2 _ (cG _ c)
  have l2:m<=r.foldl (λa b=>if b>a then b else a) i:=by
   rcases List.mem_cons.mp h1 with rfl|h1
   .exact a
   .exact b m h1
  exact congrArg some (Int.le_antisymm l1 l2)
theorem yL{K:FgA}{H:Hp}{α:List Addr}:∀{ds:List D} {vs:List V} {us:List Value} {ns:List Int},aB K H α ds vs->Vals vs us->mY ds=some ns->IntsAre us ns
 |_,_,_,_,.nil,.nil,e=>by cases e;exact .nil
 |_,_,_,_,.cons r rr,.cons rv rvs,e=>by
  cases r with
  |int i =>
   simp only[mY,aR] at e;obtain⟨ms,e1,rfl⟩:=e;obtain⟨t,rfl⟩:=rv;exact .cons _ _ (yL rr rvs e1)
  |_=>cases e
theorem aB.inv1(r:aB K H α [d] vs):∃v,vs=[v]/\Rep K H α d v:=by
 cases r with
 |cons r rr=>cases rr;exact⟨_,rfl,r⟩
theorem aB.inv2{e:D}(r:aB K H α [d,e] vs):∃v u,vs=[v,u]/\Rep K H α d v/\Rep K H α e u:=by
 cases r with
 |cons r rr =>
  obtain⟨u,rfl,q⟩:=rr.inv1;exact⟨_,_,rfl,r,q⟩
theorem n6{xs:List D}(hs:aq K H α S)(ha:α[n]?=some a)(h:S[n]?=some (.lst xs)\/S[n]?=some (.frz xs)):∃vs,cQ K H a vs/\aB K H α xs vs:=by
 rcases h with h|h
 .obtain⟨vs,q,r⟩:=hs.obj _ _ _ h ha;exact⟨vs,cQ.of q,r⟩
 .obtain⟨vs,q,r⟩:=hs.obj _ _ _ h ha;exact⟨vs,q.sq,r⟩
section
variable {X:Cx}
theorem Zc:gQ X (.builtin "len") (jt X.K gW):=by
 intro pins s σ H vs us Q I rv h;obtain⟨S,α,ds,z,S',hs,r,hg,k⟩:=h;unfold gW at hg;split at hg
 .cases hg;obtain⟨v,rfl,r0⟩:=r.inv1;cases r0 with
  |tup h r1=>exact Wq pins s σ H _ us Q I rv ⟨_,_,rfl,.inr h,by rw[<-r1.length];exact k.same hs (.int _)⟩
 .split at hg
  .rename_i hl;cases hg;obtain⟨v,rfl,r0⟩:=r.inv1;cases r0;exact zg3 pins s σ H _ us Q I rv ⟨_,rfl,hl,k.same hs (.int _)⟩
  .cases hg
 .obtain⟨v,rfl,r0⟩:=r.inv1;cases r0 with
  |@ref n a ha =>
   have core:∀xs,(∃vs,cQ X.K H a vs/\aB X.K H α xs vs)->some (D.int (xs.length:Int),S)=some (z,S')->wpAny (model X.prog X.w) X.A (call (.builtin "len") us) (EP X pins σ Q) X.xe s:=λxs ⟨vs,q,r⟩ e=>by cases e;exact Wq pins s σ H _ us Q I rv ⟨_,_,rfl,.inl q,by rw[<-r.length];exact k.same hs (.int _)⟩
   split at hg
   .rename_i e;exact core _ (n6 hs ha (.inl e)) hg
   .rename_i e;exact core _ (n6 hs ha (.inr e)) hg
   .cases hg
 .cases hg
theorem Y9:gQ X (.builtin "abs") (jt X.K sS):=by
 intro pins s σ H vs us Q I rv h;obtain⟨S,α,ds,z,S',hs,r,hg,k⟩:=h;unfold sS at hg;split at hg
 .cases hg;obtain⟨v,rfl,r0⟩:=r.inv1;cases r0;exact zmS pins s σ H _ us Q I rv ⟨_,rfl,k.same hs (.int _)⟩
 .cases hg
theorem Ze(hc:X.calm=true):gQ X (.builtin "min") (jt X.K rH):=by
 intro pins s σ H vs us Q I rv h;obtain⟨S,α,ds,z,S',hs,r,hg,k⟩:=h;unfold rH at hg;split at hg
 .cases hg;obtain⟨v,u,rfl,r1,r2⟩:=r.inv2;cases r1;cases r2;exact zlo hc pins s σ H _ us Q I rv ⟨_,_,rfl,k.same hs (.int _)⟩
 .obtain⟨v,rfl,r0⟩:=r.inv1;cases r0 with
  |@ref n a ha =>
   split at hg
   .rename_i e;simp only[aW,aR] at hg;obtain⟨ns,e1,m,e2,e3⟩:=hg;cases e3;obtain⟨ws,q,r⟩:=n6 hs ha (.inl e);obtain⟨u,rfl,ru⟩:=pL rv;cases ru;obtain⟨its,rr,pl,hz⟩:=I.list q;have hi:=yL r rr e1;have hne:0<ns.length:=by
     cases ns with
     |nil=>cases e2
     |cons _ _=>simp
    obtain⟨xs,hxs⟩:=hi.allInts.items;have hn:=hi.numsOf;have hnn:numsOf (intItems xs).toList=ns:=by rw[<-hxs];simpa using hn
    rw[nums_intItems] at hnn;have hsz:0<xs.size:=by have:=congrArg List.length hnn;simp at this;omega
    have hl':s.heap.IsList a (intItems xs):=by rw[<-hxs];exact pl.isList
    refine min_intList (I.ok.hd hc) hl' hsz λv h' tk hv hk=>?_;obtain⟨t,rfl⟩:=intItems_at hv;obtain⟨h1,h2⟩:=argBest_lt (numAt xs) (xs.size - 1);have hm:je ns=some (numAt xs (argBest (λi j=>decide (numAt xs i<numAt xs j)) (xs.size - 1))):=by
     refine RX ?_ λb hb=>?_
     .rw[<-hnn,numAt_eq];exact getD_mem (by rw[cZ,Array.length_toList];omega)
     .rw[<-hnn] at hb;obtain⟨j,hj,rfl⟩:=mem_getD hb;rw[cZ,Array.length_toList] at hj;rw[<-numAt_eq];exact h2 j (by omega)
    rw[e2] at hm;cases hm;exact⟨.int _,H,I.kept hk,⟨t,rfl⟩,k.same hs (.int _)⟩
   .cases hg
 .cases hg
theorem Zd(hc:X.calm=true):gQ X (.builtin "max") (jt X.K oU):=by
 intro pins s σ H vs us Q I rv h;obtain⟨S,α,ds,z,S',hs,r,hg,k⟩:=h;unfold oU at hg;split at hg
 .cases hg;obtain⟨v,u,rfl,r1,r2⟩:=r.inv2;cases r1;cases r2;exact zlp hc pins s σ H _ us Q I rv ⟨_,_,rfl,k.same hs (.int _)⟩
 .obtain⟨v,rfl,r0⟩:=r.inv1;cases r0 with
  |@ref n a ha =>
   split at hg
   .rename_i e;simp only[aW,aR] at hg;obtain⟨ns,e1,m,e2,e3⟩:=hg;cases e3;obtain⟨ws,q,r⟩:=n6 hs ha (.inl e);obtain⟨u,rfl,ru⟩:=pL rv;cases ru;obtain⟨its,rr,pl,hz⟩:=I.list q;have hi:=yL r rr e1;have hne:0<ns.length:=by
     cases ns with
     |nil=>cases e2
     |cons _ _=>simp
    obtain⟨xs,hxs⟩:=hi.allInts.items;have hn:=hi.numsOf;have hnn:numsOf (intItems xs).toList=ns:=by rw[<-hxs];simpa using hn
    rw[nums_intItems] at hnn;have hsz:0<xs.size:=by have:=congrArg List.length hnn;simp at this;omega
    have hl':s.heap.IsList a (intItems xs):=by rw[<-hxs];exact pl.isList
    refine max_intList (I.ok.hd hc) hl' hsz λv h' tk hv hk=>?_;obtain⟨t,rfl⟩:=intItems_at hv;obtain⟨h1,h2⟩:=argBest_gt (numAt xs) (xs.size - 1);have hm:iV ns=some (numAt xs (argBest (λi j=>decide (numAt xs i>numAt xs j)) (xs.size - 1))):=by
     refine S6 ?_ λb hb=>?_
     .rw[<-hnn,numAt_eq];exact getD_mem (by rw[cZ,Array.length_toList];omega)
     .rw[<-hnn] at hb;obtain⟨j,hj,rfl⟩:=mem_getD hb;rw[cZ,Array.length_toList] at hj;rw[<-numAt_eq];exact h2 j (by omega)
    rw[e2] at hm;cases hm;exact⟨.int _,H,I.kept hk,⟨t,rfl⟩,k.same hs (.int _)⟩
   .cases hg
 .cases hg
theorem zmT:gQ X (.type "tuple") (jt X.K qy):=by
 intro pins s σ H vs us Q I rv h;obtain⟨S,α,ds,z,S',hs,r,hg,k⟩:=h;unfold qy at hg;split at hg
 .cases hg;obtain⟨v,rfl,r0⟩:=r.inv1;cases r0 with
  |tup h r1=>exact W8 pins s σ H _ us Q I rv ⟨_,_,rfl,.inr ⟨h,k.same hs (.tup h r1)⟩⟩
 .obtain⟨v,rfl,r0⟩:=r.inv1;cases r0 with
  |@ref n a ha =>
   have core:∀xs,(∃vs,cQ X.K H a vs/\aB X.K H α xs vs)->some (D.tup xs,S)=some (z,S')->wpAny (model X.prog X.w) X.A (call (.type "tuple") us) (EP X pins σ Q) X.xe s:=λxs ⟨vs,q,r⟩ e=>by cases e;exact W8 pins s σ H _ us Q I rv ⟨_,_,rfl,.inl ⟨q,λp hp=>k.new hs (lE hp) (.tup (dG.of dU) (r.mono (Same.ext (lE hp))))⟩⟩
   split at hg
   .rename_i e;exact core _ (n6 hs ha (.inl e)) hg
   .rename_i e;exact core _ (n6 hs ha (.inr e)) hg
   .cases hg
 .cases hg
theorem zpF:gQ X (.type "list") (jt X.K nU):=by
 intro pins s σ H vs us Q I rv h;obtain⟨S,α,ds,z,S',hs,r,hg,k⟩:=h;have fin:∀(xs:List D) (vs:List V) (p:Addr),aB X.K H α xs vs->H p=none->some (D.ref S.length,S++[O.lst xs])=some (z,S')->Q (.ref p) (upd H p (.lst vs)):=λxs vs p r hp e=>by
  cases e;obtain⟨s2,x2⟩:=hs.snoc (p:=p) (o := .lst xs) (u := .lst vs) hp λα'' e=>⟨_,dU,r.mono e⟩
  exact k _ _ _ s2 x2 (.ref (by rw[<-hs.len];simp))
 unfold nU at hg;split at hg
 .obtain⟨v,rfl,r0⟩:=r.inv1;cases r0 with
  |tup h r1=>exact Wr pins s σ H _ us Q I rv ⟨_,_,rfl,.inr h,λp hp=>fin _ _ p r1 hp hg⟩
 .obtain⟨v,rfl,r0⟩:=r.inv1;cases r0 with
  |@ref n a ha =>
   have core:∀xs,(∃vs,cQ X.K H a vs/\aB X.K H α xs vs)->some (D.ref S.length,S++[O.lst xs])=some (z,S')->wpAny (model X.prog X.w) X.A (call (.type "list") us) (EP X pins σ Q) X.xe s:=λxs ⟨vs,q,r⟩ e =>
    Wr pins s σ H _ us Q I rv ⟨_,_,rfl,.inl q,λp hp=>fin _ _ p r hp e⟩
   split at hg
   .rename_i e;exact core _ (n6 hs ha (.inl e)) hg
   .rename_i e;exact core _ (n6 hs ha (.inr e)) hg
   .cases hg
 .cases hg
end
noncomputable def qt(a b:String):Option Bool:=PySem.W.kitOne default (.type a) (.type b)
def Sx{a b:String}:PySem.W.kitOne K (.type a) (.type b)=qt a b:=by unfold qt PySem.W.kitOne PySem.W.kitCls PySem.W.subIn;rfl
noncomputable def N7:D->So->Option String
 |.non,_=>some "NoneType"
 |.bl _,_=>some "bool"
 |.int _,_=>some "int"
 |.str _,_=>some "str"
 |.tup _,_=>some "tuple"
 |.ref n,S=>match S[n]? with
  |some (.lst _)=>some "list"
  |_=>none
 |_,_=>none
noncomputable def pB:GN
 |[d,.ty T],S=>(N7 d S).bind λt=>(qt t T).map λb=>(.bl b,S)
 |_,_=>none
theorem zpP{v:V}{t:String}(hs:aq K H α S)(r:Rep K H α d v)(e:N7 d S=some t):(∃b vs,v = .ref b/\dG K H b vs/\t = "tuple")\/lQ K H v (.type t):=by
 cases r with
 |non=>cases e;exact .inr .non
 |bl b=>cases e;exact .inr (.bl b)
 |int i=>cases e;exact .inr (.int i)
 |str x=>cases e;exact .inr (.str x)
 |tup h r=>cases e;exact .inl ⟨_,_,rfl,h,rfl⟩
 |@ref n a ha =>
  simp only[N7] at e;split at e
  .rename_i q;cases e;obtain⟨vs,h,_⟩:=hs.obj _ _ _ q ha;exact .inr (.lst h)
  .cases e
 |ty n=>cases e
 |adr a=>cases e
 |obj _ _ _ _ _=>cases e
theorem Zb:gQ X (.builtin "isinstance") (jt X.K pB):=by
 intro pins s σ H vs us Q I rv h;obtain⟨S,α,ds,z,S',hs,r,hg,k⟩:=h;unfold pB at hg;split at hg
 .simp only[aW,aR] at hg;obtain⟨t,e1,b,e2,e3⟩:=hg;cases e3;obtain⟨v,u,rfl,r1,r2⟩:=r.inv2;cases r2 with
  |ty T =>
   obtain⟨u1,u2,rfl,q1,q2⟩:=HY rv;cases q2;rcases zpP hs r1 e1 with⟨a,ws,rfl,h,rfl⟩|ty
   .cases q1;obtain⟨its,_,⟨o,h1,h2,_⟩,_⟩:=I.tuple h;exact PySem.W.kia_one PySem.W.kitx_tuple I.kIn ⟨o,h1,h2⟩ (by rw[Sx];exact e2) (λz=>nomatch z) λtk=>⟨.bl b,H,I.tok _,rfl,k.same hs (.bl _)⟩
   .exact zkL I q1 ty (by rw[Sx];exact e2) λtk=>⟨.bl b,H,I.tok _,rfl,k.same hs (.bl _)⟩
 .cases hg
noncomputable abbrev PF:=Sg->So->Option (Option Int×So)
noncomputable def lA:PF:=λ_ S=>some (none,S)
noncomputable def jH(fe:EF):PF:=λσ S=>(fe σ S).bind λr=>match r.1 with
 |.int i=>some (some i,r.2)
 |_=>none
noncomputable def jx(xs:List D)(lo hi:Option Int):List D:=(xs.drop (HT.sIx xs.length 0 lo)).take (HT.sIx xs.length xs.length hi - HT.sIx xs.length 0 lo)
noncomputable def uH:D->Option Int->Option Int->So->Option (D×So)
 |.tup xs,lo,hi,S=>if ¬(HT.sIx xs.length 0 lo=0/\HT.sIx xs.length xs.length hi=xs.length) then some (.tup (jx xs lo hi),S) else some (.tup xs,S)
 |.ref n,lo,hi,S=>match S[n]? with
  |some (.lst xs)=>some (.ref S.length,S++[.lst (jx xs lo hi)])
  |some (.frz xs)=>some (.ref S.length,S++[.lst (jx xs lo hi)])
  |_=>none
 |_,_,_,_=>none
noncomputable def jP(fe:EF)(fl fh:PF):EF:=λσ S=>(fe σ S).bind λr=>(fl σ r.2).bind λl=>(fh σ l.2).bind λh=>uH r.1 l.1 h.1 h.2
noncomputable def rdP(K:FgA)(f:PF):TO:=λσ H Q=>∃σd S α p S',bD K H α σd σ/\aq K H α S/\f σd S=some (p,S')/\∀H' α',aq K H' α' S'->Ext K H α H' α'->Q p H'
def Dw(X:Cx)(e:Option Expr)(f:PF):Prop:=PO X e (rdP X.K f)
theorem Ut{lo hi:Option Int}(r:aB K H α ds vs):aB K H α (jx ds lo hi) (ql vs lo hi):=by unfold jx ql;rw[r.length];exact(r.drop _).take _
theorem zjA{t sl:Addr}{items:Array Value}{vl vu:Value}{lo hi:Option Int}(ht:IsTup s.heap t items)(hs:s.heap.IsSliceOf sl vl vu .none)(pl:IsPart vl lo)(pu:IsPart vu hi)(hw:HT.sIx items.size 0 lo=0/\HT.sIx items.size items.size hi=items.size)(h:Q (.ref t) s):wpAny (model prog w) A (getItem (.ref t) (.ref sl)) Q E s:=by
 obtain⟨os,hos,hcs,hds⟩:=id hs;have hTs:s.TypeIs (.ref sl) "slice" := ⟨os,hos,hcs⟩
 unfold getItem
 try with_reducible refine wpAny_holding ?_
 first|refine aF (bT ?_)|skip
 refine aF (wpAny_sequenceKey ht.typeIs (by decide) ?_);refine aF (wpAny_callSpecial?_slot (name:=Str.ofString "__getitem__") ht.typeIs PyProof.Rows.slot_tuple_getitem
  (wpAny_call_entry PyProof.Rows.slot_tuple_getitem ht.typeIs entry_tuple_getitem ?_ (args_tuple_getitem _ _)))
 show wpAny _ _ (Builtin.Tuple.tupleItemsOf (.ref t) >>= _) _ _ s;refine aF (tupleItemsOf_ ht ?_);refine aF (wpAny_typeOf hTs ?_);rw[if_pos (by decide)];refine aF (HT.zc5 hs pl pu ?_);show wpAny _ _ (if(((HT.sIx items.size 0 lo:Nat):Int)==0&&(1:Int)==1&&(HT.sIx items.size items.size hi - HT.sIx items.size 0 lo)==items.size)=true then _ else _) _ _ s;rw[hw.1,hw.2,if_pos (by simp)];obtain⟨o,e1,e2,n,e3⟩:=id ht;have ex:∀{A:Around} {E:Value->Shared->Prop} {Q:Bool->Shared->Prop},Q true s->wpAny (model prog w) A (Builtin.Tuple.tupleIsExact (.ref t)) Q E s:=λ{A E Q} q=>by unfold Builtin.Tuple.tupleIsExact;refine aF (wpAny_typeOf ht.typeIs ?_);exact bT q
 refine aF (ex ?_);rw[if_pos rfl];exact aF (wpAny_rule (bT ⟨_,rfl,bT h⟩))
noncomputable def Cm(K:FgA):V->Option Int->Option Int->Hp->VK->Prop:=λx lo hi H Q=>∃a xs,x = .ref a/\dG K H a xs/\(HT.sIx xs.length 0 lo=0/\HT.sIx xs.length xs.length hi=xs.length)/\Q (.ref a) H
theorem zn4:qb X (Cm X.K):=by
 intro pins s σ H x v vl vu lo hi sl Q I rx hs pl pu h;obtain⟨a,xs,rfl,hx,hw,q⟩:=h;cases rx;obtain⟨its,r,ht,hz⟩:=I.tuple hx;have hlen:its.toArray.size=xs.length:=by rw[dM];exact r.length.symm
 refine⟨"tuple",_,PyProof.Rows.slot_tuple_getitem.lookup,ht.typeIs,?_⟩;exact zjA ht hs pl pu (by rw[hlen];exact hw) ⟨.ref a,H,I,rfl,q⟩
section
variable {X:Cx}{e:Expr}{fe:EF}{lo hi:Option Expr}{fl fh:PF}{pos p2:Pos}
def znZ:Dw X none lA:=λpins s σ H Q I h=>zos pins s σ H Q I (by
 obtain⟨σd,S,α,p,S',hv,hs,hf,k⟩:=h;cases hf;exact k _ _ hs Ext.refl)
theorem znW(he:SE X e fe):Dw X (some e) (jH fe):=λpins s σ H Q I h=>zor he pins s σ H Q I (by
 obtain⟨σd,S,α,p,S',hv,hs,hf,k⟩:=h;unfold jH at hf;simp only[aW] at hf;obtain⟨⟨d,S1⟩,e1,e2⟩:=hf;refine⟨σd,S,α,d,S1,hv,hs,e1,λv H1 α1 s1 x1 r1=>?_⟩;cases r1 with
 |int i=>cases e2;exact⟨i,rfl,k _ _ s1 x1⟩
 |_=>cases e2)
theorem zlZ(he:SE X e fe)(hl:Dw X lo fl)(hh:Dw X hi fh):SE X (.Subscript e (.Slice lo hi none p2) pos) (jP fe fl fh):=by
 refine PE.imp (zmd (qb.or (qb.or ZR zn4) zn5) he hl hh) λσ H Q h=>?_;obtain⟨σd,S,α,z,S',hv,hs,hf,k⟩:=h;unfold jP at hf;simp only[aW] at hf;obtain⟨⟨d,S1⟩,e1,⟨l,S2⟩,e2,⟨u,S3⟩,e3,e4⟩:=hf;refine⟨σd,S,α,d,S1,hv,hs,e1,λv H1 α1 s1 x1 r1=>⟨σd,S1,α1,l,S2,hv.mono x1,s1,e2,λH2 α2 s2 x2=>⟨σd,S2,α2,u,S3,(hv.mono x1).mono x2,s2,e3,λH3 α3 s3 x3=>?_⟩⟩⟩;have r3:=(r1.mono x2).mono x3;have k3:=k.trans ((x1.trans x2).trans x3);simp only at e4;cases r3 with
 |tup h r =>
  simp only[uH] at e4;split at e4
  .rename_i hc;cases e4;refine .inl (.inl ⟨_,_,rfl,h,by rw[<-r.length];exact hc,λp hp=>?_⟩);exact k3.new s3 (lE hp) (.tup (dG.of dU) ((Ut r).mono (Same.ext (lE hp))))
  .rename_i hc;cases e4;refine .inl (.inr ⟨_,_,rfl,h,by rw[<-r.length];exact Decidable.not_not.mp hc,?_⟩);exact k3 _ _ _ s3 Ext.refl (.tup h r)
 |@ref n a ha =>
  simp only[uH] at e4;have core:∀xs,(∃vs,cQ X.K H3 a vs/\aB X.K H3 α3 xs vs)->some (D.ref S3.length,S3++[O.lst (jx xs l u)])=some (z,S')->(Cp X.K (.ref a) l u H3 Q\/Cm X.K (.ref a) l u H3 Q)\/Cq X.K (.ref a) l u H3 Q:=λxs ⟨vs,q,r⟩ e=>by
   cases e;refine .inr ⟨_,_,rfl,q,λp hp=>?_⟩;obtain⟨s4,x4⟩:=s3.snoc (p:=p) (o := .lst (jx xs l u)) (u := .lst (ql vs l u)) hp λα'' e=>⟨_,dU,(Ut r).mono e⟩
   exact k3 _ _ _ s4 x4 (.ref (by rw[<-s3.len];simp))
  split at e4
  .rename_i q;exact core _ (n6 s3 ha (.inl q)) e4
  .rename_i q;exact core _ (n6 s3 ha (.inr q)) e4
  .cases e4
 |_=>cases e4
end
noncomputable abbrev GM:=D->List D->So->Option (D×So)
noncomputable def v9(K:FgA)(g:GM):V->List V->Hp->VK->Prop:=λv vs H Q=>∃S α d ds z S',aq K H α S/\Rep K H α d v/\aB K H α ds vs/\g d ds S=some (z,S')/\Kt K H α z S' Q
noncomputable def vh:GM
 |.ref n,[d],S=>match S[n]? with
  |some (.lst xs)=>if xs.length<sizeLine then some (.non,S.set n (.lst (xs++[d]))) else none
  |_=>none
 |_,_,_=>none
theorem zkw:o6 X "list.append" (v9 X.K vh):=by
 intro pins s σ H v vs vv us Q I rv rs h;obtain⟨S,α,d,ds,z,S',hs,r,rr,hg,k⟩:=h;unfold vh at hg;split at hg
 .cases r with
  |ref ha =>
   split at hg
   .rename_i e;split at hg
    .rename_i hl;cases hg;obtain⟨w,rfl,fj⟩:=rr.inv1;obtain⟨ws,q,r⟩:=hs.obj _ _ _ e ha;refine zkt pins s σ H _ _ _ us Q I rv rs ⟨_,_,_,rfl,rfl,q,by rw[<-r.length];exact hl,?_⟩;obtain⟨s2,x2⟩:=hs.put (o := .lst (_++[_])) (u := .lst (ws++[w])) e rfl rfl ha q (.inl ⟨_,rfl⟩) λx=>⟨_,dU,(r.append (.cons fj .nil)).mono x⟩
     exact k _ _ _ s2 x2 .non
    .cases hg
   .cases hg
 .cases hg
noncomputable def eM(g:GM)(fo:EF)(fa:AF):EF:=λσ S=>(fo σ S).bind λr=>match r.1 with
 |.ref n=>match r.2[n]? with
  |some (.lst _)=>(fa σ r.2).bind λq=>g r.1 q.1 q.2
  |_=>none
 |_=>none
theorem YT{o:Expr}{fo:EF}{g:GM}{id:String}(slot:Slot "list" name id)(hty:typeOf (.builtin id)=pure (.type "method_descriptor"))(hm:o6 X id (v9 X.K g))(ho:SE X o fo)(ha:SA X (e::es) fa)(hbase:attributeBase o name X.env (eval o X.env)=eval o X.env)(hfew:((backTo cpos (starEach (e::es) X.env)).all (λx => !x.1)&&(backToKw cpos (keywordEach [] X.env)).all (λx=>x.1.isSome)
  && decide ((e::es).length+([]:List Keyword).length+(if([]:List Keyword).isEmpty then 0 else 1)<30))=true)(hline:(apos.endLine==cpos.line)=true)(hst:starEach (e::es) X.env=(false,eval e X.env)::starEach es X.env)(hplain:(backTo cpos (starEach es X.env)).any (·.1)=false):
 SE X (.Call (.Attribute o name apos) (e::es) [] cpos) (eM g fo fa):=by
 refine PE.imp (Jg PySem.F.plainAttrs_list slot hty hm ho ha hbase hfew hline hst hplain) λσ H Q h=>?_;obtain⟨σd,S,α,z,S',hv,hs,hf,k⟩:=h;unfold eM at hf;simp only[aW] at hf;obtain⟨⟨d,S1⟩,e1,e2⟩:=hf;refine⟨σd,S,α,d,S1,hv,hs,e1,λv H1 α1 s1 x1 r1=>?_⟩;simp only at e2;split at e2
 .rename_i n;split at e2
  .rename_i xs q;simp only[aW] at e2;obtain⟨⟨ds,S2⟩,e3,e4⟩:=e2;cases r1 with
   |ref ha =>
    obtain⟨ws,hw,_⟩:=s1.obj _ _ _ q ha;refine⟨.inl ⟨rfl,_,cQ.of hw⟩,σd,S1,α1,ds,S2,hv.mono x1,s1,e3,λvs H2 α2 s2 x2 r2=>?_⟩;exact⟨S2,α2,_,ds,z,S',s2,.ref (x2.pre _ _ ha),r2,e4,k.trans (x1.trans x2)⟩
  .cases e2
 .cases e2
noncomputable def zK:List D->Option (List Bool)
 |[]=>some []
 |.bl b::r=>(zK r).map (b::·)
 |_::_=>none
theorem V1{K:FgA}{H:Hp}{α:List Addr}:∀{ds:List D} {vs:List V} {us:List Value} {bs:List Bool},aB K H α ds vs->Vals vs us->zK ds=some bs->LSm.BoolsAre us bs
 |_,_,_,_,.nil,.nil,e=>by cases e;exact .nil
 |_,_,_,_,.cons r rr,.cons rv rvs,e=>by
  cases r with
  |bl b =>
   simp only[zK,aR] at e;obtain⟨ms,e1,rfl⟩:=e;cases rv;exact .cons _ (V1 rr rvs e1)
  |_=>cases e
noncomputable def mF:GN
 |[.ref n],S=>match S[n]? with
  |some (.lst xs)=>(zK xs).map λbs=>(.bl (bs.all id),S)
  |_=>none
 |_,_=>none
section
variable {X:Cx}
theorem zjs{l:Addr}{vs:List Value}{bs:List Bool}(hh:A.handled=none)(hl:s.heap.IsList l vs.toArray)(hb:LSm.BoolsAre vs bs)(h:∀h' tk,(∀b x,s.heap.get? b=some x->h'.get? b=some x)->Q (.bool (bs.all id)) { s with heap:=h',toks:=tk }):wpAny (model prog w) A (call (.builtin "all") [.ref l]) Q E s:=by
 have hlt:l<s.heap.objs.size:=by obtain⟨_,e,_⟩:=hl;exact cg e
 refine call_all_walk (wpAny_pyIter_list hl ?_);refine⟨s.heap.objs.size,[s.heap.objs.size,l],[s.heap.objs.size],vs.toArray.size,_,_,λi=>(bs[i]?).getD true,rfl,Walks.list (A:=A.in1) hh _ l (dh hlt) vs.toArray,
  ⟨⟨_,gB _ rfl,rfl,rfl⟩,hl.push _⟩,λi v s' Q' E' hP hQ=>?_,λh' tk hk=>?_⟩
 .obtain⟨b,e,rfl⟩:=hb.get i v (by simpa using hP);simp only[e,Option.getD_some] at hQ;exact wpAny_truthy_bool hQ
 .have e:((List.range vs.toArray.size).all λi=>(bs[i]?).getD true)=bs.all id:=by rw[dM,hb.length];exact LSm.range_all bs
  rw[e];exact h h' tk (LSm.kept_iter hk)
theorem Za(hc:X.calm=true):gQ X (.builtin "all") (jt X.K mF):=by
 intro pins s σ H vs us Q I rv h;obtain⟨S,α,ds,z,S',hs,r,hg,k⟩:=h;unfold mF at hg;split at hg
 .obtain⟨v,rfl,r0⟩:=r.inv1;cases r0 with
  |@ref n a ha =>
   split at hg
   .rename_i e;simp only[aR] at hg;obtain⟨bs,e1,e2⟩:=hg;cases e2;obtain⟨ws,q,r⟩:=n6 hs ha (.inl e);obtain⟨u,rfl,ru⟩:=pL rv;cases ru;obtain⟨its,rr,pl,hz⟩:=I.list q;exact zjs (I.ok.hd hc) pl.isList (V1 r rr e1) λh' tk hk=>⟨.bl _,H,I.kept hk,rfl,k.same hs (.bl _)⟩
   .cases hg
 .cases hg
theorem zjb{l:Addr}(hh:A.handled=none)(hl:s.heap.IsTuple l (intItems xs))(hne:0<xs.size)(h:∀v h' tk,(intItems xs)[argBest (λi j=>decide (numAt xs i<numAt xs j)) (xs.size - 1)]?=some v->(∀b o,s.heap.get? b=some o->h'.get? b=some o)->Q v { s with heap:=h',toks:=tk }):
 wpAny (model prog w) A (call (.builtin "min") [.ref l]) Q E s:=by
 have hlt:l<s.heap.objs.size:=by obtain⟨_,e,_⟩:=hl;exact cg e
 refine call_min_walk (wpAny_pyIter_tuple hl ?_);refine⟨_,[s.heap.objs.size,l],[s.heap.objs.size],_,_,_,_,rfl,Walks.tuple (A:=A.in1) hh _ l (dh hlt) (intItems xs),
  ⟨⟨_,gB _ rfl,rfl,rfl⟩,hl.push _⟩,λc hc=>?_,by simpa[intItems] using hne,CmpOf.ints_lt (numAt xs) (λ_ _=>intItems_at),λv h' tk hP hk=>?_⟩
 .show c<(s.heap.push _).objs.size;rw[Heap.size_push];rcases List.mem_cons.mp hc with rfl|hc
  .exact Nat.lt_succ_self _
  .rcases List.mem_cons.mp hc with rfl|hc
   .exact Nat.lt_succ_of_lt hlt
   .cases hc
 .exact h v h' tk (by simpa[intItems] using hP) (LSm.kept_iter hk)
theorem zjc{l:Addr}(hh:A.handled=none)(hl:s.heap.IsTuple l (intItems xs))(hne:0<xs.size)(h:∀v h' tk,(intItems xs)[argBest (λi j=>decide (numAt xs i>numAt xs j)) (xs.size - 1)]?=some v->(∀b o,s.heap.get? b=some o->h'.get? b=some o)->Q v { s with heap:=h',toks:=tk }):
 wpAny (model prog w) A (call (.builtin "max") [.ref l]) Q E s:=by
 have hlt:l<s.heap.objs.size:=by obtain⟨_,e,_⟩:=hl;exact cg e
 refine call_max_walk (wpAny_pyIter_tuple hl ?_);refine⟨_,[s.heap.objs.size,l],[s.heap.objs.size],_,_,_,_,rfl,Walks.tuple (A:=A.in1) hh _ l (dh hlt) (intItems xs),
  ⟨⟨_,gB _ rfl,rfl,rfl⟩,hl.push _⟩,λc hc=>?_,by simpa[intItems] using hne,CmpOf.ints_gt (numAt xs) (λ_ _=>intItems_at),λv h' tk hP hk=>?_⟩
 .show c<(s.heap.push _).objs.size;rw[Heap.size_push];rcases List.mem_cons.mp hc with rfl|hc
  .exact Nat.lt_succ_self _
  .rcases List.mem_cons.mp hc with rfl|hc
   .exact Nat.lt_succ_of_lt hlt
   .cases hc
 .exact h v h' tk (by simpa[intItems] using hP) (LSm.kept_iter hk)
noncomputable def qC:GN
 |[.tup xs],S=>(mY xs).bind λns=>(je ns).map λm=>(.int m,S)
 |ds,S=>rH ds S
noncomputable def lz:GN
 |[.tup xs],S=>(mY xs).bind λns=>(iV ns).map λm=>(.int m,S)
 |ds,S=>oU ds S
theorem zpG(hc:X.calm=true):gQ X (.builtin "min") (jt X.K qC):=by
 intro pins s σ H vs us Q I rv h;obtain⟨S,α,ds,z,S',hs,r,hg,k⟩:=h;unfold qC at hg;split at hg
 .obtain⟨v,rfl,r0⟩:=r.inv1;cases r0 with
  |@tup a ds vs q r1 =>
   simp only[aW,aR] at hg;obtain⟨ns,e1,m,e2,e3⟩:=hg;cases e3;obtain⟨u,rfl,ru⟩:=pL rv;cases ru;obtain⟨its,rr,pl,hz⟩:=I.tuple q;have hi:=yL r1 rr e1;have hne:0<ns.length:=by
    cases ns with
    |nil=>cases e2
    |cons _ _=>simp
   obtain⟨xs,hxs⟩:=hi.allInts.items;have hn:=hi.numsOf;have hnn:numsOf (intItems xs).toList=ns:=by rw[<-hxs];simpa using hn
   rw[nums_intItems] at hnn;have hsz:0<xs.size:=by have:=congrArg List.length hnn;simp at this;omega
   have hl':s.heap.IsTuple a (intItems xs):=by rw[<-hxs];exact pl
   refine zjb (I.ok.hd hc) hl' hsz λv h' tk hv hk=>?_;obtain⟨t,rfl⟩:=intItems_at hv;obtain⟨h1,h2⟩:=argBest_lt (numAt xs) (xs.size - 1);have hm:je ns=some (numAt xs (argBest (λi j=>decide (numAt xs i<numAt xs j)) (xs.size - 1))):=by
    refine RX ?_ λb hb=>?_
    .rw[<-hnn,numAt_eq];exact getD_mem (by rw[cZ,Array.length_toList];omega)
    .rw[<-hnn] at hb;obtain⟨j,hj,rfl⟩:=mem_getD hb;rw[cZ,Array.length_toList] at hj;rw[<-numAt_eq];exact h2 j (by omega)
   rw[e2] at hm;cases hm;exact⟨.int _,H,I.kept hk,⟨t,rfl⟩,k.same hs (.int _)⟩
 .exact Ze hc pins s σ H vs us Q I rv ⟨S,α,_,z,S',hs,r,hg,k⟩
theorem zpH(hc:X.calm=true):gQ X (.builtin "max") (jt X.K lz):=by
 intro pins s σ H vs us Q I rv h;obtain⟨S,α,ds,z,S',hs,r,hg,k⟩:=h;unfold lz at hg;split at hg
 .obtain⟨v,rfl,r0⟩:=r.inv1;cases r0 with
  |@tup a ds vs q r1 =>
   simp only[aW,aR] at hg;obtain⟨ns,e1,m,e2,e3⟩:=hg;cases e3;obtain⟨u,rfl,ru⟩:=pL rv;cases ru;obtain⟨its,rr,pl,hz⟩:=I.tuple q;have hi:=yL r1 rr e1;have hne:0<ns.length:=by
    cases ns with
    |nil=>cases e2
    |cons _ _=>simp
   obtain⟨xs,hxs⟩:=hi.allInts.items;have hn:=hi.numsOf;have hnn:numsOf (intItems xs).toList=ns:=by rw[<-hxs];simpa using hn
   rw[nums_intItems] at hnn;have hsz:0<xs.size:=by have:=congrArg List.length hnn;simp at this;omega
   have hl':s.heap.IsTuple a (intItems xs):=by rw[<-hxs];exact pl
   refine zjc (I.ok.hd hc) hl' hsz λv h' tk hv hk=>?_;obtain⟨t,rfl⟩:=intItems_at hv;obtain⟨h1,h2⟩:=argBest_gt (numAt xs) (xs.size - 1);have hm:iV ns=some (numAt xs (argBest (λi j=>decide (numAt xs i>numAt xs j)) (xs.size - 1))):=by
    refine S6 ?_ λb hb=>?_
    .rw[<-hnn,numAt_eq];exact getD_mem (by rw[cZ,Array.length_toList];omega)
    .rw[<-hnn] at hb;obtain⟨j,hj,rfl⟩:=mem_getD hb;rw[cZ,Array.length_toList] at hj;rw[<-numAt_eq];exact h2 j (by omega)
   rw[e2] at hm;cases hm;exact⟨.int _,H,I.kept hk,⟨t,rfl⟩,k.same hs (.int _)⟩
 .exact Zd hc pins s σ H vs us Q I rv ⟨S,α,_,z,S',hs,r,hg,k⟩
end
theorem zjm(l:Addr)(items:Array Value)(n:Nat)(b:Addr)(items2:Array Value)(n2:Nat)(dd:Option Addr)(sl:Array (Option Value))(hs0:¬(!items.isEmpty&&Builtin.List.listTooLong (items.size+items2.size))=true)(hs1:items.size<=sizeLine)(hs2:items.size+items2.size<=sizeLine+1):
 Meets (Builtin.«list.extend» ⟨[.ref l,.ref b],[]⟩) (λ_ R s=>s.heap.get? l=some { cls := .type "list",dict:=none,data := .seq items n,slots:=#[] }/\s.heap.get? b=some { cls := .type "tuple",dict:=dd,data := .seq items2 n2,slots:=sl }/\R (.ok (.ret Value.none)) { s with heap:=s.heap.update l (Obj.mapSeq λx=>x++items2),toks:=s.toks }) :=
 .of_wp λprog w A R s h=>by
  obtain⟨hp,g,d,tk,os⟩:=s;obtain⟨hl,hb,h⟩:=h;have f1:=AutoSeq1.idx_int;have f2:=AutoSeq1.sub_tuple_tuple;have f3:=AutoSeq1.sub_list_list;have f4:=AutoSeq1.sub_tuple_list;have f5:=AutoSeq1.sub_list_tuple;have hz':(items++items2).size<=sizeLine+1:=by rw[Array.size_append];exact hs2
  wp_walk using (wpAny_updateSeq hl rfl (hz:=hs1) (_hz':=hz')),AutoSeq1.wpAny_loadPart' hl,AutoSeq1.wpAny_loadPart' hb;exact⟨_,rfl,h⟩
noncomputable def yc:GM
 |.ref n,[.ref m],S=>match S[n]?,S[m]? with
  |some (.lst xs),some (.lst ys)=>if xs.length+ys.length<=sizeLine then some (.non,S.set n (.lst (xs++ys))) else none
  |_,_=>none
 |.ref n,[.tup ys],S=>match S[n]? with
  |some (.lst xs)=>if xs.length+ys.length<=sizeLine then some (.non,S.set n (.lst (xs++ys))) else none
  |_=>none
 |_,_,_=>none
def aB.eraseIdx{K:FgA}{H:Hp}{α:List Addr}:∀{ds:List D} {vs:List V} (i:Nat),aB K H α ds vs->aB K H α (ds.eraseIdx i) (vs.eraseIdx i)
 |_,_,_,.nil => .nil
 |_,_,0,.cons _ t=>t
 |_,_,i+1,.cons r t => .cons r (aB.eraseIdx i t)
theorem aB.dropLast{K:FgA}{H:Hp}{α:List Addr}{ds:List D}{vs:List V}(r:aB K H α ds vs):aB K H α ds.dropLast vs.dropLast:=by rw[List.dropLast_eq_take,List.dropLast_eq_take,r.length];exact r.take _
theorem zkv:o6 X "list.extend" (v9 X.K yc):=by
 intro pins s σ H v vs vv us Q I rv rs h;obtain⟨S,α,d,ds,z,S',hs,r,rr,hg,k⟩:=h;unfold yc at hg;split at hg
 .cases r with
  |ref ha =>
   split at hg
   .rename_i e1 e2;split at hg
    .rename_i hl;cases hg;obtain⟨w,rfl,fj⟩:=rr.inv1;cases fj with
     |ref hb =>
      obtain⟨ws,q,r⟩:=hs.obj _ _ _ e1 ha;obtain⟨ws2,q2,r2⟩:=hs.obj _ _ _ e2 hb;refine zkr pins s σ H _ _ _ us Q I rv rs ⟨_,_,_,_,rfl,rfl,q,q2,by rw[<-r.length,<-r2.length];exact hl,?_⟩;obtain⟨s2,x2⟩:=hs.put (o := .lst (_++_)) (u := .lst (ws++ws2)) e1 rfl rfl ha q (.inl ⟨_,rfl⟩) λx=>⟨_,dU,(r.append r2).mono x⟩
      exact k _ _ _ s2 x2 .non
    .cases hg
   .cases hg
 .cases r with
  |ref ha =>
   split at hg
   .rename_i xs e1;split at hg
    .rename_i hl;cases hg;obtain⟨w,rfl,fj⟩:=rr.inv1;cases fj with
     |tup hb r2 =>
      obtain⟨ws,q,r⟩:=hs.obj _ _ _ e1 ha;cases rv;obtain⟨u,rfl,ru⟩:=rs.one;cases ru;obtain⟨hz,its,n0,v8,hli,ho⟩:=I.lstM q;obtain⟨its2,uq,⟨⟨c2,dd2,dt2,sl2⟩,ho2,hc2,n2,hd2⟩,hz2⟩:=I.tuple hb;simp only at hc2 hd2;subst hc2 hd2;have e3:its.length=xs.length:=by rw[<-hli,r.length]
      have e4:=uq.length;rw[<-r2.length] at e4;have hsz:its.toArray.size+its2.toArray.size<=sizeLine:=by rw[dM,dM,e3,<-e4];exact hl
      have oO:¬(!its.toArray.isEmpty&&Builtin.List.listTooLong (its.toArray.size+its2.toArray.size))=true:=by rw[QF hsz,Bool.and_false];exact fB
      refine call_meets F.slot_list_extend ⟨_,ho,rfl⟩ F.entry_list_extend (F.args_list_extend_2 _ _)
       (zjm _ its.toArray n0 _ its2.toArray n2 dd2 sl2 oO (by omega) (by omega)) ⟨ho,ho2,?_⟩
      obtain⟨s2,x2⟩:=hs.put (o := .lst (xs++_)) (u := .lst (ws++_)) e1 rfl rfl ha q (.inl ⟨_,rfl⟩) λx=>⟨_,dU,(r.append r2).mono x⟩
      refine⟨.non,_,I.lset (its':=its++its2) q ho (by simp) (v8.append uq) ?_,rfl,k _ _ _ s2 x2 .non⟩;rw[jQ,<-r.length,<-r2.length];exact hl
    .cases hg
   .cases hg
 .cases hg
noncomputable def mD:GM
 |.ref n,[],S=>match S[n]? with
  |some (.lst xs)=>(xs[xs.length - 1]?).map λd=>(d,S.set n (.lst xs.dropLast))
  |_=>none
 |.ref n,[.int i],S=>match S[n]? with
  |some (.lst xs)=>if -(2 ^ 63)<=i/\i<2 ^ 63 then(seqIndex? i xs.length).bind λk=>(xs[k]?).map λd=>(d,S.set n (.lst (xs.eraseIdx k))) else none
  |_=>none
 |_,_,_=>none
theorem YK:o6 X "list.pop" (v9 X.K mD):=by
 intro pins s σ H v vs vv us Q I rv rs h;obtain⟨S,α,d,ds,z,S',hs,r,rr,hg,k⟩:=h;unfold mD at hg;split at hg
 .cases r with
  |ref ha =>
   split at hg
   .rename_i xs e;simp only[aR] at hg;obtain⟨d,e1,e2⟩:=hg;cases e2;cases rr;obtain⟨ws,q,r⟩:=hs.obj _ _ _ e ha;obtain⟨w,ew,fj⟩:=r.get e1;refine zq9 pins s σ H _ _ _ us Q I rv rs ⟨_,_,w,rfl,rfl,q,by rw[<-r.length];exact ew,?_⟩;obtain⟨s2,x2⟩:=hs.put (o := .lst xs.dropLast) (u := .lst ws.dropLast) e rfl rfl ha q (.inl ⟨_,rfl⟩) λx=>⟨_,dU,r.dropLast.mono x⟩
    exact k _ _ _ s2 x2 (fj.mono x2)
   .cases hg
 .cases r with
  |ref ha =>
   split at hg
   .rename_i xs e;split at hg
    .rename_i hb;simp only[aW,aR] at hg;obtain⟨kk,e0,d,e1,e2⟩:=hg;cases e2;obtain⟨w0,rfl,r0⟩:=rr.inv1;cases r0;obtain⟨ws,q,r⟩:=hs.obj _ _ _ e ha;obtain⟨w,ew,fj⟩:=r.get e1;refine zmj pins s σ H _ _ _ us Q I rv rs ⟨_,_,_,kk,w,rfl,rfl,q,hb.1,hb.2,by rw[<-r.length];exact e0,ew,?_⟩;obtain⟨s2,x2⟩:=hs.put (o := .lst (xs.eraseIdx kk)) (u := .lst (ws.eraseIdx kk)) e rfl rfl ha q (.inl ⟨_,rfl⟩) λx=>⟨_,dU,(r.eraseIdx kk).mono x⟩
     exact k _ _ _ s2 x2 (fj.mono x2)
    .cases hg
   .cases hg
 .cases hg
noncomputable def Du(g:GM)(fo:EF):EF:=λσ S=>(fo σ S).bind λr=>match r.1 with
 |.ref n=>match r.2[n]? with
  |some (.lst _)=>g r.1 [] r.2
  |_=>none
 |_=>none
theorem zqA{o:Expr}{fo:EF}{g:GM}{id:String}(slot:Slot "list" name id)(hty:typeOf (.builtin id)=pure (.type "method_descriptor"))(hm:o6 X id (v9 X.K g))(ho:SE X o fo)(hbase:attributeBase o name X.env (eval o X.env)=eval o X.env)(hline:(apos.endLine==cpos.line)=true):
 SE X (.Call (.Attribute o name apos) [] [] cpos) (Du g fo):=by
 refine PE.imp (Z7 PySem.F.plainAttrs_list slot hty hm ho hbase hline) λσ H Q h=>?_;obtain⟨σd,S,α,z,S',hv,hs,hf,k⟩:=h;unfold Du at hf;simp only[aW] at hf;obtain⟨⟨d,S1⟩,e1,e2⟩:=hf;refine⟨σd,S,α,d,S1,hv,hs,e1,λv H1 α1 s1 x1 r1=>?_⟩;simp only at e2;split at e2
 .rename_i n;split at e2
  .rename_i xs q;cases r1 with
   |ref ha =>
    obtain⟨ws,hw,_⟩:=s1.obj _ _ _ q ha;exact⟨.inl ⟨rfl,_,cQ.of hw⟩,S1,α1,_,[],z,S',s1,.ref ha,.nil,e2,k.trans x1⟩
  .cases e2
 .cases e2
end MX
end
section
namespace MX
open PySem PySem.Spec PySem.W PyProof.Rows L2
noncomputable def pZ(P:Program)(w:World)(K:FgA)(mg:Str->Option Value)(base:Heap)(N:List Str)(qual:Str)(scope:Scope)(f:Addr)(cd:Value)(cl:List (Str×Addr))(A:Around)(outer:List Env)(s:Shared)(H:Hp)(E:XK):Cx where
 prog:=P
 w:=w
 K:=K
 mg:=mg
 base:=base
 A:=A.deeper (envX qual scope s.heap.objs.size f cd cl)
 N:=N
 s₀:=s
 H₀:=H
 env:=envX qual scope s.heap.objs.size f cd cl
 outer:=outer
 stack:=envX qual scope s.heap.objs.size f cd cl::outer
 ex:=[]
 calm:=true
 fn:=λ_=>false
 pn:=[]
 xe:=λe s'=>wpAny (model P w) (A.deeper (envX qual scope s.heap.objs.size f cd cl)) (leaving (envX qual scope s.heap.objs.size f cd cl) e) (λ_ s''=>fV outer H s E e s'') (λe' s''=>fV outer H s E e' s'') s'
structure o7(p:Str)(scope:Scope)(cl:List (Str×Addr)):Prop where
 kind:scope.kind = .function
 co:scope.isCoroutine=false
 gen:scope.isGenerator=false
 par:scope.names.lookup p=some .local
 nocell:∀x∈scope.names,x.2 ≠ .cell
 has:∀x,scope.names.lookup x=some .free->∃c,cl.lookup x=some c
 inj:∀x y c,cl.lookup x=some c->cl.lookup y=some c->x=y
def R0(h:∀x∈scope.names,x.2≠NameKind.cell)(x:Str):scope.names.lookup x≠some .cell:=λe=>h _ (gP e) rfl
theorem QG{R:Result->Shared->Prop}{args:Args}{q:Str}(hroom:A.depth<recursionLimit)(ho:s.heap.get? a=some o)(hd':o.data = .func fd)(hco:fd.scope.isCoroutine=false)(hgen:fd.scope.isGenerator=false)(hbody:fd.body = .expr body)(hcd:s.heap.CodeRec fd.code q)(h:wpAny (model prog w) A.in1 (bindArgs fd args) (λbinds s₁ =>
  wpAny (model prog w) A.in1 (newFunctionEnv fd.scope fd.globals fd.closure binds (q ++ ".<locals>.") (some a) fd.code none fd.builtins)
   (λenv s₂=>s₂.heap.NoLimit/\codeAny (model prog w) A (.expr body env) R s₂) (λe s'=>R (.error e) s') s₁) (λe s'=>R (.error e) s') s):
 codeAny (model prog w) A (.call (.ref a) args) R s:=by
 refine codeAny_of_tree ?_;show wpAny _ A.in1 (callAny (.ref a) args) _ _ s;simp only[callAny];refine aF (wpAny_load ho ?_);obtain⟨c,oc,vs,tq,hc,hoc,hdc,hq⟩:=hcd;simp only[hd',callFunction,hco,hgen,hbody,hc];rw[hc] at h;refine aF (m:=field (.ref c) 1) (wpAny_field hoc hdc hq (aF (bT ?_)));exact aF (iw h (λbinds s₁ h₁=>aF (iw h₁ (λenv s₂ h₂=>aF (wpAny_enterFrame h₂.1 hroom
  (bT (And.intro rfl h₂.2)))) λ_ _ h'=>h')) λ_ _ h'=>h')
theorem YG{P:Program}{pm ctv:Value}{p:Str}{cap:List Str}{cus:List Value}{sp:Sp}{Pt:Addr}(ho:base.get? a=some o)(hod:o.data = .func (kla_fn name qual params body scope cl pm cdv ctv))(hcd:∀vs H Q E,sp vs H Q E->∃ps,H Pt=some (.tbl ps)/\codeAmong aX ps.toList=some cdv)(S:o7 p scope cl)(hcells:∀x c,cl.lookup x=some c->∃v,base.IsCell c v)(hcap:∀(i:Nat) x v,cap[i]?=some x->cF[i]?=some v->scope.names.lookup x=some .free/\∃c u,cl.lookup x=some c/\base.IsCell c (some u)/\RelV v u)(hlen:cap.length=cF.length)(len:∀vs H Q E,sp vs H Q E->vs.length=1)(hbody:∀(qual:Str) (A:Around) (outer:List Env) (s:Shared) (H:Hp) (v:V) (Q:VK) (E:XK),aU k (A.deeper (envX qual scope s.heap.objs.size a cdv cl))->sp [v] H Q E ->
  ∃t,PE (pZ P w K mg base (p::cap) qual scope a cdv cl A outer s H E).nox body t/\t (some v::cF.map some) H Q):
 bO P w K mg base fV (k+1) a (kla_fn name qual params body scope cl pm cdv ctv) [p] sp:=by
 refine⟨len,λA outer s H args us vs Q E hr e0 hb r hsp=>?_⟩;have hl:=len _ _ _ _ hsp;obtain⟨v,rfl⟩:∃v,vs=[v]:=by
  match vs,hl with
  |[v],_=>exact⟨v,rfl⟩
 obtain⟨u,rfl,rv⟩:∃u,us=[u]/\RelV v u:=by
  cases r with
  |cons h1 h2=>cases h2;exact⟨_,rfl,h1⟩
 have bk:∀b o,base.get? b=some o->s.heap.get? b=some o:=λb o e=>(e0.bs b o e).1;have lim:s.heap.NoLimit:=e0.mod.nolimit.keeps bk;obtain⟨ps,hps,ham⟩:=hcd _ _ _ _ hsp;obtain⟨_,_,hcp⟩:=e0.hok Pt _ hps;obtain⟨cc,q,oc,vs,tq,hc1,_,hc2,hc3,hc4⟩:=hcp aX cdv ham;have cr:s.heap.CodeRec cdv q:=⟨cc,oc,vs,tq,hc1,hc2,hc3,hc4⟩
 obtain⟨t,ht,hq⟩:=hbody q A outer s H v Q E (hr.deeper _) hsp;refine QG hr.depth (bk _ _ ho) hod S.co S.gen rfl cr (hb _ _ _ _ ?_);have hloc:∀y∈[p].zip [u],scope.names.lookup y.1=some .local:=λy hy=>by
  have:y=(p,u):=by simpa using hy
  subst this;exact S.par
 refine wpAny_newFunctionEnv S.nocell hloc (λh₁ hns hsb=>⟨lim.fresh _ hsb,?_⟩) S.kind;show codeAny _ _ (.expr body (envX q scope s.heap.objs.size a cdv cl)) _ _;have hk₁:∀b o,s.heap.get? b=some o->h₁.get? b=some o:=λb o e=>hsb.extBut b o (dh (cg e)) (cX _ e);have cellK:∀c v,base.IsCell c v->h₁.IsCell c v:=λc v ⟨o,e,d⟩=>⟨o,hk₁ _ _ (bk _ _ e),d⟩
 have mz:∀b:Addr,b∉(pZ P w K mg base (p::cap) q scope a cdv cl A outer s H E).ex:=λb z=>absurd (show b∈([]:List Addr) from z) (by simp);have I:Inv (pZ P w K mg base (p::cap) q scope a cdv cl A outer s H E) [] (some v::cF.map some) H { s with heap:=h₁,toks:=s.toks+([p].zip [u]).length }:=by
  refine⟨⟨e0.mod,S.kind,rfl,rfl,bZ _,S.inj,λy hy=>?_,λy c hf _=>(nomatch hf),λ_=>hr.hd,Around.frames_deeper e0.frames,.inr ⟨rfl,rfl⟩,λb z=>absurd z (mz b),e0.bs,e0.bsz,λb _ _=>mz b,λb z=>absurd z (mz b),e0.funs,e0.frf⟩,
   rfl,e0.bare,Un.kept hk₁,⟨_,hns,λi y z h1 h2 h3=>?_⟩,λy c h=>?_,e0.hok.fresh (bZ _),λy c h=>?_,λq hq=>absurd (show q∈([]:List (Addr×Obj)) from hq) (by simp),e0.hok.kept hk₁,?_⟩
  .rcases hy with hy|hy
   .exact absurd hy (R0 S.nocell y)
   .exact S.has y hy
  .cases i with
   |zero =>
    have e1:p=y:=by simpa[pZ] using h1
    have e2:v=z:=by simpa using h2
    subst e1 e2;exact⟨u,rv,.inl ⟨S.par,by simp⟩⟩
   |succ i =>
    have e1:cap[i]?=some y:=by simpa[pZ] using h1
    have e2:cF[i]?=some z:=by
     rw[List.getElem?_cons_succ,gG] at h2;cases q:cF[i]? with
     |none=>rw[q] at h2;cases h2
     |some x=>rw[q] at h2;cases h2;rfl
    obtain⟨k1,c,u',k2,k3,k4⟩:=hcap i y z e1 e2;exact⟨u',k4,.inr ⟨.inr k1,c,k2,cellK _ _ k3⟩⟩
  .obtain⟨v',hv⟩:=hcells y c h;exact⟨v',cellK _ _ hv⟩
  .obtain⟨v',o',ho',_⟩:=hcells y c h;exact(e0.bs _ _ ho').2
  .show _=(p::cap).length;simp[hlen]
 refine kla_codeExpr (iw (ht.nox [] _ _ H Q I hq) (λu' s' hs=>?_) λe s' hs=>hs);obtain⟨v',H',J,rv',q⟩:=hs;exact⟨v',H',J.os,J.bare,J.base,J.hok,rv',q⟩
def zo1{M:Model}(h:Heap)(X:h.get? a=some { cls := .type "function",data := .func fd }):∃k,(k=Keeper.frame\/k=Keeper.machine\/k=Keeper.boundFrame)/\Looks M h (keeperOf (.ref a)) k :=
 ⟨.frame,.inl rfl,(Looks.ld (part:=none) X).andThen .now⟩
section
variable {X:Cx}{x:Str}{p pos:Pos}{e:Expr}{es:List Expr}{t:TA}
structure d8(H H':Hp):Prop where
 tups:∀b xs,H b=some (.tup xs)->H' b=some (.tup xs)
 tbls:∀b ps,H b=some (.tbl ps)->∃more,H' b=some (.tbl (ps++more))
 frzs:∀b o u,H b=some (.frz o u)->H' b=some (.frz o u)
end
def BM(h:Heap)(mg:Str->Option Value):Prop:=∃bm o,mg "__builtins__" = some (.ref bm)/\bm≠builtinsNs/\h.get? bm=some o/\o.cls = .type "module" /\ o.dict=some builtinsNs/\o.data = .plain
def dH(H H':Hp):Prop:=(∀b o,H b=some o->(∀ps,o ≠ .tbl ps)->H' b=some o)/\∀b ps,H b=some (.tbl ps)->∃qs,H' b=some (.tbl qs)
theorem zjr{cv:Value}:∀(l more:List Value),codeAmong pos l=some cv->codeAmong pos (l++more)=some cv:=λl more=>by
 fun_induction codeAmong pos l with
 |case1 line a col b c rest hc =>
  intro e;simp only[List.cons_append,codeAmong];rw[if_pos hc];exact e
 |case2 line a col b c rest hc ih =>
  intro e;simp only[List.cons_append,codeAmong];rw[if_neg hc];exact ih e
 |case3=>intro e;cases e
theorem zjq{pos':Pos}{c cv:Value}:∀l:List Value,TriplesOk l->codeAmong pos (l++[rawInt pos'.line,rawInt pos'.col,c])=some cv->codeAmong pos l=some cv\/cv=c:=λl h=>by
 fun_induction TriplesOk l with
 |case1 =>
  intro e;simp only[uX,codeAmong,rawInt] at e;split at e
  .cases e;exact .inr rfl
  .cases e
 |case2 a' t b' u x rest ih =>
  intro e;simp only[List.cons_append,codeAmong] at e ⊢;split at e
  .rename_i hc;rw[if_pos hc];exact .inl e
  .rename_i hc;rw[if_neg hc];exact ih h e
 |case3 l h1 h2=>exact h.elim
section
variable {X:Cx}{pins:List (Addr×Obj)}{σ:L2.St}{H:Hp}{s:Shared}
theorem Ua(I:Inv X pins σ H s){t':Nat}(k:∀b o,s.heap.get? b=some o->h'.get? b=some o):Inv X pins σ H { s with heap:=h',toks:=t' } :=
 I.step (h':=h') (g':=s.gens) (d':=s.drawn) (ch:=[]) (λ_ z=>nomatch z) (λb o _ _ _ e _=>k b o e) (λb o _ _ _ e _=>⟨o.slots,k b o e⟩) (λb o _ _ n=>n) (λb o _ e=>⟨o,k b o e⟩) (λ_ _ q=>q) (λ_ _ _ q=>q) (λ_ ps q=>⟨#[],by rw[q];simp⟩)
  (λm ⟨o,es,ep,e,r⟩=>⟨o,es,ep,k _ _ e,r⟩) (I.hok.kept k) I.bare
theorem zkO(I:Inv X pins σ H s){P c':Addr}{ps:Array Value}{t':Nat}{q:Str}(hT:H P=some (.tbl ps))(hx:Heap.ExtBut P s.heap h')(hge:s.heap.objs.size<=c')(hrec:h'.CodeRec (.ref c') q)(hP:h'.get? P=some (tabObj (ps++#[rawInt aX.line,rawInt aX.col,.ref c']))):
 Inv X pins σ (upd (upd H P (.tbl (ps++#[rawInt aX.line,rawInt aX.col,.ref c']))) c' (.own P)) { s with heap:=h',toks:=t' }:=by
 have hc:H c'=none:=I.hok.fresh hge;have hPc:P≠c':=λz=>by rw[z,hc] at hT;cases hT
 have Hh:∀b,H b=none->b≠P:=λb n z=>by rw[z,hT] at n;cases n
 have uz:∀b o,s.heap.get? b=some o->b≠c':=λb o e z=>absurd (dg (cg e) (z ▸ hge)) (gO _);have old:∀b,b≠P->b≠c'->upd (upd H P (.tbl (ps++#[rawInt aX.line,rawInt aX.col,.ref c']))) c' (.own P) b=H b:=λb h1 h2=>by rw[bN h2,bN h1]
 have oldS:∀b o,H b=some o->b≠P->upd (upd H P (.tbl (ps++#[rawInt aX.line,rawInt aX.col,.ref c']))) c' (.own P) b=some o:=λb o e h1=>by rw[old b h1 (fD e hc)];exact e
 obtain⟨eP,tP,cP⟩:=I.hok P _ hT;refine I.step (h':=h') (g':=s.gens) (d':=s.drawn) (ch:=[]) (λ_ z=>nomatch z) (λb o _ _ _ e n=>hx b o (Hh b n) e) (λb o _ _ _ e n=>⟨o.slots,hx b o (Hh b n) e⟩) (λb o _ e n=>by rw[old b (Hh b n) (uz b o e)];exact n) (λb o _ e=>?_)
  (λb xs q=>oldS b _ q λz=>by rw[z,hT] at q;cases q) (λb o u q=>oldS b _ q λz=>by rw[z,hT] at q;cases q) (λb qs e=>?_) (λm hm=>hm.extBut hx (Hh _ I.free)) (λb o e=>?_) I.bare
 .by_cases hb:b=P
  .subst hb;exact⟨_,hP⟩
  .exact⟨o,hx b o hb e⟩
 .by_cases hb:b=P
  .subst hb;rw[hT] at e;cases e;exact⟨_,by rw[bN hPc,dU]⟩
  .exact⟨#[],by rw[oldS b _ e hb];simp⟩
 .obtain⟨c2,oc,vs,t,ec,hoc,hod,hv⟩:=hrec;cases ec;by_cases h1:b=c'
  .subst h1;rw[dU] at e;cases e;exact⟨_,hoc⟩
  .rw[bN h1] at e;by_cases h2:b=P
   .subst h2;rw[dU] at e;cases e;refine⟨hP,by rw[Array.toList_append];exact TriplesOk_snoc _ _ _ _ tP,λpos cv q=>?_⟩;rw[Array.toList_append] at q;rcases zjq _ tP q with q|q
    .obtain⟨c3,q3,oc3,vs3,t3,e1,e2,e3,e4⟩:=cP pos cv q;have n3:c3≠b:=λz=>by rw[z,hT] at e2;cases e2
     exact⟨c3,q3,oc3,vs3,t3,e1,oldS _ _ e2 n3,hx _ _ n3 e3,e4⟩
    .exact⟨c',_,oc,vs,t,q,dU,hoc,hod,hv⟩
   .rw[bN h2] at e;refine(I.hok b o e).stay (λx u hxb g=>hx x u ?_ g) (λx g=>oldS x _ g λz=>by rw[z,hT] at g;cases g) λx xs g=>oldS x _ g λz=>by rw[z,hT] at g;cases g
    rcases hxb with z|z
    .rw[z];exact h2
    .intro y;rw[y,hT] at z;cases z
end
section
variable {X:Cx}{pins:List (Addr×Obj)}{σ:L2.St}{H:Hp}{s:Shared}{params:Arguments}{body:Expr}{scope:Scope}{aX:Pos}{clos:List (Str×Addr)}{c P:Addr}{ps:Array Value}{R:Value->Shared->Prop}
structure Made(X:Cx)(pins:List (Addr×Obj))(σ:L2.St)(H:Hp)(s:Shared)(params:Arguments)(body:Expr)(scope:Scope)(clos:List (Str×Addr))(P:Addr)(aX:Pos)(a:Addr)(s':Shared)(H':Hp):Prop where
 inv:Inv X pins σ H' s'
 same:dH H H'
 keep:∀b o,s.heap.get? b=some o->H b=none->s'.heap.get? b=some o/\H' b=none
 no:H' a=none
 new:s.heap.objs.size<=a
 obj:∃pm cdv ctv,s'.heap.get? a=some { cls := .type "function",data := .func (kla_fn "<lambda>" (X.env.qual ++ "<lambda>") params body scope clos pm cdv ctv) }/\∃ps,H' P=some (.tbl ps)/\codeAmong aX ps.toList=some cdv
theorem Uc(I:Inv X pins σ H s)(hT:H P=some (.tbl ps))(hcode:X.env.code = .ref c)(C:CodeHd X.base c P)(B:BM X.base X.mg)(hcl:closureFor scope X.env=pure clos)(hdef:defaultsOf params X.env=([],[]))(h:∀a s' H',Made X pins σ H s params body scope clos P aX a s' H'->R (.ref a) s'):wpAny (model X.prog X.w) X.A (eval (.Lambda params body scope aX) X.env) R X.xe s:=by
 refine kla_eval hdef ?_;obtain⟨eP,tP,cP⟩:=I.hok P _ hT;have hg:s.heap.Ns mainGlobals X.mg:=I.mod.glob.keeps I.bk;have hgP:mainGlobals≠P:=λz=>by obtain⟨o,es,ep,e,hd,_⟩:=I.mod.glob;have:=(I.bs _ _ e).2;rw[z,hT] at this;cases this
 obtain⟨bm,ob,b1,b2,b3,b4,b5,b6⟩:=B;have hbP:bm≠P:=λz=>by have:=(I.bs _ _ b3).2;rw[z,hT] at this;cases this
 have hbG:bm≠mainGlobals:=λz=>by obtain⟨o,es,ep,e,hd,_⟩:=I.mod.glob;rw[z,e] at b3;cases b3;rw[hd] at b6;cases b6
 have hb:s.heap.BuiltinsAt X.mg P:=⟨bm,ob,b1,b2,hbG,hbP,I.bk _ _ b3,b4,b5,b6⟩
 have fnew:∀{h':Heap} {o:Obj} {b:Addr},H b=none->True:=λ_=>trivial;cases hn:codeAmong aX ps.toList with
 |none =>
  refine kla_makeFunction (mg:=X.mg) hcl I.ok.glob hg hcode (C.keeps I.bk) eP tP hn hgP hb λc' ctv h' tk hx hge hlt hrec htb=>?_;have I1:=zkO I (t':=tk) hT hx hge hrec htb;have I2:=Ua I1 (h':=h'.push (kla_obj "<lambda>" (X.env.qual ++ "<lambda>") params body scope clos ((X.mg "__name__").getD .none) c' ctv)) (t':=tk) λb o e=>cX _ e;have hc:H c'=none:=I.hok.fresh hge;refine h h'.objs.size _ _ ⟨I2,⟨λb o e ne=>?_,λb qs e=>?_⟩,λb o e n=>⟨cX _ (hx b o (λz=>by rw[z,hT] at n;cases n) e),?_⟩,?_,?_,?_⟩
  .rw[bN (fD e hc),bN (λz=>ne ps (by rw[z,hT] at e;cases e;rfl))];exact e
  .rw[bN (fD e hc)];by_cases hb:b=P
   .subst hb;exact⟨_,dU⟩
   .rw[bN hb];exact⟨_,e⟩
  .have hlt':=cg e;rw[bN (dh (dg hlt' hge)),bN (λz=>by rw[z,hT] at n;cases n)];exact n
  .rw[bN (Nat.ne_of_gt hlt),bN (λz=>by
    have:=cg htb;rw[<-z] at this;exact absurd this (gO _))]
   refine I.hok.fresh (uW (DX hge hlt))
  .exact uW (DX hge hlt)
  .exact⟨_,_,ctv,gB _ rfl,_,by rw[bN (fD hT hc),dU],by rw[Array.toList_append];exact codeAmong_snoc _ tP hn⟩
 |some cv =>
  obtain⟨c',q,oc,vs,t,rfl,e2,e3,e4,e5⟩:=cP aX cv hn;refine kla_makeFunctionHit (mg:=X.mg) hcl I.ok.glob hg hcode (C.keeps I.bk) eP tP hn hb λctv h' tk hk hsz=>?_;have I2:=Ua I (h':=h'.push { cls := .type "function",data := .func (kla_fn "<lambda>" (X.env.qual ++ "<lambda>") params body scope clos ((X.mg "__name__").getD .none) (.ref c') ctv) }) (t':=tk) λb o e=>cX _ (hk b o e);refine h h'.objs.size _ _ ⟨I2,⟨λb o e _=>e,λb qs e=>⟨qs,e⟩⟩,λb o e n=>⟨cX _ (hk b o e),n⟩,I.hok.fresh hsz,hsz,?_⟩;exact⟨_,_,ctv,gB _ rfl,ps,hT,hn⟩
end
noncomputable def qz(env:Env)(y:Str×NameKind):Option (Str×Addr):=if(y.2==NameKind.free)=true then(env.cells.lookup y.1).map λc=>(y.1,c) else none
noncomputable def mW(env:Env)(names:List (Str×NameKind)):List (Str×Addr):=(names.filterMap (qz env)).reverse
theorem V2{env:Env}:∀(names:List (Str×NameKind)) (acc:List (Str×Addr)),(∀y∈names,y.2 = .free->∃c,env.cells.lookup y.1=some c) ->
 (forIn names acc (fun(x:Str×NameKind) (cs:List (Str×Addr))=>do if(x.2==NameKind.free)=true then let c <-cellOf env x.1;pure (ForInStep.yield ((x.1,c)::cs)) else pure (ForInStep.yield cs)):Sem (List (Str×Addr)))
  = pure (mW env names++acc)
 |[],acc,_=>by simp[mW]
 |y::r,acc,h=>by
  have ih:=V2 (env:=env) r;rw[List.forIn_cons];unfold mW at *
  rw[List.filterMap_cons];by_cases hk:(y.2==NameKind.free)=true
  .obtain⟨c,hc⟩:=h y (fX ..) (by simpa using hk);have hcell:cellOf env y.1=pure c:=by unfold cellOf;rw[hc]
   have hG:qz env y=some (y.1,c):=by unfold qz;rw[if_pos hk,hc];rfl
   simp only[if_pos hk,hcell,pure_bind];rw[ih _ (λz hz=>h z (cG _ hz)),hG];simp
  .have hG:qz env y=none:=by unfold qz;rw[if_neg hk]
   simp only[if_neg hk,pure_bind];rw[ih _ (λz hz=>h z (cG _ hz)),hG]
theorem V3(h:∀y∈scope.names,y.2 = .free->∃c,env.cells.lookup y.1=some c):
 closureFor scope env=pure (mW env scope.names):=by
 unfold closureFor;have:=V2 (env:=env) scope.names [] h;rw[List.append_nil] at this;simpa using this
theorem zjp{y:Str×NameKind}{q:Str×Addr}(e:qz env y=some q):y.2 = .free/\q.1=y.1/\env.cells.lookup y.1=some q.2:=by
 unfold qz at e;split at e
 .rename_i hk;simp only[aR] at e;obtain⟨c,h1,rfl⟩:=e;exact⟨by simpa using hk,rfl,h1⟩
 .cases e
def VF{q:Str×Addr}:q∈mW env names↔∃y∈names,qz env y=some q:=by unfold mW;rw[List.mem_reverse,List.mem_filterMap]
theorem zjf{α:Type}{l:List (Str×α)}{v:α}(h:(x,v)∈l):∃u,l.lookup x=some u:=by
 induction l with
 |nil=>cases h
 |cons q r ih =>
  obtain⟨k,w⟩:=q;by_cases hk:x=k
  .subst hk;exact⟨w,by simp[List.lookup]⟩
  .rcases List.mem_cons.mp h with e|e
   .cases e;exact absurd rfl hk
   .obtain⟨u,hu⟩:=ih e;refine⟨u,?_⟩;rw[iT];have:(x==k)=false:=by simpa using hk
    rw[this];exact hu
theorem Be{c:Addr}(h:(mW env names).lookup x=some c):env.cells.lookup x=some c/\(x,NameKind.free)∈names:=by obtain⟨y,hy,e⟩:=VF.mp (gP h);obtain⟨h1,h2,h3⟩:=zjp e;obtain⟨y1,y2⟩:=y;simp only at h1 h2 h3;subst h1 h2;exact⟨h3,hy⟩
theorem VD{c:Addr}(h:(x,NameKind.free)∈names)(hc:env.cells.lookup x=some c):(mW env names).lookup x=some c:=by have:(x,c)∈mW env names:=VF.mpr ⟨_,h,by unfold qz;simp[hc]⟩;obtain⟨u,hu⟩:=zjf this;have:=(Be hu).1;rw[hc] at this;rw[hu,<-this]
noncomputable def m8(h:Heap)(H:Hp)(l:List Env):Heap:=hideAll h (zj h H++frs l)
theorem K4{b:Addr}(e:h.get? b=some o)(n:H b=none)(hf:b∉frs l):(m8 h H l).get? b=some o :=
 hideAll_get _ e λhm=>by
  rcases lO.mp hm with z|z
  .have q:(H b).isSome=true:=(List.mem_filter.mp z).2;rw[n] at q;simp at q
  .exact hf z
theorem Vq{b:Addr}(e:(m8 h H l).get? b=some o):h.get? b=some o/\H b=none:=by
 have e':h.get? b=some o:=of_hideAll _ e;refine⟨e',?_⟩;cases q:H b with
 |none=>rfl
 |some x =>
  have hm:b∈zj h H++frs l:=List.mem_append_left _ (List.mem_filter.mpr ⟨List.mem_range.mpr (cg e'),by simp[q]⟩);have z:(m8 h H l).get? b=none:=hideAll_none _ hm;rw[z] at e;cases e
theorem Lg{h base base':Heap}:∀{l:List Env},h.FunFrames base l->(∀b∈frs l,base'.get? b=none)->h.FunFrames base' l
 |[],_,_=>trivial
 |env::r,hl,hb=>by
  obtain⟨h1,⟨L,o,h2,_,h3,h4⟩,h5⟩:=hl;refine⟨h1,⟨L,o,h2,hb L ?_,h3,h4⟩,Lg h5 λb q=>hb b ?_⟩
  .unfold frs;rw[List.filterMap_cons,h2];exact fX ..
  .unfold frs at *;rw[List.filterMap_cons,h2];exact cG _ q
def zku{base':Heap}(M:Mod K mg base)(k:∀b o,base.get? b=some o->base'.get? b=some o):Mod K mg base' :=
 ⟨M.kin.keeps k,M.glob.keeps k,let ⟨mb,h1,h2⟩:=M.blt;⟨mb,h1.keeps k,h2⟩,M.nolimit.keeps k⟩
theorem Vc{σ:L2.St}(I:Inv X pins σ H s):iu X.prog X.w X.K X.mg (m8 s.heap H X.stack) X.A X.stack s H/\∀b o,X.base.get? b=some o->(m8 s.heap H X.stack).get? b=some o:=by
 have kb:∀b o,X.base.get? b=some o->(m8 s.heap H X.stack).get? b=some o:=λb o e =>
  K4 (I.bs b o e).1 (I.bs b o e).2 λz=>by have:=(I.stack.mem z).1;rw[e] at this;cases this
 refine⟨⟨I.ok.frames,zku I.mod kb,λb o e=>Vq e,by unfold m8;rw[hideAll_size];exact bZ _,Lg I.stack λb hb=>hideAll_none _ (List.mem_append_right _ hb),I.stkFree,I.hok,I.bare⟩,kb⟩
structure Hx(base:Heap)(qual:Str)(params:Arguments)(body:Expr)(scope:Scope)(clos:List (Str×Addr))(cap:List Str)(cF:List V)(a:Addr)(cdv:Value):Prop where
 obj:∃pm ctv,base.get? a=some { cls := .type "function",data := .func (kla_fn "<lambda>" (qual ++ "<lambda>") params body scope clos pm cdv ctv) }
 has:∀y,(y,NameKind.free)∈scope.names->∃c,clos.lookup y=some c
 inj:∀y z c,clos.lookup y=some c->clos.lookup z=some c->y=z
 cells:∀y c,clos.lookup y=some c->∃v,base.IsCell c v
 cap:∀(i:Nat) y v,cap[i]?=some y->cF[i]?=some v->(y,NameKind.free)∈scope.names/\∃c u,clos.lookup y=some c/\base.IsCell c (some u)/\RelV v u
section
variable {K:FgA}{H H':Hp}{α:List Addr}
mutual
def D.no:D->Bool
 |.tup xs=>wz xs
 |.obj _ _ _=>false
 |.ref _=>false
 |_=>true
def wz:List D->Bool
 |[]=>true
 |d::ds=>D.no d&&wz ds
end
mutual
theorem Rep.monoT{H H':Hp}{α α':List Addr}(t:d8 H H'):∀{d:D} {v:V},Rep K H α d v->D.no d=true->Rep K H' α' d v
 |_,_,.non,_ => .non
 |_,_,.bl b,_ => .bl b
 |_,_,.int i,_ => .int i
 |_,_,.str x,_ => .str x
 |_,_,.tup h r,b => .tup (by
  rcases h with(h|⟨o,h⟩)|h
  .exact .inl (.inl (t.tups _ _ h))
  .exact .inl (.inr ⟨o,t.frzs _ _ _ h⟩)
  .exact .inr h) (aB.monoT t r (by rw[D.no] at b;exact b))
 |_,_,.ref h,b=>by rw[D.no] at b;cases b
 |_,_,.ty n,_ => .ty n
 |_,_,.adr a,_ => .adr a
 |_,_,.obj _ _ _ _ _,b=>by rw[D.no] at b;cases b
theorem aB.monoT{H H':Hp}{α α':List Addr}(t:d8 H H'):∀{ds:List D} {vs:List V},aB K H α ds vs->wz ds=true->aB K H' α' ds vs
 |_,_,.nil,_ => .nil
 |_,_,.cons h r,b=>by rw[wz,cL] at b;exact .cons (Rep.monoT t h b.1) (aB.monoT t r b.2)
end
def d8.refl:d8 H H:=⟨λ_ _ h=>h,λ_ _ h=>⟨#[],by rw[h];simp⟩,λ_ _ _ h=>h⟩
theorem dH.ext(t:dH H H'):Ext K H α H' α:=⟨λa vs h=>by
 rcases h with(h|⟨o,h⟩)|h
 .exact .inl (.inl (t.1 _ _ h λ_ z=>by cases z))
 .exact .inl (.inr ⟨o,t.1 _ _ h λ_ z=>by cases z⟩)
 .exact .inr h,λ_ _ q=>q,λ_ _ _ _ _ q=>t.1 _ _ q λ_ z=>by cases z⟩
theorem dH.store(t:dH H H')(s:aq K H α S):aq K H' α S:=⟨s.len,s.nd,λn o a h1 h2=>by
 have ob:=s.obj n o a h1 h2;cases o with
 |lst ds=>obtain⟨vs,e,r⟩:=ob;exact⟨vs,t.1 _ _ e (λ_ z=>by cases z),r.mono t.ext⟩
 |frz ds =>
  obtain⟨vs,e,r⟩:=ob;refine⟨vs,?_,r.mono t.ext⟩;rcases e with⟨ob,e⟩|e
  .exact .inl ⟨ob,t.1 _ _ e λ_ z=>by cases z⟩
  .exact .inr e
 |ins C fs=>obtain⟨dx,gs,e,h,r⟩:=ob;exact⟨dx,gs,t.1 _ _ e (λ_ z=>by cases z),h,r.mono t.ext⟩
 |dct xs=>obtain⟨ys,e,r⟩:=ob;exact⟨ys,t.1 _ _ e (λ_ z=>by cases z),r.mono (dH.ext (α:=α) t).tups⟩
 |tbl x=>obtain⟨h0,ps,e⟩:=ob;obtain⟨qs,e'⟩:=t.2 _ _ e;exact⟨h0,qs,e'⟩⟩
end
noncomputable def DY(P:Program)(w:World)(K:FgA)(mg:Str->Option Value)(base:Heap)(k:Nat)(a:Addr)(R:Hp->Prop)(ψ:GN):Prop :=
 ∃fd q sp,bO P w K mg base fV k a fd [q] sp/\base.get? a=some { cls := .type "function",data := .func fd }/\(∀(s:Shared) (u:Value),BindsTo s fd ⟨[u],[]⟩ [(q,u)])/\∀vs H Q,R H->vs.length=1->jt K ψ vs H Q->sp vs H Q E0
def DG(X:Cx)(a:Addr)(ψ:GN):Prop:=∃R k,DY X.prog X.w X.K X.mg X.base k a R ψ/\aU k X.A/\∀H,d8 X.H₀ H->R H
noncomputable def spH(K:FgA)(R:Hp->Prop)(a:Addr)(ψ:GN)(G:Addr->GN->GN):Sp:=λvs H Q _=>∃v1,vs=[v1,.ref a]/\R H/\∃S α d1 z S',aq K H α S/\Rep K H α d1 v1/\G a ψ [d1,.adr a] S=some (z,S')/\Kt K H α z S' Q
noncomputable def DP(P:Program)(w:World)(K:FgA)(mg:Str->Option Value)(base:Heap)(k:Nat)(f:Addr)(fd:FuncData)(ps:List Str)(G:Addr->GN->GN):Prop :=
 ∀(a:Addr) (R:Hp->Prop) (ψ:GN),(∀H H',d8 H H'->R H->R H')->DY P w K mg base k a R ψ->bO P w K mg base fV (k+1) f fd ps (spH K R a ψ G)
noncomputable def u5:List Nat->Sg->Option (List D)
 |[],_=>some []
 |j::r,σ=>match σ[j]? with
  |some (some d)=>(u5 r σ).map λds=>d::ds
  |_=>none
noncomputable def lamF(fb:EF)(dz:List D):GN:=λds S=>match ds with
 |[d]=>fb (some d::dz.map some) S
 |_=>none
theorem Kd{K:FgA}{H:Hp}{α:List Addr}{σd:Sg}{σ:L2.St}(hv:bD K H α σd σ):∀{src:List Nat} {dz:List D},u5 src σd=some dz->∃cF:List V,aB K H α dz cF/\src.length=cF.length/\∀(i j:Nat),src[i]?=some j->∃v,σ[j]?=some (some v)/\cF[i]?=some v
 |[],dz,e=>by cases e;exact⟨[],.nil,rfl,λi j h=>by simp at h⟩
 |j::r,dz,e=>by
  unfold u5 at e;split at e
  .rename_i d ed;simp only[aR] at e;obtain⟨ds,e1,rfl⟩:=e;obtain⟨cF,h1,h2,h3⟩:=Kd hv e1;obtain⟨v,k1,k2⟩:=hv.2 j d ed;refine⟨v::cF,.cons k2 h1,by simp[h2],λi j' hi=>?_⟩;cases i with
   |zero=>simp at hi;subst hi;exact⟨v,k1,rfl⟩
   |succ i=>simpa using h3 i j' (by simpa using hi)
  .cases e
structure vd(X:Cx)(P c:Addr):Prop where
 fn:∀y,X.fn y=true
 tab:∃ps,X.H₀ P=some (.tbl ps)
 code:X.env.code = .ref c
 hd:CodeHd X.base c P
 bm:BM X.base X.mg
section
variable {X:Cx}{pins:List (Addr×Obj)}{σ:L2.St}{H1 H':Hp}{s1 s':Shared}{params:Arguments}{body:Expr}{scope:Scope}{aX:Pos}{P:Addr}{cap:List Str}{cF:List V}{a:Addr}
theorem Ud(I1:Inv X pins σ H1 s1)(M:Made X pins σ H1 s1 params body scope (mW X.env scope.names) P aX a s' H')(hcap:∀y∈cap,(y,NameKind.free)∈scope.names)(hfree:∀y∈scope.names,y.2 = .free->X.env.kindOf y.1=some .cell)(hfn:∀y,X.fn y=true)(hsl:∀(i:Nat) y,cap[i]?=some y->∃(j:Nat) (v:V),X.N[j]?=some y/\σ[j]?=some (some v)/\cF[i]?=some v):
 ∃cdv,Hx (m8 s'.heap H' X.stack) X.env.qual params body scope (mW X.env scope.names) cap cF a cdv/\∃ps,H' P=some (.tbl ps)/\codeAmong aX ps.toList=some cdv:=by
 obtain⟨pm,cdv,ctv,ho,wK⟩:=M.obj;have I2:=M.inv;have hcells:∀y∈scope.names,y.2 = .free->∃c,X.env.cells.lookup y.1=some c:=λy hy e=>I1.ok.has y.1 (.inl (hfree y hy e));have CJ:∀b,s1.heap.objs.size<=b->b∉frs X.stack:=λb hb z=>by obtain⟨_,o,ho,_⟩:=I1.stack.mem z;exact absurd (dg (cg ho) hb) (gO _)
 have w6:∀y c,X.env.cells.lookup y=some c->c∉frs X.stack:=λy c ec z=>by
  rcases List.mem_cons.mp (I2.stkSub c z) with q|q
  .exact I2.cne y c ec q
  .obtain⟨_,o,ho,_⟩:=I2.ok.funs.mem q;exact absurd (dg (cg ho) (I2.ok.cab y c (hfn y) ec)) (gO _)
 have uK:∀y c v,X.env.cells.lookup y=some c->s'.heap.IsCell c v->(m8 s'.heap H' X.stack).IsCell c v:=λy c v ec ⟨o,h1,h2⟩=>⟨o,K4 h1 (I2.freeC y c ec) (w6 y c ec),h2⟩
 refine⟨cdv,⟨⟨pm,ctv,K4 ho M.no (CJ a M.new)⟩,λy hy=>?_,λy z c h1 h2=>I2.ok.inj y z c (Be h1).1 (Be h2).1,λy c h1=>?_,λi y v h1 h2=>?_⟩,wK⟩
 .obtain⟨c,hc⟩:=hcells _ hy rfl;exact⟨c,VD hy hc⟩
 .obtain⟨v,hv⟩:=I2.cell y c (Be h1).1;exact⟨v,uK y c v (Be h1).1 hv⟩
 .have hy:=hcap y (List.mem_of_getElem? h1);obtain⟨j,v',k1,k2,k3⟩:=hsl i y h1;rw[h2] at k3;cases k3;have hkind:=hfree _ hy rfl;obtain⟨m,_,hloc⟩:=I2.loc;obtain⟨u,ru,l⟩:=hloc j y v k1 k2 (.inr (.inl hkind));refine⟨hy,?_⟩;rcases l with⟨l1,_⟩|⟨_,c,l2,l3⟩
  .have l1':X.env.kindOf y=some .local:=l1;have hk':X.env.kindOf y=some .cell:=hkind;rw[hk'] at l1';cases l1'
  .exact⟨c,u,VD hy l2,uK y c _ l2 l3,ru⟩
end
theorem zq7{P:Program}{o:HO}(x:bJ P w H h a o):∃ob,h.get? a=some ob:=by
 cases o with
 |lst xs=>obtain⟨_,_,_,_,e⟩:=x;exact⟨_,e⟩
 |tup xs=>obtain⟨_,_,_,ob,e,_⟩:=x;exact⟨_,e⟩
 |dK kvs=>obtain⟨_,_,_,_,o,_,_,e,_⟩:=x;exact⟨_,e⟩
 |dT kvs=>obtain⟨_,_,_,_,o,_,_,e,_⟩:=x;exact⟨_,e⟩
 |set S n=>obtain⟨o,_,_,_,e,_⟩:=x;exact⟨_,e⟩
 |ins C dx fs=>obtain⟨_,_,_,e,_⟩:=x;exact⟨_,e⟩
 |own y=>exact x
 |xd fs=>obtain⟨_,⟨_,_,_,e,_⟩,_⟩:=x;exact⟨_,e⟩
 |rng lo hi=>obtain⟨_,_,_,e⟩:=x;exact⟨_,e⟩
 |frz ob u=>exact⟨_,x.1⟩
 |tbl ps=>exact⟨_,x.1⟩
 |met f y=>exact⟨_,x⟩
 |ext φ=>exact x.2.1
structure mL(P:Program)(w:World)(l:List Env)(H:Hp)(s:Shared)(a C:Addr)(B:Heap)(H':Hp)(s':Shared):Prop where
 os:s'.os=s.os
 bare:AllBare s'.gens
 un:Un (frs l) [] H H' s.heap s'.heap
 hok:fJ P w H' s'.heap
 fl:∃t,Heap.FlyingW B l a (.ref C) (.ref t) s'.heap
 tr:∀b u,H' b=some u->∃o,B.get? b=some o
 inB:∀b o,s.heap.get? b=some o->b∉frs l->∃o',B.get? b=some o'
noncomputable def mO(P:Program)(w:World):mQ:=λl H s E e s'=>∃(a C:Addr) (B:Heap) (H':Hp),e = .ref a/\mL P w l H s a C B H' s'/\E (.ref C) none H'
theorem QJ{P:Program}(ok:fJ P w H h)(k:B.StaysIn h)(k':B.StaysIn h')(tr:∀b u,H b=some u->∃o,B.get? b=some o):fJ P w H h':=λb o e =>
 (ok b o e).stay (λc u hc q=>by
  have:∃v,H c=some v:=by
   rcases hc with rfl|hc
   .exact⟨_,e⟩
   .exact⟨_,hc⟩
  obtain⟨v,hv⟩:=this;obtain⟨o',ho⟩:=tr c v hv;have:=k _ _ ho;rw[q] at this;cases this;exact k' _ _ ho) (λ_ q=>q) λ_ _ q=>q
section
variable {X:Cx}{pins:List (Addr×Obj)}{σ:L2.St}{H:Hp}{s:Shared}{M:Model}{A:Around}{E:XK}{R:Unit->Shared->Prop}{E₂:Value->Shared->Prop}
def T6{L:Addr}(h:env.frame=some L):frs (env::l)=L::frs l:=by unfold frs;rw[List.filterMap_cons,h]
theorem Sd(I:Inv X pins σ H s)(hex:X.ex=[]){h₂:Heap}{s₂:Shared}(hos:s₂.os=s.os)(hb:AllBare s₂.gens)(hu:Un (X.env.locals::X.fs) [] H H' s.heap h₂)(hok:fJ X.prog X.w H' h₂)(hB:B.StaysIn h₂)(tr:∀b u,H' b=some u->∃o,B.get? b=some o)(inB:∀b o,s.heap.get? b=some o->b∉X.env.locals::X.fs->∃o',B.get? b=some o')(fl:∃t,Heap.FlyingW B X.outer a (.ref C) (.ref t) h')(up:h₂.UpToSlots h'):mL X.prog X.w X.outer X.H₀ X.s₀ a C B H' { s₂ with heap:=h' }:=by
 have Dp:=fl;obtain⟨t,f1,f2,f3,f4⟩:=fl;have hx:∀b:Addr,b∉X.ex:=λb=>by rw[hex];simp
 have hl:∀b o,X.s₀.heap.get? b=some o->b≠X.env.locals:=λb o e z=>absurd (dg (cg e) (z ▸ I.ok.above)) (gO _);have nb:∀b:Addr,b∉([]:List Addr):=λb=>by simp
 have keep:∀b o,X.s₀.heap.get? b=some o->X.H₀ b=none->b∉X.fs->h'.get? b=some o:=λb o e n hf=>by
  have e1:=I.base.keep b o e n hf (hx b);have n1:=I.base.free b o e n (hx b);have hm:b∉X.env.locals::X.fs:=by simp[hl b o e,hf]
  have e2:=hu.keep b o e1 n1 hm (nb b);obtain⟨o',e3⟩:=inB b o e1 hm;have:=hB _ _ e3;rw[e2] at this;cases this;exact f1 _ _ e3
 have slot:∀b o,X.s₀.heap.get? b=some o->X.H₀ b=none->b∈X.fs->∃sl,h'.get? b=some { o with slots:=sl }:=λb o e n hf=>by obtain⟨sl,e1⟩:=I.base.slot b o e n hf (hx b);have n1:=I.base.free b o e n (hx b);obtain⟨sl2,e2⟩:=hu.slot b _ e1 n1 (cG _ hf) (nb b);obtain⟨_,o',e3,nf⟩:=I.ok.funs.mem hf;rw[e] at e3;cases e3;obtain⟨G9,e4⟩:=up b _ e2 nf;exact⟨G9,e4⟩
 refine⟨hos.trans I.os,hb,⟨λb o e n hf _=>keep b o e n hf,λb o e n hf _=>slot b o e n hf,λb o e n _=>?_,λb o e _=>?_,λb xs q=>hu.tups b xs (I.base.tups b xs q),λb o u q=>hu.frzs b o u (I.base.frzs b o u q),λb ps q=>?_⟩,QJ hok hB f1 tr,Dp,tr,λb o e hf=>?_⟩
 .obtain⟨o1,e1⟩:=I.base.there b o e (hx b);exact hu.free b o1 e1 (I.base.free b o e n (hx b)) (nb b)
 .by_cases hf:b∈X.fs
  .exact let ⟨sl,e1⟩:=slot b o e (I.ok.frf b hf) hf;⟨_,e1⟩
  .obtain⟨o1,e1⟩:=I.base.there b o e (hx b);obtain⟨o2,e2⟩:=inB b o1 e1 (by simp[hl b o e,hf]);exact⟨o2,f1 _ _ e2⟩
 .obtain⟨m1,e1⟩:=I.base.tbls b ps q;obtain⟨m2,e2⟩:=hu.tbls b _ e1;exact⟨m1++m2,by rw[e2,Array.append_assoc]⟩
 .obtain⟨o1,e1⟩:=I.base.there b o e (hx b);exact inB b o1 e1 (by simp[hl b o e];exact hf)
theorem Ue(I:Inv X pins σ H s)(hex:X.ex=[])(hst:X.stack=X.env::X.outer)(hfr:X.env.frame=some X.env.locals)(hA:A.frames=some X.stack){h₂:Heap}{e:Addr}{args:List Value}(hm:Heap.MadeExcOf s.heap h₂ e (.ref C) args)(k:∀B h',mL X.prog X.w X.outer X.H₀ X.s₀ e C B H { s with heap:=h' }->R () { s with heap:=h' }):wpAny M A (leaving X.env (.ref e)) R E₂ { s with heap:=h₂ }:=by
 have hfs:frs X.stack=X.env.locals::X.fs:=by rw[hst,T6 hfr]
 have hin:∀env∈X.stack,∀b,env.frame=some b->b∈frs X.stack:=λenv he b hb=>List.mem_filterMap.mpr ⟨env,he,hb⟩;have fr:=funFrames_hide I.stack hin;rw[hst] at fr hA;refine wpAny_leaves_madeW (s:={ s with heap:=h₂ }) hA hfr (λb o q=>of_hideAll _ q) fr hm λh' t x1 x2 x3 x4=>k (hideAll s.heap (frs (X.env::X.outer))) h' ?_;refine Sd (s₂:=s) I hex rfl I.bare Un.refl I.hok (λb o q=>of_hideAll _ q) (λb u q=>?_) (λb o q hf=>?_) ⟨t,x1⟩ ((Heap.UpToSlots.of_keeps hm.keeps).trans x4)
 .obtain⟨o,ho⟩:=zq7 (I.hok b u q);refine⟨o,hideAll_get _ ho λz=>?_⟩;have:=I.stkFree b (by rw[hst];exact z);rw[q] at this;cases this
 .refine⟨o,hideAll_get _ q λz=>hf ?_⟩;rw[<-hfs,hst];exact z
theorem Uk(I:Inv X pins σ H s)(hex:X.ex=[])(hst:X.stack=X.env::X.outer)(hfr:X.env.frame=some X.env.locals)(hA:A.frames=some X.stack){s':Shared}(F:mL X.prog X.w X.stack H s a C B H' s')(k:∀h',mL X.prog X.w X.outer X.H₀ X.s₀ a C B H' { s' with heap:=h' }->R () { s' with heap:=h' }):wpAny M A (leaving X.env (.ref a)) R E₂ s':=by
 have hfs:frs X.stack=X.env.locals::X.fs:=by rw[hst,T6 hfr]
 obtain⟨t,fl⟩:=F.fl;rw[hst] at fl hA;refine wpAny_leaves_onW hA hfr fl λh' x1 x2=>k h' ?_;refine Sd (s₂:=s') I hex F.os F.bare (by rw[<-hfs];exact F.un) F.hok fl.1 F.tr (by rw[<-hfs];exact F.inB) ⟨t,x1⟩ x2
structure sJ(X:Cx)(E:XK):Prop where
 made:∀(pins:List (Addr×Obj)) (σ:L2.St) (H:Hp) (s:Shared) (h₂:Heap) (e C:Addr) (args:List Value),Inv X pins σ H s->Heap.MadeExcOf s.heap h₂ e (.ref C) args->E (.ref C) none H->X.xe (.ref e) { s with heap:=h₂ }
 pass:sZ (mO X.prog X.w) X E
end
theorem znu{P:Program}{E:XK}:
 sJ (jR (mO P w) P w K mg base N qual scope f cd A outer s H E) E:=by
 refine⟨λpins σ H1 s1 h₂ e C args I hm he=>?_,λpins σ H1 s1 e s2 I h=>?_⟩
 .exact Ue I rfl rfl rfl I.ok.frames hm λB h' F=>⟨e,C,B,H1,rfl,F,he⟩
 .obtain⟨a,C,B,H',rfl,F,he⟩:=h;exact Uk I rfl rfl rfl I.ok.frames F λh' F'=>⟨a,C,B,H',rfl,F',he⟩
noncomputable abbrev oY(P:Program)(w:World)(K:FgA)(mg:Str->Option Value)(base:Heap)(N:List Str)(qual:Str)(scope:Scope)(f:Addr)(cd:Value)(cl:List (Str×Addr))(A:Around)(outer:List Env)(s:Shared)(H:Hp)(E:XK):Cx :=
 (pZ P w K mg base N qual scope f cd cl A outer s H E).wish λe s'=>wpAny (model P w) (A.deeper (envX qual scope s.heap.objs.size f cd cl)) (leaving (envX qual scope s.heap.objs.size f cd cl) e) (λ_ s''=>mO P w outer H s E e s'') (λe' s''=>mO P w outer H s E e' s'') s'
theorem zpM{P:Program}{E:XK}:
 sJ (oY P w K mg base N qual scope f cd cl A outer s H E) E:=by
 refine⟨λpins σ H1 s1 h₂ e C args I hm he=>?_,λpins σ H1 s1 e s2 I h=>?_⟩
 .exact Ue I rfl rfl rfl I.ok.frames hm λB h' F=>⟨e,C,B,H1,rfl,F,he⟩
 .obtain⟨a,C,B,H',rfl,F,he⟩:=h;exact Uk I rfl rfl rfl I.ok.frames F λh' F'=>⟨a,C,B,H',rfl,F',he⟩
end MX
end
section
namespace MX
open PySem PySem.Spec PyProof.Rows L2
noncomputable def uY(f:Str)(v:D):List (Str×D)->List (Str×D)
 |[]=>[(f,v)]
 | (g,x)::r=>if g=f then(g,v)::r else(g,x)::uY f v r
section
variable {K:FgA}{H:Hp}{α:List Addr}
inductive cD(K:FgA)(H:Hp)(α:List Addr):List (Str×D)->List (Str×V)->Prop
 |nil:cD K H α [] []
 |cons {f:Str} {d:D} {v:V} {fs:List (Str×D)} {gs:List (Str×V)} (h:Rep K H α d v) (r:cD K H α fs gs):cD K H α ((f,d)::fs) ((f,v)::gs)
theorem cD.of:∀{fs:List (Str×D)} {gs:List (Str×V)},fs.map (·.1)=gs.map (·.1)->aB K H α (fs.map (·.2)) (gs.map (·.2))->cD K H α fs gs
 |[],[],_,_ => .nil
 |[],_::_,e,_=>by cases e
 |_::_,[],e,_=>by cases e
 | (f,d)::fs,(g,v)::gs,e,r=>by
   injection e with e1 e2;cases e1;cases r with
   |cons a b=>exact .cons a (cD.of e2 b)
def cD.keys:∀{fs:List (Str×D)} {gs:List (Str×V)},cD K H α fs gs->fs.map (·.1)=gs.map (·.1)
 |_,_,.nil=>rfl
 |_,_,.cons _ r=>by simp only[iU,r.keys]
def cD.reps:∀{fs:List (Str×D)} {gs:List (Str×V)},cD K H α fs gs->aB K H α (fs.map (·.2)) (gs.map (·.2))
 |_,_,.nil => .nil
 |_,_,.cons h r => .cons h r.reps
theorem cD.look{f:Str}{d:D}:∀{fs:List (Str×D)} {gs:List (Str×V)},cD K H α fs gs->fs.lookup f=some d->∃v,gs.lookup f=some v/\Rep K H α d v
 |_,_,.nil,h=>by cases h
 |_,_,@cD.cons _ _ _ g d' v' fs gs h r,e=>by
  rw[iT] at e ⊢;by_cases q:(f==g)=true
  .rw[q] at e ⊢;simp only at e ⊢;cases e;exact⟨_,rfl,h⟩
  .have q:(f==g)=false:=by simpa using q
   rw[q] at e ⊢;exact r.look e
theorem cD.lookN{f:Str}:∀{fs:List (Str×D)} {gs:List (Str×V)},cD K H α fs gs->fs.lookup f=none->gs.lookup f=none
 |_,_,.nil,h=>rfl
 |_,_,@cD.cons _ _ _ g d' v' fs gs h r,e=>by
  rw[iT] at e ⊢;by_cases q:(f==g)=true
  .rw[q] at e;cases e
  .have q:(f==g)=false:=by simpa using q
   rw[q] at e ⊢;exact r.lookN e
theorem cD.put{f:Str}{d:D}{v:V}(h0:Rep K H α d v):∀{fs:List (Str×D)} {gs:List (Str×V)},cD K H α fs gs->cD K H α (uY f d fs) (jf f v gs)
 |_,_,.nil => .cons h0 .nil
 |_,_,@cD.cons _ _ _ g d' v' fs gs h r=>by
  unfold uY jf;by_cases q:g=f
  .rw[if_pos q,if_pos q];exact .cons h0 r
  .rw[if_neg q,if_neg q];exact .cons h (r.put h0)
def cD.len{fs:List (Str×D)}{gs:List (Str×V)}(r:cD K H α fs gs):fs.length=gs.length:=by have:=congrArg List.length r.keys;simpa using this
end
noncomputable def gw(C f:Str)(fe:EF):EF:=λσ S=>(fe σ S).bind λr=>match r.1 with
 |.ref n=>match r.2[n]? with
  |some (.ins C' fs)=>if C'=C then(fs.lookup f).map λd=>(d,r.2) else none
  |_=>none
 |.obj C' ks xs=>if C'=C/\ks.length=xs.length then((ks.zip xs).lookup f).map λd=>(d,r.2) else none
 |_=>none
noncomputable def nY(C f:Str)(fo fv:EF):SF:=λσ S=>(fv σ S).bind λr=>(fo σ r.2).bind λq=>match q.1 with
 |.ref n=>match q.2[n]? with
  |some (.ins C' fs)=>if C'=C/\fs.length<3 then some (.nx,σ,q.2.set n (.ins C (uY f r.1 fs))) else none
  |_=>none
 |_=>none
noncomputable def jy(C m:Str)(n:Nat)(φ:GN)(fo:EF)(fa:AF):EF:=λσ S=>(fo σ S).bind λr=>match r.1 with
 |.ref j=>match r.2[j]? with
  |some (.ins C' fs)=>if C'=C/\fs.lookup m=none then(fa σ r.2).bind λq=>aO n φ (.ref j::q.1) q.2 else none
  |_=>none
 |_=>none
noncomputable def mG(C:Str)(n:Nat)(S:So):D×So:=match S[n]? with
 |some (.ins C' fs)=>if C'=C/\3<=fs.length/\S.length=n+1/\cI n (fs.map (·.2))=true/\(S.take n).all (O.lo n)=true then(.obj C (fs.map (·.1)) (fs.map (·.2)),S.take n) else(.ref n,S)
 |_=>(.ref n,S)
noncomputable def oX(C:Str)(n:Nat)(φ:GN)(fa:AF):EF:=λσ S=>(fa σ S).bind λr=>(aO n φ (.ref r.2.length::r.1) (r.2++[.ins C []])).bind λq=>match q.1 with
 |.non=>some (mG C r.2.length q.2)
 |_=>none
structure Hz(X:Cx)(C f:Str):Prop where
 cls:jc X.K (cu X.K C)
 no:dX X.K (cu X.K C) f
def Iu(X:Cx)(C m:Str)(n:Nat)(φ:GN):Prop:=∃f fd ps k,jc X.K (cu X.K C)/\sI X.K (cu X.K C) m f/\Binds X.K fd ps []/\bO X.prog X.w X.K X.mg X.base fV k f fd ps (sV X.K n φ)/\aU k X.A
def uO(X:Cx)(C:Str)(n:Nat)(φ:GN):Prop:=∃f fd ps k,X.mg C=some (.ref (cu X.K C))/\Mk X.K (cu X.K C) f/\Binds X.K fd ps []/\bO X.prog X.w X.K X.mg X.base fV k f fd ps (sV X.K n φ)/\aU (k+1) X.A
section
variable {X:Cx}{C f m:Str}{e o:Expr}{es:List Expr}{fe fo fv:EF}{fa:AF}{n:Nat}{φ:GN}{pos pos' apos p:Pos}
theorem zqE(ok:Hz X C f)(he:SE X e fe)(hb:attributeBase e f X.env (eval e X.env)=eval e X.env):SE X (.Attribute e f pos) (gw C f fe):=by
 refine PE.imp (Z8 he hb) λσ H Q h=>?_;obtain⟨σd,S,α,z,S',hv,hs,hf,k⟩:=h;unfold gw at hf;simp only[aW] at hf;obtain⟨⟨d,S1⟩,e1,e2⟩:=hf;refine⟨σd,S,α,d,S1,hv,hs,e1,λv H1 α1 s1 x1 r1=>?_⟩;simp only at e2;split at e2
 .rename_i j;split at e2
  .rename_i C' fs q;split at e2
   .rename_i hC;subst hC;simp only[aR] at e2;obtain⟨d',l,e3⟩:=e2;cases e3;cases r1 with
    |ref ha =>
     obtain⟨dx,gs,h1,h2,h3⟩:=s1.obj _ _ _ q ha;obtain⟨w,lw,fj⟩:=(cD.of h2 h3).look l;exact⟨_,_,dx,gs,w,rfl,h1,ok.cls,ok.no,lw,(k.trans x1).same s1 fj⟩
   .cases e2
  .cases e2
 .rename_i C' ks xs;split at e2
  .rename_i hC;obtain⟨rfl,hl⟩:=hC;simp only[aR] at e2;obtain⟨d',l,e3⟩:=e2;cases e3;cases r1 with
   |@obj a C dx gs ks ds vs h1 h2 h3 h4 h5 =>
    have z1:(ks.zip xs).map (·.1)=gs.map (·.1):=by rw[List.map_fst_zip (Nat.le_of_eq hl),h3]
    have z2:aB X.K H1 α1 ((ks.zip xs).map (·.2)) (gs.map (·.2)):=by rw[List.map_snd_zip (Nat.le_of_eq hl.symm),h4];exact h5
    obtain⟨w,lw,fj⟩:=(cD.of z1 z2).look l;exact⟨_,_,dx,gs,w,rfl,h1,ok.cls,ok.no,lw,(k.trans x1).same s1 fj⟩
  .cases e2
 .cases e2
theorem Z2(ok:Hz X C f)(ho:SE X o fo)(hv:SE X e fv)(hs:swapsWith e (some (.Attribute o f pos')) pos.line X.env=pure false):SS X (.Assign [.Attribute o f pos'] e pos) (nY C f fo fv):=by
 refine PS.imp (zqN ho hv hs) λD σ H h=>?_;obtain⟨σd,S,α,fl,σd',S',Pn,hss,hf,k⟩:=h;unfold nY at hf;simp only[aW] at hf;obtain⟨⟨d,S1⟩,e1,⟨d2,S2⟩,e2,e3⟩:=hf;refine⟨σd,S,α,d,S1,Pn,hss,e1,λv H1 α1 s1 x1 r1=>⟨σd,S1,α1,d2,S2,Pn.mono x1,s1,e2,λv2 H2 α2 s2 x2 r2=>?_⟩⟩;simp only at e3;split at e3
 .split at e3
  .rename_i C' fs q;split at e3
   .rename_i hC;obtain⟨rfl,hl⟩:=hC;cases e3;cases r2 with
    |ref ha =>
     obtain⟨dx,gs,h1,h2,h3⟩:=s2.obj _ _ _ q ha;have R:=cD.of h2 h3;refine⟨_,_,dx,gs,rfl,h1,ok.cls,ok.no,by rw[<-R.len];exact Nat.lt_trans hl (by decide),?_⟩;obtain⟨s3,x3⟩:=s2.put' (o := .ins C' (uY f d fs)) (u := .ins (cu X.K C') dx (jf f v gs)) q rfl rfl ha h1 (λ_ z=>by cases z) (λ_ _ z=>by cases z) (λc dy hs l z=>by cases z;rw[<-R.len] at l;omega) λx=>by
      have R2:=(cD.put (f:=f) (r1.mono x2) R)
      exact⟨dx,_,dU,R2.keys,R2.reps.mono x⟩
     exact k _ _ _ (((Pn.mono x1).mono x2).mono x3) s3 ((x1.trans x2).trans x3)
   .cases e3
  .cases e3
 .cases e3
theorem Lb{args:List Expr}(hbase:attributeBase o m env (eval o env)=eval o env)(hfew:((backTo pos (starEach args env)).all (λx => !x.1)&&(backToKw pos (keywordEach [] env)).all (λx=>x.1.isSome)&&decide (args.length+([]:List Keyword).length+(if([]:List Keyword).isEmpty then 0 else 1)<30))=true)(hline:(apos.endLine==pos.line)=true):eval (.Call (.Attribute o m apos) args [] pos) env=(do
  let ov <-eval o env
  standAt apos.atName
  let (f,first) <-holding [ov] (getMethod ov m (do return(<-importBound o env).getD true))
  callWith pos f first (backTo pos (starEach args env)) (backToKw pos (keywordEach [] env))):=by
 have hform:methodCallForm (args.length+([]:List Keyword).length) (backTo pos (starEach args env)) (backToKw pos (keywordEach [] env))=true:=by have h:=hfew;rw[<-h];rfl
 have hpos:methodCallPos true o env apos pos=pure pos:=by unfold methodCallPos;simp[hline]
 rw[arm_eval_Call,hbase];unfold methodCall;rw[hform,hpos];rfl
theorem Zw(R:Iu X C m n φ)(ho:SE X o fo)(ha:SA X (e::es) fa)(hbase:attributeBase o m X.env (eval o X.env)=eval o X.env)(hfew:((backTo pos (starEach (e::es) X.env)).all (λx => !x.1)&&(backToKw pos (keywordEach [] X.env)).all (λx=>x.1.isSome)&&decide ((e::es).length+([]:List Keyword).length+(if([]:List Keyword).isEmpty then 0 else 1)<30))=true)(hline:(apos.endLine==pos.line)=true)(hst:starEach (e::es) X.env=(false,eval e X.env)::starEach es X.env)(hpl:(backTo pos (starEach es X.env)).any (·.1)=false):
 SE X (.Call (.Attribute o m apos) (e::es) [] pos) (jy C m n φ fo fa):=by
 obtain⟨f,fd,ps,kk,c,hm,hb,F,hr⟩:=R;refine PE.imp (R9 ho c hm F hr hb .nil Eg ha hst hpl (Lb hbase hfew hline)) λσ H Q h=>?_;obtain⟨σd,S,α,z,S',hv,hs,hf,k⟩:=h;unfold jy at hf;simp only[aW] at hf;obtain⟨⟨d,S1⟩,e1,e2⟩:=hf;refine⟨σd,S,α,d,S1,hv,hs,e1,λv H1 α1 s1 x1 r1=>?_⟩;simp only at e2;split at e2
 .split at e2
  .rename_i C' fs q;split at e2
   .rename_i hC;obtain⟨rfl,hl⟩:=hC;simp only[aW] at e2;obtain⟨⟨ds,S2⟩,e3,e4⟩:=e2;unfold aO at e4;split at e4
    .rename_i hn;cases r1 with
     |ref ha =>
      obtain⟨dx,gs,h1,h2,h3⟩:=s1.obj _ _ _ q ha;refine⟨_,dx,gs,rfl,h1,(cD.of h2 h3).lookN hl,σd,S1,α1,ds,S2,hv.mono x1,s1,e3,λvs H2 α2 s2 x2 r2=>?_⟩;show sV _ _ _ (_::(vs++[])) _ _ _;rw[List.append_nil];exact⟨by rw[<-hn,jd,jd,r2.length],S2,α2,_,z,S',s2,.cons (.ref (x2.pre _ _ ha)) r2,e4,k.trans (x1.trans x2)⟩
    .cases e4
   .cases e2
  .cases e2
 .cases e2
theorem zof(R:Iu X C m n φ)(ho:SE X o fo)(hbase:attributeBase o m X.env (eval o X.env)=eval o X.env)(hline:(apos.endLine==pos.line)=true):
 SE X (.Call (.Attribute o m apos) [] [] pos) (jy C m n φ fo au):=by
 obtain⟨f,fd,ps,kk,c,hm,hb,F,hr⟩:=R;refine PE.imp (zme ho c hm F hr hb .nil Eg (Lb hbase rfl hline)) λσ H Q h=>?_;obtain⟨σd,S,α,z,S',hv,hs,hf,k⟩:=h;unfold jy at hf;simp only[aW] at hf;obtain⟨⟨d,S1⟩,e1,e2⟩:=hf;refine⟨σd,S,α,d,S1,hv,hs,e1,λv H1 α1 s1 x1 r1=>?_⟩;simp only at e2;split at e2
 .split at e2
  .rename_i C' fs q;split at e2
   .rename_i hC;obtain⟨rfl,hl⟩:=hC;simp only[aW] at e2;obtain⟨⟨ds,S2⟩,e3,e4⟩:=e2;cases e3;unfold aO at e4;split at e4
    .rename_i hn;cases r1 with
     |ref ha =>
      obtain⟨dx,gs,h1,h2,h3⟩:=s1.obj _ _ _ q ha;refine⟨_,dx,gs,rfl,h1,(cD.of h2 h3).lookN hl,?_⟩;exact⟨by rw[<-hn];rfl,_,α1,_,z,S',s1,.cons (.ref ha) .nil,e4,k.trans x1⟩
    .cases e4
   .cases e2
  .cases e2
 .cases e2
theorem YS(R:uO X C n φ)(hg:Gl X C)(ha:SA X (e::es) fa)(hdb:(C==("__debug__" : Str))=false)(hst:starEach (e::es) X.env=(false,eval e X.env)::starEach es X.env)(hpl:(backTo pos (starEach es X.env)).any (·.1)=false):
 SE X (.Call (.Name C p) (e::es) [] pos) (oX C n φ fa):=by
 obtain⟨f,fd,ps,kk,hm,M,hb,F,hr⟩:=R;refine PE.imp (zoy M F hr hg hm hb .nil Eg ha hdb hst hpl) λσ H Q h=>?_;obtain⟨σd,S,α,z,S',hv,hs,hf,k⟩:=h;unfold oX at hf;simp only[aW] at hf;obtain⟨⟨ds,S1⟩,e1,⟨d2,S2⟩,e2,e3⟩:=hf;refine⟨σd,S,α,ds,S1,hv,hs,e1,λvs H1 α1 s1 x1 r1=>λx dx hx hdx hne=>?_⟩;simp only at e2 e3;split at e3
 .have e4:=Option.some.inj e3;unfold aO at e2;split at e2
  .rename_i hn;have sa:Same H1 (upd H1 dx (.own x)):=lE hdx;have hx2:upd H1 dx (.own x) x=none:=by rw[bN (Ne.symm hne)];exact hx
   obtain⟨s2,x2⟩:=(s1.mono sa).snoc (p:=x) (o := .ins C []) (u := .ins (cu X.K C) dx []) hx2 λα' e=>⟨dx,[],dU,rfl,.nil⟩
   have lx:(α1++[x])[S1.length]?=some x:=by rw[<-s1.len];simp
   have x12:Ext X.K H1 α1 (upd (upd H1 dx (.own x)) x (.ins (cu X.K C) dx [])) (α1++[x]):=(Same.ext sa).trans x2;rw[List.append_nil];refine⟨by rw[<-hn,jd,jd,r1.length],_,α1++[x],_,.non,_,s2,.cons (.ref lx) (r1.mono x12),e2,λw H3 α3 s3 x3 r3=>?_⟩;cases r3;refine⟨rfl,?_⟩;have l3:=x3.pre _ _ lx;have usual:(D.ref S1.length,S2)=(z,S')->Q (.ref x) H3:=λq=>by cases q;exact k _ _ _ s3 ((x1.trans x12).trans x3) (.ref l3)
   unfold mG at e4;split at e4
   .rename_i C' fs q;split at e4
    .rename_i hq;obtain⟨rfl,q1,q2,q3,q4⟩:=hq;cases e4;obtain⟨dx3,gs,g1,g2,g3⟩:=s3.obj _ _ _ q l3;have gl:3<=gs.length:=by have:=congrArg List.length g2;simp only[cZ] at this;omega
     have s4:=s3.cut S1.length (λo ho=>List.all_eq_true.mp q4 o ho);have xx:=x12.trans x3;exact k _ _ _ s4 (x1.trans ⟨xx.tups,λi b q=>by
      have hi:=(eV.mp q).1;rw[s1.len] at hi;rw[List.getElem?_take_of_lt hi];exact xx.pre i b q,xx.insts⟩) (.obj g1 gl g2.symm rfl (g3.cut _ q3))
    .exact usual e4
   .exact usual e4
  .cases e2
 .cases e3
end
noncomputable def Ite(K:FgA)(a:Addr):It :=
 ⟨λi H=>∃vs v,cQ K H a vs/\vs[i]?=some v,
  λi H x H'=>∃p v,x = .ref p/\H p=none/\H'=upd H p (.tup [.int (i:Nat),v])/\∀vs,cQ K H a vs->vs[i]?=some v,
  λi H=>∃vs,cQ K H a vs/\vs.length<=i⟩
theorem zo5(h:α[n]?=some a):zE K H α (.enm n) (Ite K a):=λi H1 α1 S1 x1 s1=>by
 have h1:=x1.pre _ _ h;unfold dj;cases hm:S1[n]? with
 |none=>simp only[hm];exact⟨λe=>(nomatch e),λd e=>(nomatch e)⟩
 |some o =>
  have hob:=s1.obj _ _ _ hm h1;cases o with
  |lst ds =>
   simp only[hm];obtain⟨vs,q,r⟩:=hob;refine⟨λe=>?_,λd e=>?_⟩
   .have e':ds[i]?=none:=by simpa using e
    exact⟨vs,cQ.of q,by rw[<-r.length];exact List.getElem?_eq_none_iff.mp e'⟩
   .have e':(ds[i]?).map (λx=>D.tup [.int (i:Nat),x])=some d:=by simpa using e
    simp only[aR] at e';obtain⟨x,e2,rfl⟩:=e';obtain⟨v,e1,rv⟩:=r.get e2;refine⟨⟨vs,v,cQ.of q,e1⟩,λx H' y=>?_⟩;obtain⟨p,v',rfl,hp,rfl,hy⟩:=y;have:=hy vs (cQ.of q);rw[e1] at this;cases this;exact⟨lE hp,.tup (dG.of dU) (.cons (.int _) (.cons (rv.mono (Same.ext (lE hp))) .nil))⟩
  |_=>simp only[hm];exact⟨λe=>(nomatch e),λd e=>(nomatch e)⟩
theorem zjz{P:Program}{tp:Pos}{e it l:Addr}(hei:e≠it):
 uV P w K (.Tuple es kk tp) (Ite K l) [e,it] e (λi h=>(∃old,IsEnum h e it (i:Nat) old)/\h.IsListIter it l i) where
 mem:=fX
 obj:=λi h ⟨⟨old,h1⟩,⟨o,h2,h3,h4⟩⟩ b hb=>by
  rcases List.mem_cons.mp hb with rfl|hb
  .exact⟨_,h1,λv z=>by cases z⟩
  .rw[List.mem_singleton.mp hb];exact⟨o,h2,λv z=>by rw[h4] at z;cases z⟩
 keep:=λi h h' ⟨⟨old,h1⟩,h2⟩ k=>⟨⟨old,k e (by simp) _ h1⟩,h2.at λo x=>k it (by simp) o x⟩
 item:=by
  intro X hP hw hK hc i pins s σ H E I hf st hg;subst hP hw hK;obtain⟨⟨old,he⟩,hit⟩:=st;obtain⟨vs,v,hS,hv⟩:=hg;obtain⟨its,rv,pl,hz⟩:=I.list hS;obtain⟨u,hu,ru⟩:=rv.get hv;refine wpAny_pyNext_enum_item he hit pl.isList (by simpa using hu) hei λh' ho hit' hT hsz hk=>?_;refine⟨_,rfl,wpAny_letOwnedTupleGo_enum (s:={ s with heap:=h',toks:=s.toks+1 }) ho λh'' he' hs'=>?_⟩;have helt:e<s.heap.objs.size:=cg he;have hilt:it<s.heap.objs.size:=by obtain⟨_,x,_⟩:=hit;exact cg x
  have kp:∀c o,c∉[e,it]->s.heap.get? c=some o->h''.get? c=some o:=λc o hc q=>by have c1:c≠e:=λz=>hc (by simp[z]);have c2:c≠it:=λz=>hc (by simp[z]);exact(hs'.2 c c1).trans (hk c o c1 c2 q)
  have hTe:s.heap.objs.size≠e:=Nat.ne_of_gt helt;have I1:Inv X pins σ (upd H s.heap.objs.size (.tup [.int (i:Nat),v])) { s with heap:=h'',toks:=s.toks+1 } :=
   MZ.Inv.turnedT (t':=s.toks+1) (iI:=[.int i s.toks,u]) I kp hf ((hs'.2 _ hTe).trans hT) (.cons ⟨_,rfl⟩ (.cons ru .nil)) (by show 2<=sizeLine;decide)
  refine⟨.ref s.heap.objs.size,_,I1,rfl,⟨s.heap.objs.size,v,rfl,I.hok.fresh (bZ _),rfl,λvs' h=>by rw[I.list_inj h hS];exact hv⟩,⟨⟨_,by simpa using he'⟩,hit'.at λo y=>(hs'.2 it hei.symm).trans y⟩,λb hb=>?_⟩;have hlt:b<s.heap.objs.size:=by
   rcases List.mem_cons.mp hb with rfl|hb
   .exact helt
   .rw[List.mem_singleton.mp hb];exact hilt
  rw[bN (dh hlt)];exact(hf b hb).1
 done:=by
  intro X hP hw hK hc i pins s σ H E I hf st hg;subst hP hw hK;obtain⟨⟨old,he⟩,hit⟩:=st;obtain⟨vs,hS,hlen⟩:=hg;obtain⟨its,rv,pl,hz⟩:=I.list hS;refine wpAny_pyNext_enum_end (I.ok.hd hc) he hit pl.isList (by simp;rw[<-rv.length];exact hlen) λh' hx=>⟨rfl,?_⟩
  exact MZ.Inv.turnedN (t':=s.toks) (ch:=[e,it]) I (λc o hc q=>hx c o (λz=>hc (by simp[z])) q) hf
 self:=λ_ _ _ _ _ st h=>by obtain⟨⟨old,he⟩,_⟩:=st;exact wpAny_pyIter_enum he h
def zlt:bootBuiltins "enumerate" = some (.type "enumerate"):=by decide +kernel
section
variable {X:Cx}
noncomputable def oN(fe:EF):IF:=λσ S=>(fe σ S).bind λr=>match r.1 with
 |.ref n=>match r.2[n]? with
  |some (.lst _)=>some (.enm n,r.2)
  |_=>none
 |_=>none
theorem ZL{ts:List Expr}{tp:Pos}{fe:EF}(hg:Gl X "enumerate")(hm:X.mg "enumerate" = none)(ha:SE X e fe)(hst:starEach [e] X.env=[(false,eval e X.env)]):
 SI X (.Tuple ts kk tp) (.Call (.Name "enumerate" p) [e] [] pos) (oN fe):=by
 intro pins s σ H R I h;obtain⟨σd,S,α,j,S',hv,hs,hf,k⟩:=h;unfold oN at hf;simp only[aW] at hf;obtain⟨⟨d,S1⟩,e1,e2⟩:=hf;simp only at e2;split at e2
 .rename_i n;split at e2
  .rename_i xs q;cases e2;have hst':starEach (e::[]) X.env=(false,eval e X.env)::starEach [] X.env:=hst;refine wpAny_Call_Name_kw (tH I hg hm zlt ?_ (by decide) (by decide));refine PyProof.Rows.callWith_type1 ?_ hst' rfl;rw[hst'];refine Calls.spliced_cons (bK (ha pins s σ H (λv H1=>∃α1,aq X.K H1 α1 S'/\Ext X.K H α H1 α1/\Rep X.K H1 α1 (.ref n) v) I ⟨σd,S,α,.ref n,S',hv,hs,e1,λw H1 α1 s1 x1 r1=>⟨α1,s1,x1,r1⟩⟩) λu1 s1 ⟨v1,H1,I1,r1,α1,st1,x1,Ou⟩=>?_);refine Calls.spliced_nil ?_;cases Ou with
   |@ref _ l hl =>
    cases r1;obtain⟨ws,hw,rws⟩:=st1.obj _ _ _ q hl;obtain⟨its,rv,pl,hz⟩:=I1.list (cQ.of (K:=X.K) hw);refine call_enumerate_list pl.isList λh' he hit hsz hk=>?_;have I2:Inv X pins σ H1 { s1 with heap:=h' }:=I1.kept (t':=s1.toks) hk;refine wpAny_pyIter_enum (s:={ s1 with heap:=h' }) he ?_;refine⟨_,_,_,_,H1,rfl,I2,zjz (K:=X.K) (l:=l) (e:=s1.heap.objs.size+1) (it:=s1.heap.objs.size) (Nat.succ_ne_self _),⟨⟨_,he⟩,hit⟩,λb hb=>?_,k _ _ _ st1 x1 (zo5 hl)⟩;have hge:s1.heap.objs.size<=b:=by
     rcases List.mem_cons.mp hb with rfl|hb
     .omega
     .rw[List.mem_singleton.mp hb];exact bZ _
    exact I1.fpOk hge (I1.hok.fresh hge)
  .cases e2
 .cases e2
end
noncomputable def yh:GM
 |.ref n,[.int k],S=>match S[n]? with
  |some (.lst xs)=>(mY xs).bind λns=>if k∈ns then some (.int (ns.idxOf k:Nat),S) else none
  |_=>none
 |_,_,_=>none
theorem zhA{l:Addr}{vs:List Value}{k:Int}{t:Tok}(hl:s.heap.IsList l vs.toArray)(hi:IntsAre vs ns)(hb:ns.length<=sizeLine)(hk:k∈ns)(h:Q (.int (ns.idxOf k:Nat) s.toks) { s with toks:=s.toks+1 }):
 wpAny (model prog w) A (call (.builtin "list.index") [.ref l,.int k t]) Q E s:=by
 obtain⟨⟨cls,dd,data,sl⟩,ho,hc,n,hd⟩:=id hl;simp only at hc hd;subst hc hd;have hlen:=hi.length;have hj:ns.idxOf k<ns.length:=List.idxOf_lt_length_iff.mpr hk;rw[sizeLine_eq] at hb;refine call_meets PySem.F.slot_list_index ⟨_,ho,rfl⟩ PySem.F.entry_list_index (PySem.F.args_list_index_2 _ _)
  (PySem.SeqAt.list_indexAt l vs.toArray n dd sl (.int k t) (isInt k) (ns.idxOf k) (by simpa[hlen] using hj) (by omega) ?_ ?_) ⟨ho,λy hy=>(eq_isInt k t hi y (by simpa using hy)).at _ _,h⟩
 .show isInt k vs[ns.idxOf k]=true;rw[isInt_at k hi _ (by omega) hj];simpa using List.getElem_idxOf hj
 .intro j hjs hlt;show isInt k vs[j]=false;rw[isInt_at k hi j (by simpa using hjs) (by omega)];exact ne_of_lt_idxOf hlt _
theorem zmk:o6 X "list.index" (v9 X.K yh):=by
 intro pins s σ H v vs vv us Q I rv rs h;obtain⟨S,α,d,ds,z,S',hs,r,rr,hg,k⟩:=h;unfold yh at hg;split at hg
 .cases r with
  |ref ha =>
   split at hg
   .rename_i xs e;simp only[aW] at hg;obtain⟨ns,e1,e2⟩:=hg;split at e2
    .rename_i hk;cases e2;obtain⟨w,rfl,fj⟩:=rr.inv1;cases fj;cases rv;obtain⟨u,rfl,ru⟩:=rs.one;obtain⟨t,rfl⟩:=ru;obtain⟨ws,q,rws⟩:=hs.obj _ _ _ e ha;obtain⟨hz,its,n0,v8,hl,ho⟩:=I.lstM q;have hi:=yL rws v8 e1;refine zhA (vs:=its) ⟨_,ho,rfl,n0,rfl⟩ hi (by rw[<-hi.length,<-hl];exact hz) hk ?_;exact⟨.int _,H,I.tok _,⟨_,rfl⟩,k.same hs (.int _)⟩
    .cases e2
   .cases hg
 .cases hg
section
variable {X:Cx}{e:Expr}{es:List Expr}{fa:AF}{x:Str}{apos cpos p:Pos}{j:Option String}
theorem zog{t:Tok}(hg:Gl X x)(hm:X.mg x=some (.str y t))(hdb:(x==("__debug__" : Str))=false):SE X (.Name x p) (eC (.str y)):=by intro pins s σ H Q I h;obtain⟨σd,S,α,z,S',hv,hs,hf,k⟩:=h;cases hf;exact tR I hg hm ⟨.str y,H,I,⟨_,rfl⟩,k.same hs (.str _)⟩ hdb
end
structure Ctx where
 N:List Str
 names:List (Str×NameKind)
 sts:List Str
 fns:List (Str×Nat×GN)
 blt:List Str
 lf:Option (Str×Addr×GN):=none
 hof:List (Str×Str×(Addr->GN->GN)):=[]
 ext:Str->List Expr->Option EF:=λ_ _=>none
 kwx:Str->List Expr->List Keyword->Option EF:=λ_ _ _=>none
 gls:List (Str×Str):=[]
 flds:List (Str×Str):=[]
 mths:List (Str×Str×Nat×GN):=[]
 mks:List (Str×Nat×GN):=[]
noncomputable def FnAt(P:Program)(w:World)(K:FgA)(mg:Str->Option Value)(base:Heap)(k:Nat)(x:Str)(n:Nat)(φ:GN):Prop :=
 ∃f fd ps,mg x=some (.ref f)/\PySem.W.keepIn K (.ref f)=true/\Binds K fd ps []/\bO P w K mg base fV k f fd ps (sV K n φ)
noncomputable def zT(q:Str)(ap:Pos):Arguments:={ posonlyargs:=[],args:=[{ arg:=q,annotation:=none,pos:=ap }],vararg:=none,kwonlyargs:=[],kw_defaults:=[],kwarg:=none,defaults:=[] }
def zoU{q:Str}{ap:Pos}(env:Env):defaultsOf (zT q ap) env=([],[]):=rfl
noncomputable def xP(c:Ctx)(X:Cx)(x q:Str)(G:Addr->GN->GN):Prop:=∃f fd p1 p2 k Pt ct,vd X Pt ct/\X.mg x=some (.ref f)/\PySem.W.keepIn X.K (.ref f)=true/\Binds X.K fd [p1,p2] []/\aU (k+2) X.A /\
 (∀(ap:Pos) (body:Expr) (scope:Scope) (pm cdv ctv:Value) (clos:List (Str×Addr)) (qual:Str) (u:Value),bindArgs (PySem.W.kla_fn "<lambda>" qual (zT q ap) body scope clos pm cdv ctv) ⟨[u],[]⟩=pure [(q,u)]) /\
 (∀base:Heap,Mod X.K X.mg base->(∀b o,X.base.get? b=some o->base.get? b=some o)->DP X.prog X.w X.K X.mg base (k+1) f fd [p1,p2] G) /\
 ∀base:Heap,Mod X.K X.mg base->(∀b o,X.base.get? b=some o->base.get? b=some o)->∀y n ψ,c.fns.lookup y=some (n,ψ)->FnAt X.prog X.w X.K X.mg base k y n ψ
structure d9(c:Ctx)(X:Cx):Prop where
 N:X.N=c.N
 nd:c.N.Nodup
 names:X.env.scope.names=c.names
 kind:X.env.scope.kind = .function
 st:∀x∈c.sts,Loc X.env.scope x/\(X.fn x=true\/X.env.scope.names.lookup x=some .local)
 fns:∀x k φ,c.fns.lookup x=some (k,φ)->uP X x k φ
 blt:∀x∈c.blt,X.mg x=none
 calm:X.calm=true
 un:X.A.units+64<cLine
 lf:∀x a ψ,c.lf=some (x,a,ψ)->DG X a ψ
 hof:∀x q G,c.hof.lookup x=some (q,G)->xP c X x q G
 ext:∀x es f p pos,c.ext x es=some f->SE X (.Call (.Name x p) es [] pos) f
 kwx:∀x es ks f p pos,c.kwx x es ks=some f->SE X (.Call (.Name x p) es ks pos) f
 gls:∀x y,c.gls.lookup x=some y->∃t,X.mg x=some (.str y t)
 flds:∀f C,c.flds.lookup f=some C->Hz X C f
 mths:∀m C n φ,c.mths.lookup m=some (C,n,φ)->Iu X C m n φ
 mks:∀C n φ,c.mks.lookup C=some (n,φ)->uO X C n φ
noncomputable def jX:List Str->Str->Option Nat
 |[],_=>none
 |y::r,x=>if y=x then some 0 else(jX r x).map (·+1)
theorem vI:∀{N:List Str} {x:Str} {i:Nat},jX N x=some i->N[i]?=some x
 |[],_,_,h=>by cases h
 |y::r,x,i,h=>by
  unfold jX at h;split at h
  .rename_i e;cases h;rw[e];rfl
  .simp only[aR] at h;obtain⟨j,h1,rfl⟩:=h;simpa using vI h1
noncomputable def jB:Expr->Bool
 |.Starred _ _=>false
 |_=>true
theorem iy(h:jB e=true)(es:List Expr)(env:Env):starEach (e::es) env=(false,eval e env)::starEach es env:=by
 cases e with
 |Starred _ _=>cases h
 |_=>simp[starEach]
theorem qM(h:es.all jB=true)(pos:Pos)(env:Env):(backTo pos (starEach es env)).any (·.1)=false:=by
 induction es with
 |nil=>rfl
 |cons e r ih =>
  rw[kO,cL] at h;rw[iy h.1];show(false||(backTo pos (starEach r env)).any (·.1))=false;rw[ih h.2];rfl
theorem zlH(h:es.all jB=true)(pos:Pos)(env:Env):(backTo pos (starEach es env)).all (λx => !x.1)=true:=by
 induction es with
 |nil=>rfl
 |cons e r ih =>
  rw[kO,cL] at h;rw[iy h.1];show(!false&&(backTo pos (starEach r env)).all (λx => !x.1))=true;rw[ih h.2];rfl
noncomputable def Et:Expr->Bool
 |.Slice _ _ _ _=>false
 |_=>true
def zi4{b:Expr}(h:Et b=true):Ij b:=by
 intro o i;cases b with
 |Slice _ _ _ _=>cases h
 |_=>rfl
noncomputable def QB:Expr->Bool
 |.Name _ _=>true
 |.Call _ _ _ _=>true
 |.Subscript _ _ _=>true
 |.Constant _ _ _=>true
 |.BinOp _ _ _ _=>true
 |.List _ _=>true
 |.Tuple _ _ _=>true
 |.Attribute _ _ _=>true
 |.ListComp _ _ _ _=>true
 |_=>false
theorem zj6{a:Expr}(h:QB a=true)(env:Env)(whole:Sem Value):isTrue a env whole=(do let v <-whole;standAt a.pos;holding [v] (truthy v)):=by
 cases a with
 |Name _ _=>rfl
 |Call _ _ _ _=>rfl
 |Subscript _ _ _=>rfl
 |Constant _ _ _=>rfl
 |BinOp _ _ _ _=>rfl
 |List _ _=>rfl
 |Tuple _ _ _=>rfl
 |Attribute _ _ _=>rfl
 |ListComp _ _ _ _=>rfl
 |_=>cases h
noncomputable def zR:Expr->Bool
 |.Set _ _ _=>false
 |_=>true
def Vp(h:zR e=true)(env:Env)(x:Value):foldedSetIterable e env x=pure x:=by
 cases e with
 |Set _ _ _=>cases h
 |_=>rfl
noncomputable def qH:Expr->Bool
 |.ListComp _ _ _ _=>false
 |.SetComp _ _ _ _=>false
 |.DictComp _ _ _ _ _=>false
 |_=>true
theorem yW(h:qH e=true)(t:Option Expr)(l:Nat)(env:Env):swapsWith e t l env=pure false:=by
 cases e with
 |ListComp _ _ _ _=>cases h
 |SetComp _ _ _ _=>cases h
 |DictComp _ _ _ _ _=>cases h
 |_=>rfl
noncomputable def Io:Expr->Bool
 |.Tuple _ _ _=>false
 |_=>true
noncomputable def wD:Expr->Bool
 |.Tuple _ _ _=>true
 |.List _ _=>true
 |_=>false
theorem zja{t:Expr}(h:wD t=false)(e:Expr)(env:Env):swappedStores [t] e env=pure none:=by
 cases t with
 |Tuple _ _ _=>cases h
 |List _ _=>cases h
 |_=>rfl
theorem zi9(h:Io e=true)(ts:List Expr)(k:Nat)(p:Pos)(env:Env):swappedStores [.Tuple ts k p] e env=pure none:=by
 cases e with
 |Tuple _ _ _=>cases h
 |_=>rfl
noncomputable def xg:List (Str×String):=[("int", "int"),("bool", "bool"),("str", "str"),("tuple", "tuple"),("list", "list")]
theorem zlr{T:String}(h:xg.lookup x=some T):bootBuiltins x=some (.type T):=by have hm:=gP h;unfold xg at hm;simp only[List.mem_cons,qi,or_false,Prod.mk.injEq] at hm;rcases hm with⟨rfl,rfl⟩|⟨rfl,rfl⟩|⟨rfl,rfl⟩|⟨rfl,rfl⟩|⟨rfl,rfl⟩<;>decide +kernel
noncomputable def lX(x:Str):Bool:=(x==("__debug__" : Str))||(x==("__classdict__" : Str))||(x==("__name__" : Str))
def pH(h:lX x=false):(x==("__debug__" : Str))=false:=by unfold lX at h;rw[Bool.or_eq_false_iff,Bool.or_eq_false_iff] at h;exact h.1.1
def O5(h:lX x=false):(x==("__classdict__" : Str))=false:=by unfold lX at h;rw[Bool.or_eq_false_iff,Bool.or_eq_false_iff] at h;exact h.1.2
def wk(h:lX x=false):x≠("__name__" : Str):=by unfold lX at h;rw[Bool.or_eq_false_iff] at h;exact beq_eq_false_iff_ne.mp h.2
noncomputable def nmE(c:Ctx)(x:Str):Option EF:=if lX x=true then none else match c.names.lookup x with
 |some .local=>(jX c.N x).map aj
 |some .cell=>(jX c.N x).map aj
 |some .free=>(jX c.N x).map aj
 |some .globalImplicit=>if x∈c.blt then(xg.lookup x).map λT=>eC (.ty T) else(c.gls.lookup x).map λy=>eC (.str y)
 |_=>none
noncomputable def Qu:Const->Option EF
 |.int i=>some (eC (.int i))
 |.bool b=>some (eC (.bl b))
 |.none=>some (eC .non)
 |.str x=>some (eC (.str x))
 |_=>none
section
variable {c:Ctx}{X:Cx}
theorem ziW{f:EF}(ok:d9 c X)(h:nmE c x=some f):SE X (.Name x pos) f:=by
 unfold nmE at h;split at h
 .cases h
 .rename_i ho;have ho':lX x=false:=by simpa using ho
  have loc:∀(v:p7 X.env.scope x),(jX c.N x).map aj=some f->SE X (.Name x pos) f:=λv e=>by simp only[aR] at e;obtain⟨i,e1,rfl⟩:=e;exact ZF (by rw[ok.N];exact vI e1) v (pH ho') (O5 ho')
  split at h
  .rename_i e;exact loc (.inl (by rw[ok.names];exact e)) h
  .rename_i e;exact loc (.inr (.inl (by rw[ok.names];exact e))) h
  .rename_i e;exact loc (.inr (.inr (by rw[ok.names];exact e))) h
  .rename_i e;split at h
   .rename_i hb;simp only[aR] at h;obtain⟨T,e1,rfl⟩:=h;exact oF (R6 (show X.env.scope.names.lookup x=_ by rw[ok.names];exact e) (ok.blt x hb) (zlr e1) (v := .ty T) rfl (wk ho') (pH ho')) λ_ _ => .ty T
   .simp only[aR] at h;obtain⟨y,e1,rfl⟩:=h;obtain⟨t,ht⟩:=ok.gls x y e1;exact zog (show X.env.scope.names.lookup x=_ by rw[ok.names];exact e) ht (pH ho')
  .cases h
theorem zhh{k:Const}{f:EF}(h:Qu k=some f):SE X (.Constant k j pos) f:=by
 cases k with
 |int i=>cases h;exact zqD
 |bool b=>cases h;exact YL
 |none=>cases h;exact Zy
 |str x=>cases h;exact ZC
 |_=>cases h
end
noncomputable def Cg(cn names:List (Str×NameKind)):List (Str×NameKind):=names.map fun(n,k)=>if(k==NameKind.free&&true&&cn.lookup n==some .cell) then(n,NameKind.cell) else(n,k)
noncomputable def tG(names:List (Str×NameKind)):List Str:=(names.filter λy=>(y.2 == .local||y.2 == .cell)&&y.1 != (".0" : Str)).map (·.1)
noncomputable def zL(c:Ctx)(names:List (Str×NameKind)):List (Str×Nat):=names.filterMap λy=>if y.2==NameKind.free then(jX c.N y.1).map λi=>(y.1,i) else none
noncomputable def sX(c:Ctx)(names:List (Str×NameKind)):List Str:=tG names++(zL c names).map (·.1)
noncomputable def xZ(c:Ctx)(names:List (Str×NameKind)):List (Option Nat):=(tG names).map (λ_=>none)++(zL c names).map λp=>some p.2
noncomputable def Ec(c:Ctx)(names:List (Str×NameKind)):Ctx:={ N:=sX c names,names:=Cg c.names names,sts:=tG names,fns:=c.fns,blt:=c.blt,flds:=c.flds,mths:=c.mths,mks:=c.mks }
noncomputable def zN(c:Ctx)(scope:Scope):Bool:=decide (scope.kind = .function)&&scope.names.all (λy=>decide (scope.names.lookup y.1=some y.2)) &&
 scope.names.all (λy=>decide (y.2 = .free->(c.names.lookup y.1=some .cell\/c.names.lookup y.1=some .free)))&&decide (sX c scope.names).Nodup
section
variable {c:Ctx}{X:Cx}{scope:Scope}
theorem zmB{p:Str×Nat}(h:p∈zL c names):(p.1,NameKind.free)∈names/\jX c.N p.1=some p.2:=by
 unfold zL at h;obtain⟨y,hy,e⟩:=List.mem_filterMap.mp h;split at e
 .rename_i hk;simp only[aR] at e;obtain⟨i,e1,rfl⟩:=e;have:y.2=NameKind.free:=by simpa using hk
  refine⟨?_,e1⟩;rw[<-this];exact hy
 .cases e
theorem zoC(h:x∈tG names):(x,NameKind.local)∈names\/(x,NameKind.cell)∈names:=by
 unfold tG at h;obtain⟨y,hy,rfl⟩:=List.mem_map.mp h;obtain⟨h1,h2⟩:=List.mem_filter.mp hy;rw[cL,o8] at h2;obtain⟨y1,y2⟩:=y;rcases h2.1 with q|q
 .have:y2=NameKind.local:=by simpa using q
  subst this;exact .inl h1
 .have:y2=NameKind.cell:=by simpa using q
  subst this;exact .inr h1
theorem zpA(ok:d9 c X)(h:zN c scope=true):qw X scope (sX c scope.names) (xZ c scope.names):=by
 unfold zN at h;rw[cL,cL,cL] at h;obtain⟨⟨⟨h1,h2⟩,h3⟩,h4⟩:=h;rw[List.all_eq_true] at h2 h3;have u:∀y∈scope.names,scope.names.lookup y.1=some y.2:=λy hy=>of_decide_eq_true (h2 y hy);refine⟨of_decide_eq_true h1,u,λy hy e=>?_,by simp[xZ,sX],λj i x e1 e2=>?_⟩
 .have:=of_decide_eq_true (h3 y hy) e;show X.env.scope.names.lookup y.1=_\/X.env.scope.names.lookup y.1=_;rw[ok.names];exact this
 .unfold sX at e1;unfold xZ at e2;have hj:(tG scope.names).length<=j:=by
   refine Nat.le_of_not_lt λhlt=>?_;rw[mR (by simpa using hlt),gG] at e2;cases q:(tG scope.names)[j]? with
   |none=>rw[q] at e2;cases e2
   |some z=>rw[q] at e2;cases e2
  rw[zJ (by simpa using hj),gG,cZ] at e2;rw[zJ hj,gG] at e1;cases q:(zL c scope.names)[j - (tG scope.names).length]? with
  |none=>rw[q] at e2;cases e2
  |some p =>
   rw[q] at e1 e2;simp only[o9,Option.some.injEq] at e1 e2;obtain⟨m1,m2⟩:=zmB (List.mem_of_getElem? q);subst e1 e2;exact⟨by rw[ok.N];exact vI m2,u _ m1⟩
theorem zmO(ok:d9 c X)(h:zN c scope=true){Y:Cx}(hy:nZ X scope (sX c scope.names) Y):d9 (Ec c scope.names) Y:=by
 have h0:=h;unfold zN at h;rw[cL,cL,cL] at h;obtain⟨⟨⟨h1,h2⟩,h3⟩,h4⟩:=h;rw[List.all_eq_true] at h2;have u:∀y∈scope.names,scope.names.lookup y.1=some y.2:=λy hy=>of_decide_eq_true (h2 y hy);have hn:Y.env.scope.names=Cg c.names scope.names:=by
  rw[hy.sc];show List.map _ scope.names=List.map _ scope.names;refine List.map_congr_left λy _=>?_;obtain⟨n,k⟩:=y;have e1:(X.env.scope.kind == .function)=true:=by rw[ok.kind];rfl
  have e2:X.env.kindOf n=c.names.lookup n:=by show X.env.scope.names.lookup n=_;rw[ok.names]
  simp only[e1,e2]
 refine⟨hy.N,of_decide_eq_true h4,hn,by rw[hy.sc];exact of_decide_eq_true h1,λx hx=>?_,λx k φ e=>?_,λx hx=>by rw[hy.mg];exact ok.blt x hx,hy.calm.trans ok.calm,by rw[hy.A];exact ok.un,λ_ _ _ h=>(nomatch h),λ_ _ _ h=>(nomatch h),λ_ _ _ _ _ h=>(nomatch h),λ_ _ _ _ _ _ h=>(nomatch h),λ_ _ h=>(nomatch h),λf C e=>?_,λm C n φ e=>?_,λC n φ e=>?_⟩
 .have lk:∀k,k ≠ .free->scope.names.lookup x=some k->Y.env.scope.names.lookup x=some k:=λk hk e=>by
   rw[hy.sc];show(List.map _ scope.names).lookup x=_;rw[show(List.map _ scope.names).lookup x=_ from Ng,e];have hb:(k==NameKind.free)=false:=by simpa using hk
   show some (if(k==NameKind.free&&_&&_)=true then NameKind.cell else k)=some k;rw[hb];rfl
  rcases zoC hx with m|m
  .have e:=u _ m;exact⟨.inl (lk _ (by decide) e),.inr (lk _ (by decide) e)⟩
  .have e:=u _ m;exact⟨.inr (lk _ (by decide) e),.inl (hy.fn x e)⟩
 .obtain⟨f,fd,ps,kk,m1,m2,m3,m4,m5⟩:=ok.fns x k φ e;refine⟨f,fd,ps,kk,by rw[hy.mg];exact m1,by rw[hy.K];exact m2,by rw[hy.K];exact m3,?_,by rw[hy.A];exact m5⟩;rw[hy.prog,hy.w,hy.K,hy.mg,hy.base];exact m4
 .obtain⟨h1,h2⟩:=ok.flds f C e;exact⟨by rw[hy.K];exact h1,by rw[hy.K];exact h2⟩
 .obtain⟨f,fd,ps,kk,m1,m2,m3,m4,m5⟩:=ok.mths m C n φ e;refine⟨f,fd,ps,kk,by rw[hy.K];exact m1,by rw[hy.K];exact m2,by rw[hy.K];exact m3,?_,by rw[hy.A];exact m5⟩;rw[hy.prog,hy.w,hy.K,hy.mg,hy.base];exact m4
 .obtain⟨f,fd,ps,kk,m1,m2,m3,m4,m5⟩:=ok.mks C n φ e;refine⟨f,fd,ps,kk,by rw[hy.K,hy.mg];exact m1,by rw[hy.K];exact m2,by rw[hy.K];exact m3,?_,by rw[hy.A];exact m5⟩;rw[hy.prog,hy.w,hy.K,hy.mg,hy.base];exact m4
end
noncomputable def Ek(c:Ctx):Expr->Option GF
 |.Name x _=>if x∈c.sts then(jX c.N x).map aK else none
 |_=>none
noncomputable def El(c:Ctx):List Expr->Option nJ
 |[]=>some mX
 |e::r=>(Ek c e).bind λf=>(El c r).map λfr=>gA f fr
noncomputable def xY(c:Ctx):Expr->Option GF
 |.Name x p=>Ek c (.Name x p)
 |.Tuple es _ _=>(El c es).map λfr=>lJ es.length fr
 |_=>none
section
variable {c:Ctx}{X:Cx}
theorem Wx(ok:d9 c X){f:GF}(h:Ek c e=some f):SG X e f:=by
 cases e with
 |Name x p =>
  simp only[Ek] at h;split at h
  .rename_i hx;simp only[aR] at h;obtain⟨i,e1,rfl⟩:=h;obtain⟨h1,h2⟩:=ok.st x hx;exact zoa (by rw[ok.N];exact ok.nd) (by rw[ok.N];exact vI e1) h1 h2
  .cases h
 |_=>cases h
theorem Wy(ok:d9 c X):∀{es:List Expr} {f:nJ},El c es=some f->Dy X es f/\(assignEach es X.env).length=es.length/\(assignEach es X.env).findIdx? (·.1)=none
 |[],f,h=>by cases h;exact⟨zn9,rfl,rfl⟩
 |e::r,f,h=>by
  unfold El at h;simp only[aW,aR] at h;obtain⟨f1,e1,fr,e2,rfl⟩:=h;obtain⟨i1,i2,i3⟩:=Wy ok e2;have ea:assignEach (e::r) X.env=(false,assign e X.env)::assignEach r X.env:=by
   cases e with
   |Name x p=>rfl
   |_=>cases e1
  refine⟨zlW (Wx ok e1) i1 (by rw[ea];rfl),by rw[ea,jd,jd,i2],?_⟩;rw[ea,List.findIdx?_cons,i3];rfl
theorem Aq(ok:d9 c X){f:GF}(h:xY c e=some f):SG X e f:=by
 cases e with
 |Name x p=>exact Wx ok h
 |Tuple es k p =>
  unfold xY at h;simp only[aR] at h;obtain⟨fr,e1,rfl⟩:=h;obtain⟨i1,i2,i3⟩:=Wy ok e1;exact ZJ ok.calm i1 i2 i3
 |_=>cases h
end
noncomputable def Qw:EF:=λ_ _=>none
def zl0:SE X e Qw:=λ_ _ _ _ _ _ h=>by obtain⟨_,_,_,_,_,_,_,hf,_⟩:=h;cases hf
section
variable (rE:Ctx->Expr->Option EF)(rT:Ctx->Expr->Option TF)
noncomputable def jF(c:Ctx):List Expr->Option AF
 |[]=>some au
 |e::r=>if jB e=true then(rE c e).bind λf=>(jF c r).map λfr=>ak f fr else none
noncomputable def Ea(c:Ctx)(op:BoolOp):List Expr->Option EF
 |[]=>none
 |[a]=>rE c a
 |a::b::r=>(rE c a).bind λf=>(Ea c op (b::r)).map λg=>match op with
  |.And=>pA f g
  |.Or=>zy f g
noncomputable def Eb(c:Ctx)(op:BoolOp):List Expr->Option TF
 |[]=>none
 |[a]=>rT c a
 |a::b::r=>(rT c a).bind λf=>(Eb c op (b::r)).map λg=>match op with
  |.And=>pK f g
  |.Or=>iW f g
noncomputable def Ef(c:Ctx):Option Expr->Option PF
 |none=>some lA
 |some e=>(rE c e).map jH
noncomputable def xq:List (Str×String×GN):=[("len", "len",gW),("abs", "abs",sS),("min", "min",qC),("max", "max",lz),("isinstance", "isinstance",pB),("all", "all",mF)]
noncomputable def xj:List (Str×String×GN):=[("tuple", "tuple",qy),("list", "list",nU)]
noncomputable def HJ(params:Arguments):Option (Str×Pos):=match params.args with
 |[]=>none
 |a::r=>match r with
  |_::_=>none
  |[]=>if params.posonlyargs.isEmpty=true/\params.vararg.isNone=true/\params.kwonlyargs.isEmpty=true/\params.kw_defaults.isEmpty=true/\params.kwarg.isNone=true/\params.defaults.isEmpty=true/\a.annotation.isNone=true then some (a.arg,a.pos) else none
noncomputable def m7(names:List (Str×NameKind)):List Str:=(names.filter λy=>y.2==NameKind.free).map (·.1)
noncomputable def oE(c:Ctx):List Str->Option (List Nat)
 |[]=>some []
 |y::r=>(jX c.N y).bind λi=>(oE c r).map λl=>i::l
noncomputable def CQ(c:Ctx)(q:Str)(scope:Scope):Bool:=decide (scope.kind = .function) && !scope.isCoroutine && !scope.isGenerator&&decide (scope.names.lookup q=some .local)&&scope.names.all (λy=>decide (y.2 ≠ .cell)) &&
 scope.names.all (λy=>decide (scope.names.lookup y.1=some y.2))&&scope.names.all (λy=>decide (y.2 = .free->c.names.lookup y.1=some .cell))&&decide (q::m7 scope.names).Nodup
noncomputable def Ia(c:Ctx)(x:Str)(es:List Expr):Option EF:=if lX x=true then none else
 if c.names.lookup x=some .globalImplicit/\es.all jB=true/\es≠[] then
  match c.fns.lookup x with
  |some (k,φ)=>(jF rE c es).map λfa=>eN (aO k φ) fa
  |none=>match c.mks.lookup x with
  |some (n,φ)=>(jF rE c es).map λfa=>oX x n φ fa
  |none=>if x∈c.blt then match xq.lookup x with
   |some (_,g)=>(jF rE c es).map λfa=>eN g fa
   |none=>match xj.lookup x with
    |some (_,g)=>(jF rE c es).map λfa=>eN g fa
    |none=>none
   else some Qw
 else none
noncomputable def H9(c:Ctx)(x:Str)(es:List Expr):Option EF:=match c.ext x es with
 |some f=>some f
 |none=>Ia rE c x es
noncomputable def isTup:Expr->Bool
 |.Tuple _ _ _=>true
 |_=>false
noncomputable def Ds(c:Ctx)(es:List Expr):Option IF:=match es with
 |[]=>none
 |e::r=>match r with
  |[]=>(rE c e).map oN
  |_::_=>none
noncomputable def Ii(c:Ctx)(tg:Expr):Expr->Option IF
 |.Call (.Name x p) es [] pos=>if x = "zip" /\ c.names.lookup x=some .globalImplicit/\x∈c.blt/\es.all jB=true/\es≠[]/\isTup tg=true then(jF rE c es).map qp else if x = "enumerate" /\ c.names.lookup x=some .globalImplicit/\x∈c.blt/\es.all jB=true/\isTup tg=true then Ds rE c es else if x = "range" /\ c.names.lookup x=some .globalImplicit/\x∈c.blt/\es.all jB=true then
  match es with
  |[_]=>(jF rE c es).map mU
  |[_,_]=>(jF rE c es).map wH
  |_=>none
  else(rE c (.Call (.Name x p) es [] pos)).map fO
 |e=>(rE c e).map fO
noncomputable abbrev Ed(c:Ctx)(tg e:Expr):Option IF:=Ii rE c tg e
noncomputable def wG(c:Ctx):List Expr->Option TF
 |[]=>some eZ
 |[t]=>rT c t
 |_=>none
noncomputable def zO(c:Ctx)(elt:Expr)(g:Comprehension)(scope:Scope):Option EF :=
 if g.is_async=0/\zN c scope=true/\zR g.iter=true then
  (Ed rE c g.target g.iter).bind λfi=>(xY (Ec c scope.names) g.target).bind λfg=>(wG rT (Ec c scope.names) g.ifs).bind λft=>(rE (Ec c scope.names) elt).map λfe=>fL fi fg ft fe (xZ c scope.names)
 else none
noncomputable def oJ:List (Str×String×GM):=[("append", "list.append",vh),("extend", "list.extend",yc),("pop", "list.pop",mD),("index", "list.index",yh)]
theorem zmm(hu:X.A.units+64<cLine){m:Str}{p:String×GM}(h:oJ.lookup m=some p):Slot "list" m p.1/\typeOf (.builtin p.1)=pure (.type "method_descriptor")/\o6 X p.1 (v9 X.K p.2):=by
 have hm:=gP h;unfold oJ at hm;simp only[List.mem_cons,qi,or_false,Prod.mk.injEq] at hm;rcases hm with⟨rfl,rfl⟩|⟨rfl,rfl⟩|⟨rfl,rfl⟩|⟨rfl,rfl⟩
 .exact⟨PySem.F.slot_list_append,PySem.F.type_list_append,zkw⟩
 .exact⟨PySem.F.slot_list_extend,PySem.F.type_list_extend,zkv⟩
 .exact⟨PySem.F.slot_list_pop,PySem.F.type_list_pop,YK⟩
 .exact⟨PySem.F.slot_list_index,PySem.F.type_list_index,zmk⟩
noncomputable def HF(c:Ctx)(o:Expr)(m:Str)(apos:Pos)(es:List Expr)(cpos:Pos):Option EF :=
 if es.all jB=true/\es.length<20/\(apos.endLine==cpos.line)=true then
  match o with
  |.Name x p=>match c.mths.lookup m with
   |some (C,n,φ)=>match es with
    |[]=>(rE c (.Name x p)).map λfo=>jy C m n φ fo au
    |e::r=>(rE c (.Name x p)).bind λfo=>(jF rE c (e::r)).map λfa=>jy C m n φ fo fa
   |none=>match oJ.lookup m with
   |some (_,g)=>match es with
    |[]=>(rE c (.Name x p)).map λfo=>Du g fo
    |e::r=>(rE c (.Name x p)).bind λfo=>(jF rE c (e::r)).map λfa=>eM g fo fa
   |none=>none
  |_=>none
 else none
noncomputable def HD(c:Ctx)(e:Expr)(f:Str):Option EF:=match e with
 |.Name x p=>match c.flds.lookup f with
  |some C=>(rE c (.Name x p)).map λfe=>gw C f fe
  |none=>none
 |_=>none
noncomputable def unE(c:Ctx)(op:UnaryOp)(a:Expr):Option EF:=match op with
 |.USub=>(rE c a).map (eU u9)
 |.Not=>(rE c a).map mJ
 |_=>none
noncomputable def Qg(c:Ctx)(a:Expr)(ops:List CmpOp)(bs:List Expr):Option EF:=match ops with
 |[]=>none
 |op::r=>match r with
  |_::_=>none
  |[]=>match bs with
   |[]=>none
   |b::q=>match q with
    |_::_=>none
    |[]=>if op ≠ .In/\op ≠ .NotIn then(rE c a).bind λfa=>(rE c b).map λfb=>eB (aZ op) fa fb else none
noncomputable def Om(c:Ctx)(a:Expr)(lo hi st:Option Expr):Option EF:=match st with
 |none=>(rE c a).bind λfa=>(Ef rE c lo).bind λfl=>(Ef rE c hi).map λfh=>jP fa fl fh
 |some _=>none
noncomputable def BZ(c:Ctx)(a b:Expr):Option EF:=match b with
 |.Slice lo hi st _=>Om rE c a lo hi st
 |_=>none
noncomputable def Ol(c:Ctx)(a b:Expr):Option EF:=if Et b=true then(rE c a).bind λfa=>(rE c b).map λfb=>eB aL fa fb else BZ rE c a b
noncomputable def Qh(c:Ctx)(f:Expr)(es:List Expr)(ks:List Keyword)(pos:Pos):Option EF:=match ks with
 |[]=>match f with
  |.Name x _=>H9 rE c x es
  |.Attribute o m apos=>HF rE c o m apos es pos
  |_=>none
 |k::r=>match f with
  |.Name x _=>c.kwx x es (k::r)
  |_=>none
noncomputable def lcE(c:Ctx)(elt:Expr)(gs:List Comprehension)(scope:Scope):Option EF:=match gs with
 |[]=>none
 |g::r=>match r with
  |[]=>zO rE rT c elt g scope
  |_::_=>none
noncomputable def um(c:Ctx)(e:Expr):Option EF:=match e with
 |.Name x _=>nmE c x
 |.Constant k _ _=>Qu k
 |.BinOp a op b _=>(rE c a).bind λfa=>(rE c b).map λfb=>eB (aP op) fa fb
 |.UnaryOp op a _=>unE rE c op a
 |.BoolOp op es _=>Ea rE c op es
 |.Compare a ops bs _=>Qg rE c a ops bs
 |.Tuple es _ _=>(jF rE c es).map (eN cB)
 |.List es _=>(jF rE c es).map (eN lu)
 |.Subscript a b _=>Ol rE c a b
 |.IfExp t a b _=>(rT c t).bind λft=>(rE c a).bind λfa=>(rE c b).map λfb=>uJ ft fa fb
 |.Call f es ks pos=>Qh rE c f es ks pos
 |.Attribute e f _=>HD rE c e f
 |.ListComp elt gs scope _=>lcE rE rT c elt gs scope
 |_=>none
noncomputable def HN(c:Ctx):Expr->Option TF
 |.UnaryOp .Not a _=>(rT c a).map mZ
 |.BoolOp op es _=>Eb rT c op es
 |.Compare a [op] [b] _=>if op ≠ .In/\op ≠ .NotIn then(rE c a).bind λfa=>(rE c b).map λfb=>bW (eB (aZ op) fa fb) else none
 |e=>if QB e=true then(rE c e).map gY else none
end
mutual
def cE:Nat->Ctx->Expr->Option EF
 |0,_,_=>none
 |n+1,c,e=>um (cE n) (cT n) c e
def cT:Nat->Ctx->Expr->Option TF
 |0,_,_=>none
 |n+1,c,e=>HN (cE n) (cT n) c e
end
def lK(rE:Ctx->Expr->Option EF):Prop:=∀c X e f,d9 c X->rE c e=some f->SE X e f
def xK(rT:Ctx->Expr->Option TF):Prop:=∀c X e f,d9 c X->rT c e=some f->ST X e f
section
variable {rE:Ctx->Expr->Option EF}{rT:Ctx->Expr->Option TF}{c:Ctx}{X:Cx}
theorem lG(hE:lK rE)(ok:d9 c X):∀{es:List Expr} {f:AF},jF rE c es=some f->SA X es f/\es.all jB=true
 |[],f,h=>by cases h;exact⟨zqH,rfl⟩
 |e::r,f,h=>by
  unfold jF at h;split at h
  .rename_i hn;simp only[aW,aR] at h;obtain⟨f1,e1,fr,e2,rfl⟩:=h;obtain⟨i1,i2⟩:=lG hE ok e2;exact⟨zoi (hE c X e f1 ok e1) i1 (iy hn r X.env),by rw[kO,hn,i2];rfl⟩
  .cases h
theorem Wh(hE:lK rE)(ok:d9 c X){op:BoolOp}{pos:Pos}:∀{es:List Expr} {f:EF},Ea rE c op es=some f->SE X (.BoolOp op es pos) f
 |[],f,h=>by cases h
 |[a],f,h=>zl3 (hE c X a f ok h)
 |a::b::r,f,h=>by
  unfold Ea at h;simp only[aW,aR] at h;obtain⟨f1,e1,fr,e2,rfl⟩:=h;have i:=Wh hE ok (pos:=pos) e2;cases op with
  |And=>exact zqG (hE c X a f1 ok e1) i
  |Or=>exact YX (hE c X a f1 ok e1) i
theorem Ww(hT:xK rT)(ok:d9 c X){op:BoolOp}{pos:Pos}:∀{es:List Expr} {f:TF},Eb rT c op es=some f->SW X (.BoolOp op es pos) f
 |[],f,h=>by cases h
 |[a],f,h=>by
  cases op with
  |And=>exact znK (hT c X a f ok h)
  |Or=>exact zp6 (hT c X a f ok h)
 |a::b::r,f,h=>by
  unfold Eb at h;simp only[aW,aR] at h;obtain⟨f1,e1,fr,e2,rfl⟩:=h;have i:=Ww hT ok (pos:=pos) e2;cases op with
  |And=>exact zp7 (hT c X a f1 ok e1) i
  |Or=>exact Y5 (hT c X a f1 ok e1) i
theorem Wk(hE:lK rE)(ok:d9 c X){e:Option Expr}{f:PF}(h:Ef rE c e=some f):Dw X e f:=by
 cases e with
 |none=>cases h;exact znZ
 |some e =>
  unfold Ef at h;simp only[aR] at h;obtain⟨f1,e1,rfl⟩:=h;exact znW (hE c X e f1 ok e1)
theorem zlv{p:String×GN}(h:xq.lookup x=some p)(hc:X.calm=true):bootBuiltins x=some (.builtin p.1)/\gQ X (.builtin p.1) (jt X.K p.2):=by
 have hm:=gP h;unfold xq at hm;simp only[List.mem_cons,qi,or_false,Prod.mk.injEq] at hm;rcases hm with⟨rfl,rfl⟩|⟨rfl,rfl⟩|⟨rfl,rfl⟩|⟨rfl,rfl⟩|⟨rfl,rfl⟩|⟨rfl,rfl⟩
 .exact⟨by decide +kernel,Zc⟩
 .exact⟨by decide +kernel,Y9⟩
 .exact⟨by decide +kernel,zpG hc⟩
 .exact⟨by decide +kernel,zpH hc⟩
 .exact⟨by decide +kernel,Zb⟩
 .exact⟨by decide +kernel,Za hc⟩
theorem zlu{p:String×GN}(h:xj.lookup x=some p):bootBuiltins x=some (.type p.1)/\gQ X (.type p.1) (jt X.K p.2):=by
 have hm:=gP h;unfold xj at hm;simp only[List.mem_cons,qi,or_false,Prod.mk.injEq] at hm;rcases hm with⟨rfl,rfl⟩|⟨rfl,rfl⟩
 .exact⟨by decide +kernel,zmT⟩
 .exact⟨by decide +kernel,zpF⟩
theorem zhi(hE:lK rE)(ok:d9 c X){f:EF}(h:Ia rE c x es=some f):SE X (.Call (.Name x p) es [] pos) f:=by
 unfold Ia at h;split at h
 .cases h
 .rename_i ho;have ho':lX x=false:=by simpa using ho
  split at h
  .rename_i hc;obtain⟨h1,h2,h3⟩:=hc;have hg:Gl X x:=by show X.env.scope.names.lookup x=_;rw[ok.names];exact h1
   cases es with
   |nil=>exact absurd rfl h3
   |cons e r =>
    rw[kO,cL] at h2;split at h
    .rename_i k φ e1;simp only[aR] at h;obtain⟨fa,e2,rfl⟩:=h;exact zoh hg (ok.fns x k φ e1) (lG hE ok e2).1 (pH ho') (iy h2.1 r X.env) (qM h2.2 pos X.env)
    split at h
    .rename_i n φ e1;simp only[aR] at h;obtain⟨fa,e2,rfl⟩:=h;exact YS (ok.mks x n φ e1) hg (lG hE ok e2).1 (pH ho') (iy h2.1 r X.env) (qM h2.2 pos X.env)
    .split at h
     .rename_i hb;split at h
      .rename_i q g e1;simp only[aR] at h;obtain⟨fa,e2,rfl⟩:=h;obtain⟨b1,b2⟩:=zlv e1 ok.calm;exact zl2 b2 hg (ok.blt x hb) b1 (lG hE ok e2).1 (wk ho') (pH ho') (iy h2.1 r X.env) (qM h2.2 pos X.env)
      .split at h
       .rename_i q g e1;simp only[aR] at h;obtain⟨fa,e2,rfl⟩:=h;obtain⟨b1,b2⟩:=zlu (X:=X) e1;exact zl1 b2 hg (ok.blt x hb) b1 (lG hE ok e2).1 (wk ho') (pH ho') (iy h2.1 r X.env) (qM h2.2 pos X.env)
       .cases h
     .cases h;exact zl0
  .cases h
theorem zi8{q:Str}{ap:Pos}(h:HJ params=some (q,ap)):params=zT q ap:=by
 obtain⟨a1,a2,a3,a4,a5,a6,a7⟩:=params;unfold HJ at h;simp only at h;split at h
 .cases h
 .rename_i a r;split at h
  .cases h
  .split at h
   .rename_i hc;obtain⟨h1,h2,h3,h4,h5,h6,h7⟩:=hc;cases h;obtain⟨b1,b2,b3⟩:=a;simp only[List.isEmpty_iff,Option.isNone_iff_eq_none] at h1 h2 h3 h4 h5 h6 h7;subst h1 h2 h3 h4 h5 h6 h7;rfl
   .cases h
theorem JQ{c:Ctx}:∀{cap:List Str} {src:List Nat},oE c cap=some src->cap.length=src.length/\∀(i:Nat) y,cap[i]?=some y->∃j,src[i]?=some j/\c.N[j]?=some y
 |[],src,h=>by cases h;exact⟨rfl,λi y e=>by simp at e⟩
 |y::r,src,h=>by
  unfold oE at h;simp only[aW,aR] at h;obtain⟨i0,e0,l,e1,rfl⟩:=h;obtain⟨h1,h2⟩:=JQ e1;refine⟨by simp[h1],λi z e=>?_⟩;cases i with
  |zero=>simp at e;subst e;exact⟨i0,rfl,vI e0⟩
  |succ i=>simpa using h2 i z (by simpa using e)
theorem RJ(h:y∈m7 names):(y,NameKind.free)∈names:=by
 unfold m7 at h;obtain⟨z,hz,rfl⟩:=List.mem_map.mp h;obtain⟨h1,h2⟩:=List.mem_filter.mp hz;obtain⟨z1,z2⟩:=z;have:z2=NameKind.free:=by simpa using h2
 subst this;exact h1
theorem ziY(hE:lK rE)(ok:d9 c X){f:EF}(h:H9 rE c x es=some f):SE X (.Call (.Name x p) es [] pos) f:=by
 unfold H9 at h;split at h
 .rename_i f' ef;cases h;exact ok.ext x es f p pos ef
 .exact zhi hE ok h
theorem zhg(hE:lK rE)(ok:d9 c X){f:IF}(h:Ii rE c tg e=some f):SI X tg e f:=by
 have dflt:∀{e:Expr},(rE c e).map fO=some f->SI X tg e f:=λ{e} q=>by simp only[aR] at q;obtain⟨f1,e1,rfl⟩:=q;exact ZM (hE c X e f1 ok e1)
 unfold Ii at h;split at h
 .rename_i x p es pos;split at h
  .rename_i hc;obtain⟨rfl,h1,h2,h3,h4,h5⟩:=hc;have hg:Gl X "zip" := by show X.env.scope.names.lookup _=_;rw[ok.names];exact h1
   simp only[aR] at h;obtain⟨fa,e2,rfl⟩:=h;cases es with
   |nil=>exact absurd rfl h4
   |cons e r =>
    rw[kO,cL] at h3;cases tg with
    |Tuple ts kk tp=>exact ZP hg (ok.blt _ h2) (lG hE ok e2).1 (iy h3.1 r X.env) (qM h3.2 pos X.env)
    |_=>cases h5
  split at h
  .rename_i hc;obtain⟨rfl,h1,h2,h3,h5⟩:=hc;have hg:Gl X "enumerate" := by show X.env.scope.names.lookup _=_;rw[ok.names];exact h1
   unfold Ds at h;cases es with
   |nil=>cases h
   |cons e r =>
    cases r with
    |cons _ _=>cases h
    |nil =>
     simp only[aR] at h;obtain⟨fe,e2,rfl⟩:=h;rw[kO,cL] at h3;cases tg with
     |Tuple ts kk tp=>exact ZL hg (ok.blt _ h2) (hE c X _ fe ok e2) (by rw[iy h3.1];rfl)
     |_=>cases h5
  split at h
  .rename_i hc;obtain⟨rfl,h1,h2,h3⟩:=hc;have hg:Gl X "range" := by show X.env.scope.names.lookup _=_;rw[ok.names];exact h1
   split at h
   .rename_i a;simp only[aR] at h;obtain⟨fa,e2,rfl⟩:=h;rw[kO,cL] at h3;exact zjT hg (ok.blt _ h2) (lG hE ok e2).1 (by rw[iy h3.1];rfl)
   .rename_i a b;simp only[aR] at h;obtain⟨fa,e2,rfl⟩:=h;rw[kO,kO,cL,cL] at h3;exact zjS hg (ok.blt _ h2) (lG hE ok e2).1 (by rw[iy h3.1,iy h3.2.1];rfl) (by rw[iy h3.2.1];rfl)
   .cases h
  .exact dflt h
 .exact dflt h
def Wj(hE:lK rE)(ok:d9 c X){f:IF}(h:Ed rE c tg e=some f):SI X tg e f:=zhg hE ok h
theorem zjO(hT:xK rT)(ok:d9 c X){ifs:List Expr}{f:TF}(h:wG rT c ifs=some f):uM X ifs f:=by
 unfold wG at h;split at h
 .cases h;exact znN
 .exact znM (hT c X _ f ok h)
 .cases h
theorem Wi(hE:lK rE)(hT:xK rT)(ok:d9 c X){elt:Expr}{g:Comprehension}{f:EF}(h:zO rE rT c elt g scope=some f):
 ∃fi fg ft fe,f=fL fi fg ft fe (xZ c scope.names)/\g=⟨g.target,g.iter,g.ifs,0⟩/\qw X scope (sX c scope.names) (xZ c scope.names)/\SI X g.target g.iter fi /\
  (∀Y,nZ X scope (sX c scope.names) Y->SG Y g.target fg/\uM Y g.ifs ft/\SE Y elt fe)/\∀x,foldedSetIterable g.iter X.env x=pure x:=by
 unfold zO at h;split at h
 .rename_i hc;obtain⟨h1,h2,h3⟩:=hc;simp only[aW,aR] at h;obtain⟨fi,e1,fg,e2,ft,e3,fe,e4,rfl⟩:=h;refine⟨fi,fg,ft,fe,rfl,?_,zpA ok h2,Wj hE ok e1,λY hy=>?_,Vp h3 X.env⟩
  .obtain⟨a,b,d,z⟩:=g;have:z=0:=h1;subst this;rfl
  .have O4:=zmO ok h2 hy;exact⟨Aq O4 e2,zjO hT O4 e3,hE _ Y elt fe O4 e4⟩
 .cases h
theorem Js(h1:es.all jB=true)(h3:es.length<20):((backTo cpos (starEach es env)).all (λx => !x.1)&&(backToKw cpos (keywordEach [] env)).all (λx=>x.1.isSome)&&decide (es.length+([]:List Keyword).length+(if([]:List Keyword).isEmpty then 0 else 1)<30))=true:=by rw[zlH h1];show(true&&true&&_)=true;rw[cL];exact⟨rfl,decide_eq_true (by simp;omega)⟩
theorem ziX(hE:lK rE)(ok:d9 c X){o:Expr}{m:Str}{f:EF}(h:HF rE c o m apos es cpos=some f):SE X (.Call (.Attribute o m apos) es [] cpos) f:=by
 unfold HF at h;split at h
 .rename_i hc;obtain⟨h1,h3,h4⟩:=hc;split at h
  .rename_i x p;split at h
   .rename_i C n φ e1;have R:=ok.mths m C n φ e1;cases es with
    |nil =>
     simp only[aR] at h;obtain⟨fo,e2,rfl⟩:=h;exact zof R (hE c X _ fo ok e2) rfl h4
    |cons e r =>
     have h1':=h1;rw[kO,cL] at h1;simp only[aW,aR] at h;obtain⟨fo,e2,fa,e3,rfl⟩:=h;exact Zw R (hE c X _ fo ok e2) (lG hE ok e3).1 rfl (Js h1' h3) h4 (iy h1.1 r X.env) (qM h1.2 cpos X.env)
   split at h
   .rename_i q g e1;obtain⟨m1,m2,m3⟩:=zmm ok.un e1;cases es with
    |nil =>
     simp only[aR] at h;obtain⟨fo,e2,rfl⟩:=h;exact zqA m1 m2 m3 (hE c X _ fo ok e2) rfl h4
    |cons e r =>
     have h1':=h1;rw[kO,cL] at h1;simp only[aW,aR] at h;obtain⟨fo,e2,fa,e3,rfl⟩:=h;exact YT m1 m2 m3 (hE c X _ fo ok e2) (lG hE ok e3).1 rfl (Js h1' h3) h4 (iy h1.1 r X.env) (qM h1.2 cpos X.env)
   .cases h
  .cases h
 .cases h
theorem ziZ(hE:lK rE)(ok:d9 c X){g:Str}{f:EF}(h:HD rE c e g=some f):SE X (.Attribute e g p) f:=by
 unfold HD at h;cases e with
 |Name x q =>
  simp only at h;split at h
  .rename_i C e0;obtain⟨fe,e1,rfl⟩:=aR.mp h;exact zqE (ok.flds g C e0) (hE c X _ fe ok e1) rfl
  .cases h
 |_=>cases h
theorem zhf(hE:lK rE)(hT:xK rT):lK (um rE rT):=by
 intro c X e f ok h;cases e with
 |Name x p=>exact ziW ok h
 |Constant k a b=>exact zhh h
 |BinOp a op b p =>
  obtain⟨fa,e1,h⟩:=aW.mp h;obtain⟨fb,e2,rfl⟩:=aR.mp h;exact YW (hE c X _ fa ok e1) (hE c X _ fb ok e2)
 |UnaryOp op a p =>
  cases op with
  |USub =>
   obtain⟨fa,e1,rfl⟩:=aR.mp h;exact Zx (hE c X _ fa ok e1)
  |Not =>
   obtain⟨fa,e1,rfl⟩:=aR.mp h;exact Zz (hE c X _ fa ok e1)
  |_=>exact nomatch (show(none:Option EF)=some f from h)
 |BoolOp op es p=>exact Wh hE ok h
 |Compare a ops bs p =>
  cases ops with
  |nil=>exact nomatch (show(none:Option EF)=some f from h)
  |cons op r =>
   cases r with
   |cons _ _=>exact nomatch (show(none:Option EF)=some f from h)
   |nil =>
    cases bs with
    |nil=>exact nomatch (show(none:Option EF)=some f from h)
    |cons b q =>
     cases q with
     |cons _ _=>exact nomatch (show(none:Option EF)=some f from h)
     |nil =>
      change (if op ≠ .In/\op ≠ .NotIn then(rE c a).bind λfa=>(rE c b).map λfb=>eB (aZ op) fa fb else none)=some f at h;by_cases hc:op ≠ .In/\op ≠ .NotIn
      .rw[if_pos hc] at h;obtain⟨fa,e1,h⟩:=aW.mp h;obtain⟨fb,e2,rfl⟩:=aR.mp h;exact zqF ok.un hc.1 hc.2 (hE c X _ fa ok e1) (hE c X _ fb ok e2)
      .rw[if_neg hc] at h;cases h
 |Tuple es a b =>
  obtain⟨fa,e1,rfl⟩:=aR.mp h;exact ZD (lG hE ok e1).1
 |List es a =>
  obtain⟨fa,e1,rfl⟩:=aR.mp h;exact zqB (lG hE ok e1).1
 |Subscript a b p =>
  change (if Et b=true then(rE c a).bind λfa=>(rE c b).map λfb=>eB aL fa fb else BZ rE c a b)=some f at h;by_cases hp:Et b=true
  .rw[if_pos hp] at h;obtain⟨fa,e1,h⟩:=aW.mp h;obtain⟨fb,e2,rfl⟩:=aR.mp h;exact YQ (zi4 hp) (hE c X _ fa ok e1) (hE c X _ fb ok e2)
  .rw[if_neg hp] at h;cases b with
   |Slice lo hi st q =>
    cases st with
    |some _=>exact nomatch (show(none:Option EF)=some f from h)
    |none =>
     obtain⟨fa,e1,h⟩:=aW.mp h;obtain⟨fl,e2,h⟩:=aW.mp h;obtain⟨fh,e3,rfl⟩:=aR.mp h;exact zlZ (hE c X _ fa ok e1) (Wk hE ok e2) (Wk hE ok e3)
   |_=>exact nomatch (show(none:Option EF)=some f from h)
 |IfExp t a b p =>
  obtain⟨ft,e0,h⟩:=aW.mp h;obtain⟨fa,e1,h⟩:=aW.mp h;obtain⟨fb,e2,rfl⟩:=aR.mp h;exact YM (hT c X _ ft ok e0) (hE c X _ fa ok e1) (hE c X _ fb ok e2)
 |Call g es ks pos =>
  cases ks with
  |cons k r =>
   cases g with
   |Name x p=>exact ok.kwx x es (k::r) f p pos h
   |_=>exact nomatch (show(none:Option EF)=some f from h)
  |nil =>
   cases g with
   |Name x p=>exact ziY hE ok h
   |Attribute o m p=>exact ziX hE ok h
   |_=>exact nomatch (show(none:Option EF)=some f from h)
 |ListComp elt gs scope p =>
  cases gs with
  |nil=>exact nomatch (show(none:Option EF)=some f from h)
  |cons g r =>
   cases r with
   |cons _ _=>exact nomatch (show(none:Option EF)=some f from h)
   |nil =>
    obtain⟨fi,fg,ft,fe,rfl,eg,Hs,hi,hY,hfs⟩:=Wi hE hT ok h;rw[eg];exact QT ok.calm Hs hi hY hfs
 |Attribute e g p=>exact ziZ hE ok h
 |_=>exact nomatch (show(none:Option EF)=some f from h)
theorem zhe(hE:lK rE)(hT:xK rT):xK (HN rE rT):=by
 intro c X e f ok h;unfold HN at h;split at h
 .simp only[aR] at h;obtain⟨fa,e1,rfl⟩:=h;exact zp9 (hT c X _ fa ok e1)
 .exact PW.pt (Ww hT ok h)
 .split at h
  .rename_i hc;simp only[aW,aR] at h;obtain⟨fa,e1,fb,e2,rfl⟩:=h;exact Z6 ok.un hc.1 hc.2 (hE c X _ fa ok e1) (hE c X _ fb ok e2)
  .cases h
 .split at h
  .rename_i hp;simp only[aR] at h;obtain⟨fa,e1,rfl⟩:=h;exact zp8 (hE c X _ fa ok e1) (zj6 hp X.env)
  .cases h
theorem jN:∀n,lK (cE n)/\xK (cT n)
 |0=>⟨λ_ _ _ _ _ h=>by simp[cE] at h,λ_ _ _ _ _ h=>by simp[cT] at h⟩
 |n+1=>by
  obtain⟨h1,h2⟩:=jN n;refine⟨λc X e f ok h=>?_,λc X e f ok h=>?_⟩
  .rw[cE] at h;exact zhf h1 h2 c X e f ok h
  .rw[cT] at h;exact zhe h1 h2 c X e f ok h
end
noncomputable def En:SF:=λ_ _=>none
def zlK:SS X st En:=λ_ _ _ _ _ _ h=>by obtain⟨_,_,_,_,_,_,_,_,hf,_⟩:=h;cases hf
noncomputable def uL(c:Ctx)(x:Str)(e:Expr):Option SF:=match e with
 |.ListComp elt gs scope _=>match gs with
  |[]=>none
  |g::r=>match r with
   |_::_=>none
   |[]=>if x∈c.sts then(jX c.N x).bind λi=>(zO (cE 60) (cT 60) c elt g scope).map λf=>bG f (aK i) else none
 |_=>none
noncomputable def Dv(c:Ctx)(x:Str)(e:Expr):Option SF:=if x∈c.sts then(cE 60 c e).bind λfe=>(jX c.N x).map λi=>bG fe (aK i) else none
noncomputable def Er(c:Ctx)(o:Expr)(f:Str)(e:Expr):Option SF:=match o with
 |.Name x p=>match c.flds.lookup f with
  |some C=>(cE 60 c e).bind λfe=>(cE 60 c (.Name x p)).map λfo=>nY C f fo fe
  |none=>none
 |_=>none
noncomputable def HB(c:Ctx)(tg e:Expr):Option SF:=(cE 60 c e).bind λfe=>(xY c tg).map λfg=>bG fe fg
noncomputable def wF:Expr->Bool
 |.ListComp _ _ _ _=>true
 |_=>false
noncomputable def xu(c:Ctx)(tg e:Expr):Option SF :=
 if qH e=true then
  if Io e=true then match tg with
   |.Attribute o f _=>Er c o f e
   |tg=>HB c tg e
  else match tg with
   |.Name x _=>Dv c x e
   |.Attribute o f _=>Er c o f e
   |_=>none
 else match tg with
  |.Name x _=>uL c x e
  |.Tuple ts k p=>if wF e=true then HB c (.Tuple ts k p) e else none
  |_=>none
noncomputable def uG(e:Expr):Bool:=match e with
 |.Constant k _ _=>match k with
  |.str _=>true
  |_=>false
 |_=>false
noncomputable def wW(c:Ctx)(e:Expr):Option SF:=if uG e=true then some aJ else if qH e=true then(cE 60 c e).map lB else none
mutual
def cS:Nat->Ctx->Stmt->Option SF
 |0,_,_=>none
 |n+1,c,st=>match st with
  |.Pass _=>some aJ
  |.Break _=>some Cd
  |.Continue _=>some oG
  |.Expr e _=>wW c e
  |.Return o _=>match o with
   |none=>some uo
   |some e=>(cE 60 c e).map bM
  |.Raise _ _ _=>some En
  |.Assign Bs e _=>match Bs with
   |[]=>none
   |tg::r=>match r with
    |[]=>xu c tg e
    |_::_=>none
  |.If t a b _=>(cT 60 c t).bind λft=>(ju n c a).bind λfa=>(ju n c b).map λfb=>cW ft fa fb
  |.While t a o _=>match o with
   |[]=>(cT 60 c t).bind λft=>(ju n c a).map λfa=>j9 ft fa
   |_::_=>none
  |.For tg it a o _=>match o with
   |[]=>if zR it=true then(Ed (cE 60) c tg it).bind λfi=>(xY c tg).bind λfg=>(ju n c a).map λfa=>lR fi fg fa else none
   |_::_=>none
  |_=>none
def ju:Nat->Ctx->List Stmt->Option SF
 |0,_,_=>none
 |_+1,_,[]=>some aJ
 |n+1,c,st::r=>(cS n c st).bind λf=>(ju n c r).map λg=>aA f g
end
theorem zhj{c:Ctx}(ok:d9 c X){px:Pos}{f:SF}(h:uL c x e=some f):SS X (.Assign [.Name x px] e spos) f:=by
 have hE:=(jN 60).1;have hT:=(jN 60).2;cases e with
 |ListComp elt gs scope p=>cases gs with
  |nil=>exact nomatch (show(none:Option SF)=some f from h)
  |cons g r=>cases r with
   |cons _ _=>exact nomatch (show(none:Option SF)=some f from h)
   |nil =>
    change (if x∈c.sts then(jX c.N x).bind λi=>(zO (cE 60) (cT 60) c elt g scope).map λf=>bG f (aK i) else none)=some f at h;by_cases hx:x∈c.sts
    .rw[if_pos hx] at h;obtain⟨i,e0,h⟩:=aW.mp h;obtain⟨f1,e1,rfl⟩:=aR.mp h;obtain⟨fi,fg,ft,fe,rfl,eg,Hs,hi,hY,hfs⟩:=Wi hE hT ok e1;obtain⟨s1,s2⟩:=ok.st x hx;have nd:X.N.Nodup:=by rw[ok.N];exact ok.nd
     have sl:X.N[i]?=some x:=by rw[ok.N];exact vI e0
     rw[eg];have key:swapsWith (.ListComp elt [⟨g.target,g.iter,g.ifs,0⟩] scope p) (some (.Name x px)) spos.line X.env=pure (X.env.blockKind==ScopeKind.function&&X.env.kindOf x==some NameKind.local&&px.line==p.line && !(scope.names.any λy=>y.1==x&&(y.2==NameKind.local||y.2==NameKind.cell))):=rfl;cases hb:(X.env.blockKind==ScopeKind.function&&X.env.kindOf x==some NameKind.local&&px.line==p.line && !(scope.names.any λy=>y.1==x&&(y.2==NameKind.local||y.2==NameKind.cell))) with
     |true =>
      rw[hb] at key;rw[cL,cL,cL] at hb;have hk:X.env.kindOf x=some .local:=by simpa using hb.1.1.2
      exact zlJ nd sl hk key ok.calm Hs hi hY hfs
     |false =>
      rw[hb] at key;exact Ry nd sl s1 (QT ok.calm Hs hi hY hfs) key s2
    .rw[if_neg hx] at h;cases h
 |_=>exact nomatch (show(none:Option SF)=some f from h)
theorem Wv{c:Ctx}(ok:d9 c X){o:Expr}{g:Str}{f:SF}(hc:qH e=true)(h:Er c o g e=some f):SS X (.Assign [.Attribute o g p] e spos) f:=by
 have hE:=(jN 60).1;unfold Er at h;cases o with
 |Name x q =>
  simp only at h;split at h
  .rename_i C e0;obtain⟨fe,e1,h⟩:=aW.mp h;obtain⟨fo,e2,rfl⟩:=aR.mp h;exact Z2 (ok.flds g C e0) (hE c X _ fo ok e2) (hE c X _ fe ok e1) (yW hc _ _ _)
  .cases h
 |_=>cases h
theorem zi0{c:Ctx}(ok:d9 c X){f:SF}(h:xu c tg e=some f):SS X (.Assign [tg] e spos) f:=by
 have hE:=(jN 60).1;unfold xu at h;by_cases hc:qH e=true
 .rw[if_pos hc] at h;by_cases ht:Io e=true
  .rw[if_pos ht] at h;cases tg with
   |Attribute o g p=>exact Wv ok hc h
   |Name _ _ =>
    obtain⟨fe,e1,h⟩:=aW.mp h;obtain⟨fg,e2,rfl⟩:=aR.mp h;exact Jx (hE c X _ fe ok e1) (Aq ok e2) (by unfold swapsWithSole;exact yW hc _ _ _) (zja rfl _ _) rfl
   |Tuple _ _ _ =>
    obtain⟨fe,e1,h⟩:=aW.mp h;obtain⟨fg,e2,rfl⟩:=aR.mp h;exact Jx (hE c X _ fe ok e1) (Aq ok e2) (by unfold swapsWithSole;exact yW hc _ _ _) (zi9 ht _ _ _ _) rfl
   |_ =>
    obtain⟨fe,e1,h⟩:=aW.mp h;obtain⟨fg,e2,h⟩:=aR.mp h;cases e2
  .rw[if_neg ht] at h;cases tg with
   |Name x px =>
    change (if x∈c.sts then(cE 60 c e).bind λfe=>(jX c.N x).map λi=>bG fe (aK i) else none)=some f at h;by_cases hx:x∈c.sts
    .rw[if_pos hx] at h;obtain⟨fe,e1,h⟩:=aW.mp h;obtain⟨i,e2,rfl⟩:=aR.mp h;obtain⟨s1,s2⟩:=ok.st x hx;exact Ry (by rw[ok.N];exact ok.nd) (by rw[ok.N];exact vI e2) s1 (hE c X _ fe ok e1) (yW hc _ _ _) s2
    .rw[if_neg hx] at h;cases h
   |Attribute o g p=>exact Wv ok hc h
   |_=>exact nomatch (show(none:Option SF)=some f from h)
 .rw[if_neg hc] at h;cases tg with
  |Name x px=>exact zhj ok h
  |Tuple ts k0 p =>
   change (if wF e=true then HB c (.Tuple ts k0 p) e else none)=some f at h;by_cases hl:wF e=true
   .rw[if_pos hl] at h;obtain⟨fe,e1,h⟩:=aW.mp h;obtain⟨fg,e2,rfl⟩:=aR.mp h;cases e with
    |ListComp _ _ _ _=>exact Jx (hE c X _ fe ok e1) (Aq ok e2) rfl rfl rfl
    |_=>cases hl
   .rw[if_neg hl] at h;cases h
  |_=>exact nomatch (show(none:Option SF)=some f from h)
theorem zjP{c:Ctx}(ok:d9 c X){f:SF}(h:wW c e=some f):SS X (.Expr e p) f:=by
 have hE:=(jN 60).1;unfold wW at h;by_cases hd:uG e=true
 .rw[if_pos hd] at h;cases h;cases e with
  |Constant k a b=>cases k with
   |str _=>exact Z1
   |_=>cases hd
  |_=>cases hd
 .rw[if_neg hd] at h;by_cases hc:qH e=true
  .rw[if_pos hc] at h;obtain⟨fe,e1,rfl⟩:=aR.mp h;exact znU (hE c X _ fe ok e1) (yW hc _ _ _)
  .rw[if_neg hc] at h;cases h
theorem Ak:∀n c X,d9 c X->PassesOwn (model X.prog X.w) X.A X.env X.xe->(∀st f,cS n c st=some f->SS X st f)/\∀sts f,ju n c sts=some f->uN X sts f
 |0,c,X,ok,hp=>⟨λ_ _ h=>by simp[cS] at h,λ_ _ h=>by simp[ju] at h⟩
 |n+1,c,X,ok,hp=>by
  obtain⟨ih1,ih2⟩:=Ak n c X ok hp;have hE:=(jN 60).1;have hT:=(jN 60).2;refine⟨λst f h=>?_,λsts f h=>?_⟩
  .unfold cS at h;cases st with
   |Pass _=>cases h;exact znT
   |Break _=>cases h;exact ZX
   |Continue _=>cases h;exact Z0
   |Expr e p=>exact zjP ok h
   |Return o p=>cases o with
    |none=>cases h;exact znS
    |some e =>
     obtain⟨fe,e1,rfl⟩:=aR.mp h;exact Z5 (hE c X _ fe ok e1)
   |Raise _ _ _=>cases h;exact zlK
   |Assign Bs e p=>cases Bs with
    |nil=>exact nomatch (show(none:Option SF)=some f from h)
    |cons tg r=>cases r with
     |nil=>exact zi0 ok h
     |cons _ _=>exact nomatch (show(none:Option SF)=some f from h)
   |If t a b p =>
    obtain⟨ft,e0,h⟩:=aW.mp h;obtain⟨fa,e1,h⟩:=aW.mp h;obtain⟨fb,e2,rfl⟩:=aR.mp h;exact Y4 (hT c X _ ft ok e0) (ih2 _ fa e1) (ih2 _ fb e2)
   |While t a o p=>cases o with
    |cons _ _=>exact nomatch (show(none:Option SF)=some f from h)
    |nil =>
     obtain⟨ft,e0,h⟩:=aW.mp h;obtain⟨fa,e1,rfl⟩:=aR.mp h;exact zlI hp (hT c X _ ft ok e0) (ih2 _ fa e1)
   |For tg it a o p=>cases o with
    |cons _ _=>exact nomatch (show(none:Option SF)=some f from h)
    |nil =>
     change (if zR it=true then(Ed (cE 60) c tg it).bind λfi=>(xY c tg).bind λfg=>(ju n c a).map λfa=>lR fi fg fa else none)=some f at h;by_cases hn:zR it=true
     .rw[if_pos hn] at h;obtain⟨fi,e0,h⟩:=aW.mp h;obtain⟨fg,e1,h⟩:=aW.mp h;obtain⟨fa,e2,rfl⟩:=aR.mp h;exact Z3 hp ok.calm (Wj hE ok e0) (Aq ok e1) (ih2 _ fa e2) (Vp hn X.env)
     .rw[if_neg hn] at h;cases h
   |_=>exact nomatch (show(none:Option SF)=some f from h)
  .cases sts with
   |nil=>rw[ju] at h;cases h;exact Z4
   |cons st r =>
    rw[ju] at h;simp only[aW,aR] at h;obtain⟨f1,e1,g1,e2,rfl⟩:=h;exact znV (ih1 _ f1 e1) (ih2 _ g1 e2)
end MX
end
section
namespace MX
open PySem PySem.Spec PySem.W PyProof.Rows L2
noncomputable abbrev XN:=List D->So->Option Str
noncomputable abbrev XF:=Sg->So->Option (Str×So)
def Kx(K:FgA)(mg:Str->Option Value)(H:Hp)(α:List Addr)(S:So)(y:Str)(E:XK):Prop:=∃C,mg y=some (.ref C)/\∀H' α',aq K H' α' S->Ext K H α H' α'->E (.ref C) none H'
def Kx.trans{K:FgA}{mg:Str->Option Value}{H H1:Hp}{α α1:List Addr}{S:So}{y:Str}{E:XK}(k:Kx K mg H α S y E)(e:Ext K H α H1 α1):Kx K mg H1 α1 S y E:=let ⟨C,h1,h2⟩:=k;⟨C,h1,λH' α' s x=>h2 H' α' s (e.trans x)⟩
noncomputable def vO(K:FgA)(mg:Str->Option Value)(g:XF)(E:XK):TE:=λσ H _=>∃σd S α y S',bD K H α σd σ/\aq K H α S/\g σd S=some (y,S')/\Kx K mg H α S' y E
noncomputable def tX(K:FgA)(mg:Str->Option Value)(g:XF)(E:XK):TS:=λ_ σ H=>∃σd S α y S',bD K H α σd σ/\aq K H α S/\g σd S=some (y,S')/\Kx K mg H α S' y E
noncomputable def BV(K:FgA)(mg:Str->Option Value)(n:Nat)(ξ:XN):Sp:=λvs H _ E=>vs.length=n/\∃S α ds y,aq K H α S/\aB K H α ds vs/\ξ ds S=some y/\Kx K mg H α S y E
noncomputable def jD(P:Program)(w:World)(K:FgA)(mg:Str->Option Value)(base:Heap)(k:Nat)(x:Str)(n:Nat)(ξ:XN):Prop :=
 ∃f fd ps,mg x=some (.ref f)/\keepIn K (.ref f)=true/\Binds K fd ps []/\bO P w K mg base (mO P w) k f fd ps (BV K mg n ξ)
def Ir(X:Cx)(x:Str)(n:Nat)(ξ:XN):Prop:=∃k,jD X.prog X.w X.K X.mg X.base k x n ξ/\aU k X.A
noncomputable def qQ:XF:=λ_ _=>none
noncomputable def ud(t:TF)(a b:XF):XF:=λσ S=>(t σ S).bind λr=>if r.1=true then a σ r.2 else b σ r.2
noncomputable def uZ(f:SF)(g h:XF):XF:=λσ S=>match g σ S with
 |some r=>some r
 |none=>match f σ S with
  |some (.nx,σ',S')=>h σ' S'
  |_=>none
noncomputable def vg(n:Nat)(ξ:XN)(fa:AF):XF:=λσ S=>(fa σ S).bind λr=>if r.1.length=n then(ξ r.1 r.2).map λy=>(y,r.2) else none
section
variable {X:Cx}{E:XK}{st:Stmt}{rest a b:List Stmt}{c e:Expr}{pos p:Pos}{f:SF}{g h:XF}{t:TF}
def Y6:PS X st (tX X.K X.mg qQ E):=λ_ _ _ _ _ _ h=>by obtain⟨_,_,_,_,_,_,_,hf,_⟩:=h;cases hf
def Jy:fM X rest (tX X.K X.mg qQ E):=λ_ _ _ _ _ _ h=>by obtain⟨_,_,_,_,_,_,_,hf,_⟩:=h;cases hf
theorem Jh(hc:ST X c t)(ha:fM X a (tX X.K X.mg g E))(hb:fM X b (tX X.K X.mg h E)):PS X (.If c a b pos) (tX X.K X.mg (ud t g h) E):=by
 refine PS.imp (Jd hc ha hb) λD σ H hh=>?_;obtain⟨σd,S,α,y,S',hv,hs,hf,k⟩:=hh;unfold ud at hf;obtain⟨⟨b1,S1⟩,e1,e2⟩:=aW.mp hf;refine⟨σd,S,α,b1,S1,hv,hs,e1,λH1 α1 s1 x1=>?_⟩;cases b1 with
 |true=>exact⟨σd,S1,α1,y,S',hv.mono x1,s1,e2,k.trans x1⟩
 |false=>exact⟨σd,S1,α1,y,S',hv.mono x1,s1,e2,k.trans x1⟩
theorem Rz(h1:SS X st f)(h2:PS X st (tX X.K X.mg g E))(h3:fM X rest (tX X.K X.mg h E)):fM X (st::rest) (tX X.K X.mg (uZ f g h) E):=by
 have hn:=tU h1 h3;have hx:=tU h2 h3;intro pins s σ H D I hh;obtain⟨σd,S,α,y,S',hv,hs,hf,k⟩:=hh;unfold uZ at hf;cases eg:g σd S with
 |some r =>
  rw[eg] at hf;cases hf;exact hx pins s σ H D I ⟨σd,S,α,y,S',hv,hs,eg,k⟩
 |none =>
  rw[eg] at hf;simp only at hf;split at hf
  .rename_i σ1 S1 e1;exact hn pins s σ H D I ⟨σd,S,α,.nx,σ1,S1,hv,hs,e1,λσ' H' α' v' s' x'=>⟨σ1,S1,α',y,S',v',s',hf,k.trans x'⟩⟩
  .cases hf
def znJ(he:PE X e (vO X.K X.mg g E))(hs:swapsWith e none pos.line X.env=pure false):PS X (.Expr e pos) (tX X.K X.mg g E):=PS.imp (TQ he hs) λ_ _ _ h=>h
def zp4(he:PE X e (vO X.K X.mg g E)):PS X (.Return (some e) pos) (tX X.K X.mg g E):=PS.imp (z7 he) λ_ _ _ h=>h
theorem znv{ξ:XN}(hx:sJ X E)(hg:Gl X x)(hF:Ir X x n ξ)(ha:SA X (e::es) fa)(hdb:(x==("__debug__" : Str))=false)(he:starEach (e::es) X.env=(false,eval e X.env)::starEach es X.env)(hpl:(backTo pos (starEach es X.env)).any (·.1)=false):PE X (.Call (.Name x p) (e::es) [] pos) (vO X.K X.mg (vg n ξ fa) E):=by
 obtain⟨k,⟨fa',fd,ps,hm,hk,hb,F⟩,hr⟩:=hF;refine PE.imp (R7 F hr hg hm hk hb .nil hx.pass ha hdb he hpl) λσ H Q hh=>?_;obtain⟨σd,S,α,y,S',hv,hs,hf,kk⟩:=hh;unfold vg at hf;obtain⟨⟨ds,S1⟩,e1,e2⟩:=aW.mp hf;split at e2
 .rename_i hl;obtain⟨y',e3,e4⟩:=aR.mp e2;cases e4;refine⟨σd,S,α,ds,_,hv,hs,e1,λvs H1 α1 s1 x1 r1=>⟨by rw[List.append_nil,<-r1.length];exact hl,_,α1,ds,y,s1,by rw[List.append_nil];exact r1,e3,kk.trans x1⟩⟩
 .cases e2
end
theorem J8{bmB:List Value}{newId:String}(X:K.In h)(q:excIn K C bmB newId=true):
 ∃nm qn N bs bm hd sn sub ab col dd k0 k1 k2 k3 k5 mN,h.get? C=some (excClassObj nm qn C N bs bm hd sn sub ab col dd k0 k1 k2 k3 k5 newId)/\h.Ns N mN/\mN "__init__" = none/\OwnTail h bmB bm /\
  ∃o cd,K.lookup C=some o/\o.data = .cls cd/\cd.mro = .ref C::bm:=by
 unfold excIn at q;split at q
 .rename_i dd cd sl ho;split at q
  .rename_i C' bm k0 k1 k2 k3 n k5 hm hs;simp only[cL,beq_iff_eq,Bool.not_eq_true'] at q;obtain⟨⟨⟨⟨⟨q1,q2⟩,q3⟩,q4⟩,q5⟩,q6⟩:=q;subst q1 q2;have hsl:sl=#[k0,k1,k2,k3,some (.builtin n),k5]:=Array.toList_inj.mp hs;refine⟨cd.name,cd.qualname,cd.ns,cd.bases,bm,cd.hasDict,cd.slotNames,cd.subclasses,cd.abstract,cd.collection,dd,k0,k1,k2,k3,k5,h.nsMap cd.ns,?_,.of_isNs (isNs_of_in X q5),nsMap_none_of_in X q5 q6,tail_of_in X q4,_,cd,ho,rfl,hm⟩;rw[X _ _ ho,hsl];obtain⟨a1,a2,a3,a4,a5,a6,a7,a8,a9,a10,a11⟩:=cd;cases q3;cases hm;rfl
  .cases q
 .cases q
structure sH(K:FgA)(mg:Str->Option Value)(x:Str)(C:Addr):Prop where
 mg:mg x=some (.ref C)
 cls:excIn K C gD "ValueError.__new__" = true
section
variable {X:Cx}{E:XK}{e:Expr}{p cpos pos:Pos}{fe:EF}{x:Str}{C:Addr}
theorem zlG(hx:sJ X E)(hc:X.calm=true)(hg:Gl X x)(hK:sH X.K X.mg x C)(ha:SE X e fe)(he:jB e=true)(hdb:(x==("__debug__" : Str))=false):
 PS X (.Raise (some (.Call (.Name x p) [e] [] cpos)) none pos) (tX X.K X.mg (λσ S=>(fe σ S).map λr=>(x,r.2)) E):=by
 intro pins s σ H D I hh;obtain⟨σd,S,α,y,S',hv,hs,hf,kk⟩:=hh;obtain⟨⟨d,S1⟩,e1,e2⟩:=aR.mp hf;cases e2;obtain⟨C',hC',kk⟩:=kk;rw[hK.mg] at hC';cases hC';obtain⟨nm,qn,N,bs,bm,hd,sn,sub,ab,col,dd,k0,k1,k2,k3,k5,mN,o1,o2,o3,o4,_⟩:=J8 I.mod.kin hK.cls;have hst:starEach [e] X.env=(false,eval e X.env)::[]:=iy he [] X.env;refine wpAny_Raise_call_subT (nm:=nm) (q:=qn) (C:=C) (N:=N) (bs:=bs) (bm:=bm) (hdct:=hd) (sn:=sn) (sub:=sub) (ab:=ab) (col:=col) (dd:=dd) (k0:=k0) (k1:=k1) (k2:=k2) (k3:=k3) (k5:=k5) (mN:=mN) PySem.F.excBase_ValueError (o4.hasType PySem.F.excBase_ValueError.hasBase) (I.ok.hd hc) (by rw[hst];rfl) o3 (tR I hg hK.mg ⟨rfl,?_⟩ hdb);rw[hst];refine PySem.Calls.evalArgs_plain (Calls.spliced_cons (bK (ha pins s σ H (λ_ H1=>∃α1,aq X.K H1 α1 S1/\Ext X.K H α H1 α1) I ⟨σd,S,α,d,_,hv,hs,e1,λv H1 α1 s1 x1 r1=>⟨α1,s1,x1⟩⟩) λu s1 ⟨v,H1,I1,r1,α1,t1,x1⟩=>Calls.spliced_nil ?_));exact⟨rfl,by show 1<=sizeLine;decide,I1.bk _ _ o1,o2.keeps I1.bk,o4.keeps I1.bk,λh' e hm=>hx.made pins σ H1 s1 h' e C _ I1 hm (kk H1 α1 t1 x1)⟩
end
end MX
end
section
namespace MX
open PySem PySem.Spec PySem.W PySem.Calls PyProof.Rows L2 Builtin Builtin.ObjectAttr Builtin.Getset_descriptor
def ExcAt(e D:Addr)(h:Heap):Prop:=∃o,h.get? e=some o/\o.cls = .ref D/\∃vs,o.data = .fields vs
def ExcAt.ty{e D:Addr}{M:Model}(x:ExcAt e D h):Looks M h (typeOf (.ref e)) (.ref D):=let ⟨_,a,b,_⟩:=x;b ▸ (Looks.ld a).andThen .now
theorem zpe{M:Model}{D:Addr}(X:K.In h)(q:(clsIn K D).isSome=true):Looks M h (isType (.ref D)) true:=by
 unfold clsIn at q;split at q
 .rename_i ho;intro A' Q' E' s' k z;unfold isType loadHead;refine aF ?_;exact wpAny_loadPart (k _ _ (X _ _ ho)) (bT z)
 .cases q
section
variable {prog:Program}{w:World}{A:Around}{E:Value->Shared->Prop}{s:Shared}{K:FgA}{e D:Addr}
theorem zjn{R:Result->Shared->Prop}{tp:Value}(X:K.In s.heap)(I:ExcAt e D s.heap)(hm:mroIn K D (.type "object")=some true)(h:R (.ok (.ret (.ref D))) s):
 codeAny (model prog w) A (.call (.builtin "getset_descriptor.__get__") ⟨[.builtin "object.__class__",.ref e,tp],[]⟩) R s:=by
 obtain⟨h0,g,d,t,o⟩:=s;have L0:=I.ty (M:=model prog w);have L1:=looks_mroIn (M:=model prog w) X hm;refine codeAny_call_builtin KF.slot_gs.plain KF.entry_gs ?_;refine KF.slot_gs.check _ _ _ _ _ _ _ _ KF.type_class (KF.args_gs _ _ _) ?_;unfold Builtin.«getset_descriptor.__get__» descrGet;rw[dga_obj];refine aF (bT ?_);unfold descrGetter descrCheckInstance descrNameAndClass isInstance;simp only[KF.owner_class]
 repeat lk
 refine⟨Code.quiet_builtin _ (by decide +kernel),?_⟩;refine codeAny_builtin KF.entry_class ?_;unfold Builtin.«object.__class__» shownTypeOf
 repeat lk
 exact h
theorem zk3{Q:Option Value->Shared->Prop}(X:K.In s.heap)(I:ExcAt e D s.heap)(f:vp K D=true)(h:Q (some (.ref D)) { s with toks:=s.toks+1 }):wpAny (model prog w) A (getAttr? (.ref e) "__class__") Q E s:=by
 unfold vp at f;simp only[cL,beq_iff_eq] at f;obtain⟨⟨p1,p2,p3⟩,f2,f3,f4,f5,f6⟩:=f;obtain⟨h0,g,d,t,os⟩:=s;have L0:=I.ty (M:=model prog w);have L1:=looks_findIn (M:=model prog w) X p1;have L2:=looks_findIn (M:=model prog w) X p2;have L3:Looks (model prog w) h0 (find (.ref e) (.ref D) "__class__") (.bind (.builtin "getset_descriptor.__get__") (.builtin "object.__class__")):=by refine(looks_findIn X f3).andThen ((looks_specialIn X f4).andThen ?_);refine(show Looks (model prog w) h0 (dataDescriptor? (some (.builtin "object.__class__")) (some (.builtin "getset_descriptor.__get__"))) (some (_,_)) from(looks_takesIn X f5).andThen .now).andThen ?_;exact Looks.tag .now
 have L4:=looks_mroIn (M:=model prog w) X p3;have hk:builtinKind "BaseException.__getattribute__" = some .slot:=by decide +kernel
 have hsp:splitId "BaseException.__getattribute__" = some ("BaseException", "__getattribute__"):=by decide +kernel
 unfold getAttr? getAttrBy? getAttrBy;refine aF (wpAny_mkText (aF (wpAny_attempt (wpAny_holding ?_))));refine aF (L0.at (aF (L1.at ?_)));show wpAny _ _ (getAttrByItsOwn _ _ _ _ _ _) _ _ _;unfold getAttrByItsOwn hookBefore;refine aF (L2.at (aF (wpAny_attempt (wpAny_holding ?_))));show wpAny _ _ (boundAndCalled _ _ _) _ _ _;unfold boundAndCalled;rw[PySem.F.excAttr_ValueError.ga.bind];refine aF (bT (wpAny_call ?_));refine codeAny_call_builtin PySem.F.excAttr_ValueError.ga.plain PySem.F.entry_bexc_ga ?_;have ha:=PySem.F.args_bexc_ga (.ref e) (.str "__class__" t);simp only[checkBuiltinCall,hk,hsp];have LI:Looks (model prog w) h0 (isInstance (.ref e) (.type "BaseException")) true:=L0.andThen L4;refine aF (LI.at ?_);simp only[Bool.not_true,Bool.false_eq_true,if_false]
 repeat wp_step
 obtain⟨o,a1,a2,a3⟩:=id I;refine wpAny_loadPart_at a1 (bT ?_);show wpAny _ _ (find (.ref e) o.cls "__class__" >>= _) _ _ _;rw[a2];refine aF (L3.at ?_);show wpAny _ _ (bindTo _ _ (.ref e) _) _ _ _;unfold bindTo;show wpAny _ _ (holding [_] (call _ [_,.ref e,.ref D]) >>= ret) _ _ _;refine aF (wpAny_holding (wpAny_call ?_));refine zjn (s:=⟨h0,g,d,t+1,os⟩) X I f6 ?_;exact bT (handed_on rfl (bT h))
end
theorem zms{e D:Addr}(f:vp K D=true):KitX K (.ref e) (.ref D) (ExcAt e D):=by
 have f2:(clsIn K D).isSome=true:=by unfold vp at f;simp only[cL] at f;exact f.2.1
 refine⟨λM h _ p=>p.ty,λM h X _=>zpe X f2,λh tp dd its n sl X htp=>?_,λX I k=>zk3 X I f k⟩;refine Bool.eq_false_iff.mpr λq=>?_;have z:D=tp:=Value.ref.inj (beq_iff_eq.mp q);subst z;unfold clsIn at f2;split at f2
 .rename_i ho;have z:=X _ _ ho;rw[htp] at z;cases z
 .cases f2
end MX
end
section
namespace MX
open PySem PySem.Spec PySem.W PySem.Calls PyProof.Rows L2
noncomputable def qm(e D:Addr):HO := .ext (ExcAt e D)
def zpf{P:Program}{e D:Addr}(x:ExcAt e D h):bJ P w H h e (qm e D) :=
 ⟨x,let ⟨o,a,_⟩:=x;⟨o,a⟩,λh1 h2 y k=>let ⟨o,a,b⟩:=y;⟨o,k o a,b⟩⟩
noncomputable def wZ:V->Option Value
 |.ref a=>some (.ref a)
 |.ty n=>some (.type n)
 |_=>none
def zpB{c:V}{u v:Value}(h:wZ c=some v)(r:RelV c u):u=v:=by cases c<;>cases h<;>exact r
def xV(H:Hp)(e D:Addr):Prop:=∃φ:Heap->Prop,H e=some (.ext φ)/\∀h,φ h->ExcAt e D h
def zpg{e D:Addr}(h:H e=some (qm e D)):xV H e D:=⟨_,h,λ_ q=>q⟩
noncomputable def Cu(K:FgA):List V->Hp->VK->Prop:=λxs H Q=>∃e D c v b,xs=[.ref e,c]/\xV H e D/\vp K D=true/\wZ c=some v/\kitOne K (.ref D) v=some b/\Q (.bl b) H
section
variable {X:Cx}
theorem zmR:gQ X (.builtin "isinstance") (Cu X.K):=by
 intro pins s σ H xs us Q I rs h;obtain⟨e,D,c,v,b,rfl,⟨φ,h1,hφ⟩,h2,h3,h4,q⟩:=h;cases rs with
 |cons r1 rs=>cases rs with
  |cons r2 rs =>
   cases rs;have e1:=zpB h3 r2;cases r1;subst e1;refine kia_one (zms h2) I.kIn (hφ _ (show bJ X.prog X.w H s.heap e (.ext φ) from I.hok e _ h1).1) h4 (by intro z;cases z) λtk=>?_;exact⟨.bl b,H,I.tok _,rfl,q⟩
theorem JX:∀{bs:List Bool} {us:List Value},Vals (bs.map V.bl) us->us=bs.map Value.bool
 |[],_,h=>by cases h;rfl
 |b::bs,_,h=>by
  cases h with
  |cons a r=>cases a;rw[JX r];rfl
noncomputable def mC:Value->Bool:=λv=>v == .bool true
theorem RN(b:Bool):SeqAt.EqAt A s (.bool b) (.bool true) (mC (.bool b)):=by
 have e:mC (.bool b)=(b==true):=by cases b<;>rfl
 have:=SeqAt.EqAt.bool_bool (A:=A) (s:=s) b true;cases b<;>exact this
noncomputable def ux(K:FgA):V->List V->Hp->VK->Prop:=λx xs H Q=>∃a,∃bs:List Bool,x = .ref a/\xs=[.bl true]/\cQ K H a (bs.map V.bl)/\Q (.int (bs.count true:Nat)) H
theorem zks:o6 X "list.count" (ux X.K):=by
 intro pins s σ H x xs v us Q I r rs h;obtain⟨a,bs,rfl,rfl,hq,q⟩:=h;cases r;cases rs with
 |cons r1 rs =>
  cases r1;cases rs;obtain⟨its,rv,⟨⟨cls,dd,data,sl⟩,n,e,c,hd,hdat⟩,hz⟩:=I.list hq;have ei:=JX rv;simp only at c hd hdat
  subst c hdat ei;refine call_meets PySem.F.slot_list_count ⟨_,e,rfl⟩ PySem.F.entry_list_count (PySem.F.args_list_count_2 _ _) (SeqAt.list_countAt a _ n dd sl (.bool true) mC) ⟨e,λy hy=>?_,?_⟩
  .obtain⟨b,_,rfl⟩:=List.mem_map.mp (by simpa using hy:y∈bs.map Value.bool);exact RN b
  .have e2:((bs.map Value.bool).toArray.toList.countP mC)=bs.count true:=by
    show(bs.map Value.bool).countP mC=_;clear rv hq q hz e
    induction bs with
    |nil=>rfl
    |cons b bs ih=>rw[iU,List.countP_cons,List.count_cons,ih];cases b<;>rfl
   rw[e2];exact⟨.int (bs.count true:Nat),H,I.tok _,⟨_,rfl⟩,q⟩
noncomputable def uw(K:FgA):V->List V->Hp->VK->Prop:=λx xs H Q=>∃a,∃bs:List Bool,∃j,x = .ref a/\xs=[.bl true]/\cQ K H a (bs.map V.bl)/\bs[j]?=some true/\(∀m,m<j->bs[m]?=some false)/\Q (.int (j:Nat)) H
theorem zkq:o6 X "list.index" (uw X.K):=by
 intro pins s σ H x xs v us Q I r rs h;obtain⟨a,bs,j,rfl,rfl,hq,h1,h2,q⟩:=h;cases r;cases rs with
 |cons r1 rs =>
  cases r1;cases rs;obtain⟨its,rv,⟨⟨cls,dd,data,sl⟩,n,e,c,hd,hdat⟩,hz⟩:=I.list hq;have ei:=JX rv;simp only at c hd hdat
  subst c hdat ei;obtain⟨hj,hj2⟩:=eV.mp h1;have hs:(bs.map Value.bool).toArray.size=bs.length:=by simp
  have hl:bs.length<=sizeLine:=by simpa using hz
  have hsm:(sizeLine:Int)<2 ^ 63 - 1:=by decide
  refine call_meets PySem.F.slot_list_index ⟨_,e,rfl⟩ PySem.F.entry_list_index (PySem.F.args_list_index_2 _ _) (SeqAt.list_indexAt a _ n dd sl (.bool true) mC j (by rw[hs];exact hj) (by omega) ?_ λm hm hmj=>?_) ⟨e,λy hy=>?_,?_⟩
  .simp only[List.getElem_toArray,List.getElem_map,hj2];rfl
  .obtain⟨hm1,hm2⟩:=eV.mp (h2 m hmj);simp only[List.getElem_toArray,List.getElem_map,hm2];rfl
  .obtain⟨b,_,rfl⟩:=List.mem_map.mp (by simpa using hy:y∈bs.map Value.bool);exact RN b
  .exact⟨.int (j:Nat),H,I.tok _,⟨_,rfl⟩,q⟩
end
def Gj{σ:L2.St}(I:Inv X pins σ H s)(A':Around)(c:Bool)(x:Value->Shared->Prop)(hd:c=true->A'.handled=none)(fr:A'.frames=X.A.frames):Inv { X with A:=A',calm:=c,xe:=x } pins σ H s :=
 ⟨{ I.ok with hd:=hd,frames:=fr.trans I.ok.frames },I.os,I.bare,I.base,I.loc,I.cell,I.free,I.freeC,I.pin,I.hok,I.len⟩
noncomputable def tE(A:Around):Around:={ A with handled:=none }
noncomputable def Qq(P:Program)(w:World)(K:FgA)(mg:Str->Option Value)(base:Heap)(k:Nat)(f:Addr)(fd:FuncData)(ps:List Str)(sp:List V->Hp->VK->Prop):Prop :=
 ∀(A:Around) (outer:List Env) (s:Shared) (H:Hp) (args:Args) (us:List Value) (vs:List V) (Q:VK),aU k (tE A)->iu P w K mg base A outer s H->BindsTo s fd args (ps.zip us)->Vals vs us->vs.length=ps.length->sp vs H Q ->
  codeAny (model P w) A (.call (.ref f) args) (CR fV outer P w H s Q E0) s
noncomputable abbrev Qe(P:Program)(w:World)(K:FgA)(mg:Str->Option Value)(base:Heap)(N:List Str)(qual:Str)(scope:Scope)(f:Addr)(cd:Value)(A:Around)(outer:List Env)(s:Shared)(H:Hp):Cx :=
 { jR fV P w K mg base N qual scope f cd (tE A) outer s H E0 with A:=A.deeper (envOfC qual scope s.heap.objs.size f cd),calm:=false,xe:=λ_ _=>False }
theorem Yp{P:Program}{body:List Stmt}{dV kV doc pm ct oc:Value}{an od:Option Addr}(lk:K.lookup f=some ⟨oc,od,.func (PySem.W.fnOf name qual params body scope dV kV doc pm an cdv ct),osl⟩)(hcd:PySem.W.codeIn K cdv qual=true)(S:jA N ps scope)(hbody:∀(A:Around) (outer:List Env) (s:Shared) (H:Hp) (vs:List V) (Q:VK),sp vs H Q ->
  ∃t,fM (Qe P w K mg base N qual scope f cdv A outer s H) body t/\t { nx:=λ_ H'=>Q .non H',rt:=Q } (start N vs) H):
 Qq P w K mg base (k+1) f (PySem.W.fnOf name qual params body scope dV kV doc pm an cdv ct) ps sp:=by
 intro A outer s H args us vs Q hr e0 hb r hl hsp;have KX:K.In s.heap:=e0.mod.kin.keeps λb o e=>(e0.bs b o e).1;have lim:s.heap.NoLimit:=e0.mod.nolimit.keeps λb o e=>(e0.bs b o e).1;have hkind:∀y∈ps.zip us,scope.names.lookup y.1=some .local\/(scope.names.lookup y.1=some .cell/\((cellsFrom (s.heap.objs.size+1) scope.names []).lookup y.1).isSome=true):=fun⟨n,v⟩ hy=>by
  rcases S.par n (List.of_mem_zip hy).1 with q|q
  .exact .inl q
  .exact .inr ⟨q,PySem.W.cellsFrom_some _ _ _ (.inl q)⟩
 have Px:A.depth<recursionLimit:=(hr.depth:(tE A).depth<recursionLimit)
 refine codeAny_call_function Px (KX _ _ lk) rfl S.co S.gen rfl (PySem.W.codeRec_of KX hcd) (hb _ _ _ _ ?_);refine wpAny_newFunctionEnv_cells S.kind hkind λenv he s1 x=>?_;subst he;refine⟨lim.keeps x.toInCall.keep,codeAny_func ?_⟩;obtain⟨t,ht,hq⟩:=hbody A outer s H vs Q hsp;have e1:iu P w K mg base (tE A) outer s H:=⟨e0.frames,e0.mod,e0.bs,e0.bsz,e0.funs,e0.frf,e0.hok,e0.bare⟩
 have J0:Inv (jR fV P w K mg base N qual scope f cdv (tE A) outer s H E0) [] (start N vs) H s1:=Vj S rfl e1 hl r x;have I:=Gj J0 (A.deeper (envOfC qual scope s.heap.objs.size f cdv)) false (λ_ _=>False) (λz=>by cases z) rfl;refine iw (ht [] s1 (start N vs) H _ I hq) (λfl s' hs=>?_) λe s' hs=>False.elim hs;have fin:∀{σ':L2.St} {H':Hp} {v:V} {u:Value},Inv (Qe P w K mg base N qual scope f cdv A outer s H) [] σ' H' s'->RelV v u->Q v H'->CE outer P w H s Q u s' :=
  λ{σ' H' v u} J rv q=>⟨v,H',J.os,J.bare,J.base,J.hok,rv,q⟩
 cases fl with
 |ret u =>
  obtain⟨v,σ',H',J,rv,q⟩:=hs;exact fin J rv q
 |next =>
  obtain⟨σ',H',J,q⟩:=hs;exact fin (v:=V.non) (u:=Value.none) J rfl q
 |brk =>
  obtain⟨_,_,_,q⟩:=hs;exact False.elim q
 |cont =>
  obtain⟨_,_,_,q⟩:=hs;exact False.elim q
theorem zmg{t:TA}(F:Qq X.prog X.w X.K X.mg X.base k f fd ps sp)(hr:aU k (tE X.A))(hg:Gl X x)(hm:X.mg x=some (.ref f))(hk:PySem.W.keepIn X.K (.ref f)=true)(hb:Binds X.K fd ps [])(ha:PA X (e::es) t)(hdb:(x==("__debug__" : Str))=false:=by decide)(he:starEach (e::es) X.env=(false,eval e X.env)::starEach es X.env:=by rfl)(hpl:(backTo pos (starEach es X.env)).any (·.1)=false:=by rfl):
 PE X (.Call (.Name x p) (e::es) [] pos) (λσ H Q=>t σ H λvs H1=>vs.length=ps.length/\sp vs H1 Q):=by
 intro pins s σ H Q I h;refine wpAny_Call_Name_kw (tR I hg hm ?_ hdb);refine PySem.W.callWith_K (h₀:=X.base) I.ok.mod.kin hk (bK (ha pos pins s σ H _ I h) λus s1 ⟨vs,H1,I1,r,hl,q⟩=>⟨I1.kIn,?_⟩) he hpl;have r2:Vals (vs++[]) (us++[]):=r.append .nil;rw[List.append_nil,List.append_nil] at r2;have hl2:(us++[]).length=ps.length:=by rw[List.append_nil,<-r.length];exact hl
 have hb':=hb s1 us I1.kIn hl2;rw[List.append_nil] at hb';refine wpAny_call (codeAny_mono (F X.A X.stack s1 H1 ⟨us,[]⟩ us vs Q hr I1.env0 hb' r2 hl q) λr s' hq=>?_);cases r with
 |error e=>exact hq.elim
 |ok fl =>
  cases fl with
  |ret u=>exact I1.after hq
  |next=>exact False.elim hq
  |brk=>exact False.elim hq
  |cont=>exact False.elim hq
structure ye(K:FgA)(mg:Str->Option Value)(c:Nat->Addr)(cH:Addr):Prop where
 name:∀i<4,mg (wn i)=some (.ref (c i))
 hit:mg "HitError" = some (.ref cH)
 fact:∀i<4,vp K (c i)=true
 kit:∀i<4,∀j<4,kitOne K (.ref (c i)) (.ref (c j))=some (decide (i=j))
 kitH:∀i<4,kitOne K (.ref (c i)) (.ref cH)=some true
 kitV:∀i<4,kitOne K (.ref (c i)) (.type "ValueError")=some true
 isi:mg "isinstance" = none
 val:mg "ValueError" = none
noncomputable def QD(c:Nat->Addr):List V->Hp->VK->Prop:=λvs H Q=>∃e i,vs=[.ref e]/\i<4/\xV H e (c i)/\∀H',(∀b o,H b=some o->H' b=some o)->Q (.str (wn i)) H'
noncomputable def sy(K:FgA)(v:V):TE:=Og (Cu K) (jL (oh 0) (jL (tC v) qu))
noncomputable def vP(s0 s1 s2 s3:Str):TE:=vV (jL (tC (.str s0)) (jL (tC (.str s1)) (jL (tC (.str s2)) (jL (tC (.str s3)) qu))))
noncomputable def HS(K:FgA)(c:Nat->Addr)(cH:Addr)(z:Str):TS :=
 ou (vX (vV (jL (sy K (.ref (c 0))) (jL (sy K (.ref (c 1))) (jL (sy K (.ref (c 2))) (jL (sy K (.ref (c 3))) qu))))) (Ih 1))
  (ou (BJ (Ob (ug (zm Xu (Oi K "list" (ux K) (oh 1) (jL (tC (.bl true)) qu)) (tC (.int 1)))) (Ob (vU (tB (sy K (.ref cH)))) (vU (tB (sy K (.ty "ValueError")))))) (ou (qW (tC (.str z))) xX) xX)
   (ou (qW (zm (Cr K) (vP (wn 0) (wn 1) (wn 2) (wn 3)) (Oi K "list" (uw K) (oh 1) (jL (tC (.bl true)) qu)))) xX))
noncomputable def oW(i:Nat):List Bool:=[decide (i=0),decide (i=1),decide (i=2),decide (i=3)]
def zk1:∀i<4,(oW i).count true=1
 |0,_=>rfl
 |1,_=>rfl
 |2,_=>rfl
 |3,_=>rfl
theorem Yo:∀i<4,(oW i)[i]?=some true/\∀m,m<i->(oW i)[m]?=some false
 |0,_=>⟨rfl,λm hm=>by omega⟩
 |1,_=>⟨rfl,fun|0,_=>rfl⟩
 |2,_=>⟨rfl,fun|0,_=>rfl|1,_=>rfl⟩
 |3,_=>⟨rfl,fun|0,_=>rfl|1,_=>rfl|2,_=>rfl⟩
def Y8:∀i:Nat,i<4->gq [V.str (wn 0),.str (wn 1),.str (wn 2),.str (wn 3)] (i:Int)=some (.str (wn i))
 |0,_=>rfl
 |1,_=>rfl
 |2,_=>rfl
 |3,_=>rfl
theorem ziR(T:ye K mg c cH){z:Str}{D:qj}{e:Nat}(hi:i<4)(he:xV H e (c i))(h:∀H',(∀b o,H b=some o->H' b=some o)->D.rt (.str (wn i)) H'):
 HS K c cH z D [some (.ref e),none] H:=by
 have isi:∀(σ:L2.St) (H:Hp) (v:V) (u:Value) (b:Bool) (Q:VK),σ[0]?=some (some (.ref e))->xV H e (c i)->wZ v=some u->kitOne K (.ref (c i)) u=some b->Q (.bl b) H->sy K v σ H Q:=λσ H v u b Q h0 h1 h2 h3 h4 =>
  ⟨.ref e,h0,⟨e,c i,v,u,b,rfl,h1,T.fact i hi,h2,h3,h4⟩⟩
 refine isi _ H _ _ _ _ rfl he rfl (T.kit i hi 0 (by decide)) (isi _ H _ _ _ _ rfl he rfl (T.kit i hi 1 (by decide)) (isi _ H _ _ _ _ rfl he rfl (T.kit i hi 2 (by decide)) (isi _ H _ _ _ _ rfl he rfl (T.kit i hi 3 (by decide)) ⟨by show 4<=sizeLine;decide,λp hp=>?_⟩)));have hH:∀b o,H b=some o->upd H p (.lst ((oW i).map V.bl)) b=some o:=λb o q=>by rw[bN (fD q hp)];exact q
 have hl:cQ K (upd H p (.lst ((oW i).map V.bl))) p ((oW i).map V.bl) := .inl (.inl dU);have hc:=zk1 i hi;have he2:xV (upd H p (.lst ((oW i).map V.bl))) e (c i):=let ⟨φ,a,b⟩:=he;⟨φ,hH _ _ a,b⟩;obtain⟨x1,x2⟩:=Yo i hi;refine⟨.ref p,rfl,.inl ⟨rfl,_,hl⟩,⟨p,oW i,rfl,rfl,hl,rfl,_,rfl,?_⟩⟩;rw[hc];refine isi _ _ _ _ _ _ rfl he2 rfl (T.kitH i hi) ⟨true,rfl,?_⟩;refine isi _ _ _ _ _ _ rfl he2 rfl (T.kitV i hi) ⟨true,rfl,?_⟩;refine⟨by show 4<=sizeLine;decide,λq hq=>?_⟩;have hqp:p≠q:=λz=>by rw[<-z,dU] at hq;cases hq
 have hl2:cQ K (upd (upd H p (.lst ((oW i).map V.bl))) q (.lst [.str (wn 0),.str (wn 1),.str (wn 2),.str (wn 3)])) p ((oW i).map V.bl) := .inl (.inl (by rw[bN hqp,dU]));refine⟨.ref p,rfl,.inl ⟨rfl,_,hl2⟩,⟨p,oW i,i,rfl,rfl,hl2,x1,x2,?_⟩⟩;refine⟨q,_,(i:Int),.str (wn i),rfl,rfl,.inl (.inl dU),?_,h _ λb o e=>?_⟩
 .exact Y8 i hi
 .rw[bN (fD (hH b o e) hq)];exact hH b o e
section
variable {X:Cx}{pins:List (Addr×Obj)}{σ:L2.St}{H:Hp}{s:Shared}
theorem Ka{t:Value}(fl:Heap.FlyingW B l a (.ref C) t h):ExcAt a C h:=by obtain⟨_,_,_,oe,vs,_,_,_,he,hc,hd,_⟩:=fl;exact⟨oe,he,hc.1,vs,hd⟩
theorem Td(I:Inv X pins σ H s){s':Shared}{t:Value}(F:mL X.prog X.w X.stack H s a C B H' s')(fl:Heap.FlyingW B X.stack a (.ref C) t h')(up:s'.heap.UpToSlots h'):
 Inv X pins σ (upd H' a (qm a C)) { s' with heap:=h' }/\H' a=none:=by
 obtain⟨t',Dp⟩:=F.fl;have nB:B.get? a=none:=fl.2.1;have hn:H' a=none:=by
  cases q:H' a with
  |none=>rfl
  |some u =>
   obtain⟨o,e⟩:=F.tr a u q;rw[nB] at e;cases e
 have new:∀b o,s.heap.get? b=some o->b≠a:=λb o e z=>by
  subst z;by_cases hf:b∈frs X.stack
  .obtain⟨_,o',e',nf⟩:=I.stack.mem hf;obtain⟨sl,e2⟩:=F.un.slot b o' e' (I.stkFree b hf) hf (by simp);obtain⟨o3,e3,_,vs,d3⟩:=Ka Dp;rw[e2] at e3;cases e3;exact nf vs d3
  .obtain⟨o',e'⟩:=F.inB b o e hf;rw[nB] at e';cases e'
 have hold:∀b u,H' b=some u->upd H' a (qm a C) b=some u:=λb u e=>by rw[bN (fD e hn)];exact e
 refine⟨I.call' (ch:=[]) (s':={ s' with heap:=h' }) F.os ⟨λb o e n hf _=>?_,λb o e n hf _=>?_,λb o e n _=>?_,λb o e _=>?_,λb xs q=>hold b _ (F.un.tups b xs q),λb o u q=>hold b _ (F.un.frzs b o u q),λb ps q=>?_⟩ ?_ F.bare λb z=>absurd z (by simp),hn⟩
 .have e2:=F.un.keep b o e n hf (by simp);obtain⟨o',e3⟩:=F.inB b o e hf;have e4:=Dp.1 _ _ e3;rw[e2] at e4;cases e4;exact fl.1 _ _ e3
 .obtain⟨sl,e2⟩:=F.un.slot b o e n hf (by simp);obtain⟨_,o',e',nf⟩:=I.stack.mem hf;rw[e] at e';cases e';obtain⟨G9,e4⟩:=up b _ e2 nf;exact⟨G9,e4⟩
 .rw[bN (new b o e)];exact F.un.free b o e n (by simp)
 .by_cases hf:b∈frs X.stack
  .obtain⟨sl,e2⟩:=F.un.slot b o e (I.stkFree b hf) hf (by simp);obtain⟨_,o',e',nf⟩:=I.stack.mem hf;rw[e] at e';cases e';obtain⟨G9,e4⟩:=up b _ e2 nf;exact⟨_,e4⟩
  .obtain⟨o',e3⟩:=F.inB b o e hf;exact⟨o',fl.1 _ _ e3⟩
 .obtain⟨m,e⟩:=F.un.tbls b ps q;exact⟨m,hold b _ e⟩
 .have k:fJ X.prog X.w H' h':=QJ F.hok Dp.1 fl.1 F.tr;intro b u e;by_cases hb:b=a
  .subst hb;rw[dU] at e;cases e;exact zpf (Ka fl)
  .rw[bN hb] at e;exact(k b u e).stay (λ_ _ _ q=>q) (λc q=>hold c _ q) λc xs q=>hold c _ q
theorem zmu(I:Inv X pins σ H s){m':Str->Option Value}{t':Nat}(hn:h'.Ns X.env.locals m')(hs:Heap.SameBut X.env.locals s.heap h'):Inv X pins (σ.map λ_=>none) H { s with heap:=h',toks:=t' }:=by
 have nl:∀b o,X.s₀.heap.get? b=some o->b≠X.env.locals:=λb o e=>dh (dg (cg e) I.ok.above);refine⟨I.ok,I.os,I.bare,⟨λb o e n hb hx=>(hs.2 b (nl b o e)).trans (I.base.keep b o e n hb hx),λb o e n hb hx=>?_,I.base.free,λb o e hx=>?_,I.base.tups,I.base.frzs,I.base.tbls⟩,⟨m',hn,λj y v e1 e2 _=>?_⟩,λy c e=>?_,I.free,I.freeC,λp hp=>?_,λb ob e=>?_,by simpa using I.len⟩
 .obtain⟨sl,e1⟩:=I.base.slot b o e n hb hx;exact⟨sl,(hs.2 b (nl b o e)).trans e1⟩
 .obtain⟨o',e1⟩:=I.base.there b o e hx;exact⟨o',(hs.2 b (nl b o e)).trans e1⟩
 .rw[gG] at e2;cases q:σ[j]? with
  |none=>rw[q] at e2;cases e2
  |some z=>rw[q] at e2;cases e2
 .obtain⟨v,o,e1,e2⟩:=I.cell y c e;exact⟨v,o,(hs.2 c (I.cne y c e)).trans e1,e2⟩
 .obtain⟨p1,p2,p3,p4,p5⟩:=I.pin p hp;exact⟨(hs.2 _ p3).trans p1,p2,p3,p4,p5⟩
 .refine(I.hok b ob e).stay (λc w' hc q=>(hs.2 c ?_).trans q) (λ_ q=>q) λ_ _ q=>q
  rintro rfl
  rcases hc with rfl|hc
  .rw[I.free] at e;cases e
  .rw[I.free] at hc;cases hc
end
theorem zk4{M:Model}{Q:Bool->Shared->Prop}{e CH:Addr}{n1 n2:String}(X:K.In s.heap)(hC:excIn K C gD n1=true)(hH:excIn K CH gD n2=true)(hm:mroIn K C (.ref CH)=some true)(he:ExcAt e C s.heap)(h:Q true s):wpAny M A (excMatches (.ref e) (.ref CH)) Q E s:=by
 obtain⟨h0,g,d,tk,os⟩:=s;obtain⟨oe,he,hcls,_⟩:=he;obtain⟨nm,qn,N,bs,bm,hd,sn,sub,ab,col,dd,k0,k1,k2,k3,k5,mN,o1,_,_,_,o,cd,lk,dt,em⟩:=J8 X hC;obtain⟨nm',qn',N',bs',bm',hd',sn',sub',ab',col',dd',k0',k1',k2',k3',k5',mN',p1,_,_,p4,_⟩:=J8 X hH;have hcB:(Value.ref CH::bm').contains (.type "BaseException")=true:=by rw[List.contains_cons,p4.hasType (by rfl:gD.contains (.type "BaseException")=true),Bool.or_true]
 have hcC:(Value.ref C::bm).contains (.ref CH)=true:=by unfold mroIn clsIn at hm;rw[lk] at hm;obtain⟨oc,od,dat,osl⟩:=o;cases dt;simp only[bQ] at hm;rw[em] at hm;simpa using hm
 have f:=tc_notTuple;unfold excMatches
 repeat (first
  | (with_reducible refine wpAny_loadPart_at he ?_;rw[hcls])
  |with_reducible refine wpAny_loadPart_at p1 ?_
  | (with_reducible refine wpAny_isSubtype_exc p1 ?_;rw[hcB])
  | (with_reducible refine wpAny_isSubtype_exc o1 ?_;rw[hcC])
  |wp_step)
 exact h
structure mK(scope:Scope)(cl:List (Str×Addr)):Prop where
 kind:scope.kind = .function
 co:scope.isCoroutine=false
 gen:scope.isGenerator=false
 nocell:∀x∈scope.names,x.2 ≠ .cell
 has:∀x,scope.names.lookup x=some .free->∃c,cl.lookup x=some c
 inj:∀x y c,cl.lookup x=some c->cl.lookup y=some c->x=y
theorem zo0{P:Program}{pm ctv:Value}{cap:List Str}{sp:Sp}{Pt:Addr}(ho:base.get? a=some o)(hod:o.data = .func (kla_fn name qual params body scope cl pm cdv ctv))(hcd:∀vs H Q E,sp vs H Q E->∃ps,H Pt=some (.tbl ps)/\codeAmong aX ps.toList=some cdv)(S:mK scope cl)(hcells:∀x c,cl.lookup x=some c->∃v,base.IsCell c v)(hcap:∀(i:Nat) x v,cap[i]?=some x->cF[i]?=some v->scope.names.lookup x=some .free/\∃c u,cl.lookup x=some c/\base.IsCell c (some u)/\RelV v u)(hlen:cap.length=cF.length)(len:∀vs H Q E,sp vs H Q E->vs.length=0)(hbody:∀(qual:Str) (A:Around) (outer:List Env) (s:Shared) (H:Hp) (Q:VK) (E:XK),aU k (A.deeper (envX qual scope s.heap.objs.size a cdv cl))->sp [] H Q E ->
  ∃t,PE (oY P w K mg base cap qual scope a cdv cl A outer s H E) body t/\t (cF.map some) H Q):
 bO P w K mg base (mO P w) (k+1) a (kla_fn name qual params body scope cl pm cdv ctv) [] sp:=by
 refine⟨len,λA outer s H args us vs Q E hr e0 hb r hsp=>?_⟩;have hl:=len _ _ _ _ hsp;obtain rfl:vs=[]:=List.length_eq_zero_iff.mp hl;cases r;have bk:∀b o,base.get? b=some o->s.heap.get? b=some o:=λb o e=>(e0.bs b o e).1;have lim:s.heap.NoLimit:=e0.mod.nolimit.keeps bk;obtain⟨ps,hps,ham⟩:=hcd _ _ _ _ hsp;obtain⟨_,_,hcp⟩:=e0.hok Pt _ hps;obtain⟨cc,q,oc,vs,tq,hc1,_,hc2,hc3,hc4⟩:=hcp aX cdv ham;have cr:s.heap.CodeRec cdv q:=⟨cc,oc,vs,tq,hc1,hc2,hc3,hc4⟩
 obtain⟨t,ht,hq⟩:=hbody q A outer s H Q E (hr.deeper _) hsp;refine QG hr.depth (bk _ _ ho) hod S.co S.gen rfl cr (hb _ _ _ _ ?_);refine wpAny_newFunctionEnv S.nocell (λy hy=>absurd hy (by simp)) (λh₁ hns hsb=>⟨lim.fresh _ hsb,?_⟩) S.kind;show codeAny _ _ (.expr body (envX q scope s.heap.objs.size a cdv cl)) _ _;have hk₁:∀b o,s.heap.get? b=some o->h₁.get? b=some o:=λb o e=>hsb.extBut b o (dh (cg e)) (cX _ e);have cellK:∀c v,base.IsCell c v->h₁.IsCell c v:=λc v ⟨o,e,d⟩=>⟨o,hk₁ _ _ (bk _ _ e),d⟩
 have mz:∀b:Addr,b∉(pZ P w K mg base cap q scope a cdv cl A outer s H E).ex:=λb z=>absurd (show b∈([]:List Addr) from z) (by simp);have I:Inv (pZ P w K mg base cap q scope a cdv cl A outer s H E) [] (cF.map some) H { s with heap:=h₁,toks:=s.toks+([]:List (Str×Value)).length }:=by
  refine⟨⟨e0.mod,S.kind,rfl,rfl,bZ _,S.inj,λy hy=>?_,λy c hf _=>(nomatch hf),λ_=>hr.hd,Around.frames_deeper e0.frames,.inr ⟨rfl,rfl⟩,λb z=>absurd z (mz b),e0.bs,e0.bsz,λb _ _=>mz b,λb z=>absurd z (mz b),e0.funs,e0.frf⟩,
   rfl,e0.bare,Un.kept hk₁,⟨_,hns,λi y z h1 h2 h3=>?_⟩,λy c h=>?_,e0.hok.fresh (bZ _),λy c h=>?_,λq hq=>absurd (show q∈([]:List (Addr×Obj)) from hq) (by simp),e0.hok.kept hk₁,?_⟩
  .rcases hy with hy|hy
   .exact absurd hy (R0 S.nocell y)
   .exact S.has y hy
  .have e1:cap[i]?=some y:=h1;have e2:cF[i]?=some z:=by
    rw[gG] at h2;cases q:cF[i]? with
    |none=>rw[q] at h2;cases h2
    |some x=>rw[q] at h2;cases h2;rfl
   obtain⟨k1,c,u',k2,k3,k4⟩:=hcap i y z e1 e2;exact⟨u',k4,.inr ⟨.inr k1,c,k2,cellK _ _ k3⟩⟩
  .obtain⟨v',hv⟩:=hcells y c h;exact⟨v',cellK _ _ hv⟩
  .obtain⟨v',o',ho',_⟩:=hcells y c h;exact(e0.bs _ _ ho').2
  .show _=cap.length;simp[hlen]
 refine kla_codeExpr (iw (ht [] _ _ H Q (I.wish _) hq) (λu' s' hs=>?_) λe s' hs=>hs);obtain⟨v',H',J,rv',q⟩:=hs;exact⟨v',H',J.os,J.bare,J.base,J.hok,rv',q⟩
section
variable {X:Cx}{x:Str}{p pos:Pos}{E:XK}{CX:mQ}{pins:List (Addr×Obj)}{σ:L2.St}{H:Hp}{s:Shared}
theorem zpE{sp:Sp}{Q:VK}{EE:Value->Shared->Prop}(F:bO X.prog X.w X.K X.mg X.base CX k a fd [] sp)(hr:aU k X.A)(ho:X.base.get? a=some { cls := .type "function",data := .func fd })(hb:∀s:Shared,BindsTo s fd ⟨[],[]⟩ [])(hN:X.N[i]?=some x)(hv:p7 X.env.scope x)(hdb:(x==("__debug__" : Str))=false)(hcd:(x==("__classdict__" : Str))=false)(I:Inv X pins σ H s)(h1:σ[i]?=some (some (.ref a)))(h2:d8 X.H₀ H->sp [] H Q E)(hx:∀s1 e s',Inv X pins σ H s1->CX X.stack H s1 E e s'->EE e s'):
 wpAny (model X.prog X.w) X.A (eval (.Call (.Name x p) [] [] pos) X.env) (EP X pins σ Q) EE s:=by
 refine wpAny_Call_Name_kw (bK (yt (X:=X.wish EE) hN hv hdb hcd pins s σ H (λv H'=>v=V.ref a/\H'=H) (I.wish EE) ⟨.ref a,h1,rfl,rfl⟩) λu s1 ⟨v,H1,I1,r1,e1,e2⟩=>?_);subst e1 e2;have I1:=I1.unwish;obtain rfl:u=Value.ref a:=r1;refine callWith_of (P:=λh=>h.get? a=some { cls := .type "function",data := .func fd }) rfl zo1 ?_;refine PySem.evalArgs_none ⟨I1.bk _ _ ho,?_⟩;have hsp:=h2 ⟨I1.base.tups,I1.base.tbls,I1.base.frzs⟩;refine wpAny_call (codeAny_mono (F.run X.A X.stack s1 _ ⟨[],[]⟩ [] [] Q E hr I1.env0 (hb s1) .nil hsp) λr s' hq=>?_);cases r with
 |error e=>exact hx s1 e s' I1 hq
 |ok fl =>
  cases fl with
  |ret u=>exact I1.after hq
  |next=>exact False.elim hq
  |brk=>exact False.elim hq
  |cont=>exact False.elim hq
end
noncomputable abbrev Qf(X:Cx)(a:Addr):Cx:={ X with A:=X.A.mark (some (.ref a)),calm:=false,xe:=λ_ _=>False }
noncomputable def wX(c:Nat->Addr)(tS:TS)(j:Nat)(D:qj)(σ:L2.St):XK:=λv _ H'=>∃i,i<4/\v = .ref (c i)/\∀e,H' e=none->tS { nx:=λ_ _=>False,rt:=D.rt } (σ.set j (some (.ref e))) (upd H' e (qm e (c i)))
structure Ip(K:FgA)(c:Nat->Addr)(cH:Addr):Prop where
 cls:∀i<4,excIn K (c i) gD "ValueError.__new__" = true
 clsH:excIn K cH gD "ValueError.__new__" = true
 sub:∀i<4,mroIn K (c i) (.ref cH)=some true
theorem zon{r en hn:Str}{np rpos hpos tpos:Pos}{b₀:Stmt}{suite:List Stmt}{tS:TS}{sp:Sp}(F:bO X.prog X.w X.K X.mg X.base (mO X.prog X.w) k a fd [] sp)(hr:aU k X.A)(ho:X.base.get? a=some { cls := .type "function",data := .func fd })(hb:∀s:Shared,BindsTo s fd ⟨[],[]⟩ [])(hN:X.N[0]?=some r)(hv:p7 X.env.scope r)(hd1:(r==("__debug__" : Str))=false)(hd2:(r==("__classdict__" : Str))=false)(hst:X.stack=X.env::X.outer)(hfr:X.env.frame=some X.env.locals)(O:Ip X.K c cH)(hg:Gl X hn)(hm:X.mg hn=some (.ref cH))(hd3:(hn==("__debug__" : Str))=false)(nd:X.N.Nodup)(hj:X.N[j]?=some en)(hl:X.env.scope.names.lookup en=some .local)(hS:∀e,fM (Qf X e) (b₀::suite) tS):
 PS X (.Try [.Return (some (.Call (.Name r p) [] [] pos)) rpos] [.ExceptHandler (some (.Name hn np)) (some en) (b₀::suite) hpos] [] [] tpos)
  (λD σ H=>σ[0]?=some (some (.ref a))/\(d8 X.H₀ H->sp [] H D.rt (wX c tS j D σ))):=by
 intro pins s σ H D I h;obtain⟨h1,h2⟩:=h;refine wpAny_Try_except (wpAny_execs_cons ?_);refine iw (wpAny_Return_some (Q:=λf s1=>match f with|.ret u=>EP X pins σ D.rt u s1|_=>False) (zpE F hr ho hb hN hv hd1 hd2 I h1 h2 λs1 e s' I1 hx=>?_)) (λf s1 q=>?_) λ_ _ z=>z
 .obtain⟨x,C,B,H',rfl,FX,i,hi,hC,hk⟩:=hx;cases hC;obtain⟨t,fl⟩:=FX.fl;have hst':=hst ▸ I1.ok.frames;rw[hst] at fl;refine wpAny_looks_onW hst' hfr fl λh₄ held Xi=>wpAny_landsW held λh₅ Hq Xh=>?_;rw[<-hst] at Hq;obtain⟨I5,hn5⟩:=Td I1 FX Hq (Xi.trans Xh);have M5:=Gj I5 (X.A.mark (some (.ref x))) false (λ_ _=>False) (λz=>by cases z) rfl;refine wpAny_handleBy_cons (codeAny_handlers_test (tR M5 hg hm ?_ hd3)) (by intro q;cases q);refine zk4 I5.kIn (O.cls i hi) O.clsH (O.sub i hi) (Ka Hq) ?_;refine codeAny_handlers_suite_as ?_;refine lands_againW Hq λh₆ fl6 up6=>?_;obtain⟨I6,hn6⟩:=Td I1 FX fl6 ((Xi.trans Xh).trans up6);have M6:=Gj I6 (X.A.mark (some (.ref x))) false (λ_ _=>False) (λz=>by cases z) rfl;refine Gi (X:=Qf X x) (v := .ref x) M6 nd hj (.inl hl) rfl (λs7 I7=>?_) (.inr hl);refine iw (hS x pins s7 _ _ _ I7 (hk x hn6)) (λf s8 h8=>?_) λ_ _ z=>False.elim z;cases f with
  |ret u =>
   obtain⟨v,σ',H8,J,rv,q⟩:=h8;obtain⟨m,hm8,_⟩:=J.loc;have hk2:X.env.scope.kind = .function:=I.ok.kind;refine wpAny_nameGoes (m:=m) hl hm8 (by rw[hk2];rfl) λh' m' hn' hs'=>?_;have J0:Inv X pins σ' H8 s8:=Gj J X.A X.calm X.xe I.ok.hd rfl;exact⟨v,_,H8,zmu J0 hn' hs',rv,q⟩
  |next=>obtain⟨_,_,_,z⟩:=h8;exact False.elim z
  |brk=>obtain⟨_,_,_,z⟩:=h8;exact False.elim z
  |cont=>obtain⟨_,_,_,z⟩:=h8;exact False.elim z
 .cases f with
  |ret u =>
   obtain⟨v,H1,I1,rv,q⟩:=q;exact⟨v,σ,H1,I1,rv,q⟩
  |next=>exact False.elim q
  |brk=>exact False.elim q
  |cont=>exact False.elim q
section
variable {X:Cx}{x:Str}{p pos:Pos}{params:Arguments}{body:Expr}{scope:Scope}{aX:Pos}{f:Addr}{fd:FuncData}{k:Nat}{p1:Str}{P c:Addr}{Ql:Addr->Value->List V->Sp}{cap:List Str}
theorem zhr(hcap:∀y∈cap,(y,NameKind.free)∈scope.names)(hfree:∀y∈scope.names,y.2 = .free->X.env.kindOf y.1=some .cell)(hfn:∀y,X.fn y=true)(hT:∃ps,X.H₀ P=some (.tbl ps))(hcode:X.env.code = .ref c)(C:CodeHd X.base c P)(B:BM X.base X.mg)(hdef:defaultsOf params X.env=([],[]))(F:∀(base:Heap) (a:Addr) (cdv:Value) (cF:List V) (clos:List (Str×Addr)),Mod X.K X.mg base->(∀b o,X.base.get? b=some o->base.get? b=some o)->cap.length=cF.length->Hx base X.env.qual params body scope clos cap cF a cdv->bO X.prog X.w X.K X.mg base fV k f fd [p1] (Ql a cdv cF))(hr:aU k X.A)(hg:Gl X x)(hm:X.mg x=some (.ref f))(hk:keepIn X.K (.ref f)=true)(hb:Binds X.K fd [p1] [])(hdb:(x==("__debug__" : Str))=false)(he:starEach [.Lambda params body scope aX] X.env=(false,eval (.Lambda params body scope aX) X.env)::starEach [] X.env):
 PE X (.Call (.Name x p) [.Lambda params body scope aX] [] pos) (λσ H Q=>∃cF:List V,cap.length=cF.length/\(∀(i:Nat) y,cap[i]?=some y->∃(j:Nat) (v:V),X.N[j]?=some y/\σ[j]?=some (some v)/\cF[i]?=some v) /\
  ∀a cdv H2,dH H H2->(∃ps,H2 P=some (.tbl ps)/\codeAmong aX ps.toList=some cdv)->Ql a cdv cF [.ref a] H2 Q E0):=by
 intro pins s1 σ H1 Q I1 h;obtain⟨cF,hlen,hsl,q1⟩:=h;refine wpAny_Call_Name_kw (tR I1 hg hm ?_ hdb);refine callWith_K (h₀:=X.base) I1.ok.mod.kin hk ?_ he rfl;have hcells:∀y∈scope.names,y.2 = .free->∃c,X.env.cells.lookup y.1=some c:=λy hy e=>I1.ok.has y.1 (.inl (hfree y hy e));obtain⟨O2,wJ⟩:=hT;obtain⟨more,hps⟩:=I1.base.tbls P O2 wJ;have key:∀a s' H',Made X pins σ H1 s1 params body scope (mW X.env scope.names) P aX a s' H'->wpAny (model X.prog X.w) X.A (spliced []) (λvs s₂=>X.K.In s₂.heap/\wpAny (model X.prog X.w) X.A (call (.ref f) ([]++Value.ref a::vs)) (EP X pins σ Q) X.xe s₂) X.xe s':=λa s' H' M=>by
  refine Calls.spliced_nil ⟨M.inv.kIn,?_⟩;have I2:=M.inv;obtain⟨e0,kb⟩:=Vc I2;obtain⟨cdv,clo,wK⟩:=Ud I1 M hcap hfree hfn hsl;have G:=F _ a cdv cF _ e0.mod kb hlen clo;have hsp:=q1 a cdv H' M.same wK;refine wpAny_call (codeAny_mono (G.run X.A X.stack s' H' ⟨[.ref a],[]⟩ [.ref a] [.ref a] Q E0 hr e0 (hb s' [.ref a] I2.kIn rfl) (.cons rfl .nil) hsp) λr s'' hq=>?_);cases r with
  |error e=>exact hq.elim
  |ok fl =>
   cases fl with
   |ret u=>exact I2.after hq
   |next=>exact False.elim hq
   |brk=>exact False.elim hq
   |cont=>exact False.elim hq
 rw[he];show wpAny _ _ (spliced ((false,eval (.Lambda params body scope aX) X.env)::[])) _ _ s1;exact Calls.spliced_cons (Uc I1 hps hcode C B (V3 hcells) hdef key)
end
noncomputable def Eo(iJ:Nat->D)(y:Str):Option D:=if y=wn 0 then some (iJ 0) else if y=wn 1 then some (iJ 1) else if y=wn 2 then some (iJ 2) else if y=wn 3 then some (iJ 3) else none
theorem zjB{iJ:Nat->D}(h:Eo iJ y=some d):∃i,i<4/\y=wn i/\d=iJ i:=by
 unfold Eo at h;split at h
 .cases h;exact⟨0,by decide,by assumption,rfl⟩
 .split at h
  .cases h;exact⟨1,by decide,by assumption,rfl⟩
  .split at h
   .cases h;exact⟨2,by decide,by assumption,rfl⟩
   .split at h
    .cases h;exact⟨3,by decide,by assumption,rfl⟩
    .cases h
noncomputable def xW(src:List Nat)(fb:EF)(xb:XF)(iJ:Nat->D):EF:=λσ S=>(u5 src σ).bind λdz=>match fb (dz.map some) S with
 |some r=>some r
 |none=>(xb (dz.map some) S).bind λr=>(Eo iJ r.1).map λd=>(d,r.2)
theorem U3{dz:List D}(r:aB K H α dz cF):bD K H α (dz.map some) (cF.map some):=by
 refine⟨by simp[r.length],λi d e=>?_⟩;rw[gG] at e;cases q:dz[i]? with
 |none=>rw[q] at e;cases e
 |some d2 =>
  rw[q] at e;cases e;obtain⟨v,k1,k2⟩:=r.get q;exact⟨v,by rw[gG,k1];rfl,k2⟩
noncomputable def QC(c:Nat->Addr)(tS:TS)(a:Addr)(sp:Sp):Sp:=λvs H Q _=>vs=[.ref a]/\sp [] H Q (wX c tS 1 { nx:=λ_ H'=>Q .non H',rt:=Q } [some (.ref a),none])
noncomputable def Ep(P:Program)(w:World)(K:FgA)(mg:Str->Option Value)(base:Heap)(k:Nat)(f:Addr)(fd:FuncData)(p1:Str)(c:Nat->Addr)(tS:TS):Prop :=
 ∀(a:Addr) (fl:FuncData) (sp:Sp),bO P w K mg base (mO P w) k a fl [] sp->base.get? a=some { cls := .type "function",data := .func fl }->(∀s:Shared,BindsTo s fl ⟨[],[]⟩ [])->bO P w K mg base fV (k+1) f fd [p1] (QC c tS a sp)
section
variable {X:Cx}{x:Str}{p pos aX:Pos}{fb:EF}{xb:XF}{params:Arguments}{body:Expr}{scope:Scope}{cap:List Str}{src:List Nat}{f:Addr}{fd:FuncData}{p1:Str}{k:Nat}{Pt ct:Addr}{c:Nat->Addr}{tS:TS}{iJ:Nat->D}
theorem zoe(L:vd X Pt ct)(hsc:scope.kind = .function/\scope.isCoroutine=false/\scope.isGenerator=false/\∀y∈scope.names,y.2 ≠ .cell)(hu:∀y∈scope.names,scope.names.lookup y.1=some y.2)(hcap:∀y∈cap,(y,NameKind.free)∈scope.names)(hfree:∀y∈scope.names,y.2 = .free->X.env.kindOf y.1=some .cell)(fQ:∀(i:Nat) y,cap[i]?=some y->∃j,src[i]?=some j/\X.N[j]?=some y)(hlen:cap.length=src.length)(hdef:defaultsOf params X.env=([],[]))(hbind:∀(pm cdv ctv:Value) (clos:List (Str×Addr)) (qual:Str),bindArgs (kla_fn "<lambda>" qual params body scope clos pm cdv ctv) ⟨[],[]⟩=pure [])(hbody:∀(base:Heap),Mod X.K X.mg base->(∀b o,X.base.get? b=some o->base.get? b=some o)->∀(a:Addr) (cdv:Value) (clos:List (Str×Addr)) (qual:Str) (A:Around) (outer:List Env) (s:Shared) (H:Hp) (E:XK),aU k (A.deeper (envX qual scope s.heap.objs.size a cdv clos)) ->
  SE (oY X.prog X.w X.K X.mg base cap qual scope a cdv clos A outer s H E).nox body fb/\PE (oY X.prog X.w X.K X.mg base cap qual scope a cdv clos A outer s H E) body (vO X.K X.mg xb E))(hname:∀i<4,X.mg (wn i)=some (.ref (c i)))(hG:∀(base:Heap),Mod X.K X.mg base->(∀b o,X.base.get? b=some o->base.get? b=some o)->Ep X.prog X.w X.K X.mg base (k+1) f fd p1 c tS)(wI:∀(a e:Addr) (i:Nat) (H:Hp) (Q:VK),i<4->H e=some (qm e (c i))->(∀v H',dH H H'->(∀α,Rep X.K H' α (iJ i) v)->Q v H')->tS { nx:=λ_ _=>False,rt:=Q } [some (.ref a),some (.ref e)] H)(hr:aU (k+2) X.A)(hg:Gl X x)(hm:X.mg x=some (.ref f))(hk:keepIn X.K (.ref f)=true)(hb:Binds X.K fd [p1] [])(hdb:(x==("__debug__" : Str))=false)(he:starEach [.Lambda params body scope aX] X.env=(false,eval (.Lambda params body scope aX) X.env)::starEach [] X.env):
 SE X (.Call (.Name x p) [.Lambda params body scope aX] [] pos) (xW src fb xb iJ):=by
 have F:∀(base:Heap) (a:Addr) (cdv:Value) (cF:List V) (clos:List (Str×Addr)),Mod X.K X.mg base->(∀b o,X.base.get? b=some o->base.get? b=some o)->cap.length=cF.length->Hx base X.env.qual params body scope clos cap cF a cdv ->
  bO X.prog X.w X.K X.mg base fV (k+2) f fd [p1] (QC c tS a (λvs H Q E=>vs.length=0/\(∃ps,H Pt=some (.tbl ps)/\codeAmong aX ps.toList=some cdv)/\∃S α dz,aq X.K H α S/\aB X.K H α dz cF /\
   ((∃z S',fb (dz.map some) S=some (z,S')/\Kt X.K H α z S' Q)\/∃y S',xb (dz.map some) S=some (y,S')/\Kx X.K X.mg H α S' y E))):=by
  intro base a cdv cF clos M kb hl C;obtain⟨pm,ctv,ho⟩:=C.obj;refine hG base M kb a _ _ (zo0 (P:=X.prog) (w:=X.w) (K:=X.K) (mg:=X.mg) (k:=k) (Pt:=Pt) (aX:=aX) (cap:=cap) (cF:=cF) ho rfl (λvs H Q E h=>h.2.1) ⟨hsc.1,hsc.2.1,hsc.2.2.1,hsc.2.2.2,λy hy=>C.has y (gP hy),C.inj⟩ C.cells
   (λi y v h1 h2=>⟨hu _ (C.cap i y v h1 h2).1,(C.cap i y v h1 h2).2⟩) hl (λvs H Q E h=>h.1) (λqual A outer s H Q E hr h=>?_)) ho λs => .of_eq (hbind pm cdv ctv clos _)
  obtain⟨b1,b2⟩:=hbody base M kb a cdv clos qual A outer s H E hr;obtain⟨_,_,S,α,dz,hs,hrep,hh⟩:=h;rcases hh with⟨z,S',e1,kk⟩|⟨y,S',e1,kk⟩
  .exact⟨_,PE.nox b1,_,S,α,z,S',U3 hrep,hs,e1,kk⟩
  .exact⟨_,b2,_,S,α,y,S',U3 hrep,hs,e1,kk⟩
 refine PE.imp (zhr hcap hfree L.fn L.tab L.code L.hd L.bm hdef F hr hg hm hk hb hdb he) λσ H Q h=>?_;obtain⟨σd,S,α,z,S',hv,hs,hf,kk⟩:=h;unfold xW at hf;obtain⟨dz,e2,e3⟩:=aW.mp hf;obtain⟨cF,c1,c2,c3⟩:=Kd hv e2;refine⟨cF,by rw[hlen,c2],λi y hi=>?_,λa cdv H2 hst htab=>⟨rfl,rfl,htab,S,α,dz,hst.store hs,c1.mono hst.ext,?_⟩⟩
 .obtain⟨j,k1,k2⟩:=fQ i y hi;obtain⟨v,k3,k4⟩:=c3 i j k1;exact⟨j,v,k2,k3,k4⟩
 .split at e3
  .rename_i r er;cases e3;exact .inl ⟨z,S',er,kk.trans hst.ext⟩
  .obtain⟨⟨y,S1⟩,e4,e5⟩:=aW.mp e3;obtain⟨d,e6,e7⟩:=aR.mp e5;cases e7;obtain⟨i,hi,rfl,rfl⟩:=zjB e6;refine .inr ⟨_,_,e4,c i,hname i hi,λH' α' s' x'=>⟨i,hi,rfl,λe he=>?_⟩⟩;have old:dH H' (upd H' e (qm e (c i))):=⟨λb o q _=>by rw[bN (fD q he)];exact q,λb ps q=>⟨ps,by rw[bN (fD q he)];exact q⟩⟩
   refine wI a e i _ Q hi dU λv DQ hs2 hr2=>?_;have all:dH H' DQ:=⟨λb o q nt=>hs2.1 b o (old.1 b o q nt) nt,λb ps q=>let ⟨qs,e⟩:=old.2 b ps q;hs2.2 b qs e⟩
   exact kk v DQ α' (all.store s') ((hst.ext.trans x').trans all.ext) (hr2 α')
end
end MX
end
section
namespace MX
open PySem PyProof.Rows
noncomputable abbrev fU:=Array (Int×Nat)
noncomputable abbrev PD:=Array (Nat×Nat×Nat)
structure RR(φ:Int×Nat->Keyed)(ps:fU)(pd:PD)(st:SortSt):Prop where
 arr:arrOf st=ps.map φ
 kind:kindOf st=oneType'
 failed:failedOf st=none
 pend:pendingOf st=pd
 key:∀p∈ps.toList,∃t,(φ p).1 = .int p.1 t
noncomputable def Ex{α:Type}(m:StateT SortSt Sem α)(ps:fU)(pd:PD)(Q:α->fU->PD->Prop):Prop :=
 ∃a ps' mj,(∀φ st,RR φ ps pd st->∀(prog:Program) (w:World) (A:Around) (E:Value->Shared->Prop) (s:Shared),wpS (model prog w) A E s m (λx st'=>x=a/\RR φ ps' mj st') st)/\Q a ps' mj
section
variable {α β:Type}{ps:fU}{pd:PD}
def iH{a:α}{Q:α->fU->PD->Prop}(h:Q a ps pd):Ex (pure a) ps pd Q:=⟨a,ps,pd,λφ st r prog w A E s=>wpS_pure ⟨rfl,r⟩,h⟩
theorem gU{m:StateT SortSt Sem α}{f:α->StateT SortSt Sem β}{Q:β->fU->PD->Prop}(h:Ex m ps pd λa ps' mj=>Ex (f a) ps' mj Q):Ex (m >>= f) ps pd Q:=by obtain⟨a,ps1,Hg,h1,b,ps2,pd2,h2,q⟩:=h;refine⟨b,ps2,pd2,λφ st r prog w A E s=>wpS_bind (wpS_mono (h1 φ st r prog w A E s) λx st' ⟨e,r'⟩=>?_),q⟩;subst e;exact h2 φ st' r' prog w A E s
theorem yD{m:StateT SortSt Sem α}{Q Q':α->fU->PD->Prop}(h:Ex m ps pd Q)(k:∀a x y,Q a x y->Q' a x y):Ex m ps pd Q':=by obtain⟨a,ps1,Hg,h1,q⟩:=h;exact⟨a,ps1,Hg,h1,k _ _ _ q⟩
theorem zX{Q:Option Bool->fU->PD->Prop}(hi:i<ps.size)(hj:j<ps.size)(h:∀b,Q (some b) ps pd):Ex (ltAt' i j) ps pd Q:=by
 refine⟨some (decide (ps[i].1<ps[j].1)),ps,pd,λφ st r prog w A E s=>?_,h _⟩;obtain⟨t,ht⟩:=r.key ps[i] (by simp);obtain⟨u,hu⟩:=r.key ps[j] (by simp);have e1:(arrOf st)[i]?=some (.int ps[i].1 t,(φ ps[i]).2):=by rw[r.arr,Array.getElem?_map,getElem?_pos ps i hi,<-ht];rfl
 have e2:(arrOf st)[j]?=some (.int ps[j].1 u,(φ ps[j]).2):=by rw[r.arr,Array.getElem?_map,getElem?_pos ps j hj,<-hu];rfl
 exact wpS_ltAt r.kind e1 e2 ⟨rfl,r⟩
theorem zmn{γ δ:Type}(f:γ->δ)(xs:Array γ)(i j:Nat):(xs.map f).swapIfInBounds i j=(xs.swapIfInBounds i j).map f:=by
 apply Array.ext';rw[Array.swapIfInBounds_def,Array.swapIfInBounds_def];by_cases hi:i<xs.size
 .by_cases hj:j<xs.size
  .rw[dif_pos (by simpa using hi),dif_pos (by simpa using hj),dif_pos hi,dif_pos hj];simp
  .rw[dif_pos (by simpa using hi),dif_neg (by simpa using hj),dif_pos hi,dif_neg hj]
 .rw[dif_neg (by simpa using hi),dif_neg hi]
theorem La{γ δ ε:Type}(f:γ->δ)(p q:ε->Nat):∀(l:List ε) (xs:Array γ),l.foldl (λa k=>a.swapIfInBounds (p k) (q k)) (xs.map f)=(l.foldl (λa k=>a.swapIfInBounds (p k) (q k)) xs).map f
 |[],xs=>rfl
 |k::l,xs=>by rw[List.foldl_cons,List.foldl_cons,zmn,La f p q l]
theorem Vg{m:StateT SortSt Sem Unit}{g:(γ:Type)->Array γ->Array γ}{Q:Unit->fU->PD->Prop}(hm:m=modify λs=>setArr s (g Keyed (arrOf s)))(hp:(g (Int×Nat) ps).Perm ps)(hg:∀φ:Int×Nat->Keyed,g Keyed (ps.map φ)=(g (Int×Nat) ps).map φ)(h:∀ps',ps'.Perm ps->Q () ps' pd):Ex m ps pd Q:=by refine⟨(),g _ ps,pd,λφ st r prog w A E s=>?_,h _ hp⟩;rw[hm];refine wpS_modify ⟨rfl,?_,r.kind,r.failed,r.pend,λp q=>r.key p ((Array.perm_iff_toList_perm.mp hp).mem_iff.mp q)⟩;show g Keyed (arrOf st)=_;rw[r.arr,hg]
def zph{Q:Unit->fU->PD->Prop}(h:∀ps',ps'.Perm ps->Q () ps' pd):Ex (moveDown' i j) ps pd Q :=
 Vg (g:=λ_ xs=>bubble xs i (i - j)) (moveDown'_eq i j) (bubble_perm _ _ _) (λφ=>La φ _ _ _ ps) h
def Fd{Q:Unit->fU->PD->Prop}(h:∀ps',ps'.Perm ps->Q () ps' pd):Ex (reverseSlice' i j) ps pd Q :=
 Vg (g:=λ_ xs=>mirror xs i j ((j - i) / 2)) (reverseSlice'_eq i j) (mirror_perm _ _ _ _) (λφ=>La φ _ _ _ ps) h
def Tc{r:String}{Q:Unit->fU->PD->Prop}(h:Q () ps pd):Ex (liftM (rule r):StateT SortSt Sem Unit) ps pd Q :=
 ⟨(),ps,pd,λφ st q prog w A E s=>wpS_lift (wpAny_rule ⟨rfl,rfl,q⟩),h⟩
theorem Fb{f:SortSt->StateT SortSt Sem α}{Q:α->fU->PD->Prop}(g:StateT SortSt Sem α)(hf:∀st,(arrOf st).size=ps.size->pendingOf st=pd->f st=g)(h:Ex g ps pd Q):Ex (get >>= f) ps pd Q:=by obtain⟨a,ps1,Hg,h1,q⟩:=h;refine⟨a,ps1,Hg,λφ st r prog w A E s=>wpS_bind (wpS_get ?_),q⟩;rw[hf st (by rw[r.arr];simp) r.pend];exact h1 φ st r prog w A E s
theorem S9{k:PD->PD}{Q:Unit->fU->PD->Prop}(h:Q () ps (k pd)):Ex (modify λs=>setPending s (k (pendingOf s))) ps pd Q:=by refine⟨(),ps,k pd,λφ st r prog w A E s=>?_,h⟩;refine wpS_modify ⟨rfl,r.arr,r.kind,r.failed,?_,r.key⟩;show k (pendingOf st)=_;rw[r.pend]
theorem S8{f:Nat->β->StateT SortSt Sem (ForInStep β)}(I:List Nat->β->fU->PD->Prop){Q:β->fU->PD->Prop}(hstep:∀x rest b ps pd,I (x::rest) b ps pd->Ex (f x b) ps pd λr ps' mj=>match r with|.done b'=>Q b' ps' mj|.yield b'=>I rest b' ps' mj)(hend:∀b ps pd,I [] b ps pd->Q b ps pd):∀(l:List Nat) (b:β) (ps:fU) (pd:PD),I l b ps pd->Ex (forIn l b f) ps pd Q
 |[],b,ps,pd,h=>by rw[List.forIn_nil];exact iH (hend _ _ _ h)
 |x::rest,b,ps,pd,h=>by
  rw[List.forIn_cons];refine gU (yD (hstep x rest b ps pd h) λr ps' mj h'=>?_);cases r with
  |done b'=>exact iH h'
  |yield b'=>exact S8 I hstep hend rest b' ps' mj h'
theorem yC{a b:Nat}{f:Nat->β->StateT SortSt Sem (ForInStep β)}(I:Nat->β->fU->PD->Prop){Q:β->fU->PD->Prop}(hstep:∀i c ps pd,a<=i->i<b->I i c ps pd->Ex (f i c) ps pd λr ps' mj=>match r with|.done c'=>Q c' ps' mj|.yield c'=>I (i+1) c' ps' mj)(hend:∀c ps pd,I (max a b) c ps pd->Q c ps pd){c:β}(h:I a c ps pd):Ex (forIn [a:b] c f) ps pd Q:=by
 rw[Std.Legacy.Range.forIn_eq_forIn_range'];have hsz:([a:b]:Std.Legacy.Range).size=b - a:=by simp[Std.Legacy.Range.size]
 show Ex (forIn (List.range' a ([a:b]:Std.Legacy.Range).size 1) c f) ps pd Q;rw[hsz];refine S8 (λl c ps pd=>∃i,a<=i/\i<=max a b/\l=List.range' i (max a b - i) 1/\I i c ps pd) ?_ ?_ _ c ps pd ⟨a,bZ _,by omega,by congr 1;omega,h⟩
 .rintro x rest c ps pd ⟨i,hai,hib,hl,hI⟩
  have hlt:i<max a b:=by
   rcases Nat.lt_or_ge i (max a b) with h'|h'
   .exact h'
   .rw[show max a b - i=0 by omega] at hl;simp at hl
  obtain⟨n,hn⟩:∃n,max a b - i=n+1:=⟨max a b - i - 1,by omega⟩
  rw[hn,List.range'_succ] at hl;obtain⟨rfl,rfl⟩:=List.cons.inj hl;refine yD (hstep x c ps pd hai (by omega) hI) λr ps' mj h'=>?_;cases r with
  |done c'=>exact h'
  |yield c'=>exact⟨x+1,by omega,by omega,by congr 1;omega,h'⟩
 .rintro c ps pd ⟨i,hai,hib,hl,hI⟩
  have:i=max a b:=by
   rcases Nat.lt_or_ge i (max a b) with h'|h'
   .obtain⟨n,hn⟩:∃n,max a b - i=n+1:=⟨max a b - i - 1,by omega⟩
    rw[hn,List.range'_succ] at hl;simp at hl
   .omega
  subst this;exact hend _ _ _ hI
end
section
variable {ps₀ ps:fU}{pd:PD}
abbrev Pm(ps₀:fU)(ps:fU):Prop:=ps.Perm ps₀
theorem Rc{a:Nat}{Q:AscSt->fU->PD->Prop}(hn:nrem<=ps₀.size)(ha:1<=a)(han:a<=nrem)(hp:Pm ps₀ ps)(h:∀k,a<=k->k<=nrem->Q (none,k) ps pd):Ex (ascLoop a nrem) ps pd Q:=by
 unfold ascLoop;refine yC (λi c x y=>x=ps/\y=pd/\c=(none,i)/\a<=i/\i<=nrem) ?_ ?_ ⟨rfl,rfl,rfl,bZ _,han⟩
 .rintro i c x y h1 h2 ⟨rfl,rfl,rfl,h3,h4⟩
  have hs:=hp.size_eq;refine gU (zX (by first|omega|(simp;omega)) (by first|omega|(simp;omega)) λb=>?_);cases b with
  |true=>exact iH (h i h3 h4)
  |false=>exact iH ⟨rfl,rfl,rfl,by omega,by omega⟩
 .rintro c x y ⟨rfl,rfl,rfl,h3,h4⟩
  exact h _ h3 h4
theorem T4{Q:Option Nat->fU->PD->Prop}(hn:nrem<=ps₀.size)(h1:1<=n)(hnn:n<=nrem)(hp:Pm ps₀ ps)(h:∀k ps',n<=k->k<=nrem->Pm ps₀ ps'->Q (some k) ps' pd):Ex (tail3 n nrem) ps pd Q:=by unfold tail3;refine gU (Fd λps1 q1=>gU (Rc (ps₀:=ps₀) hn h1 hnn (q1.trans hp) λk k1 k2=>?_));exact iH (h k ps1 k1 k2 (q1.trans hp))
theorem zpi{Q:DescSt->fU->PD->Prop}(hn:nrem<=ps₀.size)(h1:1<=n)(hnn:n<=nrem)(hp:Pm ps₀ ps)(h:∀k j ps',n<=k->k<=nrem->Pm ps₀ ps'->Q (none,k,j) ps' pd):Ex (descLoop n nrem) ps pd Q:=by
 unfold descLoop;refine yC (λi c x y=>y=pd/\Pm ps₀ x/\(∃j,c=(none,i,j))/\n<=i/\i<=nrem) ?_ ?_ ⟨rfl,hp,⟨0,rfl⟩,bZ _,hnn⟩
 .rintro i c x y e1 e2 ⟨rfl,hx,⟨j,rfl⟩,h3,h4⟩
  have hs:=hx.size_eq;refine gU (zX (by first|omega|(simp;omega)) (by first|omega|(simp;omega)) λb=>?_);cases b with
  |true =>
   dsimp only;rw[if_pos rfl];split
   .exact gU (Fd λx' q'=>iH ⟨rfl,q'.trans hx,⟨0,rfl⟩,by omega,by omega⟩)
   .exact iH ⟨rfl,hx,⟨0,rfl⟩,by omega,by omega⟩
  |false =>
   dsimp only;rw[if_neg (by simp)];refine gU (zX (by first|omega|(simp;omega)) (by first|omega|(simp;omega)) λb=>?_);cases b with
   |true=>exact iH (h i j x h3 h4 hx)
   |false=>exact iH ⟨rfl,hx,⟨j+1,rfl⟩,by omega,by omega⟩
 .rintro c x y ⟨rfl,hx,⟨j,rfl⟩,h3,h4⟩
  exact h _ j x h3 h4 hx
theorem VR{Q:Option Nat->fU->PD->Prop}(hn:nrem<=ps₀.size)(hnn:n+1<=nrem)(hp:Pm ps₀ ps)(h:∀k ps',1<=k->k<=nrem->Pm ps₀ ps'->Q (some k) ps' pd):Ex (descPart n nrem) ps pd Q:=by
 unfold descPart;refine gU (Tc (gU (zpi (ps₀:=ps₀) hn (by omega) hnn hp λk j ps1 k1 k2 q1=>?_)));dsimp only;split
 .exact gU (Fd λps2 q2=>T4 (ps₀:=ps₀) hn (by omega) k2 (q2.trans q1) λk' O1 a1 a2 a3=>h k' O1 (by omega) a2 a3)
 .exact T4 (ps₀:=ps₀) hn (by omega) k2 q1 λk' O1 a1 a2 a3=>h k' O1 (by omega) a2 a3
theorem zhG{Q:Option Nat->fU->PD->Prop}(hn:nrem<=ps₀.size)(h1:1<=nrem)(hp:Pm ps₀ ps)(h:∀k ps',1<=k->k<=nrem->Pm ps₀ ps'->Q (some k) ps' pd):Ex (countRun' 0 nrem) ps pd Q:=by
 rw[countRun0_eq];have hs:=hp.size_eq;refine gU (Rc (ps₀:=ps₀) hn (bZ _) h1 hp λk k1 k2=>?_);dsimp only;split
 .exact iH (h k ps k1 k2 hp)
 .rename_i hne;have hne':k≠nrem:=by simpa using hne
  split
  .refine gU (zX (by omega) (by omega) λb=>?_);cases b with
   |true=>exact iH (h k ps k1 k2 hp)
   |false=>exact gU (Fd λps1 q1=>VR (ps₀:=ps₀) hn (by omega) (q1.trans hp) h)
  .exact VR (ps₀:=ps₀) hn (by omega) hp h
theorem zgl{ok:Nat}{Q:Bool->fU->PD->Prop}(hn:n<=ps₀.size)(hok:ok<=n)(hp:Pm ps₀ ps)(h:∀ps',Pm ps₀ ps'->Q true ps' pd):Ex (binarySort' 0 n ok) ps pd Q:=by
 rw[binarySort'_eq];simp only[Nat.zero_add];refine gU (yD (yC (λk c x y=>c=(none,())/\y=pd/\Pm ps₀ x) (Q:=λc x y=>c=(none,())/\y=pd/\Pm ps₀ x) ?_ (λ_ _ _ q=>q) ⟨rfl,rfl,hp⟩) ?_)
 .rintro k c x y hak hkn ⟨rfl,rfl,hx⟩
  have hs:=hx.size_eq;refine gU (yD (yC (λi c x' y'=>x'=x/\y'=y/\∃l r,c=(none,l,r)/\l<=r/\r<=k) (Q:=λc x' y'=>x'=x/\y'=y/\∃l r,c=(none,l,r)) ?_ ?_ ⟨rfl,rfl,0,k,rfl,by omega,by omega⟩) ?_)
  .rintro i c x' y' _ _ ⟨rfl,rfl,l,r,rfl,h1,h2⟩
   dsimp only;by_cases hge:l ≥ r
   .rw[if_pos hge];exact iH ⟨rfl,rfl,l,r,rfl⟩
   .rw[if_neg hge];refine gU (zX (by omega) (by omega) λb=>?_);cases b with
    |true=>exact iH ⟨rfl,rfl,l,(l+r) / 2,rfl,by omega,by omega⟩
    |false=>exact iH ⟨rfl,rfl,(l+r) / 2+1,r,rfl,by omega,by omega⟩
  .rintro c x' y' ⟨h1,h2,l,r,h3,_⟩
   exact⟨h1,h2,l,r,h3⟩
  .rintro c x' y' ⟨rfl,rfl,l,r,rfl⟩
   show Ex (do moveDown' k l;pure (ForInStep.yield (none,()))) _ _ _;exact gU (zph λx2 q2=>iH ⟨rfl,rfl,q2.trans hx⟩)
 .rintro c x y ⟨rfl,rfl,hx⟩
  exact iH (h x hx)
theorem GC(h2:2<=ps.size)(h64:ps.size<64):Ex sortRuns' ps #[] (λ_ ps' _=>Pm ps ps'):=by
 rw[sortRuns'_eq];have hmr:minRun' ps.size ps.size 0=ps.size:=by
  obtain⟨f,hf⟩:∃f,ps.size=f+1:=⟨ps.size - 1,by omega⟩
  have:minRun' (f+1) ps.size 0=ps.size:=by rw[minRun'_succ,if_pos h64];rfl
  rwa [<-hf] at this
 refine Fb _ (λst e1 e2=>by rw[e1]) ?_;simp only[hmr];refine gU (yD (yC (λx c p d=>(x=0/\c=(none,0)/\d=#[]/\Pm ps p)\/(1<=x/\c=(none,ps.size)/\d=#[(0,ps.size,0)]/\Pm ps p))
  (Q:=λc p d=>c=(none,ps.size)/\d=#[(0,ps.size,0)]/\Pm ps p) ?step ?fin (.inl ⟨rfl,rfl,rfl,Array.Perm.refl _⟩)) ?post)
 case fin =>
  rintro c p d (⟨hx,_,_⟩|⟨_,hc,hD⟩)
  .omega
  .exact⟨hc,hD⟩
 case step =>
  rintro x c p d _ hx (⟨rfl,rfl,rfl,hB'⟩|⟨hx1,rfl,rfl,hD⟩)
  .dsimp only;rw[if_neg (by omega)];simp only[Nat.sub_zero,Nat.min_self,Nat.zero_add];refine gU (zhG (ps₀:=ps) (bZ _) (by omega) hB' λm p2 hm1 hm2 hB2=>?_);dsimp only;by_cases hlt:m<ps.size
   .rw[if_pos hlt];refine gU (Tc ?_);refine gU (zgl (ps₀:=ps) (bZ _) hm2 hB2 λp3 hB3=>?_);simp only[Bool.not_true,Bool.false_eq_true,if_false];refine Fb _ (λst e1 e2=>by rw[e2]) ?_
    try dsimp only
    exact gU (S9 (k:=λd=>d.push (0,ps.size,0)) (iH (.inr ⟨by omega,rfl,rfl,hB3⟩)))
   .rw[if_neg hlt];have hm:m=ps.size:=by omega
    subst hm;refine Fb _ (λst e1 e2=>by rw[e2]) ?_
    try dsimp only
    exact gU (S9 (k:=λd=>d.push (0,ps.size,0)) (iH (.inr ⟨by omega,rfl,rfl,hB2⟩)))
  .dsimp only;rw[if_pos (bZ _)];exact iH ⟨rfl,rfl,hD⟩
 case post =>
  rintro c p d ⟨rfl,rfl,hD⟩
  dsimp only;refine gU (yD (yC (λ_ c p' d'=>p'=p/\d'=#[(0,ps.size,0)]/\c=(none,())) (Q:=λc p' d'=>p'=p/\c=(none,())) ?_ (λ_ _ _ hh=>⟨hh.1,hh.2.2⟩) ⟨rfl,rfl,rfl⟩) ?_)
  .rintro x c p' d' _ _ ⟨rfl,rfl,rfl⟩
   refine Fb _ (λst e1 e2=>by rw[e2]) ?_;rw[if_pos (by exact bZ 1)];exact iH ⟨rfl,rfl⟩
  .rintro c p' d' ⟨rfl,rfl⟩
   exact iH hD
end
noncomputable def jG(ks:List Int):fU:=ks.zipIdx.toArray
def tZ(ks:List Int):(jG ks).size=ks.length:=by simp[jG]
open Classical in
noncomputable def vo(ks:List Int):fU:=if h:2<=ks.length/\ks.length<64 then(GC (ps:=jG ks) (by rw[tZ];exact h.1) (by rw[tZ];exact h.2)).choose_spec.choose else jG ks
noncomputable def jq(ks:List Int):List Nat:=(vo ks).toList.map (·.2)
theorem zhk(ks:List Int):(vo ks).Perm (jG ks):=by
 unfold vo;split
 .rename_i h;exact(GC (ps:=jG ks) (by rw[tZ];exact h.1) (by rw[tZ];exact h.2)).choose_spec.choose_spec.choose_spec.2
 .exact Array.Perm.refl _
theorem Li(ks:List Int):(jq ks).Perm (List.range ks.length):=by
 have h:=(Array.perm_iff_toList_perm.mp (zhk ks)).map (·.2);have e:(jG ks).toList.map (·.2)=List.range ks.length:=by simp[jG,List.zipIdx_eq_zip_range'];rw[List.map_snd_zip (by simp)];exact(List.range_eq_range' ..).symm
 rw[e] at h;exact h
theorem zo6{us:List Value}(h:IntsAre us ns){n:Int}(e:ns[i]?=some n):∃t,us[i]?=some (.int n t):=by
 induction h generalizing i with
 |nil=>simp at e
 |cons m t r ih =>
  cases i with
  |zero=>simp at e;subst e;exact⟨t,rfl⟩
  |succ i=>simpa using ih (by simpa using e)
section
variable {prog:Program}{w:World}{A:Around}{E:Value->Shared->Prop}{s:Shared}{keys:Array Value}{kz:List Int}{vs:List Value}
noncomputable def Eh(keys:Array Value)(vs:List Value)(p:Int×Nat):Keyed:=(keys.toList.getD p.2 .none,vs.getD p.2 .none)
theorem Tw(hk:IntsAre keys.toList kz)(hlen:kz.length=vs.length):keys.zip vs.toArray=(jG kz).map (Eh keys vs):=by
 have hl:=hk.length;apply Array.ext';have e1:(keys.zip vs.toArray).toList=keys.toList.zip vs:=by cases keys;simp
 rw[e1,Array.toList_map];apply List.ext_getElem?;intro i;by_cases hi:i<kz.length
 .have h1:i<keys.toList.length:=by omega
  have h2:i<vs.length:=by omega
  simp only[jG,gG,List.getElem?_zip_eq_some,List.getElem?_zipIdx];rw[gJ hi,gJ (by rw[List.length_zip];omega)];simp[Eh,List.getElem_zip,h1,h2];have h1':i<keys.size:=by simpa using h1
  simp[h1']
 .rw[jw (by rw[List.length_zip];omega),jw (by simp[jG];omega)]
theorem zqQ(hk:IntsAre keys.toList kz)(hlen:kz.length=vs.length):RR (Eh keys vs) (jG kz) #[] (SortSt.mk' oneType' (keys.zip vs.toArray) #[] 7 none):=by
 refine⟨Tw hk hlen,rfl,rfl,rfl,λp hp=>?_⟩;obtain⟨n,i⟩:=p;have hp':(n,i)∈kz.zipIdx:=by simpa[jG] using hp
 have e:=List.mem_zipIdx_iff_getElem?.mp hp';obtain⟨t,ht⟩:=zo6 hk e;refine⟨t,?_⟩;show keys.toList.getD i .none=_;rw[List.getD_eq_getElem?_getD,ht];rfl
theorem Tz(hlen:kz.length=vs.length):∀ps:fU,((ps.map (Eh keys vs)).map (·.2)).toList=(ps.toList.map (·.2)).map λi=>vs.getD i .none:=by intro ps;simp only[Array.toList_map,List.map_map];exact List.map_congr_left λ_ _=>rfl
theorem znx(hk:IntsAre keys.toList kz)(hlen:kz.length=vs.length)(h2:2<=vs.length)(h64:vs.length<64):
 wpAny (model prog w) A (sortRuns'.run (SortSt.mk' oneType' (keys.zip vs.toArray) #[] 7 none)) (λr s'=>s'=s/\failedOf r.2=none/\((arrOf r.2).map (·.2)).toList=(jq kz).map λi=>vs.getD i .none) E s:=by
 have h:2<=kz.length/\kz.length<64:=by omega
 have q:=(GC (ps:=jG kz) (by rw[tZ];exact h.1) (by rw[tZ];exact h.2)).choose_spec.choose_spec.choose_spec.1 _ _ (zqQ hk hlen) prog w A E s;refine iw q (λr s' ⟨e,_,rr⟩=>⟨e,rr.failed,?_⟩) λ_ _ e=>e;have e1:vo kz=(GC (ps:=jG kz) (by rw[tZ];exact h.1) (by rw[tZ];exact h.2)).choose_spec.choose:=by unfold vo;rw[dif_pos h]
 rw[rr.arr,<-e1,Tz (kz:=kz) hlen];rfl
theorem zlV(hk:IntsAre keys.toList kz)(hlen:kz.length=vs.length)(h2:vs.length<2):((keys.zip vs.toArray).map (·.2)).toList=(jq kz).map λi=>vs.getD i .none:=by
 have e1:vo kz=jG kz:=by unfold vo;rw[dif_neg (by omega)]
 unfold jq;rw[Tw hk hlen,Tz (kz:=kz) hlen,e1]
end
end MX
end
section
namespace MX
open PySem PySem.Spec PySem.W PyProof.Rows L2
structure N0(X:Cx)(pins:List (Addr×Obj))(base:Heap)(n0:Nat):Prop where
 s0:X.s₀.heap.objs.size<=n0
 loc:X.env.locals<n0
 cel:∀x c,X.env.cells.lookup x=some c->c<n0
 pin:∀p∈X.pn++pins,p.1<n0
 fr:∀b∈frs X.stack,b<n0
 bse:base.objs.size<=n0
 frb:∀b∈frs X.stack,base.get? b=none
structure SJ(X:Cx)(pins:List (Addr×Obj))(σ:L2.St)(S:So)(H₀:Hp)(α₀:List Addr)(base:Heap)(n0:Nat)(own:List (Addr×Obj))(s:Shared)(H:Hp)(α:List Addr):Prop where
 inv:Inv X pins σ H s
 st:aq X.K H α S
 ext:Ext X.K H₀ α₀ H α
 tu:d8 H₀ H
 sz:n0<=s.heap.objs.size
 bs:∀b o,base.get? b=some o->s.heap.get? b=some o/\H b=none
 own:∀p∈own,s.heap.get? p.1=some p.2/\H p.1=none/\n0<=p.1
section
variable {X:Cx}{pins:List (Addr×Obj)}{σ:L2.St}{S:So}{H₀ H:Hp}{α₀ α:List Addr}{base:Heap}{n0:Nat}{own:List (Addr×Obj)}{s:Shared}
theorem N0.of(I:Inv X pins σ H s):N0 X pins (m8 s.heap H X.stack) s.heap.objs.size where
 s0:=I.sz
 loc:=I.lt
 cel:=λx c e=>by obtain⟨v,o,ho,_⟩:=I.cell x c e;exact cg ho
 pin:=λp hp=>cg (I.pin p hp).1
 fr:=λb hb=>by obtain⟨_,o,ho,_⟩:=I.stack.mem hb;exact cg ho
 bse:=by unfold m8;rw[hideAll_size];exact bZ _
 frb:=λb hb=>hideAll_none _ (List.mem_append_right _ hb)
theorem d8.trans{H1 H2 H3:Hp}(a:d8 H1 H2)(b:d8 H2 H3):d8 H1 H3:=⟨λc xs h=>b.tups c xs (a.tups c xs h),λc ps h=>by
 obtain⟨m1,e1⟩:=a.tbls c ps h;obtain⟨m2,e2⟩:=b.tbls c _ e1;exact⟨m1++m2,by rw[e2,Array.append_assoc]⟩,λc o u h=>b.frzs c o u (a.frzs c o u h)⟩
theorem SJ.laid(J:SJ X pins σ S H₀ α₀ base n0 own s H α){t':Nat}(k:∀b u,s.heap.get? b=some u->h'.get? b=some u)(ha:s.heap.objs.size<=a)(new:h'.get? a=some o):
 SJ X pins σ S H₀ α₀ base n0 (own++[(a,o)]) { s with heap:=h',toks:=t' } H α where
 inv:=J.inv.kept k
 st:=J.st
 ext:=J.ext
 tu:=J.tu
 sz:=Nat.le_trans J.sz (Nat.le_trans ha (uW (cg new)))
 bs:=λb o e=>⟨k _ _ (J.bs b o e).1,(J.bs b o e).2⟩
 own:=λp hp=>by
  rcases lO.mp hp with hp|hp
  .obtain⟨h1,h2,h3⟩:=J.own p hp;exact⟨k _ _ h1,h2,h3⟩
  .rw[List.mem_singleton.mp hp];exact⟨new,J.inv.hok.fresh ha,Nat.le_trans J.sz ha⟩
def SJ.fewer(J:SJ X pins σ S H₀ α₀ base n0 own s H α){own':List (Addr×Obj)}(h:∀p∈own',p∈own):SJ X pins σ S H₀ α₀ base n0 own' s H α:={ J with own:=λp hp=>J.own p (h p hp) }
theorem SJ.chg(N:N0 X pins base n0)(J:SJ X pins σ S H₀ α₀ base n0 own s H α){xs:Array Value}(ha:(a,seqObj "list" xs n)∈own)(g:Array Value->Array Value){t':Nat}:
 ∃c,∀own',(∀p∈own',p=(a,seqObj "list" (g xs) c)\/(p∈own/\p.1≠a))->SJ X pins σ S H₀ α₀ base n0 own' { s with heap:=s.heap.update a (Obj.mapSeq g),toks:=t' } H α:=by
 obtain⟨e,hn,h0⟩:=J.own _ ha;have sb:=Heap.SameBut.update s.heap a (Obj.mapSeq g);have k:∀b o,b≠a->s.heap.get? b=some o->(s.heap.update a (Obj.mapSeq g)).get? b=some o:=λb o hb q=>(sb.2 b hb).trans q;obtain⟨c,e2⟩:∃c,(s.heap.update a (Obj.mapSeq g)).get? a=some (seqObj "list" (g xs) c):=⟨_,get?_update_seq e g⟩
 refine⟨c,λown' ho=>⟨J.inv.turned k hn (Nat.ne_of_gt (dg N.loc h0)) (.inr (Nat.le_trans N.s0 h0)) (λx c q=>dh (dg (N.cel x c q) h0)) (λp hp=>dh (dg (N.pin p hp) h0)),
  J.st,J.ext,J.tu,?_,λb o q=>⟨k b o (dh (dg (dg (cg q) N.bse) h0)) (J.bs b o q).1,(J.bs b o q).2⟩,λp hp=>?_⟩⟩
 .show n0<=(s.heap.update a (Obj.mapSeq g)).objs.size;rw[Heap.size_update];exact J.sz
 .rcases ho p hp with rfl|⟨h1,h2⟩
  .exact⟨e2,hn,h0⟩
  .obtain⟨q1,q2,q3⟩:=J.own p h1;exact⟨k _ _ h2 q1,q2,q3⟩
theorem SJ.call(N:N0 X pins base n0)(M:Mod X.K X.mg base)(J:SJ X pins σ S H₀ α₀ base n0 own s H α){A:Around}{a:Addr}{R:Hp->Prop}{ψ:GN}{k:Nat}(hA:A.frames=X.A.frames)(hr:aU k A)(C:DY X.prog X.w X.K X.mg base k a R ψ)(hT:∀H H',d8 H H'->R H->R H')(hR:R H₀){p0:Addr×Obj}(hne:p0∈own){d:D}{v:V}{u:Value}{kk:Int}(rd:Rep X.K H α d v)(ru:RelV v u)(hψ:ψ [d] S=some (.int kk,S)):
 wpAny (model X.prog X.w) A (call (.ref a) [u]) (λr s'=>∃t H' α',r = .int kk t/\SJ X pins σ S H₀ α₀ base n0 own s' H' α') (λ_ _=>False) s:=by
 obtain⟨fd,q,sp,F,hob,hb,hsp⟩:=C;have I:=J.inv;have e0:iu X.prog X.w X.K X.mg base A X.stack s H:=⟨by rw[hA];exact I.ok.frames,M,J.bs,Nat.le_trans N.bse J.sz,Lg I.stack N.frb,I.stkFree,I.hok,I.bare⟩
 have h1:sp [v] H (λw H'=>∃α',aq X.K H' α' S/\Ext X.K H α H' α'/\Rep X.K H' α' (.int kk) w) E0 :=
  hsp _ _ _ (hT _ _ J.tu hR) rfl ⟨S,α,[d],.int kk,S,J.st,.cons rd .nil,hψ,λw H' α' h1 h2 h3=>⟨α',h1,h2,h3⟩⟩
 refine wpAny_call (codeAny_mono (F.run A X.stack s H ⟨[u],[]⟩ [u] [v] _ E0 hr e0 (hb s u) (.cons ru .nil) h1) λr s' hq=>?_);cases r with
 |error e=>exact hq.elim
 |ok fl =>
  cases fl with
  |ret u =>
   obtain⟨w,H',os,bare,un,hok,fj,α',s1,x1,r1⟩:=id hq;obtain⟨_,_,I',_,_⟩:=I.after (show CE X.stack X.prog X.w H s (λw2 H2=>w2=w/\H2=H') u s' from⟨w,H',os,bare,un,hok,fj,rfl,rfl⟩);rename_i w2 H2 _ z;obtain⟨rfl,rfl⟩:=z;cases r1;obtain⟨t,rfl⟩:=fj;have Xy:∀b,n0<=b->b∉frs X.stack:=λb hb z=>absurd (dg (N.fr b z) hb) (gO _);refine⟨t,H2,α',rfl,I',s1,J.ext.trans x1,J.tu.trans ⟨un.tups,un.tbls,un.frzs⟩,?_,λb o e=>?_,λp hp=>?_⟩
   .obtain⟨q1,q2,q3⟩:=J.own _ hne;exact Nat.le_trans q3 (uW (cg (un.keep _ _ q1 q2 (Xy _ q3) (by simp))))
   .obtain⟨q1,q2⟩:=J.bs b o e;exact⟨un.keep b o q1 q2 (λz=>by rw[N.frb b z] at e;cases e) (by simp),un.free b o q1 q2 (by simp)⟩
   .obtain⟨q1,q2,q3⟩:=J.own p hp;exact⟨un.keep _ _ q1 q2 (Xy _ q3) (by simp),un.free _ _ q1 q2 (by simp),q3⟩
  |next=>exact False.elim hq
  |brk=>exact False.elim hq
  |cont=>exact False.elim hq
end
section
variable {X:Cx}{pins:List (Addr×Obj)}{σ:L2.St}{S:So}{H₀ H:Hp}{α₀ α:List Addr}{base:Heap}{n0:Nat}{s:Shared}{A:Around}{E:Value->Shared->Prop}{a D kS:Addr}{vs:List Value}{kz:List Int}{keys:Array Value}{e e1:Nat}{P:PySem.Fin->Shared->Prop}
theorem Tj{st:SortSt}(N:N0 X pins base n0)(J:SJ X pins σ S H₀ α₀ base n0 [(D,seqObj "list" #[] e1),(kS,seqObj "list" keys e)] s H α)(hka:D≠kS)(hkz:keys.size<=64)(hfl:failedOf st=none)(ho:((arrOf st).map (·.2)).toList=out)(h64:out.length<=64)(h:∀c tk h',SJ X pins σ S H₀ α₀ base n0 [(D,seqObj "list" out.toArray c)] { s with heap:=h',toks:=tk } H α->P (.done (.ret .none)) { s with heap:=h',toks:=tk }):
 wpAny (model X.prog X.w) A (ksk_tail D false e1 (.ref kS) st) P E s:=by
 have ho2:(arrOf st).map (·.2)=out.toArray:=by rw[<-ho]
 unfold ksk_tail
 try dsimp only
 have nk:=J.own (kS,seqObj "list" keys e) (by simp);obtain⟨c1,J1⟩:=J.chg N (a:=kS) (xs:=keys) (n:=e) (by simp) (λ_=>(#[]:Array Value)) (t':=s.toks);have J1:=J1 [(D,seqObj "list" #[] e1)] (λp hp=>by
  rw[List.mem_singleton.mp hp];exact .inr ⟨by simp,hka⟩)
 have na:=J1.own (D,seqObj "list" #[] e1) (by simp);refine aF (listUpdate_at nk.1 rfl ?_ (by rw[sizeLine_eq];omega) (Nat.zero_le _));refine aF (wpAny_letGo ?_);refine aF (seqEpoch_at na.1 rfl ?_);rw[ho2];refine aF (listUpdate_at na.1 rfl ?_ (Nat.zero_le _) (by simp only[Bool.false_eq_true,if_false,dM];rw[sizeLine_eq];omega));rw[hfl];simp only[bne_self_eq_false,Bool.false_eq_true,if_false];obtain⟨c2,J2⟩:=J1.chg N (a:=D) (xs:=#[]) (n:=e1) (by simp) (λ_=>out.toArray) (t':=s.toks);exact bT (h c2 _ _ (J2 _ λp hp=>by
  rw[List.mem_singleton.mp hp];exact .inl rfl))
theorem ZQ(N:N0 X pins base n0)(J:SJ X pins σ S H₀ α₀ base n0 [(D,seqObj "list" #[] e1),(kS,seqObj "list" keys e)] s H α)(hka:D≠kS)(hk:IntsAre keys.toList kz)(hlen:kz.length=vs.length)(h64:vs.length<64)(h:∀c tk h',SJ X pins σ S H₀ α₀ base n0 [(D,seqObj "list" ((jq kz).map λi=>vs.getD i .none).toArray c)] { s with heap:=h',toks:=tk } H α->P (.done (.ret .none)) { s with heap:=h',toks:=tk }):
 wpAny (model X.prog X.w) A (ksk_end D false vs.toArray e1 (.ref kS) keys) P E s:=by
 have hsz:keys.size=vs.length:=by have h1:=hk.length;rw[Array.length_toList] at h1;omega
 have hol:((jq kz).map λi=>vs.getD i Value.none).length<=64:=by rw[cZ,(Li kz).length_eq,List.length_range];omega
 unfold ksk_end;simp only[Bool.false_eq_true,if_false];by_cases h2:vs.toArray.size<2
 .rw[if_pos h2,if_pos h2];refine aF (bT ?_);rw[StateT.run_pure];refine aF (bT ?_)
  try dsimp only
  rw[dM] at h2;exact Tj (st:=SortSt.mk' general' (keys.zip vs.toArray) #[] 7 none) N J hka (by omega) rfl (zlV hk hlen h2) hol h
 .rw[if_neg h2,if_neg h2];rw[dM] at h2;rw[ksk_kind hk (by rw[hsz];omega)];refine aF (bT ?_);refine aF (iw (znx hk hlen (by omega) h64) ?_ λ_ _ e=>e)
  rintro⟨⟨⟩,st'⟩ s' ⟨rfl,hf,ho⟩
  try dsimp only
  exact Tj N J hka (by omega) hf ho hol h
theorem zn7{f:Value}(N:N0 X pins base n0)(J:SJ X pins σ S H₀ α₀ base n0 [(D,seqObj "list" #[] e1),(kS,seqObj "list" #[] 0)] s H α)(hka:D≠kS)(hlen:kz.length=vs.length)(h64:vs.length<64)(turn:∀(i:Nat) (v:Value) (k:Int),vs[i]?=some v->kz[i]?=some k->∀own p0,p0∈own->∀s H α,SJ X pins σ S H₀ α₀ base n0 own s H α->wpAny (model X.prog X.w) A (call f [v]) (λr s'=>∃t H' α',r = .int k t/\SJ X pins σ S H₀ α₀ base n0 own s' H' α') (λ_ _=>False) s)(h:∀c s' H' α',SJ X pins σ S H₀ α₀ base n0 [(D,seqObj "list" ((jq kz).map λi=>vs.getD i .none).toArray c)] s' H' α'->P (.done (.ret .none)) s'):
 wpAny (model X.prog X.w) A (ksk_rest D f false vs.toArray e1 (.ref kS)) P E s:=by
 unfold ksk_rest;refine aF (wpAny_rule ?_)
 first
  |rw[List.forIn_toArray]
  | (rw[<-Array.forIn_toList];simp only[List.toList_toArray])
  |rw[<-Array.forIn_toList]
 refine aF (ksk_fold (λi s'=>∃H α kA e,SJ X pins σ S H₀ α₀ base n0 [(D,seqObj "list" #[] e1),(kS,seqObj "list" kA e)] s' H α/\IntsAre kA.toList (kz.take i)) vs 0 s
  ⟨H,α,#[],0,J,by simpa using IntsAre.nil⟩ ?step ?done)
 case step =>
  rintro j x s' hx ⟨H',α',kA,e,J',hk⟩
  simp only[Nat.zero_add] at hk ⊢;have hj:j<vs.length:=(eV.mp hx).1;obtain⟨k,hkj⟩:∃k,kz[j]?=some k:=⟨_,gJ (by omega)⟩
  have hz:kA.size<=vs.length:=by have h1:=hk.length;rw[Array.length_toList,xT] at h1;omega
  refine aF (wpAny_attempt (iw (turn j x k hx hkj _ _ (fX ..) s' H' α' J') (λv s'' he=>?_) λ_ _ hF=>hF.elim));obtain⟨t2,H2,α2,rfl,J2⟩:=he
  try dsimp only
  have nk:=J2.own (kS,seqObj "list" kA e) (by simp);obtain⟨c2,J3⟩:=J2.chg N (a:=kS) (xs:=kA) (n:=e) (by simp) (·.push (.int k t2)) (t':=s''.toks);have ek:kz.take (j+1)=kz.take j++[k]:=by rw[List.take_add_one,hkj];simp
  have ea:(kA.push (Value.int k t2)).toList=kA.toList++[Value.int k t2]:=by simp
  refine aF (listUpdate_at nk.1 rfl ?_ (by rw[sizeLine_eq];omega) (Nat.le_trans (Nat.le_of_eq (Array.size_push ..)) (by rw[sizeLine_eq];omega)));refine bT ⟨rfl,H2,α2,kA.push (.int k t2),c2,J3 _ λp hp=>?_,by rw[ea,ek];exact ksk_snoc hk⟩;rcases List.mem_cons.mp hp with rfl|hp
  .exact .inr ⟨by simp,hka⟩
  .rw[List.mem_singleton.mp hp];exact .inl rfl
 case done =>
  rintro s' ⟨H',α',kA,e,J',hk⟩
  have hk':IntsAre kA.toList kz:=by have e3:kz.take (0+vs.length)=kz:=List.take_of_length_le (by omega);rw[e3] at hk;exact hk
  have nk:=J'.own (kS,seqObj "list" kA e) (by simp)
  try dsimp only
  refine aF (listItems_at nk.1 rfl ?_);exact ZQ N J' hka hk' hlen h64 λc tk h' J2=>h c _ _ _ J2
theorem zn6{f:Value}(N:N0 X pins base n0)(J:SJ X pins σ S H₀ α₀ base n0 [(D,seqObj "list" vs.toArray n)] s H α)(hlen:kz.length=vs.length)(h64:vs.length<64)(turn:∀(i:Nat) (v:Value) (k:Int),vs[i]?=some v->kz[i]?=some k->∀own p0,p0∈own->∀s H α,SJ X pins σ S H₀ α₀ base n0 own s H α->wpAny (model X.prog X.w) A (call f [v]) (λr s'=>∃t H' α',r = .int k t/\SJ X pins σ S H₀ α₀ base n0 own s' H' α') (λ_ _=>False) s)(h:∀c s' H' α',SJ X pins σ S H₀ α₀ base n0 [(D,seqObj "list" ((jq kz).map λi=>vs.getD i .none).toArray c)] s' H' α'->P (.done (.ret .none)) s'):
 wpAny (model X.prog X.w) A (ksk_tree D f false) P E s:=by
 have ho:=(J.own _ (List.mem_singleton.mpr rfl)).1;have ha:D<s.heap.objs.size:=cg ho;obtain⟨e1,J1⟩:=J.chg N (a:=D) (xs:=vs.toArray) (n:=n) (by simp) (λ_=>(#[]:Array Value)) (t':=s.toks);have J1:=J1 [(D,seqObj "list" #[] e1)] λp hp=>by rw[List.mem_singleton.mp hp];exact .inl rfl
 have ho1:=(J1.own _ (List.mem_singleton.mpr rfl)).1;have J2:=J1.laid (h':=(s.heap.update D (Obj.mapSeq λ_=>(#[]:Array Value))).push (seqObj "tuple" vs.toArray 0)) (t':=s.toks) (λb u q=>cX _ q) (bZ _) (gB _ rfl);have J2:=J2.fewer (own':=[(D,seqObj "list" #[] e1)]) λp hp=>List.mem_append_left _ hp;have J3:=J2.laid (h':=((s.heap.update D (Obj.mapSeq λ_=>(#[]:Array Value))).push (seqObj "tuple" vs.toArray 0)).push (seqObj "list" #[] 0)) (t':=s.toks) (λb u q=>cX _ q) (bZ _) (gB _ rfl);unfold ksk_tree;refine aF (listItems_at ho rfl ?_);refine aF (listUpdate_at ho rfl ?_ (by rw[dM,sizeLine_eq];omega) (Nat.zero_le _));refine aF (seqEpoch_at ho1 rfl ?_);refine aF (wpAny_newTuple ?_ (by show vs.length<=_;rw[sizeLine_eq];omega));refine aF (wpAny_newList ?_ (Nat.zero_le _));refine wpAny_holding ?_;refine zn7 N J3 ?_ hlen h64 turn h;have:D<((s.heap.update D (Obj.mapSeq λ_=>(#[]:Array Value))).push (seqObj "tuple" vs.toArray 0)).objs.size:=by rw[size_push',Heap.size_update];exact Nat.lt_succ_of_lt ha
 exact dh this
end
section
variable {X:Cx}{pins:List (Addr×Obj)}{σ:L2.St}{S:So}{H₀ H:Hp}{α₀ α:List Addr}{base:Heap}{n0:Nat}{s:Shared}{A:Around}{E:Value->Shared->Prop}{a l:Addr}{vs:List Value}{kz:List Int}{Q:Value->Shared->Prop}
theorem zjR(N:N0 X pins base n0)(J:SJ X pins σ S H₀ α₀ base n0 [] s H α)(hl:s.heap.IsList l vs.toArray)(hlen:kz.length=vs.length)(h64:vs.length<64)(turn:∀(i:Nat) (v:Value) (k:Int),vs[i]?=some v->kz[i]?=some k->∀own p0,p0∈own->∀s H α,SJ X pins σ S H₀ α₀ base n0 own s H α->wpAny (model X.prog X.w) A.in1.in1 (call (.ref a) [v]) (λr s'=>∃t H' α',r = .int k t/\SJ X pins σ S H₀ α₀ base n0 own s' H' α') (λ_ _=>False) s)(h:∀D c s' H' α',SJ X pins σ S H₀ α₀ base n0 [(D,seqObj "list" ((jq kz).map λi=>vs.getD i .none).toArray c)] s' H' α'->Q (.ref D) s'):
 wpAny (model X.prog X.w) A (call (.builtin "sorted") [.ref l] [(Str.ofString "key",.ref a)]) Q E s:=by
 refine call_function_entry_kw kind_sorted plain_sorted entry_sorted (ksk_s1 _ _) ?_;unfold Builtin.«sorted»;refine aF (m:=checkCount "sorted" 1 1 _) (bT ?_);refine aF (collect_list hl ?_ (by rw[sizeLine_eq];omega));refine aF (wpAny_newList ?_ (by rw[sizeLine_eq];omega));have hsz:((s.heap.push (seqObj "list" #[] 0)).update s.heap.objs.size (Obj.mapSeq (·++vs.toArray))).objs.size=s.heap.objs.size+1:=by rw[Heap.size_update,size_push']
 have hoL:(((s.heap.push (seqObj "list" #[] 0)).update s.heap.objs.size (Obj.mapSeq (·++vs.toArray))).push (seqObj "list" vs.toArray 0)).get? (s.heap.objs.size+1)=some (seqObj "list" vs.toArray 0):=by rw[<-hsz];exact gB _ rfl
 have keep:∀b o,s.heap.get? b=some o->(((s.heap.push (seqObj "list" #[] 0)).update s.heap.objs.size (Obj.mapSeq (·++vs.toArray))).push (seqObj "list" vs.toArray 0)).get? b=some o:=λb o q=>by have hlt:b<s.heap.objs.size:=cg q;rw[Heap.get?_push_ne _ _ _ (by rw[hsz];exact dh (Nat.lt_succ_of_lt hlt)),Heap.get?_update_ne _ _ _ _ (dh hlt),Heap.get?_push_ne _ _ _ (dh hlt)];exact q
 have J1:=J.laid (h':=((s.heap.push (seqObj "list" #[] 0)).update s.heap.objs.size (Obj.mapSeq (·++vs.toArray))).push (seqObj "list" vs.toArray 0)) (t':=s.toks) keep (Nat.le_succ _) hoL;show wpAny _ _ _ _ _ { s with heap:=((s.heap.push (seqObj "list" #[] 0)).update s.heap.objs.size (Obj.mapSeq (·++vs.toArray))).push (seqObj "list" vs.toArray 0) };rw[hsz];refine aF (wpAny_holding (wpAny_call_entry_kw slot_list_sort ⟨_,hoL,rfl⟩ entry_list_sort ?body (ksk_l1 _ _)))
 case body =>
  show wpAny (model X.prog X.w) A.in1.in1 (Builtin.«list.sort» ⟨[.ref (s.heap.objs.size+1)],[(Str.ofString "key",.ref a)]⟩) _ _ _;rw[ksk_t1];refine zn6 N J1 hlen h64 turn λc s' H' α' J'=>⟨_,rfl,?_⟩
  exact bT ⟨_,rfl,h _ _ _ _ _ J'⟩
theorem SJ.adopt{D:Addr}{c:Nat}{ws:List V}(N:N0 X pins base n0)(J:SJ X pins σ S H₀ α₀ base n0 [(D,seqObj "list" out.toArray c)] s H α)(hv:Vals ws out)(hz:ws.length<=sizeLine):Inv X pins σ (upd H D (.lst ws)) s:=by
 obtain⟨e,hn,h0⟩:=J.own _ (List.mem_singleton.mpr rfl);have I:=J.inv;refine I.step (h':=s.heap) (g':=s.gens) (d':=s.drawn) (t':=s.toks) (ch:=[D]) (λb hb=>?_) (λb o _ _ _ q _=>q) (λb o _ _ _ q _=>⟨o.slots,q⟩) (λb o hb q n=>?_) (λb o _ q=>⟨o,q⟩) (λb xs q=>?_) (λb o u q=>?_) (λb ps q=>?_) (λm q=>q) (λb o q=>?_) I.bare
 .rw[List.mem_singleton.mp hb];exact⟨.inr (Nat.le_trans N.s0 h0),Nat.ne_of_gt (dg N.loc h0),λx c q=>dh (dg (N.cel x c q) h0),λp hp=>dh (dg (N.pin p hp) h0)⟩
 .rw[bN (λz=>hb (by simp[z]))];exact n
 .rw[bN (fD q hn)];exact q
 .rw[bN (fD q hn)];exact q
 .exact⟨#[],by rw[bN (fD q hn),q];simp⟩
 .by_cases hb:b=D
  .subst hb;rw[dU] at q;cases q;exact⟨hz,out,c,hv,e⟩
  .rw[bN hb] at q;exact(I.hok b o q).stay (λ_ _ _ r=>r) (λx r=>by rw[bN (fD r hn)];exact r) λx xs r=>by rw[bN (fD r hn)];exact r
end
section
variable {X:Cx}{pins:List (Addr×Obj)}{σ:L2.St}{H1 H':Hp}{s1 s':Shared}{params:Arguments}{body:Expr}{scope:Scope}{aX:Pos}{P Pt:Addr}{cap:List Str}{cF:List V}{a:Addr}{q:Str}{fb:EF}{k:Nat}{clos:List (Str×Addr)}{dz:List D}{cdv:Value}{base:Heap}
theorem Zg(hsc:scope.kind = .function/\scope.isCoroutine=false/\scope.isGenerator=false/\scope.names.lookup q=some .local/\∀y∈scope.names,y.2 ≠ .cell)(hu:∀y∈scope.names,scope.names.lookup y.1=some y.2)(hbind:∀(pm cdv ctv:Value) (clos:List (Str×Addr)) (qual:Str) (u:Value),bindArgs (kla_fn "<lambda>" qual params body scope clos pm cdv ctv) ⟨[u],[]⟩=pure [(q,u)])(hbody:∀(a:Addr) (cdv:Value) (clos:List (Str×Addr)) (qual:Str) (A:Around) (outer:List Env) (s:Shared) (H:Hp) (E:XK),aU k (A.deeper (envX qual scope s.heap.objs.size a cdv clos)) ->
  SE (pZ X.prog X.w X.K X.mg base (q::cap) qual scope a cdv clos A outer s H E).nox body fb)(hlo:wz dz=true)(hl:cap.length=cF.length)(C:Hx base X.env.qual params body scope clos cap cF a cdv):
 DY X.prog X.w X.K X.mg base (k+1) a (λH=>aB X.K H [] dz cF/\∃ps,H Pt=some (.tbl ps)/\codeAmong aX ps.toList=some cdv) (lamF fb dz):=by
 obtain⟨pm,ctv,ho⟩:=C.obj;have lam:=YG (P:=X.prog) (w:=X.w) (K:=X.K) (mg:=X.mg) (k:=k) (Pt:=Pt) (aX:=aX) (p:=q) (cap:=cap) (cF:=cF) (cus:=[])
  (sp:=λvs H Q E=>vs.length=1/\(aB X.K H [] dz cF/\∃ps,H Pt=some (.tbl ps)/\codeAmong aX ps.toList=some cdv)/\jt X.K (lamF fb dz) vs H Q)
  ho rfl (λvs H Q E h=>h.2.1.2) ⟨hsc.1,hsc.2.1,hsc.2.2.1,hsc.2.2.2.1,hsc.2.2.2.2,λy hy=>C.has y (gP hy),C.inj⟩ C.cells
  (λi y v h1 h2=>⟨hu _ (C.cap i y v h1 h2).1,(C.cap i y v h1 h2).2⟩) hl (λvs H Q E h=>h.1)
  (λqual A outer s H v Q E hr h=>⟨_,hbody a cdv clos qual A outer s H E hr,?_⟩)
 .exact⟨_,q,_,lam,ho,λs u => .of_eq (hbind pm cdv ctv clos _ u),λvs H Q hR h1 h2=>⟨h1,hR,h2⟩⟩
 .obtain⟨_,⟨hrep,_⟩,S,α,ds,z,S',hs,hrs,hf,kk⟩:=h;unfold lamF at hf;split at hf
  .rename_i d;cases hrs with
   |cons r1 r2 =>
    cases r2;refine⟨some d::dz.map some,S,α,z,S',⟨by simp[hrep.length],λi d' e'=>?_⟩,hs,hf,kk⟩;cases i with
    |zero =>
     simp at e';subst e';exact⟨v,rfl,r1⟩
    |succ i =>
     rw[List.getElem?_cons_succ,gG] at e';cases qd:dz[i]? with
     |none=>rw[qd] at e';cases e'
     |some d2 =>
      rw[qd] at e';cases e';obtain⟨v2,k1,k2⟩:=(hrep.monoT (α':=α) d8.refl hlo).get qd;exact⟨v2,by rw[List.getElem?_cons_succ,gG,k1];rfl,k2⟩
  .cases hf
end
open Classical in
noncomputable def qF(ψ:GN)(S:So):List D->Option (List Int)
 |[]=>some []
 |d::r=>match ψ [d] S with
  |some (.int k,S')=>if S'=S then(qF ψ S r).map λl=>k::l else none
  |_=>none
theorem zjh{ψ:GN}{r:List D}{k:Int}{l:List Int}(h:ψ [d] S=some (.int k,S))(hr:qF ψ S r=some l):qF ψ S (d::r)=some (k::l):=by unfold qF;rw[h];simp[hr]
theorem Vl{ψ:GN}{S:So}:∀{xs:List D} {kz:List Int},qF ψ S xs=some kz->kz.length=xs.length/\∀(i:Nat) d k,xs[i]?=some d->kz[i]?=some k->ψ [d] S=some (.int k,S)
 |[],kz,h=>by cases h;exact⟨rfl,λi d k e=>by simp at e⟩
 |x::r,kz,h=>by
  unfold qF at h;split at h
  .rename_i k0 S0 e0;split at h
   .rename_i hS;subst hS;simp only[aR] at h;obtain⟨l,e1,rfl⟩:=h;obtain⟨h1,h2⟩:=Vl e1;refine⟨by simp[h1],λi d k e3 e4=>?_⟩;cases i with
    |zero=>simp at e3 e4;subst e3 e4;exact e0
    |succ i=>exact h2 i d k (by simpa using e3) (by simpa using e4)
   .cases h
  .cases h
noncomputable def zx(fe:EF)(src:List Nat)(fb:EF):EF:=λσ S=>(fe σ S).bind λr=>(u5 src σ).bind λdz=>if wz dz=true then match r.1 with
 |.ref n=>match r.2[n]? with
  |some (.lst xs)=>if xs.length<64 then(qF (lamF fb dz) r.2 xs).map λkz=>(.ref r.2.length,r.2++[.lst ((jq kz).map λi=>xs.getD i .non)]) else none
  |_=>none
 |_=>none
 else none
theorem Vs{K:FgA}{H:Hp}{α:List Addr}{xs:List D}{ws:List V}(r:aB K H α xs ws):∀l:List Nat,aB K H α (l.map λi=>xs.getD i .non) (l.map λi=>ws.getD i .non)
 |[] => .nil
 |i::l=>by
  refine .cons (show Rep K H α (xs.getD i .non) (ws.getD i .non) from ?_) (Vs r l);by_cases hi:i<xs.length
  .obtain⟨v,h1,h2⟩:=r.get (gJ hi);rw[List.getD_eq_getElem?_getD,List.getD_eq_getElem?_getD,gJ hi,h1];exact h2
  .have hi':¬i<ws.length:=by rw[<-r.length];exact hi
   rw[List.getD_eq_getElem?_getD,List.getD_eq_getElem?_getD,jw (by omega),jw (by omega)];exact .non
theorem U9{ws:List V}{us:List Value}(r:Vals ws us):∀l:List Nat,Vals (l.map λi=>ws.getD i .non) (l.map λi=>us.getD i .none)
 |[] => .nil
 |i::l=>by
  refine .cons (show RelV (ws.getD i .non) (us.getD i .none) from ?_) (U9 r l);by_cases hi:i<ws.length
  .obtain⟨v,h1,h2⟩:=r.get (gJ hi);rw[List.getD_eq_getElem?_getD,List.getD_eq_getElem?_getD,gJ hi,h1];exact h2
  .have hi':¬i<us.length:=by rw[<-r.length];exact hi
   rw[List.getD_eq_getElem?_getD,List.getD_eq_getElem?_getD,jw (by omega),jw (by omega)];exact rfl
section
variable {X:Cx}{p pos aX kp:Pos}{e:Expr}{fe fb:EF}{params:Arguments}{body:Expr}{scope:Scope}{q:Str}{cap:List Str}{src:List Nat}{k:Nat}{Pt ct:Addr}
theorem YZ(L:vd X Pt ct)(hsc:scope.kind = .function/\scope.isCoroutine=false/\scope.isGenerator=false/\scope.names.lookup q=some .local/\∀y∈scope.names,y.2 ≠ .cell)(hu:∀y∈scope.names,scope.names.lookup y.1=some y.2)(hcap:∀y∈cap,(y,NameKind.free)∈scope.names)(hfree:∀y∈scope.names,y.2 = .free->X.env.kindOf y.1=some .cell)(fQ:∀(i:Nat) y,cap[i]?=some y->∃j,src[i]?=some j/\X.N[j]?=some y)(hlen:cap.length=src.length)(hdef:defaultsOf params X.env=([],[]))(hbind:∀(pm cdv ctv:Value) (clos:List (Str×Addr)) (qual:Str) (u:Value),bindArgs (kla_fn "<lambda>" qual params body scope clos pm cdv ctv) ⟨[u],[]⟩=pure [(q,u)])(hbody:∀(base:Heap),Mod X.K X.mg base->∀(a:Addr) (cdv:Value) (clos:List (Str×Addr)) (qual:Str) (A:Around) (outer:List Env) (s:Shared) (H:Hp) (E:XK),aU k (A.deeper (envX qual scope s.heap.objs.size a cdv clos)) ->
  SE (pZ X.prog X.w X.K X.mg base (q::cap) qual scope a cdv clos A outer s H E).nox body fb)(hr:aU (k+3) X.A)(hg:Gl X "sorted")(hm:X.mg "sorted" = none)(ha:SE X e fe)(he:starEach [e] X.env=[(false,eval e X.env)]):
 SE X (.Call (.Name "sorted" p) [e] [⟨some "key",.Lambda params body scope aX,kp⟩] pos) (zx fe src fb):=by
 intro pins s σ H Q I h;obtain⟨σd,S,α,z,S',hv,hs,hf,kk⟩:=h;unfold zx at hf;simp only[aW] at hf;obtain⟨⟨d1,S1⟩,e1,dz,e2,e3⟩:=hf;split at e3
 .rename_i hlo;split at e3
  .rename_i n en;simp only at en;subst en;split at e3
   .rename_i xs ex;split at e3
    .rename_i h64;simp only[aR] at e3;obtain⟨kz,ek,e4⟩:=e3;cases e4;obtain⟨hkl,hkg⟩:=Vl ek;obtain⟨cF,c1,c2,c3⟩:=Kd hv e2;refine wpAny_Call_Name_kw (tH I hg hm (show bootBuiltins "sorted" = some (.builtin "sorted") by decide +kernel) ?_ (by decide) (by decide));have hst:backTo pos (starEach [e] X.env)=(false,eval e X.env)::backTo pos (starEach [] X.env):=by rw[he];rfl
     refine callWith_kw ?_ hst (by rw[hst];rfl) rfl rfl;rw[hst];refine Calls.spliced_cons (bK (ha pins s σ H (λv H1=>∃α1,aq X.K H1 α1 S1/\Ext X.K H α H1 α1/\Rep X.K H1 α1 (.ref n) v) I ⟨σd,S,α,.ref n,S1,hv,hs,e1,λw H1 α1 s1 x1 r1=>⟨α1,s1,x1,r1⟩⟩) λu1 s1 ⟨v1,H1,I1,r1,α1,st1,x1,Ou⟩=>?_);refine Calls.spliced_nil ?_;cases Ou with
     |@ref _ l hl =>
      cases r1;obtain⟨ws,hw,rws⟩:=st1.obj _ _ _ ex hl;have hcells:∀y∈scope.names,y.2 = .free->∃c,X.env.cells.lookup y.1=some c:=λy hy e=>I1.ok.has y.1 (.inl (hfree y hy e));obtain⟨O2,wJ⟩:=L.tab;obtain⟨more,hps⟩:=I1.base.tbls Pt O2 wJ;refine kws_cons (Uc I1 hps L.code L.hd L.bm (V3 hcells) hdef λa s2 H2 M=>kws_nil ?_);obtain⟨cdv,C,Py⟩:=Ud I1 M hcap hfree L.fn (cF:=cF) (λi y hi=>by
       obtain⟨j,k1,k2⟩:=fQ i y hi;obtain⟨v,k3,k4⟩:=c3 i j k1;exact⟨j,v,k2,k3,k4⟩)
      have I2:=M.inv;obtain⟨e0,kb⟩:=Vc I2;have N:=N0.of I2;have hw2:H2 l=some (.lst ws):=M.same.1 _ _ hw λ_ z=>by cases z
      have J:SJ X pins σ S1 H2 α1 (m8 s2.heap H2 X.stack) s2.heap.objs.size [] s2 H2 α1:=⟨I2,M.same.store st1,Ext.refl,d8.refl,bZ _,λb o e=>Vq e,λp hp=>(nomatch hp)⟩
      obtain⟨hz,its,en,rv,hits,ho⟩:=I2.lstM hw2;have hil:s2.heap.IsList l its.toArray:=⟨_,ho,rfl,en,rfl⟩
      have clo:=Zg (X:=X) (Pt:=Pt) (aX:=aX) (k:=k) hsc hu hbind (hbody _ e0.mod) hlo (by rw[hlen,c2]) C;have hR:aB X.K H2 [] dz cF/\∃ps,H2 Pt=some (.tbl ps)/\codeAmong aX ps.toList=some cdv:=⟨(c1.mono (x1.trans M.same.ext)).monoT d8.refl hlo,Py⟩
      have Ce:=rws.mono (M.same.ext (α:=α1));refine zjR (kz:=kz) N J hil (by rw[hkl,rws.length];exact hits) (by rw[<-hits,<-rws.length];exact h64) (λi u kv hu hk own p0 hp0 s3 H3 α3 J3=>?_) λDd c s3 H3 α3 J3=>?_
      .obtain⟨w,hw3,rw3⟩:∃w,ws[i]?=some w/\RelV w u:=by
        have hi:i<ws.length:=by rw[hits];exact(eV.mp hu).1
        obtain⟨u',hu',r'⟩:=rv.get (gJ hi);rw[hu] at hu';cases hu';exact⟨_,gJ hi,r'⟩
       obtain⟨d,hd,rd⟩:=Ce.getV hw3;refine SJ.call N e0.mod J3 (A:=X.A.in1.in1) rfl hr.in1.in1 clo (λHa Hb t hR=>⟨hR.1.monoT t hlo,?_⟩) hR hp0 (rd.mono J3.ext) rw3 (hkg i d kv hd hk);obtain⟨ps,h1,h2⟩:=hR.2;obtain⟨more,h3⟩:=t.tbls _ _ h1;exact⟨_,h3,by rw[Array.toList_append];exact zjr _ _ h2⟩
      .have Df:((jq kz).map λi=>ws.getD i V.non).length<=sizeLine:=by rw[cZ,(Li kz).length_eq,List.length_range,sizeLine_eq];omega
       have I3:=J3.adopt N (U9 rv (jq kz)) Df;have hnD:=(J3.own _ (List.mem_singleton.mpr rfl)).2.1;obtain⟨s4,x4⟩:=J3.st.snoc (p:=Dd) (o := .lst ((jq kz).map λi=>xs.getD i .non)) (u := .lst ((jq kz).map λi=>ws.getD i V.non)) hnD λα' x=>⟨_,dU,(Vs (Ce.mono J3.ext) (jq kz)).mono x⟩
       refine⟨.ref Dd,_,I3,rfl,kk _ _ _ s4 ((x1.trans (M.same.ext (α:=α1))).trans (J3.ext.trans x4)) (.ref ?_)⟩;rw[<-J3.st.len];simp
    .cases e3
   .cases e3
  .cases e3
 .cases e3
end
end MX
end
section
namespace MX
open PySem PySem.Spec PyProof.Rows L2
def FnAt.mono{P:Program}{w:World}{K:FgA}{mg:Str->Option Value}{base:Heap}{j k:Nat}{x:Str}{n:Nat}{φ:GN}(h:FnAt P w K mg base j x n φ)(hjk:j<=k):FnAt P w K mg base k x n φ :=
 let ⟨f,fd,ps,a,b,c,d⟩:=h
 ⟨f,fd,ps,a,b,c,d.mono hjk⟩
noncomputable def fC(names:List (Str×NameKind)):List Str:=(names.filter λy=>y.2 == .local||y.2 == .cell).map (·.1)
noncomputable def mkC(st:Stmt)(fns:List (Str×Nat×GN))(blt:List Str):Ctx:={ N:=fC (bf st).names,names:=(bf st).names,sts:=fC (bf st).names,fns:=fns,blt:=blt }
noncomputable def m9(N:List Str)(ds:List D):Sg:=ds.map some++List.replicate (N.length - ds.length) none
theorem Gs(r:aB K H α ds vs):bD K H α (m9 N ds) (start N vs):=by
 have hl:=r.length;refine⟨by simp[m9,L2.start,hl],λi d e=>?_⟩;have hi:i<ds.length:=by
  unfold m9 at e;by_cases hi:i<ds.length
  .exact hi
  .rw[zJ (by simpa using hi),List.getElem?_replicate] at e;split at e<;>cases e
 have ed:ds[i]?=some d:=by
  unfold m9 at e;rw[mR (by simpa using hi),gG] at e;cases q:ds[i]? with
  |none=>rw[q] at e;cases e
  |some z=>rw[q] at e;cases e;rfl
 obtain⟨v,h1,h2⟩:=r.get ed;refine⟨v,?_,h2⟩;unfold L2.start;rw[mR (by rw[cZ,<-hl];exact hi),gG,h1];rfl
def uQ(r:Option (Fl×Sg×So))(z:D)(S S':So):Prop:=∃fl σ' gM,r=some (fl,σ',gM)/\(fl = .rt z\/(fl = .nx/\z = .non))/\S'=gM.take S'.length/\S.length<=S'.length/\D.lo S'.length z=true/\∀o∈S',O.lo S'.length o=true
theorem zi6(hu:∀y∈names,names.lookup y.1=some y.2)(h:x∈fC names):names.lookup x=some .local\/names.lookup x=some .cell:=by
 unfold fC at h;obtain⟨y,hy,rfl⟩:=List.mem_map.mp h;obtain⟨h1,h2⟩:=List.mem_filter.mp hy;rw[o8] at h2;have e:=hu y h1;rcases h2 with q|q
 .exact .inl (by rw[e];congr 1;simpa using q)
 .exact .inr (by rw[e];congr 1;simpa using q)
noncomputable def BW(K:FgA)(n:Nat):Sp:=λvs H Q _=>∃(a:Addr) (ns:List Int),vs=[.ref a]/\qe K H a (ns.map V.int)/\ns.length<=n/\∀H',Q (.bl true) H'
end MX
end
section
namespace MX
open PySem L2
theorem FW{nx:Nat->So->Option (Option D)}{g:GF}{t:TF}{fe:EF}{S:So}{xs:List D}(T:Sg->Prop)(p:D->Bool)(h:D->D)(hnx:∀i:Nat,nx i S=some xs[i]?)(hstep:∀d∈xs,∀τ,T τ->∃τ',g d τ S=some (τ',S)/\T τ'/\t τ' S=some (p d,S)/\(p d=true->fe τ' S=some (h d,S))):
 ∀(n i:Nat) (τ:Sg) (acc:List D),T τ->i+n=xs.length->jl nx g t fe n i τ S acc=some (acc++((xs.drop i).filter p).map h,S)
 |0,i,τ,acc,hT,hl=>by unfold jl;rw[hnx,jw (by omega),List.drop_of_length_le (by omega)];simp
 |n+1,i,τ,acc,hT,hl=>by
  have hi:i<xs.length:=by omega
  unfold jl;rw[hnx,gJ hi,List.drop_eq_getElem_cons hi];obtain⟨τ',h1,h2,h3,h4⟩:=hstep xs[i] (List.getElem_mem hi) τ hT;simp only[h1,bQ,h3];cases hp:p xs[i] with
  |false =>
   simp only[Bool.false_eq_true,if_false];rw[FW T p h hnx hstep n (i+1) τ' acc h2 (by omega),List.filter_cons_of_neg (by simp[hp])]
  |true =>
   simp only[if_true,h4 hp,bQ];rw[FW T p h hnx hstep n (i+1) τ' _ h2 (by omega),List.filter_cons_of_pos hp];simp
theorem Ah{nx:Nat->So->Option (Option D)}{g:GF}{f:SF}{xs:List D}(P:Nat->Sg->So->Prop)(hnx:∀(i:Nat) σ S,P i σ S->nx i S=some xs[i]?)(hstep:∀(i:Nat) d σ S,xs[i]?=some d->P i σ S->∃σ1 S1 fl σ2 S2,g d σ S=some (σ1,S1)/\f σ1 S1=some (fl,σ2,S2)/\(fl = .nx\/fl = .ct)/\P (i+1) σ2 S2):
 ∀(n i:Nat) (σ:Sg) (S:So),P i σ S->i+n=xs.length->∃σ' S',jo nx g f n i σ S=some (.nx,σ',S')/\P xs.length σ' S'
 |0,i,σ,S,hP,hl=>by
  unfold jo;rw[hnx i σ S hP,jw (by omega)];have:i=xs.length:=by omega
  subst this;exact⟨σ,S,rfl,hP⟩
 |n+1,i,σ,S,hP,hl=>by
  have hi:i<xs.length:=by omega
  unfold jo;rw[hnx i σ S hP,gJ hi];obtain⟨σ1,S1,fl,σ2,S2,h1,h2,h3,h4⟩:=hstep i xs[i] σ S (gJ hi) hP;obtain⟨σ',S',e1,e2⟩:=Ah P hnx hstep n (i+1) σ2 S2 h4 (by omega);refine⟨σ',S',?_,e2⟩;simp only[h1,bQ,h2];rcases h3 with rfl|rfl<;>exact e1
def Vi(ns:List Int):mY (ns.map D.int)=some ns:=by
 induction ns with
 |nil=>rfl
 |cons n r ih=>simp[mY,ih]
end MX
end
section
namespace MX
open PySem PySem.Spec PyProof.Rows L2
noncomputable def iC(n:Nat)(ds:List D):Sg:=ds.map some++List.replicate (n - ds.length) none
open Classical in
noncomputable def fnOf(n:Nat)(fb:SF):GN:=λds S=>match fb (iC n ds) S with
 |some (.rt z,_,gM)=>if gM.take S.length=S/\D.lo S.length z=true then some (z,S) else if S.length<=gM.length/\D.lo gM.length z=true/\WF gM then some (z,gM) else none
 |some (.nx,_,gM)=>if gM.take S.length=S then some (.non,S) else if S.length<=gM.length/\WF gM then some (.non,gM) else none
 |_=>none
theorem Gn(hn:N.length=n){z:D}(hS:WF S)(h:fnOf n fb ds S=some (z,S')):uQ (fb (m9 N ds) S) z S S':=by
 have e0:m9 N ds=iC n ds:=by unfold m9 iC;rw[hn]
 rw[e0];unfold fnOf at h;split at h
 .rename_i z' σ' gM e;split at h
  .rename_i hc;cases h;exact⟨_,_,_,e,.inl rfl,hc.1.symm,bZ _,hc.2,hS⟩
  .split at h
   .rename_i hc;cases h;exact⟨_,_,_,e,.inl rfl,by simp,hc.1,hc.2.1,hc.2.2⟩
   .cases h
 .rename_i σ' gM e;split at h
  .rename_i hc;cases h;exact⟨_,_,_,e,.inr ⟨rfl,rfl⟩,hc.symm,bZ _,by simp[D.lo],hS⟩
  .split at h
   .rename_i hc;cases h;exact⟨_,_,_,e,.inr ⟨rfl,rfl⟩,by simp,hc.1,by simp[D.lo],hc.2⟩
   .cases h
 .cases h
theorem bY{z:D}(h:fb (iC n ds) S=some (.rt z,σ',S'))(hS:S'.take S.length=S)(hz:D.lo S.length z=true):fnOf n fb ds S=some (z,S):=by unfold fnOf;rw[h];simp only;rw[if_pos ⟨hS,hz⟩]
theorem V5(h:fb (iC n ds) S=some (.nx,σ',S'))(hS:S'.take S.length=S):fnOf n fb ds S=some (.non,S):=by unfold fnOf;rw[h];simp only;rw[if_pos hS]
theorem Ad{z:D}(h:fb (iC n ds) S=some (.rt z,σ',S'))(hne:¬(S'.take S.length=S/\D.lo S.length z=true))(hl:S.length<=S'.length)(hz:D.lo S'.length z=true)(hw:WF S'):fnOf n fb ds S=some (z,S'):=by unfold fnOf;rw[h];simp only;rw[if_neg hne,if_pos ⟨hl,hz,hw⟩]
def cY(K:FgA)(x:Str)(st:Stmt):Prop:=∃f fd,PySem.W.nsIn K mainGlobals x=some (some (.ref f))/\nM K x x st f fd
def cY.mk'{oc:Value}{od an:Option Addr}{kV doc pm ct:Value}(a:PySem.W.nsIn K mainGlobals x=some (some (.ref f)))(l:K.lookup f=some ⟨oc,od,.func (PySem.W.fnOf x x (lW st) (gk st) (bf st) .none kV doc pm an cdv ct),osl⟩)(c:PySem.W.codeIn K cdv x=true)(k:PySem.W.keepIn K (.ref f)=true):cY K x st:=⟨f,_,a,Rf l c k⟩
def bL(P:Program)(w:World)(K:FgA)(mg:Str->Option Value)(base:Heap)(k:Nat)(fns:List (Str×Nat×GN)):Prop:=∀y n ψ,fns.lookup y=some (n,ψ)->FnAt P w K mg base k y n ψ
section
variable {P:Program}{w:World}{K:FgA}{mg:Str->Option Value}{base h:Heap}
def bL.nil:bL P w K mg base k []:=λ_ _ _ e=>by cases e
theorem bL.snoc{φ:GN}(hs:bL P w K mg base k fns)(h:FnAt P w K mg base (k+1) x n φ):bL P w K mg base (k+1) ((x,n,φ)::fns):=λy m ψ e=>by
 rw[iT] at e;split at e
 .rename_i q;cases e;have:y=x:=by simpa using q
  subst this;exact h
 .exact(hs y m ψ e).mono (Nat.le_succ _)
def lV(x:Str)(st:Stmt)(ps:List Str):Prop:=∀(kV doc pm:Value) (an:Option Addr) (cdv ct:Value) (us:List Value),us.length=ps.length->bindArgs (PySem.W.fnOf x x (lW st) (gk st) (bf st) .none kV doc pm an cdv ct) ⟨us,[]⟩=pure (ps.zip us)
def zus{p0:Str}(h:∀(kV doc pm:Value) (an:Option Addr) (cdv ct:Value) (u0:Value),bindArgs (PySem.W.fnOf x x (lW st) (gk st) (bf st) .none kV doc pm an cdv ct) ⟨[u0],[]⟩=pure ([p0].zip [u0])):lV x st [p0]:=λkV doc pm an cdv ct us hl=>match us,hl with
 |[u0],_=>h kV doc pm an cdv ct u0
def bind2{p0:Str}(h:∀(kV doc pm:Value) (an:Option Addr) (cdv ct:Value) (u0 u1:Value),bindArgs (PySem.W.fnOf x x (lW st) (gk st) (bf st) .none kV doc pm an cdv ct) ⟨[u0,u1],[]⟩=pure ([p0,p1].zip [u0,u1])):lV x st [p0,p1]:=λkV doc pm an cdv ct us hl=>match us,hl with
 |[u0,u1],_=>h kV doc pm an cdv ct u0 u1
def bind3{p0 p2:Str}(h:∀(kV doc pm:Value) (an:Option Addr) (cdv ct:Value) (u0 u1 u2:Value),bindArgs (PySem.W.fnOf x x (lW st) (gk st) (bf st) .none kV doc pm an cdv ct) ⟨[u0,u1,u2],[]⟩=pure ([p0,p1,p2].zip [u0,u1,u2])):lV x st [p0,p1,p2]:=λkV doc pm an cdv ct us hl=>match us,hl with
 |[u0,u1,u2],_=>h kV doc pm an cdv ct u0 u1 u2
def bind4{p0 p2 p3:Str}(h:∀(kV doc pm:Value) (an:Option Addr) (cdv ct:Value) (u0 u1 u2 u3:Value),bindArgs (PySem.W.fnOf x x (lW st) (gk st) (bf st) .none kV doc pm an cdv ct) ⟨[u0,u1,u2,u3],[]⟩=pure ([p0,p1,p2,p3].zip [u0,u1,u2,u3])):lV x st [p0,p1,p2,p3]:=λkV doc pm an cdv ct us hl=>match us,hl with
 |[u0,u1,u2,u3],_=>h kV doc pm an cdv ct u0 u1 u2 u3
def sW(K:FgA)(x:Str)(st:Stmt)(c:Addr):Prop:=∃f fd,PySem.W.nsIn K mainGlobals x=some (some (.ref f))/\nM K x x st f fd/\fd.code = .ref c
def zmW{blt:List Str}(KX:K.In h)(G:h.Ns mainGlobals mg)(hz:∀y∈blt,PySem.W.nsIn K mainGlobals y=some none):∀y∈blt,mg y=none:=λy hy=>PySem.W.mg_none_of KX G (hz y hy)
end
end MX
end
section
namespace MX
open PySem PySem.Spec PySem.W PyProof.Rows L2
theorem V0:∀(os:List Obj) (b a:Nat) (o:Obj),(qG os b).lookup a=some o->b<=a/\os[a - b]?=some o/\qD a o=true
 |[],_,_,_,e=>by cases e
 |o'::r,b,a,o,e=>by
  have low:(qG r (Nat.succ b)).lookup a=some o->b<=a/\(o'::r)[a - b]?=some o/\qD a o=true:=λe=>by
   obtain⟨h1,h2,h3⟩:=V0 r (Nat.succ b) a o e;refine⟨by omega,?_,h3⟩;have:a - b=(a - Nat.succ b)+1:=by omega
   rw[this,List.getElem?_cons_succ];exact h2
  unfold qG at e;cases q:qD b o' with
  |false=>rw[q] at e;exact low e
  |true =>
   rw[q] at e;simp only[cond_true,iT] at e;cases z:a==b with
   |false=>rw[z] at e;exact low e
   |true =>
    rw[z] at e;cases e;have z':a=b:=by simpa using z
    subst z';exact⟨bZ _,by rw[Nat.sub_self];rfl,q⟩
theorem zkT(h:Heap):(iG h).In h:=λa o e=>by obtain⟨_,h2,h3⟩:=V0 _ _ _ _ e;rw[Nat.sub_zero,Array.getElem?_toList] at h2;unfold Heap.get?;rw[h2];obtain⟨c,d,dt,sl⟩:=o;cases dt<;>first|rfl|(exact absurd h3 (by intro z;cases z))
def IV(s:Stmt):dA s=lW s:=by cases s<;>rfl
def IW(s:Stmt):dB s=gk s:=by cases s<;>rfl
def Ja(s:Stmt):dS s=bf s:=by cases s<;>rfl
theorem cY.of_seen(h:zQ K x=some (dA st,dB st,dS st,true)):cY K x st:=by
 rw[IV,IW,Ja] at h;unfold zQ at h;split at h
 .rename_i f a;split at h
  .rename_i oc od n q ps b sc g kV doc pm an cd ct bn osl l;simp only[Option.some.injEq,Prod.mk.injEq,cL,beq_iff_eq] at h;obtain⟨e1,e2,e3,e4,e5,e6,e7,e8,e9⟩:=h;have e6:=Nat.eq_of_beq_eq_true e6;have e7:=Nat.eq_of_beq_eq_true e7;subst e1 e2 e3 e4 e5 e6 e7;exact cY.mk' a l e8 e9
  .cases h
 .cases h
theorem zhn(D:cY K x st)(e:Ew K h x=(some (tabObj #[]),true)):
 ∃c Pt:Addr,sW K x st c/\codeHdIn K c Pt=true/\K.lookup Pt=none/\h.get? Pt=some (tabObj #[]):=by
 obtain⟨f,fd,a,F⟩:=D;unfold Ew at e;rw[a] at e;simp only at e;split at e
 .rename_i oc od F' osl l;split at e
  .rename_i c hc;split at e
   .rename_i c1 d1 vs s1 lc;split at e
    .rename_i Pt hv;simp only[Prod.mk.injEq,cL] at e;obtain⟨e1,e2,e3⟩:=e;refine⟨c,Pt,⟨f,fd,a,F,?_⟩,e2,?_,e1⟩
     .obtain⟨oc',od',kV,doc,pm,an,cdv,ct,osl',hfd,hl,_⟩:=F.ex;rw[l] at hl;cases hl;exact hc
     .cases q:K.lookup Pt with
      |none=>rfl
      |some o=>rw[q] at e3;cases e3
    .cases e
   .cases e
  .cases e
 .cases e
end MX
end
section
namespace MX
open PySem PySem.Spec PyProof.Rows L2
structure CE where
 flds:List (Str×Str):=[]
 mths:List (Str×Str×Nat×GN):=[]
 mks:List (Str×Nat×GN):=[]
 gls:List (Str×Str):=[]
noncomputable def Dz(P:Program)(w:World)(K:FgA)(mg:Str->Option Value)(base:Heap)(k:Nat)(C m:Str)(n:Nat)(φ:GN):Prop :=
 ∃f fd ps,jc K (cu K C)/\sI K (cu K C) m f/\Binds K fd ps []/\bO P w K mg base fV k f fd ps (sV K n φ)
noncomputable def Qm(P:Program)(w:World)(K:FgA)(mg:Str->Option Value)(base:Heap)(k:Nat)(C:Str)(n:Nat)(φ:GN):Prop :=
 ∃f fd ps j,j+1<=k/\mg C=some (.ref (cu K C))/\Mk K (cu K C) f/\Binds K fd ps []/\bO P w K mg base fV j f fd ps (sV K n φ)
structure dY(P:Program)(w:World)(K:FgA)(mg:Str->Option Value)(base:Heap)(k:Nat)(E:CE):Prop where
 flds:∀f C,E.flds.lookup f=some C->jc K (cu K C)/\dX K (cu K C) f
 mths:∀m C n φ,E.mths.lookup m=some (C,n,φ)->Dz P w K mg base k C m n φ
 mks:∀C n φ,E.mks.lookup C=some (n,φ)->Qm P w K mg base k C n φ
 gls:∀x y,E.gls.lookup x=some y->∃t,mg x=some (.str y t)
section
variable {P:Program}{w:World}{K:FgA}{mg:Str->Option Value}{base h:Heap}
theorem dY.mono{j k:Nat}{E:CE}(e:dY P w K mg base j E)(hjk:j<=k):dY P w K mg base k E:=⟨e.flds,λm C n φ q=>by
 obtain⟨f,fd,ps,a,b,c,d⟩:=e.mths m C n φ q;exact⟨f,fd,ps,a,b,c,d.mono hjk⟩,λC n φ q=>by
 obtain⟨f,fd,ps,i,hi,a,b,c,d⟩:=e.mks C n φ q;exact⟨f,fd,ps,i,Nat.le_trans hi hjk,a,b,c,d⟩,e.gls⟩
noncomputable def kY(st:Stmt)(fns:List (Str×Nat×GN))(blt:List Str)(E:CE):Ctx:={ mkC st fns blt with flds:=E.flds,mths:=E.mths,mks:=E.mks,gls:=E.gls }
theorem Gb{CX:mQ}{blt:List Str}{E:CE}(S:jA (fC (bf st).names) ps (bf st))(hu:(bf st).names.all (λy=>decide ((bf st).names.lookup y.1=some y.2))=true)(wL:bL P w K mg base k fns)(dw:∀y∈blt,mg y=none)(hE:dY P w K mg base k E){E':XK}(hr:aU k (A.deeper (envOfC qual (bf st) s.heap.objs.size f cdv))):
 d9 (kY st fns blt E) (jR CX P w K mg base (fC (bf st).names) qual (bf st) f cdv A outer s H E')/\d9 (kY st fns blt E) (jR CX P w K mg base (fC (bf st).names) qual (bf st) f cdv A outer s H E').nox:=by
 constructor
 all_goals
  refine⟨rfl,S.nd,rfl,S.kind,λy hy=>?_,λy n ψ q=>?_,dw,rfl,hr.units,λ_ _ _ h=>(nomatch h),λ_ _ _ h=>(nomatch h),λ_ _ _ _ _ h=>(nomatch h),λ_ _ _ _ _ _ h=>(nomatch h),hE.gls,λg C q=>⟨(hE.flds g C q).1,(hE.flds g C q).2⟩,λy C n ψ q=>?_,λC n ψ q=>?_⟩
  .rw[List.all_eq_true] at hu;exact⟨zi6 (λz hz=>of_decide_eq_true (hu z hz)) hy,.inl rfl⟩
  .obtain⟨f',fd',ps',a,b,c,d⟩:=wL y n ψ q;exact⟨f',fd',ps',k,a,b,c,d,hr⟩
  .obtain⟨f',fd',ps',a,b,c,d⟩:=hE.mths y C n ψ q;exact⟨f',fd',ps',k,a,b,c,d,hr⟩
  .obtain⟨f',fd',ps',j,hj,a,b,c,d⟩:=hE.mks C n ψ q;exact⟨f',fd',ps',j,a,b,c,d,hr.mono hj⟩
theorem Kh{blt:List Str}{E:CE}{φ:GN}(F:nM K x qual st f fd)(S:jA (fC (bf st).names) ps (bf st))(hu:(bf st).names.all (λy=>decide ((bf st).names.lookup y.1=some y.2))=true)(wL:∀y n ψ,fns.lookup y=some (n,ψ)->FnAt P w K mg base k y n ψ)(dw:∀y∈blt,mg y=none)(hE:dY P w K mg base k E)(hb:ju m (kY st fns blt E) (gk st)=some fb)(hφ:∀ds S₀ z S',WF S₀->ds.length=ps.length->φ ds S₀=some (z,S')->uQ (fb (m9 (fC (bf st).names) ds) S₀) z S₀ S'):
 bO P w K mg base fV (k+1) f fd ps (sV K ps.length φ):=by
 refine F.ok S (λvs H Q E h=>h.1) (λcdv A outer s H vs Q E' hr h=>?_);obtain⟨hlen,S₀,α,ds,z,S',hs,r,e,kk⟩:=h;have ok:=(Gb (CX:=fV) (P:=P) (w:=w) (qual:=qual) (f:=f) (cdv:=cdv) (outer:=outer) (H:=H) (E':=E') S hu wL dw hE hr).2;refine⟨Cj K fb,(Ak m _ _ ok PassesOwn.never).2 _ fb hb,?_⟩;obtain⟨fl,σ',gM,e1,e2,e3,e4,e5,e6⟩:=hφ ds S₀ z S' hs.wf (by rw[r.length];exact hlen) e;refine⟨_,S₀,α,fl,σ',gM,Gs r,hs,e1,λσ2 H2 α2 v2 s2 x2=>?_⟩;have s3:aq K H2 (α2.take S'.length) S':=by have:=s2.cut S'.length (by rw[<-e3];exact e6);rw[<-e3] at this;exact this
 have x3:Ext K H α H2 (α2.take S'.length):=⟨x2.tups,λn a q=>by
  have hn:n<S'.length:=by have:=(eV.mp q).1;rw[hs.len] at this;omega
  rw[List.getElem?_take_of_lt hn];exact x2.pre n a q,x2.insts⟩
 rcases e2 with rfl|⟨rfl,rfl⟩
 .exact λv rv=>kk v H2 _ s3 x3 (rv.cut _ e5)
 .exact kk .non H2 _ s3 x3 .non
def gb(K:FgA)(C m:Str)(st:Stmt):Prop:=∃f fd,sI K (cu K C) m f/\nM K m (C ++ "." ++ m) st f fd
def uR(C m:Str)(st:Stmt)(ps:List Str):Prop:=∀(kV doc pm:Value) (an:Option Addr) (cdv ct:Value) (us:List Value),us.length=ps.length->bindArgs (PySem.W.fnOf m (C ++ "." ++ m) (lW st) (gk st) (bf st) .none kV doc pm an cdv ct) ⟨us,[]⟩=pure (ps.zip us)
theorem zmE{blt:List Str}{E:CE}(hs:bL P w K mg base k fns)(hE:dY P w K mg base k E)(KX:K.In h)(G:h.Ns mainGlobals mg)(dw:∀y∈blt,mg y=none)(hD:cY K x st)(hb0:lV x st ps)(S:jA (fC (bf st).names) ps (bf st))(hu:(bf st).names.all (λy=>decide ((bf st).names.lookup y.1=some y.2))=true)(hn:(fC (bf st).names).length=n)(hb:ju m (kY st fns blt E) (gk st)=some fb):bL P w K mg base (k+1) ((x,ps.length,fnOf n fb)::fns):=by obtain⟨f,fd,a,F⟩:=hD;exact hs.snoc ⟨f,fd,ps,PySem.W.mg_of KX G a,F.kp,F.binds hb0,Kh F S hu hs dw hE hb λds S₀ z S' hw _ e=>Gn hn hw e⟩
theorem Ld{C:Str}{blt:List Str}{E:CE}(hs:bL P w K mg base k fns)(hE:dY P w K mg base k E)(hc:jc K (cu K C))(dw:∀y∈blt,mg y=none)(hD:gb K C x st)(hb0:uR C x st ps)(S:jA (fC (bf st).names) ps (bf st))(hu:(bf st).names.all (λy=>decide ((bf st).names.lookup y.1=some y.2))=true)(hn:(fC (bf st).names).length=n)(hb:ju m (kY st fns blt E) (gk st)=some fb):dY P w K mg base (k+1) { E with mths:=(x,C,ps.length,fnOf n fb)::E.mths }:=by
 obtain⟨f,fd,a,F⟩:=hD;have e2:=hE.mono (Nat.le_succ k);refine⟨e2.flds,λy C' j ψ e=>?_,e2.mks,e2.gls⟩;have e:((x,C,ps.length,fnOf n fb)::E.mths).lookup y=some (C',j,ψ):=e;rw[iT] at e;split at e
 .rename_i q;cases e;have:y=x:=by simpa using q
  subst this;exact⟨f,fd,ps,hc,a,F.binds hb0,Kh F S hu hs dw hE hb λds S₀ z S' hw _ e=>Gn hn hw e⟩
 .exact e2.mths y C' j ψ e
theorem Ug{C:Str}{blt:List Str}{E:CE}(hs:bL P w K mg base k fns)(hE:dY P w K mg base k E)(dw:∀y∈blt,mg y=none)(hm:mg C=some (.ref (cu K C)))(hD:∃f fd,Mk K (cu K C) f/\nM K "__init__" (C ++ ".__init__") st f fd)(hb0:∀(kV doc pm:Value) (an:Option Addr) (cdv ct:Value) (us:List Value),us.length=ps.length->bindArgs (PySem.W.fnOf "__init__" (C ++ ".__init__") (lW st) (gk st) (bf st) .none kV doc pm an cdv ct) ⟨us,[]⟩=pure (ps.zip us))(S:jA (fC (bf st).names) ps (bf st))(hu:(bf st).names.all (λy=>decide ((bf st).names.lookup y.1=some y.2))=true)(hn:(fC (bf st).names).length=n)(hb:ju m (kY st fns blt E) (gk st)=some fb):dY P w K mg base (k+2) { E with mks:=(C,ps.length,fnOf n fb)::E.mks }:=by
 obtain⟨f,fd,a,F⟩:=hD;have e2:=hE.mono (Nat.le_add_right k 2);refine⟨e2.flds,e2.mths,λy j ψ e=>?_,e2.gls⟩;have e:((C,ps.length,fnOf n fb)::E.mks).lookup y=some (j,ψ):=e;rw[iT] at e;split at e
 .rename_i q;cases e;have:y=C:=by simpa using q
  subst this;exact⟨f,fd,ps,k+1,bZ _,hm,a,F.binds hb0,Kh F S hu hs dw hE hb λds S₀ z S' hw _ e=>Gn hn hw e⟩
 .exact e2.mks y j ψ e
def bL.mono{j k:Nat}{fns:List (Str×Nat×GN)}(hs:bL P w K mg base j fns)(h:j<=k):bL P w K mg base k fns:=λy n ψ e=>(hs y n ψ e).mono h
end
end MX
end
section
namespace MX
open PySem PySem.Spec PySem.W PyProof.Rows L2
noncomputable def CP(c:Ctx)(q:Str)(names:List (Str×NameKind)):Ctx:={ N:=q::m7 names,names:=names,sts:=[],fns:=[],blt:=[],flds:=c.flds }
noncomputable def Xm(m:Nat)(c:Ctx)(q0:Str)(e value:Expr):Option EF:=match value with
 |.Lambda params body scope _=>match HJ params with
  |none=>none
  |some (q,_)=>if q=q0/\CQ c q scope=true then(cE m c e).bind λfe=>(oE c (m7 scope.names)).bind λsrc=>(cE m (CP c q scope.names) body).map λfb=>zx fe src fb else none
 |_=>none
noncomputable def Oo(m:Nat)(c:Ctx)(q0 x:Str)(es:List Expr)(ks:List Keyword):Option EF :=
 if x = "sorted" /\ c.names.lookup x=some .globalImplicit/\x∈c.blt then match es with
  |[]=>none
  |e::r=>match r with
   |_::_=>none
   |[]=>match ks with
    |[]=>none
    |k::kr=>match kr with
     |_::_=>none
     |[]=>if k.arg=some "key" /\ jB e=true then Xm m c q0 e k.value else none
 else none
section
variable {c:Ctx}{X:Cx}
theorem zlU{q0:Str}{f:EF}{Pt ct:Addr}(ok:d9 c X)(L:vd X Pt ct)(hr:aU (k+3) X.A)(hbind:∀(ap:Pos) (body:Expr) (scope:Scope) (pm cdv ctv:Value) (clos:List (Str×Addr)) (qual:Str) (u:Value),bindArgs (kla_fn "<lambda>" qual (zT q0 ap) body scope clos pm cdv ctv) ⟨[u],[]⟩=pure [(q0,u)])(h:Oo m c q0 x es ks=some f):SE X (.Call (.Name x p) es ks pos) f:=by
 unfold Oo at h;split at h
 .rename_i hc;obtain⟨rfl,h1,h2⟩:=hc;cases es with
  |nil=>cases h
  |cons e r =>
   cases r with
   |cons _ _=>cases h
   |nil =>
    cases ks with
    |nil=>cases h
    |cons kw kr =>
     cases kr with
     |cons _ _=>cases h
     |nil =>
      simp only at h;split at h
      .rename_i hk;obtain⟨a,v,kp⟩:=kw;obtain⟨hk1,hk2⟩:=hk;simp only at hk1;subst hk1;unfold Xm at h;simp only at h;cases v with
       |Lambda params body scope aX =>
        simp only at h;split at h
        .cases h
        .rename_i q' ap eo;have eo:=zi8 eo;split at h
         .rename_i hc;obtain⟨rfl,h3⟩:=hc;simp only[aW,aR] at h;obtain⟨fe,e1,src,e2,fb,e3,rfl⟩:=h;subst eo;unfold CQ at h3;simp only[cL,su,Bool.not_eq_true',List.all_eq_true] at h3;obtain⟨⟨⟨⟨⟨⟨⟨k1,k2⟩,k3⟩,k4⟩,k5⟩,k6⟩,k7⟩,k8⟩:=h3;obtain⟨s1,s2⟩:=JQ e2;refine YZ (q:=q') (cap:=m7 scope.names) (k:=k) L ⟨k1,k2,k3,k4,k5⟩ k6 (λy hy=>RJ hy) (λy hy hf=>?_) (λi y hi=>?_) s1 (zoU _) (λpm cdv ctv clos qual u=>hbind ap body scope pm cdv ctv clos qual u) (λbase M a cdv clos qual A outer s H E hrm=>?_) hr ?_ (ok.blt _ h2) ((jN m).1 c X e fe ok e1) (by rw[iy hk2];rfl)
          .show X.env.scope.names.lookup y.1=_;rw[ok.names];exact k7 y hy hf
          .obtain⟨j,j1,j2⟩:=s2 i y hi;exact⟨j,j1,by rw[ok.N];exact j2⟩
          .exact(jN m).1 (CP c q' scope.names) _ body fb ⟨rfl,k8,rfl,k1,λy hy=>(nomatch hy),λ_ _ _ h=>(nomatch h),λy hy=>(nomatch hy),rfl,hrm.units,λ_ _ _ h=>(nomatch h),λ_ _ _ h=>(nomatch h),λ_ _ _ _ _ h=>(nomatch h),λ_ _ _ _ _ _ h=>(nomatch h),λ_ _ h=>(nomatch h),λg C q=>⟨(ok.flds g C q).cls,(ok.flds g C q).no⟩,λ_ _ _ _ h=>(nomatch h),λ_ _ _ h=>(nomatch h)⟩ e3
          .show X.env.scope.names.lookup _=_;rw[ok.names];exact h1
         .cases h
       |_=>cases h
      .cases h
 .cases h
end
noncomputable def O.isT(x:Str):O->Bool
 |.tbl y=>decide (y=x)
 |_=>false
noncomputable def kW(x:Str)(S:So):Bool:=S.any (O.isT x)
theorem zpa(hs:aq K H α S)(h:kW x S=true):∃ps,H (gZ K x)=some (.tbl ps):=by
 unfold kW at h;rw[List.any_eq_true] at h;obtain⟨o,ho,e⟩:=h;obtain⟨n,hn,rfl⟩:=List.mem_iff_getElem.mp ho;have hn':n<α.length:=by rw[hs.len];exact hn
 have ob:=hs.obj n S[n] α[n] (gJ hn) (gJ hn');cases q:S[n] with
 |tbl y =>
  rw[q] at e ob;have e:y=x:=of_decide_eq_true e;subst e;obtain⟨h0,ps,h1⟩:=ob;exact⟨ps,by rw[<-h0];exact h1⟩
 |_=>rw[q] at e;cases e
noncomputable def wA(m:Nat)(st:Stmt)(fns:List (Str×Nat×GN))(blt:List Str)(E:CE)(q0:Str):Ctx:={ kY st fns blt E with kwx:=Oo m (kY st fns blt E) q0 }
noncomputable def sY(x:Str)(n:Nat)(fb:SF):GN:=λds S=>if kW x S=true then fnOf n fb ds S else none
section
variable {P:Program}{w:World}{K:FgA}{mg:Str->Option Value}{base h:Heap}
theorem zmD{q0:Str}{blt:List Str}{E:CE}{c:Addr}(hs:bL P w K mg base k fns)(hE:dY P w K mg base k E)(KX:K.In h)(G:h.Ns mainGlobals mg)(dw:∀y∈blt,mg y=none)(hD:sW K x st c)(hC:CodeHd base c (gZ K x))(hB:BM base mg)(hb0:lV x st ps)(S:jA (fC (bf st).names) ps (bf st))(hu:(bf st).names.all (λy=>decide ((bf st).names.lookup y.1=some y.2))=true)(hbind:∀(ap:Pos) (body:Expr) (scope:Scope) (pm cdv ctv:Value) (clos:List (Str×Addr)) (qual:Str) (u:Value),bindArgs (kla_fn "<lambda>" qual (zT q0 ap) body scope clos pm cdv ctv) ⟨[u],[]⟩=pure [(q0,u)])(hn:(fC (bf st).names).length=n)(hb:ju m (wA m st fns blt E q0) (gk st)=some fb):bL P w K mg base (k+4) ((x,ps.length,sY x n fb)::fns):=by
 obtain⟨f,fd,a,F,hcode⟩:=hD;refine(hs.mono (Nat.le_add_right k 3)).snoc ⟨f,fd,ps,PySem.W.mg_of KX G a,F.kp,F.binds hb0,?_⟩;obtain⟨oc,od,kV,doc,pm,an,kE,ct,osl,rfl,lk,oR⟩:=F.ex;refine zV lk oR S (λvs H Q E h=>h.1) (λA outer s H vs Q E' hr h=>?_);obtain⟨hlen,S₀,α,ds,z,S',hst,r,e,kk⟩:=h;unfold sY at e;split at e
 .rename_i hT;have ok0:=(Gb (CX:=fV) (P:=P) (w:=w) (K:=K) (mg:=mg) (base:=base) (qual:=x) (f:=f) (E':=E') (outer:=outer) (H:=H) (cdv:=kE) S hu hs dw hE (hr.mono (Nat.le_add_right k 3))).2;have L:vd (jR fV P w K mg base (fC (bf st).names) x (bf st) f kE A outer s H E').nox (gZ K x) c:=⟨λ_=>rfl,zpa hst hT,hcode,hC,hB⟩
  have ok:d9 (wA m st fns blt E q0) (jR fV P w K mg base (fC (bf st).names) x (bf st) f kE A outer s H E').nox :=
   ⟨ok0.N,ok0.nd,ok0.names,ok0.kind,ok0.st,ok0.fns,ok0.blt,ok0.calm,ok0.un,ok0.lf,λ_ _ _ h=>(nomatch h),ok0.ext,λy es ks g p pos q=>zlU ok0 L hr hbind q,ok0.gls,ok0.flds,ok0.mths,ok0.mks⟩
  refine⟨Cj K fb,((Ak m _ _ ok PassesOwn.never).2 _ fb hb).nox,?_⟩;obtain⟨fl,σ',gM,e1,e2,e3,e4,e5,e6⟩:=Gn hn hst.wf e;refine⟨_,S₀,α,fl,σ',gM,Gs r,hst,e1,λσ2 H2 α2 v2 s2 x2=>?_⟩;have s3:aq K H2 (α2.take S'.length) S':=by have:=s2.cut S'.length (by rw[<-e3];exact e6);rw[<-e3] at this;exact this
  have x3:Ext K H α H2 (α2.take S'.length):=⟨x2.tups,λn a q=>by
   have hn:n<S'.length:=by have:=(eV.mp q).1;rw[hst.len] at this;omega
   rw[List.getElem?_take_of_lt hn];exact x2.pre n a q,x2.insts⟩
  rcases e2 with rfl|⟨rfl,rfl⟩
  .exact λv rv=>kk v H2 _ s3 x3 (rv.cut _ e5)
  .exact kk .non H2 _ s3 x3 .non
 .cases e
theorem zmC(hs:bL P w K mg base k fns)(KX:K.In h)(G:h.Ns mainGlobals mg)(hD:cY K x st)(hb0:lV x st ps):bL P w K mg base k ((x,ps.length,λ_ _=>none)::fns):=by
 obtain⟨f,fd,a,F⟩:=hD;intro y n ψ e;rw[iT] at e;split at e
 .rename_i q;cases e;have:y=x:=by simpa using q
  subst this;refine⟨f,fd,ps,PySem.W.mg_of KX G a,F.kp,F.binds hb0,⟨λvs H Q E h=>?_,λA outer s H args us vs Q E _ _ _ _ h=>?_⟩⟩
  .obtain⟨_,S,α,ds,z,S',_,_,e,_⟩:=h;cases e
  .obtain⟨_,S,α,ds,z,S',_,_,e,_⟩:=h;cases e
 .exact hs y n ψ e
end
theorem Wu:∀(os:List Obj) (b a:Nat) (o:Obj),b<=a->os[a - b]?=some o->qD a o=true->(qG os b).lookup a=some o
 |[],_,_,_,_,e,_=>by simp at e
 |o'::r,b,a,o,hb,e,hk=>by
  unfold qG;by_cases hab:a=b
  .subst hab;rw[Nat.sub_self] at e;have:o'=o:=by simpa using e
   subst this;rw[hk];simp[List.lookup]
  .have e':(qG r (Nat.succ b)).lookup a=some o:=by
    refine Wu r (Nat.succ b) a o (by omega) ?_ hk;have:a - b=(a - Nat.succ b)+1:=by omega
    rw[this,List.getElem?_cons_succ] at e;exact e
   cases qD b o' with
   |false=>exact e'
   |true =>
    simp only[cond_true,iT];have:(a==b)=false:=by simpa using hab
    rw[this];exact e'
theorem V6(e:h.objs.toList[a]?=some o)(hk:qD a o=true):(iG h).lookup a=some o:=Wu _ 0 a o (Nat.zero_le _) (by rw[Nat.sub_zero];exact e) hk
theorem zmP(e:Ib h.objs.toList cd x=true):codeIn (iG h) cd x=true:=by
 unfold Ib at e;split at e
 .rename_i c;split at e
  .rename_i o ho;obtain⟨oc,od,dt,sl⟩:=o;simp only at e;split at e
   .rename_i vs;split at e
    .cases e
    .rename_i hc;have l:(iG h).lookup c=some ⟨oc,od,.fields vs,sl⟩:=V6 ho (by
      unfold qD;cases oc<;>first | rfl | exact absurd rfl hc)
     show(match(iG h).lookup c with|some ⟨_,_,.fields vs,_⟩=>(match vs.toList with|_ :: .str n _::_=>n==x|_=>false)|_=>false)=true;rw[l];exact e
   .cases e
  .cases e
 .cases e
theorem cY.of_seenH(e:Iz (iG h) h.objs.toList x=some (dA st,dB st,dS st,true)):cY (iG h) x st:=by
 rw[IV,IW,Ja] at e;unfold Iz at e;split at e
 .rename_i f a;split at e
  .rename_i o ho;obtain⟨oc,od,dt,osl⟩:=o;simp only at e;split at e
   .rename_i n q ps b sc g kV doc pm an cd ct bn;split at e
    .cases e
    .rename_i hc;simp only[Option.some.injEq,Prod.mk.injEq,cL,beq_iff_eq] at e;obtain⟨e1,e2,e3,e4,e5,e6,e7,e8⟩:=e;have e6:=Nat.eq_of_beq_eq_true e6;have e7:=Nat.eq_of_beq_eq_true e7;subst e1 e2 e3 e4 e5 e6 e7;have l:=V6 ho (by
      unfold qD;cases oc<;>first | rfl | exact absurd rfl hc)
     exact cY.mk' a l (zmP e8) (by
      show(match(iG h).lookup f with|some ⟨_,_,.func _,_⟩=>true|some ⟨_,_,.cls _,_⟩=>specialIn (iG h) (.ref f) "__call__" == some (some (.builtin "type.__call__"))|_=>false)=true;rw[l])
   .cases e
  .cases e
 .cases e
theorem gb.of_seen{C m:Str}(h:IK K C m=some (dA st,dB st,dS st,true)):gb K C m st:=by
 rw[IV,IW,Ja] at h;unfold IK at h;split at h
 .rename_i f a;split at h
  .rename_i oc od n q ps b sc g kV doc pm an cd ct bn osl l;simp only[Option.some.injEq,Prod.mk.injEq,cL,beq_iff_eq] at h;obtain⟨e1,e2,e3,e4,e5,e6,e7,e8,e9,e10⟩:=h;have e6:=Nat.eq_of_beq_eq_true e6;have e7:=Nat.eq_of_beq_eq_true e7;subst e1 e2 e3 e4 e5 e6 e7;exact⟨f,_,⟨a,e10,e9⟩,Rf l e8 e9⟩
  .cases h
 .cases h
theorem zlF{c Pt:Addr}(D:sW K x st c)(e:codeHdIn K c Pt=true):Pt=gZ K x:=by
 obtain⟨f,fd,a,F,hc⟩:=D;obtain⟨oc,od,kV,doc,pm,an,cdv,ct,osl,rfl,l,_⟩:=F.ex;have hc':cdv = .ref c:=hc;subst hc';unfold gZ;rw[a];simp only[l];unfold codeHdIn at e;split at e
 .rename_i od2 vs osl2 hk;simp only[cL] at e;obtain⟨⟨⟨⟨⟨e1,e2⟩,e3⟩,e4⟩,e5⟩,e6⟩:=e;split at e1
  .rename_i P' h11;have hP:P'=Pt:=beq_iff_eq.mp e1;subst hP;show P'=match K.lookup c with|some ⟨_,_,.fields vs,_⟩=>(match(vs[11]?:Option Value) with|some (.ref P)=>P|_=>0)|_=>0
   rw[hk];simp only[h11]
  .cases e1
 .cases e
section
variable {P:Program}{w:World}{K:FgA}{mg:Str->Option Value}{base h:Heap}{C:Str}{fs:List Str}
theorem yE(e:sO K C fs=true):jc K (cu K C)/\makesIn K (cu K C)=true/\keepIn K (.ref (cu K C))=true/\nsIn K mainGlobals C=some (some (.ref (cu K C)))/\∀f∈fs,dX K (cu K C) f:=by unfold sO at e;simp only[cL,beq_iff_eq,List.all_eq_true] at e;obtain⟨⟨a,b,c,d⟩,⟨x,y,z⟩,f⟩:=e;exact⟨⟨a,b,c,d⟩,x,y,z,f⟩
def Ag(e:sO K C fs=true):jc K (cu K C):=(yE e).1
def RL(KX:K.In h)(G:h.Ns mainGlobals mg)(e:sO K C fs=true):mg C=some (.ref (cu K C)):=mg_of KX G (yE e).2.2.2.1
theorem QK(M:gb K C "__init__" st)(e:sO K C fs=true)(hq:C ++ "." ++ "__init__" = C ++ ".__init__"):∃f fd,Mk K (cu K C) f/\nM K "__init__" (C ++ ".__init__") st f fd:=by obtain⟨f,fd,m,F⟩:=M;rw[hq] at F;exact⟨f,fd,⟨(yE e).2.1,m.at_,m.fn,(yE e).2.2.1⟩,F⟩
theorem znO(KX:K.In h)(G:h.Ns mainGlobals mg)(e:vY K x y=true):∃t,mg x=some (.str y t):=by
 unfold vY at e;split at e
 .rename_i z t q;have:z=y:=by simpa using e
  subst this;exact⟨t,mg_of KX G q⟩
 .cases e
theorem Zf{fl:List (Str×Str)}{gl:List (Str×Str)}(KX:K.In h)(G:h.Ns mainGlobals mg)(hf:∀y∈fl,∃fs,sO K y.2 fs=true/\y.1∈fs)(hg:∀y∈gl,vY K y.1 y.2=true):dY P w K mg base 0 { flds:=fl,gls:=gl } :=
 ⟨λf C e=>by
  obtain⟨fs,h1,h2⟩:=hf _ (gP e);exact⟨(yE h1).1,(yE h1).2.2.2.2 _ h2⟩,λ_ _ _ _ h=>(nomatch h),λ_ _ _ h=>(nomatch h),λx y e=>znO KX G (hg _ (gP e))⟩
end
theorem zmz{l:PySem.W.OpenLaw}{loose:List Str}{d:DefRec}{H:Hook}{N:Nat}(Ca:l.wellSaid=true)(left:LeftO l.prog q loose (λ_=>true) H.obs H.val N)(hdef:defOf q l.name=some (d,[]))(hp:l.prog.theDef l.name=some (d.params,d.body,d.scope))(hk:kwWritten? d.params.kwonlyargs d.params.kw_defaults=some [])(ok:(chainsOk q&&opensWell l.prog&&(frees l.row.toRowW&&l.row.within.isEmpty))=true)(hb:l.prog.bare)(hw:l.row.toRowW.promised)(call:PySem.W.WalkO q loose (λ_ _=>True) H.says l.row.toRowW d [] λf vs=>PySem.call f vs):l.Holds:=by
 refine holds_law Ca λsaid=>?_;refine holds_open (r:=l.row) (Xt:=λ_=>true) (XP:=λ_ _=>True) left H.of H.keeps ?_ ?_ hdef hp hk ?_ ?_ said ok hb hw call
 .exact λ_ _=>trivial
 .exact λ_ _ _ _ _=>trivial
 .exact λs _=>recFacts_of (R:=[]) rfl
 .show(!l.row.writes||true)=true;exact Bool.or_true _
noncomputable def Eu(K:FgA)(n:Nat)(Ps:List Addr):Sp:=λvs H Q E=>(∀Pt∈Ps,∃ps,H Pt=some (.tbl ps))/\BW K n vs H Q E
section
variable {P:Program}{w:World}{K:FgA}{mg mb:Str->Option Value}
theorem zjg{fa:Addr}{s₁:Shared}{vs:List Value}{Ps:List Addr}(KX:K.In s₁.heap)(hns:s₁.heap.Ns mainGlobals mg)(hb:s₁.heap.Ns builtinsNs mb)(hbb:∀x:Str,x ≠ "__name__" -> mb x=bootBuiltins x)(hlim:s₁.heap.NoLimit)(hg:s₁.gens=#[])(ha:s₁.heap.get? a=some { cls := .type "list",data := .seq vs.toArray })(hi:IntsAre vs ns)(hl:ns.length<=63)(hr:aU k callerA)(hP:∀Pt∈Ps,s₁.heap.get? Pt=some (tabObj #[]))(hKP:∀Pt∈Ps,K.lookup Pt=none)(C:∀Pt∈Ps,∃c,CodeHd s₁.heap c Pt)(hbm:BM s₁.heap mg)(F:∀base:Heap,Mod K mg base->BM base mg->bO P w K mg base fV k fa fd [x] (Eu K 63 Ps))(hbind:∀(s:Shared) (u:Value),BindsTo s fd ⟨[u],[]⟩ [(x,u)]):
 codeAny (model P w) callerA (.call (.ref fa) ⟨[.ref a],[]⟩) (λr s'=>r = .ok (.ret (.bool true))/\OldK s₁.heap s'.heap/\s'.os=s₁.os/\AllBare s'.gens) s₁:=by
 have rv:=U8 hi;have lenV:=hi.length;have hPa:a∉Ps:=λz=>by have:=hP a z;rw[ha] at this;cases this
 have hl':ns.length<=sizeLine:=Nat.le_trans hl (by rw[sizeLine_eq];decide);have core:∀H:Hp,qe K H a (ns.map V.int)->fJ P w H s₁.heap->(∀Pt∈Ps,H Pt=some (.tbl #[]))->(∀b,b∉Ps->H b=none\/(b=a/\K.lookup a=none/\∃o xs,H b=some (.frz o (.lst xs)))) ->
  codeAny (model P w) callerA (.call (.ref fa) ⟨[.ref a],[]⟩) (λr s'=>r = .ok (.ret (.bool true))/\OldK s₁.heap s'.heap/\s'.os=s₁.os/\AllBare s'.gens) s₁:=by
  intro H hS hok hT hO;have jm:∀{b:Addr} {o:Obj},s₁.heap.get? b=some o->H b=none->(pC s₁.heap H).get? b=some o:=λe n=>zmy e n;have none_of:∀{b:Addr} {o:Obj},s₁.heap.get? b=some o->o≠tabObj #[]->o≠{ cls := .type "list",data := .seq vs.toArray }->H b=none:=λ{b o} e n1 n2=>by
   by_cases hb:b∈Ps
   .have:=hP b hb;rw[e] at this;cases this;exact absurd rfl n1
   .rcases hO b hb with z|⟨z,_⟩
    .exact z
    .subst z;rw[ha] at e;cases e;exact absurd rfl n2
  have mz:∀{b:Addr} {o:Obj} {es:Array DictEntry} {ep:Nat},s₁.heap.get? b=some o->o.data = .dict es ep->H b=none:=λ{b o es ep} e d =>
   none_of e (λz=>by rw[z] at d;cases d) (λz=>by rw[z] at d;cases d)
  have O9:∀{b:Addr} {m:Str->Option Value},s₁.heap.Ns b m->(pC s₁.heap H).Ns b m:=λ{b m} ⟨o,es,ep,e,d,r⟩=>⟨o,es,ep,jm e (mz e d),d,r⟩
  have hKb:K.In (pC s₁.heap H):=λb o e=>jm (KX b o e) (by
   by_cases hb:b∈Ps
   .have:=hKP b hb;rw[e] at this;cases this
   .rcases hO b hb with z|⟨z,z2,_⟩
    .exact z
    .subst z;rw[z2] at e;cases e)
  have hM:Mod K mg (pC s₁.heap H):=⟨hKb,O9 hns,⟨mb,O9 hb,hbb⟩,let ⟨mc,h1,h2⟩:=hlim;⟨mc,O9 h1,h2⟩⟩
  have e0:iu P w K mg (pC s₁.heap H) callerA [] s₁ H:=⟨rfl,hM,λb o e=>zoV e,Nat.le_of_eq (zkQ _ _),trivial,λb hb=>absurd (show b∈([]:List Addr) from hb) (by simp),hok,.of_eq hg⟩
  have hB:BM (pC s₁.heap H) mg:=by obtain⟨bm,o,h1,h2,h3,h4,h5,h6⟩:=hbm;exact⟨bm,o,h1,h2,jm h3 (none_of h3 (λz=>by rw[z] at h4;cases h4) (λz=>by rw[z] at h4;exact absurd (Value.type.inj h4) (by decide))),h4,h5,h6⟩
  have hsp:Eu K 63 Ps [.ref a] H (λv _=>v = .bl true) λ_ _ _=>False:=⟨λPt h=>⟨_,hT Pt h⟩,a,ns,rfl,hS,hl,λ_=>rfl⟩
  refine codeAny_mono ((F _ hM hB).run callerA [] s₁ H ⟨[.ref a],[]⟩ [.ref a] [.ref a] _ _ hr e0 (hbind s₁ (.ref a)) (.cons rfl .nil) hsp) λr s' h=>?_;cases r with
  |error e=>exact h.elim
  |ok fl =>
   cases fl with
   |next=>exact False.elim h
   |brk=>exact False.elim h
   |cont=>exact False.elim h
   |ret u =>
    obtain⟨v,H',os,bare,un,hok',r',q⟩:=h;have q':v = .bl true:=q;subst q';obtain rfl:u=Value.bool true:=r';have kept:∀b o,b∉Ps->s₁.heap.get? b=some o->s'.heap.get? b=some o:=λb o hb e=>by
     rcases hO b hb with z|⟨_,_,ob,xs,z⟩
     .exact un.keep b o e z (by intro z;exact absurd (show b∈([]:List Addr) from z) (by simp)) (by simp)
     .have z2:=un.frzs b ob _ z;obtain⟨e1,_⟩:=hok b _ z;obtain⟨e2,_⟩:=hok' b _ z2;rw[e] at e1;cases e1;exact e2
    have tb:∀Pt∈Ps,∃more,s'.heap.get? Pt=some { cls := .none,data := .fields (#[]++more) }:=λPt h=>by obtain⟨more,hm⟩:=un.tbls Pt _ (hT Pt h);obtain⟨em,_⟩:=hok' Pt _ hm;exact⟨more,em⟩
    refine⟨rfl,⟨λb o e=>?_,λb o e=>?_⟩,os,bare⟩
    .by_cases hb:b∈Ps
     .obtain⟨more,em⟩:=tb b hb;have hp:=hP b hb;rw[hp] at e;cases e;obtain⟨c,hc⟩:=C b hb;exact .inr (.inl ⟨(hc.tab hp).isCodeTable,rfl,#[],more,rfl,em⟩)
     .exact .inl (kept b o hb e)
    .by_cases hb:b∈Ps
     .obtain⟨more,em⟩:=tb b hb;exact⟨_,em⟩
     .exact⟨o,kept b o hb e⟩
 have uf:∀(H:Hp) (Pt:Addr),Pt∈Ps->bJ P w H s₁.heap Pt (.tbl #[]):=λH Pt h=>⟨hP Pt h,trivial,λpos cv q=>by simp[codeAmong] at q⟩
 cases hk:K.lookup a with
 |some o =>
  have e:=KX a o hk;rw[ha] at e;cases e;refine core (λb=>if b∈Ps then some (.tbl #[]) else none) (.inr ⟨_,vs.toArray,_,hk,rfl,rfl,rfl,by rw[dM,lenV];exact hl',by simpa using rv⟩) (λb u z=>?_) (λPt h=>if_pos h) (λb hb => .inl (if_neg hb));by_cases hb:b∈Ps
  .have z':=(if_pos hb).symm.trans z;cases z';exact uf _ b hb
  .have z':=(if_neg hb).symm.trans z;cases z'
 |none =>
  refine core (λb=>if b∈Ps then some (.tbl #[]) else if b=a then some (.frz { cls := .type "list",data := .seq vs.toArray } (.lst (ns.map V.int))) else none) (.inl ⟨{ cls := .type "list",data := .seq vs.toArray },(if_neg hPa).trans (if_pos rfl)⟩) (λb u z=>?_) (λPt h=>if_pos h) (λb hb=>?_)
  .by_cases hb:b∈Ps
   .have z':=(if_pos hb).symm.trans z;cases z';exact uf _ b hb
   .have z1:=(if_neg hb).symm.trans z;by_cases hba:b=a
    .have z':=(if_pos hba).symm.trans z1;cases z';subst hba;exact⟨ha,by rw[cZ];exact hl',vs,_,rv,ha⟩
    .have z':=(if_neg hba).symm.trans z1;cases z'
  .by_cases hba:b=a
   .exact .inr ⟨hba,hk,_,_,(if_neg hb).trans (if_pos hba)⟩
   .exact .inl ((if_neg hb).trans (if_neg hba))
theorem znR{ys:List Str}(hd:(ys.map (gZ K)).Nodup)(hz:qe K H a (ns.map V.int))(ht:∀Pt∈ys.map (gZ K),∃ps,H Pt=some (.tbl ps)):
 aq K H (a::ys.map (gZ K)) (.frz (ns.map D.int)::ys.map O.tbl):=by
 refine⟨by simp,λi j o o' b h1 h2 w1 w2 h3 h4=>?_,λi o b h1 h2=>?_⟩
 .rcases i with _|i
  .cases h1;cases w1
  .rcases j with _|j
   .cases h2;cases w2
   .rw[List.getElem?_cons_succ] at h3 h4;rw[(List.getElem?_inj (eV.mp h3).1 hd).mp (h3.trans h4.symm)]
 .rcases i with _|i
  .cases h1;cases h2;exact⟨_,hz,Vr ns⟩
  .rw[List.getElem?_cons_succ,gG] at h1 h2;cases q:ys[i]? with
   |none=>rw[q] at h1;cases h1
   |some y =>
    rw[q] at h1 h2;cases h1;cases h2;exact⟨rfl,ht _ (List.mem_map_of_mem (List.mem_of_getElem? q))⟩
end
noncomputable def zs6(xb:FgA->Bool)(ms:List (Str×Str×Stmt))(ds:List (Str×Stmt))(blt:List Str)(ts:List (Str×Stmt)):Hook where
 α:=(List xO×List (Option (Option Value)))×List (xO×(Option Obj×Bool))×(List xO×Bool)
 obs:=λs=>(sU ds blt s,zM (ts.map (·.1)) s,rA xb ms s)
 val:=λ_=>(sE ds blt,Em ts,vN ms)
 says:=λ_ h=>∃K:FgA,K.In h/\(((∀y∈ds,cY K y.1 y.2)/\∀y∈blt,nsIn K mainGlobals y=some none)/\(∀y∈ms,gb K y.1 y.2.1 y.2.2)/\xb K=true)/\∀y∈ts,∃c Pt:Addr,sW K y.1 y.2 c/\codeHdIn K c Pt=true/\K.lookup Pt=none/\h.get? Pt=some (tabObj #[])
 of:=λ_ s e=>⟨iG s.heap,zkT _,⟨⟨λy hy=>cY.of_seenH (List.map_inj_left.mp (Prod.mk.inj (Prod.mk.inj e).1).1 y hy),List.map_inj_left.mp (Prod.mk.inj (Prod.mk.inj e).1).2⟩,
  λy hy=>gb.of_seen (List.map_inj_left.mp (Prod.mk.inj (Prod.mk.inj (Prod.mk.inj e).2).2).1 y hy),(Prod.mk.inj (Prod.mk.inj (Prod.mk.inj e).2).2).2⟩,λy hy=>by
   have e2:=(Prod.mk.inj (Prod.mk.inj e).2).1;unfold zM Em at e2;rw[List.map_map] at e2;have e3:=List.map_inj_left.mp e2 y hy;exact zhn (cY.of_seen (Prod.mk.inj e3).1) (Prod.mk.inj e3).2⟩
 keeps:=λ_ _ _ ⟨K,a,b,c⟩ k=>⟨K,a.keeps k,b,λy hy=>let ⟨c,Pt,z1,z2,z3,z4⟩:=c y hy;⟨c,Pt,z1,z2,z3,k _ _ z4⟩⟩
theorem left5{p:Program}{loose:List Str}{xb:FgA->Bool}{ms:List (Str×Str×Stmt)}{d1 d2:List (Str×Stmt)}{blt:List Str}{ts:List (Str×Stmt)}{N:Nat}(a:LeftO p q loose (λ_=>true) (λ_=>()) (λ_=>()) N)(b1:∀w,(openEnds treeTable p w N).map (sU d1 blt)=some (sE d1 blt))(b2:∀w,(openEnds treeTable p w N).map (sU d2 [])=some (sE d2 []))(c1:∀w,(openEnds treeTable p w N).map (zM (ts.map (·.1)))=some (Em ts))(c2:∀w,(openEnds treeTable p w N).map (rA xb ms)=some (vN ms)):
 LeftO p q loose (λ_=>true) (zs6 xb ms (d1++d2) blt ts).obs (zs6 xb ms (d1++d2) blt ts).val N:=by
 intro w;obtain⟨s,e,h1⟩:=aR.mp (a w);obtain⟨s2,e2,h2⟩:=aR.mp (b1 w);obtain⟨s3,e3,h3⟩:=aR.mp (b2 w);obtain⟨s4,e4,h4⟩:=aR.mp (c1 w);obtain⟨s5,e5,h5⟩:=aR.mp (c2 w);rw[e] at e2 e3 e4 e5;cases e2;cases e3;cases e4;cases e5;rw[e];have g1:=(Prod.mk.inj h1).1;have g2:=Prod.mk.inj h2;have g3:=Prod.mk.inj h3;have g:sU (d1++d2) blt s=sE (d1++d2) blt:=by unfold sU sE;rw[uT,uT,g2.1,g3.1,g2.2]
 show some (_,(sU (d1++d2) blt s,zM (ts.map (·.1)) s,rA xb ms s))=_;rw[g1,g,h4,h5];rfl
theorem ziM{xb:FgA->Bool}{ms:List (Str×Str×Stmt)}{l:PySem.W.OpenLaw}{loose:List Str}{XP:(Str->Option Value)->Heap->Prop}{d:DefRec}{ds:List (Str×Stmt)}{blt:List Str}{ts:List (Str×Stmt)}(hn:l.most=some 63)(hdf:d.params.defaults=[])(hr:aU k callerA)(F:∀(w:World) (mg:Str->Option Value) (fa:Addr) (h:Heap) (K:FgA),K.In h->h.Ns mainGlobals mg->mg d.name=some (.ref fa)->(∀y∈ds,cY K y.1 y.2)->(∀y∈blt,nsIn K mainGlobals y=some none)->(∀y∈ms,gb K y.1 y.2.1 y.2.2)->xb K=true ->
  (∀y∈ts,∃c,sW K y.1 y.2 c/\∀h:Heap,K.In h->CodeHd h c (gZ K y.1)) ->
  ∃(fd:FuncData),(∀(s:Shared) (u:Value),BindsTo s fd ⟨[u],[]⟩ [(x,u)])/\∀base:Heap,Mod K mg base->BM base mg->bO l.prog w K mg base fV k fa fd [x] (Eu K 63 ((ts.map (·.1)).map (gZ K)))):
 PySem.W.WalkO q loose XP (zs6 xb ms ds blt ts).says l.row.toRowW d [] (λf vs=>PySem.call f vs):=by
 refine Yb.zhP hn hdf λw s₀ s₁ mg mb fa o pm cd doc a vs ns G Y ho hd hcd hmg hobj hints hlen hg=>?_;obtain⟨K,KX,⟨⟨hD,hB⟩,hM,hX⟩,hT⟩:=Y;have hT':∀y∈ts,∃c,sW K y.1 y.2 c/\codeHdIn K c (gZ K y.1)=true/\K.lookup (gZ K y.1)=none/\s₁.heap.get? (gZ K y.1)=some (tabObj #[]):=λy hy=>by obtain⟨c,Pt,z1,z2,z3,z4⟩:=hT y hy;have ePt:=zlF z1 z2;subst ePt;exact⟨c,z1,z2,z3,z4⟩
 obtain⟨fd,hb,hF⟩:=F w mg fa _ K KX G.T.g hmg hD hB hM hX λy hy=>by obtain⟨c,z1,z2,_⟩:=hT' y hy;exact⟨c,z1,λh X=>codeHd_of_K X z2⟩
 have hbm:BM s₁.heap mg:=by obtain⟨bm,ob,b1,b2,b3,b4,b5,b6⟩:=G.T.bmain;exact⟨bm,ob,b1,b2,b3,b4,b5,b6⟩
 have at_:∀Pt∈(ts.map (·.1)).map (gZ K),∃y∈ts,Pt=gZ K y.1:=λPt h=>by rw[List.map_map] at h;obtain⟨y,hy,rfl⟩:=List.mem_map.mp h;exact⟨y,hy,rfl⟩
 refine zjg KX G.T.g G.T.b G.T.builtins G.T.nolimit hg hobj hints hlen hr (λPt h=>?_) (λPt h=>?_) (λPt h=>?_) hbm hF hb
 .obtain⟨y,hy,rfl⟩:=at_ Pt h;obtain⟨c,z1,z2,z3,z4⟩:=hT' y hy;exact z4
 .obtain⟨y,hy,rfl⟩:=at_ Pt h;obtain⟨c,z1,z2,z3,z4⟩:=hT' y hy;exact z3
 .obtain⟨y,hy,rfl⟩:=at_ Pt h;obtain⟨c,z1,z2,z3,z4⟩:=hT' y hy;exact⟨c,codeHd_of_K KX z2⟩
def zqL{t:TS}(h:L2.PS X.nox st t):L2.PS X st t:=λpins s σ H D I hw =>
 iw (h pins s σ H D (I.wish _) hw) (λ_ _ q=>q.unwish) λ_ _ z=>False.elim z
noncomputable def Iw(e:Expr):Option (Str×List Expr):=match e with
 |.Call f es kws _=>match f with
  |.Name x _=>match kws with
   |[]=>some (x,es)
   |_::_=>none
  |_=>none
 |_=>none
theorem Kw(h:Iw e=some (x,es)):∃p pos,e = .Call (.Name x p) es [] pos:=by
 cases e with
 |Call f es' kws pos=>cases f with
  |Name y p=>cases kws with
   |nil=>cases h;exact⟨p,pos,rfl⟩
   |cons _ _=>cases h
  |_=>cases h
 |_=>cases h
noncomputable def QH(e:Expr):Option (Str×Pos×Str×Pos×List Expr×Pos):=match e with
 |.Call f es kws pos=>match f with
  |.Attribute o m apos=>match o with
   |.Name x p=>match kws with
    |[]=>some (x,p,m,apos,es,pos)
    |_::_=>none
   |_=>none
  |_=>none
 |_=>none
theorem Wa{m:Str}(h:QH e=some (x,p,m,apos,es,pos)):e = .Call (.Attribute (.Name x p) m apos) es [] pos:=by
 cases e with
 |Call f es' kws pos=>cases f with
  |Attribute o m' apos=>cases o with
   |Name y q=>cases kws with
    |nil=>cases h;rfl
    |cons _ _=>cases h
   |_=>cases h
  |_=>cases h
 |_=>cases h
noncomputable def sG(C m:Str)(n:Nat)(ξ:XN)(fo:EF)(fa:AF):XF:=λσ S=>(fo σ S).bind λr=>match r.1 with
 |.ref j=>match r.2[j]? with
  |some (.ins C' fs)=>if C'=C/\fs.lookup m=none then(fa σ r.2).bind λq=>if q.1.length+1=n then(ξ (.ref j::q.1) q.2).map λy=>(y,q.2) else none else none
  |_=>none
 |_=>none
def xM(X:Cx)(C m:Str)(n:Nat)(ξ:XN):Prop:=∃f fd ps k,jc X.K (cu X.K C)/\sI X.K (cu X.K C) m f/\Binds X.K fd ps []/\bO X.prog X.w X.K X.mg X.base (mO X.prog X.w) k f fd ps (BV X.K X.mg n ξ)/\aU k X.A
section
variable {X:Cx}{E:XK}{C m:Str}{o e:Expr}{es:List Expr}{fo:EF}{fa:AF}{n:Nat}{ξ:XN}{apos pos:Pos}
theorem zpL(hx:sJ X E)(R:xM X C m n ξ)(ho:SE X o fo)(ha:SA X (e::es) fa)(hbase:attributeBase o m X.env (eval o X.env)=eval o X.env)(hfew:((backTo pos (starEach (e::es) X.env)).all (λx => !x.1)&&(backToKw pos (keywordEach [] X.env)).all (λx=>x.1.isSome)&&decide ((e::es).length+([]:List Keyword).length+(if([]:List Keyword).isEmpty then 0 else 1)<30))=true)(hline:(apos.endLine==pos.line)=true)(hst:starEach (e::es) X.env=(false,eval e X.env)::starEach es X.env)(hpl:(backTo pos (starEach es X.env)).any (·.1)=false):
 PE X (.Call (.Attribute o m apos) (e::es) [] pos) (vO X.K X.mg (sG C m n ξ fo fa) E):=by
 obtain⟨f,fd,ps,kk,c,hm,hb,F,hr⟩:=R;refine PE.imp (R9 ho c hm F hr hb .nil hx.pass ha hst hpl (Lb hbase hfew hline)) λσ H Q h=>?_;obtain⟨σd,S,α,y,S',hv,hs,hf,k⟩:=h;unfold sG at hf;simp only[aW] at hf;obtain⟨⟨d,S1⟩,e1,e2⟩:=hf;refine⟨σd,S,α,d,S1,hv,hs,e1,λv H1 α1 s1 x1 r1=>?_⟩;simp only at e2;split at e2
 .split at e2
  .rename_i C' fs q;split at e2
   .rename_i hC;obtain⟨rfl,hl⟩:=hC;simp only[aW] at e2;obtain⟨⟨ds,S2⟩,e3,e4⟩:=e2;split at e4
    .rename_i hn;obtain⟨y',e5,e6⟩:=aR.mp e4;cases e6;cases r1 with
     |ref ha =>
      obtain⟨dx,gs,h1,h2,h3⟩:=s1.obj _ _ _ q ha;refine⟨_,dx,gs,rfl,h1,(cD.of h2 h3).lookN hl,σd,S1,α1,ds,_,hv.mono x1,s1,e3,λvs H2 α2 s2 x2 r2=>?_⟩;show BV _ _ _ _ (_::(vs++[])) _ _ _;rw[List.append_nil];exact⟨by rw[<-hn,jd,r2.length],_,α2,_,y,s2,.cons (.ref (x2.pre _ _ ha)) r2,e5,k.trans (x1.trans x2)⟩
    .cases e4
   .cases e2
  .cases e2
 .cases e2
theorem zp5{it:Expr}{body els:List Stmt}{g:XF}(he:PE X it (vO X.K X.mg g E))(hs:∀x,foldedSetIterable it X.env x=pure x):L2.PS X (.For tg it body els pos) (tX X.K X.mg g E):=by intro pins s σ H D I h;exact wpAny_For (bK (he pins s σ H (λ_ _=>False) I h) λv s1 ⟨_,_,_,_,z⟩=>z.elim) hs
end
noncomputable def xE(c:Ctx)(fx:List (Str×Nat×XN))(mx:List (Str×Str×Nat×XN))(e:Expr):Option XF:=match Iw e with
 |none=>match QH e with
  |none=>none
  |some (x,p,m,apos,es,pos)=>if es.all jB=true/\es.length<20/\(apos.endLine==pos.line)=true/\es≠[] then
   (mx.lookup m).bind λq=>(cE 60 c (.Name x p)).bind λfo=>(jF (cE 60) c es).map λfa=>sG q.1 m q.2.1 q.2.2 fo fa
   else none
 |some (x,es)=>if lX x=false/\c.names.lookup x=some .globalImplicit/\es.all jB=true/\es≠[] then
  (fx.lookup x).bind λq=>(jF (cE 60) c es).map λfa=>vg q.1 q.2 fa
  else none
noncomputable def xR(c:Ctx)(cl:List Str)(o o2:Option Expr):Option XF:=match o2 with
 |some _=>none
 |none=>match o with
  |none=>none
  |some e=>match Iw e with
   |none=>none
   |some (x,es)=>match es with
    |[]=>none
    |a::r=>match r with
     |_::_=>none
     |[]=>if lX x=false/\c.names.lookup x=some .globalImplicit/\jB a=true/\x∈cl then(cE 60 c a).map λfe=>λσ S=>(fe σ S).map λr=>(x,r.2) else none
noncomputable def Bq(t:TF)(a b:Option XF):Option XF:=match a with
 |none=>match b with
  |none=>none
  |some h=>some (ud t qQ h)
 |some g=>match b with
  |none=>some (ud t g qQ)
  |some h=>some (ud t g h)
noncomputable def uc(f:Option SF)(g h:Option XF):Option XF:=match h with
 |none=>g
 |some h=>match f with
  |none=>g
  |some f=>match g with
   |none=>some (uZ f qQ h)
   |some g=>some (uZ f g h)
mutual
def xS:Nat->Ctx->List (Str×Nat×XN)->List (Str×Str×Nat×XN)->List Str->Stmt->Option XF
 |0,_,_,_,_,_=>none
 |n+1,c,fx,mx,cl,st=>match st with
  |.Expr e _=>if qH e=true then xE c fx mx e else none
  |.Return o _=>match o with
   |none=>none
   |some e=>xE c fx mx e
  |.Raise o o2 _=>xR c cl o o2
  |.For _ it _ _ _=>xE c fx mx it
  |.If t a b _=>(cT 60 c t).bind λft=>Bq ft (lH n c fx mx cl a) (lH n c fx mx cl b)
  |_=>none
def lH:Nat->Ctx->List (Str×Nat×XN)->List (Str×Str×Nat×XN)->List Str->List Stmt->Option XF
 |0,_,_,_,_,_=>none
 |_+1,_,_,_,_,[]=>none
 |n+1,c,fx,mx,cl,st::r=>uc (cS 60 c st) (xS n c fx mx cl st) (lH n c fx mx cl r)
end
section
variable {X:Cx}{E:XK}{c:Ctx}{fx:List (Str×Nat×XN)}{mx:List (Str×Str×Nat×XN)}{cl:List Str}
def zkU{f:Expr}(x:Value):foldedSetIterable (.Call f es ks pos) env x=pure x:=rfl
theorem znw{g:XF}(h:xE c fx mx e=some g):∃f es ks pos,e = .Call f es ks pos:=by
 unfold xE at h;split at h
 .split at h
  .cases h
  .rename_i q;exact⟨_,_,_,_,Wa q⟩
 .rename_i q;obtain⟨p,pos,rfl⟩:=Kw q;exact⟨_,_,_,_,rfl⟩
theorem Gg(ok:d9 c X)(hx:sJ X E)(hf:∀x n ξ,fx.lookup x=some (n,ξ)->Ir X x n ξ)(hm:∀m C n ξ,mx.lookup m=some (C,n,ξ)->xM X C m n ξ){g:XF}(h:xE c fx mx e=some g):PE X e (vO X.K X.mg g E):=by
 unfold xE at h;split at h
 .split at h
  .cases h
  .rename_i x p m apos es pos hc;have:=Wa hc;subst this;split at h
   .rename_i hh;obtain⟨h1,h2,h3,h4⟩:=hh;obtain⟨⟨C,n,ξ⟩,e1,h⟩:=aW.mp h;obtain⟨fo,e2,h⟩:=aW.mp h;obtain⟨fa,e3,rfl⟩:=aR.mp h;cases es with
    |nil=>exact absurd rfl h4
    |cons a r =>
     have h1':=h1;rw[kO,cL] at h1;exact zpL hx (hm m C n ξ e1) ((jN 60).1 c X _ fo ok e2) (lG (jN 60).1 ok e3).1 rfl (Js h1' h2) h3 (iy h1.1 r X.env) (qM h1.2 pos X.env)
   .cases h
 .rename_i x es hc;obtain⟨p,pos,rfl⟩:=Kw hc;split at h
  .rename_i hh;obtain⟨h1,h2,h3,h4⟩:=hh;obtain⟨⟨n,ξ⟩,e1,h⟩:=aW.mp h;obtain⟨fa,e2,rfl⟩:=aR.mp h;cases es with
   |nil=>exact absurd rfl h4
   |cons a r =>
    rw[kO,cL] at h3;exact znv hx (by show X.env.scope.names.lookup x=_;rw[ok.names];exact h2) (hf x n ξ e1) (lG (jN 60).1 ok e2).1 (pH h1) (iy h3.1 r X.env) (qM h3.2 pos X.env)
  .cases h
theorem zlT(ok:d9 c X)(hx:sJ X E)(hcl:∀x∈cl,∃C,sH X.K X.mg x C){o o2:Option Expr}{g:XF}(h:xR c cl o o2=some g):L2.PS X (.Raise o o2 pos) (tX X.K X.mg g E):=by
 unfold xR at h;cases o2 with
 |some _=>cases h
 |none=>cases o with
  |none=>cases h
  |some e =>
   simp only at h;split at h
   .cases h
   .rename_i x es hc;obtain⟨p,cpos,rfl⟩:=Kw hc;cases es with
    |nil=>cases h
    |cons a r=>cases r with
     |cons _ _=>cases h
     |nil =>
      simp only at h;split at h
      .rename_i hh;obtain⟨h1,h2,h3,h4⟩:=hh;obtain⟨fe,e1,rfl⟩:=aR.mp h;obtain⟨C,hC⟩:=hcl x h4;exact zlG hx ok.calm (by show X.env.scope.names.lookup x=_;rw[ok.names];exact h2) hC ((jN 60).1 c X _ fe ok e1) h3 (pH h1)
      .cases h
theorem UJ(ok:d9 c X)(ok':d9 c X.nox)(hx:sJ X E)(hf:∀x n ξ,fx.lookup x=some (n,ξ)->Ir X x n ξ)(hm:∀m C n ξ,mx.lookup m=some (C,n,ξ)->xM X C m n ξ)(hcl:∀x∈cl,∃C,sH X.K X.mg x C):
 ∀n,(∀st g,xS n c fx mx cl st=some g->L2.PS X st (tX X.K X.mg g E))/\∀sts g,lH n c fx mx cl sts=some g->fM X sts (tX X.K X.mg g E)
 |0=>⟨λ_ _ h=>by simp[xS] at h,λ_ _ h=>by simp[lH] at h⟩
 |n+1=>by
  obtain⟨ih1,ih2⟩:=UJ ok ok' hx hf hm hcl n;refine⟨λst g h=>?_,λsts g h=>?_⟩
  .unfold xS at h;cases st with
   |Expr e p =>
    change (if qH e=true then xE c fx mx e else none)=some g at h;by_cases hc:qH e=true
    .rw[if_pos hc] at h;exact znJ (Gg ok hx hf hm h) (yW hc _ _ _)
    .rw[if_neg hc] at h;cases h
   |Return o p=>cases o with
    |none=>cases h
    |some e=>exact zp4 (Gg ok hx hf hm h)
   |Raise o o2 p=>exact zlT ok hx hcl h
   |For tg it body els p =>
    obtain⟨f,es,ks,pos,rfl⟩:=znw h;exact zp5 (Gg ok hx hf hm h) zkU
   |If t a b p =>
    obtain⟨ft,e0,h⟩:=aW.mp h;have ht:=(jN 60).2 c X _ ft ok e0;unfold Bq at h;cases ea:lH n c fx mx cl a with
    |none=>cases eb:lH n c fx mx cl b with
     |none=>rw[ea,eb] at h;cases h
     |some hb=>rw[ea,eb] at h;cases h;exact Jh ht Jy (ih2 _ _ eb)
    |some ha=>cases eb:lH n c fx mx cl b with
     |none=>rw[ea,eb] at h;cases h;exact Jh ht (ih2 _ _ ea) Jy
     |some hb=>rw[ea,eb] at h;cases h;exact Jh ht (ih2 _ _ ea) (ih2 _ _ eb)
   |_=>exact nomatch (show(none:Option XF)=some g from h)
  .cases sts with
   |nil=>simp[lH] at h
   |cons st r =>
    rw[lH] at h;have one:∀g,xS n c fx mx cl st=some g->fM X (st::r) (tX X.K X.mg g E):=λg h=>fM.imp (tU (ih1 _ _ h) (Jy (rest:=r) (E:=E))) λ_ _ _ q=>q;unfold uc at h;cases eh:lH n c fx mx cl r with
    |none=>rw[eh] at h;exact one g h
    |some hh =>
     rw[eh] at h;cases ef:cS 60 c st with
     |none=>rw[ef] at h;exact one g h
     |some f =>
      rw[ef] at h;have hn:SS X st f:=zqL ((Ak 60 c X.nox ok' PassesOwn.never).1 st f ef);cases eg:xS n c fx mx cl st with
      |none=>rw[eg] at h;cases h;exact Rz hn Y6 (ih2 _ _ eh)
      |some gg=>rw[eg] at h;cases h;exact Rz hn (ih1 _ _ eg) (ih2 _ _ eh)
end
open Classical in
noncomputable def m6(n:Nat)(xb:XF):XN:=λds S=>match xb (iC n ds) S with
 |some (y,S')=>if S'.take S.length=S then some y else none
 |none=>none
section
variable {P:Program}{w:World}{K:FgA}{mg:Str->Option Value}{base h:Heap}
def c7(P:Program)(w:World)(K:FgA)(mg:Str->Option Value)(base:Heap)(k:Nat)(fx:List (Str×Nat×XN)):Prop:=∀y n ξ,fx.lookup y=some (n,ξ)->jD P w K mg base k y n ξ
def jD.mono{j k:Nat}{x:Str}{n:Nat}{ξ:XN}(h:jD P w K mg base j x n ξ)(hjk:j<=k):jD P w K mg base k x n ξ :=
 let ⟨f,fd,ps,a,b,c,d⟩:=h
 ⟨f,fd,ps,a,b,c,d.mono hjk⟩
def c7.nil:c7 P w K mg base k []:=λ_ _ _ e=>by cases e
noncomputable def xN(P:Program)(w:World)(K:FgA)(mg:Str->Option Value)(base:Heap)(k:Nat)(C m:Str)(n:Nat)(ξ:XN):Prop :=
 ∃f fd ps,jc K (cu K C)/\sI K (cu K C) m f/\Binds K fd ps []/\bO P w K mg base (mO P w) k f fd ps (BV K mg n ξ)
def cR(P:Program)(w:World)(K:FgA)(mg:Str->Option Value)(base:Heap)(k:Nat)(mx:List (Str×Str×Nat×XN)):Prop:=∀m C n ξ,mx.lookup m=some (C,n,ξ)->xN P w K mg base k C m n ξ
def c7.mono{j k:Nat}{fx:List (Str×Nat×XN)}(h:c7 P w K mg base j fx)(hjk:j<=k):c7 P w K mg base k fx:=λy n ξ e=>(h y n ξ e).mono hjk
def cR.mono{j k:Nat}{mx:List (Str×Str×Nat×XN)}(h:cR P w K mg base j mx)(hjk:j<=k):cR P w K mg base k mx:=λm C n ξ e =>
 let ⟨f,fd,ps,a,b,c,d⟩:=h m C n ξ e
 ⟨f,fd,ps,a,b,c,d.mono hjk⟩
def cR.nil:cR P w K mg base k []:=λ_ _ _ _ e=>by cases e
theorem T5{fx:List (Str×Nat×XN)}{mx:List (Str×Str×Nat×XN)}{cl blt:List Str}{E:CE}{xb:XF}(F:nM K x qual st f fd)(hs:bL P w K mg base k fns)(hE:dY P w K mg base k E)(hxs:c7 P w K mg base k fx)(hms:cR P w K mg base k mx)(dw:∀y∈blt,mg y=none)(hcl:∀y∈cl,∃C,sH K mg y C)(S:jA (fC (bf st).names) ps (bf st))(hu:(bf st).names.all (λy=>decide ((bf st).names.lookup y.1=some y.2))=true)(hn:(fC (bf st).names).length=n)(hb:lH m (kY st fns blt E) fx mx cl (gk st)=some xb):bO P w K mg base (mO P w) (k+1) f fd ps (BV K mg ps.length (m6 n xb)):=by
 obtain⟨oc,od,kV,doc,pm,an,cdv,ct,osl,rfl,lk,hcd⟩:=F.ex;refine zV lk hcd S (λvs H Q E h=>h.1) λA outer s H vs Q E' hr hh=>?_;obtain⟨hlen,S₀,α,ds,y',hst,r,e1,kk⟩:=hh;obtain⟨o1,o2⟩:=Gb (CX:=mO P w) (P:=P) (w:=w) (qual:=qual) (f:=f) (cdv:=cdv) (outer:=outer) (H:=H) (E':=E') S hu hs dw hE hr;refine⟨_,(UJ o1 o2 znu (λz n ξ q=>⟨k,hxs z n ξ q,hr⟩) (λy C n ξ q=>?_) hcl m).2 _ xb hb,?_⟩
 .obtain⟨f',fd',ps',a,b,c,d⟩:=hms y C n ξ q;exact⟨f',fd',ps',k,a,b,c,d,hr⟩
 unfold m6 at e1;split at e1
 .rename_i y2 S2 e2;split at e1
  .rename_i ht;cases e1;have e0:m9 (fC (bf st).names) ds=iC n ds:=by unfold m9 iC;rw[hn]
   refine⟨_,S₀,α,y',S2,Gs r,hst,by rw[e0];exact e2,?_⟩;obtain⟨C,h1,h2⟩:=kk;refine⟨C,h1,λH' α' s' x'=>?_⟩;have hw:∀o∈S2.take S₀.length,O.lo S₀.length o=true:=by rw[ht];exact hst.wf
   have s3:=s'.cut S₀.length hw;rw[ht] at s3;refine h2 H' (α'.take S₀.length) s3 ⟨x'.tups,λi b q=>?_,x'.insts⟩;have hi:i<S₀.length:=by have:=(eV.mp q).1;rw[hst.len] at this;exact this
   rw[List.getElem?_take_of_lt hi];exact x'.pre i b q
  .cases e1
 .cases e1
theorem zkV{fx:List (Str×Nat×XN)}{mx:List (Str×Str×Nat×XN)}{cl blt:List Str}{E:CE}{xb:XF}(hs:bL P w K mg base k fns)(hE:dY P w K mg base k E)(hxs:c7 P w K mg base k fx)(hms:cR P w K mg base k mx)(KX:K.In h)(G:h.Ns mainGlobals mg)(dw:∀y∈blt,mg y=none)(hcl:∀y∈cl,∃C,sH K mg y C)(hD:cY K x st)(hb0:lV x st ps)(S:jA (fC (bf st).names) ps (bf st))(hu:(bf st).names.all (λy=>decide ((bf st).names.lookup y.1=some y.2))=true)(hn:(fC (bf st).names).length=n)(hb:lH m (kY st fns blt E) fx mx cl (gk st)=some xb):c7 P w K mg base (k+1) ((x,ps.length,m6 n xb)::fx):=by
 intro y j ξ e;rw[iT] at e;split at e
 .rename_i q;cases e;have:y=x:=by simpa using q
  subst this;obtain⟨f,fd,a,F⟩:=hD;exact⟨f,fd,ps,mg_of KX G a,F.kp,F.binds hb0,T5 F hs hE hxs hms dw hcl S hu hn hb⟩
 .exact(hxs y j ξ e).mono (Nat.le_succ _)
theorem Wb{C:Str}{fx:List (Str×Nat×XN)}{mx:List (Str×Str×Nat×XN)}{cl blt:List Str}{E:CE}{xb:XF}(hs:bL P w K mg base k fns)(hE:dY P w K mg base k E)(hxs:c7 P w K mg base k fx)(hms:cR P w K mg base k mx)(hc:jc K (cu K C))(dw:∀y∈blt,mg y=none)(hcl:∀y∈cl,∃C,sH K mg y C)(hD:gb K C x st)(hb0:uR C x st ps)(S:jA (fC (bf st).names) ps (bf st))(hu:(bf st).names.all (λy=>decide ((bf st).names.lookup y.1=some y.2))=true)(hn:(fC (bf st).names).length=n)(hb:lH m (kY st fns blt E) fx mx cl (gk st)=some xb):cR P w K mg base (k+1) ((x,C,ps.length,m6 n xb)::mx):=by
 intro y C' j ξ e;rw[iT] at e;split at e
 .rename_i q;cases e;have:y=x:=by simpa using q
  subst this;obtain⟨f,fd,a,F⟩:=hD;exact⟨f,fd,ps,hc,a,F.binds hb0,T5 F hs hE hxs hms dw hcl S hu hn hb⟩
 .exact(hms.mono (Nat.le_succ _)) y C' j ξ e
end
end MX
end
section
namespace MX
open PySem PySem.Spec PySem.W PySem.Calls PyProof.Rows L2
noncomputable def Qy(es:List Expr):Option (Arguments×Expr×Scope×Pos):=match es with
 |[]=>none
 |l::r=>match r with
  |_::_=>none
  |[]=>match l with
   |.Lambda params body scope pos=>some (params,body,scope,pos)
   |_=>none
theorem zhy(h:Qy es=some (params,body,scope,pos)):es=[.Lambda params body scope pos]:=by
 cases es with
 |nil=>cases h
 |cons l r=>cases r with
  |cons _ _=>cases h
  |nil=>cases l with
   |Lambda a b c d=>cases h;rfl
   |_=>cases h
noncomputable def noArgs:Arguments:={ posonlyargs:=[],args:=[],vararg:=none,kwonlyargs:=[],kw_defaults:=[],kwarg:=none,defaults:=[] }
noncomputable def Im(params:Arguments):Bool:=params.args.isEmpty&&params.posonlyargs.isEmpty&&params.vararg.isNone&&params.kwonlyargs.isEmpty&&params.kw_defaults.isEmpty&&params.kwarg.isNone&&params.defaults.isEmpty
theorem zkm(h:Im params=true):params=noArgs:=by obtain⟨a,b,c,d,e,f,g⟩:=params;unfold Im at h;simp only[cL,List.isEmpty_iff,Option.isNone_iff_eq_none] at h;obtain⟨⟨⟨⟨⟨⟨h1,h2⟩,h3⟩,h4⟩,h5⟩,h6⟩,h7⟩:=h;subst h1 h2 h3 h4 h5 h6 h7;rfl
noncomputable def uD(c:Ctx)(scope:Scope):Bool:=decide (scope.kind = .function) && !scope.isCoroutine && !scope.isGenerator&&scope.names.all (λy=>decide (y.2 ≠ .cell)) &&
 scope.names.all (λy=>decide (scope.names.lookup y.1=some y.2))&&scope.names.all (λy=>decide (y.2 = .free->c.names.lookup y.1=some .cell))&&decide (m7 scope.names).Nodup
noncomputable def zP(c:Ctx)(E:CE)(names:List (Str×NameKind)):Ctx:={ N:=m7 names,names:=names,sts:=[],fns:=c.fns,blt:=c.blt,flds:=E.flds,mths:=E.mths,mks:=E.mks,gls:=E.gls }
noncomputable def HW(c:Ctx)(E:CE)(fx:List (Str×Nat×XN))(mx:List (Str×Str×Nat×XN))(x0:Str)(iJ:Nat->D)(x:Str)(es:List Expr):Option EF:=if x=x0/\lX x=false/\c.names.lookup x=some .globalImplicit then match Qy es with
 |none=>none
 |some (params,body,scope,_)=>if Im params=true/\uD c scope=true then
  (oE c (m7 scope.names)).bind λsrc=>(cE 60 (zP c E scope.names) body).bind λfb=>(xE (zP c E scope.names) fx mx body).map λxb=>xW src fb xb iJ
  else none
 else none
theorem ziQ{c:Ctx}{E0:CE}{fx:List (Str×Nat×XN)}{mx:List (Str×Str×Nat×XN)}{x0:Str}{iJ:Nat->D}{Pt ct:Addr}{cc:Nat->Addr}{tS:TS}(hN:X.N=c.N)(hnm:X.env.scope.names=c.names)(dw:∀x∈c.blt,X.mg x=none)(L:vd X Pt ct)(hr:aU (k+2) X.A)(hF:∀base:Heap,Mod X.K X.mg base->BM base X.mg->bL X.prog X.w X.K X.mg base k c.fns/\dY X.prog X.w X.K X.mg base k E0/\c7 X.prog X.w X.K X.mg base k fx/\cR X.prog X.w X.K X.mg base k mx)(hname:∀i<4,X.mg (wn i)=some (.ref (cc i)))(hm:X.mg x0=some (.ref f))(hk:keepIn X.K (.ref f)=true)(hb:Binds X.K fd [p1] [])(hG:∀base:Heap,Ep X.prog X.w X.K X.mg base (k+1) f fd p1 cc tS)(wI:∀(a e:Addr) (i:Nat) (H:Hp) (Q:VK),i<4->H e=some (qm e (cc i))->(∀v H',dH H H'->(∀α,Rep X.K H' α (iJ i) v)->Q v H')->tS { nx:=λ_ _=>False,rt:=Q } [some (.ref a),some (.ref e)] H){g:EF}(h:HW c E0 fx mx x0 iJ x es=some g):SE X (.Call (.Name x p) es [] pos) g:=by
 unfold HW at h;split at h
 .rename_i h0;obtain⟨rfl,h1,h2⟩:=h0;split at h
  .cases h
  .rename_i params body scope aX el;split at h
   .rename_i hc;obtain⟨c1,c2⟩:=hc;have el:=zhy el;have c1:=zkm c1;subst el c1;obtain⟨src,e2,h⟩:=aW.mp h;obtain⟨fb,e3,h⟩:=aW.mp h;obtain⟨xb,e4,rfl⟩:=aR.mp h;unfold uD at c2;simp only[cL,su,Bool.not_eq_true',List.all_eq_true] at c2;obtain⟨⟨⟨⟨⟨⟨k1,k2⟩,k3⟩,k5⟩,k6⟩,k7⟩,k8⟩:=c2;obtain⟨s1,s2⟩:=JQ e2;refine zoe (cap:=m7 scope.names) (k:=k) (c:=cc) (tS:=tS) L ⟨k1,k2,k3,k5⟩ k6 (λy hy=>RJ hy) (λy hy hf=>?_) (λi y hi=>?_) s1 rfl (λpm cdv ctv clos qual=>rfl) (λbase M kb a cdv clos qual A outer s H E hrm=>?_) hname (λbase _ _=>hG base) wI hr ?_ hm hk hb (pH h1) (iy rfl _ X.env)
    .show X.env.scope.names.lookup y.1=_;rw[hnm];exact k7 y hy hf
    .obtain⟨j,j1,j2⟩:=s2 i y hi;exact⟨j,j1,by rw[hN];exact j2⟩
    .have hBM:BM base X.mg:=by obtain⟨bm,o,b1,b2,b3,b4,b5,b6⟩:=L.bm;exact⟨bm,o,b1,b2,kb _ _ b3,b4,b5,b6⟩
     obtain⟨f1,f2,f3,f4⟩:=hF base M hBM;have Xw:∀X':Cx,X'.prog=X.prog->X'.w=X.w->X'.K=X.K->X'.mg=X.mg->X'.base=base->aU k X'.A->X'.N=m7 scope.names->X'.env.scope.names=scope.names->X'.env.scope.kind = .function->X'.calm=true->d9 (zP c E0 scope.names) X':=λX' q1 q2 q3 q4 q5 q6 q7 q8 q9 q10=>by
      refine⟨q7,k8,q8,q9,λy hy=>(nomatch hy),λy n ψ hl=>?_,λy hy=>by rw[q4];exact dw y hy,q10,q6.units,λ_ _ _ h=>(nomatch h),λ_ _ _ h=>(nomatch h),λ_ _ _ _ _ h=>(nomatch h),λ_ _ _ _ _ _ h=>(nomatch h),λx y e=>by rw[q4];exact f2.gls x y e,λg C e=>?_,λy C n ψ e=>?_,λC n ψ e=>?_⟩
      .obtain⟨f',fd',ps',m1,m2,m3,m4⟩:=f1 y n ψ hl;exact⟨f',fd',ps',k,by rw[q4];exact m1,by rw[q3];exact m2,by rw[q3];exact m3,by rw[q1,q2,q3,q4,q5];exact m4,q6⟩
      .obtain⟨a1,a2⟩:=f2.flds g C e;exact⟨by rw[q3];exact a1,by rw[q3];exact a2⟩
      .obtain⟨f',fd',ps',m1,m2,m3,m4⟩:=f2.mths y C n ψ e;exact⟨f',fd',ps',k,by rw[q3];exact m1,by rw[q3];exact m2,by rw[q3];exact m3,by rw[q1,q2,q3,q4,q5];exact m4,q6⟩
      .obtain⟨f',fd',ps',j,hj,m1,m2,m3,m4⟩:=f2.mks C n ψ e;exact⟨f',fd',ps',j,by rw[q3,q4];exact m1,by rw[q3];exact m2,by rw[q3];exact m3,by rw[q1,q2,q3,q4,q5];exact m4,q6.mono hj⟩
     refine⟨(jN 60).1 (zP c E0 scope.names) _ body fb (Xw _ rfl rfl rfl rfl rfl hrm rfl rfl k1 rfl) e3,?_⟩;exact Gg (c:=zP c E0 scope.names) (X:=oY X.prog X.w X.K X.mg base (m7 scope.names) qual scope a cdv clos A outer s H E) (Xw _ rfl rfl rfl rfl rfl hrm rfl rfl k1 rfl) zpM (λy n ξ hl=>⟨k,f3 y n ξ hl,hrm⟩) (λm C n ξ hl=>by
      obtain⟨f',fd',ps',m1,m2,m3,m4⟩:=f4 m C n ξ hl;exact⟨f',fd',ps',k,m1,m2,m3,m4,hrm⟩) e4
    .show X.env.scope.names.lookup _=_;rw[hnm];exact h2
   .cases h
 .cases h
noncomputable def CN(st:Stmt)(fns:List (Str×Nat×GN))(blt:List Str)(E:CE)(ext:Str->List Expr->Option EF):Ctx:={ kY st fns blt E with ext:=ext }
theorem zkJ{P:Program}{p:Str}{blt:List Str}{E:CE}{fa c:Addr}{ys:List Str}{ext:Str->List Expr->Option EF}(KX:K.In h)(G:h.Ns mainGlobals mg)(dw:∀y∈blt,mg y=none)(hfa:mg x=some (.ref fa))(hD:sW K x st c)(hC:∀h:Heap,K.In h->CodeHd h c (gZ K x))(hx:x∈ys)(hnd:(ys.map (gZ K)).Nodup)(hb0:lV x st [p])(S:jA (fC (bf st).names) [p] (bf st))(hu:(bf st).names.all (λy=>decide ((bf st).names.lookup y.1=some y.2))=true)(hn:(fC (bf st).names).length=n)(hb:ju m (CN st fns blt E ext) (gk st)=some fb)(hs:∀base:Heap,Mod K mg base->BM base mg->bL P w K mg base k fns/\dY P w K mg base k E)(hext:∀X:Cx,X.prog=P->X.w=w->X.K=K->X.mg=mg->X.N=fC (bf st).names->X.env.scope.names=(bf st).names->vd X (gZ K x) c->aU (k+2) X.A->∀x es f p pos,ext x es=some f->SE X (.Call (.Name x p) es [] pos) f)(hφ:∀ns:List Int,ns.length<=63->∃σ' gM,fb (iC n [.ref 0]) (.frz (ns.map D.int)::ys.map O.tbl)=some (.rt (.bl true),σ',gM)):
 ∃(fd:FuncData),(∀(s:Shared) (v:Value),BindsTo s fd ⟨[v],[]⟩ [(p,v)])/\∀base:Heap,Mod K mg base->BM base mg->bO P w K mg base fV (k+3) fa fd [p] (Eu K 63 (ys.map (gZ K))):=by
 obtain⟨f,fd,ha,F,hcode⟩:=hD;have e:=hfa.symm.trans (PySem.W.mg_of KX G ha);cases e;obtain⟨oc,od,kV,doc,pm,an,kE,ct,osl,rfl,lk,oR⟩:=F.ex;refine⟨_,λs v => .of_eq (hb0 kV doc pm an kE ct [v] rfl),λbase M B=>?_⟩;refine zV lk oR S (λvs H Q E h=>?_) (λA outer s H vs Q E' hr h=>?_)
 .obtain⟨_,a,ns,rfl,_⟩:=h;rfl
 obtain⟨htab,a,ns,rfl,hz,hl,kk⟩:=h;obtain⟨f1,f2⟩:=hs base M B;obtain⟨_,o0⟩:=Gb (CX:=fV) (P:=P) (w:=w) (qual:=x) (f:=fa) (cdv:=kE) (outer:=outer) (H:=H) (E':=E') S hu f1 dw f2 (hr.mono (Nat.le_add_right k 2));have ok:d9 (CN st fns blt E ext) (jR fV P w K mg base (fC (bf st).names) x (bf st) fa kE A outer s H E').nox :=
  ⟨o0.N,o0.nd,o0.names,o0.kind,o0.st,o0.fns,o0.blt,o0.calm,o0.un,o0.lf,λ_ _ _ h=>(nomatch h),hext _ rfl rfl rfl rfl rfl rfl ⟨λ_=>rfl,htab _ (List.mem_map_of_mem hx),hcode,hC _ M.kin,B⟩ hr,λ_ _ _ _ _ _ h=>(nomatch h),o0.gls,o0.flds,o0.mths,o0.mks⟩
 refine⟨Cj K fb,((Ak m _ _ ok PassesOwn.never).2 _ fb hb).nox,?_⟩;obtain⟨σ',gM,e⟩:=hφ ns hl;have hst:=znR (K:=K) (H:=H) hnd hz htab;have e0:m9 (fC (bf st).names) [D.ref 0]=iC n [D.ref 0]:=by unfold m9 iC;rw[hn]
 rw[<-e0] at e;refine⟨_,_,_,_,σ',gM,Gs (K:=K) (α:=a::ys.map (gZ K)) (.cons (.ref rfl) .nil),hst,e,λσ2 H2 α2 v2 s2 x2 v rv=>?_⟩;cases rv;exact kk H2
theorem znE{P:Program}{tS:TS}(KX:K.In h)(G:h.Ns mainGlobals mg)(hD:cY K x st)(hb0:lV x st [p1])(S:jA N [p1] (bf st))(PJ:N.length=2)(hB:∀(X:Cx) (a:Addr) (fl:FuncData) (sp:Sp) (k:Nat),X.prog=P->X.w=w->X.K=K->X.mg=mg->X.N=N->X.env.scope=bf st->(∀y,X.fn y=true)->X.stack=X.env::X.outer->X.env.frame=some X.env.locals->aU k X.A ->
  bO X.prog X.w X.K X.mg X.base (mO X.prog X.w) k a fl [] sp->X.base.get? a=some { cls := .type "function",data := .func fl }->(∀s:Shared,BindsTo s fl ⟨[],[]⟩ []) ->
  1<=k->fM X (gk st) (λD σ H=>σ[0]?=some (some (.ref a))/\(d8 X.H₀ H->sp [] H D.rt (wX c tS 1 D σ)))):
 ∃f fd,mg x=some (.ref f)/\keepIn K (.ref f)=true/\Binds K fd [p1] []/\∀(base:Heap) (k:Nat),1<=k->Ep P w K mg base k f fd p1 c tS:=by
 obtain⟨f,fd,a,F⟩:=hD;refine⟨f,fd,mg_of KX G a,F.kp,F.binds hb0,λbase k hk a fl sp FL ho hb=>?_⟩;obtain⟨oc,od,kV,doc,pm,an,cdv,ct,osl,rfl,lk,hcd⟩:=F.ex;refine zV lk hcd S (λvs H Q E h=>by rw[h.1];rfl) λA outer s H vs Q E hr hh=>?_;obtain⟨rfl,hsp⟩:=hh;refine⟨_,hB (jR fV P w K mg base N x (bf st) f cdv A outer s H E) a fl sp k rfl rfl rfl rfl rfl rfl (λ_=>rfl) rfl rfl hr FL ho hb hk,?_⟩;have e:L2.start N [V.ref a]=[some (.ref a),none]:=by unfold L2.start;rw[PJ];rfl
 rw[e];exact⟨rfl,λ_=>hsp⟩
theorem Yn(KX:K.In h)(G:h.Ns mainGlobals mg)(e:rK K=true):
 ye K mg (λi=>cu K (wn i)) (cu K "HitError")/\Ip K (λi=>cu K (wn i)) (cu K "HitError")/\∀i<4,∃C,sH K mg (wn i) C:=by
 unfold rK at e;simp only[cL,beq_iff_eq,List.all_eq_true,List.mem_range] at e;obtain⟨e1,⟨e2,e3⟩,e4,e5⟩:=e;have one:∀i<4,_:=λi hi=>by have:=e1 i hi;unfold Qx at this;simp only[cL,beq_iff_eq,List.all_eq_true,List.mem_range] at this;exact this
 refine⟨⟨λi hi=>mg_of KX G (one i hi).2.2.2.2.2,mg_of KX G e2,λi hi=>(one i hi).1.1,λi hi j hj=>(one i hi).2.2.2.2.1 j hj,λi hi=>(one i hi).2.2.1,λi hi=>(one i hi).2.2.2.1,mg_none_of KX G e4,mg_none_of KX G e5⟩,
  ⟨λi hi=>(one i hi).1.2,e3,λi hi=>(one i hi).2.1⟩,λi hi=>⟨_,mg_of KX G (one i hi).2.2.2.2.2,(one i hi).1.2⟩⟩
noncomputable def Iv(P:Program)(w:World)(K:FgA)(mg:Str->Option Value)(x p1:Str)(c:Nat->Addr):Prop :=
 ∃f fd,mg x=some (.ref f)/\keepIn K (.ref f)=true/\Binds K fd [p1] []/\∀base:Heap,Qq P w K mg base 1 f fd [p1] (QD c)
theorem zny{P:Program}{z:Str}(T:ye K mg c cH)(KX:K.In h)(G:h.Ns mainGlobals mg)(hD:cY K x st)(hb0:lV x st [p1])(S:jA N [p1] (bf st))(PJ:N.length=2)(hB:∀X:Cx,ye X.K X.mg c cH->X.N=N->X.env.scope=bf st->(∀y,X.fn y=true)->fM X (gk st) (HS X.K c cH z)):Iv P w K mg x p1 c:=by
 obtain⟨f,fd,a,F⟩:=hD;refine⟨f,fd,mg_of KX G a,F.kp,F.binds hb0,λbase=>?_⟩;obtain⟨oc,od,kV,doc,pm,an,cdv,ct,osl,rfl,lk,hcd⟩:=F.ex;refine Yp lk hcd S λA outer s H vs Q hsp=>?_;obtain⟨e,i,rfl,hi,he,hq⟩:=hsp;refine⟨_,hB (Qe P w K mg base N x (bf st) f cdv A outer s H) T rfl rfl (λ_=>rfl),?_⟩;have e0:L2.start N [V.ref e]=[some (.ref e),none]:=by unfold L2.start;rw[PJ];rfl
 rw[e0];exact ziR T hi he hq
noncomputable def Xk(c:Nat->Addr):TE:=λσ H Q=>(jL (oh 1) qu) σ H λvs H1=>vs.length=1/\QD c vs H1 Q
theorem zox{P:Program}{q r:Pos}(W:Iv P w K mg x p1 c)(hP:X.prog=P)(hw:X.w=w)(hK:X.K=K)(hm:X.mg=mg)(hr:aU 1 (tE X.A))(hg:Gl X x)(hd:(x==("__debug__" : Str))=false)(hN:X.N[1]?=some y)(hv:p7 X.env.scope y)(hd1:(y==("__debug__" : Str))=false)(hd2:(y==("__classdict__" : Str))=false):PE X (.Call (.Name x p) [.Name y q] [] r) (Xk c):=by obtain⟨f,fd,m1,m2,m3,m4⟩:=W;subst hP hw hK hm;exact zmg (m4 X.base) hr hg m1 m2 m3 (jM (yt hN hv hd1 hd2) tL) hd
noncomputable def vR(z:Str)(c:Nat->Addr):TS:=qW (Bt (jL (tC (.str z)) (jL (Xk c) qu)))
def Same.sameT(s:Same H H'):dH H H':=⟨λb o q _=>s b o q,λb ps q=>⟨ps,s b _ q⟩⟩
noncomputable def qU(z:Str)(i:Nat):D := .tup [.str z,.str (wn i)]
theorem znH{z:Str}(a e:Addr)(i:Nat)(H:Hp)(Q:VK)(hi:i<4)(he:H e=some (qm e (c i)))(hQ:∀v H',dH H H'->(∀α,Rep K H' α (qU z i) v)->Q v H'):vR z c { nx:=λ_ _=>False,rt:=Q } [some (.ref a),some (.ref e)] H:=by refine⟨.ref e,rfl,rfl,e,i,rfl,hi,zpg he,λH' hs=>⟨by show 2<=sizeLine;decide,λp hp=>hQ _ _ (Same.sameT λb o q=>?_) λα => .tup (.inl (.inl dU)) (.cons (.str _) (.cons (.str _) .nil))⟩⟩;rw[bN (fD (hs b o q) hp)];exact hs b o q
def zjX{v:Value}(hr:aU k A)(hk:1<=k):aU 1 (tE (A.mark (some v))):=by have:=hr.mono hk;exact⟨rfl,this.dp,this.un⟩
end MX
end
end
section
namespace MX.K16
open PySem PySem.Spec PySem.W PySem.Calls PyProof.Rows L2 MX
theorem zju{X:Cx}{c:Nat->Addr}{cH:Addr}(T:ye X.K X.mg c cH)(hN:X.N=(["_law_e", "_law_flags"]:List Str))(hs:X.env.scope=bf (top 56))(hfn:∀y,X.fn y=true):
 fM X (gk (top 56)) (HS X.K c cH "other"):=by
 have gl:∀{x:Str},(bf (top 56)).names.lookup x=some .globalImplicit->Gl X x:=λ{x} h=>by show X.env.scope.names.lookup _=_;rw[hs];exact h
 have n0:X.N[0]?=some ("_law_e" : Str):=by rw[hN];rfl
 have n1:X.N[1]?=some ("_law_flags" : Str):=by rw[hN];rfl
 have v0:p7 X.env.scope "_law_e" := .inl (by rw[hs];rfl);have v1:p7 X.env.scope "_law_flags" := .inl (by rw[hs];rfl);have isi:∀{e:Expr} {v:V} {p q r:Pos},PE X e (tC v)->jB e=true->PE X (.Call (.Name "isinstance" p) [.Name "_law_e" q,e] [] r) (sy X.K v):=λ{e v p q r} h hn =>
  Ul zmR (gl rfl) T.isi rfl (jM (yt n0 v0) (jM h tL (iy hn [] X.env))) (hpl:=by rw[iy hn [] X.env];rfl)
 have cls:∀(i:Nat) (hi:i<4) {p:Pos},Gl X (wn i)->((wn i)==("__debug__" : Str))=false->PE X (.Name (wn i) p) (tC (.ref (c i))):=λi hi p hg hd=>R8 hg (T.name i hi) rfl hd;refine tU (Rn (i:=1) (by rw[hN];decide) n1 (.inl (by rw[hs];rfl)) (Jq (jM (isi (cls 0 (by decide) (gl rfl) (by decide)) rfl) (jM (isi (cls 1 (by decide) (gl rfl) (by decide)) rfl) (jM (isi (cls 2 (by decide) (gl rfl) (by decide)) rfl) (jM (isi (cls 3 (by decide) (gl rfl) (by decide)) rfl) tL))))) (hf := .inl (hfn _))) ?_;refine tU (Jd ?_ (tU (z7 vA) Fw) Fw) (tU (z7 (QS JB (Jq (jM vA (jM vA (jM vA (jM vA tL))))) (Jg PySem.F.plainAttrs_list PySem.F.slot_list_index PySem.F.type_list_index zkq (yt n1 v1) (jM Jf tL)) (λ_ _=>rfl))) Fw);exact PW.pt (Je (TX Zn (Jg PySem.F.plainAttrs_list PySem.F.slot_list_count PySem.F.type_list_count zks (yt n1 v1) (jM Jf tL)) Rj (Il _)) (Je (Jz (Rq (isi (R8 (gl rfl) T.hit rfl) rfl))) (Rt (Jz (Rq (isi (R6 (gl rfl) T.val rfl rfl) rfl))))))
theorem znF{w:World}{K:FgA}{mg:Str->Option Value}{h:Heap}{c:Nat->Addr}{cH:Addr}(T:ye K mg c cH)(O:Ip K c cH)(KX:K.In h)(G:h.Ns mainGlobals mg)(hW:cY K "_law_word" (top 56))(hT:cY K "_law_told" (top 57)):
 ∃f fd,mg "_law_told" = some (.ref f)/\keepIn K (.ref f)=true/\Binds K fd ["_law_rule"] []/\∀(base:Heap) (k:Nat),1<=k->Ep PG w K mg base k f fd "_law_rule" c (vR "refused" c):=by
 have W:Iv PG w K mg "_law_word" "_law_e" c:=zny (N:=["_law_e", "_law_flags"]) T KX G hW (zus λ_ _ _ _ _ _ _=>rfl) ⟨rfl,rfl,rfl,by decide +kernel,by kernel_rfl,by decide +kernel,by decide +kernel⟩ rfl λX T' hN hs hfn=>zju T' hN hs hfn;refine znE (N:=["_law_rule", "_law_e"]) KX G hT (zus λ_ _ _ _ _ _ _=>rfl) ⟨rfl,rfl,rfl,by decide +kernel,by kernel_rfl,by decide +kernel,by decide +kernel⟩ rfl λX a fl sp k hP hw hK hm hN hs hfn hst hfr hr F ho hb hk=>?_;have gl:∀{x:Str},(bf (top 57)).names.lookup x=some .globalImplicit->Gl X x:=λ{x} h=>by show X.env.scope.names.lookup _=_;rw[hs];exact h
 have n0:X.N[0]?=some ("_law_rule" : Str):=by rw[hN];rfl
 have n1:X.N[1]?=some ("_law_e" : Str):=by rw[hN];rfl
 have v1:p7 X.env.scope "_law_e" := .inl (by rw[hs];rfl);refine TV (zon (j:=1) F hr ho hb n0 (.inl (by rw[hs];rfl)) (by decide) (by decide) hst hfr (hK ▸ O) (gl rfl) (hm ▸ T.hit) (by decide) (by rw[hN];decide) n1 (by rw[hs];rfl) λe=>?_);exact TV (z7 (Rk (jM vA (jM (zox (X:=Qf X e) W hP hw hK hm (zjX hr hk) (gl rfl) (by decide) n1 v1 (by decide) (by decide)) tL))))
end MX.K16
end
section
namespace MX.P
open PySem L2 MX
noncomputable def zev:SF:=aA (bM (fL (fO (aj 0)) (aK 0) eZ (eB aL (aj 0) (aj 1)) [none,some 1])) aJ
noncomputable def Gv:GN:=fnOf 2 zev
noncomputable def Wo:SF:=aA (bG (fL (mU (ak (eC (.int 3)) au)) (aK 0) eZ (eN qC (ak (eN (aO 2 Gv) (ak (aj 1) (ak (aj 0) au))) au)) [none,some 0]) (aK 1)) (aA (bG (fL (mU (ak (eC (.int 3)) au)) (aK 0) eZ (eN lz (ak (eN (aO 2 Gv) (ak (aj 1) (ak (aj 0) au))) au)) [none,some 0]) (aK 2)) (aA (bM (eN cB (ak (eN qy (ak (aj 1) au)) (ak (eN qy (ak (aj 2) au)) au)))) aJ))
noncomputable def yO:GN:=fnOf 3 Wo
noncomputable def WK:SF:=aA (bM (eN mF (ak (fL (qp (ak (aj 0) (ak (aj 1) au))) (lJ 2 (gA (aK 0) (gA (aK 1) mX))) eZ (eB (aZ .LtE) (aj 0) (aj 1)) [none,none]) au))) aJ
noncomputable def Nb:GN:=fnOf 2 WK
noncomputable def K3:SF:=aA (cW (bW (eB (aZ .Eq) (jP (aj 0) lA (jH (eC (.int 1)))) (eN cB (ak (eC (.str "box")) au)))) (aA (bM (pA (eB (aZ .Eq) (eN gW (ak (aj 0) au)) (eC (.int 3))) (eN (aO 2 Nb) (ak (eB aL (aj 0) (eC (.int 1))) (ak (eB aL (aj 0) (eC (.int 2))) au))))) aJ) aJ) (aA (bM (pA (eB (aZ .Eq) (jP (aj 0) lA (jH (eC (.int 1)))) (eN cB (ak (eC (.str "triangle")) au))) (eB (aZ .Eq) (eN gW (ak (aj 0) au)) (eC (.int 4))))) aJ)
noncomputable def vH:GN:=fnOf 1 K3
noncomputable def Xe:SF:=aA (cW (mZ (gY (eN (aO 1 vH) (ak (aj 0) au)))) (aA En aJ) aJ) aJ
noncomputable def Bo:GN:=fnOf 1 Xe
noncomputable def zdX:XF:=ud (mZ (gY (eN (aO 1 vH) (ak (aj 0) au)))) (λσ S=>((eC (.str "neither a box with its corners in order nor a triangle")) σ S).map λr=>("NoShape",r.2)) qQ
noncomputable def zd2:XN:=m6 1 zdX
noncomputable def Uo:SF:=aA (lB (eN (aO 1 Bo) (ak (aj 0) au))) (aA (bM (eN (aO 1 yO) (ak (eN nU (ak (jP (aj 0) (jH (eC (.int 1))) lA) au)) au))) aJ)
noncomputable def vC:GN:=fnOf 1 Uo
noncomputable def Lr:SF:=aA (cW (bW (eB (aZ .Eq) (aj 0) (eN lu au))) (aA (bM (eB (aP .Mult) (aj 1) (eC (.int 7919)))) aJ) aJ) (aA (bM (eB (aP .Add) (eB aL (aj 0) (eB (aP .Mod) (aj 1) (eN gW (ak (aj 0) au)))) (eB (aP .Mult) (eB (aP .FloorDiv) (aj 1) (eN gW (ak (aj 0) au))) (eC (.int 104729))))) aJ)
noncomputable def nF:GN:=fnOf 2 Lr
noncomputable def Lj:SF:=aA (bG (eB (aP .Mod) (eB (aP .Add) (eB (aP .Mult) (aj 0) (eC (.int 6364136223846793005))) (eB (aP .Mult) (eB (aP .Add) (aj 1) (eC (.int 1))) (eC (.int 1442695040888963407)))) (eC (.int 340282366920938463463374607431768211507))) (aK 2)) (aA (bM (eB (aP .Mod) (eB (aP .Mult) (aj 2) (aj 2)) (eC (.int 340282366920938463463374607431768211297)))) aJ)
noncomputable def yN:GN:=fnOf 3 Lj
noncomputable def Xf:SF:=aA (j9 (bW (eB (aZ .NotEq) (aj 1) (eC (.int 0)))) (aA (bG (eB (aP .Mod) (aj 0) (aj 1)) (aK 2)) (aA (bG (aj 1) (aK 0)) (aA (bG (aj 2) (aK 1)) aJ)))) (aA (bM (eN sS (ak (aj 0) au))) aJ)
noncomputable def GP:GN:=fnOf 3 Xf
noncomputable def WL:SF:=aA (bG (eN (aO 2 GP) (ak (eB aL (aj 0) (eC (.int 0))) (ak (eB aL (aj 0) (eC (.int 1))) au))) (aK 1)) (aA (bM (eN cB (ak (eB (aP .FloorDiv) (eB aL (aj 0) (eC (.int 0))) (aj 1)) (ak (eB (aP .FloorDiv) (eB aL (aj 0) (eC (.int 1))) (aj 1)) au)))) aJ)
noncomputable def t8:GN:=fnOf 2 WL
noncomputable def Kq:SF:=aA (bM (eB (aZ .Lt) (eB (aP .Mult) (eB aL (aj 0) (eC (.int 0))) (eB aL (aj 1) (eC (.int 1)))) (eB (aP .Mult) (eB aL (aj 1) (eC (.int 0))) (eB aL (aj 0) (eC (.int 1)))))) aJ
noncomputable def tY:GN:=fnOf 2 Kq
noncomputable def Nj:SF:=aA (bM (eN cB (ak (eB (aP .Sub) (eB aL (aj 1) (eC (.int 0))) (eB aL (aj 0) (eC (.int 0)))) (ak (eB (aP .Sub) (eB aL (aj 1) (eC (.int 1))) (eB aL (aj 0) (eC (.int 1)))) (ak (eB (aP .Sub) (eB aL (aj 1) (eC (.int 2))) (eB aL (aj 0) (eC (.int 2)))) au))))) aJ
noncomputable def eE:GN:=fnOf 2 Nj
noncomputable def Jc:SF:=aA (bM (eB (aP .Add) (eB (aP .Add) (eB (aP .Mult) (eB aL (aj 0) (eC (.int 0))) (eB aL (aj 1) (eC (.int 0)))) (eB (aP .Mult) (eB aL (aj 0) (eC (.int 1))) (eB aL (aj 1) (eC (.int 1))))) (eB (aP .Mult) (eB aL (aj 0) (eC (.int 2))) (eB aL (aj 1) (eC (.int 2)))))) aJ
noncomputable def fP:GN:=fnOf 2 Jc
noncomputable def JS:SF:=aA (bM (eN cB (ak (eB (aP .Sub) (eB (aP .Mult) (eB aL (aj 0) (eC (.int 1))) (eB aL (aj 1) (eC (.int 2)))) (eB (aP .Mult) (eB aL (aj 0) (eC (.int 2))) (eB aL (aj 1) (eC (.int 1))))) (ak (eB (aP .Sub) (eB (aP .Mult) (eB aL (aj 0) (eC (.int 2))) (eB aL (aj 1) (eC (.int 0)))) (eB (aP .Mult) (eB aL (aj 0) (eC (.int 0))) (eB aL (aj 1) (eC (.int 2))))) (ak (eB (aP .Sub) (eB (aP .Mult) (eB aL (aj 0) (eC (.int 0))) (eB aL (aj 1) (eC (.int 1)))) (eB (aP .Mult) (eB aL (aj 0) (eC (.int 1))) (eB aL (aj 1) (eC (.int 0))))) au))))) aJ
noncomputable def ji:GN:=fnOf 2 JS
noncomputable def Mv:SF:=aA (cW (bW (eB (aZ .Gt) (aj 1) (eC (.int 0)))) (aA (bM (eN cB (ak (eN cB (ak (eB (aP .Sub) (aj 2) (aj 0)) (ak (aj 1) au))) (ak (eN cB (ak (eB (aP .Sub) (aj 3) (aj 0)) (ak (aj 1) au))) au)))) aJ) aJ) (aA (bM (eN cB (ak (eN cB (ak (eB (aP .Sub) (aj 0) (aj 3)) (ak (eU u9 (aj 1)) au))) (ak (eN cB (ak (eB (aP .Sub) (aj 0) (aj 2)) (ak (eU u9 (aj 1)) au))) au)))) aJ)
noncomputable def Mx:GN:=fnOf 4 Mv
noncomputable def Lz:SF:=bG (eN cB (ak (eC (.int 0)) (ak (eC (.int 1)) au))) (aK 2)
noncomputable def LC:SF:=bG (eC .non) (aK 3)
noncomputable def Aw:SF:=cW (bW (eB (aZ .Eq) (aj 5) (eC (.int 0)))) (aA (cW (iW (bW (eB (aZ .Lt) (aj 4) (aj 6))) (bW (eB (aZ .Gt) (aj 4) (aj 7)))) (aA (bM (eC .non)) aJ) aJ) (aA oG aJ)) aJ
noncomputable def M4:SF:=bG (eN (aO 4 Mx) (ak (aj 4) (ak (aj 5) (ak (aj 6) (ak (aj 7) au))))) (aK 8)
noncomputable def M7:SF:=cW (gY (eN (aO 2 tY) (ak (aj 2) (ak (eB aL (aj 8) (eC (.int 0))) au)))) (aA (bG (eB aL (aj 8) (eC (.int 0))) (aK 2)) aJ) aJ
noncomputable def M8:SF:=cW (iW (bW (eB (aZ .Is) (aj 3) (eC .non))) (gY (eN (aO 2 tY) (ak (eB aL (aj 8) (eC (.int 1))) (ak (aj 3) au))))) (aA (bG (eB aL (aj 8) (eC (.int 1))) (aK 3)) aJ) aJ
noncomputable def pR:SF:=aA Aw (aA M4 (aA M7 (aA M8 aJ)))
noncomputable def LK:SF:=lR (qp (ak (eB aL (aj 0) (eC (.int 0))) (ak (eB aL (aj 0) (eC (.int 1))) (ak (eB aL (aj 1) (eC (.int 0))) (ak (eB aL (aj 1) (eC (.int 1))) au))))) (lJ 4 (gA (aK 4) (gA (aK 5) (gA (aK 6) (gA (aK 7) mX))))) pR
noncomputable def Am:SF:=cW (gY (eN (aO 2 tY) (ak (aj 3) (ak (aj 2) au)))) (aA (bM (eC .non)) aJ) aJ
noncomputable def VN:SF:=bM (eN cB (ak (aj 2) (ak (aj 3) au)))
noncomputable def Gk:SF:=aA Lz (aA LC (aA LK (aA Am (aA VN aJ))))
noncomputable def vB:GN:=fnOf 9 Gk
noncomputable def Ly:SF:=aA (bG (eN (aO 2 vB) (ak (aj 0) (ak (aj 1) au))) (aK 2)) (aA (cW (bW (eB (aZ .Is) (aj 2) (eC .non))) (aA (bM (eC .non)) aJ) aJ) (aA (bM (eN (aO 1 t8) (ak (eB aL (aj 2) (eC (.int 0))) au))) aJ))
noncomputable def LQ:GN:=fnOf 3 Ly
noncomputable def K1:SF:=aA (bM (eN lu (ak (eN cB (ak (eB aL (aj 0) (eC (.int 0))) (ak (eB aL (aj 0) (eC (.int 1))) au))) (ak (eN cB (ak (eB aL (aj 0) (eC (.int 1))) (ak (eB aL (aj 0) (eC (.int 2))) au))) (ak (eN cB (ak (eB aL (aj 0) (eC (.int 2))) (ak (eB aL (aj 0) (eC (.int 0))) au))) au))))) aJ
noncomputable def vG:GN:=fnOf 1 K1
noncomputable def G5:SF:=aA (bG (eB aL (aj 0) (eC (.int 1))) (aK 3)) (aA (bG (eN (aO 2 eE) (ak (eB aL (aj 0) (eC (.int 0))) (ak (aj 1) au))) (aK 4)) (aA (cW (bW (eB (aZ .NotEq) (eN (aO 2 ji) (ak (aj 4) (ak (aj 3) au))) (eN cB (ak (eC (.int 0)) (ak (eC (.int 0)) (ak (eC (.int 0)) au)))))) (aA (bM (eC .non)) aJ) aJ) (aA (bG (eN cB (ak (eN (aO 2 fP) (ak (aj 4) (ak (aj 3) au))) (ak (eN (aO 2 fP) (ak (eN (aO 2 eE) (ak (eB aL (aj 0) (eC (.int 0))) (ak (aj 2) au))) (ak (aj 3) au))) au))) (aK 5)) (aA (cW (bW (eB (aZ .Lt) (eN lz (ak (aj 5) au)) (eC (.int 0)))) (aA (bM (eC .non)) aJ) aJ) (aA (bM (eN (aO 1 t8) (ak (eN cB (ak (eN lz (ak (eN qC (ak (aj 5) au)) (ak (eC (.int 0)) au))) (ak (eN (aO 2 fP) (ak (aj 3) (ak (aj 3) au))) au))) au))) aJ)))))
noncomputable def MJ:GN:=fnOf 6 G5
noncomputable def vK:SF:=aA (bG (eB aL (aj 0) (eC (.int 1))) (aK 3)) (aA (bG (eN (aO 2 eE) (ak (aj 1) (ak (aj 2) au))) (aK 4)) (aA (bG (eN (aO 2 ji) (ak (aj 3) (ak (aj 4) au))) (aK 5)) (aA (cW (bW (eB (aZ .Eq) (aj 5) (eN cB (ak (eC (.int 0)) (ak (eC (.int 0)) (ak (eC (.int 0)) au)))))) (aA (bM (eN (aO 3 MJ) (ak (aj 0) (ak (aj 1) (ak (aj 2) au))))) aJ) aJ) (aA (bG (eN (aO 2 eE) (ak (eB aL (aj 0) (eC (.int 0))) (ak (aj 1) au))) (aK 6)) (aA (cW (bW (eB (aZ .NotEq) (eN (aO 2 fP) (ak (aj 6) (ak (aj 5) au))) (eC (.int 0)))) (aA (bM (eC .non)) aJ) aJ) (aA (bG (eN (aO 2 fP) (ak (aj 5) (ak (aj 5) au))) (aK 7)) (aA (bG (eN (aO 2 fP) (ak (eN (aO 2 ji) (ak (aj 6) (ak (aj 4) au))) (ak (aj 5) au))) (aK 8)) (aA (bG (eN (aO 2 fP) (ak (eN (aO 2 ji) (ak (aj 6) (ak (aj 3) au))) (ak (aj 5) au))) (aK 9)) (aA (cW (iW (bW (eB (aZ .Lt) (aj 8) (eC (.int 0)))) (iW (bW (eB (aZ .Lt) (aj 9) (eC (.int 0)))) (bW (eB (aZ .Gt) (aj 9) (aj 7))))) (aA (bM (eC .non)) aJ) aJ) (aA (bM (eN (aO 1 t8) (ak (eN cB (ak (aj 8) (ak (aj 7) au))) au))) aJ))))))))))
noncomputable def Mw:GN:=fnOf 10 vK
noncomputable def WQ:SF:=bG (eC .non) (aK 2)
noncomputable def Nz:SF:=bG (eN (aO 3 Mw) (ak (aj 0) (ak (aj 3) (ak (aj 4) au)))) (aK 5)
noncomputable def qN:SF:=cW (pK (bW (eB (aZ .IsNot) (aj 5) (eC .non))) (iW (bW (eB (aZ .Is) (aj 2) (eC .non))) (gY (eN (aO 2 tY) (ak (aj 5) (ak (aj 2) au)))))) (aA (bG (aj 5) (aK 2)) aJ) aJ
noncomputable def NT:SF:=aA Nz (aA qN aJ)
noncomputable def Mu:SF:=lR (fO (eN (aO 1 vG) (ak (aj 1) au))) (lJ 2 (gA (aK 3) (gA (aK 4) mX))) NT
noncomputable def WR:SF:=bM (aj 2)
noncomputable def W7:SF:=aA WQ (aA Mu (aA WR aJ))
noncomputable def yS:GN:=fnOf 6 W7
noncomputable def MK:SF:=aA (bG (fL (fO (aj 2)) (aK 0) eZ (eN (aO 2 eE) (ak (aj 1) (ak (aj 0) au))) [none,some 0]) (aK 3)) (aA (bG (fL (fO (eN (aO 1 vG) (ak (aj 3) au))) (lJ 2 (gA (aK 0) (gA (aK 1) mX))) eZ (eN (aO 2 fP) (ak (aj 2) (ak (eN (aO 2 ji) (ak (aj 0) (ak (aj 1) au))) au))) [none,none,some 1]) (aK 4)) (aA (bM (zy (eB (aZ .GtE) (eN qC (ak (aj 4) au)) (eC (.int 0))) (eB (aZ .LtE) (eN lz (ak (aj 4) au)) (eC (.int 0))))) aJ))
noncomputable def pU:GN:=fnOf 5 MK
noncomputable def Nm:SF:=aA (cW (gY (eN (aO 3 pU) (ak (eB aL (aj 0) (eC (.int 0))) (ak (aj 2) (ak (aj 1) au))))) (aA (bM (eN cB (ak (eC (.int 0)) (ak (eC (.int 1)) au)))) aJ) aJ) (aA (bM (eN (aO 2 yS) (ak (aj 0) (ak (aj 1) au)))) aJ)
noncomputable def zc:GN:=fnOf 3 Nm
noncomputable def pQ:SF:=aA (bG (eN (aO 2 ji) (ak (eN (aO 2 eE) (ak (eB aL (aj 1) (eC (.int 0))) (ak (eB aL (aj 1) (eC (.int 1))) au))) (ak (eN (aO 2 eE) (ak (eB aL (aj 1) (eC (.int 0))) (ak (eB aL (aj 1) (eC (.int 2))) au))) au))) (aK 2)) (aA (cW (bW (eB (aZ .Eq) (aj 2) (eN cB (ak (eC (.int 0)) (ak (eC (.int 0)) (ak (eC (.int 0)) au)))))) (aA (bM (eN (aO 2 yS) (ak (aj 0) (ak (aj 1) au)))) aJ) aJ) (aA (bG (eN (aO 2 fP) (ak (eN (aO 2 eE) (ak (eB aL (aj 0) (eC (.int 0))) (ak (eB aL (aj 1) (eC (.int 0))) au))) (ak (aj 2) au))) (aK 3)) (aA (bG (eN (aO 2 fP) (ak (eB aL (aj 0) (eC (.int 1))) (ak (aj 2) au))) (aK 4)) (aA (cW (bW (eB (aZ .Eq) (aj 4) (eC (.int 0)))) (aA (bM (uJ (bW (eB (aZ .Eq) (aj 3) (eC (.int 0)))) (eN (aO 3 zc) (ak (aj 0) (ak (aj 1) (ak (aj 2) au)))) (eC .non))) aJ) aJ) (aA (cW (bW (eB (aZ .Lt) (aj 4) (eC (.int 0)))) (aA (bG (eU u9 (aj 3)) (aK 3)) (aA (bG (eU u9 (aj 4)) (aK 4)) aJ)) aJ) (aA (cW (iW (bW (eB (aZ .Lt) (aj 3) (eC (.int 0)))) (mZ (gY (eN (aO 3 pU) (ak (eB aL (aj 0) (eC (.int 0))) (ak (eB aL (aj 0) (eC (.int 1))) (ak (aj 1) au))))))) (aA (bM (eC .non)) aJ) aJ) (aA (bM (eN (aO 1 t8) (ak (eN cB (ak (aj 3) (ak (aj 4) au))) au))) aJ)))))))
noncomputable def nu:GN:=fnOf 5 pQ
noncomputable def Bm:SF:=aA (cW (bW (eB (aZ .Eq) (eB aL (aj 0) (eC (.int 1))) (eN cB (ak (eC (.int 0)) (ak (eC (.int 0)) (ak (eC (.int 0)) au)))))) (aA En aJ) aJ) aJ
noncomputable def t6:GN:=fnOf 1 Bm
noncomputable def Bk:XF:=ud (bW (eB (aZ .Eq) (eB aL (aj 0) (eC (.int 1))) (eN cB (ak (eC (.int 0)) (ak (eC (.int 0)) (ak (eC (.int 0)) au)))))) (λσ S=>((eC (.str "the ray's way is (0, 0, 0)")) σ S).map λr=>("NoRay",r.2)) qQ
noncomputable def Bh:XN:=m6 1 Bk
noncomputable def Kr:SF:=aA (cW (bW (eB (aZ .Eq) (eB aL (aj 1) (eC (.int 0))) (eC (.str "box")))) (aA (bM (eN (aO 2 LQ) (ak (aj 0) (ak (jP (aj 1) (jH (eC (.int 1))) lA) au)))) aJ) aJ) (aA (bM (eN (aO 2 nu) (ak (aj 0) (ak (jP (aj 1) (jH (eC (.int 1))) lA) au)))) aJ)
noncomputable def yK:GN:=fnOf 2 Kr
noncomputable def RD:SF:=aA (lB (eN (aO 1 t6) (ak (aj 0) au))) (aA (lB (eN (aO 1 Bo) (ak (aj 1) au))) (aA (bM (eN (aO 2 yK) (ak (aj 0) (ak (aj 1) au)))) aJ))
noncomputable def J9:GN:=fnOf 2 RD
noncomputable def zmX:XF:=uZ (lB (eN (aO 1 t6) (ak (aj 0) au))) (vg 1 Bh (ak (aj 0) au)) (vg 1 zd2 (ak (aj 1) au))
noncomputable def x_meets:XN:=m6 2 zmX
noncomputable def Wn:SF:=aA (bM (pA (eN pB (ak (aj 0) (ak (eC (.ty "int")) au))) (mJ (eN pB (ak (aj 0) (ak (eC (.ty "bool")) au)))))) aJ
noncomputable def Gu:GN:=fnOf 1 Wn
noncomputable def Ls:SF:=aA (bM (eB (aZ .Lt) (eB (aP .Mult) (eB aL (aj 0) (eC (.int 0))) (eB aL (aj 1) (eC (.int 1)))) (eB (aP .Mult) (eB aL (aj 1) (eC (.int 0))) (eB aL (aj 0) (eC (.int 1)))))) aJ
noncomputable def Gx:GN:=fnOf 2 Ls
noncomputable def VJ:SF:=aA (bM (eN cB (ak (eB (aP .Sub) (eB (aP .Mod) (aj 0) (eC (.int 9))) (eC (.int 4))) (ak (eB (aP .Sub) (eB (aP .Mod) (eB (aP .FloorDiv) (aj 0) (eC (.int 9))) (eC (.int 9))) (eC (.int 4))) (ak (eB (aP .Sub) (eB (aP .Mod) (eB (aP .FloorDiv) (aj 0) (eC (.int 81))) (eC (.int 9))) (eC (.int 4))) au))))) aJ
noncomputable def qO:GN:=fnOf 1 VJ
noncomputable def Ni:SF:=aA (cW (bW (eB (aZ .Eq) (eB (aP .Mod) (aj 1) (eC (.int 3))) (eC (.int 0)))) (aA (bM (aj 0)) aJ) aJ) (aA (bG (eB (aP .Add) (eC (.int 1)) (eB (aP .Mod) (aj 1) (eB (aP .LShift) (eC (.int 1)) (eC (.int 50))))) (aK 2)) (aA (bM (eN cB (ak (eB (aP .Add) (eB (aP .Mult) (eB aL (aj 0) (eC (.int 0))) (aj 2)) (eB (aP .Mod) (aj 1) (eC (.int 1000003)))) (ak (eB (aP .Sub) (eB (aP .Mult) (eB aL (aj 0) (eC (.int 1))) (aj 2)) (eB (aP .Mod) (aj 1) (eC (.int 997)))) (ak (eB (aP .Add) (eB (aP .Mult) (eB aL (aj 0) (eC (.int 2))) (aj 2)) (eC (.int 5))) au))))) aJ))
noncomputable def yR:GN:=fnOf 3 Ni
noncomputable def NQ:SF:=aA (nY "Tree" "box" (aj 0) (aj 1)) (aA (nY "Tree" "number" (aj 0) (aj 2)) (aA (nY "Tree" "halves" (aj 0) (aj 3)) aJ))
noncomputable def yZ:GN:=fnOf 4 NQ
noncomputable def WM:SF:=aA (bG (fL (qp (ak (eB aL (aj 0) (eC (.int 0))) (ak (eB aL (aj 0) (eC (.int 1))) au))) (lJ 2 (gA (aK 0) (gA (aK 1) mX))) eZ (eB (aP .Sub) (aj 1) (aj 0)) [none,none]) (aK 1)) (aA (bM (eM yh (aj 1) (ak (eN lz (ak (aj 1) au)) au))) aJ)
noncomputable def Nf:GN:=fnOf 2 WM
noncomputable def nA(φ:GN):SF:=aA (cW (bW (eB (aZ .Eq) (eN gW (ak (aj 0) au)) (eC (.int 1)))) (aA (bM (eB aL (aj 0) (eC (.int 0)))) aJ) aJ) (aA (bG (eN (aO 1 yO) (ak (eB (aP .Add) (fL (fO (aj 0)) (aK 0) eZ (eB aL (gw "Tree" "box" (aj 0)) (eC (.int 0))) [none]) (fL (fO (aj 0)) (aK 0) eZ (eB aL (gw "Tree" "box" (aj 0)) (eC (.int 1))) [none])) au)) (aK 1)) (aA (bG (eN (aO 1 Nf) (ak (aj 1) au)) (aK 4)) (aA (bG (zx (aj 0) [4] (eB (aP .Add) (eB aL (eB aL (gw "Tree" "box" (aj 0)) (eC (.int 0))) (aj 1)) (eB aL (eB aL (gw "Tree" "box" (aj 0)) (eC (.int 1))) (aj 1)))) (aK 2)) (aA (bG (eB (aP .FloorDiv) (eN gW (ak (aj 2) au)) (eC (.int 2))) (aK 3)) (aA (bM (oX "Tree" 4 yZ (ak (aj 1) (ak (eC .non) (ak (eN cB (ak (eN (aO 1 φ) (ak (jP (aj 2) lA (jH (aj 3))) au)) (ak (eN (aO 1 φ) (ak (jP (aj 2) (jH (aj 3)) lA) au)) au))) au))))) aJ)))))
noncomputable def jh:Nat->GN
 |0=>λ_ _=>none
 |k+1=>sY "tree_over" 5 (nA (jh k))
noncomputable def zhD:GN:=jh 6
noncomputable def M9:SF:=bG (fL (oN (aj 0)) (lJ 2 (gA (aK 0) (gA (aK 1) mX))) eZ (oX "Tree" 4 yZ (ak (aj 1) (ak (aj 0) (ak (eN cB au) au)))) [none,none]) (aK 1)
noncomputable def Ay:SF:=bM (uJ (bW (eB (aZ .Eq) (eN gW (ak (aj 1) au)) (eC (.int 0)))) (eC .non) (eN (aO 1 zhD) (ak (aj 1) au)))
noncomputable def Ln:SF:=aA M9 (aA Ay aJ)
noncomputable def Gw:GN:=fnOf 2 Ln
noncomputable def Nq:SF:=aA (nY "Scene" "kept" (aj 0) (eN nU (ak (aj 1) au))) (aA (nY "Scene" "tree" (aj 0) (eN (aO 1 Gw) (ak (fL (fO (gw "Scene" "kept" (aj 0))) (aK 0) eZ (eN (aO 1 vC) (ak (aj 0) au)) [none]) au))) aJ)
noncomputable def GQ:GN:=fnOf 2 Nq
noncomputable def Lk:SF:=aA (bG (eB (aP .Sub) (aj 1) (eB (aP .Mult) (eB (aP .Mod) (aj 1) (eC (.int 3))) (eB (aP .Mod) (eN (aO 2 nF) (ak (aj 0) (ak (eC (.int 0)) au))) (eC (.int 2))))) (aK 2)) (aA (bG (eN (aO 2 yN) (ak (eN (aO 2 nF) (ak (aj 0) (ak (eB (aP .Add) (aj 2) (eC (.int 1))) au))) (ak (aj 2) au))) (aK 3)) (aA (bG (eN (aO 1 qO) (ak (aj 3) au)) (aK 4)) (aA (cW (bW (eB (aZ .Eq) (eB (aP .Mod) (eB (aP .FloorDiv) (aj 3) (eC (.int 729))) (eC (.int 2))) (eC (.int 0)))) (aA (bG (eN (aO 1 qO) (ak (eB (aP .FloorDiv) (aj 3) (eC (.int 1458))) au)) (aK 5)) (aA (bM (eN cB (ak (eC (.str "box")) (ak (aj 4) (ak (eN cB (ak (eB (aP .Add) (eB aL (aj 4) (eC (.int 0))) (eN sS (ak (eB aL (aj 5) (eC (.int 0))) au))) (ak (eB (aP .Add) (eB aL (aj 4) (eC (.int 1))) (eB (aP .FloorDiv) (eN sS (ak (eB aL (aj 5) (eC (.int 1))) au)) (eC (.int 2)))) (ak (eB (aP .Add) (eB aL (aj 4) (eC (.int 2))) (eB (aP .Mod) (eN sS (ak (eB aL (aj 5) (eC (.int 2))) au)) (eC (.int 3)))) au)))) au))))) aJ)) aJ) (aA (bM (eN cB (ak (eC (.str "triangle")) (ak (aj 4) (ak (eN (aO 1 qO) (ak (eB (aP .FloorDiv) (aj 3) (eC (.int 1458))) au)) (ak (eN (aO 1 qO) (ak (eB (aP .FloorDiv) (aj 3) (eC (.int 1062882))) au)) au)))))) aJ))))
noncomputable def Lp:GN:=fnOf 6 Lk
noncomputable def Wm:SF:=aA (bG (eN (aO 2 Lp) (ak (aj 0) (ak (aj 1) au))) (aK 2)) (aA (bM (eB (aP .Add) (eN cB (ak (eB aL (aj 2) (eC (.int 0))) au)) (eN qy (ak (fL (fO (jP (aj 2) (jH (eC (.int 1))) lA)) (aK 0) eZ (eN (aO 2 yR) (ak (aj 0) (ak (eN (aO 2 nF) (ak (aj 1) (ak (eC (.int 0)) au))) au))) [none,some 0]) au)))) aJ)
noncomputable def vD:GN:=fnOf 3 Wm
noncomputable def Ml:SF:=bG (eN (aO 2 yN) (ak (eN (aO 2 nF) (ak (aj 0) (ak (aj 1) au))) (ak (aj 1) au))) (aK 2)
noncomputable def Mp:SF:=bG (eN (aO 1 qO) (ak (aj 2) au)) (aK 3)
noncomputable def Mq:SF:=bG (eN (aO 1 qO) (ak (eB (aP .FloorDiv) (aj 2) (eC (.int 729))) au)) (aK 4)
noncomputable def G3:SF:=cW (iW (bW (eB (aZ .Eq) (eB (aP .Mod) (eB (aP .FloorDiv) (aj 2) (eC (.int 531441))) (eC (.int 3))) (eC (.int 0)))) (bW (eB (aZ .Eq) (aj 4) (eN cB (ak (eC (.int 0)) (ak (eC (.int 0)) (ak (eC (.int 0)) au))))))) (aA (bG (eB aL (eN lu (ak (eN cB (ak (eC (.int 1)) (ak (eC (.int 0)) (ak (eC (.int 0)) au)))) (ak (eN cB (ak (eC (.int 0)) (ak (eB (aP .Sub) (eC (.int 0)) (eC (.int 2))) (ak (eC (.int 0)) au)))) (ak (eN cB (ak (eC (.int 0)) (ak (eC (.int 0)) (ak (eC (.int 3)) au)))) (ak (eN cB (ak (eC (.int 1)) (ak (eC (.int 1)) (ak (eC (.int 0)) au)))) (ak (eN cB (ak (eC (.int 0)) (ak (eC (.int 1)) (ak (eB (aP .Sub) (eC (.int 0)) (eC (.int 1))) au)))) (ak (eN cB (ak (eB (aP .Sub) (eC (.int 0)) (eC (.int 1))) (ak (eC (.int 0)) (ak (eC (.int 0)) au)))) au))))))) (eB (aP .Mod) (eB (aP .FloorDiv) (aj 2) (eC (.int 1594323))) (eC (.int 6)))) (aK 4)) aJ) aJ
noncomputable def Mr:SF:=bG (eB (aP .Mod) (eB (aP .FloorDiv) (aj 2) (eC (.int 9565938))) (eC (.int 4))) (aK 5)
noncomputable def Ms:SF:=bG (eN qy (ak (fL (mU (ak (eC (.int 3)) au)) (aK 0) eZ (eB (aP .Sub) (eB aL (aj 2) (aj 0)) (eB (aP .Mult) (aj 1) (eB aL (aj 3) (aj 0)))) [none,some 5,some 3,some 4]) au)) (aK 3)
noncomputable def Mt:SF:=bM (eN cB (ak (eN (aO 2 yR) (ak (aj 3) (ak (eN (aO 2 nF) (ak (aj 0) (ak (eC (.int 0)) au))) au))) (ak (aj 4) au)))
noncomputable def Xa:SF:=aA Ml (aA Mp (aA Mq (aA G3 (aA Mr (aA Ms (aA Mt aJ))))))
noncomputable def MF:GN:=fnOf 6 Xa
noncomputable def Nr:SF:=bG (eN lu au) (aK 2)
noncomputable def Nt:SF:=bG (uJ (bW (eB (aZ .Is) (aj 0) (eC .non))) (eN lu au) (eN lu (ak (aj 0) au))) (aK 3)
noncomputable def Np:SF:=bG (Du mD (aj 3)) (aK 4)
noncomputable def zb:SF:=cW (bW (eB (aZ .Is) (eN (aO 2 vB) (ak (aj 1) (ak (gw "Tree" "box" (aj 4)) au))) (eC .non))) (aA oG aJ) aJ
noncomputable def Bl:SF:=cW (bW (eB (aZ .Is) (gw "Tree" "number" (aj 4)) (eC .non))) (aA (lB (eM yc (aj 3) (ak (gw "Tree" "halves" (aj 4)) au))) aJ) (aA (lB (eM vh (aj 2) (ak (gw "Tree" "number" (aj 4)) au))) aJ)
noncomputable def t7:SF:=aA Np (aA zb (aA Bl aJ))
noncomputable def Xd:SF:=j9 (bW (eB (aZ .Gt) (eN gW (ak (aj 3) au)) (eC (.int 0)))) t7
noncomputable def Nu:SF:=bM (aj 2)
noncomputable def WT:SF:=aA Nr (aA Nt (aA Xd (aA Nu aJ)))
noncomputable def G4:GN:=fnOf 5 WT
noncomputable def GZ:SF:=lB (eN (aO 1 t6) (ak (aj 1) au))
noncomputable def Ma:SF:=bG (eN lu au) (aK 2)
noncomputable def Nv:SF:=bG (eN (aO 2 yK) (ak (aj 1) (ak (eB aL (gw "Scene" "kept" (aj 0)) (aj 3)) au))) (aK 4)
noncomputable def Bj:SF:=cW (bW (eB (aZ .IsNot) (aj 4) (eC .non))) (aA (lB (eM vh (aj 2) (ak (eN cB (ak (aj 4) (ak (aj 3) au))) au))) aJ) aJ
noncomputable def yX:SF:=aA Nv (aA Bj aJ)
noncomputable def Mf:SF:=lR (fO (eN (aO 2 G4) (ak (gw "Scene" "tree" (aj 0)) (ak (aj 1) au)))) (aK 3) yX
noncomputable def Mg:SF:=bM (aj 2)
noncomputable def yQ:SF:=aA GZ (aA Ma (aA Mf (aA Mg aJ)))
noncomputable def vL:GN:=fnOf 5 yQ
noncomputable def Az:XF:=vg 1 Bh (ak (aj 1) au)
noncomputable def G6:XN:=m6 5 Az
noncomputable def VL:SF:=aA (cW (gY (eN (aO 2 tY) (ak (eB aL (aj 0) (eC (.int 0))) (ak (eB aL (aj 1) (eC (.int 0))) au)))) (aA (bM (eC (.bl true))) aJ) aJ) (aA (bM (pA (eB (aZ .Eq) (eB aL (aj 0) (eC (.int 0))) (eB aL (aj 1) (eC (.int 0)))) (eB (aZ .Lt) (eB aL (aj 0) (eC (.int 1))) (eB aL (aj 1) (eC (.int 1)))))) aJ)
noncomputable def Gy:GN:=fnOf 2 VL
noncomputable def GD:SF:=bG (eC .non) (aK 2)
noncomputable def Nk:SF:=cW (iW (bW (eB (aZ .Is) (aj 2) (eC .non))) (gY (eN (aO 2 Gy) (ak (aj 3) (ak (aj 2) au))))) (aA (bG (aj 3) (aK 2)) aJ) aJ
noncomputable def za:SF:=aA Nk aJ
noncomputable def GJ:SF:=lR (fO (jy "Scene" "hits" 2 vL (aj 0) (ak (aj 1) au))) (aK 3) za
noncomputable def NP:SF:=bM (aj 2)
noncomputable def yU:SF:=aA GD (aA GJ (aA NP aJ))
noncomputable def vJ:GN:=fnOf 4 yU
noncomputable def Bb:XF:=uZ (bG (eC .non) (aK 2)) qQ (sG "Scene" "hits" 2 G6 (aj 0) (ak (aj 1) au))
noncomputable def Ba:XN:=m6 4 Bb
noncomputable def Lw:SF:=aA (bG (eN (aO 2 yN) (ak (eN (aO 2 nF) (ak (aj 0) (ak (eC (.int 0)) au))) (ak (eC (.int 77)) au))) (aK 1)) (aA (cW (bW (eB (aZ .Eq) (eB (aP .Mod) (aj 1) (eC (.int 8))) (eC (.int 5)))) (aA (bM (eC (.int 30))) aJ) aJ) (aA (bM (eB (aP .Mod) (eB (aP .FloorDiv) (aj 1) (eC (.int 8))) (eC (.int 13)))) aJ))
noncomputable def Ao:GN:=fnOf 2 Lw
noncomputable def Nh:SF:=aA (bM (eN gW (ak (gw "Scene" "kept" (aj 0)) au))) aJ
noncomputable def Bf:GN:=fnOf 1 Nh
noncomputable def Mh:SF:=bG (eC .non) (aK 2)
noncomputable def Nx:SF:=bG (eN (aO 2 J9) (ak (aj 0) (ak (eB aL (aj 1) (aj 3)) au))) (aK 4)
noncomputable def Ny:SF:=cW (pK (bW (eB (aZ .IsNot) (aj 4) (eC .non))) (iW (bW (eB (aZ .Is) (aj 2) (eC .non))) (gY (eN (aO 2 Gx) (ak (aj 4) (ak (eB aL (aj 2) (eC (.int 0))) au)))))) (aA (bG (eN cB (ak (aj 4) (ak (aj 3) au))) (aK 2)) aJ) aJ
noncomputable def GK:SF:=aA Nx (aA Ny aJ)
noncomputable def Mi:SF:=lR (mU (ak (eN gW (ak (aj 1) au)) au)) (aK 3) GK
noncomputable def Mj:SF:=bM (aj 2)
noncomputable def W9:SF:=aA Mh (aA Mi (aA Mj aJ))
noncomputable def Mz:GN:=fnOf 5 W9
noncomputable def zhY:SF:=bG (fL (mU (ak (eN (aO 1 Ao) (ak (aj 0) au)) au)) (aK 0) eZ (eN (aO 2 vD) (ak (aj 1) (ak (aj 0) au))) [none,some 0]) (aK 2)
noncomputable def zhX:SF:=bG (eN nU (ak (aj 2) au)) (aK 3)
noncomputable def zhW:SF:=bG (oX "Scene" 2 GQ (ak (aj 2) au)) (aK 7)
noncomputable def Lx:SF:=cW (iW (bW (eB (aZ .NotEq) (jy "Scene" "size" 1 Bf (aj 7) au) (eN gW (ak (aj 3) au)))) (mZ (gY (eN (aO 1 Gu) (ak (jy "Scene" "size" 1 Bf (aj 7) au) au))))) (aA (bM (eC (.bl false))) aJ) aJ
noncomputable def MN:SF:=bG (eN (aO 2 MF) (ak (aj 0) (ak (aj 1) au))) (aK 4)
noncomputable def MP:SF:=bG (eN (aO 2 Mz) (ak (aj 4) (ak (aj 3) au))) (aK 5)
noncomputable def MT:SF:=bG (jy "Scene" "first" 2 vJ (aj 7) (ak (aj 4) au)) (aK 6)
noncomputable def GR:SF:=cW (bW (eB (aZ .NotEq) (aj 6) (aj 5))) (aA (bM (eC (.bl false))) aJ) aJ
noncomputable def yV:SF:=cW (pK (bW (eB (aZ .IsNot) (aj 5) (eC .non))) (iW (mZ (gY (eN pB (ak (aj 6) (ak (eC (.ty "tuple")) au))))) (mZ (gY (eN pB (ak (eB aL (aj 6) (eC (.int 0))) (ak (eC (.ty "tuple")) au))))))) (aA (bM (eC (.bl false))) aJ) aJ
noncomputable def zf:SF:=cW (pK (bW (eB (aZ .IsNot) (aj 5) (eC .non))) (mZ (gY (eN (aO 1 Gu) (ak (eB aL (aj 6) (eC (.int 1))) au))))) (aA (bM (eC (.bl false))) aJ) aJ
noncomputable def Gz:SF:=aA MN (aA MP (aA MT (aA GR (aA yV (aA zf aJ)))))
noncomputable def zhV:SF:=lR (fO (eN lu (ak (eC (.int 40)) (ak (eC (.int 41)) (ak (eC (.int 40)) au))))) (aK 1) Gz
noncomputable def zhU:SF:=bG (eN cB (ak (eN (aO 2 yR) (ak (eN (aO 1 qO) (ak (eN (aO 2 nF) (ak (aj 0) (ak (eC (.int 2)) au))) au)) (ak (eN (aO 2 nF) (ak (aj 0) (ak (eC (.int 0)) au))) au))) (ak (eN cB (ak (eC (.int 0)) (ak (eC (.int 0)) (ak (eC (.int 0)) au)))) au))) (aK 8)
noncomputable def zhT:SF:=bM (pA (eB (aZ .Eq) (aj 2) (aj 3)) (eB (aZ .Eq) (xW [7,8] (jy "Scene" "first" 2 vJ (aj 0) (ak (aj 1) au)) (sG "Scene" "first" 2 Ba (aj 0) (ak (aj 1) au)) (qU "refused")) (eN cB (ak (eC (.str "refused")) (ak (eC (.str "NoRay")) au)))))
noncomputable def Vw:SF:=aA zhY (aA zhX (aA zhW (aA Lx (aA zhV (aA zhU (aA zhT aJ))))))
end MX.P
end
section
namespace MX
open PySem L2
def jY{p:Prop}{i:Decidable p}(h:p):@decide p i=true:=decide_eq_true h
def nj{p:Prop}{i:Decidable p}(h:¬p):@decide p i=false:=decide_eq_false h
section
variable {σ σ1:Sg}{S S1 S2:So}{x y z d:D}{xs ds:List D}{fa fb fe fo:EF}{aa:AF}
theorem bI{g:G2}{r:Option (D×So)}(h1:fa σ S=some (x,S1))(h2:fb σ S1=some (y,S2))(h3:g x y S2=r):eB g fa fb σ S=r:=by unfold eB;rw[h1];simp only[bQ];rw[h2];simp only[bQ];exact h3
def Yc{g:D->So->Option (D×So)}{r:Option (D×So)}(h1:fa σ S=some (x,S1))(h3:g x S1=r):eU g fa σ S=r:=by unfold eU;rw[h1];simp only[bQ];exact h3
def bH{g:GN}{r:Option (D×So)}(h1:aa σ S=some (ds,S1))(h2:g ds S1=r):eN g aa σ S=r:=by unfold eN;rw[h1];simp only[bQ];exact h2
def aM{fr:AF}(h1:fa σ S=some (x,S1))(h2:fr σ S1=some (xs,S2)):ak fa fr σ S=some (x::xs,S2):=by unfold ak;rw[h1];simp only[bQ];rw[h2];rfl
def bA:au σ S=some ([],S):=rfl
def bC:eC d σ S=some (d,S):=rfl
def aC{i:Nat}(h:σ[i]?=some (some d)):aj i σ S=some (d,S):=by unfold aj;rw[h]
def cV{n:Nat}{φ:GN}{r:Option (D×So)}(h1:ds.length=n)(h2:φ ds S=r):aO n φ ds S=r:=by unfold aO;rw[if_pos h1];exact h2
noncomputable def pF{α:Type}(b:Bool)(x y:α):α:=if b=true then x else y
def gm{α:Type}{b:Bool}{x y r:α}(h:b=true)(hx:x=r):pF b x y=r:=by unfold pF;rw[if_pos h];exact hx
def eH{α:Type}{b:Bool}{x y r:α}(h:b=false)(hx:y=r):pF b x y=r:=by unfold pF;rw[if_neg (by rw[h];exact fB)];exact hx
theorem zY{t:TF}{b:Bool}{r:Option (D×So)}(h1:t σ S=some (b,S1))(h2:pF b (fa σ S1) (fb σ S1)=r):uJ t fa fb σ S=r:=by unfold uJ;rw[h1];simp only[bQ];exact h2
def zpn{b:Bool}(h1:fa σ S=some (.bl b,S1)):mJ fa σ S=some (.bl (!b),S1):=by unfold mJ;rw[h1];rfl
theorem JZ{b:Bool}{r:Option (D×So)}(h1:fa σ S=some (.bl b,S1))(h2:pF b (fb σ S1) (some (.bl false,S1))=r):pA fa fb σ S=r:=by unfold pA;rw[h1];simp only[bQ];cases b<;>exact h2
theorem Jm{b:Bool}{r:Option (D×So)}(h1:fa σ S=some (.bl b,S1))(h2:pF b (some (.bl true,S1)) (fb σ S1)=r):zy fa fb σ S=r:=by unfold zy;rw[h1];simp only[bQ];cases b<;>exact h2
def eG{b:Bool}(h1:fa σ S=some (.bl b,S1)):bW fa σ S=some (b,S1):=by unfold bW;rw[h1];rfl
def tQ{b:Bool}(h1:fa σ S=some (x,S1))(h2:qT x S1=some b):gY fa σ S=some (b,S1):=by unfold gY;rw[h1];simp only[bQ];rw[h2];rfl
def Ac{t:TF}{b:Bool}(h1:t σ S=some (b,S1)):mZ t σ S=some (!b,S1):=by unfold mZ;rw[h1];rfl
theorem tO{t u:TF}{b:Bool}{r:Option (Bool×So)}(h1:t σ S=some (b,S1))(h2:pF b (u σ S1) (some (false,S1))=r):pK t u σ S=r:=by unfold pK;rw[h1];simp only[bQ];exact h2
theorem pN{t u:TF}{b:Bool}{r:Option (Bool×So)}(h1:t σ S=some (b,S1))(h2:pF b (some (true,S1)) (u σ S1)=r):iW t u σ S=r:=by unfold iW;rw[h1];simp only[bQ];exact h2
def yx:eZ σ S=some (true,S):=rfl
noncomputable abbrev SR:=Option (Fl×Sg×So)
noncomputable def qY(fl:Fl)(g:SF)(σ:Sg)(S:So):SR:=match fl with
 |.nx=>g σ S
 |fl=>some (fl,σ,S)
def aV{g:SF}{r:SR}(h:g σ S=r):qY .nx g σ S=r:=h
def d7{g:SF}:qY (.rt z) g σ S=some (.rt z,σ,S):=rfl
def JN{g:SF}:qY .ct g σ S=some (.ct,σ,S):=rfl
def aH{f g:SF}{fl:Fl}{r:SR}(h1:f σ S=some (fl,σ1,S1))(h2:qY fl g σ1 S1=r):aA f g σ S=r:=by unfold aA;rw[h1];simp only[bQ];cases fl<;>exact h2
def dR:aJ σ S=some (.nx,σ,S):=rfl
def RW:oG σ S=some (.ct,σ,S):=rfl
def fZ(h:fe σ S=some (x,S1)):bM fe σ S=some (.rt x,σ,S1):=by unfold bM;rw[h];rfl
def tV(h:fe σ S=some (x,S1)):lB fe σ S=some (.nx,σ,S1):=by unfold lB;rw[h];rfl
def dI{g:GF}(h1:fe σ S=some (x,S1))(h2:g x σ S1=some (σ1,S2)):bG fe g σ S=some (.nx,σ1,S2):=by unfold bG;rw[h1];simp only[bQ];rw[h2];rfl
def eF{t:TF}{f g:SF}{b:Bool}{r:SR}(h1:t σ S=some (b,S1))(h2:pF b (f σ S1) (g σ S1)=r):cW t f g σ S=r:=by unfold cW;rw[h1];simp only[bQ];exact h2
def di{i:Nat}(h:σ.set i (some d)=σ1):aK i d σ S=some (σ1,S):=by unfold aK;rw[h]
def Q8{n:Nat}{fr:nJ}{r:Option (Sg×So)}(h1:ds.length=n)(h2:fr ds σ S=r):lJ n fr (.tup ds) σ S=r:=by unfold lJ;simp only;rw[if_pos h1];exact h2
def Uv:mX [] σ S=some (σ,S):=rfl
def KC{f:GF}{fr:nJ}{r:Option (Sg×So)}(h1:f d σ S=some (σ1,S1))(h2:fr ds σ1 S1=r):gA f fr (d::ds) σ S=r:=by unfold gA;simp only;rw[h1];exact h2
def Jl{i j:Int}:aP .Add (.int i) (.int j) S=some (.int (i+j),S):=rfl
theorem zpq{n m:Nat}{xs ys:List D}(h1:S[n]?=some (.lst xs))(h2:S[m]?=some (.lst ys))(h:xs.length+ys.length<=sizeLine):aP .Add (.ref n) (.ref m) S=some (.ref S.length,S++[.lst (xs++ys)]):=by unfold aP oV;simp only;rw[h1,h2];simp only;rw[if_pos h]
theorem zpp{xs ys:List D}(h0:xs≠[])(h:xs.length+ys.length<=sizeLine):aP .Add (.tup xs) (.tup ys) S=some (.tup (xs++ys),S):=by unfold aP oV;simp only;rw[if_pos ⟨h0,h⟩]
def Ym{i j:Int}:aP .Sub (.int i) (.int j) S=some (.int (i - j),S):=rfl
def Ra{i j:Int}(h:cO i j=true):aP .Mult (.int i) (.int j) S=some (.int (i*j),S):=by unfold aP rF;simp only;rw[if_pos h]
def qJ{i j:Int}(h:eX j=true):aP .FloorDiv (.int i) (.int j) S=some (.int (i.fdiv j),S):=by unfold aP rJ;simp only;rw[if_pos h]
def yr{i j:Int}(h:j≠0):aP .Mod (.int i) (.int j) S=some (.int (i.fmod j),S):=by unfold aP rG;simp only;rw[if_pos h]
def QM{i j:Int}:aZ .Lt (.int i) (.int j) S=some (.bl (decide (i<j)),S):=rfl
def Ye{i j:Int}:aZ .LtE (.int i) (.int j) S=some (.bl (decide (i<=j)),S):=rfl
def QL{i j:Int}:aZ .Gt (.int i) (.int j) S=some (.bl (decide (j<i)),S):=rfl
def Yd{i j:Int}:aZ .GtE (.int i) (.int j) S=some (.bl (decide (j<=i)),S):=rfl
def EY{i j:Int}:aZ .Eq (.int i) (.int j) S=some (.bl (decide (i=j)),S):=rfl
def QR{i j:Int}:aZ .NotEq (.int i) (.int j) S=some (.bl (!decide (i=j)),S):=rfl
def pM:aZ .Is x .non S=some (.bl (nW x),S):=by cases x<;>rfl
def pP:aZ .IsNot x .non S=some (.bl (!nW x),S):=by cases x<;>rfl
def Yk{i:Int}:u9 (.int i) S=some (.int (-i),S):=rfl
def iZ{i:Int}(h:gq xs i=some z):aL (.tup xs) (.int i) S=some (z,S):=by unfold aL;simp only;rw[h];rfl
def yo{n:Nat}{i:Int}(h1:S[n]?=some (.lst xs))(h:gq xs i=some z):aL (.ref n) (.int i) S=some (z,S):=by unfold aL;simp only;rw[h1];simp only;rw[h];rfl
def Q9{n:Nat}{i:Int}(h1:S[n]?=some (.frz xs))(h:gq xs i=some z):aL (.ref n) (.int i) S=some (z,S):=by unfold aL;simp only;rw[h1];simp only;rw[h];rfl
def lC(h:ds.length<=sizeLine):cB ds S=some (.tup ds,S):=by unfold cB;rw[if_pos h]
def yq(h:ds.length<=sizeLine):lu ds S=some (.ref S.length,S++[.lst ds]):=by unfold lu;rw[if_pos h]
def zpl:gW [.tup xs] S=some (.int xs.length,S):=rfl
def nq{n:Nat}(h1:S[n]?=some (.lst xs)):gW [.ref n] S=some (.int xs.length,S):=by unfold gW;simp only;rw[h1]
def J6{n:Nat}(h1:S[n]?=some (.frz xs)):gW [.ref n] S=some (.int xs.length,S):=by unfold gW;simp only;rw[h1]
def Vf{n:Nat}(h1:S[n]?=some (.lst xs)):qy [.ref n] S=some (.tup xs,S):=by unfold qy;simp only;rw[h1]
def Kg{n:Nat}(h1:S[n]?=some (.lst xs)):nU [.ref n] S=some (.ref S.length,S++[.lst xs]):=by unfold nU;simp only;rw[h1]
def Ux:nU [.tup xs] S=some (.ref S.length,S++[.lst xs]):=rfl
def zpk{i j:Int}:lz [.int i,.int j] S=some (.int (if j>i then j else i),S):=rfl
def Q5{i:Int}:sS [.int i] S=some (.int (if i<0 then -i else i),S):=rfl
theorem J7{n:Nat}{ns:List Int}{m:Int}(h1:S[n]?=some (.lst (ns.map .int)))(h:je ns=some m):qC [.ref n] S=some (.int m,S):=by unfold qC rH;simp only;rw[h1];simp only;rw[Vi];simp only[bQ];rw[h];rfl
theorem RV{n:Nat}{ns:List Int}{m:Int}(h1:S[n]?=some (.lst (ns.map .int)))(h:iV ns=some m):lz [.ref n] S=some (.int m,S):=by unfold lz oU;simp only;rw[h1];simp only;rw[Vi];simp only[bQ];rw[h];rfl
theorem zpo{n:Nat}{bs:List Bool}(h1:S[n]?=some (.lst xs))(h2:zK xs=some bs):mF [.ref n] S=some (.bl (bs.all id),S):=by unfold mF;simp only;rw[h1];simp only;rw[h2];rfl
theorem TY{n:Nat}{ns:List Int}{m:Int}(h1:S[n]?=some (.lst xs))(h2:mY xs=some ns)(h:iV ns=some m):lz [.ref n] S=some (.int m,S):=by unfold lz oU;simp only;rw[h1];simp only;rw[h2];simp only[bQ];rw[h];rfl
def zmF{i j:Int}:qC [.tup [.int i,.int j]] S=some (.int (if j<i then j else i),S):=rfl
def zmG{i j:Int}:lz [.tup [.int i,.int j]] S=some (.int (if j>i then j else i),S):=rfl
theorem Vd{n:Nat}(h1:S[n]?=some (.lst xs))(h:xs.length<sizeLine){S3:So}(h3:S.set n (.lst (xs++[d]))=S3):vh (.ref n) [d] S=some (.non,S3):=by unfold vh;simp only;rw[h1];simp only;rw[if_pos h,h3]
theorem Ez{g:GM}{n:Nat}{r:Option (D×So)}(h1:fo σ S=some (.ref n,S1))(h2:S1[n]?=some (.lst xs))(h3:aa σ S1=some (ds,S2))(h4:g (.ref n) ds S2=r):eM g fo aa σ S=r:=by unfold eM;rw[h1];simp only[bQ];rw[h2];simp only;rw[h3];exact h4
theorem zZ{fl fh:PF}{l h:Option Int}{S3:So}{r:Option (D×So)}(h1:fe σ S=some (x,S1))(h2:fl σ S1=some (l,S2))(h3:fh σ S2=some (h,S3))(h4:uH x l h S3=r):jP fe fl fh σ S=r:=by unfold jP;rw[h1];simp only[bQ];rw[h2];simp only[bQ];rw[h3];exact h4
def FQ:lA σ S=some (none,S):=rfl
def FT{i:Int}(h:fe σ S=some (.int i,S1)):jH fe σ S=some (some i,S1):=by unfold jH;rw[h];rfl
theorem Jr{l h:Option Int}{ys:List D}(hc:¬(HT.sIx xs.length 0 l=0/\HT.sIx xs.length xs.length h=xs.length))(e:jx xs l h=ys):uH (.tup xs) l h S=some (.tup ys,S):=by unfold uH;simp only;rw[if_pos hc,e]
theorem Jo{n:Nat}{l h:Option Int}{ys:List D}(h1:S[n]?=some (.lst xs))(e:jx xs l h=ys):uH (.ref n) l h S=some (.ref S.length,S++[.lst ys]):=by unfold uH;simp only;rw[h1];simp only;rw[e]
theorem FP:jx (x::xs) (some 1) none=xs:=by
 unfold jx;have h1:HT.sIx (x::xs).length 0 (some 1)=1:=by
  unfold HT.sIx;simp
  try omega
 have h2:HT.sIx (x::xs).length (x::xs).length none=(x::xs).length:=rfl;rw[h1,h2];simp
theorem Us:jx (x::xs) none (some 1)=[x]:=by
 unfold jx;have h1:HT.sIx (x::xs).length (x::xs).length (some 1)=1:=by
  unfold HT.sIx;simp
  try omega
 have h2:HT.sIx (x::xs).length 0 none=0:=rfl;rw[h1,h2];simp
theorem J5{j:Int}(h1:aa σ S=some ([.int j],S1))(hb : -(2 ^ 62)<=j/\j<2 ^ 62):mU aa σ S=some (.fix (gR 0 j.toNat),S1):=by unfold mU;rw[h1];simp only[bQ];rw[if_pos hb]
def Uw(h1:fe σ S=some (.tup xs,S1)):fO fe σ S=some (.fix xs,S1):=by unfold fO;rw[h1];rfl
def qL{n:Nat}(h1:fe σ S=some (.ref n,S1))(h2:S1[n]?=some (.lst xs)):fO fe σ S=some (.lst n,S1):=by unfold fO;rw[h1];simp only[bQ];rw[h2]
theorem zpm{xss:List (List D)}(h1:aa σ S=some (ds,S1))(h2:2<=ds.length/\ds.length<=4)(h3:pJ S1 ds=some xss):qp aa σ S=some (.zip ds,S1):=by unfold qp;rw[h1];simp only[bQ];rw[if_pos h2,h3];rfl
theorem vq{fi:IF}{g:GF}{t:TF}{src:List (Option Nat)}{j:zF}{n:Nat}{ys:List D}(h1:fi σ S=some (j,S1))(h2:u6 j S1=some n)(hn:n<=sizeLine)(hτ:nR src σ=σ1)(h3:jl (dj j) g t fe n 0 σ1 S1 []=some (ys,S2)):fL fi g t fe src σ S=some (.ref S2.length,S2++[.lst ys]):=by subst hτ;unfold fL Hj;rw[h1];simp only[bQ];rw[h2];simp only[bQ];rw[if_pos hn,h3];rfl
def Fo{nx:Nat->So->Option (Option D)}{g:GF}{t:TF}{i:Nat}{acc:List D}(h:nx i S=some none):jl nx g t fe 0 i σ S acc=some (acc,S):=by unfold jl;rw[h]
theorem yp{nx:Nat->So->Option (Option D)}{g:GF}{t:TF}{k i:Nat}{acc acc':List D}{r:Option (List D×So)}{S3:So}(h:nx i S=some (some d))(h1:g d σ S=some (σ1,S1))(h2:t σ1 S1=some (true,S2))(h3:fe σ1 S2=some (x,S3))(ha:acc++[x]=acc')(h4:jl nx g t fe k (i+1) σ1 S3 acc'=r):jl nx g t fe (k+1) i σ S acc=r:=by unfold jl;rw[h];simp only;rw[h1];simp only[bQ];rw[h2];simp only[bQ,if_true];rw[h3];rw[<-ha] at h4;exact h4
theorem zdt{fi:IF}{g:GF}{f:SF}{j:zF}{n:Nat}{r:SR}(h1:fi σ S=some (j,S1))(h2:u6 j S1=some n)(h3:jo (dj j) g f n 0 σ S1=r):lR fi g f σ S=r:=by unfold lR;rw[h1];simp only[bQ];rw[h2];exact h3
def J4{nx:Nat->So->Option (Option D)}{g:GF}{f:SF}{i:Nat}(h:nx i S=some none):jo nx g f 0 i σ S=some (.nx,σ,S):=by unfold jo;rw[h]
noncomputable def wV(fl:Fl)(nx:Nat->So->Option (Option D))(g:GF)(f:SF)(k i:Nat)(σ:Sg)(S:So):SR:=match fl with
 |.nx=>jo nx g f k i σ S
 |.ct=>jo nx g f k i σ S
 |.bk=>some (.nx,σ,S)
 |.rt d=>some (.rt d,σ,S)
theorem lY{nx:Nat->So->Option (Option D)}{g:GF}{f:SF}{k i:Nat}{fl:Fl}{σ2:Sg}{r:SR}(h:nx i S=some (some d))(h1:g d σ S=some (σ1,S1))(h2:f σ1 S1=some (fl,σ2,S2))(h3:wV fl nx g f k (i+1) σ2 S2=r):jo nx g f (k+1) i σ S=r:=by unfold jo;rw[h];simp only;rw[h1];simp only[bQ];rw[h2];simp only[bQ];cases fl<;>exact h3
def Fq{nx:Nat->So->Option (Option D)}{g:GF}{f:SF}{k i:Nat}{r:SR}(h:jo nx g f k i σ S=r):wV .nx nx g f k i σ S=r:=h
def Ft{nx:Nat->So->Option (Option D)}{g:GF}{f:SF}{k i:Nat}:wV (.rt z) nx g f k i σ S=some (.rt z,σ,S):=rfl
def zq8{i:Nat}(h:xs[i]?=some d):dj (.fix xs) i S=some (some d):=by show some xs[i]?=_;rw[h]
def vz{n i:Nat}(h1:S[n]?=some (.lst xs))(h:xs[i]?=some d):dj (.lst n) i S=some (some d):=by unfold dj;simp only;rw[h1];simp only;rw[h]
def Yi{n i:Nat}{lo:Int}{z:Int}(h:i<n)(hz:lo+(i:Nat)=z):dj (.fix (gR lo n)) i S=some (some (.int z)):=by unfold dj;simp only;rw[LR,if_pos h,hz]
def cM{o:O}:(S++[o])[S.length]?=some o:=by simp
def fK{o p:O}{n:Nat}(h:S[n]?=some o):(S++[p])[n]?=some o:=by rw[mR (eV.mp h).1];exact h
end
noncomputable def eO:Nat->D->Bool
 |_,.non=>true
 |_,.int _=>true
 |_,.str x=>PyData.strOk x
 |n+1,.tup xs=>xs.all (eO n)
 |_,_=>false
noncomputable def kh:Nat->D->PyData
 |_,.int i => .int i
 |_,.str x => .str x
 |n+1,.tup xs => .tuple (xs.map (kh n))
 |_,_ => .none
theorem Fy{f:D->Option PyData}{g:D->PyData}:∀{xs:List D},(∀d∈xs,f d=some (g d))->mV f xs=some (xs.map g)
 |[],_=>rfl
 |d::r,h=>by unfold mV;rw[h d fX,Fy (xs:=r) λe he=>h e (cG _ he)];rfl
theorem Ae{S:So}:∀{n:Nat} {d:D},eO n d=true->dW S (n+1) d=some (kh n d)
 |n,.obj _ _ _,h=>by cases n<;>cases h
 |n,.non,_=>by simp[dW];cases n<;>rfl
 |n,.int i,_=>by simp[dW];cases n<;>rfl
 |n,.str x,_=>by simp[dW];cases n<;>rfl
 |n+1,.tup xs,h=>by unfold eO at h;rw[List.all_eq_true] at h;unfold dW;rw[Fy λd hd=>Ae (h d hd)];rfl
 |0,.tup xs,h=>by simp[eO] at h
 |_,.bl _,h=>by simp[eO] at h
 |_,.ref _,h=>by simp[eO] at h
 |_,.ty _,h=>by simp[eO] at h
 |_,.adr _,h=>by simp[eO] at h
theorem Al{S:So}:∀{n m:Nat} {d:D} {p:PyData},dW S n d=some p->n<=m->dW S m d=some p
 |0,_,_,_,h,_=>by simp[dW] at h
 |n+1,0,_,_,_,hm=>by omega
 |n+1,m+1,d,p,h,hm=>by
  have aux:∀{xs:List D} {ps:List PyData},mV (dW S n) xs=some ps->mV (dW S m) xs=some ps:=λ{xs}=>by
   induction xs with
   |nil=>intro ps e;exact e
   |cons x r ih =>
    intro ps e;simp only[mV,aW,aR] at e ⊢;obtain⟨q,e1,qs,e2,e3⟩:=e;exact⟨q,Al e1 (by omega),qs,ih e2,e3⟩
  cases d with
  |tup xs =>
   simp only[dW,aR] at h ⊢;obtain⟨ps,e1,e2⟩:=h;exact⟨ps,aux e1,e2⟩
  |ref k =>
   simp only[dW] at h ⊢;split at h
   .rename_i q;simp only[aR] at h ⊢;obtain⟨ps,e1,e2⟩:=h;exact⟨ps,aux e1,e2⟩
   .rename_i q;simp only[aR] at h ⊢;obtain⟨ps,e1,e2⟩:=h;exact⟨ps,aux e1,e2⟩
   .cases h
  |non=>simpa[dW] using h
  |bl b=>simpa[dW] using h
  |int i=>simpa[dW] using h
  |str x=>simpa[dW] using h
  |obj _ _ _=>simp[dW] at h
  |ty x=>simp[dW] at h
  |adr x=>simp[dW] at h
theorem Qt{ps:List PyData}(h:∀p∈ps,PyData.canLay0 p=true):PyData.canLayAll0 ps=true:=by
 induction ps with
 |nil=>rfl
 |cons p r ih=>unfold PyData.canLayAll0;rw[h p fX,ih λq hq=>h q (cG _ hq)];rfl
theorem Qv{ps:List PyData}{n:Nat}(h:∀p∈ps,PyData.depth p<=n):PyData.depthAll ps<=n:=by
 induction ps with
 |nil=>exact Nat.zero_le _
 |cons p r ih=>unfold PyData.depthAll;exact Nat.max_le.mpr ⟨h p fX,ih λq hq=>h q (cG _ hq)⟩
theorem z8:∀{n:Nat} {d:D},eO n d=true->PyData.canLay0 (kh n d)=true/\PyData.depth (kh n d)<=n
 |n,.obj _ _ _,h=>by cases n<;>cases h
 |n,.non,_=>by cases n<;>exact⟨rfl,Nat.zero_le _⟩
 |n,.int i,_=>by cases n<;>exact⟨rfl,Nat.zero_le _⟩
 |n,.str x,h=>by
  have h':PyData.strOk x=true:=by cases n<;>simpa[eO] using h
  cases n<;>exact⟨h',Nat.zero_le _⟩
 |n+1,.tup xs,h=>by
  unfold eO at h;rw[List.all_eq_true] at h;constructor
  .show PyData.canLayAll0 (xs.map (kh n))=true;refine Qt λp hp=>?_;obtain⟨d,hd,rfl⟩:=List.mem_map.mp hp;exact(z8 (h d hd)).1
  .show PyData.depthAll (xs.map (kh n))+1<=n+1;refine Nat.succ_le_succ (Qv λp hp=>?_);obtain⟨d,hd,rfl⟩:=List.mem_map.mp hp;exact(z8 (h d hd)).2
 |0,.tup xs,h=>by simp[eO] at h
 |_,.bl _,h=>by simp[eO] at h
 |_,.ref _,h=>by simp[eO] at h
 |_,.ty _,h=>by simp[eO] at h
 |_,.adr _,h=>by simp[eO] at h
theorem Wd{n:Nat}{d:D}(h:eO n d=true)(hn:n<=64):SeqAt.shaped (kh n d)=true:=by unfold SeqAt.shaped;obtain⟨a,b⟩:=z8 h;rw[a,Bool.true_and];exact decide_eq_true (by omega)
theorem RQ{f:D->PyData}{xs:List D}:∀{ys:List D},(∀x∈xs,∀y∈ys,(PyData.eqv (f x) (f y)=true↔x=y))->(PyData.eqvAll (xs.map f) (ys.map f)=true↔xs=ys):=by
 induction xs with
 |nil=>intro ys h;cases ys<;>simp[PyData.eqvAll]
 |cons x r ih =>
  intro ys h;cases ys with
  |nil=>simp[PyData.eqvAll]
  |cons y s =>
   simp only[iU,PyData.eqvAll,cL,List.cons.injEq];rw[h x fX y fX,ih λa ha b hb=>h a (cG _ ha) b (cG _ hb)]
theorem RT:∀{n:Nat} {x y:D},eO n x=true->eO n y=true->(PyData.eqv (kh n x) (kh n y)=true↔x=y):=by
 intro n
 induction n with
 |zero =>
  intro x y hx hy;cases x<;>cases y<;>simp_all [eO,kh,PyData.eqv]
 |succ n ih =>
  intro x y hx hy;cases x<;>cases y<;>simp_all [eO,kh,PyData.eqv];exact RQ λa ha b hb=>ih (hx a ha) (hy b hb)
open Classical in
theorem RP{S:So}{x y:D}(n:Nat)(hx:eO n x=true)(hy:eO n y=true)(hn:n<=23:=by decide):mH S x y=some (decide (x=y)):=by unfold mH;rw[Al (Ae hx) (by omega),Al (Ae hy) (by omega)];simp only[bQ];rw[if_pos ⟨Wd hx (by omega),Wd hy (by omega)⟩];congr 1;rw[Bool.eq_iff_iff,RT hx hy,su]
open Classical in
theorem zpr{S:So}{n m:Nat}{xs ys:List D}(k:Nat)(h1:S[n]?=some (.lst xs)\/S[n]?=some (.frz xs))(h2:S[m]?=some (.lst ys)\/S[m]?=some (.frz ys))(hx:∀x∈xs,eO k x=true)(hy:∀y∈ys,eO k y=true)(hk:k<=20:=by decide):
 mH S (.ref n) (.ref m)=some (decide (xs=ys)):=by
 have e1:dW S (k+2) (.ref n)=some (.list (xs.map (kh k))):=by unfold dW;rcases h1 with h1|h1<;>(rw[h1];simp only;rw[Fy λd hd=>Ae (hx d hd)];rfl)
 have e2:dW S (k+2) (.ref m)=some (.list (ys.map (kh k))):=by unfold dW;rcases h2 with h2|h2<;>(rw[h2];simp only;rw[Fy λd hd=>Ae (hy d hd)];rfl)
 have sh:∀zs:List D,(∀z∈zs,eO k z=true)->SeqAt.shaped (.list (zs.map (kh k)))=true:=λzs hz=>by
  unfold SeqAt.shaped;rw[cL];constructor
  .show PyData.canLayAll0 _=true;refine Qt λp hp=>?_;obtain⟨d,hd,rfl⟩:=List.mem_map.mp hp;exact(z8 (hz d hd)).1
  .refine decide_eq_true ?_;show PyData.depthAll _+1<=64;have:PyData.depthAll (zs.map (kh k))<=k:=Qv λp hp=>by obtain⟨d,hd,rfl⟩:=List.mem_map.mp hp;exact(z8 (hz d hd)).2
   omega
 unfold mH;rw[Al e1 (by omega),Al e2 (by omega)];simp only[bQ];rw[if_pos ⟨sh xs hx,sh ys hy⟩];congr 1;rw[Bool.eq_iff_iff,su];show PyData.eqvAll _ _=true↔_;exact RQ λa ha b hb=>RT (hx a ha) (hy b hb)
section
variable {S:So}{x y:D}
noncomputable def CK:D->D->Bool
 |.int _,.int _=>false
 |_,_=>true
open Classical in
theorem vy(h:CK x y=true)(n:Nat)(hx:eO n x=true)(hy:eO n y=true)(hn:n<=23):aZ .Eq x y S=some (.bl (decide (x=y)),S):=by
 have e:aZ .Eq x y S=(mH S x y).map λb=>(.bl b,S):=by cases x<;>cases y<;>first|rfl|cases h
 rw[e,RP n hx hy hn];rfl
open Classical in
theorem Rb(h:CK x y=true)(n:Nat)(hx:eO n x=true)(hy:eO n y=true)(hn:n<=23):aZ .NotEq x y S=some (.bl (!decide (x=y)),S):=by
 have e:aZ .NotEq x y S=(mH S x y).map λb=>(.bl (!b),S):=by cases x<;>cases y<;>first|rfl|cases h
 rw[e,RP n hx hy hn];rfl
open Classical in
theorem Q7{n m:Nat}{xs ys:List D}(k:Nat)(h1:S[n]?=some (.lst xs)\/S[n]?=some (.frz xs))(h2:S[m]?=some (.lst ys)\/S[m]?=some (.frz ys))(hx:∀x∈xs,eO k x=true)(hy:∀y∈ys,eO k y=true)(hk:k<=20):
 aZ .Eq (.ref n) (.ref m) S=some (.bl (decide (xs=ys)),S):=by
 show(mH S (.ref n) (.ref m)).map _=_;rw[zpr k h1 h2 hx hy hk];rfl
end
end MX
end
section
namespace MX
open PySem L2
open Builtin.Int (intBits)
def Bd(k:Nat)(x:Int):Prop:=x.natAbs<2 ^ k
def Bd.le{k l:Nat}{x:Int}(h:Bd k x)(hl:k<=l):Bd l x:=dg h (Nat.pow_le_pow_right (by decide) hl)
theorem Bd.add{k l:Nat}{x y:Int}(h:Bd k x)(g:Bd l y):Bd (max k l+1) (x+y):=by
 have h1:=h.le (Nat.le_max_left k l);have h2:=g.le (Nat.le_max_right k l);unfold Bd at *
 rw[Nat.pow_succ];have:=Int.natAbs_add_le x y;omega
def Bd.neg{k:Nat}{x:Int}(h:Bd k x):Bd k (-x):=by unfold Bd at *;rw[Int.natAbs_neg];exact h
def Bd.sub{k l:Nat}{x y:Int}(h:Bd k x)(g:Bd l y):Bd (max k l+1) (x - y):=by rw[Int.sub_eq_add_neg];exact h.add g.neg
def Bd.mul{k l:Nat}{x y:Int}(h:Bd k x)(g:Bd l y):Bd (k+l) (x*y):=by
 unfold Bd at *
 rw[Int.natAbs_mul,Nat.pow_add];exact Nat.mul_lt_mul'' h g
def Bd.lit(x:Int):Bd (intBits x) x:=by
 unfold Bd intBits;split
 .rename_i h;have:x=0:=by simpa using h
  subst this;decide
 .exact Nat.lt_log2_self
def Bd.fmod{m x:Int}(h:0<m):Bd (intBits m) (x.fmod m):=by
 have h1:=qg x h;have h2:=rZ x h;have h3:=Bd.lit m;unfold Bd at *
 omega
theorem Yl{i j:Int}{S:So}(h:0<=j/\j<=1000000/\i.natAbs<2 ^ 64):aP .LShift (.int i) (.int j) S=some (.int (i*2 ^ j.toNat),S):=by unfold aP rC;simp only;rw[if_pos h]
theorem Bd.bits{k:Nat}{x:Int}(h:Bd k x):intBits x<=k:=by
 unfold Bd at h;unfold intBits;split
 .exact Nat.zero_le _
 .rename_i hn;have hx:x.natAbs≠0:=λe=>hn (by have:=Int.natAbs_eq_zero.mp e;subst this;rfl);exact(Nat.log2_lt hx).mpr h
theorem Ai{k l:Nat}{x y:Int}(h:Bd k x)(g:Bd l y)(hl:k+l<=134217728):cO x y=true:=by unfold cO;have h1:=h.bits;have h2:=g.bits;rw[o8];exact .inr (decide_eq_true (by omega))
def RZ{x y:Int}(h:intBits y<=64):cO x y=true:=by unfold cO;rw[o8,o8];exact .inl (.inr (decide_eq_true h))
theorem Uu{k:Nat}{y:Int}(h:Bd k y)(h0:y≠0)(hl:k<=8000):eX y=true:=by unfold eX;have:=h.bits;rw[cL];exact⟨decide_eq_true h0,decide_eq_true (by omega)⟩
noncomputable abbrev P3(x y z:Int):D := .tup [.int x,.int y,.int z]
noncomputable abbrev R2(x y:Int):D := .tup [.int x,.int y]
end MX
namespace MX
open PySem L2
theorem D.lo_mono:∀{d:D} {n m:Nat},n<=m->D.lo n d=true->D.lo m d=true:=by
 have key:∀(k:Nat) (d:D) (n m:Nat),sizeOf d<=k->n<=m->D.lo n d=true->D.lo m d=true:=by
  intro k
  induction k with
  |zero=>intro d n m hk;cases d<;>simp at hk
  |succ k ih =>
   intro d n m hk hm h;cases d with
   |tup xs =>
    rw[D.lo] at h ⊢;have aux:∀ys:List D,sizeOf ys<=k->cI n ys=true->cI m ys=true:=by
     intro ys
     induction ys with
     |nil=>intro _ _;simp[cI]
     |cons y r ihr =>
      intro hs hl;rw[cI,cL] at hl ⊢;simp at hs;exact⟨ih y n m (by omega) hm hl.1,ihr (by omega) hl.2⟩
    exact aux xs (by simp at hk;omega) h
   |obj _ _ xs =>
    rw[D.lo] at h ⊢;have aux:∀ys:List D,sizeOf ys<=k->cI n ys=true->cI m ys=true:=by
     intro ys
     induction ys with
     |nil=>intro _ _;simp[cI]
     |cons y r ihr =>
      intro hs hl;rw[cI,cL] at hl ⊢;simp at hs;exact⟨ih y n m (by omega) hm hl.1,ihr (by omega) hl.2⟩
    exact aux xs (by simp at hk;omega) h
   |ref j=>rw[D.lo] at h ⊢;exact decide_eq_true (dg (of_decide_eq_true h) hm)
   |_=>simp[D.lo]
 exact λ{d n m} hm h=>key (sizeOf d) d n m (bZ _) hm h
def lF{n:Nat}:∀{xs:List D},cI n xs=true↔∀x∈xs,D.lo n x=true
 |[]=>by simp[cI]
 |x::r=>by rw[cI,cL,lF (xs:=r)];simp
def Ko{n m:Nat}{xs:List D}(hm:n<=m)(h:cI n xs=true):cI m xs=true:=lF.mpr λx hx=>D.lo_mono hm (lF.mp h x hx)
theorem O.lo_mono{n m:Nat}{o:O}(hm:n<=m)(h:O.lo n o=true):O.lo m o=true:=by
 cases o with
 |lst xs=>exact Ko hm h
 |frz xs=>exact Ko hm h
 |ins C fs=>exact Ko hm h
 |dct xs=>rfl
 |tbl x=>rfl
theorem WF.snoc{S:So}{o:O}(h:WF S)(ho:O.lo S.length o=true):WF (S++[o]):=λp hp=>by
 rw[jQ,List.length_singleton];rcases lO.mp hp with hp|hp
 .exact O.lo_mono (Nat.le_succ _) (h p hp)
 .rw[List.mem_singleton.mp hp];exact O.lo_mono (Nat.le_succ _) ho
def JD(n:Nat)(ns:List Int):O.lo n (.lst (ns.map .int))=true:=lF.mpr λx hx=>by obtain⟨i,_,rfl⟩:=List.mem_map.mp hx;simp[D.lo]
end MX
namespace MX.P
open PySem L2 MX
noncomputable abbrev Pt:=Int×Int×Int
noncomputable abbrev pD(p:Pt):D:=P3 p.1 p.2.1 p.2.2
def lo_pts(n:Nat)(pts:List Pt):O.lo n (.lst (pts.map pD))=true:=lF.mpr λx hx=>by obtain⟨i,_,rfl⟩:=List.mem_map.mp hx;simp[D.lo,cI]
theorem YH{fe:EF}{S:So}{m:Nat}{rest:Sg}(h:Nat->D)(hstep:∀k:Nat,k<m->fe (some (.int (k:Nat))::rest) S=some (h k,S)):
 jl (dj (.fix (gR 0 m))) (aK 0) eZ fe m 0 (none::rest) S []=some ((List.range m).map h,S):=by
 have hl:(gR 0 m).length=m:=by simp[gR]
 have:=FW (nx:=dj (.fix (gR 0 m))) (g:=aK 0) (t:=eZ) (fe:=fe) (S:=S) (xs:=gR 0 m) (λτ=>∃v,τ=v::rest) (λ_=>true) (λd=>match d with|.int i=>h i.toNat|_ => .non)
  (λi=>rfl) (λd hd τ hT=>?_) m 0 (none::rest) [] ⟨none,rfl⟩ (by rw[hl];omega)
 .rw[this,uX,List.drop_zero,List.filter_eq_self.mpr (λ_ _=>rfl)];congr 2;unfold gR;rw[List.map_map];refine List.map_congr_left λk _=>?_;show h ((0:Int)+(k:Nat)).toNat=h k;congr 1;omega
 .obtain⟨v,rfl⟩:=hT;unfold gR at hd;obtain⟨k,hk,rfl⟩:=List.mem_map.mp hd;refine⟨some (.int ((0:Int)+(k:Nat)))::rest,rfl,⟨_,rfl⟩,rfl,λ_=>?_⟩;have e:((0:Int)+(k:Nat))=(k:Nat):=by omega
  rw[e,hstep k (List.mem_range.mp hk)];congr
end MX.P
end
open MX
local macro_rules | `(tactic| wtm_at "?p") => `(tactic| first | rfl | assumption | exact jY (by first | assumption | rfl | omega) | exact nj (by first | assumption | omega) | (simp only [Bool.not_eq_true', Bool.not_eq_false', Bool.not_true, Bool.not_false, su, decide_eq_false_iff_not, nW]; first | assumption | omega))
local macro_rules | `(tactic| wtm_at "?e") => `(tactic| first | assumption | exact cM | (apply fK; wtm_at "?e"))
local macro_rules | `(tactic| wtm_at "?f") => `(tactic| first | assumption | ((with_reducible apply Bd.mul); (·wtm_at "?f"); (·wtm_at "?f")) | ((with_reducible apply Bd.add); (·wtm_at "?f"); (·wtm_at "?f")) | ((with_reducible apply Bd.sub); (·wtm_at "?f"); (·wtm_at "?f")) | ((with_reducible apply Bd.neg); wtm_at "?f") | ((with_reducible apply Bd.fmod); decide) | ((with_reducible apply Bd.fmodV); (focus first | assumption | decide); (·wtm_at "?f")) | ((with_reducible apply Bd.fdiv); (·wtm_at "?f"); (focus first | decide | assumption | omega)) | exact Bd.lit _)
local macro_rules | `(tactic| wtm_at "?u") => `(tactic| (apply Bd.le; (·wtm_at "?f"); (focus first | decide | (simp only [Nat.reduceAdd, Nat.reduceMax, Nat.max_self]; omega))))
local macro_rules | `(tactic| wtm_at "?k") => `(tactic| first | assumption | rfl | wtm_at "?e" | (refine RZ (by decide)) | (refine mulOk_l (by decide)) | (apply Ai; (·wtm_at "?f"); (·wtm_at "?f"); (focus first | decide | omega)) | wtm_at "?u" | decide | omega)
local macro_rules | `(tactic| wtm_at "?l") => `(tactic| first | assumption | ((with_reducible apply WF.snoc); (·wtm_at "?l"); (focus first | exact JD _ _ | assumption | rfl)))
local macro_rules | `(tactic| wtm_at "?h") => `(tactic| first
 | (with_reducible first|exact Jl|exact Ym|exact QM|exact Ye|exact QL|exact Yd|exact EY|exact QR|exact pM|exact pP|exact Yk)
 | ((with_reducible apply Ra);wtm_at "?k")|((with_reducible apply yr);wtm_at "?k")|((with_reducible apply qJ);first|decide|wtm_at "?k")|((with_reducible apply Yl);decide)
 | ((with_reducible apply iZ);first|(with_reducible assumption)|rfl)|((with_reducible apply yo);(·wtm_at "?e");(focus first|(with_reducible assumption)|rfl))|((with_reducible apply Q9);(·wtm_at "?e");(focus first|(with_reducible assumption)|rfl))
 | (refine vy ?_ 8 ?_ ?_ ?_<;>first | decide +kernel | rfl | decide) | (refine Rb ?_ 8 ?_ ?_ ?_<;>first | decide +kernel | rfl | decide))
local macro_rules | `(tactic| wtm_at "?m") => `(tactic| first
 | ((with_reducible apply lC);exact uU rfl)|((with_reducible apply yq);exact uU rfl)|(with_reducible first|exact zpl|exact zmF|exact zmG|exact ev_min2|exact zpk|exact Q5|exact Ux)
 | ((with_reducible apply nq);wtm_at "?e")|((with_reducible apply J6);wtm_at "?e")|((with_reducible apply Vf);wtm_at "?e")|((with_reducible apply Kg);wtm_at "?e")
 | ((with_reducible apply zpo);(·wtm_at "?e");(·rfl))|((with_reducible apply ev_minL');(·wtm_at "?e");(·rfl);(·rfl))|((with_reducible apply TY);(·wtm_at "?e");(·rfl);(·rfl))|((with_reducible apply ev_minT');(·rfl);(·rfl))|((with_reducible apply ev_maxT');(·rfl);(·rfl))
 | ((with_reducible apply cV);(·rfl);(·wtm_at "?d")))
local macro_rules | `(tactic| wtm_at "?q") => `(tactic| first | rfl | (with_reducible assumption) | exact jY (by with_reducible assumption) | exact nj (by with_reducible assumption) | exact jY rfl)
local macro_rules | `(tactic| wtm_at "?i") => `(tactic| first | (apply gm; (·wtm_at "?q"); wtm_at "?a") | (apply eH; (·wtm_at "?q"); wtm_at "?a") | (apply gm; (·wtm_at "?p"); wtm_at "?a") | (apply eH; (·wtm_at "?p"); wtm_at "?a"))
local macro_rules | `(tactic| wtm_at "?v") => `(tactic| first | (simp only [List.set_cons_zero, List.set_cons_succ, List.set]; done) | (simp only [List.set_cons_zero, List.set_cons_succ, List.set]; rfl) | rfl)
local macro_rules | `(tactic| wtm_at "?g") => `(tactic| first
 | ((with_reducible apply di);wtm_at "?v")
 | ((with_reducible apply Q8);(·rfl);(·wtm_at "?g"))
 | ((with_reducible apply KC);(·wtm_at "?g");(·wtm_at "?g"))
 | (with_reducible exact Uv))
local macro_rules | `(tactic| wtm_at "?a") => `(tactic| first
 | (with_reducible exact bC)|((with_reducible apply aC);rfl)
 | ((with_reducible apply bI);(·wtm_at "?a");(·wtm_at "?a");(·wtm_at "?h"))
 | ((with_reducible apply bH);(·wtm_at "?a");(·wtm_at "?m"))
 | ((with_reducible apply aM);(·wtm_at "?a");(·wtm_at "?a"))|(with_reducible exact bA)
 | ((with_reducible apply aH);(·wtm_at "?a");(·wtm_at "?n"))
 | ((with_reducible apply fZ);wtm_at "?a")|(with_reducible first|exact dR|exact ev_sRetN|exact RW|exact ev_sBrk)
 | ((with_reducible apply dI);(·wtm_at "?a");(·wtm_at "?g"))
 | ((with_reducible apply eF);(·wtm_at "?a");(·wtm_at "?i"))
 | ((with_reducible apply tV);wtm_at "?a")
 | ((with_reducible apply eG);wtm_at "?a")|((with_reducible apply Ac);wtm_at "?a")
 | ((with_reducible apply tO);(·wtm_at "?a");(·wtm_at "?i"))|((with_reducible apply pN);(·wtm_at "?a");(·wtm_at "?i"))
 | ((with_reducible apply tQ);(·wtm_at "?a");(·rfl))
 | ((with_reducible apply Yc);(·wtm_at "?a");(·wtm_at "?h"))
 | ((with_reducible apply zpn);wtm_at "?a")
 | ((with_reducible apply JZ);(·wtm_at "?a");(·wtm_at "?i"))|((with_reducible apply Jm);(·wtm_at "?a");(·wtm_at "?i"))
 | ((with_reducible apply zY);(·wtm_at "?a");(·wtm_at "?i"))
 | ((with_reducible apply zZ);(·wtm_at "?a");(·wtm_at "?a");(·wtm_at "?a");(·wtm_at "?w"))|(with_reducible exact FQ)|((with_reducible apply FT);wtm_at "?a")
 | ((with_reducible apply vq);(·wtm_at "?j");(·rfl);(focus exact uU rfl);(focus simp only[nR,iU,List.map_nil,bQ,Option.bind_none,List.getElem?_cons_zero,List.getElem?_cons_succ,Option.join_some];rfl);(·wtm_at "?r"))
 | ((with_reducible apply zdt);(·wtm_at "?j");(·rfl);(·wtm_at "?o"))
 | (with_reducible exact yx)
 |exact rfl)
local macro_rules | `(tactic| wtm_at "?j") => `(tactic| first | ((with_reducible apply J5); (·wtm_at "?a"); (focus decide)) | ((with_reducible apply Uw); wtm_at "?a") | ((with_reducible apply zpm); (·wtm_at "?a"); (focus exact ⟨uU rfl, uU rfl⟩); (·rfl)) | ((with_reducible apply qL); (·wtm_at "?a"); (·wtm_at "?e")))
local macro_rules | `(tactic| wtm_at "?r") => `(tactic| first | (apply yp; (·wtm_at "?s"); (·wtm_at "?g"); (·wtm_at "?a"); (·wtm_at "?a"); (focus simp only [uX, List.cons_append]; rfl); (·wtm_at "?r")) | (apply Fo; rfl))
local macro_rules | `(tactic| wtm_at "?t") => `(tactic| first | (simp only [List.getElem?_cons_zero, List.getElem?_cons_succ]; done) | (simp only [List.getElem?_cons_zero, List.getElem?_cons_succ]; rfl) | rfl)
local macro_rules | `(tactic| wtm_at "?s") => `(tactic| first | ((with_reducible apply Yi); (focus decide); (focus first | (simp; rfl) | rfl)) | ((with_reducible apply zq8); wtm_at "?t") | ((with_reducible apply vz); (·wtm_at "?e"); (·wtm_at "?t")) | rfl)
local macro_rules | `(tactic| wtm_at "?o") => `(tactic| first | (apply lY; (·wtm_at "?s"); (·wtm_at "?g"); (·wtm_at "?a"); (·wtm_at "?x")) | (apply J4; rfl))
local macro_rules | `(tactic| wtm_at "?x") => `(tactic| first | (with_reducible first | exact Ft | exact forK_bk) | ((with_reducible apply Fq); wtm_at "?o") | ((with_reducible apply forK_ct); wtm_at "?o"))
local macro_rules | `(tactic| wtm_at "?w") => `(tactic| first | ((with_reducible apply Jr); (focus exact of_decide_eq_false rfl); (focus first | exact FP | exact Us)) | ((with_reducible apply Jo); (·wtm_at "?e"); (focus first | exact FP | exact Us | rfl)))
local macro_rules | `(tactic| wtm_at "?n") => `(tactic| first | exact d7 | ((with_reducible apply aV); wtm_at "?a") | (with_reducible first | exact seqK_bk | exact JN))
local macro_rules | `(tactic| wtm_at "?b") => `(tactic| simp only [iC, iU, List.map_nil, jd, zH, Nat.reduceAdd, Nat.reduceSub, Nat.zero_add, Nat.sub_self, List.replicate, List.cons_append, uX, List.append_nil])
local macro_rules | `(tactic| wtm_at "?c") => `(tactic| first | exact kJ | simp [List.take_append])
local macro_rules | `(tactic| wtm_at "?y") => `(tactic| first | assumption | (apply Gr.refl; wtm_at "?l") | ((with_reducible apply Gr.snoc); (·wtm_at "?y"); (focus first | exact JD _ _ | exact MX.P.lo_pts _ _ | rfl | assumption)))
section
namespace MX.P
open PySem L2 MX
theorem zfu(a b c d e f:Int)(S:So):eE [P3 a b c,P3 d e f] S=some (P3 (d - a) (e - b) (f - c),S):=by refine bY (σ':=[some (P3 a b c),some (P3 d e f)]) (S':=S) ?_ (by simp) rfl;show Nj [some (P3 a b c),some (P3 d e f)] S=_;unfold Nj;wtm_at "?a"
theorem ZS{k l:Nat}{a b c d e f:Int}(ha:Bd k a)(hb:Bd k b)(hc:Bd k c)(hd:Bd l d)(he:Bd l e)(hf:Bd l f)(hk:k+l<=134217728)(S:So):fP [P3 a b c,P3 d e f] S=some (.int (a*d+b*e+c*f),S):=by refine bY (σ':=[some (P3 a b c),some (P3 d e f)]) (S':=S) ?_ (by simp) rfl;show Jc [some (P3 a b c),some (P3 d e f)] S=_;unfold Jc;wtm_at "?a"
theorem zlP{k l:Nat}{a b c d e f:Int}(ha:Bd k a)(hb:Bd k b)(hc:Bd k c)(hd:Bd l d)(he:Bd l e)(hf:Bd l f)(hk:k+l<=134217728)(S:So):ji [P3 a b c,P3 d e f] S=some (P3 (b*f - c*e) (c*d - a*f) (a*e - b*d),S):=by refine bY (σ':=[some (P3 a b c),some (P3 d e f)]) (S':=S) ?_ (by simp) rfl;show JS [some (P3 a b c),some (P3 d e f)] S=_;unfold JS;wtm_at "?a"
theorem sp_is_less{k l:Nat}{a b c d:Int}(ha:Bd k a)(hb:Bd k b)(hc:Bd l c)(hd:Bd l d)(hk:k+l<=134217728)(S:So):tY [R2 a b,R2 c d] S=some (.bl (decide (a*d<c*b)),S):=by refine bY (σ':=[some (R2 a b),some (R2 c d)]) (S':=S) ?_ (by simp) rfl;show Kq [some (R2 a b),some (R2 c d)] S=_;unfold Kq;wtm_at "?a"
noncomputable def Es(c k:Int):Int:=(((c*6364136223846793005+(k+1)*1442695040888963407).fmod 340282366920938463463374607431768211507)*((c*6364136223846793005+(k+1)*1442695040888963407).fmod 340282366920938463463374607431768211507)).fmod 340282366920938463463374607431768211297
theorem sp_drawn(c k:Int)(S:So):yN [.int c,.int k] S=some (.int (Es c k),S):=by refine bY (σ':=[some (.int c),some (.int k),some (.int ((c*6364136223846793005+(k+1)*1442695040888963407).fmod 340282366920938463463374607431768211507))]) (S':=S) ?_ (by simp) rfl;show Lj [some (.int c),some (.int k),none] S=_;unfold Lj;wtm_at "?a"
end MX.P
end
section
local macro_rules | `(tactic| wtm_at "?d") => `(tactic| exact MX.P.sp_drawn _ _ _)
namespace MX.P
open PySem L2 MX
noncomputable def iY(ns:List Int)(k:Int):Int:=if ns=[] then k*7919 else(ns[(k.fmod ns.length).toNat]?.getD 0)+k.fdiv ns.length*104729
def rz(k:Nat)(ns:List Int):∀x∈ns.map D.int,eO k x=true:=λx hx=>by obtain⟨n,_,rfl⟩:=List.mem_map.mp hx;cases k<;>rfl
theorem pO{ns:List Int}(hn:ns.length<=63)(k:Int){S:So}(h:S[0]?=some (.frz (ns.map .int))):nF [.ref 0,.int k] S=some (.int (iY ns k),S):=by
 have e1:bW (eB (aZ .Eq) (aj 0) (eN lu au)) [some (.ref 0),some (.int k)] S=some (decide (ns.map D.int=[]),S++[.lst []]):=by
  apply eG;apply bI
  .wtm_at "?a"
  .wtm_at "?a"
  .rw[Q7 0 (.inr (fK h)) (.inl cM) (rz 0 ns) (by simp) (by decide)]
 by_cases hz:ns=[]
 .apply bY
  .wtm_at "?b"
   unfold Lr;apply aH
   .apply eF
    .exact e1
    .apply gm
     .simp[hz]
     .wtm_at "?a"
   .have:iY ns k=k*7919:=by unfold iY;rw[if_pos hz]
    rw[this];wtm_at "?n"
  .simp
  .rfl
 .have hl:0<ns.length:=List.length_pos_iff.mpr hz;have hl':(0:Int)<((ns.map D.int).length:Int):=by simp;omega
  have h1:=qg k hl';have h2:=rZ k hl';have hb:Bd 7 ((ns.map D.int).length:Int):=by unfold Bd;simp;omega
  have e2:gq (ns.map D.int) (k.fmod ((ns.map D.int).length:Int))=some (.int (ns[(k.fmod ns.length).toNat]?.getD 0)):=by
   unfold gq uF;rw[if_pos h1,if_pos h2];simp only[cZ] at h2 h1 ⊢;simp only[bQ,gG];have:(k.fmod (ns.length:Int)).toNat<ns.length:=by omega
   rw[gJ this];rfl
  apply bY
  .wtm_at "?b"
   unfold Lr;apply aH
   .apply eF
    .exact e1
    .apply eH
     .simp[hz]
     .wtm_at "?a"
   .apply aV;apply aH
    .apply fZ;apply bI
     .apply bI
      .wtm_at "?a"
      .apply bI
       .wtm_at "?a"
       .apply bH
        .wtm_at "?a"
        .exact J6 (fK h)
       .exact yr (by omega)
      .exact Q9 (fK h) e2
     .apply bI
      .apply bI
       .wtm_at "?a"
       .apply bH
        .wtm_at "?a"
        .exact J6 (fK h)
       .exact qJ (Uu hb (by omega) (by decide))
      .wtm_at "?a"
      .exact Ra (RZ (by decide))
     .exact Jl
    .have:iY ns k=(ns[(k.fmod ns.length).toNat]?.getD 0)+k.fdiv ((ns.map D.int).length:Int)*104729:=by unfold iY;rw[if_neg hz,cZ]
     rw[this];exact d7
  .simp
  .rfl
end MX.P
end
section
namespace MX.P
open PySem L2 MX
noncomputable def co(k:Int)(p:Pt):Int:=if k=0 then p.1 else if k=1 then p.2.1 else p.2.2
theorem z9{k:Int}(h0:0<=k)(h2:k<=2)(p:Pt):gq [D.int p.1,.int p.2.1,.int p.2.2] k=some (.int (co k p)):=by
 have:k=0\/k=1\/k=2:=by omega
 rcases this with rfl|rfl|rfl<;>rfl
theorem zoZ{σ:Sg}{S:So}{i j n:Nat}{k:Int}{pts:List Pt}(hi:σ[i]?=some (some (.ref n)))(hj:σ[j]?=some (some (.int k)))(hn:S[n]?=some (.lst (pts.map pD)))(hl:pts.length<=1000)(h0:0<=k)(h2:k<=2):
 fL (fO (aj i)) (aK 0) eZ (eB aL (aj 0) (aj 1)) [none,some j] σ S=some (.ref S.length,S++[.lst ((pts.map (co k)).map .int)]):=by
 have key:jl (dj (.lst n)) (aK 0) eZ (eB aL (aj 0) (aj 1)) (pts.map pD).length 0 [none,some (.int k)] S []=some ((pts.map (co k)).map .int,S):=by
  have:=FW (nx:=dj (.lst n)) (g:=aK 0) (t:=eZ) (fe:=eB aL (aj 0) (aj 1)) (S:=S) (xs:=pts.map pD) (λτ=>∃v,τ=[v,some (.int k)]) (λ_=>true) (λd=>match d with|.tup xs=>(gq xs k).getD .non|_ => .non)
   (λi=>by unfold dj;simp only;rw[hn]) (λd hd τ hT=>?_) (pts.map pD).length 0 [none,some (.int k)] [] ⟨none,rfl⟩ (by simp)
  .rw[this];congr 2;rw[uX,List.drop_zero,List.filter_eq_self.mpr (λ_ _=>rfl),List.map_map,List.map_map];refine List.map_congr_left λp _=>?_;show(gq [D.int p.1,.int p.2.1,.int p.2.2] k).getD .non=_;rw[z9 h0 h2];rfl
  .obtain⟨v,rfl⟩:=hT;obtain⟨p,_,rfl⟩:=List.mem_map.mp hd;refine⟨[some (pD p),some (.int k)],rfl,⟨_,rfl⟩,rfl,λ_=>?_⟩;apply bI
   .wtm_at "?a"
   .wtm_at "?a"
   .show aL (.tup [D.int p.1,.int p.2.1,.int p.2.2]) (.int k) S=_;rw[iZ (z9 h0 h2 p)];show _=some ((gq [D.int p.1,.int p.2.1,.int p.2.2] k).getD .non,S);rw[z9 h0 h2];rfl
 apply vq
 .exact qL (aC hi) hn
 .show(match S[n]? with|some (.lst xs)=>some xs.length|some (.frz xs)=>some xs.length|_=>none)=_;rw[hn]
 .rw[sizeLine_eq,cZ];omega
 .simp only[nR,iU,List.map_nil,bQ,Option.bind_none,hj,Option.join_some];rfl
 .exact key
theorem sp_numbers_at{S:So}{n:Nat}{k:Int}{pts:List Pt}(hS:WF S)(hn:S[n]?=some (.lst (pts.map pD)))(hl:pts.length<=1000)(h0:0<=k)(h2:k<=2):
 Gv [.ref n,.int k] S=some (.ref S.length,S++[.lst ((pts.map (co k)).map .int)]):=by
 apply Ad
 .wtm_at "?b"
  unfold zev;apply aH
  .apply fZ;exact zoZ rfl rfl hn hl h0 h2
  .exact d7
 .intro h;simp[D.lo] at h
 .simp
 .simp[D.lo]
 .exact hS.snoc (JD _ _)
def Jp{ns:List Int}(h:ns≠[]):∃m,je ns=some m:=by cases ns with|nil=>exact absurd rfl h|cons _ _=>exact⟨_,rfl⟩
def Fi{ns:List Int}(h:ns≠[]):∃m,iV ns=some m:=by cases ns with|nil=>exact absurd rfl h|cons _ _=>exact⟨_,rfl⟩
end MX.P
local macro_rules | `(tactic| wtm_at "?d") => `(tactic| (apply MX.P.sp_numbers_at; (·wtm_at "?l"); (·wtm_at "?e"); (·assumption); (focus decide); (focus decide)))
local macro_rules | `(tactic| wtm_at "?m") => `(tactic| first | ((with_reducible apply J7); (·wtm_at "?e"); (·assumption)) | ((with_reducible apply RV); (·wtm_at "?e"); (·assumption)))
namespace MX.P
theorem zf4{S:So}{n:Nat}{pts:List Pt}{a0 a1 a2 b0 b1 b2:Int}(hS:WF S)(hn:S[n]?=some (.lst (pts.map pD)))(hl:pts.length<=1000)(h0:je (pts.map (co 0))=some a0)(h1:je (pts.map (co 1))=some a1)(h2:je (pts.map (co 2))=some a2)(g0:iV (pts.map (co 0))=some b0)(g1:iV (pts.map (co 1))=some b1)(g2:iV (pts.map (co 2))=some b2):
 yO [.ref n] S=some (.tup [P3 a0 a1 a2,P3 b0 b1 b2],S):=by
 apply bY
 .wtm_at "?b"
  unfold Wo;wtm_at "?a"
 .wtm_at "?c"
 .rfl
theorem sp_are_in_order{S:So}{a b c d e f:Int}:Nb [P3 a b c,P3 d e f] S=some (.bl ([decide (a<=d),decide (b<=e),decide (c<=f)].all id),S):=by
 apply bY
 .wtm_at "?b"
  unfold WK;wtm_at "?a"
 .wtm_at "?c"
 .rfl
theorem ziP:¬(D.tup [.str "triangle"]=D.tup [.str "box"]):=by intro h;simp only[D.tup.injEq,List.cons.injEq,D.str.injEq,and_true] at h;exact absurd h (by decide +kernel)
end MX.P
local macro_rules | `(tactic| wtm_at "?d") => `(tactic| exact MX.P.sp_are_in_order)
namespace MX.P
theorem WY{S:So}{a b c:D}:vH [.tup [.str "triangle",a,b,c]] S=some (.bl true,S):=by
 have:=ziP;apply bY
 .wtm_at "?b"
  unfold K3;wtm_at "?a"
 .wtm_at "?c"
 .rfl
theorem WX{S:So}{a b c d e f:Int}(h1:a<=d)(h2:b<=e)(h3:c<=f):vH [.tup [.str "box",P3 a b c,P3 d e f]] S=some (.bl true,S):=by
 have h:[decide (a<=d),decide (b<=e),decide (c<=f)].all id=true:=by simp[h1,h2,h3]
 apply bY
 .wtm_at "?b"
  unfold K3;rw[<-h];wtm_at "?a"
 .wtm_at "?c"
 .rfl
end MX.P
end
section
local macro_rules | `(tactic| wtm_at "?d") => `(tactic| (with_reducible assumption))
namespace MX.P
open PySem L2 MX
def Xb{S:So}{sh:D}(h:vH [sh] S=some (.bl true,S)):Bo [sh] S=some (.non,S):=by
 apply V5
 .wtm_at "?b"
  unfold Xe;wtm_at "?a"
 .wtm_at "?c"
structure lN(pts:List Pt)(lo hi:Pt):Prop where
 h0:je (pts.map (co 0))=some lo.1
 h1:je (pts.map (co 1))=some lo.2.1
 h2:je (pts.map (co 2))=some lo.2.2
 g0:iV (pts.map (co 0))=some hi.1
 g1:iV (pts.map (co 1))=some hi.2.1
 g2:iV (pts.map (co 2))=some hi.2.2
theorem QX{pts:List Pt}(h:pts≠[]):∃lo hi,lN pts lo hi:=by have hk:∀k,pts.map (co k)≠[]:=λk e=>h (List.map_eq_nil_iff.mp e);obtain⟨a,ha⟩:=Jp (hk 0);obtain⟨b,hb⟩:=Jp (hk 1);obtain⟨c,hc⟩:=Jp (hk 2);obtain⟨d,hd⟩:=Fi (hk 0);obtain⟨e,he⟩:=Fi (hk 1);obtain⟨f,hf⟩:=Fi (hk 2);exact⟨(a,b,c),(d,e,f),⟨ha,hb,hc,hd,he,hf⟩⟩
def Rx{S:So}{n:Nat}{pts:List Pt}{lo hi:Pt}(hS:WF S)(hn:S[n]?=some (.lst (pts.map pD)))(hl:pts.length<=1000)(B:lN pts lo hi):yO [.ref n] S=some (.tup [pD lo,pD hi],S) :=
 zf4 hS hn hl B.h0 B.h1 B.h2 B.g0 B.g1 B.g2
theorem U5{S:So}{nm:Str}{pts:List Pt}{lo hi:Pt}(hS:WF S)(hl:pts.length<=1000)(hp:pts≠[])(B:lN pts lo hi)(h:vH [.tup (.str nm::pts.map pD)] S=some (.bl true,S)):vC [.tup (.str nm::pts.map pD)] S=some (.tup [pD lo,pD hi],S):=by
 have h1:=Xb h;apply bY
 .wtm_at "?b"
  unfold Uo;apply aH
  .apply tV;apply bH
   .wtm_at "?a"
   .exact cV rfl h1
  .apply aV;apply aH
   .apply fZ;apply bH
    .apply aM
     .apply bH
      .apply aM
       .apply zZ
        .wtm_at "?a"
        .wtm_at "?a"
        .wtm_at "?a"
        .refine Jr (ys:=pts.map pD) ?_ FP
         rintro⟨e1,e2⟩
         have:HT.sIx (D.str nm::pts.map pD).length 0 (some 1)=1:=by unfold HT.sIx;simp
         omega
       .wtm_at "?a"
      .exact Ux
     .wtm_at "?a"
    .exact cV rfl (Rx (hS.snoc (lo_pts _ _)) cM hl B)
   .exact d7
 .wtm_at "?c"
 .rfl
noncomputable def dF(a b:Int):Int×Int:=((Rat.divInt a b).num,((Rat.divInt a b).den:Int))
def JL{a b c d:Int}(hb:b≠0)(hd:d≠0)(h:a*d=c*b):dF a b=dF c d:=by unfold dF;rw[(Rat.divInt_eq_divInt_iff hb hd).mpr h]
theorem Gd{a b:Int}(hb:0<b):dF a b=(a / ((Nat.gcd a.natAbs b.natAbs:Nat):Int),b / ((Nat.gcd a.natAbs b.natAbs:Nat):Int)):=by
 unfold dF;rw[Rat.num_divInt,Rat.den_divInt,if_neg (by omega),Int.sign_eq_one_of_pos hb,Int.one_mul,Int.gcd_eq_natAbs_gcd_natAbs,Nat.gcd_comm];congr 1;have:(b.natAbs:Int)=b:=by omega
 rw[Int.natCast_ediv,this]
def zpd{a b:Int}(hb:b≠0):0<Nat.gcd a.natAbs b.natAbs:=Nat.gcd_pos_of_pos_right _ (by omega)
def yP(a b:Int):0<(dF a b).2:=by unfold dF;have:=(Rat.divInt a b).den_pos;simp only;omega
theorem zi3{a b:Int}(hb:b≠0):(dF a b).1*b=a*(dF a b).2:=by unfold dF;have h:=(Rat.divInt a b).num_divInt_den;have:=(Rat.divInt_eq_divInt_iff (by have:=(Rat.divInt a b).den_pos;omega) hb).mp h;exact this
def Le(a b:Int):dF (dF a b).1 (dF a b).2=dF a b:=by unfold dF;simp only[Rat.num_divInt_den]
def Bg{a b:Int}(ha:0<=a)(hb:0<b):0<=(dF a b).1:=by rw[Gd hb];exact Int.ediv_nonneg ha (by omega)
def Bd.of_le{k:Nat}{x y:Int}(h:Bd k y)(hx:x.natAbs<=y.natAbs):Bd k x:=DX hx h
theorem Fx{k:Nat}{a b:Int}(ha:Bd k a)(hb:Bd k b)(h:0<b):Bd k (dF a b).1/\Bd k (dF a b).2:=by rw[Gd h];exact⟨Bd.of_le ha (Int.natAbs_ediv_le_natAbs _ _),Bd.of_le hb (Int.natAbs_ediv_le_natAbs _ _)⟩
theorem Yq{k:Nat}{a b:Int}(hb:Bd k b)(h:b≠0):Bd k ((Nat.gcd a.natAbs b.natAbs:Nat):Int):=by refine Bd.of_le hb ?_;show Nat.gcd a.natAbs b.natAbs<=b.natAbs;exact Nat.le_of_dvd (by omega) (Nat.gcd_dvd_right _ _)
theorem QV:∀(N:Nat) (m n:Nat) (r:Option D) (S:So),n<=N->∃r',j9 (bW (eB (aZ .NotEq) (aj 1) (eC (.int 0)))) (aA (bG (eB (aP .Mod) (aj 0) (aj 1)) (aK 2)) (aA (bG (aj 1) (aK 0)) (aA (bG (aj 2) (aK 1)) aJ)))
 [some (.int (m:Nat)),some (.int (n:Nat)),r] S=some (.nx,[some (.int (Nat.gcd m n:Nat)),some (.int 0),r'],S)
 |N,m,0,r,S,_=>by
  refine⟨r,?_⟩;rw[Nat.gcd_zero_right];apply JM;apply eG;apply bI
  .wtm_at "?a"
  .wtm_at "?a"
  .rfl
 |0,_,n+1,_,_,h=>by omega
 |N+1,m,n+1,r,S,h=>by
  obtain⟨r',e⟩:=QV N (n+1) (m % (n+1)) (some (.int ((m % (n+1):Nat):Int))) S (by have:=Nat.mod_lt m (show 0<n+1 by omega);omega);refine⟨r',?_⟩;have hg:Nat.gcd m (n+1)=Nat.gcd (n+1) (m % (n+1)):=by rw[Nat.gcd_comm m,Nat.gcd_rec,Nat.gcd_comm]
  rw[hg];have hm:((m:Nat):Int).fmod ((n+1:Nat):Int)=((m % (n+1):Nat):Int):=by rw[Int.fmod_eq_emod_of_nonneg _ (by omega)];rfl
  refine Uy (σ1:=[]) (fl := .nx) (S1:=S) (S2:=S) ?_ ?_ (.inl rfl) e
  .apply eG;have:D.bl true = .bl (!decide (((n+1:Nat):Int)=0)):=by rw[nj (by omega)];rfl
   rw[this];apply bI
   .wtm_at "?a"
   .wtm_at "?a"
   .wtm_at "?h"
  .rw[<-hm];have h0:((n+1:Nat):Int)≠0:=by omega
   wtm_at "?a"
theorem zd5(m n:Nat)(S:So):GP [.int (m:Nat),.int (n:Nat)] S=some (.int (Nat.gcd m n:Nat),S):=by
 obtain⟨r',e⟩:=QV n m n none S (bZ _);apply bY
 .wtm_at "?b"
  unfold Xf;apply aH
  .exact e
  .apply aV;apply aH
   .apply fZ;apply bH
    .wtm_at "?a"
    .exact Q5
   .have:(if((Nat.gcd m n:Nat):Int)<0 then -((Nat.gcd m n:Nat):Int) else((Nat.gcd m n:Nat):Int))=((Nat.gcd m n:Nat):Int):=if_neg (by omega);rw[this];exact d7
 .wtm_at "?c"
 .rfl
noncomputable abbrev rD(p:Int×Int):D:=R2 p.1 p.2
theorem Bc{k:Nat}{a b:Int}(ha:0<=a)(hb:0<b)(hk:Bd k b)(h8:k<=8000)(S:So):t8 [R2 a b] S=some (rD (dF a b),S):=by
 have e:GP [.int a,.int b] S=some (.int ((Nat.gcd a.natAbs b.natAbs:Nat):Int),S):=by
  have:=zd5 a.natAbs b.natAbs S;have h1:(a.natAbs:Int)=a:=by omega
  have h2:(b.natAbs:Int)=b:=by omega
  rw[h1,h2] at this;exact this
 have hg:=zpd (a:=a) (show b≠0 by omega);have hd:eX ((Nat.gcd a.natAbs b.natAbs:Nat):Int)=true:=Uu (Yq hk (by omega)) (by omega) h8;apply bY
 .wtm_at "?b"
  unfold WL;rw[Gd hb];rw[<-Int.fdiv_eq_ediv_of_nonneg a (show(0:Int)<=((Nat.gcd a.natAbs b.natAbs:Nat):Int) by omega),<-Int.fdiv_eq_ediv_of_nonneg b (show(0:Int)<=((Nat.gcd a.natAbs b.natAbs:Nat):Int) by omega)];wtm_at "?a"
 .wtm_at "?c"
 .rfl
end MX.P
end
section
local macro_rules | `(tactic| wtm_at "?d") => `(tactic| first | (with_reducible assumption) | ((with_reducible apply MX.P.sp_is_less); (focus with_reducible assumption); (focus with_reducible assumption); (focus with_reducible assumption); (focus with_reducible assumption); (·omega)))
namespace MX.P
open PySem L2 MX
noncomputable def iB(s w lo hi:Int):Int×Int:=if 0<w then(lo - s,w) else(s - hi,-w)
noncomputable def jk(s w lo hi:Int):Int×Int:=if 0<w then(hi - s,w) else(s - lo,-w)
theorem zez(s w lo hi:Int)(S:So):Mx [.int s,.int w,.int lo,.int hi] S=some (.tup [rD (iB s w lo hi),rD (jk s w lo hi)],S):=by
 by_cases h:0<w
 .have e1:iB s w lo hi=(lo - s,w):=if_pos h;have e2:jk s w lo hi=(hi - s,w):=if_pos h;rw[e1,e2];apply bY
  .wtm_at "?b"
   unfold Mv;wtm_at "?a"
  .wtm_at "?c"
  .rfl
 .have e1:iB s w lo hi=(s - hi,-w):=if_neg h;have e2:jk s w lo hi=(s - lo,-w):=if_neg h;rw[e1,e2];apply bY
  .wtm_at "?b"
   unfold Mv;wtm_at "?a"
  .wtm_at "?c"
  .rfl
def fW(a b:Int×Int):Prop:=a.1*b.2<b.1*a.2
instance (a b:Int×Int):Decidable (fW a b):=by unfold fW;infer_instance
noncomputable def lD:Option (Int×Int)->D
 |none => .non
 |some p=>rD p
noncomputable def p6(w:Int)(a e:Int×Int):Int×Int:=if fW a e then e else a
noncomputable def rO(a:Option (Int×Int))(l:Int×Int):Int×Int:=match a with
 |none=>l
 |some m=>if fW l m then l else m
theorem ziU{σ0 σ1:D}{f:Int×Int}{l:D}{s lo hi:Int}{t:Option D}{S:So}(h1:lo<=s)(h2:s<=hi):
 pR [some σ0,some σ1,some (rD f),some l,some (.int s),some (.int 0),some (.int lo),some (.int hi),t] S=some (.ct,[some σ0,some σ1,some (rD f),some l,some (.int s),some (.int 0),some (.int lo),some (.int hi),t],S):=by
 unfold pR Aw;wtm_at "?a"
theorem ziS{σ0 σ1:D}{f:Int×Int}{l:D}{s lo hi:Int}{t:Option D}{S:So}(h:s<lo\/hi<s):
 pR [some σ0,some σ1,some (rD f),some l,some (.int s),some (.int 0),some (.int lo),some (.int hi),t] S=some (.rt .non,[some σ0,some σ1,some (rD f),some l,some (.int s),some (.int 0),some (.int lo),some (.int hi),t],S):=by
 unfold pR Aw;by_cases h1:s<lo
 .wtm_at "?a"
 .have h2:hi<s:=by omega
  wtm_at "?a"
theorem QW{k:Nat}{s w lo hi:Int}(hs:Bd k s)(hw:Bd k w)(hl:Bd k lo)(hh:Bd k hi):Bd (k+1) (iB s w lo hi).1/\Bd (k+1) (iB s w lo hi).2/\Bd (k+1) (jk s w lo hi).1/\Bd (k+1) (jk s w lo hi).2:=by
 unfold iB jk;have a1:=(hl.sub hs).le (show max k k+1<=k+1 by omega);have a2:=(hh.sub hs).le (show max k k+1<=k+1 by omega);have a3:=(hs.sub hh).le (show max k k+1<=k+1 by omega);have a4:=(hs.sub hl).le (show max k k+1<=k+1 by omega);have a5:=hw.le (show k<=k+1 by omega);split
 .exact⟨a1,a5,a2,a5⟩
 .exact⟨a3,a5.neg,a4,a5.neg⟩
def Gm(w:Int)(a e:Int×Int):p6 w a e=a\/p6 w a e=e:=by unfold p6;split<;>simp
theorem Ku(a:Option (Int×Int))(l:Int×Int):rO a l=l\/∃m,a=some m/\rO a l=m:=by
 unfold rO;split
 .exact .inl rfl
 .split
  .exact .inl rfl
  .exact .inr ⟨_,rfl,rfl⟩
theorem ziT{k:Nat}{σ0 σ1:D}{f:Int×Int}{l:Option (Int×Int)}{s w lo hi:Int}{t:Option D}{S:So}(hw:w≠0)(bs:Bd k s)(bw:Bd k w)(bl:Bd k lo)(bh:Bd k hi)(hk:k<=10000)(f1:Bd (k+1) f.1)(f2:Bd (k+1) f.2)(l1:∀m,l=some m->Bd (k+1) m.1/\Bd (k+1) m.2):
 ∃t',pR [some σ0,some σ1,some (rD f),some (lD l),some (.int s),some (.int w),some (.int lo),some (.int hi),t] S
  = some (.nx,[some σ0,some σ1,some (rD (p6 w f (iB s w lo hi))),some (rD (rO l (jk s w lo hi))),some (.int s),some (.int w),some (.int lo),some (.int hi),t'],S):=by
 obtain⟨b1,b2,b3,b4⟩:=QW bs bw bl bh;have tb:=zez s w lo hi S;generalize iB s w lo hi=e at *
 generalize jk s w lo hi=g at *
 obtain⟨e1,e2⟩:=e;obtain⟨g1,g2⟩:=g;obtain⟨p1,p2⟩:=f;simp only at b1 b2 b3 b4 f1 f2;refine⟨some (.tup [R2 e1 e2,R2 g1 g2]),?_⟩;have s1:∀q:D,Aw [some σ0,some σ1,some (rD (p1,p2)),some q,some (.int s),some (.int w),some (.int lo),some (.int hi),t] S=some (.nx,[some σ0,some σ1,some (rD (p1,p2)),some q,some (.int s),some (.int w),some (.int lo),some (.int hi),t],S):=λq=>by unfold Aw;wtm_at "?a"
 have s2:∀q:D,M4 [some σ0,some σ1,some (rD (p1,p2)),some q,some (.int s),some (.int w),some (.int lo),some (.int hi),t] S=some (.nx,[some σ0,some σ1,some (rD (p1,p2)),some q,some (.int s),some (.int w),some (.int lo),some (.int hi),some (.tup [R2 e1 e2,R2 g1 g2])],S):=λq=>by unfold M4;wtm_at "?a"
 have s3:∀q:D,M7 [some σ0,some σ1,some (rD (p1,p2)),some q,some (.int s),some (.int w),some (.int lo),some (.int hi),some (.tup [R2 e1 e2,R2 g1 g2])] S=some (.nx,[some σ0,some σ1,some (rD (p6 w (p1,p2) (e1,e2))),some q,some (.int s),some (.int w),some (.int lo),some (.int hi),some (.tup [R2 e1 e2,R2 g1 g2])],S):=λq=>by
  unfold M7 p6;by_cases hc:p1*e2<e1*p2
  .rw[if_pos (show fW (p1,p2) (e1,e2) from hc)];wtm_at "?a"
  .rw[if_neg (show ¬fW (p1,p2) (e1,e2) from hc)];wtm_at "?a"
 have s4:∀q:Int×Int,M8 [some σ0,some σ1,some (rD q),some (lD l),some (.int s),some (.int w),some (.int lo),some (.int hi),some (.tup [R2 e1 e2,R2 g1 g2])] S=some (.nx,[some σ0,some σ1,some (rD q),some (rD (rO l (g1,g2))),some (.int s),some (.int w),some (.int lo),some (.int hi),some (.tup [R2 e1 e2,R2 g1 g2])],S):=λq=>by
  unfold M8 rO;cases l with
  |none =>
   show cW _ _ _ [some σ0,some σ1,some (rD q),some D.non,some (.int s),some (.int w),some (.int lo),some (.int hi),some (.tup [R2 e1 e2,R2 g1 g2])] S=_;wtm_at "?a"
  |some m =>
   obtain⟨m1,m2⟩:=m;obtain⟨c1,c2⟩:=l1 _ rfl;simp only at c1 c2;show cW _ _ _ [some σ0,some σ1,some (rD q),some (R2 m1 m2),some (.int s),some (.int w),some (.int lo),some (.int hi),some (.tup [R2 e1 e2,R2 g1 g2])] S=_;by_cases hc:g1*m2<m1*g2
   .simp only;rw[if_pos (show fW (g1,g2) (m1,m2) from hc)];wtm_at "?a"
   .simp only;rw[if_neg (show ¬fW (g1,g2) (m1,m2) from hc)];wtm_at "?a"
 unfold pR;exact aH (s1 _) (aV (aH (s2 _) (aV (aH (s3 _) (aV (aH (s4 _) (aV dR)))))))
noncomputable abbrev Ax:=(Int×Int)×Option (Int×Int)
noncomputable def dO(a:Ax)(s w lo hi:Int):Option Ax:=if w=0 then(if s<lo\/hi<s then none else some a) else some (p6 w a.1 (iB s w lo hi),some (rO a.2 (jk s w lo hi)))
def zG(k:Nat)(a:Ax):Prop:=Bd k a.1.1/\Bd k a.1.2/\∀m,a.2=some m->Bd k m.1/\Bd k m.2
theorem yu{k:Nat}{a a':Ax}{s w lo hi:Int}(hs:Bd k s)(hw:Bd k w)(hl:Bd k lo)(hh:Bd k hi)(h:zG (k+1) a)(e:dO a s w lo hi=some a'):zG (k+1) a':=by
 obtain⟨b1,b2,b3,b4⟩:=QW hs hw hl hh;unfold dO at e;split at e
 .split at e
  .cases e
  .cases e;exact h
 .cases e;refine⟨?_,?_,λm hm=>?_⟩
  .rcases Gm w a.1 (iB s w lo hi) with q|q<;>simp only[q]
   .exact h.1
   .exact b1
  .rcases Gm w a.1 (iB s w lo hi) with q|q<;>simp only[q]
   .exact h.2.1
   .exact b2
  .cases hm;rcases Ku a.2 (jk s w lo hi) with q|⟨m,q1,q⟩<;>simp only[q]
   .exact⟨b3,b4⟩
   .exact h.2.2 m q1
def rR(ray box:D)(a:Ax)(σ:Sg):Prop:=∃j4 j5 j6 j7 j8:Option D,σ=[some ray,some box,some (rD a.1),some (lD a.2),j4,j5,j6,j7,j8]
noncomputable abbrev Dm:GF:=lJ 4 (gA (aK 4) (gA (aK 5) (gA (aK 6) (gA (aK 7) mX))))
theorem K7{k:Nat}{ray box:D}{a:Ax}{σ:Sg}{s w lo hi:Int}{S:So}(hs:Bd k s)(hw:Bd k w)(hl:Bd k lo)(hh:Bd k hi)(hk:k<=10000)(hb:zG (k+1) a)(h:rR ray box a σ):
 ∃σ1,Dm (.tup [.int s,.int w,.int lo,.int hi]) σ S=some (σ1,S) /\
  match dO a s w lo hi with
  |none=>∃σ2,pR σ1 S=some (.rt .non,σ2,S)
  |some a'=>∃fl σ2,pR σ1 S=some (fl,σ2,S)/\(fl = .nx\/fl = .ct)/\rR ray box a' σ2:=by
 obtain⟨j4,j5,j6,j7,j8,rfl⟩:=h;refine⟨[some ray,some box,some (rD a.1),some (lD a.2),some (.int s),some (.int w),some (.int lo),some (.int hi),j8],rfl,?_⟩;unfold dO;by_cases h0:w=0
 .subst h0;rw[if_pos rfl];by_cases hc:s<lo\/hi<s
  .rw[if_pos hc];exact⟨_,ziS hc⟩
  .rw[if_neg hc];exact⟨_,_,ziU (by omega) (by omega),.inr rfl,_,_,_,_,_,rfl⟩
 .rw[if_neg h0];obtain⟨t',e⟩:=ziT (σ0:=ray) (σ1:=box) (t:=j8) (S:=S) h0 hs hw hl hh hk hb.1 hb.2.1 hb.2.2;exact⟨_,_,e,.inl rfl,_,_,_,_,_,rfl⟩
noncomputable def gC(o d lo hi:Pt):Option ((Int×Int)×(Int×Int)) :=
 (dO ((0,1),none) o.1 d.1 lo.1 hi.1).bind λa=>(dO a o.2.1 d.2.1 lo.2.1 hi.2.1).bind λb=>(dO b o.2.2 d.2.2 lo.2.2 hi.2.2).bind λc=>match c.2 with
  |none=>none
  |some l=>if fW l c.1 then none else some (c.1,l)
noncomputable def Ej:Option ((Int×Int)×(Int×Int))->D
 |none => .non
 |some p => .tup [rD p.1,rD p.2]
def aN(k:Nat)(p:Pt):Prop:=Bd k p.1/\Bd k p.2.1/\Bd k p.2.2
def aN.le{k l:Nat}{p:Pt}(h:aN k p)(hl:k<=l):aN l p:=⟨h.1.le hl,h.2.1.le hl,h.2.2.le hl⟩
theorem nG{a b:Ax}{s w lo hi:Int}(e:dO a s w lo hi=some b)(h:a.2≠none\/w≠0):b.2≠none:=by
 unfold dO at e;split at e
 .split at e
  .cases e
  .cases e;rcases h with h|h
   .exact h
   .rename_i q _;exact absurd q h
 .cases e;simp
theorem Wl{k:Nat}{o d lo hi:Pt}(ho:aN k o)(hd:aN k d)(hl:aN k lo)(hh:aN k hi)(h0:d≠(0,0,0))(hk:k<=10000)(S:So):
 vB [.tup [pD o,pD d],.tup [pD lo,pD hi]] S=some (Ej (gC o d lo hi),S):=by
 have s1:Lz [some (.tup [pD o,pD d]),some (.tup [pD lo,pD hi]),none,none,none,none,none,none,none] S=some (.nx,[some (.tup [pD o,pD d]),some (.tup [pD lo,pD hi]),some (R2 0 1),none,none,none,none,none,none],S):=by unfold Lz;wtm_at "?a"
 have s2:LC [some (.tup [pD o,pD d]),some (.tup [pD lo,pD hi]),some (R2 0 1),none,none,none,none,none,none] S=some (.nx,[some (.tup [pD o,pD d]),some (.tup [pD lo,pD hi]),some (R2 0 1),some .non,none,none,none,none,none],S):=by unfold LC;wtm_at "?a"
 have b0:zG (k+1) ((0,1),none):=by
  refine⟨?_,?_,λm hm=>by cases hm⟩
  .unfold Bd;simp;exact Nat.pos_of_ne_zero (by simp)
  .unfold Bd;simp;
 have st0:rR (.tup [pD o,pD d]) (.tup [pD lo,pD hi]) ((0,1),none) [some (.tup [pD o,pD d]),some (.tup [pD lo,pD hi]),some (R2 0 1),some .non,none,none,none,none,none]:=⟨_,_,_,_,_,rfl⟩
 have it:qp (ak (eB aL (aj 0) (eC (.int 0))) (ak (eB aL (aj 0) (eC (.int 1))) (ak (eB aL (aj 1) (eC (.int 0))) (ak (eB aL (aj 1) (eC (.int 1))) au)))) [some (.tup [pD o,pD d]),some (.tup [pD lo,pD hi]),some (R2 0 1),some .non,none,none,none,none,none] S=some (.zip [pD o,pD d,pD lo,pD hi],S):=by wtm_at "?j"
 have n0:dj (.zip [pD o,pD d,pD lo,pD hi]) 0 S=some (some (.tup [.int o.1,.int d.1,.int lo.1,.int hi.1])):=rfl;have n1:dj (.zip [pD o,pD d,pD lo,pD hi]) (0+1) S=some (some (.tup [.int o.2.1,.int d.2.1,.int lo.2.1,.int hi.2.1])):=rfl;have n2:dj (.zip [pD o,pD d,pD lo,pD hi]) (0+1+1) S=some (some (.tup [.int o.2.2,.int d.2.2,.int lo.2.2,.int hi.2.2])):=rfl;have n3:dj (.zip [pD o,pD d,pD lo,pD hi]) (0+1+1+1) S=some none:=rfl;obtain⟨σ1,g1,t1⟩:=K7 (S:=S) ho.1 hd.1 hl.1 hh.1 hk b0 st0;have loop:match(dO ((0,1),none) o.1 d.1 lo.1 hi.1).bind λa=>(dO a o.2.1 d.2.1 lo.2.1 hi.2.1).bind λb=>dO b o.2.2 d.2.2 lo.2.2 hi.2.2 with
  |none=>∃σ',LK [some (.tup [pD o,pD d]),some (.tup [pD lo,pD hi]),some (R2 0 1),some .non,none,none,none,none,none] S=some (.rt .non,σ',S)
  |some c=>∃σ',LK [some (.tup [pD o,pD d]),some (.tup [pD lo,pD hi]),some (R2 0 1),some .non,none,none,none,none,none] S=some (.nx,σ',S)/\rR (.tup [pD o,pD d]) (.tup [pD lo,pD hi]) c σ'/\zG (k+1) c/\c.2≠none:=by
  cases e1:dO ((0,1),none) o.1 d.1 lo.1 hi.1 with
  |none =>
   rw[e1] at t1;obtain⟨σ2,t1⟩:=t1;exact⟨σ2,zdt it rfl (lY n0 g1 t1 Ft)⟩
  |some a =>
   rw[e1] at t1;obtain⟨fl,σ2,t1,hfl,st1⟩:=t1;have b1:=yu ho.1 hd.1 hl.1 hh.1 b0 e1;obtain⟨σ3,g2,t2⟩:=K7 (S:=S) ho.2.1 hd.2.1 hl.2.1 hh.2.1 hk b1 st1;simp only[bQ];cases e2:dO a o.2.1 d.2.1 lo.2.1 hi.2.1 with
   |none =>
    rw[e2] at t2;obtain⟨σ4,t2⟩:=t2;refine⟨σ4,zdt it rfl (lY n0 g1 t1 ?_)⟩;rcases hfl with rfl|rfl<;>exact lY n1 g2 t2 Ft
   |some b =>
    rw[e2] at t2;obtain⟨fl2,σ4,t2,Di,st2⟩:=t2;have b2:=yu ho.2.1 hd.2.1 hl.2.1 hh.2.1 b1 e2;obtain⟨σ5,g3,t3⟩:=K7 (S:=S) ho.2.2 hd.2.2 hl.2.2 hh.2.2 hk b2 st2;simp only[bQ];cases e3:dO b o.2.2 d.2.2 lo.2.2 hi.2.2 with
    |none =>
     rw[e3] at t3;obtain⟨σ6,t3⟩:=t3;refine⟨σ6,zdt it rfl (lY n0 g1 t1 ?_)⟩;rcases hfl with rfl|rfl<;>refine lY n1 g2 t2 ?_<;>rcases Di with rfl|rfl<;>exact lY n2 g3 t3 Ft
    |some c =>
     rw[e3] at t3;obtain⟨PX,σ6,t3,Pu,st3⟩:=t3;refine⟨σ6,zdt it rfl (lY n0 g1 t1 ?_),st3,yu ho.2.2 hd.2.2 hl.2.2 hh.2.2 b2 e3,?_⟩
     .rcases hfl with rfl|rfl<;>refine lY n1 g2 t2 ?_<;>rcases Di with rfl|rfl<;>refine lY n2 g3 t3 ?_<;>rcases Pu with rfl|rfl<;>exact J4 (g:=Dm) (f:=pR) n3
     .by_cases q1:d.1=0
      .by_cases q2:d.2.1=0
       .have q3:d.2.2≠0:=λq3=>h0 (by show(d.1,d.2.1,d.2.2)=_;rw[q1,q2,q3]);exact nG e3 (.inr q3)
       .exact nG e3 (.inl (nG e2 (.inr q2)))
      .exact nG e3 (.inl (nG e2 (.inl (nG e1 (.inr q1)))))
 unfold gC;have eb:((dO ((0,1),none) o.1 d.1 lo.1 hi.1).bind λa=>(dO a o.2.1 d.2.1 lo.2.1 hi.2.1).bind λb=>(dO b o.2.2 d.2.2 lo.2.2 hi.2.2).bind λc=>(match c.2 with
  |none=>none
  |some l=>if fW l c.1 then none else some (c.1,l):Option ((Int×Int)×(Int×Int))))=((dO ((0,1),none) o.1 d.1 lo.1 hi.1).bind λa=>(dO a o.2.1 d.2.1 lo.2.1 hi.2.1).bind λb=>dO b o.2.2 d.2.2 lo.2.2 hi.2.2).bind λc=>(match c.2 with
  |none=>none
  |some l=>if fW l c.1 then none else some (c.1,l)):=by
  simp only[Option.bind_assoc]
 rw[eb];cases e:(dO ((0,1),none) o.1 d.1 lo.1 hi.1).bind λa=>(dO a o.2.1 d.2.1 lo.2.1 hi.2.1).bind λb=>dO b o.2.2 d.2.2 lo.2.2 hi.2.2 with
 |none =>
  rw[e] at loop;obtain⟨σ',loop⟩:=loop;apply bY
  .wtm_at "?b"
   unfold Gk;exact aH s1 (aV (aH s2 (aV (aH loop d7))))
  .wtm_at "?c"
  .rfl
 |some c =>
  rw[e] at loop;obtain⟨σ',loop,⟨j4,j5,j6,j7,j8,rfl⟩,hb,hn⟩:=loop;obtain⟨⟨f1,f2⟩,l⟩:=c;cases l with
  |none=>exact absurd rfl hn
  |some l =>
   obtain⟨l1,l2⟩:=l;obtain⟨c1,c2,c3⟩:=hb;obtain⟨c3,c4⟩:=c3 _ rfl;simp only at c1 c2 c3 c4;simp only[bQ];by_cases hc:l1*f2<f1*l2
   .rw[if_pos (show fW (l1,l2) (f1,f2) from hc)];apply bY
    .wtm_at "?b"
     unfold Gk;refine aH s1 (aV (aH s2 (aV (aH loop (aV (aH (fl := .rt .non) (S1:=S) (σ1:=[some (.tup [pD o,pD d]),some (.tup [pD lo,pD hi]),some (R2 f1 f2),some (R2 l1 l2),j4,j5,j6,j7,j8]) ?_ d7))))));show Am [some (.tup [pD o,pD d]),some (.tup [pD lo,pD hi]),some (R2 f1 f2),some (R2 l1 l2),j4,j5,j6,j7,j8] S=_;unfold Am;wtm_at "?a"
    .wtm_at "?c"
    .rfl
   .rw[if_neg (show ¬fW (l1,l2) (f1,f2) from hc)];apply bY
    .wtm_at "?b"
     unfold Gk;refine aH s1 (aV (aH s2 (aV (aH loop (aV (aH (fl := .nx) (S1:=S) (σ1:=[some (.tup [pD o,pD d]),some (.tup [pD lo,pD hi]),some (R2 f1 f2),some (R2 l1 l2),j4,j5,j6,j7,j8]) ?_ (aV (aH (fl := .rt (.tup [R2 f1 f2,R2 l1 l2])) (S1:=S) (σ1:=[some (.tup [pD o,pD d]),some (.tup [pD lo,pD hi]),some (R2 f1 f2),some (R2 l1 l2),j4,j5,j6,j7,j8]) ?_ d7))))))))
     .show Am [some (.tup [pD o,pD d]),some (.tup [pD lo,pD hi]),some (R2 f1 f2),some (R2 l1 l2),j4,j5,j6,j7,j8] S=_;unfold Am;wtm_at "?a"
     .unfold VN;wtm_at "?a"
    .wtm_at "?c"
    .rfl
end MX.P
end
section
local macro_rules | `(tactic| wtm_at "?d") => `(tactic| (with_reducible assumption))
namespace MX.P
open PySem L2 MX
structure xH(k:Nat)(p:(Int×Int)×(Int×Int)):Prop where
 f0:0<=p.1.1
 f2:0<p.1.2
 l0:0<=p.2.1
 l2:0<p.2.2
 b1:Bd k p.1.1
 b2:Bd k p.1.2
 b3:Bd k p.2.1
 b4:Bd k p.2.2
def Tv{s w lo hi:Int}(h:w≠0):0<(iB s w lo hi).2/\0<(jk s w lo hi).2:=by unfold iB jk;split<;>simp<;>omega
def Hy(a:Ax):Prop:=0<=a.1.1/\0<a.1.2/\∀m,a.2=some m->0<m.2
theorem FJ{a a':Ax}{s w lo hi:Int}(h:Hy a)(e:dO a s w lo hi=some a'):Hy a':=by
 unfold dO at e;split at e
 .split at e
  .cases e
  .cases e;exact h
 .rename_i hw;cases e;obtain⟨p1,p2⟩:=Tv (s:=s) (lo:=lo) (hi:=hi) hw;refine⟨?_,?_,λm hm=>?_⟩
  .simp only;unfold p6;split
   .rename_i hc;unfold fW at hc;have:=h.1;have h2:=h.2.1;have h3:0<=a.1.1*(iB s w lo hi).2:=Int.mul_nonneg this (by omega);have h4:0<(iB s w lo hi).1*a.1.2:=by omega
    exact Int.le_of_lt (Int.pos_of_mul_pos_left h4 h2)
   .exact h.1
  .rcases Gm w a.1 (iB s w lo hi) with q|q<;>simp only[q]
   .exact h.2.1
   .exact p1
  .cases hm;rcases Ku a.2 (jk s w lo hi) with q|⟨m,q1,q⟩<;>simp only[q]
   .exact p2
   .exact h.2.2 m q1
def leQ(a b:Int×Int):Prop:=a.1*b.2<=b.1*a.2
def tK{a b:Int×Int}(h:¬fW b a):leQ a b:=by unfold fW at h;unfold leQ;omega
def Uj{a b:Int×Int}(h:leQ a b):¬fW b a:=by unfold leQ at h;unfold fW;omega
def zmp(a:Int×Int):leQ a a:=Int.le_refl _
theorem yM{a b c:Int×Int}(ha:0<a.2)(hb:0<b.2)(hc:0<c.2)(h1:leQ a b)(h2:leQ b c):leQ a c:=by
 unfold leQ at *
 have e1:=Int.mul_le_mul_of_nonneg_right h1 (Int.le_of_lt hc);have e2:=Int.mul_le_mul_of_nonneg_right h2 (Int.le_of_lt ha);refine Int.le_of_mul_le_mul_right (a:=b.2) ?_ hb;have i1:a.1*c.2*b.2=a.1*b.2*c.2:=by grind
 have i2:c.1*a.2*b.2=c.1*b.2*a.2:=by grind
 have i3:b.1*a.2*c.2=b.1*c.2*a.2:=by grind
 omega
def zi2{a b:Int×Int}(ha:0<a.2)(hb:0<b.2)(h1:leQ a b)(h2:leQ b a):dF a.1 a.2=dF b.1 b.2:=by
 unfold leQ at *
 exact JL (by omega) (by omega) (by omega)
def zoX{a:Int×Int}(ha:0<a.2):leQ a (dF a.1 a.2)/\leQ (dF a.1 a.2) a:=by have:=zi3 (a:=a.1) (b:=a.2) (by omega);unfold leQ;omega
theorem UW{k:Nat}{o d lo hi:Pt}{p:(Int×Int)×(Int×Int)}(ho:aN k o)(hd:aN k d)(hl:aN k lo)(hh:aN k hi)(e:gC o d lo hi=some p):xH (k+1) p:=by
 unfold gC at e;simp only[aW] at e;obtain⟨a,e1,b,e2,c,e3,e4⟩:=e;have b0:zG (k+1) ((0,1),none):=by
  refine⟨?_,?_,λm hm=>by cases hm⟩
  .unfold Bd;simp;exact Nat.pos_of_ne_zero (by simp)
  .unfold Bd;simp
 have p0:Hy ((0,1),none):=⟨by simp,by simp,λm hm=>by cases hm⟩
 have b3:=yu ho.2.2 hd.2.2 hl.2.2 hh.2.2 (yu ho.2.1 hd.2.1 hl.2.1 hh.2.1 (yu ho.1 hd.1 hl.1 hh.1 b0 e1) e2) e3;have p3:=FJ (FJ (FJ p0 e1) e2) e3;split at e4
 .cases e4
 .rename_i l hl';split at e4
  .cases e4
  .rename_i hc;cases e4;obtain⟨q1,q2⟩:=b3.2.2 _ hl';have q3:=p3.2.2 _ hl';have hle:=tK hc;refine⟨p3.1,p3.2.1,?_,q3,b3.1,b3.2.1,q1,q2⟩;unfold leQ at hle;have h1:0<=c.1.1*l.2:=Int.mul_nonneg p3.1 (by omega);have h2:0<=l.1*c.1.2:=by omega
   refine Int.le_of_mul_le_mul_right (a:=c.1.2) ?_ p3.2.1;simpa using h2
noncomputable def Pa:Option ((Int×Int)×(Int×Int))->D
 |none => .non
 |some p=>rD (dF p.1.1 p.1.2)
theorem zgx{k:Nat}{o d lo hi:Pt}(ho:aN k o)(hd:aN k d)(hl:aN k lo)(hh:aN k hi)(h0:d≠(0,0,0))(hk:k<=7000)(S:So):
 LQ [.tup [pD o,pD d],.tup [pD lo,pD hi]] S=some (Pa (gC o d lo hi),S):=by
 have hs:=Wl ho hd hl hh h0 (by omega) S;cases e:gC o d lo hi with
 |none =>
  rw[e] at hs;have hs:vB [.tup [pD o,pD d],.tup [pD lo,pD hi]] S=some (.non,S):=hs;apply bY
  .wtm_at "?b"
   unfold Ly;wtm_at "?a"
  .wtm_at "?c"
  .rfl
 |some p =>
  rw[e] at hs;have ok:=UW ho hd hl hh e;obtain⟨⟨f1,f2⟩,⟨l1,l2⟩⟩:=p;have hs:vB [.tup [pD o,pD d],.tup [pD lo,pD hi]] S=some (.tup [R2 f1 f2,R2 l1 l2],S):=hs;have t1:=Bc ok.f0 ok.f2 ok.b2 (show k+1<=8000 by omega) S;simp only at t1;apply bY
  .wtm_at "?b"
   unfold Ly;wtm_at "?a"
  .wtm_at "?c"
  .rfl
theorem Zq{d:Pt}(h:d≠(0,0,0)):¬(pD d=P3 0 0 0):=λe=>by simp only[D.tup.injEq,List.cons.injEq,D.int.injEq,and_true] at e;exact h (by show(d.1,d.2.1,d.2.2)=_;rw[e.1,e.2.1,e.2.2])
theorem Xc{o d:Pt}(h0:d≠(0,0,0))(S:So):t6 [.tup [pD o,pD d]] S=some (.non,S):=by
 have hne:=Zq h0;apply V5
 .wtm_at "?b"
  unfold Bm;wtm_at "?a"
 .wtm_at "?c"
theorem zfw{k:Nat}{o d lo hi:Pt}(ho:aN k o)(hd:aN k d)(hl:aN k lo)(hh:aN k hi)(h0:d≠(0,0,0))(hk:k<=7000)(S:So):
 yK [.tup [pD o,pD d],.tup [.str "box",pD lo,pD hi]] S=some (Pa (gC o d lo hi),S):=by
 have hm:=zgx ho hd hl hh h0 hk S;apply bY
 .wtm_at "?b"
  unfold Kr;wtm_at "?a"
 .wtm_at "?c"
 .cases gC o d lo hi<;>rfl
end MX.P
end
section
namespace MX.P
open PySem L2 MX
noncomputable def wb(a b:Pt):Pt:=(b.1 - a.1,b.2.1 - a.2.1,b.2.2 - a.2.2)
noncomputable def aQ(a b:Pt):Int:=a.1*b.1+a.2.1*b.2.1+a.2.2*b.2.2
noncomputable def aG(a b:Pt):Pt:=(a.2.1*b.2.2 - a.2.2*b.2.1,a.2.2*b.1 - a.1*b.2.2,a.1*b.2.1 - a.2.1*b.1)
theorem aN.wb{k l:Nat}{a b:Pt}(ha:aN k a)(hb:aN l b):aN (max k l+1) (wb a b) :=
 ⟨(hb.1.sub ha.1).le (by omega),(hb.2.1.sub ha.2.1).le (by omega),(hb.2.2.sub ha.2.2).le (by omega)⟩
theorem aN.cross{k l:Nat}{a b:Pt}(ha:aN k a)(hb:aN l b):aN (k+l+1) (aG a b) :=
 ⟨((ha.2.1.mul hb.2.2).sub (ha.2.2.mul hb.2.1)).le (by omega),((ha.2.2.mul hb.1).sub (ha.1.mul hb.2.2)).le (by omega),((ha.1.mul hb.2.1).sub (ha.2.1.mul hb.1)).le (by omega)⟩
theorem aN.dot{k l:Nat}{a b:Pt}(ha:aN k a)(hb:aN l b):Bd (k+l+2) (aQ a b) :=
 (((ha.1.mul hb.1).add (ha.2.1.mul hb.2.1)).add (ha.2.2.mul hb.2.2)).le (by omega)
def sp_wb(a b:Pt)(S:So):eE [pD a,pD b] S=some (pD (wb a b),S):=zfu _ _ _ _ _ _ _
def sp_vdot{k l:Nat}{a b:Pt}(ha:aN k a)(hb:aN l b)(h:k+l<=134217728)(S:So):fP [pD a,pD b] S=some (.int (aQ a b),S):=ZS ha.1 ha.2.1 ha.2.2 hb.1 hb.2.1 hb.2.2 h S
def sp_vcross{k l:Nat}{a b:Pt}(ha:aN k a)(hb:aN l b)(h:k+l<=134217728)(S:So):ji [pD a,pD b] S=some (pD (aG a b),S):=zlP ha.1 ha.2.1 ha.2.2 hb.1 hb.2.1 hb.2.2 h S
theorem Zo{a b:Pt}:pD a=pD b↔a=b:=by
 constructor
 .intro h;simp only[D.tup.injEq,List.cons.injEq,D.int.injEq,and_true] at h;exact Prod.ext h.1 (Prod.ext h.2.1 h.2.2)
 .intro h;rw[h]
def yG{a:Pt}:pD a=P3 0 0 0↔a=(0,0,0):=Zo (b:=(0,0,0))
noncomputable def jz(a b:Int):Int:=if b>a then b else a
noncomputable def pG(a b:Int):Int:=if b<a then b else a
noncomputable abbrev Tq:=Option (Int×Int)
noncomputable def N8:Tq->D
 |none => .non
 |some p=>rD (dF p.1 p.2)
noncomputable def yg(o d a b:Pt):Tq :=
 if aG (wb o a) d=(0,0,0) then
  if jz (aQ (wb o a) d) (aQ (wb o b) d)<0 then none else some (jz (pG (aQ (wb o a) d) (aQ (wb o b) d)) 0,aQ d d)
 else none
noncomputable def nQ(o d a b:Pt):Tq :=
 if aG d (wb a b)=(0,0,0) then yg o d a b
 else if aQ (wb o a) (aG d (wb a b))=0 then
  if aQ (aG (wb o a) (wb a b)) (aG d (wb a b))<0\/aQ (aG (wb o a) d) (aG d (wb a b))<0\/aQ (aG d (wb a b)) (aG d (wb a b))<aQ (aG (wb o a) d) (aG d (wb a b)) then none
  else some (aQ (aG (wb o a) (wb a b)) (aG d (wb a b)),aQ (aG d (wb a b)) (aG d (wb a b)))
 else none
theorem Gq(x:Int):0<=x*x:=by
 by_cases h:0<=x
 .exact Int.mul_nonneg h h
 .have:=Int.mul_nonneg (show 0 <= -x by omega) (show 0 <= -x by omega)
  rwa [Int.neg_mul_neg] at this
def Jw{x:Int}(h:x≠0):0<x*x:=by
 have h1:=Gq x;have:x*x≠0:=λe=>by rcases Int.mul_eq_zero.mp e with e|e<;>exact h e
 omega
theorem vM{a:Pt}(h:a≠(0,0,0)):0<aQ a a:=by
 unfold aQ;have h1:=Gq a.1;have h2:=Gq a.2.1;have h3:=Gq a.2.2;by_cases q1:a.1=0
 .by_cases q2:a.2.1=0
  .have q3:a.2.2≠0:=λq3=>h (by show(a.1,a.2.1,a.2.2)=_;rw[q1,q2,q3]);have:=Jw q3;omega
  .have:=Jw q2;omega
 .have:=Jw q1;omega
end MX.P
local macro_rules | `(tactic| wtm_at "?d") => `(tactic| first | (with_reducible exact MX.P.sp_wb _ _ _) | ((with_reducible apply MX.P.sp_vdot); (focus with_reducible assumption); (focus with_reducible assumption); (·omega)) | ((with_reducible apply MX.P.sp_vcross); (focus with_reducible assumption); (focus with_reducible assumption); (·omega)) | (with_reducible assumption))
namespace MX.P
open PySem L2 MX
theorem zfx{k:Nat}{o d a b:Pt}(ho:aN k o)(hd:aN k d)(ha:aN k a)(hb:aN k b)(h0:d≠(0,0,0))(hk:k<=1500)(S:So):
 MJ [.tup [pD o,pD d],pD a,pD b] S=some (N8 (yg o d a b),S):=by
 have w1:=(ho.wb ha).le (show max k k+1<=k+1 by omega);have w2:=(ho.wb hb).le (show max k k+1<=k+1 by omega);have hdd:=hd.dot hd;have hpos:=vM h0;unfold yg;by_cases hc:aG (wb o a) d=(0,0,0)
 .rw[if_pos hc];have hc':pD (aG (wb o a) d)=P3 0 0 0:=yG.mpr hc;by_cases hm:jz (aQ (wb o a) d) (aQ (wb o b) d)<0
  .rw[if_pos hm];unfold jz at hm;apply bY
   .wtm_at "?b"
    unfold G5;wtm_at "?a"
   .wtm_at "?c"
   .rfl
  .rw[if_neg hm];have hnn:0<=jz (pG (aQ (wb o a) d) (aQ (wb o b) d)) 0:=by unfold jz;split<;>omega
   have hl:=Bc hnn hpos hdd (show k+k+2<=8000 by omega) S;unfold jz pG at hl;unfold jz at hm;apply bY
   .wtm_at "?b"
    unfold G5;wtm_at "?a"
   .wtm_at "?c"
   .rfl
 .rw[if_neg hc];have hc':¬pD (aG (wb o a) d)=P3 0 0 0:=λe=>hc (yG.mp e);apply bY
  .wtm_at "?b"
   unfold G5;wtm_at "?a"
  .wtm_at "?c"
  .rfl
end MX.P
end
section
local macro_rules | `(tactic| wtm_at "?d") => `(tactic| first | (with_reducible exact MX.P.sp_wb _ _ _) | ((with_reducible apply MX.P.sp_vdot); (focus with_reducible assumption); (focus with_reducible assumption); (·omega)) | ((with_reducible apply MX.P.sp_vcross); (focus with_reducible assumption); (focus with_reducible assumption); (·omega)) | (with_reducible assumption))
namespace MX.P
open PySem L2 MX
theorem zeA{k:Nat}{o d a b:Pt}(ho:aN k o)(hd:aN k d)(ha:aN k a)(hb:aN k b)(h0:d≠(0,0,0))(hk:k<=1500)(S:So):
 Mw [.tup [pD o,pD d],pD a,pD b] S=some (N8 (nQ o d a b),S):=by
 have w1:=(ho.wb ha).le (show max k k+1<=k+1 by omega);have w2:=(ha.wb hb).le (show max k k+1<=k+1 by omega);have w3:=hd.cross w2;have w4:=w1.cross w2;have w5:=w1.cross hd;have hdd:=w3.dot w3;have hal:=zfx ho hd ha hb h0 hk S;unfold nQ;by_cases hc:aG d (wb a b)=(0,0,0)
 .rw[if_pos hc];have hc':pD (aG d (wb a b))=P3 0 0 0:=yG.mpr hc;apply bY
  .wtm_at "?b"
   unfold vK;wtm_at "?a"
  .wtm_at "?c"
  .cases yg o d a b<;>rfl
 .rw[if_neg hc];have hpos:=vM hc;have hc':¬pD (aG d (wb a b))=P3 0 0 0:=λe=>hc (yG.mp e);by_cases hq:aQ (wb o a) (aG d (wb a b))=0
  .rw[if_pos hq];by_cases p1:aQ (aG (wb o a) (wb a b)) (aG d (wb a b))<0
   .rw[if_pos (.inl p1)];apply bY
    .wtm_at "?b"
     unfold vK;wtm_at "?a"
    .wtm_at "?c"
    .rfl
   .by_cases p2:aQ (aG (wb o a) d) (aG d (wb a b))<0
    .rw[if_pos (.inr (.inl p2))];apply bY
     .wtm_at "?b"
      unfold vK;wtm_at "?a"
     .wtm_at "?c"
     .rfl
    .by_cases p3:aQ (aG d (wb a b)) (aG d (wb a b))<aQ (aG (wb o a) d) (aG d (wb a b))
     .rw[if_pos (.inr (.inr p3))];apply bY
      .wtm_at "?b"
       unfold vK;wtm_at "?a"
      .wtm_at "?c"
      .rfl
     .rw[if_neg (by rintro(q|q|q);exact p1 q;exact p2 q;exact p3 q)];have hl:=Bc (show 0<=aQ (aG (wb o a) (wb a b)) (aG d (wb a b)) by omega) hpos hdd (show k+(k+1)+1+(k+(k+1)+1)+2<=8000 by omega) S;apply bY
      .wtm_at "?b"
       unfold vK;wtm_at "?a"
      .wtm_at "?c"
      .rfl
  .rw[if_neg hq];apply bY
   .wtm_at "?b"
    unfold vK;wtm_at "?a"
   .wtm_at "?c"
   .rfl
def n8(k:Nat)(t:Tq):Prop:=∀p,t=some p->0<=p.1/\0<p.2/\Bd k p.1/\Bd k p.2
theorem yI{k:Nat}{o d a b:Pt}(ho:aN k o)(hd:aN k d)(ha:aN k a)(hb:aN k b)(h0:d≠(0,0,0)):n8 (4*k+10) (nQ o d a b):=by
 have w1:=(ho.wb ha).le (show max k k+1<=k+1 by omega);have w0:=(ho.wb hb).le (show max k k+1<=k+1 by omega);have w2:=(ha.wb hb).le (show max k k+1<=k+1 by omega);have w3:=hd.cross w2;have w4:=w1.cross w2;have hdd:=w3.dot w3;have h1:=vM h0;intro p hp;unfold nQ at hp;split at hp
 .unfold yg at hp;split at hp
  .split at hp
   .cases hp
   .cases hp;have a1:=w1.dot hd;have a2:=w0.dot hd;refine⟨?_,h1,?_,(hd.dot hd).le (by omega)⟩
    .simp only;unfold jz;split<;>omega
    .simp only;have hz:Bd (4*k+10) 0:=(Bd.lit 0).le (Nat.zero_le _);have e1:=a1.le (show k+1+k+2<=4*k+10 by omega);have e2:=a2.le (show k+1+k+2<=4*k+10 by omega);unfold jz pG;split<;>split<;>assumption
  .cases hp
 .rename_i hc;have hpos:=vM hc;split at hp
  .split at hp
   .cases hp
   .rename_i hn;cases hp;refine⟨?_,hpos,(w4.dot w3).le (by omega),hdd.le (by omega)⟩;simp only;exact Int.not_lt.mp λq=>hn (.inl q)
  .cases hp
noncomputable def nP(t:Tq):Tq:=t.map λp=>dF p.1 p.2
noncomputable def tD(t:Tq):D:=match t with
 |none => .non
 |some p=>rD p
def zp0(t:Tq):N8 t=tD (nP t):=by cases t<;>rfl
noncomputable def pick(best new:Tq):Tq:=match new with
 |none=>best
 |some t=>match best with
  |none=>some t
  |some b=>if fW t b then some t else some b
noncomputable def pI(o d a b c:Pt):Tq:=pick (pick (pick none (nP (nQ o d a b))) (nP (nQ o d b c))) (nP (nQ o d c a))
theorem yH{k:Nat}{t:Tq}(h:n8 k t):n8 k (nP t):=λp hp=>by
 unfold nP at hp;cases t with
 |none=>cases hp
 |some q =>
  cases hp;obtain⟨h1,h2,h3,h4⟩:=h q rfl;obtain⟨b1,b2⟩:=Fx h3 h4 h2;exact⟨Bg h1 h2,yP _ _,b1,b2⟩
def Af{k:Nat}{s t:Tq}(h:n8 k s)(g:n8 k t):n8 k (pick s t):=by
 unfold pick;split
 .exact h
 .split
  .exact g
  .split
   .exact g
   .exact h
noncomputable abbrev eL(a b c:Pt):O := .lst [.tup [pD a,pD b],.tup [pD b,pD c],.tup [pD c,pD a]]
theorem RM{n:Nat}{xs:List D}{S:So}(h:S[n]?=some (.lst xs)):u6 (.lst n) S=some xs.length:=by show(match S[n]? with|some (.lst xs)=>some xs.length|some (.frz xs)=>some xs.length|_=>none)=_;rw[h]
def R3{n i:Nat}{xs:List D}{S:So}(h:S[n]?=some (.lst xs))(hi:xs[i]?=none):dj (.lst n) i S=some none:=by unfold dj;simp only;rw[h];simp only;rw[hi]
theorem zhd{a b c:Pt}{S:So}(hS:WF S):vG [.tup [pD a,pD b,pD c]] S=some (.ref S.length,S++[eL a b c]):=by
 apply Ad
 .wtm_at "?b"
  unfold K1;wtm_at "?a"
 .intro h;simp[D.lo] at h
 .simp
 .simp[D.lo]
 .exact hS.snoc rfl
theorem zgy{a b c:Pt}{n:Nat}{S:So}(hS:WF S)(hn:S[n]?=some (.lst [pD a,pD b,pD c])):vG [.ref n] S=some (.ref S.length,S++[eL a b c]):=by
 apply Ad
 .wtm_at "?b"
  unfold K1;wtm_at "?a"
 .intro h;simp[D.lo] at h
 .simp
 .simp[D.lo]
 .exact hS.snoc rfl
theorem Kz{k:Nat}{o d p q:Pt}{tr:D}{best:Tq}{x5:Option D}(ho:aN k o)(hd:aN k d)(hp:aN k p)(hq:aN k q)(h0:d≠(0,0,0))(hk:k<=1500)(hb:n8 (4*k+10) best)(S:So):
 ∃y,NT [some (.tup [pD o,pD d]),some tr,some (tD best),some (pD p),some (pD q),x5] S=some (.nx,[some (.tup [pD o,pD d]),some tr,some (tD (pick best (nP (nQ o d p q)))),some (pD p),some (pD q),y],S):=by
 have hs:=zeA ho hd hp hq h0 hk S;rw[zp0] at hs;have hb':=yH (yI ho hd hp hq h0);generalize nP (nQ o d p q)=t at *
 have s1:Nz [some (.tup [pD o,pD d]),some tr,some (tD best),some (pD p),some (pD q),x5] S=some (.nx,[some (.tup [pD o,pD d]),some tr,some (tD best),some (pD p),some (pD q),some (tD t)],S):=by unfold Nz;wtm_at "?a"
 refine⟨some (tD t),?_⟩;unfold NT;refine aH s1 (aV (aH ?_ (aV dR)));unfold pick;cases t with
 |none =>
  show qN [some (.tup [pD o,pD d]),some tr,some (tD best),some (pD p),some (pD q),some .non] S=some (_,[some (.tup [pD o,pD d]),some tr,some (tD best),some (pD p),some (pD q),some .non],_);unfold qN;wtm_at "?a"
 |some t =>
  obtain⟨t1,t2⟩:=t;obtain⟨_,_,b1,b2⟩:=hb' _ rfl;cases best with
  |none =>
   show qN [some (.tup [pD o,pD d]),some tr,some .non,some (pD p),some (pD q),some (R2 t1 t2)] S=some (_,[some (.tup [pD o,pD d]),some tr,some (R2 t1 t2),some (pD p),some (pD q),some (R2 t1 t2)],_);unfold qN;wtm_at "?a"
  |some m =>
   obtain⟨m1,m2⟩:=m;obtain⟨_,_,c1,c2⟩:=hb _ rfl;have hless:=sp_is_less b1 b2 c1 c2 (show 4*k+10+(4*k+10)<=134217728 by omega) S;simp only at hless;by_cases hc:t1*m2<m1*t2
   .simp only;rw[if_pos (show fW (t1,t2) (m1,m2) from hc)];show qN [some (.tup [pD o,pD d]),some tr,some (R2 m1 m2),some (pD p),some (pD q),some (R2 t1 t2)] S=some (_,[some (.tup [pD o,pD d]),some tr,some (R2 t1 t2),some (pD p),some (pD q),some (R2 t1 t2)],_);unfold qN;wtm_at "?a"
   .simp only;rw[if_neg (show ¬fW (t1,t2) (m1,m2) from hc)];show qN [some (.tup [pD o,pD d]),some tr,some (R2 m1 m2),some (pD p),some (pD q),some (R2 t1 t2)] S=some (_,[some (.tup [pD o,pD d]),some tr,some (R2 m1 m2),some (pD p),some (pD q),some (R2 t1 t2)],_);unfold qN;wtm_at "?a"
theorem WN{k:Nat}{o d a b c:Pt}(ho:aN k o)(hd:aN k d)(ha:aN k a)(hb:aN k b)(hc:aN k c)(h0:d≠(0,0,0))(hk:k<=1500)(S:So)(hS:WF S):
 yS [.tup [pD o,pD d],.tup [pD a,pD b,pD c]] S=some (tD (pI o d a b c),S):=by
 have n0:n8 (4*k+10) none:=λp hp=>by cases hp
 have n1:=Af n0 (yH (yI ho hd ha hb h0));have n2:=Af n1 (yH (yI ho hd hb hc h0));obtain⟨y1,e1⟩:=Kz (tr := .tup [pD a,pD b,pD c]) (x5:=none) ho hd ha hb h0 hk n0 (S++[eL a b c]);obtain⟨y2,e2⟩:=Kz (tr := .tup [pD a,pD b,pD c]) (x5:=y1) ho hd hb hc h0 hk n1 (S++[eL a b c]);obtain⟨y3,e3⟩:=Kz (tr := .tup [pD a,pD b,pD c]) (x5:=y2) ho hd hc ha h0 hk n2 (S++[eL a b c]);have hz:D.lo S.length (tD (pI o d a b c))=true:=by cases pI o d a b c<;>rfl
 have hn:(S++[eL a b c])[S.length]?=some (eL a b c):=cM;have ed:=zhd (a:=a) (b:=b) (c:=c) hS;have it:fO (eN (aO 1 vG) (ak (aj 1) au)) [some (.tup [pD o,pD d]),some (.tup [pD a,pD b,pD c]),some .non,none,none,none] S=some (.lst S.length,S++[eL a b c]):=by wtm_at "?j"
 have s2:Mu [some (.tup [pD o,pD d]),some (.tup [pD a,pD b,pD c]),some .non,none,none,none] S=some (.nx,[some (.tup [pD o,pD d]),some (.tup [pD a,pD b,pD c]),some (tD (pI o d a b c)),some (pD c),some (pD a),y3],S++[eL a b c]):=by unfold Mu;refine zdt it (n:=3) (RM hn) ?_;exact lY (d := .tup [pD a,pD b]) (vz hn rfl) rfl e1 (Fq (lY (d := .tup [pD b,pD c]) (vz hn rfl) rfl e2 (Fq (lY (d := .tup [pD c,pD a]) (vz hn rfl) rfl e3 (Fq (J4 (R3 hn rfl)))))))
 refine bY (σ':=[some (.tup [pD o,pD d]),some (.tup [pD a,pD b,pD c]),some (tD (pI o d a b c)),some (pD c),some (pD a),y3]) (S':=S++[eL a b c]) ?_ (by simp) hz;wtm_at "?b"
 unfold W7 WQ WR;exact aH (dI bC rfl) (aV (aH s2 (aV (aH (fZ (aC rfl)) d7))))
noncomputable def cA(o w p q:Pt):Int:=aQ w (aG (wb o p) (wb o q))
noncomputable def cJ(o w a b c:Pt):Bool:=(decide (0<=cA o w a b)&&decide (0<=cA o w b c)&&decide (0<=cA o w c a))||(decide (cA o w a b<=0)&&decide (cA o w b c<=0)&&decide (cA o w c a<=0))
theorem WW{k l:Nat}{o w a b c:Pt}(ho:aN k o)(hw:aN l w)(ha:aN k a)(hb:aN k b)(hc:aN k c)(hk:k<=10000)(hl:l<=30000)(S:So)(hS:WF S):
 pU [pD o,pD w,.tup [pD a,pD b,pD c]] S=some (.bl (cJ o w a b c),S):=by
 have w1:=(ho.wb ha).le (show max k k+1<=k+1 by omega);have w2:=(ho.wb hb).le (show max k k+1<=k+1 by omega);have w3:=(ho.wb hc).le (show max k k+1<=k+1 by omega);have c1:=w1.cross w2;have c2:=w2.cross w3;have c3:=w3.cross w1;have em:je [cA o w a b,cA o w b c,cA o w c a]=some (if cA o w c a<(if cA o w b c<cA o w a b then cA o w b c else cA o w a b) then cA o w c a else(if cA o w b c<cA o w a b then cA o w b c else cA o w a b)):=rfl;have eM:iV [cA o w a b,cA o w b c,cA o w c a]=some (if cA o w c a>(if cA o w b c>cA o w a b then cA o w b c else cA o w a b) then cA o w c a else(if cA o w b c>cA o w a b then cA o w b c else cA o w a b)):=rfl;generalize hx:(if cA o w c a<(if cA o w b c<cA o w a b then cA o w b c else cA o w a b) then cA o w c a else(if cA o w b c<cA o w a b then cA o w b c else cA o w a b))=x at em;generalize hy:(if cA o w c a>(if cA o w b c>cA o w a b then cA o w b c else cA o w a b) then cA o w c a else(if cA o w b c>cA o w a b then cA o w b c else cA o w a b))=y at eM;have e1:cJ o w a b c=(decide (0<=x)||decide (y<=0)):=by unfold cJ;rw[Bool.eq_iff_iff];simp only[o8,cL,su];subst hx hy;split<;>split<;>split<;>split<;>omega
 unfold cA at em eM;have gone:∃S1,fL (fO (aj 2)) (aK 0) eZ (eN (aO 2 eE) (ak (aj 1) (ak (aj 0) au))) [none,some 0] [some (pD o),some (pD w),some (.tup [pD a,pD b,pD c]),none,none] S=some (.ref S.length,S1)/\S1=S++[.lst [pD (wb o a),pD (wb o b),pD (wb o c)]]:=by refine⟨_,?_,rfl⟩;wtm_at "?a"
 obtain⟨S1,g1,g2⟩:=gone;have hS1:S1[S.length]?=some (.lst [pD (wb o a),pD (wb o b),pD (wb o c)]):=by rw[g2];exact cM
 have hW1:WF S1:=by rw[g2];exact hS.snoc rfl
 have ed:=zgy hW1 hS1;have hn2:(S1++[eL (wb o a) (wb o b) (wb o c)])[S1.length]?=some (eL (wb o a) (wb o b) (wb o c)):=cM;have sides:fL (fO (eN (aO 1 vG) (ak (aj 3) au))) (lJ 2 (gA (aK 0) (gA (aK 1) mX))) eZ (eN (aO 2 fP) (ak (aj 2) (ak (eN (aO 2 ji) (ak (aj 0) (ak (aj 1) au))) au))) [none,none,some 1]
  [some (pD o),some (pD w),some (.tup [pD a,pD b,pD c]),some (.ref S.length),none] S1=some (.ref (S1++[eL (wb o a) (wb o b) (wb o c)]).length,S1++[eL (wb o a) (wb o b) (wb o c)]++[.lst ([aQ w (aG (wb o a) (wb o b)),aQ w (aG (wb o b) (wb o c)),aQ w (aG (wb o c) (wb o a))].map D.int)]):=by
  refine vq (j := .lst S1.length) (n:=3) (S1:=S1++[eL (wb o a) (wb o b) (wb o c)]) ?_ (RM hn2) (uU rfl) rfl ?_
  .exact qL (bH (aM (aC rfl) bA) (cV rfl ed)) hn2
  .have one:∀(x y:Pt),aN (k+1) x->aN (k+1) y->eN (aO 2 fP) (ak (aj 2) (ak (eN (aO 2 ji) (ak (aj 0) (ak (aj 1) au))) au)) [some (pD x),some (pD y),some (pD w)] (S1++[eL (wb o a) (wb o b) (wb o c)])=some (.int (aQ w (aG x y)),S1++[eL (wb o a) (wb o b) (wb o c)]):=λx y hx hy=>by have hxy:=hx.cross hy;wtm_at "?a"
   refine yp (vz hn2 rfl) rfl yx (one _ _ w1 w2) rfl ?_;refine yp (vz hn2 rfl) rfl yx (one _ _ w2 w3) rfl ?_;refine yp (vz hn2 rfl) rfl yx (one _ _ w3 w1) rfl ?_;exact Fo (R3 hn2 rfl)
 rw[e1];have ir:∀o1 o2:O,(S1++[o1]++[o2]).take S.length=S:=λo1 o2=>by rw[g2];simp
 by_cases hxx:0<=x
 .rw[jY hxx,Bool.true_or];apply bY
  .wtm_at "?b"
   unfold MK;apply aH
   .exact dI g1 rfl
   .apply aV;apply aH
    .exact dI sides rfl
    .apply aV;apply aH
     .apply fZ;apply Jm
      .apply bI
       .apply bH
        .wtm_at "?a"
        .exact J7 cM em
       .wtm_at "?a"
       .wtm_at "?h"
      .apply gm
       .exact jY hxx
       .rfl
     .exact d7
  .exact ir _ _
  .rfl
 .rw[nj hxx,Bool.false_or];apply bY
  .wtm_at "?b"
   unfold MK;apply aH
   .exact dI g1 rfl
   .apply aV;apply aH
    .exact dI sides rfl
    .apply aV;apply aH
     .apply fZ;apply Jm
      .apply bI
       .apply bH
        .wtm_at "?a"
        .exact J7 cM em
       .wtm_at "?a"
       .wtm_at "?h"
      .apply eH
       .exact nj hxx
       .apply bI
        .apply bH
         .wtm_at "?a"
         .exact RV cM eM
        .wtm_at "?a"
        .wtm_at "?h"
     .exact d7
  .exact ir _ _
  .rfl
noncomputable def yd(o d a b c up:Pt):Tq:=if cJ o up a b c=true then some (0,1) else pI o d a b c
theorem zlz{o d t up:D}{S:So}(hg:pU [o,up,t] S=some (.bl true,S)):zc [.tup [o,d],t,up] S=some (R2 0 1,S):=by
 apply bY
 .wtm_at "?b"
  unfold Nm;wtm_at "?a"
 .wtm_at "?c"
 .rfl
theorem zlA{o d t up r:D}{S:So}(hg:pU [o,up,t] S=some (.bl false,S))(he:yS [.tup [o,d],t] S=some (r,S))(hr:D.lo S.length r=true):zc [.tup [o,d],t,up] S=some (r,S):=by
 apply bY
 .wtm_at "?b"
  unfold Nm;apply aH
  .apply eF
   .wtm_at "?a"
   .apply eH
    .rfl
    .wtm_at "?a"
  .apply aV;apply aH
   .wtm_at "?a"
   .wtm_at "?n"
 .wtm_at "?c"
 .exact hr
def zW(n:Nat)(t:Tq):D.lo n (tD t)=true:=by cases t<;>rfl
theorem zeV{k l:Nat}{o d a b c up:Pt}(ho:aN k o)(hd:aN k d)(ha:aN k a)(hb:aN k b)(hc:aN k c)(hu:aN l up)(h0:d≠(0,0,0))(hk:k<=1500)(hl:l<=30000)(S:So)(hS:WF S):
 zc [.tup [pD o,pD d],.tup [pD a,pD b,pD c],pD up] S=some (tD (yd o d a b c up),S):=by
 have hg:=WW ho hu ha hb hc (by omega) hl S hS;have he:=WN ho hd ha hb hc h0 hk S hS;unfold yd;by_cases q:cJ o up a b c=true
 .rw[if_pos q];rw[q] at hg;exact zlz hg
 .rw[if_neg q];have q':cJ o up a b c=false:=by simpa using q
  rw[q'] at hg;exact zlA hg he (zW _ _)
noncomputable def nT(o d a b c:Pt):Tq :=
 if aG (wb a b) (wb a c)=(0,0,0) then pI o d a b c
 else if aQ d (aG (wb a b) (wb a c))=0 then
  if aQ (wb o a) (aG (wb a b) (wb a c))=0 then yd o d a b c (aG (wb a b) (wb a c)) else none
 else if aQ d (aG (wb a b) (wb a c))<0 then
  if -aQ (wb o a) (aG (wb a b) (wb a c))<0\/cJ o d a b c=false then none else some (dF (-aQ (wb o a) (aG (wb a b) (wb a c))) (-aQ d (aG (wb a b) (wb a c))))
 else if aQ (wb o a) (aG (wb a b) (wb a c))<0\/cJ o d a b c=false then none else some (dF (aQ (wb o a) (aG (wb a b) (wb a c))) (aQ d (aG (wb a b) (wb a c))))
theorem zlE{o d a b c up:Pt}{r:D}{S:So}(hup:up=aG (wb a b) (wb a c))(hz:up=(0,0,0)){k:Nat}(w1:aN k (wb a b))(w2:aN k (wb a c))(hk:k<=10000)(he:yS [.tup [pD o,pD d],.tup [pD a,pD b,pD c]] S=some (r,S))(hr:D.lo S.length r=true):
 nu [.tup [pD o,pD d],.tup [pD a,pD b,pD c]] S=some (r,S):=by
 have hz':pD (aG (wb a b) (wb a c))=P3 0 0 0:=yG.mpr (hup ▸ hz);apply bY
 .wtm_at "?b"
  unfold pQ;wtm_at "?a"
 .wtm_at "?c"
 .exact hr
end MX.P
end
section
local macro_rules | `(tactic| wtm_at "?d") => `(tactic| (with_reducible assumption))
namespace MX.P
open PySem L2 MX
section
variable {o d a b c e1 e2 q r:D}{u:Pt}{U V:Int}{S:So}
theorem zpX(h1:eE [a,b] S=some (e1,S))(h2:eE [a,c] S=some (e2,S))(h3:ji [e1,e2] S=some (pD u,S))(hu:¬pD u=P3 0 0 0)(h4:eE [o,a] S=some (q,S))(h5:fP [q,pD u] S=some (.int U,S))(h6:fP [d,pD u] S=some (.int V,S))(hV:V=0)(hU:U=0)(hr:zc [.tup [o,d],.tup [a,b,c],pD u] S=some (r,S))(hl:D.lo S.length r=true):nu [.tup [o,d],.tup [a,b,c]] S=some (r,S):=by
 apply bY
 .wtm_at "?b"
  unfold pQ;wtm_at "?a"
 .wtm_at "?c"
 .exact hl
theorem znC(h1:eE [a,b] S=some (e1,S))(h2:eE [a,c] S=some (e2,S))(h3:ji [e1,e2] S=some (pD u,S))(hu:¬pD u=P3 0 0 0)(h4:eE [o,a] S=some (q,S))(h5:fP [q,pD u] S=some (.int U,S))(h6:fP [d,pD u] S=some (.int V,S))(hV:V=0)(hU:¬U=0):nu [.tup [o,d],.tup [a,b,c]] S=some (.non,S):=by
 apply bY
 .wtm_at "?b"
  unfold pQ;wtm_at "?a"
 .wtm_at "?c"
 .rfl
theorem zpW(h1:eE [a,b] S=some (e1,S))(h2:eE [a,c] S=some (e2,S))(h3:ji [e1,e2] S=some (pD u,S))(hu:¬pD u=P3 0 0 0)(h4:eE [o,a] S=some (q,S))(h5:fP [q,pD u] S=some (.int U,S))(h6:fP [d,pD u] S=some (.int V,S))(Dk:¬V=0)(hV:V<0)(hU : -U<0):nu [.tup [o,d],.tup [a,b,c]] S=some (.non,S):=by
 apply bY
 .wtm_at "?b"
  unfold pQ;wtm_at "?a"
 .wtm_at "?c"
 .rfl
theorem zpU(h1:eE [a,b] S=some (e1,S))(h2:eE [a,c] S=some (e2,S))(h3:ji [e1,e2] S=some (pD u,S))(hu:¬pD u=P3 0 0 0)(h4:eE [o,a] S=some (q,S))(h5:fP [q,pD u] S=some (.int U,S))(h6:fP [d,pD u] S=some (.int V,S))(Dk:¬V=0)(hV:V<0)(hU:¬-U<0)(hg:pU [o,d,.tup [a,b,c]] S=some (.bl false,S)):nu [.tup [o,d],.tup [a,b,c]] S=some (.non,S):=by
 apply bY
 .wtm_at "?b"
  unfold pQ;wtm_at "?a"
 .wtm_at "?c"
 .rfl
theorem zpV(h1:eE [a,b] S=some (e1,S))(h2:eE [a,c] S=some (e2,S))(h3:ji [e1,e2] S=some (pD u,S))(hu:¬pD u=P3 0 0 0)(h4:eE [o,a] S=some (q,S))(h5:fP [q,pD u] S=some (.int U,S))(h6:fP [d,pD u] S=some (.int V,S))(Dk:¬V=0)(hV:V<0)(hU:¬-U<0)(hg:pU [o,d,.tup [a,b,c]] S=some (.bl true,S))(hq:t8 [.tup [.int (-U),.int (-V)]] S=some (r,S))(hl:D.lo S.length r=true):nu [.tup [o,d],.tup [a,b,c]] S=some (r,S):=by
 apply bY
 .wtm_at "?b"
  unfold pQ;wtm_at "?a"
 .wtm_at "?c"
 .exact hl
theorem zpT(h1:eE [a,b] S=some (e1,S))(h2:eE [a,c] S=some (e2,S))(h3:ji [e1,e2] S=some (pD u,S))(hu:¬pD u=P3 0 0 0)(h4:eE [o,a] S=some (q,S))(h5:fP [q,pD u] S=some (.int U,S))(h6:fP [d,pD u] S=some (.int V,S))(Dk:¬V=0)(hV:¬V<0)(hU:U<0):nu [.tup [o,d],.tup [a,b,c]] S=some (.non,S):=by
 apply bY
 .wtm_at "?b"
  unfold pQ;wtm_at "?a"
 .wtm_at "?c"
 .rfl
theorem zpR(h1:eE [a,b] S=some (e1,S))(h2:eE [a,c] S=some (e2,S))(h3:ji [e1,e2] S=some (pD u,S))(hu:¬pD u=P3 0 0 0)(h4:eE [o,a] S=some (q,S))(h5:fP [q,pD u] S=some (.int U,S))(h6:fP [d,pD u] S=some (.int V,S))(Dk:¬V=0)(hV:¬V<0)(hU:¬U<0)(hg:pU [o,d,.tup [a,b,c]] S=some (.bl false,S)):nu [.tup [o,d],.tup [a,b,c]] S=some (.non,S):=by
 apply bY
 .wtm_at "?b"
  unfold pQ;wtm_at "?a"
 .wtm_at "?c"
 .rfl
theorem zpS(h1:eE [a,b] S=some (e1,S))(h2:eE [a,c] S=some (e2,S))(h3:ji [e1,e2] S=some (pD u,S))(hu:¬pD u=P3 0 0 0)(h4:eE [o,a] S=some (q,S))(h5:fP [q,pD u] S=some (.int U,S))(h6:fP [d,pD u] S=some (.int V,S))(Dk:¬V=0)(hV:¬V<0)(hU:¬U<0)(hg:pU [o,d,.tup [a,b,c]] S=some (.bl true,S))(hq:t8 [.tup [.int U,.int V]] S=some (r,S))(hl:D.lo S.length r=true):nu [.tup [o,d],.tup [a,b,c]] S=some (r,S):=by
 apply bY
 .wtm_at "?b"
  unfold pQ;wtm_at "?a"
 .wtm_at "?c"
 .exact hl
end
theorem zd4{k:Nat}{o d a b c:Pt}(ho:aN k o)(hd:aN k d)(ha:aN k a)(hb:aN k b)(hc:aN k c)(h0:d≠(0,0,0))(hk:k<=1500)(S:So)(hS:WF S):
 nu [.tup [pD o,pD d],.tup [pD a,pD b,pD c]] S=some (tD (nT o d a b c),S):=by
 have w1:=ha.wb hb;have w2:=ha.wb hc;have w3:=ho.wb ha;have wu:=w1.cross w2;have bU:=w3.dot wu;have bV:=hd.dot wu;have h1:=sp_wb a b S;have h2:=sp_wb a c S;have h3:=sp_vcross w1 w2 (by omega) S;have h4:=sp_wb o a S;have h5:=sp_vdot w3 wu (by omega) S;have h6:=sp_vdot hd wu (by omega) S;have hg:=WW ho hd ha hb hc (by omega) (by omega) S hS;have he:=WN ho hd ha hb hc h0 hk S hS;have hw:=zeV ho hd ha hb hc wu h0 hk (by omega) S hS;unfold nT;generalize hu:aG (wb a b) (wb a c)=u at *
 by_cases q0:u=(0,0,0)
 .rw[if_pos q0];exact zlE hu.symm q0 w1 w2 (by omega) he (zW _ _)
 .rw[if_neg q0];have hne:¬pD u=P3 0 0 0:=λh=>q0 (yG.mp h);generalize aQ (wb o a) u=U at *
  generalize aQ d u=V at *
  by_cases v0:V=0
  .rw[if_pos v0];by_cases u0:U=0
   .rw[if_pos u0];exact zpX h1 h2 h3 hne h4 h5 h6 v0 u0 hw (zW _ _)
   .rw[if_neg u0];exact znC h1 h2 h3 hne h4 h5 h6 v0 u0
  .rw[if_neg v0];by_cases vn:V<0
   .rw[if_pos vn];by_cases un : -U<0
    .rw[if_pos (Or.inl un)];exact zpW h1 h2 h3 hne h4 h5 h6 v0 vn un
    .by_cases gg:cJ o d a b c=false
     .rw[if_pos (Or.inr gg)];rw[gg] at hg;exact zpU h1 h2 h3 hne h4 h5 h6 v0 vn un hg
     .rw[if_neg (λh=>h.elim un gg)];have PK:cJ o d a b c=true:=by simpa using gg
      rw[PK] at hg;exact zpV h1 h2 h3 hne h4 h5 h6 v0 vn un hg (Bc (by omega) (by omega) bV.neg (by omega) S) (zW S.length (some (dF (-U) (-V))))
   .rw[if_neg vn];by_cases un:U<0
    .rw[if_pos (Or.inl un)];exact zpT h1 h2 h3 hne h4 h5 h6 v0 vn un
    .by_cases gg:cJ o d a b c=false
     .rw[if_pos (Or.inr gg)];rw[gg] at hg;exact zpR h1 h2 h3 hne h4 h5 h6 v0 vn un hg
     .rw[if_neg (λh=>h.elim un gg)];have PK:cJ o d a b c=true:=by simpa using gg
      rw[PK] at hg;exact zpS h1 h2 h3 hne h4 h5 h6 v0 vn un hg (Bc (by omega) (by omega) bV (by omega) S) (zW S.length (some (dF U V)))
theorem zmL{k:Nat}{o d a b c:Pt}(ho:aN k o)(hd:aN k d)(ha:aN k a)(hb:aN k b)(hc:aN k c)(h0:d≠(0,0,0)):n8 (4*k+10) (pI o d a b c) :=
 Af (Af (Af (λp hp=>by cases hp) (yH (yI ho hd ha hb h0))) (yH (yI ho hd hb hc h0))) (yH (yI ho hd hc ha h0))
theorem zpY{k:Nat}{o d a b c:Pt}(ho:aN k o)(hd:aN k d)(ha:aN k a)(hb:aN k b)(hc:aN k c)(h0:d≠(0,0,0)):n8 (4*k+10) (nT o d a b c):=by
 have eb:=zmL ho hd ha hb hc h0;have w1:=(ha.wb hb).le (show max k k+1<=k+1 by omega);have w2:=(ha.wb hc).le (show max k k+1<=k+1 by omega);have w3:=(ho.wb ha).le (show max k k+1<=k+1 by omega);have wu:=w1.cross w2;have bU:=(w3.dot wu).le (show k+1+(k+1+(k+1)+1)+2<=4*k+10 by omega);have bV:=(hd.dot wu).le (show k+(k+1+(k+1)+1)+2<=4*k+10 by omega);unfold nT yd;intro p hp;split at hp
 .exact eb p hp
 .split at hp
  .split at hp
   .split at hp
    .cases hp;exact⟨by decide,by decide,(Bd.lit 0).le (Nat.zero_le _),(Bd.lit 1).le (show 1<=4*k+10 by omega)⟩
    .exact eb p hp
   .cases hp
  .rename_i hV;split at hp
   .rename_i hn;split at hp
    .cases hp
    .rename_i hb;cases hp;obtain⟨b1,b2⟩:=Fx bU.neg bV.neg (by omega);exact⟨Bg (Int.not_lt.mp λq=>hb (.inl q)) (by omega),yP _ _,b1,b2⟩
   .rename_i hn;split at hp
    .cases hp
    .rename_i hb;cases hp;obtain⟨b1,b2⟩:=Fx bU bV (by omega);exact⟨Bg (Int.not_lt.mp λq=>hb (.inl q)) (by omega),yP _ _,b1,b2⟩
theorem zfv{k:Nat}{o d a b c:Pt}(ho:aN k o)(hd:aN k d)(ha:aN k a)(hb:aN k b)(hc:aN k c)(h0:d≠(0,0,0))(hk:k<=1500)(S:So)(hS:WF S):
 yK [.tup [pD o,pD d],.tup [.str "triangle",pD a,pD b,pD c]] S=some (tD (nT o d a b c),S):=by
 have hm:=zd4 ho hd ha hb hc h0 hk S hS;apply bY
 .wtm_at "?b"
  unfold Kr;have t:bW (eB (aZ .Eq) (eB aL (aj 1) (eC (.int 0))) (eC (.str "box"))) [some (.tup [pD o,pD d]),some (.tup [.str "triangle",pD a,pD b,pD c])] S=some (false,S):=by have h:=eG (bI (fa:=eB aL (aj 1) (eC (.int 0))) (fb:=eC (.str "box")) (σ:=[some (.tup [pD o,pD d]),some (.tup [.str "triangle",pD a,pD b,pD c])]) (S:=S) (bI (aC rfl) bC (iZ rfl)) bC (vy (x := .str "triangle") (y := .str "box") rfl 1 (by decide +kernel) (by decide +kernel) (by decide)));rw[h,nj (λe=>by simp only[D.str.injEq] at e;exact absurd e (by decide +kernel))]
  refine aH (eF t (eH rfl dR)) (aV ?_);wtm_at "?a"
 .wtm_at "?c"
 .cases nT o d a b c<;>rfl
inductive Sh where
 |box (lo hi:Pt)
 |tri (a b c:Pt)
noncomputable def bR:Sh->D
 |.box lo hi => .tup [.str "box",pD lo,pD hi]
 |.tri a b c => .tup [.str "triangle",pD a,pD b,pD c]
noncomputable def Sh.pts:Sh->List Pt
 |.box lo hi=>[lo,hi]
 |.tri a b c=>[a,b,c]
structure lg(k:Nat)(s:Sh):Prop where
 bd:∀p∈s.pts,aN k p
 ord:∀lo hi,s = .box lo hi->lo.1<=hi.1/\lo.2.1<=hi.2.1/\lo.2.2<=hi.2.2
noncomputable def gF(o d:Pt):Sh->Tq
 |.box lo hi=>(gC o d lo hi).map λp=>dF p.1.1 p.1.2
 |.tri a b c=>nT o d a b c
def Yh(t:Option ((Int×Int)×(Int×Int))):Pa t=tD (t.map λp=>dF p.1.1 p.1.2):=by cases t<;>rfl
theorem U6{k:Nat}{o d:Pt}{s:Sh}(ho:aN k o)(hd:aN k d)(hs:lg k s)(h0:d≠(0,0,0))(hk:k<=1500)(S:So)(hS:WF S):
 yK [.tup [pD o,pD d],bR s] S=some (tD (gF o d s),S):=by
 cases s with
 |box lo hi =>
  have:=zfw ho hd (hs.bd lo (by simp[Sh.pts])) (hs.bd hi (by simp[Sh.pts])) h0 (by omega) S;rw[Yh] at this;exact this
 |tri a b c=>exact zfv ho hd (hs.bd a (by simp[Sh.pts])) (hs.bd b (by simp[Sh.pts])) (hs.bd c (by simp[Sh.pts])) h0 hk S hS
theorem Ji{k:Nat}{o d:Pt}{s:Sh}(ho:aN k o)(hd:aN k d)(hs:lg k s)(h0:d≠(0,0,0)):n8 (4*k+10) (gF o d s):=by
 cases s with
 |box lo hi =>
  intro p hp;simp only[gF,aR] at hp;obtain⟨q,e,rfl⟩:=hp;have ok:=UW ho hd (hs.bd lo (by simp[Sh.pts])) (hs.bd hi (by simp[Sh.pts])) e;have b:=Fx (k:=4*k+10) (ok.b1.le (by omega)) (ok.b2.le (by omega)) ok.f2;exact⟨Bg ok.f0 ok.f2,yP _ _,b.1,b.2⟩
 |tri a b c=>exact zpY ho hd (hs.bd a (by simp[Sh.pts])) (hs.bd b (by simp[Sh.pts])) (hs.bd c (by simp[Sh.pts])) h0
theorem Kp:∀{ns:List Int} {m:Int},je ns=some m->m∈ns:=by
 intro ns m h;cases ns with
 |nil=>cases h
 |cons a r =>
  have h':r.foldl (λx y=>if y<x then y else x) a=m:=by simpa[je] using h
  clear h
  induction r generalizing a with
  |nil=>simp at h';subst h';simp
  |cons b r ih =>
   rw[List.foldl_cons] at h';have:=ih _ h';rcases List.mem_cons.mp this with e|e
   .rw[e];split<;>simp
   .exact cG _ (cG _ e)
theorem Ga:∀{ns:List Int} {m:Int},iV ns=some m->m∈ns:=by
 intro ns m h;cases ns with
 |nil=>cases h
 |cons a r =>
  have h':r.foldl (λx y=>if y>x then y else x) a=m:=by simpa[iV] using h
  clear h
  induction r generalizing a with
  |nil=>simp at h';subst h';simp
  |cons b r ih =>
   rw[List.foldl_cons] at h';have:=ih _ h';rcases List.mem_cons.mp this with e|e
   .rw[e];split<;>simp
   .exact cG _ (cG _ e)
theorem lN.bd{k:Nat}{pts:List Pt}{lo hi:Pt}(B:lN pts lo hi)(h:∀p∈pts,aN k p):aN k lo/\aN k hi:=by
 have m:∀{j:Int} {x:Int},(0<=j/\j<=2)->x∈pts.map (co j)->Bd k x:=λ{j x} hj hx=>by
  obtain⟨p,hp,rfl⟩:=List.mem_map.mp hx;have:=h p hp;unfold co;split
  .exact this.1
  .split
   .exact this.2.1
   .exact this.2.2
 exact⟨⟨m (by decide) (Kp B.h0),m (by decide) (Kp B.h1),m (by decide) (Kp B.h2)⟩,⟨m (by decide) (Ga B.g0),m (by decide) (Ga B.g1),m (by decide) (Ga B.g2)⟩⟩
theorem zn2{k:Nat}{s:Sh}(hs:lg k s):∃lo hi,lN s.pts lo hi/\aN k lo/\aN k hi/\∀S,WF S->vC [bR s] S=some (.tup [pD lo,pD hi],S):=by
 obtain⟨lo,hi,B⟩:=QX (pts:=s.pts) (by cases s<;>simp[Sh.pts]);refine⟨lo,hi,B,(B.bd hs.bd).1,(B.bd hs.bd).2,λS hS=>?_⟩;cases s with
 |box l h =>
  obtain⟨o1,o2,o3⟩:=hs.ord l h rfl;exact U5 (nm := "box") (pts:=[l,h]) hS (by simp) (by simp) B (WX o1 o2 o3)
 |tri a b c=>exact U5 (nm := "triangle") (pts:=[a,b,c]) hS (by simp) (by simp) B WY
inductive Tr where
 |lf (lo hi:Pt) (i:Nat)
 |nd (lo hi:Pt) (l r:Tr)
noncomputable abbrev HX(b x h:D):D := .obj "Tree" ["box", "number", "halves"] [b,x,h]
noncomputable def bB:Tr->D
 |.lf lo hi i=>HX (.tup [pD lo,pD hi]) (.int (i:Nat)) (.tup [])
 |.nd lo hi l r=>HX (.tup [pD lo,pD hi]) .non (.tup [bB l,bB r])
noncomputable def Tr.lo:Tr->Pt
 |.lf lo _ _=>lo
 |.nd lo _ _ _=>lo
noncomputable def Tr.hi:Tr->Pt
 |.lf _ hi _=>hi
 |.nd _ hi _ _=>hi
def qI(n:Nat):∀t:Tr,D.lo n (bB t)=true
 |.lf lo hi i=>by simp[bB,D.lo,cI]
 |.nd lo hi l r=>by simp[bB,D.lo,cI,qI n l,qI n r]
section
variable {σ σ1:Sg}{S S1 S2:So}{fe fo fv:EF}{d x:D}{C f:Str}{n:Nat}{ds:List D}{fa:AF}{φ:GN}
theorem qK{ks:List Str}{xs:List D}(h1:fe σ S=some (.obj C ks xs,S1))(hl:ks.length=xs.length)(h2:(ks.zip xs).lookup f=some d):gw C f fe σ S=some (d,S1):=by unfold gw;rw[h1];simp only[bQ];rw[if_pos ⟨trivial,hl⟩,h2];rfl
theorem Fp{fs:List (Str×D)}(h1:fe σ S=some (.ref n,S1))(h2:S1[n]?=some (.ins C fs))(h3:fs.lookup f=some d):gw C f fe σ S=some (d,S1):=by unfold gw;rw[h1];simp only[bQ];rw[h2];simp only[if_true];rw[h3];rfl
theorem Ab{fs:List (Str×D)}{S3:So}(h1:fv σ S=some (d,S1))(h2:fo σ S1=some (.ref n,S2))(h3:S2[n]?=some (.ins C fs))(h4:fs.length<3)(h5:S2.set n (.ins C (uY f d fs))=S3):nY C f fo fv σ S=some (.nx,σ,S3):=by unfold nY;rw[h1];simp only[bQ];rw[h2];simp only[bQ];rw[h3];simp only;rw[if_pos ⟨trivial,h4⟩,h5]
theorem Q6(h1:fa σ S=some (ds,S1))(hn:ds.length+1=n)(h2:φ (.ref S1.length::ds) (S1++[.ins C []])=some (.non,S2)):oX C n φ fa σ S=some (mG C S1.length S2):=by unfold oX;rw[h1];simp only[bQ];unfold aO;rw[if_pos (by simpa using hn),h2];rfl
theorem Aa{fs:List (Str×D)}{m:Str}{r:Option (D×So)}{ds:List D}{k:Nat}(h1:fo σ S=some (.ref k,S1))(h2:S1[k]?=some (.ins C fs))(h3:fs.lookup m=none)(h4:fa σ S1=some (ds,S2))(hn:ds.length+1=n)(h5:φ (.ref k::ds) S2=r):jy C m n φ fo fa σ S=r:=by unfold jy;rw[h1];simp only[bQ];rw[h2];simp only;rw[if_pos ⟨trivial,h3⟩,h4];simp only[bQ];unfold aO;rw[if_pos (by simpa using hn),h5]
theorem Ss{k:Nat}{fb:SF}{S':So}{σ':Sg}(h:fb (iC k ds) S=some (.nx,σ',S'))(hne:¬S'.take S.length=S)(hl:S.length<=S'.length)(hw:WF S'):fnOf k fb ds S=some (.non,S'):=by unfold fnOf;rw[h];simp only;rw[if_neg hne,if_pos ⟨hl,hw⟩]
end
def KQ{S:So}{a b:O}:(S++[a]).set S.length b=S++[b]:=by simp
theorem zn3{S:So}{b x h:D}(hS:WF S)(hlo:cI S.length [b,x,h]=true):yZ [.ref S.length,b,x,h] (S++[.ins "Tree" []])=some (.non,S++[.ins "Tree" [("box",b),("number",x),("halves",h)]]):=by
 apply Ss
 .wtm_at "?b"
  unfold NQ;refine aH (Ab (aC rfl) (aC rfl) cM (show(0:Nat)<3 by decide) KQ) (aV ?_);refine aH (Ab (aC rfl) (aC rfl) cM (show(1:Nat)<3 by decide) KQ) (aV ?_);refine aH (Ab (aC rfl) (aC rfl) cM (show(2:Nat)<3 by decide) KQ) (aV ?_);rfl
 .intro e;have:=congrArg (λl=>l[S.length]?) e;simp at this
 .simp
 .exact hS.snoc (by
   simpa[O.lo,uY] using hlo)
theorem Ve{σ:Sg}{S S1:So}{fa:AF}{b x h:D}(h1:fa σ S=some ([b,x,h],S1))(hS:WF S1)(hlo:cI S1.length [b,x,h]=true):oX "Tree" 4 yZ fa σ S=some (HX b x h,S1):=by
 rw[Q6 (n:=4) h1 rfl (zn3 hS hlo)];unfold mG;rw[cM];simp only;rw[if_pos]
 .simp
 .refine⟨trivial,by simp,by simp,by simpa using hlo,?_⟩;rw[List.all_eq_true];intro o ho;have ho':o∈S1:=by simpa using ho
  exact hS o ho'
def zo9{a b c m:Int}(h:m∈[a,b,c]):[a,b,c].idxOf m<=2:=by have:=List.idxOf_lt_length_iff.mpr h;simp only[jd,zH] at this;omega
theorem zmI{S:So}{n:Nat}{xs:List D}{ns:List Int}{m:Int}(h1:S[n]?=some (.lst xs))(h2:mY xs=some ns)(h:m∈ns):yh (.ref n) [.int m] S=some (.int (ns.idxOf m:Nat),S):=by unfold yh;simp only;rw[h1];simp only;rw[h2];simp only[bQ];rw[if_pos h]
theorem zjL(lo hi:Pt):∃j:Nat,j<=2/\∀S,Nf [.tup [pD lo,pD hi]] S=some (.int (j:Nat),S):=by
 obtain⟨m,hm⟩:=Fi (ns:=[hi.1 - lo.1,hi.2.1 - lo.2.1,hi.2.2 - lo.2.2]) (by simp);have mem:=Ga hm;refine⟨_,zo9 mem,λS=>?_⟩;apply bY
 .wtm_at "?b"
  unfold WM;apply aH
  .apply dI
   .wtm_at "?a"
   .wtm_at "?g"
  .apply aV;apply aH
   .apply fZ;apply Ez
    .wtm_at "?a"
    .exact cM
    .apply aM
     .apply bH
      .wtm_at "?a"
      .exact TY cM rfl hm
     .exact bA
    .exact zmI cM rfl mem
   .exact d7
 .wtm_at "?c"
 .rfl
end MX.P
end
section
variable {A B d o p:MX.P.Pt}{K c i j k n:Nat}{S:MX.So}{X:Int×Int->Prop}{fe:MX.EF}{l:List Nat}{ns:List Int}{shs:List MX.P.Sh}{src:List (Option Nat)}{t:Int×Int}{w:Int}{xs:List MX.D}{σ:MX.Sg}
section
namespace MX.P
open PySem L2 MX
end MX.P
local macro_rules | `(tactic| wtm_at "?d") => `(tactic| first | (with_reducible first | exact MX.P.sp_drawn _ _ _ | exact MX.P.sp_pt _ _ _) | (with_reducible assumption))
namespace MX.P
open PySem L2 MX
def co0(p:Pt):co 0 p=p.1:=rfl
def co1(p:Pt):co 1 p=p.2.1:=rfl
def co2(p:Pt):co 2 p=p.2.2:=rfl
end MX.P
local macro_rules | `(tactic| wtm_at "?d") => `(tactic| ((with_reducible apply MX.P.sp_near); (·assumption); (·assumption); (focus decide); (focus decide)))
namespace MX.P
end MX.P
end
section
local macro_rules | `(tactic| wtm_at "?d") => `(tactic| (with_reducible assumption))
namespace MX.P
open PySem L2 MX
def jU(s w lo hi:Int)(t:Int×Int):Prop:=lo*t.2<=s*t.2+w*t.1/\s*t.2+w*t.1<=hi*t.2
def inB(o d lo hi:Pt)(t:Int×Int):Prop:=jU o.1 d.1 lo.1 hi.1 t/\jU o.2.1 d.2.1 lo.2.1 hi.2.1 t/\jU o.2.2 d.2.2 lo.2.2 hi.2.2 t
instance (s w lo hi:Int) (t:Int×Int):Decidable (jU s w lo hi t):=by unfold jU;infer_instance
instance (o d lo hi:Pt) (t:Int×Int):Decidable (inB o d lo hi t):=by unfold inB;infer_instance
noncomputable def rN(j:Int)(o d lo hi:Pt):List (Int×Int):=if co j d=0 then[] else[dF (co j lo - co j o) (co j d),dF (co j hi - co j o) (co j d)]
def Xv(o d lo hi:Pt)(t:Int×Int):Prop:=0<=t.1/\inB o d lo hi t
instance (o d lo hi:Pt) (t:Int×Int):Decidable (Xv o d lo hi t):=by unfold Xv;infer_instance
noncomputable abbrev bF(o d:Pt):D := .tup [pD o,pD d]
theorem zmw{s lo hi:Int}(hw:w≠0):jU s w lo hi t↔leQ (iB s w lo hi) t/\leQ t (jk s w lo hi):=by
 unfold jU leQ iB jk;obtain⟨t1,t2⟩:=t;split
 .simp only;constructor
  .rintro⟨h1,h2⟩;constructor<;>grind
  .rintro⟨h1,h2⟩;constructor<;>grind
 .simp only;constructor
  .rintro⟨h1,h2⟩;constructor<;>grind
  .rintro⟨h1,h2⟩;constructor<;>grind
theorem Vh{s lo hi:Int}(ht:0<t.2):jU s 0 lo hi t↔lo<=s/\s<=hi:=by unfold jU;simp only[Int.zero_mul,Int.add_zero];rw[Int.mul_le_mul_right ht,Int.mul_le_mul_right ht]
theorem zpI{a e:Int×Int}(ha:0<a.2)(he:0<e.2)(ht:0<t.2):leQ (p6 w a e) t↔leQ a t/\leQ e t:=by
 unfold p6;split
 .rename_i h;have:leQ a e:=by unfold fW at h;unfold leQ;omega
  exact⟨λq=>⟨yM ha he ht this q,q⟩,λq=>q.2⟩
 .rename_i h;exact⟨λq=>⟨q,yM he ha ht (tK h) q⟩,λq=>q.1⟩
theorem RG{a:Option (Int×Int)}{l:Int×Int}(ha:∀m,a=some m->0<m.2)(hl:0<l.2)(ht:0<t.2):leQ t (rO a l)↔leQ t l/\∀m,a=some m->leQ t m:=by
 unfold rO;split
 .exact⟨λq=>⟨q,λm hm=>by cases hm⟩,λq=>q.1⟩
 .rename_i m;have hm:=ha m rfl;split
  .rename_i h;have:leQ l m:=by unfold fW at h;unfold leQ;omega
   exact⟨λq=>⟨q,λn hn=>by cases hn;exact yM ht hl hm q this⟩,λq=>q.1⟩
  .rename_i h;exact⟨λq=>⟨yM ht hm hl q (tK h),λn hn=>by cases hn;exact q⟩,λq=>q.2 m rfl⟩
structure Qs(C:Int×Int->Prop)(cs:List (Int×Int))(a:Ax):Prop where
 pos:Hy a
 iff:∀t:Int×Int,0<=t.1->0<t.2->(C t↔leQ a.1 t/\∀l,a.2=some l->leQ t l)
 fm:dF a.1.1 a.1.2∈cs
 lm:∀l,a.2=some l->dF l.1 l.2∈cs
theorem zmQ{j:Int}{lo hi:Pt}(hw:co j d≠0):dF (iB (co j o) (co j d) (co j lo) (co j hi)).1 (iB (co j o) (co j d) (co j lo) (co j hi)).2∈rN j o d lo hi/\dF (jk (co j o) (co j d) (co j lo) (co j hi)).1 (jk (co j o) (co j d) (co j lo) (co j hi)).2∈rN j o d lo hi:=by
 unfold rN iB jk;rw[if_neg hw];split
 .simp
 .rename_i hn;simp only;rw[JL (a:=co j o - co j hi) (b := -co j d) (c:=co j hi - co j o) (d:=co j d) (by omega) hw (by grind),JL (a:=co j o - co j lo) (b := -co j d) (c:=co j lo - co j o) (d:=co j d) (by omega) hw (by grind)];simp
theorem Kc{C:Int×Int->Prop}{cs:List (Int×Int)}{a:Ax}{j:Int}{lo hi:Pt}(h:Qs C cs a):
 match dO a (co j o) (co j d) (co j lo) (co j hi) with
 |none=>∀t:Int×Int,0<=t.1->0<t.2->¬(C t/\jU (co j o) (co j d) (co j lo) (co j hi) t)
 |some b=>Qs (λt=>C t/\jU (co j o) (co j d) (co j lo) (co j hi) t) (cs++rN j o d lo hi) b:=by
 cases e:dO a (co j o) (co j d) (co j lo) (co j hi) with
 |none =>
  simp only;intro t h0 ht hc;unfold dO at e;split at e
  .rename_i hw;split at e
   .rename_i hx;have:=hc.2;rw[hw,Vh ht] at this;omega
   .cases e
  .cases e
 |some b =>
  simp only;have hp:=FJ h.pos e;unfold dO at e;split at e
  .rename_i hw;split at e
   .cases e
   .rename_i hx;cases e;refine⟨h.pos,λt h0 ht=>?_,List.mem_append_left _ h.fm,λl hl=>List.mem_append_left _ (h.lm l hl)⟩;rw[<-h.iff t h0 ht,hw,Vh ht];exact⟨λq=>q.1,λq=>⟨q,by omega,by omega⟩⟩
  .rename_i hw;cases e;obtain⟨p1,p2⟩:=Tv (s:=co j o) (lo:=co j lo) (hi:=co j hi) hw;obtain⟨m1,m2⟩:=zmQ (o:=o) (lo:=lo) (hi:=hi) hw;refine⟨hp,λt h0 ht=>?_,?_,λl hl=>?_⟩
   .simp only;rw[zmw hw,h.iff t h0 ht,zpI h.pos.2.1 p1 ht];constructor
    .rintro⟨⟨q1,q2⟩,q3,q4⟩
     exact⟨⟨q1,q3⟩,λl hl=>by cases hl;exact(RG h.pos.2.2 p2 ht).mpr ⟨q4,q2⟩⟩
    .rintro⟨⟨q1,q3⟩,q⟩
     have:=(RG h.pos.2.2 p2 ht).mp (q _ rfl);exact⟨⟨q1,this.2⟩,q3,this.1⟩
   .simp only;rcases Gm (co j d) a.1 (iB (co j o) (co j d) (co j lo) (co j hi)) with q|q<;>rw[q]
    .exact List.mem_append_left _ h.fm
    .exact List.mem_append_right _ m1
   .cases hl;rcases Ku a.2 (jk (co j o) (co j d) (co j lo) (co j hi)) with q|⟨m,q1,q⟩<;>rw[q]
    .exact List.mem_append_right _ m2
    .exact List.mem_append_left _ (h.lm m q1)
end MX.P
end
section
namespace MX.P
def rY(k:Int)(d:Pt)(q u v w:Int)(A B C:Pt):Prop:=k*d.1=q*(u*A.1+v*B.1+w*C.1)/\k*d.2.1=q*(u*A.2.1+v*B.2.1+w*C.2.1)/\k*d.2.2=q*(u*A.2.2+v*B.2.2+w*C.2.2)
def rB(d A B C:Pt)(t:Int×Int):Prop:=∃u v w:Int,0<=u/\0<=v/\0<=w/\0<u+v+w/\rY ((u+v+w)*t.1) d t.2 u v w A B C
def zq(d A B:Pt)(t:Int×Int):Prop:=∃u v:Int,0<=u/\0<=v/\0<u+v/\rY ((u+v)*t.1) d t.2 u v 0 A B A
def cancel{k x y:Int}(hk:0<k)(h:k*x=k*y):x=y:=Int.eq_of_mul_eq_mul_left (by omega) h
def Inv(X:Int×Int->Prop):Prop:=∀t r:Int×Int,0<t.2->0<r.2->t.1*r.2=r.1*t.2->X t->X r
theorem Ur{s q u v:Int}{C:Pt}{r:Int×Int}(ht:0<t.2)(e:t.1*r.2=r.1*t.2)(h:rY (s*t.1) d t.2 u v w A B C):rY (s*r.1) d r.2 u v w A B C:=by
 obtain⟨h1,h2,h3⟩:=h;have f:∀x y:Int,s*t.1*x=t.2*y->s*r.1*x=r.2*y:=λx y h=>by
  refine cancel ht ?_;have e1:t.2*(s*r.1*x)=s*x*(r.1*t.2):=by grind
  have e2:t.2*(r.2*y)=r.2*(t.2*y):=by grind
  rw[e1,e2,<-e,<-h];grind
 exact⟨f _ _ h1,f _ _ h2,f _ _ h3⟩
def Sw(d A B C:Pt):Inv (rB d A B C):=λt r ht _ e ⟨u,v,w,h1,h2,h3,h4,h⟩=>⟨u,v,w,h1,h2,h3,h4,Ur (q:=0) ht e h⟩
def zo7(d A B:Pt):Inv (zq d A B):=λt r ht _ e ⟨u,v,h1,h2,h4,h⟩=>⟨u,v,h1,h2,h4,Ur (q:=0) ht e h⟩
def Ys{C:Pt}(h:zq d A B t):rB d A B C t:=by obtain⟨u,v,h1,h2,h4,c1,c2,c3⟩:=h;refine⟨u,v,0,h1,h2,by omega,by omega,?_,?_,?_⟩<;>grind
def Yt{C:Pt}(h:zq d B C t):rB d A B C t:=by obtain⟨u,v,h1,h2,h4,c1,c2,c3⟩:=h;refine⟨0,u,v,by omega,h1,h2,by omega,?_,?_,?_⟩<;>grind
def Yu{C:Pt}(h:zq d C A t):rB d A B C t:=by obtain⟨u,v,h1,h2,h4,c1,c2,c3⟩:=h;refine⟨v,0,u,h2,by omega,h1,by omega,?_,?_,?_⟩<;>grind
def IsF(m:Tq)(X:Int×Int->Prop):Prop:=match m with
 |none=>∀t:Int×Int,0<=t.1->0<t.2->¬X t
 |some r=>0<=r.1/\0<r.2/\X r/\∀t:Int×Int,0<=t.1->0<t.2->X t->leQ r t
def vf(m:Tq):Prop:=∀r,m=some r->dF r.1 r.2=r
def Ge(m:Tq):vf (nP m):=λr hr=>by
 cases m with
 |none=>cases hr
 |some p=>cases hr;exact Le _ _
def KH{m n:Tq}(hm:vf m)(hn:vf n):vf (pick m n):=by
 unfold pick;split
 .exact hm
 .split
  .exact hn
  .split
   .exact hn
   .exact hm
def Tf{a b:Pt}(h1:a.1=b.1)(h2:a.2.1=b.2.1)(h3:a.2.2=b.2.2):a=b:=Prod.ext h1 (Prod.ext h2 h3)
theorem lag(x d e:Pt):aQ (aG d e) (aG d e)*x.1=aQ (aG x e) (aG d e)*d.1 - aQ (aG x d) (aG d e)*e.1+aQ x (aG d e)*(aG d e).1
 /\ aQ (aG d e) (aG d e)*x.2.1=aQ (aG x e) (aG d e)*d.2.1 - aQ (aG x d) (aG d e)*e.2.1+aQ x (aG d e)*(aG d e).2.1
 /\ aQ (aG d e) (aG d e)*x.2.2=aQ (aG x e) (aG d e)*d.2.2 - aQ (aG x d) (aG d e)*e.2.2+aQ x (aG d e)*(aG d e).2.2:=by
 simp only[aQ,aG];refine⟨?_,?_,?_⟩<;>grind
def Y7(o a b:Pt):wb a b=((wb o b).1 - (wb o a).1,(wb o b).2.1 - (wb o a).2.1,(wb o b).2.2 - (wb o a).2.2):=by refine Tf ?_ ?_ ?_<;>simp only[wb]<;>omega
noncomputable def cC(b a:Pt):Pt:=(b.1 - a.1,b.2.1 - a.2.1,b.2.2 - a.2.2)
def Jt(o a b:Pt):wb a b=cC (wb o b) (wb o a):=Y7 o a b
theorem ZG(hz:aQ A (aG d (cC B A))=0)(h1:0<=aQ (aG A d) (aG d (cC B A)))(h2:aQ (aG A d) (aG d (cC B A))<=aQ (aG d (cC B A)) (aG d (cC B A)))(h3:0<aQ (aG d (cC B A)) (aG d (cC B A))):
 zq d A B (aQ (aG A (cC B A)) (aG d (cC B A)),aQ (aG d (cC B A)) (aG d (cC B A))):=by
 obtain⟨l1,l2,l3⟩:=lag A d (cC B A);rw[hz] at l1 l2 l3;generalize aQ (aG d (cC B A)) (aG d (cC B A))=N at *
 generalize aQ (aG A (cC B A)) (aG d (cC B A))=T at *
 generalize aQ (aG A d) (aG d (cC B A))=Sh at *
 refine⟨N - Sh,Sh,by omega,h1,by omega,?_,?_,?_⟩<;>simp only[cC] at * <;> grind
theorem R4{x:Pt}(h:aG x d=(0,0,0)):aQ d d*x.1=aQ x d*d.1/\aQ d d*x.2.1=aQ x d*d.2.1/\aQ d d*x.2.2=aQ x d*d.2.2:=by
 have p1:(aG x d).1=0:=by rw[h]
 have p2:(aG x d).2.1=0:=by rw[h]
 have p3:(aG x d).2.2=0:=by rw[h]
 simp only[aG,aQ] at *
 refine⟨?_,?_,?_⟩<;>grind
theorem zpz(hp:aG d (cC B A)=(0,0,0))(h:aG A d=(0,0,0)):aG B d=(0,0,0):=by
 have p1:(aG d (cC B A)).1=0:=by rw[hp]
 have p2:(aG d (cC B A)).2.1=0:=by rw[hp]
 have p3:(aG d (cC B A)).2.2=0:=by rw[hp]
 have q1:(aG A d).1=0:=by rw[h]
 have q2:(aG A d).2.1=0:=by rw[h]
 have q3:(aG A d).2.2=0:=by rw[h]
 simp only[aG,cC] at *
 refine Tf ?_ ?_ ?_<;>grind
def Vb(o d a b c:Pt):vf (pI o d a b c):=KH (KH (KH (λ_ h=>by cases h) (Ge _)) (Ge _)) (Ge _)
def Gf(d A B C:Pt):aQ d (aG A B)+aQ d (aG B C)+aQ d (aG C A)=aQ d (aG (cC B A) (cC C A)):=by simp only[aQ,aG,cC];grind
theorem K6(n A B C:Pt):aQ n (aG B C)*A.1+aQ n (aG C A)*B.1+aQ n (aG A B)*C.1=aQ A (aG (cC B A) (cC C A))*n.1
 /\ aQ n (aG B C)*A.2.1+aQ n (aG C A)*B.2.1+aQ n (aG A B)*C.2.1=aQ A (aG (cC B A) (cC C A))*n.2.1
 /\ aQ n (aG B C)*A.2.2+aQ n (aG C A)*B.2.2+aQ n (aG A B)*C.2.2=aQ A (aG (cC B A) (cC C A))*n.2.2:=by
 simp only[aQ,aG,cC];refine⟨?_,?_,?_⟩<;>grind
theorem zpZ{C:Pt}(h1:0<=aQ d (aG A B))(h2:0<=aQ d (aG B C))(h3:0<=aQ d (aG C A))(hV:0<aQ d (aG (cC B A) (cC C A))):rB d A B C (aQ A (aG (cC B A) (cC C A)),aQ d (aG (cC B A) (cC C A))):=by
 obtain⟨m1,m2,m3⟩:=K6 d A B C;have e:=Gf d A B C;generalize aQ d (aG (cC B A) (cC C A))=V at *
 generalize aQ A (aG (cC B A) (cC C A))=U at *
 generalize aQ d (aG A B)=s1 at *
 generalize aQ d (aG B C)=s2 at *
 generalize aQ d (aG C A)=s3 at *
 refine⟨s2,s3,s1,h2,h3,h1,by omega,?_,?_,?_⟩<;>simp only<;>grind
theorem znD{C:Pt}(h1:aQ d (aG A B)<=0)(h2:aQ d (aG B C)<=0)(h3:aQ d (aG C A)<=0)(hV:aQ d (aG (cC B A) (cC C A))<0):rB d A B C (-aQ A (aG (cC B A) (cC C A)),-aQ d (aG (cC B A) (cC C A))):=by
 obtain⟨m1,m2,m3⟩:=K6 d A B C;have e:=Gf d A B C;generalize aQ d (aG (cC B A) (cC C A))=V at *
 generalize aQ A (aG (cC B A) (cC C A))=U at *
 generalize aQ d (aG A B)=s1 at *
 generalize aQ d (aG B C)=s2 at *
 generalize aQ d (aG C A)=s3 at *
 refine⟨-s2,-s3,-s1,by omega,by omega,by omega,by omega,?_,?_,?_⟩<;>simp only<;>grind
section
variable {d A B C:Pt}
noncomputable abbrev pX(A B C:Pt):Pt:=aG (cC B A) (cC C A)
end
theorem T7(o w a b c:Pt):cJ o w a b c=true↔(0<=cA o w a b/\0<=cA o w b c/\0<=cA o w c a)\/(cA o w a b<=0/\cA o w b c<=0/\cA o w c a<=0):=by unfold cJ;simp only[o8,cL,su,and_assoc]
theorem znB(o d a b c:Pt):vf (nT o d a b c):=by
 unfold nT yd;intro r hr;split at hr
 .exact Vb _ _ _ _ _ r hr
 .split at hr
  .split at hr
   .split at hr
    .cases hr;decide
    .exact Vb _ _ _ _ _ r hr
   .cases hr
  .split at hr
   .split at hr
    .cases hr
    .cases hr;exact Le _ _
   .split at hr
    .cases hr
    .cases hr;exact Le _ _
theorem JH{u v s p q x dx l h a b c:Int}(u0:0<=u)(v0:0<=v)(w0:0<=w)(hs:0<u+v+w)(hq:0<q)(e:(u+v+w)*p*dx=q*(u*(a - x)+v*(b - x)+w*(c - x)))(ha:l<=a/\a<=h)(hb:l<=b/\b<=h)(hc:l<=c/\c<=h):l*q<=x*q+dx*p/\x*q+dx*p<=h*q:=by
 have e1:(u+v+w)*(x*q+dx*p)=q*(u*a+v*b+w*c):=by grind
 have g1:=Int.mul_le_mul_of_nonneg_left ha.1 u0;have g2:=Int.mul_le_mul_of_nonneg_left hb.1 v0;have g3:=Int.mul_le_mul_of_nonneg_left hc.1 w0;have g4:=Int.mul_le_mul_of_nonneg_left ha.2 u0;have g5:=Int.mul_le_mul_of_nonneg_left hb.2 v0;have g6:=Int.mul_le_mul_of_nonneg_left hc.2 w0;have g7:=Int.mul_le_mul_of_nonneg_left (show u*l+v*l+w*l<=u*a+v*b+w*c by omega) (show 0<=q by omega);have g8:=Int.mul_le_mul_of_nonneg_left (show u*a+v*b+w*c<=u*h+v*h+w*h by omega) (show 0<=q by omega);constructor
 .refine Int.le_of_mul_le_mul_left (a:=u+v+w) ?_ hs;have:(u+v+w)*(l*q)=q*(u*l+v*l+w*l):=by grind
  omega
 .refine Int.le_of_mul_le_mul_left (a:=u+v+w) ?_ hs;have:(u+v+w)*(h*q)=q*(u*h+v*h+w*h):=by grind
  omega
end MX.P
end
section
namespace MX.P
open PySem L2 MX
theorem Kv{lo hi:Pt}(h0:d≠(0,0,0)):IsF ((gC o d lo hi).map (·.1)) (inB o d lo hi):=by
 have i0:Qs (λ_=>True) [(0,1)] ((0,1),none):=by
  refine⟨⟨by simp,by simp,λm hm=>by cases hm⟩,λt h1 h2=>?_,?_,λl hl=>by cases hl⟩
  .simp only[true_iff];refine⟨?_,λl hl=>by cases hl⟩;unfold leQ;simp;omega
  .rw[Gd (by decide)];decide
 have j1:=Kc (j:=0) (o:=o) (d:=d) (lo:=lo) (hi:=hi) i0;unfold gC;cases e1:dO ((0,1),none) o.1 d.1 lo.1 hi.1 with
 |none =>
  rw[show dO ((0,1),none) (co 0 o) (co 0 d) (co 0 lo) (co 0 hi)=none from e1] at j1;exact λt q1 q2 q=>j1 t q1 q2 ⟨trivial,q.1⟩
 |some a =>
  rw[show dO ((0,1),none) (co 0 o) (co 0 d) (co 0 lo) (co 0 hi)=some a from e1] at j1;have j2:=Kc (j:=1) (o:=o) (d:=d) (lo:=lo) (hi:=hi) j1;simp only[bQ];cases e2:dO a o.2.1 d.2.1 lo.2.1 hi.2.1 with
  |none =>
   rw[show dO a (co 1 o) (co 1 d) (co 1 lo) (co 1 hi)=none from e2] at j2;exact λt q1 q2 q=>j2 t q1 q2 ⟨⟨trivial,q.1⟩,q.2.1⟩
  |some b =>
   rw[show dO a (co 1 o) (co 1 d) (co 1 lo) (co 1 hi)=some b from e2] at j2;have j3:=Kc (j:=2) (o:=o) (d:=d) (lo:=lo) (hi:=hi) j2;simp only[bQ];cases e3:dO b o.2.2 d.2.2 lo.2.2 hi.2.2 with
   |none =>
    rw[show dO b (co 2 o) (co 2 d) (co 2 lo) (co 2 hi)=none from e3] at j3;exact λt q1 q2 q=>j3 t q1 q2 ⟨⟨⟨trivial,q.1⟩,q.2.1⟩,q.2.2⟩
   |some c =>
    rw[show dO b (co 2 o) (co 2 d) (co 2 lo) (co 2 hi)=some c from e3] at j3;simp only[bQ];have hn:c.2≠none:=by
     by_cases q1:d.1=0
     .by_cases q2:d.2.1=0
      .have q3:d.2.2≠0:=λq3=>h0 (by show(d.1,d.2.1,d.2.2)=_;rw[q1,q2,q3]);exact nG e3 (.inr q3)
      .exact nG e3 (.inl (nG e2 (.inr q2)))
     .exact nG e3 (.inl (nG e2 (.inl (nG e1 (.inr q1)))))
    have hB:∀t:Int×Int,0<=t.1->0<t.2->(inB o d lo hi t↔leQ c.1 t/\∀l,c.2=some l->leQ t l):=λt q1 q2=>by rw[<-j3.iff t q1 q2];exact⟨λq=>⟨⟨⟨trivial,q.1⟩,q.2.1⟩,q.2.2⟩,λq=>⟨q.1.1.2,q.1.2,q.2⟩⟩
    cases hl:c.2 with
    |none=>exact absurd hl hn
    |some l =>
     simp only;have aX:=j3.pos.2.2 l hl;have wR:=j3.pos.2.1;have f0:=j3.pos.1;by_cases hc:fW l c.1
     .rw[if_pos hc];intro t q1 q2 q;have:=(hB t q1 q2).mp q;exact Uj (yM wR q2 aX this.1 (this.2 l hl)) hc
     .rw[if_neg hc];have hfl:=tK hc;exact⟨f0,wR,(hB _ f0 wR).mpr ⟨zmp _,λl' hl'=>by rw[hl] at hl';cases hl';exact hfl⟩,λt q1 q2 q=>((hB t q1 q2).mp q).1⟩
theorem zo8(o d lo hi:Pt):Inv (inB o d lo hi):=λt r ht hr e h=>by
 have f:∀s w l u:Int,jU s w l u t->jU s w l u r:=λs w l u ⟨h1,h2⟩=>by
  have k:t.2*(s*r.2+w*r.1)=r.2*(s*t.2+w*t.1):=by
   have:t.2*(s*r.2+w*r.1)=s*(t.2*r.2)+w*(r.1*t.2):=by grind
   rw[this,<-e];grind
  have g1:=Int.mul_le_mul_of_nonneg_left h1 (show 0<=r.2 by omega);have g2:=Int.mul_le_mul_of_nonneg_left h2 (show 0<=r.2 by omega);have k1:t.2*(l*r.2)=r.2*(l*t.2):=by grind
  have k2:t.2*(u*r.2)=r.2*(u*t.2):=by grind
  exact⟨Int.le_of_mul_le_mul_left (a:=t.2) (by omega) ht,Int.le_of_mul_le_mul_left (a:=t.2) (by omega) ht⟩
 exact⟨f _ _ _ _ h.1,f _ _ _ _ h.2.1,f _ _ _ _ h.2.2⟩
end MX.P
end
section
namespace MX.P
def iQ(m:Tq)(X:Int×Int->Prop):Prop:=∀r,m=some r->0<=r.1/\0<r.2/\X r
theorem iQ.pick{m n:Tq}{X:Int×Int->Prop}(hm:iQ m X)(hn:iQ n X):iQ (pick m n) X:=by
 intro r h;unfold P.pick at h;cases n with
 |none=>exact hm r h
 |some t =>
  cases m with
  |none=>exact hn r h
  |some b =>
   simp only at h;split at h
   .exact hn r h
   .exact hm r h
theorem iQ.red{m:Tq}(hi:Inv X)(hm:iQ m X):iQ (nP m) X:=by intro r h;obtain⟨p,e,rfl⟩:=aR.mp h;obtain⟨h1,h2,h3⟩:=hm p e;have:=zoX (a:=p) h2;unfold leQ at this;exact⟨Bg h1 h2,yP _ _,hi p _ h2 (yP _ _) (by omega) h3⟩
def iQ.sub{m:Tq}{Y:Int×Int->Prop}(hm:iQ m X)(h:∀t,X t->Y t):iQ m Y:=λr e=>⟨(hm r e).1,(hm r e).2.1,h _ (hm r e).2.2⟩
theorem zod{a b:Pt}(h0:d≠(0,0,0)):iQ (nQ o d a b) (zq d (wb o a) (wb o b)):=by
 have hD:=vM h0;intro r h;unfold nQ yg at h;rw[Jt o a b] at h;generalize wb o a=A at *
 generalize wb o b=B at *
 split at h
 .rename_i hp;split at h
  .rename_i hc;have la:=R4 hc;have lb:=R4 (zpz hp hc);generalize aQ d d=N at *
   generalize aQ A d=x at *
   generalize aQ B d=y at *
   split at h
   .cases h
   .rename_i hm;cases h;have hm':0<=x\/0<=y:=by unfold jz at hm;split at hm<;>omega
    have hmn:(jz (pG x y) 0=x/\0<=x/\x<=y)\/(jz (pG x y) 0=y/\0<=y/\y<=x)\/(jz (pG x y) 0=0/\x<0/\0<=y)\/(jz (pG x y) 0=0/\y<0/\0<=x):=by unfold jz pG;split<;>split<;>omega
    have hge:0<=jz (pG x y) 0:=by rcases hmn with h|h|h|h<;>omega
    refine⟨hge,hD,?_⟩;obtain⟨a1,a2,a3⟩:=la;obtain⟨b1,b2,b3⟩:=lb;rcases hmn with⟨e,_⟩|⟨e,_⟩|⟨e,_⟩|⟨e,_⟩<;>rw[e]
    .exact⟨1,0,by omega,by omega,by omega,by simp only;grind,by simp only;grind,by simp only;grind⟩
    .exact⟨0,1,by omega,by omega,by omega,by simp only;grind,by simp only;grind,by simp only;grind⟩
    .exact⟨y,-x,by omega,by omega,by omega,by simp only;grind,by simp only;grind,by simp only;grind⟩
    .exact⟨-y,x,by omega,by omega,by omega,by simp only;grind,by simp only;grind,by simp only;grind⟩
  .cases h
 .rename_i hp;have hU:=vM hp;split at h
  .rename_i hz;split at h
   .cases h
   .rename_i hb;cases h;exact⟨by simp only;omega,hU,ZG hz (by omega) (by omega) hU⟩
  .cases h
theorem zlj{a b c:Pt}(h0:d≠(0,0,0)):iQ (pI o d a b c) (rB d (wb o a) (wb o b) (wb o c)):=by have s:=λx y:Pt=>iQ.red (zo7 d (wb o x) (wb o y)) (zod (o:=o) (a:=x) (b:=y) h0);exact iQ.pick (iQ.pick (iQ.pick (λr h=>by cases h) ((s a b).sub λt=>Ys)) ((s b c).sub λt=>Yt)) ((s c a).sub λt=>Yu)
theorem znA{a b c:Pt}(h0:d≠(0,0,0)):iQ (nT o d a b c) (rB d (wb o a) (wb o b) (wb o c)):=by
 have ef:=zlj (o:=o) (a:=a) (b:=b) (c:=c) h0;have gd:=T7 o d a b c;have gn:=T7 o (pX (wb o a) (wb o b) (wb o c)) a b c;intro r h;unfold nT yd at h;unfold cA at gd gn;rw[Jt o a b,Jt o a c] at h;generalize wb o a=A at *
 generalize wb o b=B at *
 generalize wb o c=C at *
 split at h
 .exact ef r h
 .rename_i hf;have hN:0<aQ (pX A B C) (pX A B C):=vM hf;split at h
  .split at h
   .rename_i hU;have sn:aQ (pX A B C) (aG A B)+aQ (pX A B C) (aG B C)+aQ (pX A B C) (aG C A)=aQ (pX A B C) (pX A B C):=Gf (pX A B C) A B C;split at h
    .rename_i hg;cases h;refine⟨Int.le_refl _,by decide,?_⟩;obtain⟨m1,m2,m3⟩:=K6 (pX A B C) A B C;rw[show aQ A (aG (cC B A) (cC C A))=0 from hU] at m1 m2 m3;rcases gn.mp hg with g|g
     .exact⟨_,_,_,g.2.1,g.2.2,g.1,by omega,by simp only;grind,by simp only;grind,by simp only;grind⟩
     .omega
    .exact ef r h
   .cases h
  .rename_i hV;have sn:=Gf d A B C;have go:∀P:Prop,¬(P\/cJ o d a b c=false)->cJ o d a b c=true:=λP hb=>by
    rcases Bool.eq_false_or_eq_true (cJ o d a b c) with q|q
    .exact q
    .exact absurd (.inr q) hb
   split at h
   .rename_i XR;split at h
    .cases h
    .rename_i hb;refine iQ.red (m:=some (_,_)) (Sw _ _ _ _) (λp hp=>?_) r h;cases hp;refine⟨Int.not_lt.mp λq=>hb (.inl q),by simp only;omega,?_⟩;rcases gd.mp (go _ hb) with g|g
     .omega
     .exact znD g.1 g.2.1 g.2.2 XR
   .rename_i XR;split at h
    .cases h
    .rename_i hb;have XQ:0<aQ d (aG (cC B A) (cC C A)):=by omega
     refine iQ.red (m:=some (_,_)) (Sw _ _ _ _) (λp hp=>?_) r h;cases hp;refine⟨Int.not_lt.mp λq=>hb (.inl q),XQ,?_⟩;rcases gd.mp (go _ hb) with g|g
     .exact zpZ g.1 g.2.1 g.2.2 XQ
     .omega
end MX.P
end
section
namespace MX.P
open PySem L2 MX
def pY(a b:Pt):Prop:=a.1<=b.1/\a.2.1<=b.2.1/\a.2.2<=b.2.2
theorem Km:∀(r:List Int) (a:Int),r.foldl (λx y=>if y<x then y else x) a<=a/\∀x∈r,r.foldl (λx y=>if y<x then y else x) a<=x
 |[],a=>⟨Int.le_refl _,λ_ h=>by cases h⟩
 |b::r,a=>by
  obtain⟨h1,h2⟩:=Km r (if b<a then b else a);rw[List.foldl_cons];have k:(if b<a then b else a)<=a/\(if b<a then b else a)<=b:=by split<;>omega
  refine⟨Int.le_trans h1 k.1,λx hx=>?_⟩;rcases List.mem_cons.mp hx with rfl|hx
  .exact Int.le_trans h1 k.2
  .exact h2 x hx
theorem Kl:∀(r:List Int) (a:Int),a<=r.foldl (λx y=>if y>x then y else x) a/\∀x∈r,x<=r.foldl (λx y=>if y>x then y else x) a
 |[],a=>⟨Int.le_refl _,λ_ h=>by cases h⟩
 |b::r,a=>by
  obtain⟨h1,h2⟩:=Kl r (if b>a then b else a);rw[List.foldl_cons];have k:a<=(if b>a then b else a)/\b<=(if b>a then b else a):=by split<;>omega
  refine⟨Int.le_trans k.1 h1,λx hx=>?_⟩;rcases List.mem_cons.mp hx with rfl|hx
  .exact Int.le_trans k.2 h1
  .exact h2 x hx
theorem JK{m:Int}(h:je ns=some m):∀x∈ns,m<=x:=by
 cases ns with
 |nil=>cases h
 |cons a r =>
  have h':r.foldl (λx y=>if y<x then y else x) a=m:=by simpa[je] using h
  subst h';intro x hx;rcases List.mem_cons.mp hx with rfl|hx
  .exact(Km r _).1
  .exact(Km r _).2 x hx
theorem JG{m:Int}(h:iV ns=some m):∀x∈ns,x<=m:=by
 cases ns with
 |nil=>cases h
 |cons a r =>
  have h':r.foldl (λx y=>if y>x then y else x) a=m:=by simpa[iV] using h
  subst h';intro x hx;rcases List.mem_cons.mp hx with rfl|hx
  .exact(Kl r _).1
  .exact(Kl r _).2 x hx
def lN.has{pts:List Pt}{lo hi:Pt}(B:lN pts lo hi)(hp:p∈pts):pY lo p/\pY p hi :=
 ⟨⟨JK B.h0 (co 0 p) (List.mem_map_of_mem hp),JK B.h1 (co 1 p) (List.mem_map_of_mem hp),JK B.h2 (co 2 p) (List.mem_map_of_mem hp)⟩,
  ⟨JG B.g0 (co 0 p) (List.mem_map_of_mem hp),JG B.g1 (co 1 p) (List.mem_map_of_mem hp),JG B.g2 (co 2 p) (List.mem_map_of_mem hp)⟩⟩
theorem T9{lo hi lo' hi':Pt}(hq:0<t.2)(h1:pY lo lo')(h2:pY hi' hi)(h:inB o d lo' hi' t):inB o d lo hi t:=by
 have f:∀s w l u l' u':Int,l<=l'->u'<=u->jU s w l' u' t->jU s w l u t:=λs w l u l' u' a b ⟨h1,h2⟩ =>
  ⟨Int.le_trans (Int.mul_le_mul_of_nonneg_right a (by omega)) h1,Int.le_trans h2 (Int.mul_le_mul_of_nonneg_right b (by omega))⟩
 exact⟨f _ _ _ _ _ _ h1.1 h2.1 h.1,f _ _ _ _ _ _ h1.2.1 h2.2.1 h.2.1,f _ _ _ _ _ _ h1.2.2 h2.2.2 h.2.2⟩
theorem U7{lo hi:Pt}(h0:d≠(0,0,0))(h1:0<=t.1)(h2:0<t.2)(h:inB o d lo hi t):gC o d lo hi≠none:=λe=>by have f:=Kv (o:=o) (lo:=lo) (hi:=hi) h0;rw[e] at f;exact f t h1 h2 h
theorem zjK{lo hi lo' hi':Pt}(h0:d≠(0,0,0))(h1:pY lo lo')(h2:pY hi' hi)(e:gC o d lo hi=none):gC o d lo' hi'=none:=by
 cases e':gC o d lo' hi' with
 |none=>rfl
 |some p =>
  have f:=Kv (o:=o) (lo:=lo') (hi:=hi') h0;rw[e'] at f;exact absurd e (U7 h0 f.1 f.2.1 (T9 f.2.1 h1 h2 f.2.2.1))
noncomputable def CT(o d:Pt):Sh->Int×Int->Prop
 |.box lo hi=>inB o d lo hi
 |.tri a b c=>rB d (wb o a) (wb o b) (wb o c)
def RB(o d lo hi:Pt):gF o d (.box lo hi)=nP ((gC o d lo hi).map (·.1)):=by show(gC o d lo hi).map (λp=>dF p.1.1 p.1.2)=_;cases gC o d lo hi<;>rfl
theorem Ro(h0:d≠(0,0,0))(s:Sh):iQ (gF o d s) (CT o d s):=by
 cases s with
 |box lo hi =>
  rw[RB];refine iQ.red (zo8 o d lo hi) λr e=>?_;have f:=Kv (o:=o) (lo:=lo) (hi:=hi) h0;rw[e] at f;exact⟨f.1,f.2.1,f.2.2.1⟩
 |tri a b c=>exact znA h0
def zp2(o d:Pt)(s:Sh):vf (gF o d s):=by
 cases s with
 |box lo hi=>rw[RB];exact Ge _
 |tri a b c=>exact znB o d a b c
theorem ZK{lo hi:Pt}{s:Sh}(B:lN s.pts lo hi)(hq:0<t.2)(h:CT o d s t):inB o d lo hi t:=by
 cases s with
 |box l u=>exact T9 hq (B.has (p:=l) (by simp[Sh.pts])).1 (B.has (p:=u) (by simp[Sh.pts])).2 h
 |tri a b c =>
  obtain⟨a1,a2⟩:=B.has (p:=a) (by simp[Sh.pts]);obtain⟨b1,b2⟩:=B.has (p:=b) (by simp[Sh.pts]);obtain⟨c1,c2⟩:=B.has (p:=c) (by simp[Sh.pts]);obtain⟨u,v,w,u0,v0,w0,hs,e1,e2,e3⟩:=h;exact⟨JH (s:=0) u0 v0 w0 hs hq e1 ⟨a1.1,a2.1⟩ ⟨b1.1,b2.1⟩ ⟨c1.1,c2.1⟩,JH (s:=0) u0 v0 w0 hs hq e2 ⟨a1.2.1,a2.2.1⟩ ⟨b1.2.1,b2.2.1⟩ ⟨c1.2.1,c2.2.1⟩,JH (s:=0) u0 v0 w0 hs hq e3 ⟨a1.2.2,a2.2.2⟩ ⟨b1.2.2,b2.2.2⟩ ⟨c1.2.2,c2.2.2⟩⟩
theorem zn8{lo hi:Pt}{s:Sh}(h0:d≠(0,0,0))(B:lN s.pts lo hi)(h:gF o d s≠none):gC o d lo hi≠none:=by
 cases e:gF o d s with
 |none=>exact absurd e h
 |some p =>
  obtain⟨f1,f2,f3⟩:=Ro h0 s p e;exact U7 h0 f1 f2 (ZK B f2 f3)
end MX.P
end
section
local macro_rules | `(tactic| wtm_at "?d") => `(tactic| (with_reducible assumption))
namespace MX.P
open PySem L2 MX
theorem JC{α:Type}{nx:Nat->So->Option (Option D)}{fe:EF}{S:So}{rest:Sg}(qs:List α)(enc g:α->D)(hnx:∀i:Nat,nx i S=some ((qs.map enc)[i]?))(hstep:∀q∈qs,fe (some (enc q)::rest) S=some (g q,S)):
 ∀(n i:Nat) (v:Option D) (acc:List D),i+n=qs.length->jl nx (aK 0) eZ fe n i (v::rest) S acc=some (acc++(qs.drop i).map g,S)
 |0,i,v,acc,h=>by rw[Fo (by rw[hnx,jw (by simp;omega)]),List.drop_of_length_le (by omega)];simp
 |n+1,i,v,acc,h=>by
  have hi:i<qs.length:=by omega
  have e:(qs.map enc)[i]?=some (enc qs[i]):=by simp[hi]
  refine(yp (by rw[hnx,e]) (di rfl) yx (hstep _ (List.getElem_mem hi)) rfl (JC qs enc g hnx hstep n (i+1) (some (enc qs[i])) (acc++[g qs[i]]) (by omega))).trans ?_;rw[List.drop_eq_getElem_cons hi,iU,gH];rfl
theorem Kf{α:Type}{S1:So}{fi:IF}{rest:Sg}(qs:List α)(enc g:α->D)(h1:fi σ S=some (.lst n,S1))(hn:S1[n]?=some (.lst (qs.map enc)))(hl:qs.length<=1000)(hτ:nR src σ=none::rest)(hstep:∀q∈qs,fe (some (enc q)::rest) S1=some (g q,S1)):fL fi (aK 0) eZ fe src σ S=some (.ref S1.length,S1++[.lst (qs.map g)]):=by
 have key:=JC (nx:=dj (.lst n)) (S:=S1) (rest:=rest) (fe:=fe) qs enc g (λi=>by unfold dj;simp only;rw[hn]) hstep qs.length 0 none [] (by omega);refine vq (n:=qs.length) h1 ?_ (by rw[sizeLine_eq];omega) hτ ?_
 .show(match S1[n]? with|some (.lst xs)=>some xs.length|some (.frz xs)=>some xs.length|_=>none)=_;rw[hn];simp
 .rw[key];simp
noncomputable abbrev Lf:=Pt×Pt×Nat
noncomputable def dJ(q:Lf):Tr := .lf q.1 q.2.1 q.2.2
noncomputable def Tr.leaves:Tr->List Lf
 |.lf lo hi i=>[(lo,hi,i)]
 |.nd _ _ l r=>l.leaves++r.leaves
noncomputable def rQ(k:Nat):Tr->Prop
 |.lf lo hi _=>aN k lo/\aN k hi
 |.nd lo hi l r=>(aN k lo/\aN k hi)/\rQ k l/\rQ k r/\∀q∈l.leaves++r.leaves,pY lo q.1/\pY q.2.1 hi
def Zh{h:Nat}(hl:h<=xs.length):jx xs none (some (h:Nat))=xs.take h:=by unfold jx;rw[HT.zjV,HT.zh9];simp[Nat.min_eq_left hl]
theorem zmN{h:Nat}(hl:h<=xs.length):jx xs (some (h:Nat)) none=xs.drop h:=by unfold jx;rw[HT.zjV,HT.zh9,Nat.min_eq_left hl];rw[List.take_of_length_le (by simp)]
def yF{x:Str}{G:So}(h:kW x S=true):kW x (S++G)=true:=by
 unfold kW at *
 rw[List.any_append,h];rfl
theorem Yg{S1:So}{fb:EF}{src:List Nat}{dz:List D}{kz:List Int}(h1:fe σ S=some (.ref n,S1))(h2:u5 src σ=some dz)(h3:wz dz=true)(hn:S1[n]?=some (.lst xs))(hl:xs.length<64)(hk:qF (lamF fb dz) S1 xs=some kz):
 zx fe src fb σ S=some (.ref S1.length,S1++[.lst ((jq kz).map λi=>xs.getD i .non)]):=by
 unfold zx;rw[h1];simp only[bQ];rw[h2];simp only[bQ];rw[if_pos h3,hn];simp only;rw[if_pos hl,hk];rfl
def Ub{α:Type}{ψ:GN}{S:So}{enc:α->D}{g:α->Int}:∀{qs:List α},(∀q∈qs,ψ [enc q] S=some (.int (g q),S))->qF ψ S (qs.map enc)=some (qs.map g)
 |[],_=>rfl
 |q::r,h=>zjh (h q (fX ..)) (Ub λy hy=>h y (cG _ hy))
theorem zj7{α:Type}(a0:α)(qs:List α)(h:l.Perm (List.range qs.length)):(l.map λi=>qs.getD i a0).Perm qs:=by
 have h1:=h.map λi=>qs.getD i a0;have h2:(List.range qs.length).map (λi=>qs.getD i a0)=qs:=by
  apply List.ext_getElem?;intro i;by_cases hi:i<qs.length
  .simp[hi]
  .rw[jw (by simp;omega),jw (by omega)]
 rw[h2] at h1;exact h1
theorem zmb{α:Type}{enc:α->D}(a0:α)(qs:List α)(h:∀i∈l,i<qs.length):(l.map λi=>(qs.map enc).getD i .non)=(l.map λi=>qs.getD i a0).map enc:=by rw[List.map_map];refine List.map_congr_left λi hi=>?_;have:=h i hi;simp[List.getD_eq_getElem?_getD,this]
theorem zmV{q:Lf}(hj:j<=2)(S:So):lamF (eB (aP .Add) (eB aL (eB aL (gw "Tree" "box" (aj 0)) (eC (.int 0))) (aj 1)) (eB aL (eB aL (gw "Tree" "box" (aj 0)) (eC (.int 1))) (aj 1))) [.int (j:Nat)] [bB (dJ q)] S=some (.int (co j q.1+co j q.2.1),S):=by show eB _ _ _ [some (bB (dJ q)),some (.int (j:Nat))] S=_;refine bI (bI (bI (qK (d := .tup [pD q.1,pD q.2.1]) (aC rfl) rfl rfl) bC (iZ (z:=pD q.1) rfl)) (aC rfl) (iZ (z9 (by omega) (by omega) q.1))) (bI (bI (qK (d := .tup [pD q.1,pD q.2.1]) (aC rfl) rfl rfl) bC (iZ (z:=pD q.2.1) rfl)) (aC rfl) (iZ (z9 (by omega) (by omega) q.2.1))) Jl
theorem Ff(n:Nat)(qs:List Lf):O.lo n (.lst (qs.map λq=>bB (dJ q)))=true:=by show cI n _=true;rw[lF];intro x hx;obtain⟨q,_,rfl⟩:=List.mem_map.mp hx;exact qI n _
theorem Fe{α:Type}(n:Nat)(qs:List α)(f:α->Pt):cI n (qs.map λq=>pD (f q))=true:=by rw[lF];intro x hx;obtain⟨p,_,rfl⟩:=List.mem_map.mp hx;simp[D.lo,cI]
theorem zoW{ys:List D}(h1:cI n xs=true)(h2:cI n ys=true):cI n (xs++ys)=true:=by
 rw[lF] at *
 intro x hx;rcases lO.mp hx with h|h
 .exact h1 x h
 .exact h2 x h
theorem znY:∀(k:Nat) (qs:List Lf) (n:Nat) (S:So),WF S->kW "tree_over" S=true->S[n]?=some (.lst (qs.map λq=>bB (dJ q)))->1<=qs.length->qs.length<=2 ^ k->qs.length<=60->(∀q∈qs,aN K q.1/\aN K q.2.1) ->
 ∃t,jh (k+1) [.ref n] S=some (bB t,S)/\rQ K t/\t.leaves.Perm qs:=by
 intro k
 induction k with
 |zero =>
  intro qs n S hS hT hn h1 h2 h60 hb;obtain⟨q,rfl⟩:=List.length_eq_one_iff.mp (show qs.length=1 by have:qs.length<=1:=h2;omega);refine⟨dJ q,?_,hb q (by simp),List.Perm.refl _⟩;show sY "tree_over" 5 (nA (jh 0)) _ S=_;unfold sY;rw[if_pos hT];apply bY
  .wtm_at "?b"
   unfold nA;refine aH (eF (b:=true) (eG ?_) (gm rfl (aH (fZ (bI (aC rfl) bC (yo hn (z:=bB (dJ q)) rfl))) d7))) d7;exact bI (bH (aM (aC rfl) bA) (nq hn)) bC rfl
  .exact kJ
  .exact qI _ _
 |succ k ih =>
  intro qs n S hS hT hn h1 h2 h60 hb;show ∃t,sY "tree_over" 5 (nA (jh (k+1))) _ S=_/\_;unfold sY;rw[if_pos hT];by_cases hL:qs.length=1
  .obtain⟨q,rfl⟩:=List.length_eq_one_iff.mp hL;refine⟨dJ q,?_,hb q (by simp),List.Perm.refl _⟩;apply bY
   .wtm_at "?b"
    unfold nA;refine aH (eF (b:=true) (eG ?_) (gm rfl (aH (fZ (bI (aC rfl) bC (yo hn (z:=bB (dJ q)) rfl))) d7))) d7;exact bI (bH (aM (aC rfl) bA) (nq hn)) bC rfl
   .exact kJ
   .exact qI _ _
  .obtain⟨lo,hi,B⟩:=QX (pts:=qs.map (·.1)++qs.map (·.2.1)) (by
    intro e;have:=congrArg List.length e;rw[jQ,cZ,cZ,zH] at this;omega)
   have bb:aN K lo/\aN K hi:=B.bd λp hp=>by
    rcases lO.mp hp with hp|hp
    .obtain⟨q,hq,rfl⟩:=List.mem_map.mp hp;exact(hb q hq).1
    .obtain⟨q,hq,rfl⟩:=List.mem_map.mp hp;exact(hb q hq).2
   obtain⟨j,hj,hw⟩:=zjL lo hi;have hm:qs.map (λq=>pD q.1)++qs.map (λq=>pD q.2.1)=(qs.map (·.1)++qs.map (·.2.1)).map pD:=by rw[uT,List.map_map,List.map_map];rfl
   have W1:WF (S++[.lst (qs.map λq=>pD q.1)]):=hS.snoc (Fe _ _ _);have W2:WF (S++[.lst (qs.map λq=>pD q.1)]++[.lst (qs.map λq=>pD q.2.1)]):=W1.snoc (Fe _ _ _);have W3:WF (S++[.lst (qs.map λq=>pD q.1)]++[.lst (qs.map λq=>pD q.2.1)]++[.lst (qs.map (λq=>pD q.1)++qs.map λq=>pD q.2.1)]):=W2.snoc (zoW (Fe _ _ _) (Fe _ _ _));have Dt:eN (aO 1 yO) (ak (eB (aP .Add) (fL (fO (aj 0)) (aK 0) eZ (eB aL (gw "Tree" "box" (aj 0)) (eC (.int 0))) [none]) (fL (fO (aj 0)) (aK 0) eZ (eB aL (gw "Tree" "box" (aj 0)) (eC (.int 1))) [none])) au) [some (.ref n),none,none,none,none] S=some (.tup [pD lo,pD hi],S++[.lst (qs.map λq=>pD q.1)]++[.lst (qs.map λq=>pD q.2.1)]++[.lst (qs.map (λq=>pD q.1)++qs.map λq=>pD q.2.1)]):=by
    refine bH (aM (bI (Kf qs (λq=>bB (dJ q)) (λq=>pD q.1) (qL (aC rfl) hn) hn (by omega) rfl λq _=>?_) (Kf qs (λq=>bB (dJ q)) (λq=>pD q.2.1) (qL (aC rfl) (fK hn)) (fK hn) (by omega) rfl λq _=>?_) (zpq (fK cM) cM ?_)) bA) (cV rfl (Rx (pts:=qs.map (·.1)++qs.map (·.2.1)) W3 ?_ ?_ B))
    .exact bI (qK (d := .tup [pD q.1,pD q.2.1]) (aC rfl) rfl rfl) bC (iZ rfl)
    .exact bI (qK (d := .tup [pD q.1,pD q.2.1]) (aC rfl) rfl rfl) bC (iZ rfl)
    .simp only[cZ];rw[sizeLine_eq];omega
    .rw[<-hm];exact cM
    .simp only[jQ,cZ];omega
   have Dr:bW (eB (aZ .Eq) (eN gW (ak (aj 0) au)) (eC (.int 1))) [some (.ref n),none,none,none,none] S=some (false,S):=by have:=eG (bI (bH (aM (aC (σ:=[some (.ref n),none,none,none,none]) (i:=0) rfl) bA) (nq hn)) (bC (d := .int 1)) EY);rw[this,nj];rw[cZ];omega
   generalize zu:S++[.lst (qs.map λq=>pD q.1)]++[.lst (qs.map λq=>pD q.2.1)]++[.lst (qs.map (λq=>pD q.1)++qs.map λq=>pD q.2.1)]=S3 at W3 Dt;have n3:S3[n]?=some (.lst (qs.map λq=>bB (dJ q))):=by rw[<-zu];exact fK (fK (fK hn))
   have T3:kW "tree_over" S3=true:=by rw[<-zu,gH,gH];exact yF hT
   have tk3:S3.take S.length=S:=by rw[<-zu,gH,gH];simp
   have l3:S.length<=S3.length:=by rw[<-zu];simp
   have kp:=Li (qs.map λq=>co j q.1+co j q.2.1);rw[cZ] at kp;have hlt:∀i∈jq (qs.map λq=>co j q.1+co j q.2.1),i<qs.length:=λi hi=>List.mem_range.mp (kp.mem_iff.mp hi);have pp:=zj7 ((0,0,0),(0,0,0),0) qs kp;have pe:=zmb (enc:=λq=>bB (dJ q)) ((0,0,0),(0,0,0),0) qs hlt;generalize hrow:(jq (qs.map λq=>co j q.1+co j q.2.1)).map (λi=>qs.getD i ((0,0,0),(0,0,0),0))=row at pp pe;have rl:row.length=qs.length:=pp.length_eq;have b4:∀q∈row,aN K q.1/\aN K q.2.1:=λq hq=>hb q (pp.mem_iff.mp hq);have W4:WF (S3++[.lst (row.map λq=>bB (dJ q))]):=W3.snoc (Ff _ _);have W5:WF (S3++[.lst (row.map λq=>bB (dJ q))]++[.lst ((row.take (qs.length / 2)).map λq=>bB (dJ q))]):=W4.snoc (Ff _ _);have W6:WF (S3++[.lst (row.map λq=>bB (dJ q))]++[.lst ((row.take (qs.length / 2)).map λq=>bB (dJ q))]++[.lst ((row.drop (qs.length / 2)).map λq=>bB (dJ q))]):=W5.snoc (Ff _ _);have hp2:2 ^ (k+1)=2 ^ k+2 ^ k:=by rw[Nat.pow_succ];omega
   obtain⟨t1,e1,o1,p1⟩:=ih (row.take (qs.length / 2)) _ _ W5 (by rw[gH];exact yF T3) cM (by simp;omega) (by simp;omega) (by simp;omega) (λq hq=>b4 q (List.mem_of_mem_take hq));obtain⟨t2,e2,o2,p2⟩:=ih (row.drop (qs.length / 2)) _ _ W6 (by rw[gH,gH];exact yF T3) cM (by simp;omega) (by simp;omega) (by simp;omega) (λq hq=>b4 q (List.mem_of_mem_drop hq));have pq:(t1.leaves++t2.leaves).Perm qs:=((p1.append p2).trans (by rw[List.take_append_drop])).trans pp;refine⟨.nd lo hi t1 t2,?_,⟨bb,o1,o2,λq hq=>?_⟩,pq⟩
   .apply bY (S':=S3++[.lst (row.map λq=>bB (dJ q))]++[.lst ((row.take (qs.length / 2)).map λq=>bB (dJ q))]++[.lst ((row.drop (qs.length / 2)).map λq=>bB (dJ q))])
    .wtm_at "?b"
     unfold nA;refine aH (eF Dr (eH rfl dR)) (aV ?_);refine aH (dI Dt (di rfl)) (aV ?_);refine aH (dI (bH (aM (aC rfl) bA) (cV rfl (hw S3))) (di rfl)) (aV ?_);refine aH (dI (Yg (dz:=[.int (j:Nat)]) (aC rfl) rfl rfl n3 (by simp;omega) (Ub (g:=λq:Lf=>co j q.1+co j q.2.1) λq _=>zmV hj S3)) (di rfl)) (aV ?_);rw[pe];have hfd:((qs.length:Int)).fdiv 2=((qs.length / 2:Nat):Int):=by rw[Int.fdiv_eq_ediv_of_nonneg _ (by decide)];rfl
     refine aH (dI (bI (bH (aM (aC rfl) bA) (nq cM)) bC (qJ (by decide))) (di rfl)) (aV ?_);simp only[cZ,rl,hfd];have c1:eN (aO 1 (jh (k+1))) (ak (jP (aj 2) lA (jH (aj 3))) au) [some (.ref n),some (.tup [pD lo,pD hi]),some (.ref S3.length),some (.int ((qs.length / 2:Nat):Int)),some (.int (j:Nat))] (S3++[.lst (row.map λq=>bB (dJ q))])=some (bB t1,S3++[.lst (row.map λq=>bB (dJ q))]++[.lst ((row.take (qs.length / 2)).map λq=>bB (dJ q))]):=by refine bH (aM (zZ (aC rfl) FQ (FT (aC rfl)) (Jo cM ?_)) bA) (cV rfl e1);rw[Zh (by simp[rl];omega),List.map_take]
     have c2:eN (aO 1 (jh (k+1))) (ak (jP (aj 2) (jH (aj 3)) lA) au) [some (.ref n),some (.tup [pD lo,pD hi]),some (.ref S3.length),some (.int ((qs.length / 2:Nat):Int)),some (.int (j:Nat))] (S3++[.lst (row.map λq=>bB (dJ q))]++[.lst ((row.take (qs.length / 2)).map λq=>bB (dJ q))])=some (bB t2,S3++[.lst (row.map λq=>bB (dJ q))]++[.lst ((row.take (qs.length / 2)).map λq=>bB (dJ q))]++[.lst ((row.drop (qs.length / 2)).map λq=>bB (dJ q))]):=by refine bH (aM (zZ (aC rfl) (FT (aC rfl)) FQ (Jo (fK cM) ?_)) bA) (cV rfl e2);rw[zmN (by simp[rl];omega),List.map_drop]
     exact aH (fZ (Ve (aM (aC rfl) (aM bC (aM (bH (aM c1 (aM c2 bA)) (lC (by show 2<=sizeLine;decide))) bA))) W6 (by simp[cI,D.lo,qI]))) d7
    .rw[gH,gH,List.take_append_of_le_length l3];exact tk3
    .exact qI _ (.nd lo hi t1 t2)
   .have hq':=pq.mem_iff.mp hq;exact⟨(B.has (List.mem_append_left _ (List.mem_map_of_mem hq'))).1,(B.has (List.mem_append_right _ (List.mem_map_of_mem hq'))).2⟩
noncomputable abbrev jC(b:Pt×Pt):D := .tup [pD b.1,pD b.2]
noncomputable def gK(bs:List (Pt×Pt)):List Lf:=bs.zipIdx.map λp=>(p.1.1,p.1.2,p.2)
def lZ(bs:List (Pt×Pt)):(gK bs).length=bs.length:=by simp[gK]
def Gp{bs:List (Pt×Pt)}(h:i<bs.length):(gK bs)[i]?=some (bs[i].1,bs[i].2,i):=by simp[gK,h]
theorem Vo{bs:List (Pt×Pt)}{q:Lf}(h:q∈gK bs):q.2.2<bs.length/\(q.1,q.2.1)∈bs:=by obtain⟨i,hi,e⟩:=List.mem_iff_getElem.mp h;rw[lZ] at hi;have:=Gp hi;rw[gJ (by rw[lZ];exact hi),e] at this;cases this;exact⟨hi,List.getElem_mem hi⟩
theorem SM{S:So}{n:Nat}{bs:List (Pt×Pt)}(hS:WF S)(hn:S[n]?=some (.lst (bs.map jC))):∀(m i:Nat) (τ:Sg) (acc:List D),τ.length=2->i+m=bs.length ->
 jl (dj (.enm n)) (lJ 2 (gA (aK 0) (gA (aK 1) mX))) eZ (oX "Tree" 4 yZ (ak (aj 1) (ak (aj 0) (ak (eN cB au) au)))) m i τ S acc=some (acc++((gK bs).drop i).map (λq=>bB (dJ q)),S)
 |0,i,τ,acc,hτ,h=>by rw[Fo (by unfold dj;simp only;rw[hn];simp;omega),List.drop_of_length_le (by rw[lZ];omega)];simp
 |m+1,i,τ,acc,hτ,h=>by
  have hi:i<bs.length:=by omega
  obtain⟨a,b,rfl⟩:∃a b,τ=[a,b]:=by
   match τ,hτ with
   |[a,b],_=>exact⟨a,b,rfl⟩
  have hq:(gK bs)[i]?=some (bs[i].1,bs[i].2,i):=Gp hi;have nx:dj (.enm n) i S=some (some (.tup [.int (i:Nat),jC bs[i]])):=by unfold dj;simp only;rw[hn];simp[hi]
  refine(yp nx (Q8 rfl (KC (di rfl) (KC (di rfl) Uv))) yx (Ve (aM (aC rfl) (aM (aC rfl) (aM (bH bA (lC (by show 0<=sizeLine;exact Nat.zero_le _))) bA))) hS (by simp[cI,D.lo])) rfl (SM hS hn m (i+1) _ _ rfl (by omega))).trans ?_;rw[List.drop_eq_getElem_cons (l:=gK bs) (i:=i) (by rw[lZ];exact hi),iU,gH];have e2:(gK bs)[i]'(by rw[lZ];exact hi)=(bs[i].1,bs[i].2,i):=by rw[gJ (by rw[lZ];exact hi)] at hq;exact Option.some.inj hq
  rw[e2];rfl
noncomputable def gj:Option Tr->D
 |none => .non
 |some t=>bB t
noncomputable def zp:Option Tr->List Lf
 |none=>[]
 |some t=>t.leaves
def YJ(n:Nat)(t:Option Tr):D.lo n (gj t)=true:=by
 cases t with
 |none=>simp[gj,D.lo]
 |some t=>exact qI n t
theorem zlR{bs:List (Pt×Pt)}(hS:WF S)(hT:kW "tree_over" S=true)(hn:S[n]?=some (.lst (bs.map jC)))(hl:bs.length<=32)(hb:∀b∈bs,aN K b.1/\aN K b.2):
 ∃t,Gw [.ref n] S=some (gj t,S)/\(∀t',t=some t'->rQ K t')/\(zp t).Perm (gK bs):=by
 have e1:M9 [some (.ref n),none] S=some (.nx,[some (.ref n),some (.ref S.length)],S++[.lst ((gK bs).map λq=>bB (dJ q))]):=by
  unfold M9;refine dI (vq (j := .enm n) (n:=bs.length) (σ1:=[none,none]) ?_ ?_ (by rw[sizeLine_eq];omega) rfl ((SM hS hn bs.length 0 [none,none] [] rfl (by omega)).trans (by simp))) (di rfl)
  .unfold oN;rw[aC (d := .ref n) rfl];simp only[bQ];rw[hn]
  .show(match S[n]? with|some (.lst xs)=>some xs.length|_=>none)=_;rw[hn];simp
 have W1:WF (S++[.lst ((gK bs).map λq=>bB (dJ q))]):=hS.snoc (Ff _ _);have Br:∀b:Bool,b=decide (bs.length=0)->bW (eB (aZ .Eq) (eN gW (ak (aj 1) au)) (eC (.int 0))) [some (.ref n),some (.ref S.length)] (S++[.lst ((gK bs).map λq=>bB (dJ q))])=some (b,S++[.lst ((gK bs).map λq=>bB (dJ q))]):=λb hb=>by have:=eG (bI (bH (aM (aC (σ:=[some (.ref n),some (.ref S.length)]) (i:=1) rfl) bA) (nq (cM (S:=S) (o := .lst ((gK bs).map λq=>bB (dJ q)))))) (bC (d := .int 0)) EY);rw[this,hb];congr 2;rw[cZ,lZ];simp
 by_cases h0:bs.length=0
 .refine⟨none,?_,λt' e=>(by cases e),by rw[List.eq_nil_of_length_eq_zero h0];exact List.Perm.refl _⟩;apply bY
  .wtm_at "?b"
   unfold Ln;have e3:Ay [some (.ref n),some (.ref S.length)] (S++[.lst ((gK bs).map λq=>bB (dJ q))])=some (.rt (gj none),[some (.ref n),some (.ref S.length)],S++[.lst ((gK bs).map λq=>bB (dJ q))]):=by unfold Ay;exact fZ (zY (Br true (by simp[h0])) (gm rfl bC))
   exact aH e1 (aV (aH e3 d7))
  .wtm_at "?c"
  .rfl
 .obtain⟨t,e2,o2,p2⟩:=znY (K:=K) 5 (gK bs) S.length (S++[.lst ((gK bs).map λq=>bB (dJ q))]) W1 (yF hT) cM (by rw[lZ];omega) (by rw[lZ];omega) (by rw[lZ];omega) (λq hq=>hb _ (Vo hq).2);refine⟨some t,?_,λt' e=>(by cases e;exact o2),p2⟩;apply bY
  .wtm_at "?b"
   unfold Ln;have e3:Ay [some (.ref n),some (.ref S.length)] (S++[.lst ((gK bs).map λq=>bB (dJ q))])=some (.rt (gj (some t)),[some (.ref n),some (.ref S.length)],S++[.lst ((gK bs).map λq=>bB (dJ q))]):=by unfold Ay;exact fZ (zY (Br false (by simp[h0])) (eH rfl (bH (aM (aC rfl) bA) (cV rfl e2))))
   exact aH e1 (aV (aH e3 d7))
  .wtm_at "?c"
  .exact qI _ _
noncomputable def Tr.size:Tr->Nat
 |.lf _ _ _=>1
 |.nd _ _ l r=>1+l.size+r.size
noncomputable def jJ(ws:List Tr):Nat:=(ws.map Tr.size).sum
def UG:∀t:Tr,1<=t.size
 |.lf _ _ _=>bZ _
 |.nd _ _ _ _=>by simp[Tr.size];omega
def Vv(a b:List Tr):jJ (a++b)=jJ a+jJ b:=by simp[jJ]
theorem Vn(ws:List Tr):ws.length<=jJ ws:=by
 induction ws with
 |nil=>simp[jJ]
 |cons t r ih =>
  have:=UG t;simp only[jJ,iU,List.sum_cons,jd] at *
  omega
noncomputable def aY(i:Nat):D := .int (i:Nat)
section
variable {K:Nat}{o d:Pt}(ho:aN K o)(hd:aN K d)(h0:d≠(0,0,0))(hK:K<=10000)
theorem zl9{x:D}{S3:So}(h:S[n]?=some (.lst (xs++[x])))(h3:S.set n (.lst xs)=S3):mD (.ref n) [] S=some (x,S3):=by unfold mD;simp only;rw[h];simp[h3]
def Rv{a b c:O}(hn:n=S.length+1):(S++[a]++[b]).set n c=S++[a]++[c]:=by subst hn;rw[show S.length+1=(S++[a]).length by simp];simp
def JP{a b c:O}(hn:n=S.length):(S++[a]++[b]).set n c=S++[c]++[b]:=by subst hn;simp
noncomputable def Ei(o d:Pt)(q:Lf):Bool:=(gC o d q.1 q.2.1).isSome
noncomputable def jW(o d:Pt)(l:List Lf):List Nat:=(l.filter (Ei o d)).map (·.2.2)
theorem zp1:∀{t:Tr},rQ K t->∀q∈t.leaves,pY t.lo q.1/\pY q.2.1 t.hi
 |.lf lo hi i,_,q,hq=>by rw[List.mem_singleton.mp hq];exact⟨⟨Int.le_refl _,Int.le_refl _,Int.le_refl _⟩,Int.le_refl _,Int.le_refl _,Int.le_refl _⟩
 |.nd lo hi l r,h,q,hq=>h.2.2.2 q hq
include h0 in
theorem zlX{t:Tr}(ht:rQ K t)(e:gC o d t.lo t.hi=none):jW o d t.leaves=[]:=by unfold jW;rw[List.filter_eq_nil_iff.mpr λq hq=>?_,List.map_nil];have k:=zp1 ht q hq;unfold Ei;rw[zjK h0 k.1 k.2 e];simp
def Uz(a b:List Lf):jW o d (a++b)=jW o d a++jW o d b:=by simp[jW]
def Ui{m:Option ((Int×Int)×(Int×Int))}{b:Bool}(h:nW (Ej m)=b):m.isSome = !b:=by cases m<;>cases b<;>first|rfl|cases h
noncomputable abbrev Hi:TF:=bW (eB (aZ .Gt) (eN gW (ak (aj 3) au)) (eC (.int 0)))
include ho hd h0 hK in
theorem zlB:∀(N:Nat) (ws:List Tr) (fs:List Nat),jJ ws<=N->N+fs.length<=1000->(∀t∈ws,rQ K t) ->
 ∃fs':List Nat,fs'.Perm (fs++jW o d (ws.flatMap Tr.leaves))/\fs'.length<=fs.length+N/\∀(S:So) (x0 p:Option D),∃p',j9 Hi t7 [x0,some (.tup [pD o,pD d]),some (.ref S.length),some (.ref (S.length+1)),p] (S++[.lst (fs.map aY)]++[.lst (ws.map bB)]) =
  some (.nx,[x0,some (.tup [pD o,pD d]),some (.ref S.length),some (.ref (S.length+1)),p'],S++[.lst (fs'.map aY)]++[.lst []]):=by
 intro N
 induction N with
 |zero =>
  intro ws fs h1 h2 h3;have hw:ws=[]:=by have:=Vn ws;exact List.eq_nil_of_length_eq_zero (by omega)
  subst hw;refine⟨fs,by simp[jW],by omega,λS x0 p=>⟨p,?_⟩⟩;have l2:(S++[O.lst (fs.map aY)]++[O.lst []])[S.length+1]?=some (.lst []):=by rw[show S.length+1=(S++[O.lst (fs.map aY)]).length by simp];exact cM
  exact JM (eG (bI (bH (aM (aC rfl) bA) (nq l2)) bC rfl))
 |succ N ih =>
  intro ws fs h1 h2 h3;rcases List.eq_nil_or_concat ws with rfl|⟨ws',t,rfl⟩
  .refine⟨fs,by simp[jW],by omega,λS x0 p=>⟨p,?_⟩⟩;have l2:(S++[O.lst (fs.map aY)]++[O.lst []])[S.length+1]?=some (.lst []):=by rw[show S.length+1=(S++[O.lst (fs.map aY)]).length by simp];exact cM
   exact JM (eG (bI (bH (aM (aC rfl) bA) (nq l2)) bC rfl))
  .rw[List.concat_eq_append] at *
   have hsz:=Vv ws' [t];have hpt:=UG t;have ht:jJ [t]=t.size:=by simp[jJ]
   have hto:=h3 t (by simp);have htl:aN K t.lo/\aN K t.hi:=by
    cases t with
    |lf lo hi i=>exact hto
    |nd lo hi l r=>exact hto.1
   have fb:∀fx:EF,∀(σ:Sg) (S:So),fx σ S=some (bB t,S)->gw "Tree" "box" fx σ S=some (.tup [pD t.lo,pD t.hi],S):=λfx σ S h=>by cases t<;>exact qK h rfl rfl
   have turn:∀(S:So) (x0 p:Option D) (r:Fl×Sg×So) (fl:Fl) (σ2:Sg) (S2:So),t7 [x0,some (.tup [pD o,pD d]),some (.ref S.length),some (.ref (S.length+1)),p] (S++[.lst (fs.map aY)]++[.lst ((ws'++[t]).map bB)])=some (fl,σ2,S2)->(fl = .nx\/fl = .ct)->j9 Hi t7 σ2 S2=some r ->
    j9 Hi t7 [x0,some (.tup [pD o,pD d]),some (.ref S.length),some (.ref (S.length+1)),p] (S++[.lst (fs.map aY)]++[.lst ((ws'++[t]).map bB)])=some r:=λS x0 p r fl σ2 S2 e hf hr=>by
    have l2:(S++[O.lst (fs.map aY)]++[O.lst ((ws'++[t]).map bB)])[S.length+1]?=some (.lst ((ws'++[t]).map bB)):=by rw[show S.length+1=(S++[O.lst (fs.map aY)]).length by simp];exact cM
    refine Uy (σ1:=[]) ?_ e hf hr;have:=eG (bI (bH (aM (aC (σ:=[x0,some (.tup [pD o,pD d]),some (.ref S.length),some (.ref (S.length+1)),p]) (i:=3) rfl) bA) (nq l2)) (bC (d := .int 0)) QL);rw[show Hi=bW (eB (aZ .Gt) (eN gW (ak (aj 3) au)) (eC (.int 0))) from rfl,this,jY];simp
   have st1:∀(S:So) (x0 p:Option D),Np [x0,some (.tup [pD o,pD d]),some (.ref S.length),some (.ref (S.length+1)),p] (S++[.lst (fs.map aY)]++[.lst ((ws'++[t]).map bB)])=some (.nx,[x0,some (.tup [pD o,pD d]),some (.ref S.length),some (.ref (S.length+1)),some (bB t)],S++[.lst (fs.map aY)]++[.lst (ws'.map bB)]):=λS x0 p=>by
    have l2:(S++[O.lst (fs.map aY)]++[O.lst ((ws'++[t]).map bB)])[S.length+1]?=some (.lst ((ws'++[t]).map bB)):=by rw[show S.length+1=(S++[O.lst (fs.map aY)]).length by simp];exact cM
    unfold Np;refine dI (x:=bB t) (S1:=S++[.lst (fs.map aY)]++[.lst (ws'.map bB)]) ?_ (di rfl);unfold Du;rw[aC (d := .ref (S.length+1)) rfl];simp only[bQ];rw[l2];simp only;exact zl9 (by rw[l2,uT];rfl) (Rv rfl)
   have sp:=λS=>Wl (lo:=t.lo) (hi:=t.hi) ho hd htl.1 htl.2 h0 hK S;have st2:∀(S:So) (x0:Option D) (b:Bool),nW (Ej (gC o d t.lo t.hi))=b->bW (eB (aZ .Is) (eN (aO 2 vB) (ak (aj 1) (ak (gw "Tree" "box" (aj 4)) au))) (eC .non)) [x0,some (.tup [pD o,pD d]),some (.ref S.length),some (.ref (S.length+1)),some (bB t)] (S++[.lst (fs.map aY)]++[.lst (ws'.map bB)])=some (b,S++[.lst (fs.map aY)]++[.lst (ws'.map bB)]):=λS x0 b hb=>by rw[<-hb];exact eG (bI (bH (aM (aC rfl) (aM (fb _ _ _ (aC rfl)) bA)) (cV rfl (sp _))) bC pM)
   cases hsp:nW (Ej (gC o d t.lo t.hi)) with
   |true =>
    obtain⟨fs',p1,p2,p3⟩:=ih ws' fs (by omega) (by omega) (λt' h=>h3 t' (by simp[h]));refine⟨fs',?_,by omega,λS x0 p=>?_⟩
    .have hn:gC o d t.lo t.hi=none:=by have:=Ui hsp;cases q:gC o d t.lo t.hi with|none=>rfl|some _=>rw[q] at this;cases this
     rw[List.flatMap_append,Uz,List.flatMap_singleton,zlX h0 hto hn,List.append_nil];exact p1
    .obtain⟨p',e⟩:=p3 S x0 (some (bB t));refine⟨p',turn S x0 p _ .ct _ _ ?_ (.inr rfl) e⟩;unfold t7;refine aH (st1 S x0 p) (aV (aH (fl := .ct) ?_ JN));unfold zb;exact eF (st2 S x0 true hsp) (gm rfl (aH RW JN))
   |false =>
    cases t with
    |lf lo hi i =>
     obtain⟨fs',p1,p2,p3⟩:=ih ws' (fs++[i]) (by omega) (by simp;omega) (λt' h=>h3 t' (by simp[h]));refine⟨fs',?_,by simp at p2;omega,λS x0 p=>?_⟩
     .have hs:jW o d (Tr.leaves (.lf lo hi i))=[i]:=by have:Ei o d (lo,hi,i)=true:=Ui hsp;unfold jW Tr.leaves;rw[List.filter_cons_of_pos this];rfl
      rw[List.flatMap_append,Uz,List.flatMap_singleton,hs];rw[gH] at p1;exact p1.trans (List.Perm.append_left _ List.perm_append_comm)
     .obtain⟨p',e⟩:=p3 S x0 (some (bB (.lf lo hi i)));refine⟨p',turn S x0 p _ .nx _ _ ?_ (.inl rfl) e⟩;unfold t7;have s2:zb [x0,some (.tup [pD o,pD d]),some (.ref S.length),some (.ref (S.length+1)),some (bB (.lf lo hi i))] (S++[.lst (fs.map aY)]++[.lst (ws'.map bB)])=some (.nx,[x0,some (.tup [pD o,pD d]),some (.ref S.length),some (.ref (S.length+1)),some (bB (.lf lo hi i))],S++[.lst (fs.map aY)]++[.lst (ws'.map bB)]):=by unfold zb;exact eF (st2 S x0 false hsp) (eH rfl dR)
      have s3:Bl [x0,some (.tup [pD o,pD d]),some (.ref S.length),some (.ref (S.length+1)),some (bB (.lf lo hi i))] (S++[.lst (fs.map aY)]++[.lst (ws'.map bB)])=some (.nx,[x0,some (.tup [pD o,pD d]),some (.ref S.length),some (.ref (S.length+1)),some (bB (.lf lo hi i))],S++[.lst ((fs++[i]).map aY)]++[.lst (ws'.map bB)]):=by unfold Bl;have l1:(S++[O.lst (fs.map aY)]++[O.lst (ws'.map bB)])[S.length]?=some (.lst (fs.map aY)):=fK cM;rw[uT];exact eF (b:=false) (eG (bI (qK (d:=aY i) (aC rfl) rfl rfl) bC pM)) (eH rfl (aH (tV (Ez (aC rfl) l1 (aM (qK (d:=aY i) (aC rfl) rfl rfl) bA) (Vd l1 (by rw[cZ,sizeLine_eq];omega) (JP rfl)))) (aV dR)))
      exact aH (st1 S x0 p) (aV (aH s2 (aV (aH s3 (aV dR)))))
    |nd lo hi l r =>
     have hsl:jJ (ws'++[l,r])<=N:=by
      have e1:=Vv ws' [l,r];have e2:jJ [l,r]=l.size+r.size:=by simp[jJ]
      have e3:(Tr.nd lo hi l r).size=1+l.size+r.size:=rfl;omega
     obtain⟨fs',p1,p2,p3⟩:=ih (ws'++[l,r]) fs hsl (by omega) (λt' h=>by
      rcases lO.mp h with h|h
      .exact h3 t' (by simp[h])
      .rcases List.mem_cons.mp h with rfl|h
       .exact hto.2.1
       .rw[List.mem_singleton.mp h];exact hto.2.2.1)
     refine⟨fs',?_,by omega,λS x0 p=>?_⟩
     .have hl:(ws'++[l,r]).flatMap Tr.leaves=(ws'++[Tr.nd lo hi l r]).flatMap Tr.leaves:=by simp[Tr.leaves]
      rw[<-hl];exact p1
     .obtain⟨p',e⟩:=p3 S x0 (some (bB (.nd lo hi l r)));refine⟨p',turn S x0 p _ .nx _ _ ?_ (.inl rfl) e⟩;unfold t7;have s2:zb [x0,some (.tup [pD o,pD d]),some (.ref S.length),some (.ref (S.length+1)),some (bB (.nd lo hi l r))] (S++[.lst (fs.map aY)]++[.lst (ws'.map bB)])=some (.nx,[x0,some (.tup [pD o,pD d]),some (.ref S.length),some (.ref (S.length+1)),some (bB (.nd lo hi l r))],S++[.lst (fs.map aY)]++[.lst (ws'.map bB)]):=by unfold zb;exact eF (st2 S x0 false hsp) (eH rfl dR)
      have s3:Bl [x0,some (.tup [pD o,pD d]),some (.ref S.length),some (.ref (S.length+1)),some (bB (.nd lo hi l r))] (S++[.lst (fs.map aY)]++[.lst (ws'.map bB)])=some (.nx,[x0,some (.tup [pD o,pD d]),some (.ref S.length),some (.ref (S.length+1)),some (bB (.nd lo hi l r))],S++[.lst (fs.map aY)]++[.lst ((ws'++[l,r]).map bB)]):=by
       unfold Bl;have l2:(S++[O.lst (fs.map aY)]++[O.lst (ws'.map bB)])[S.length+1]?=some (.lst (ws'.map bB)):=by rw[show S.length+1=(S++[O.lst (fs.map aY)]).length by simp];exact cM
       have hx:yc (.ref (S.length+1)) [.tup [bB l,bB r]] (S++[.lst (fs.map aY)]++[.lst (ws'.map bB)])=some (.non,S++[.lst (fs.map aY)]++[.lst ((ws'++[l,r]).map bB)]):=by have hlw:=Vn ws';unfold yc;simp only;rw[l2];simp only;rw[if_pos (by rw[cZ,sizeLine_eq];simp;omega),Rv rfl,uT];rfl
       exact eF (b:=true) (eG (bI (qK (d := .non) (aC rfl) rfl rfl) bC pM)) (gm rfl (aH (tV (Ez (aC rfl) l2 (aM (qK (d := .tup [bB l,bB r]) (aC rfl) rfl rfl) bA) hx)) (aV dR)))
      exact aH (st1 S x0 p) (aV (aH s2 (aV (aH s3 (aV dR)))))
end
def Lh:∀t:Tr,t.size+1=2*t.leaves.length
 |.lf _ _ _=>rfl
 |.nd _ _ l r=>by have h1:=Lh l;have h2:=Lh r;simp only[Tr.size,Tr.leaves,jQ];omega
theorem JF(n:Nat)(fs:List Nat):O.lo n (.lst (fs.map aY))=true:=by show cI n _=true;rw[lF];intro x hx;obtain⟨i,_,rfl⟩:=List.mem_map.mp hx;simp[aY,D.lo]
section
variable {K:Nat}{o d:Pt}(ho:aN K o)(hd:aN K d)(h0:d≠(0,0,0))
include ho hd h0 in
theorem zlQ(hK:K<=10000){t:Option Tr}(ht:∀t',t=some t'->rQ K t'/\t'.leaves.length<=40):
 ∃fs:List Nat,fs.Perm (jW o d (zp t))/\fs.length<=100/\∀S,WF S->G4 [gj t,bF o d] S=some (.ref S.length,S++[.lst (fs.map aY)]++[.lst []]):=by
 have hsz:jJ t.toList<=100:=by
  cases t with
  |none=>simp[jJ]
  |some t' =>
   have h1:=Lh t';have h2:=(ht t' rfl).2;simp[jJ];omega
 obtain⟨fs,p1,p2,p3⟩:=zlB ho hd h0 hK 100 t.toList [] hsz (by simp) (λt' h=>by
  cases t with
  |none=>simp at h
  |some t2 =>
   have:t'=t2:=by simpa using h
   subst this;exact(ht t' rfl).1)
 refine⟨fs,?_,by simpa using p2,λS hS=>?_⟩
 .have e:(t.toList.flatMap Tr.leaves)=zp t:=by cases t<;>simp[zp]
  rw[uX,e] at p1;exact p1
 .obtain⟨p',e⟩:=p3 S (some (gj t)) none;have a1:Nr [some (gj t),some (bF o d),none,none,none] S=some (.nx,[some (gj t),some (bF o d),some (.ref S.length),none,none],S++[.lst []]):=by unfold Nr;exact dI (bH bA (yq (Nat.zero_le _))) (di rfl)
  have a2:Nt [some (gj t),some (bF o d),some (.ref S.length),none,none] (S++[.lst []])=some (.nx,[some (gj t),some (bF o d),some (.ref S.length),some (.ref (S.length+1)),none],S++[.lst []]++[.lst (t.toList.map bB)]):=by
   unfold Nt;have hlen:(S++[O.lst []]).length=S.length+1:=by simp
   rw[<-hlen];cases t with
   |none=>exact dI (zY (b:=true) (eG (bI (aC rfl) bC pM)) (gm rfl (bH bA (yq (Nat.zero_le _))))) (di rfl)
   |some t' =>
    have hn:nW (gj (some t'))=false:=by cases t'<;>rfl
    refine dI (zY (b:=false) (eG ?_) (eH rfl (bH (aM (aC rfl) bA) (yq (by show 1<=sizeLine;decide))))) (di rfl);rw[<-hn];exact bI (aC rfl) bC pM
  have a3:Xd [some (gj t),some (bF o d),some (.ref S.length),some (.ref (S.length+1)),none] (S++[.lst []]++[.lst (t.toList.map bB)])=some (.nx,[some (gj t),some (bF o d),some (.ref S.length),some (.ref (S.length+1)),p'],S++[.lst (fs.map aY)]++[.lst []]):=e;have a4:Nu [some (gj t),some (bF o d),some (.ref S.length),some (.ref (S.length+1)),p'] (S++[.lst (fs.map aY)]++[.lst []])=some (.rt (.ref S.length),[some (gj t),some (bF o d),some (.ref S.length),some (.ref (S.length+1)),p'],S++[.lst (fs.map aY)]++[.lst []]):=by unfold Nu;exact fZ (aC rfl)
  refine Ad (σ':=[some (gj t),some (bF o d),some (.ref S.length),some (.ref (S.length+1)),p']) ?_ ?_ (by simp) (by simp[D.lo]) ((hS.snoc (JF _ _)).snoc rfl)
  .wtm_at "?b"
   unfold WT;exact aH a1 (aV (aH a2 (aV (aH a3 (aV (aH a4 d7))))))
  .intro h;simp[D.lo] at h
structure jn(S:So)(c:Nat)(shs:List Sh)(t:Option Tr):Prop where
 ins:S[c]?=some (.ins "Scene" [("kept",.ref (c+1)),("tree",gj t)])
 kept:S[c+1]?=some (.lst (shs.map bR))
structure o5(K:Nat)(shs:List Sh)(t:Option Tr):Prop where
 sh:∀s∈shs,lg K s
 tree:∀t',t=some t'->rQ K t'/\t'.leaves.length<=40
 lf:∃g:Sh->Pt×Pt,(∀s∈shs,lN s.pts (g s).1 (g s).2)/\(zp t).Perm (gK (shs.map g))
theorem jn.app{t:Option Tr}(h:jn S c shs t)(G:So):jn (S++G) c shs t:=by
 have g:∀{n:Nat} {o:O},S[n]?=some o->(S++G)[n]?=some o:=λ{n o} e=>by rw[mR (eV.mp e).1];exact e
 exact⟨g h.ins,g h.kept⟩
noncomputable abbrev fH:=(Int×Int)×Nat
noncomputable def cj(h:fH):D := .tup [rD h.1,aY h.2]
noncomputable def dN(o d:Pt)(shs:List Sh)(i:Nat):Option fH:=(shs[i]?).bind λs=>(gF o d s).map λp=>(p,i)
noncomputable def rP(o d:Pt)(shs:List Sh):List fH:=(List.range shs.length).filterMap (dN o d shs)
theorem zkE(bs:List (Pt×Pt)):(gK bs).map (·.2.2)=List.range bs.length:=by
 apply List.ext_getElem?;intro i;by_cases h:i<bs.length
 .rw[gG,Gp h,List.getElem?_range h];rfl
 .rw[jw (by rw[cZ,lZ];omega),jw (by rw[List.length_range];omega)]
theorem Sq{α β:Type}{p:α->Bool}{f:α->Nat}{h:Nat->Option β}:∀l:List α,(∀q∈l,p q=false->h (f q)=none)->((l.filter p).map f).filterMap h=(l.map f).filterMap h
 |[],_=>rfl
 |q::r,k=>by
  have ih:=Sq r λx hx=>k x (cG _ hx);cases e:p q with
  |true=>rw[List.filter_cons_of_pos e,iU,iU,List.filterMap_cons,List.filterMap_cons,ih]
  |false=>rw[List.filter_cons_of_neg (by simp[e]),iU,List.filterMap_cons,k q (fX ..) e,ih]
include h0 in
theorem zlY{g:Sh->Pt×Pt}(hg:∀s∈shs,lN s.pts (g s).1 (g s).2):(jW o d (gK (shs.map g))).filterMap (dN o d shs)=rP o d shs:=by
 unfold jW rP;rw[Sq,zkE,cZ];intro q hq e;obtain⟨i,hi,rfl⟩:=List.getElem_of_mem hq;have hi':i<(shs.map g).length:=by rw[<-lZ];exact hi
 have hi2:i<shs.length:=by simpa using hi'
 have e2:=Gp hi';rw[gJ hi] at e2;have e3:=Option.some.inj e2;rw[e3] at e ⊢;simp only[List.getElem_map] at e;unfold dN;rw[gJ hi2];have:gF o d shs[i]=none:=Classical.byContradiction λc=>by
  have:=zn8 h0 (hg _ (List.getElem_mem hi2)) c;unfold Ei at e;simp only at e;cases q:gC o d (g shs[i]).1 (g shs[i]).2 with
  |none=>exact this q
  |some _=>rw[q] at e;cases e
 show(gF o d shs[i]).map _=none;rw[this];rfl
theorem SX(n:Nat)(hs:List fH):O.lo n (.lst (hs.map cj))=true:=by show cI n _=true;rw[lF];intro x hx;obtain⟨i,_,rfl⟩:=List.mem_map.mp hx;simp[cj,aY,D.lo,cI]
include ho hd h0 in
theorem zn1(hK:K<=1500){t:Option Tr}(ok:o5 K shs t):
 ∃fs:List Nat,(fs.filterMap (dN o d shs)).Perm (rP o d shs)/\fs.length<=100/\∀S c,WF S->jn S c shs t->vL [.ref c,bF o d] S=some (.ref S.length,S++[.lst ((fs.filterMap (dN o d shs)).map cj)]++[.lst (fs.map aY)]++[.lst []]):=by
 obtain⟨fs,p1,p2,p3⟩:=zlQ ho hd h0 (by omega) ok.tree;obtain⟨g,hg,hlf⟩:=ok.lf;have p4:fs.Perm (jW o d (gK (shs.map g))):=p1.trans ((hlf.filter _).map _);have hfs:∀i∈fs,i<shs.length:=λi hi=>by obtain⟨q,hq,rfl⟩:=List.mem_map.mp (p4.mem_iff.mp hi);have:=(Vo (List.mem_filter.mp hq).1).1;simpa using this
 refine⟨fs,by rw[<-zlY h0 hg];exact p4.filterMap _,p2,λS c hS sc=>?_⟩;have hrs:=Xc (o:=o) h0 S;have a1:GZ [some (.ref c),some (bF o d),none,none,none] S=some (.nx,[some (.ref c),some (bF o d),none,none,none],S):=by unfold GZ;exact tV (bH (aM (aC rfl) bA) (cV rfl hrs))
 have a2:Ma [some (.ref c),some (bF o d),none,none,none] S=some (.nx,[some (.ref c),some (bF o d),some (.ref S.length),none,none],S++[.lst []]):=by unfold Ma;exact dI (bH bA (yq (Nat.zero_le _))) (di rfl)
 have W1:WF (S++[.lst []]):=hS.snoc rfl;have sc1:=sc.app [.lst []];have it:fO (eN (aO 2 G4) (ak (gw "Scene" "tree" (aj 0)) (ak (aj 1) au))) [some (.ref c),some (bF o d),some (.ref S.length),none,none] (S++[.lst []])=some (.lst (S.length+1),S++[.lst []]++[.lst (fs.map aY)]++[.lst []]):=by
  have hlen:(S++[O.lst []]).length=S.length+1:=by simp
  rw[<-hlen];exact qL (bH (aM (Fp (aC rfl) sc1.ins rfl) (aM (aC rfl) bA)) (cV rfl (p3 _ W1))) (fK cM)
 have inv:=Ah (nx:=dj (.lst (S.length+1))) (g:=aK 3) (f:=yX) (xs:=fs.map aY)
  (λi σ S'=>∃a b,σ=[some (.ref c),some (bF o d),some (.ref S.length),a,b]/\S'=S++[.lst (((fs.take i).filterMap (dN o d shs)).map cj)]++[.lst (fs.map aY)]++[.lst []])
  (λi σ S' ⟨a,b,_,e⟩=>by
   subst e;have l:(S++[O.lst (((fs.take i).filterMap (dN o d shs)).map cj)]++[O.lst (fs.map aY)]++[O.lst []])[S.length+1]?=some (.lst (fs.map aY)):=by rw[show S.length+1=(S++[O.lst (((fs.take i).filterMap (dN o d shs)).map cj)]).length by simp];exact fK cM
   unfold dj;simp only;rw[l])
  (λi dd σ S' hi ⟨a,b,e1,e2⟩=>?_) fs.length 0 [some (.ref c),some (bF o d),some (.ref S.length),none,none] (S++[.lst []]++[.lst (fs.map aY)]++[.lst []]) ⟨none,none,rfl,rfl⟩ (by simp)
 .obtain⟨σ',S',e,a,b,rfl,rfl⟩:=inv;rw[cZ,kJ] at e;have a3:Mf [some (.ref c),some (bF o d),some (.ref S.length),none,none] (S++[.lst []])=some (.nx,[some (.ref c),some (bF o d),some (.ref S.length),a,b],S++[.lst ((fs.filterMap (dN o d shs)).map cj)]++[.lst (fs.map aY)]++[.lst []]):=by
   unfold Mf;refine zdt it (n:=fs.length) ?_ e;have l:(S++[O.lst []]++[O.lst (fs.map aY)]++[O.lst []])[S.length+1]?=some (.lst (fs.map aY)):=by rw[show S.length+1=(S++[O.lst []]).length by simp];exact fK cM
   unfold u6;simp only;rw[l];simp
  have a4:Mg [some (.ref c),some (bF o d),some (.ref S.length),a,b] (S++[.lst ((fs.filterMap (dN o d shs)).map cj)]++[.lst (fs.map aY)]++[.lst []])=some (.rt (.ref S.length),[some (.ref c),some (bF o d),some (.ref S.length),a,b],S++[.lst ((fs.filterMap (dN o d shs)).map cj)]++[.lst (fs.map aY)]++[.lst []]):=by unfold Mg;exact fZ (aC rfl)
  refine Ad (σ':=[some (.ref c),some (bF o d),some (.ref S.length),a,b]) ?_ ?_ (by simp) (by simp[D.lo]) (((hS.snoc (SX _ _)).snoc (JF _ _)).snoc rfl)
  .wtm_at "?b"
   unfold yQ;exact aH a1 (aV (aH a2 (aV (aH a3 (aV (aH a4 d7))))))
  .intro h;simp[D.lo] at h
 .subst e1 e2;have hi':i<fs.length:=by have:=(eV.mp hi).1;simpa using this
  have hd':dd=aY fs[i]:=by rw[gG,gJ hi'] at hi;exact(Option.some.inj hi).symm
  subst hd';have hj:=hfs fs[i] (List.getElem_mem hi');have hWS:WF (S++[.lst (((fs.take i).filterMap (dN o d shs)).map cj)]++[.lst (fs.map aY)]++[.lst []]):=((hS.snoc (SX _ _)).snoc (JF _ _)).snoc rfl;have Xo:jn (S++[.lst (((fs.take i).filterMap (dN o d shs)).map cj)]++[.lst (fs.map aY)]++[.lst []]) c shs t:=by rw[gH,gH];exact sc.app _
  have tm:=U6 ho hd (ok.sh _ (List.getElem_mem hj)) h0 hK _ hWS;have hix:gq (shs.map bR) ((fs[i]:Nat):Int)=some (bR shs[fs[i]]):=JV (by simp[hj]);have b1:Nv [some (.ref c),some (bF o d),some (.ref S.length),some (aY fs[i]),b] (S++[.lst (((fs.take i).filterMap (dN o d shs)).map cj)]++[.lst (fs.map aY)]++[.lst []])=some (.nx,[some (.ref c),some (bF o d),some (.ref S.length),some (aY fs[i]),some (tD (gF o d shs[fs[i]]))],S++[.lst (((fs.take i).filterMap (dN o d shs)).map cj)]++[.lst (fs.map aY)]++[.lst []]):=by unfold Nv;exact dI (bH (aM (aC rfl) (aM (bI (Fp (aC rfl) Xo.ins rfl) (aC rfl) (yo Xo.kept hix)) bA)) (cV rfl tm)) (di rfl)
  have tk:fs.take (i+1)=fs.take i++[fs[i]]:=by rw[List.take_add_one,gJ hi'];rfl
  have hat:dN o d shs fs[i]=(gF o d shs[fs[i]]).map λp=>(p,fs[i]):=by unfold dN;rw[gJ hj];rfl
  cases ht:gF o d shs[fs[i]] with
  |none =>
   rw[ht] at b1 hat
   have b2:Bj [some (.ref c),some (bF o d),some (.ref S.length),some (aY fs[i]),some (tD none)] (S++[.lst (((fs.take i).filterMap (dN o d shs)).map cj)]++[.lst (fs.map aY)]++[.lst []])=some (.nx,[some (.ref c),some (bF o d),some (.ref S.length),some (aY fs[i]),some (tD none)],S++[.lst (((fs.take i).filterMap (dN o d shs)).map cj)]++[.lst (fs.map aY)]++[.lst []]):=by unfold Bj;exact eF (b:=false) (eG (bI (aC rfl) bC pP)) (eH rfl dR)
   have b3:yX [some (.ref c),some (bF o d),some (.ref S.length),some (aY fs[i]),b] (S++[.lst (((fs.take i).filterMap (dN o d shs)).map cj)]++[.lst (fs.map aY)]++[.lst []])=some (.nx,[some (.ref c),some (bF o d),some (.ref S.length),some (aY fs[i]),some (tD none)],S++[.lst (((fs.take i).filterMap (dN o d shs)).map cj)]++[.lst (fs.map aY)]++[.lst []]):=by unfold yX;exact aH b1 (aV (aH b2 (aV dR)))
   refine⟨_,_,.nx,_,_,di rfl,b3,.inl rfl,some (aY fs[i]),some (tD none),rfl,?_⟩
   .rw[tk,List.filterMap_append];simp[hat]
  |some p =>
   rw[ht] at b1 hat
   have b2:Bj [some (.ref c),some (bF o d),some (.ref S.length),some (aY fs[i]),some (tD (some p))] (S++[.lst (((fs.take i).filterMap (dN o d shs)).map cj)]++[.lst (fs.map aY)]++[.lst []])=some (.nx,[some (.ref c),some (bF o d),some (.ref S.length),some (aY fs[i]),some (tD (some p))],S++[.lst (((fs.take i).filterMap (dN o d shs)).map cj++[cj (p,fs[i])])]++[.lst (fs.map aY)]++[.lst []]):=by
    unfold Bj;have l1:(S++[O.lst (((fs.take i).filterMap (dN o d shs)).map cj)]++[O.lst (fs.map aY)]++[O.lst []])[S.length]?=some (.lst (((fs.take i).filterMap (dN o d shs)).map cj)):=fK (fK cM);refine eF (b:=true) (eG (bI (aC rfl) bC pP)) (gm rfl (aH (tV (Ez (aC rfl) l1 (aM (bH (aM (aC rfl) (aM (aC rfl) bA)) (lC (by show 2<=sizeLine;decide))) bA) (Vd l1 ?_ ?_))) (aV dR)))
    .rw[cZ,sizeLine_eq];have:=List.length_filterMap_le (dN o d shs) (fs.take i);have h2:(fs.take i).length<=100:=by simp;omega
     omega
    .rw[List.set_append_left _ _ (by simp),List.set_append_left _ _ (by simp)];simp[cj,tD]
   have b3:yX [some (.ref c),some (bF o d),some (.ref S.length),some (aY fs[i]),b] (S++[.lst (((fs.take i).filterMap (dN o d shs)).map cj)]++[.lst (fs.map aY)]++[.lst []])=some (.nx,[some (.ref c),some (bF o d),some (.ref S.length),some (aY fs[i]),some (tD (some p))],S++[.lst (((fs.take i).filterMap (dN o d shs)).map cj++[cj (p,fs[i])])]++[.lst (fs.map aY)]++[.lst []]):=by unfold yX;exact aH b1 (aV (aH b2 (aV dR)))
   refine⟨_,_,.nx,_,_,di rfl,b3,.inl rfl,some (aY fs[i]),some (tD (some p)),rfl,?_⟩
   .rw[tk,List.filterMap_append];simp[hat]
end
open Classical in
noncomputable def jV(h b:fH):Bool:=decide (h.1.1*b.1.2<b.1.1*h.1.2)||(decide (rD h.1=rD b.1)&&decide ((h.2:Int)<(b.2:Int)))
structure Hw(k:Nat)(h:fH):Prop where
 a:Bd k h.1.1
 b:Bd k h.1.2
open Classical in
theorem zjM{h b:fH}(h1:Hw k h)(h2:Hw k b)(hk:k+k<=134217728)(S:So):Gy [cj h,cj b] S=some (.bl (jV h b),S):=by
 have hl:=sp_is_less h1.a h1.b h2.a h2.b hk S;have t:gY (eN (aO 2 tY) (ak (eB aL (aj 0) (eC (.int 0))) (ak (eB aL (aj 1) (eC (.int 0))) au))) [some (cj h),some (cj b)] S=some (decide (h.1.1*b.1.2<b.1.1*h.1.2),S) :=
  tQ (bH (aM (bI (aC rfl) bC (iZ (z:=rD h.1) rfl)) (aM (bI (aC rfl) bC (iZ (z:=rD b.1) rfl)) bA)) (cV rfl hl)) rfl
 apply bY (S':=S) (σ':=[some (cj h),some (cj b)])
 .wtm_at "?b"
  unfold VL;cases hb:decide (h.1.1*b.1.2<b.1.1*h.1.2) with
  |true =>
   rw[hb] at t;have:jV h b=true:=by unfold jV;rw[hb];rfl
   rw[this];exact aH (eF t (gm rfl (aH (fZ bC) d7))) d7
  |false =>
   rw[hb] at t;have e:jV h b=(decide (rD h.1=rD b.1)&&decide ((h.2:Int)<(b.2:Int))):=by unfold jV;rw[hb];rfl
   rw[e];have q:eB (aZ .Eq) (eB aL (aj 0) (eC (.int 0))) (eB aL (aj 1) (eC (.int 0))) [some (cj h),some (cj b)] S=some (.bl (decide (rD h.1=rD b.1)),S) :=
    bI (bI (aC rfl) bC (iZ (z:=rD h.1) rfl)) (bI (aC rfl) bC (iZ (z:=rD b.1) rfl)) (vy rfl 1 rfl rfl (by decide))
   have l:eB (aZ .Lt) (eB aL (aj 0) (eC (.int 1))) (eB aL (aj 1) (eC (.int 1))) [some (cj h),some (cj b)] S=some (.bl (decide ((h.2:Int)<(b.2:Int))),S) :=
    bI (bI (aC rfl) bC (iZ (z:=aY h.2) rfl)) (bI (aC rfl) bC (iZ (z:=aY b.2) rfl)) QM
   refine aH (eF t (eH rfl dR)) (aV (aH (fZ (JZ q ?_)) d7));cases hd:decide (rD h.1=rD b.1) with
   |true=>exact gm rfl (by rw[l];rfl)
   |false=>exact eH rfl rfl
 .exact kJ
 .rfl
noncomputable def b7:Option fH->D
 |none => .non
 |some h=>cj h
noncomputable def fG(best:Option fH)(h:fH):Option fH:=match best with
 |none=>some h
 |some b=>if jV h b=true then some h else some b
theorem yw:∀(hs:List fH) (b:Option fH) (h:fH),hs.foldl fG b=some h->h∈hs\/b=some h
 |[],b,h,e => .inr e
 |x::r,b,h,e=>by
  rcases yw r (fG b x) h e with q|q
  .exact .inl (cG _ q)
  .cases b with
   |none=>simp only[fG,Option.some.injEq] at q;subst q;exact .inl (fX ..)
   |some y =>
    simp only[fG] at q;split at q
    .cases q;exact .inl (fX ..)
    .exact .inr q
def kZ(h:fH):Prop:=0<h.1.2/\dF h.1.1 h.1.2=h.1
theorem Aj{h b:fH}:jV h b=true↔fW h.1 b.1\/(h.1=b.1/\h.2<b.2):=by
 have e:rD h.1=rD b.1↔h.1=b.1:=⟨λq=>by
  obtain⟨⟨x,y⟩,i⟩:=h;obtain⟨⟨z,w⟩,j⟩:=b;simp[rD] at q;simp[q.1,q.2],λq=>by rw[q]⟩
 unfold jV fW;simp only[o8,cL,su];exact or_congr Iff.rfl (and_congr e Int.ofNat_lt)
def Sv{a b:fH}(ha:kZ a)(hb:kZ b)(h1:leQ a.1 b.1)(h2:leQ b.1 a.1):a.1=b.1:=by rw[<-ha.2,<-hb.2];exact zi2 ha.1 hb.1 h1 h2
def kj(x y:fH):Prop:=¬jV y x=true
theorem Rg{x y z:fH}(gx:kZ x)(gy:kZ y)(gz:kZ z)(h1:kj x y)(h2:kj y z):kj x z:=by
 unfold kj at *
 rw[Aj] at *
 have q1:leQ x.1 y.1:=tK λc=>h1 (.inl c);have q2:leQ y.1 z.1:=tK λc=>h2 (.inl c)
 rintro(c|⟨c1,c2⟩)
 .exact Uj (yM gx.1 gy.1 gz.1 q1 q2) c
 .rw[c1] at q2;have e:=Sv gx gy q1 q2;have k1:¬y.2<x.2:=λc=>h1 (.inr ⟨e.symm,c⟩);have k2:¬z.2<y.2:=λc=>h2 (.inr ⟨c1.trans e,c⟩);omega
theorem zmq{x y:fH}(gx:kZ x)(gy:kZ y)(h1:kj x y)(h2:kj y x):x=y:=by
 unfold kj at *
 rw[Aj] at *
 have e:=Sv gx gy (tK λc=>h1 (.inl c)) (tK λc=>h2 (.inl c));have k1:¬y.2<x.2:=λc=>h1 (.inr ⟨e.symm,c⟩);have k2:¬x.2<y.2:=λc=>h2 (.inr ⟨e,c⟩);exact Prod.ext e (by omega)
theorem zoY{x y:fH}(h:jV y x=true):kj y x:=by
 unfold kj;rw[Aj] at *
 unfold fW at *
 rcases h with h|⟨h1,h2⟩
 .rintro(c|⟨c,_⟩)
  .omega
  .rw[c] at h;omega
 .rintro(c|⟨_,c⟩)
  .rw[h1] at c;omega
  .omega
def FZ(x:fH):kj x x:=by unfold kj;rw[Aj];unfold fW;omega
theorem Jj:∀(hs:List fH) (b:Option fH),(∀x∈hs,kZ x)->(∀y,b=some y->kZ y) ->
 (hs.foldl fG b=none->hs=[]/\b=none)/\∀h,hs.foldl fG b=some h->(∀x∈hs,kj h x)/\∀y,b=some y->kj h y
 |[],b,_,_=>⟨λe=>⟨rfl,e⟩,λh e=>⟨λx hx=>(by cases hx),λy hy=>by
  have e':b=some h:=e;rw[e'] at hy;cases hy;exact FZ _⟩⟩
 |x::r,b,g1,g2=>by
  have gx:=g1 x (fX ..);have step:∃z,fG b x=some z/\kZ z/\kj z x/\∀y,b=some y->kj z y:=by
   cases b with
   |none=>exact⟨x,rfl,gx,FZ _,λy hy=>by cases hy⟩
   |some y =>
    have gy:=g2 y rfl;unfold fG;by_cases hs:jV x y=true
    .simp only[if_pos hs];exact⟨x,rfl,gx,FZ _,λz hz=>by cases hz;exact zoY hs⟩
    .simp only[if_neg hs];exact⟨y,rfl,gy,hs,λz hz=>by cases hz;exact FZ _⟩
  obtain⟨z,ez,gz,z1,z2⟩:=step;obtain⟨k1,k2⟩:=Jj r (some z) (λy hy=>g1 y (cG _ hy)) (λy hy=>by cases hy;exact gz);rw[List.foldl_cons,ez];refine⟨λe=>absurd (k1 e).2 (by simp),λh e=>?_⟩;have gh:kZ h:=by
   rcases yw r (some z) h e with q|q
   .exact g1 h (cG _ q)
   .cases q;exact gz
  obtain⟨m1,m2⟩:=k2 h e;have hz:=m2 z rfl;refine⟨λy hy=>?_,λy hy=>Rg gh gz (g2 y hy) hz (z2 y hy)⟩;rcases List.mem_cons.mp hy with rfl|hy
  .exact Rg gh gz gx hz z1
  .exact m1 y hy
theorem zjl{l1 l2:List fH}(p:l1.Perm l2)(g:∀x∈l1,kZ x):l1.foldl fG none=l2.foldl fG none:=by
 have g':∀x∈l2,kZ x:=λx hx=>g x (p.mem_iff.mpr hx);obtain⟨a1,a2⟩:=Jj l1 none g (λy hy=>by cases hy);obtain⟨b1,b2⟩:=Jj l2 none g' (λy hy=>by cases hy);cases e1:l1.foldl fG none with
 |none =>
  have:=(a1 e1).1;subst this;rw[List.nil_perm.mp p];rfl
 |some h =>
  have hm:h∈l1:=by
   rcases yw l1 none h e1 with q|q
   .exact q
   .cases q
  cases e2:l2.foldl fG none with
  |none =>
   rw[(b1 e2).1] at p;rw[List.perm_nil.mp p] at hm;cases hm
  |some k =>
   have km:k∈l2:=by
    rcases yw l2 none k e2 with q|q
    .exact q
    .cases q
   rw[zmq (g h hm) (g' k km) ((a2 h e1).1 k (p.mem_iff.mpr km)) ((b2 k e2).1 h (p.mem_iff.mp hm))]
noncomputable def jK(o d:Pt)(shs:List Sh):Option fH:=(rP o d shs).foldl fG none
section
variable {K:Nat}{o d:Pt}(ho:aN K o)(hd:aN K d)(h0:d≠(0,0,0))
theorem T8{h:fH}:dN o d shs i=some h↔∃s p,shs[i]?=some s/\gF o d s=some p/\h=(p,i):=by
 unfold dN;simp only[aW,aR];constructor
 .rintro⟨s,e1,p,e2,rfl⟩;exact⟨s,p,e1,e2,rfl⟩
 .rintro⟨s,p,e1,e2,rfl⟩;exact⟨s,e1,p,e2,rfl⟩
include h0 in
def zmx{h:fH}(e:dN o d shs i=some h):kZ h:=by obtain⟨s,p,e1,e2,rfl⟩:=T8.mp e;exact⟨(Ro h0 s p e2).2.1,zp2 o d s p e2⟩
include ho hd h0 in
theorem Yr{t:Option Tr}(ok:o5 K shs t){h:fH}(e:dN o d shs i=some h):Hw (4*K+10) h/\h.2=i:=by unfold dN at e;simp only[aW,aR] at e;obtain⟨s,e1,p,e2,rfl⟩:=e;have b:=Ji ho hd (ok.sh s (List.mem_of_getElem? e1)) h0 p e2;exact⟨⟨b.2.2.1,b.2.2.2⟩,rfl⟩
include ho hd h0 in
theorem ziV(hK:K<=1500){t:Option Tr}(ok:o5 K shs t):
 ∀S c,WF S->jn S c shs t->vJ [.ref c,bF o d] S=some (b7 (jK o d shs),S):=by
 obtain⟨fs,p1,p2,p3⟩:=zn1 ho hd h0 hK ok;have hb:∀h∈fs.filterMap (dN o d shs),Hw (4*K+10) h:=λh hh=>by obtain⟨i,hi,e⟩:=List.mem_filterMap.mp hh;exact(Yr ho hd h0 ok e).1
 have hf:(fs.filterMap (dN o d shs)).foldl fG none=jK o d shs:=zjl p1 λh hh=>by obtain⟨i,hi,e⟩:=List.mem_filterMap.mp hh;exact zmx h0 e
 generalize hhs:fs.filterMap (dN o d shs)=hs at *
 have hln:hs.length<=100:=by rw[<-hhs];exact Nat.le_trans (List.length_filterMap_le _ _) p2
 refine λS c hS sc=>?_;rw[<-hf]
 .have hh:=p3 S c hS sc;have a1:GD [some (.ref c),some (bF o d),none,none] S=some (.nx,[some (.ref c),some (bF o d),some .non,none],S):=by unfold GD;exact dI bC (di rfl)
  have l1:(S++[O.lst (hs.map cj)]++[O.lst (fs.map aY)]++[O.lst []])[S.length]?=some (.lst (hs.map cj)):=fK (fK cM);have it:fO (jy "Scene" "hits" 2 vL (aj 0) (ak (aj 1) au)) [some (.ref c),some (bF o d),some .non,none] S=some (.lst S.length,S++[.lst (hs.map cj)]++[.lst (fs.map aY)]++[.lst []]) :=
   qL (Aa (aC rfl) sc.ins rfl (aM (aC rfl) bA) rfl hh) l1
  have inv:=Ah (nx:=dj (.lst S.length)) (g:=aK 3) (f:=za) (xs:=hs.map cj)
   (λi σ S'=>∃a,σ=[some (.ref c),some (bF o d),some (b7 ((hs.take i).foldl fG none)),a]/\S'=S++[.lst (hs.map cj)]++[.lst (fs.map aY)]++[.lst []])
   (λi σ S' ⟨a,_,e⟩=>by subst e;unfold dj;simp only;rw[l1])
   (λi dd σ S' hi ⟨a,e1,e2⟩=>?_) hs.length 0 [some (.ref c),some (bF o d),some .non,none] (S++[.lst (hs.map cj)]++[.lst (fs.map aY)]++[.lst []]) ⟨none,rfl,rfl⟩ (by simp)
  .obtain⟨σ',S',e,a,rfl,rfl⟩:=inv;rw[cZ,kJ] at e;have a2:GJ [some (.ref c),some (bF o d),some .non,none] S=some (.nx,[some (.ref c),some (bF o d),some (b7 (hs.foldl fG none)),a],S++[.lst (hs.map cj)]++[.lst (fs.map aY)]++[.lst []]):=by unfold GJ;refine zdt it (n:=hs.length) ?_ e;unfold u6;simp only;rw[l1];simp
   have a3:NP [some (.ref c),some (bF o d),some (b7 (hs.foldl fG none)),a] (S++[.lst (hs.map cj)]++[.lst (fs.map aY)]++[.lst []])=some (.rt (b7 (hs.foldl fG none)),[some (.ref c),some (bF o d),some (b7 (hs.foldl fG none)),a],S++[.lst (hs.map cj)]++[.lst (fs.map aY)]++[.lst []]):=by unfold NP;exact fZ (aC rfl)
   apply bY (S':=S++[.lst (hs.map cj)]++[.lst (fs.map aY)]++[.lst []]) (σ':=[some (.ref c),some (bF o d),some (b7 (hs.foldl fG none)),a])
   .wtm_at "?b"
    unfold yU;exact aH a1 (aV (aH a2 (aV (aH a3 d7))))
   .rw[gH,gH];simp
   .cases hs.foldl fG none<;>simp[b7,cj,aY,D.lo,cI]
  .subst e1 e2;have hi':i<hs.length:=by have:=(eV.mp hi).1;simpa using this
   have hd':dd=cj hs[i]:=by rw[gG,gJ hi'] at hi;exact(Option.some.inj hi).symm
   subst hd';have tk:hs.take (i+1)=hs.take i++[hs[i]]:=by rw[List.take_add_one,gJ hi'];rfl
   have fold:(hs.take (i+1)).foldl fG none=fG ((hs.take i).foldl fG none) hs[i]:=by rw[tk,List.foldl_append];rfl
   have bi:=(hb hs[i] (List.getElem_mem hi'))
   cases hbest:(hs.take i).foldl fG none with
   |none =>
    have b1:za [some (.ref c),some (bF o d),some (b7 none),some (cj hs[i])] (S++[.lst (hs.map cj)]++[.lst (fs.map aY)]++[.lst []])=some (.nx,[some (.ref c),some (bF o d),some (b7 (some hs[i])),some (cj hs[i])],S++[.lst (hs.map cj)]++[.lst (fs.map aY)]++[.lst []]):=by unfold za Nk;exact aH (eF (b:=true) (pN (b:=true) (eG (bI (aC rfl) bC pM)) (gm rfl rfl)) (gm rfl (aH (dI (aC rfl) (di rfl)) (aV dR)))) (aV dR)
    exact⟨_,_,.nx,_,_,di rfl,b1,.inl rfl,_,by rw[fold,hbest];rfl,rfl⟩
   |some b =>
    have hbm:b∈hs:=by
     rcases yw (hs.take i) none b hbest with q|q
     .exact List.mem_of_mem_take q
     .cases q
    have ss:=zjM bi (hb b hbm) (by omega) (S++[.lst (hs.map cj)]++[.lst (fs.map aY)]++[.lst []]);have tt:iW (bW (eB (aZ .Is) (aj 2) (eC .non))) (gY (eN (aO 2 Gy) (ak (aj 3) (ak (aj 2) au)))) [some (.ref c),some (bF o d),some (b7 (some b)),some (cj hs[i])] (S++[.lst (hs.map cj)]++[.lst (fs.map aY)]++[.lst []])=some (jV hs[i] b,S++[.lst (hs.map cj)]++[.lst (fs.map aY)]++[.lst []]) :=
     pN (b:=false) (eG (bI (aC rfl) bC pM)) (eH rfl (tQ (bH (aM (aC rfl) (aM (aC rfl) bA)) (cV rfl ss)) rfl))
    have b1:za [some (.ref c),some (bF o d),some (b7 (some b)),some (cj hs[i])] (S++[.lst (hs.map cj)]++[.lst (fs.map aY)]++[.lst []])=some (.nx,[some (.ref c),some (bF o d),some (b7 (fG (some b) hs[i])),some (cj hs[i])],S++[.lst (hs.map cj)]++[.lst (fs.map aY)]++[.lst []]):=by
     unfold za Nk;cases hsn:jV hs[i] b with
     |true =>
      have:fG (some b) hs[i]=some hs[i]:=by simp[fG,hsn]
      rw[this];rw[hsn] at tt;exact aH (eF tt (gm rfl (aH (dI (aC rfl) (di rfl)) (aV dR)))) (aV dR)
     |false =>
      have:fG (some b) hs[i]=some b:=by simp[fG,hsn]
      rw[this];rw[hsn] at tt;exact aH (eF tt (eH rfl dR)) (aV dR)
    exact⟨_,_,.nx,_,_,di rfl,b1,.inl rfl,_,by rw[fold,hbest],rfl⟩
end
theorem Fg(n:Nat)(shs:List Sh):O.lo n (.lst (shs.map bR))=true:=by show cI n _=true;rw[lF];intro x hx;obtain⟨s,_,rfl⟩:=List.mem_map.mp hx;cases s<;>simp[bR,D.lo,cI]
theorem Rh(n:Nat)(bs:List (Pt×Pt)):O.lo n (.lst (bs.map jC))=true:=by show cI n _=true;rw[lF];intro x hx;obtain⟨s,_,rfl⟩:=List.mem_map.mp hx;simp[D.lo,cI]
theorem zlS{m:Nat}(hS:WF S)(hT:kW "tree_over" S=true)(hm:S[m]?=some (.lst (shs.map bR)))(hl:shs.length<=32)(hk:∀s∈shs,lg K s):
 ∃(t:Option Tr) (bs:List (Pt×Pt)),o5 K shs t/\GQ [.ref S.length,.ref m] (S++[.ins "Scene" []])=some (.non,S++[.ins "Scene" [("kept",.ref (S.length+1)),("tree",gj t)]]++[.lst (shs.map bR)]++[.lst (bs.map jC)]) /\
  WF (S++[.ins "Scene" [("kept",.ref (S.length+1)),("tree",gj t)]]++[.lst (shs.map bR)]++[.lst (bs.map jC)]):=by
 classical
 obtain⟨g,hg0⟩:∃g:Sh->Pt×Pt,∀s∈shs,lN s.pts (g s).1 (g s).2/\aN K (g s).1/\aN K (g s).2/\∀S,WF S->vC [bR s] S=some (jC (g s),S):=by
  have ex:∀s∈shs,∃b:Pt×Pt,lN s.pts b.1 b.2/\aN K b.1/\aN K b.2/\∀S,WF S->vC [bR s] S=some (jC b,S):=λs hs=>by obtain⟨lo,hi,b0,b1,b2,e⟩:=zn2 (hk s hs);exact⟨(lo,hi),b0,b1,b2,e⟩
  refine⟨λs=>if h:s∈shs then(ex s h).choose else((0,0,0),(0,0,0)),λs hs=>?_⟩;simp only[dif_pos hs];exact(ex s hs).choose_spec
 have hg:=λs hs=>(hg0 s hs).2;have wf:∀(fs:List (Str×D)) (G:So),cI (S.length+1+G.length) (fs.map (·.2))=true->(∀o∈G,O.lo (S.length+1+G.length) o=true)->WF (S++[.ins "Scene" fs]++G):=λfs G h1 h2 o ho=>by
  have hlen:(S++[O.ins "Scene" fs]++G).length=S.length+1+G.length:=by rw[jQ,jQ];rfl
  rw[hlen];rcases lO.mp ho with ho|ho
  .rcases lO.mp ho with ho|ho
   .exact O.lo_mono (by omega) (hS o ho)
   .rw[List.mem_singleton.mp ho];exact h1
  .exact h2 o ho
 have Dg:(S++[O.ins "Scene" []]).length=S.length+1:=by simp
 have W2:WF (S++[.ins "Scene" [("kept",.ref (S.length+1))]]++[.lst (shs.map bR)]):=wf _ [_] (by simp[cI,D.lo]) (λo ho=>by rw[List.mem_singleton.mp ho];exact Fg _ _);have W3:WF (S++[.ins "Scene" [("kept",.ref (S.length+1))]]++[.lst (shs.map bR)]++[.lst ((shs.map g).map jC)]):=W2.snoc (Rh _ _);have T3:kW "tree_over" (S++[.ins "Scene" [("kept",.ref (S.length+1))]]++[.lst (shs.map bR)]++[.lst ((shs.map g).map jC)])=true:=by rw[gH,gH];exact yF hT
 obtain⟨t,e1,e2,e3⟩:=zlR (K:=K) (bs:=shs.map g) W3 T3 cM (by simpa using hl) (λb hb=>by
  obtain⟨s,hs,rfl⟩:=List.mem_map.mp hb;exact⟨(hg s hs).1,(hg s hs).2.1⟩)
 have Wf:WF (S++[.ins "Scene" [("kept",.ref (S.length+1)),("tree",gj t)]]++[.lst (shs.map bR)]++[.lst ((shs.map g).map jC)]):=by
  rw[gH _ [O.lst (shs.map bR)]];refine wf _ [_,_] ?_ λo ho=>?_
  .simp[cI,D.lo,YJ]
  .rcases List.mem_cons.mp ho with rfl|ho
   .exact Fg _ _
   .rw[List.mem_singleton.mp ho];exact Rh _ _
 refine⟨t,shs.map g,⟨hk,λt' e=>⟨e2 t' e,?_⟩,g,λs hs=>(hg0 s hs).1,e3⟩,?_,Wf⟩
 .have:=e3.length_eq;rw[e,lZ,cZ] at this;have h2:(zp (some t')).length=t'.leaves.length:=rfl;omega
 .apply Ss (σ':=[some (.ref S.length),some (.ref m)])
  .wtm_at "?b"
   unfold Nq;have s1:nY "Scene" "kept" (aj 0) (eN nU (ak (aj 1) au)) [some (.ref S.length),some (.ref m)] (S++[.ins "Scene" []])=some (.nx,[some (.ref S.length),some (.ref m)],S++[.ins "Scene" [("kept",.ref (S.length+1))]]++[.lst (shs.map bR)]):=by rw[<-Dg];exact Ab (bH (aM (aC rfl) bA) (Kg (fK hm))) (aC rfl) (fK cM) (show(0:Nat)<3 by decide) (JP rfl)
   have k2:(S++[O.ins "Scene" [("kept",.ref (S.length+1))]]++[O.lst (shs.map bR)])[S.length+1]?=some (.lst (shs.map bR)):=by
    have:∀x:O,(S++[x]++[O.lst (shs.map bR)])[S.length+1]?=some (.lst (shs.map bR)):=λx=>by rw[show S.length+1=(S++[x]).length by simp];exact cM
    exact this _
   have s2:eN (aO 1 Gw) (ak (fL (fO (gw "Scene" "kept" (aj 0))) (aK 0) eZ (eN (aO 1 vC) (ak (aj 0) au)) [none]) au) [some (.ref S.length),some (.ref m)] (S++[.ins "Scene" [("kept",.ref (S.length+1))]]++[.lst (shs.map bR)])=some (gj t,S++[.ins "Scene" [("kept",.ref (S.length+1))]]++[.lst (shs.map bR)]++[.lst ((shs.map g).map jC)]):=by rw[List.map_map] at e1 ⊢;refine bH (aM (Kf shs bR (λs=>jC (g s)) (qL (Fp (aC rfl) (fK cM) rfl) k2) k2 (by omega) rfl λs hs=>?_) bA) (cV rfl e1);exact bH (aM (aC rfl) bA) (cV rfl ((hg s hs).2.2 _ W2))
   refine aH s1 (aV (aH (Ab s2 (aC rfl) (fK (fK cM)) (show(1:Nat)<3 by decide) ?_) (aV dR)));rw[List.set_append_left _ _ (by simp),JP rfl];rfl
  .intro e;have:=congrArg (λl=>l[S.length]?) e;simp at this
  .simp
  .exact Wf
noncomputable def fY(m:Int):Pt:=(m.fmod 9 - 4,(m.fdiv 9).fmod 9 - 4,(m.fdiv 81).fmod 9 - 4)
theorem yJ(m:Int):aN 5 (fY m):=by
 have f:∀x:Int,Bd 5 (x.fmod 9 - 4):=λx=>by have h1:=qg x (show(0:Int)<9 by decide);have h2:=rZ x (show(0:Int)<9 by decide);unfold Bd;omega
 exact⟨f _,f _,f _⟩
def tW(m:Int)(S:So):qO [.int m] S=some (pD (fY m),S):=by
 apply bY
 .wtm_at "?b"
  unfold VJ;wtm_at "?a"
 .wtm_at "?c"
 .rfl
noncomputable def vm(ce:Int):Int:=1+ce.fmod (1*2 ^ (50:Int).toNat)
theorem KN(ce:Int):Bd 51 (vm ce)/\0<vm ce:=by
 have h1:=qg ce (show(0:Int)<1*2 ^ (50:Int).toNat by decide);have h2:=rZ ce (show(0:Int)<1*2 ^ (50:Int).toNat by decide);have e:(1:Int)*2 ^ (50:Int).toNat=1125899906842624:=by decide
 unfold vm;rw[e] at h1 h2;rw[e];unfold Bd;have:(2:Nat) ^ 51=2251799813685248:=by decide
 omega
noncomputable def iD(ce:Int)(p:Pt):Pt:=if ce.fmod 3=0 then p else(p.1*vm ce+ce.fmod 1000003,p.2.1*vm ce - ce.fmod 997,p.2.2*vm ce+5)
theorem Rr{ce:Int}(h:aN k p):aN (k+60) (iD ce p):=by
 unfold iD;split
 .exact h.le (by omega)
 .have s:=(KN ce).1;have m1:Bd 20 (ce.fmod 1000003):=(Bd.fmod (by decide)).le (by decide);have m2:Bd 20 (ce.fmod 997):=(Bd.fmod (by decide)).le (by decide);have m3:Bd 20 5:=(Bd.lit 5).le (by decide);exact⟨((h.1.mul s).add m1).le (by omega),((h.2.1.mul s).sub m2).le (by omega),((h.2.2.mul s).add m3).le (by omega)⟩
theorem Jv(bp:aN k p)(hk:k<=100)(ce:Int)(S:So):yR [pD p,.int ce] S=some (pD (iD ce p),S):=by
 obtain⟨x,y,z⟩:=p;obtain⟨bx,by',bz⟩:=bp;simp only at bx by' bz;have bs:Bd 51 (1+ce.fmod (1*2 ^ (50:Int).toNat)):=(KN ce).1;by_cases h3:ce.fmod 3=0
 .unfold iD;rw[if_pos h3];apply bY
  .wtm_at "?b"
   unfold Ni;wtm_at "?a"
  .wtm_at "?c"
  .rfl
 .unfold iD;rw[if_neg h3];unfold vm;apply bY
  .wtm_at "?b"
   unfold Ni;wtm_at "?a"
  .wtm_at "?c"
  .rfl
theorem zqK{ce:Int}{q:Pt}(h:p.1<=q.1/\p.2.1<=q.2.1/\p.2.2<=q.2.2):(iD ce p).1<=(iD ce q).1/\(iD ce p).2.1<=(iD ce q).2.1/\(iD ce p).2.2<=(iD ce q).2.2:=by
 unfold iD;split
 .exact h
 .have s:=Int.le_of_lt (KN ce).2;have a:=Int.mul_le_mul_of_nonneg_right h.1 s;have b:=Int.mul_le_mul_of_nonneg_right h.2.1 s;have c:=Int.mul_le_mul_of_nonneg_right h.2.2 s;refine⟨?_,?_,?_⟩<;>simp only<;>omega
def lM(ns:List Int)(S:So):Prop:=S[0]?=some (.frz (ns.map .int))
def lM.app(h:lM ns S)(G:So):lM ns (S++G):=by
 unfold lM at *
 rw[mR (eV.mp h).1];exact h
theorem zlN(hn:ns.length<=63)(k:Int):∃s:Sh,lg 8 s/\∀S,lM ns S->Lp [.ref 0,.int k] S=some (bR s,S):=by
 have bm:∀x:Int,cO (k.fmod 3) (x.fmod 2)=true:=λx=>Ai (k:=2) (l:=2) ((Bd.fmod (by decide)).le (by decide)) ((Bd.fmod (by decide)).le (by decide)) (by decide);generalize hpl:k - k.fmod 3*(iY ns 0).fmod 2=pl;generalize hmo:Es (iY ns (pl+1)) pl=mo;by_cases hb:(mo.fdiv 729).fmod 2=0
 .have low:=yJ mo;have wd:=yJ (mo.fdiv 1458);generalize hl:fY mo=lo at low;generalize hw:fY (mo.fdiv 1458)=w at wd;refine⟨.box lo (lo.1+(if w.1<0 then -w.1 else w.1),lo.2.1+(if w.2.1<0 then -w.2.1 else w.2.1).fdiv 2,lo.2.2+(if w.2.2<0 then -w.2.2 else w.2.2).fmod 3),⟨λp hp=>?_,λl h e=>?_⟩,λS hS=>?_⟩
  .simp only[Sh.pts,List.mem_cons,qi,or_false] at hp;have q1:=qg (if w.2.2<0 then -w.2.2 else w.2.2) (show(0:Int)<3 by decide);have q2:=rZ (if w.2.2<0 then -w.2.2 else w.2.2) (show(0:Int)<3 by decide);have q3:(if w.2.1<0 then -w.2.1 else w.2.1).fdiv 2=(if w.2.1<0 then -w.2.1 else w.2.1) / 2:=Int.fdiv_eq_ediv_of_nonneg _ (by decide);obtain⟨l1,l2,l3⟩:=low;obtain⟨w1,w2,w3⟩:=wd;unfold Bd at l1 l2 l3 w1 w2 w3;rcases hp with rfl|rfl
   .exact aN.le (k:=5) ⟨l1,l2,l3⟩ (by decide)
   .refine⟨?_,?_,?_⟩
    .show(lo.1+(if w.1<0 then -w.1 else w.1)).natAbs<2 ^ 8;split<;>omega
    .show(lo.2.1+(if w.2.1<0 then -w.2.1 else w.2.1).fdiv 2).natAbs<2 ^ 8;rw[q3];split<;>omega
    .show(lo.2.2+(if w.2.2<0 then -w.2.2 else w.2.2).fmod 3).natAbs<2 ^ 8;omega
  .cases e;have q1:=qg (if w.2.2<0 then -w.2.2 else w.2.2) (show(0:Int)<3 by decide);have q3:(if w.2.1<0 then -w.2.1 else w.2.1).fdiv 2=(if w.2.1<0 then -w.2.1 else w.2.1) / 2:=Int.fdiv_eq_ediv_of_nonneg _ (by decide);refine⟨?_,?_,?_⟩
   .show lo.1<=lo.1+(if w.1<0 then -w.1 else w.1)
    split<;>omega
   .show lo.2.1<=lo.2.1+(if w.2.1<0 then -w.2.1 else w.2.1).fdiv 2;rw[q3];split<;>omega
   .show lo.2.2<=lo.2.2+(if w.2.2<0 then -w.2.2 else w.2.2).fmod 3;omega
  .have c0:=pO hn 0 hS;have c1:=pO hn (pl+1) hS;have d1:=sp_drawn (iY ns (pl+1)) pl S;have s1:=tW mo S;have s2:=tW (mo.fdiv 1458) S;rw[hmo] at d1;rw[hl] at s1;rw[hw] at s2;apply bY
   .wtm_at "?b"
    unfold Lk;have b0:=bm (iY ns 0);refine aH (fl := .nx) (σ1:=[some (.ref 0),some (.int k),some (.int (k - k.fmod 3*(iY ns 0).fmod 2)),none,none,none]) (S1:=S) (by wtm_at "?a") (aV ?_);rw[hpl];refine aH (fl := .nx) (σ1:=[some (.ref 0),some (.int k),some (.int pl),some (.int mo),none,none]) (S1:=S) (by wtm_at "?a") (aV ?_);refine aH (fl := .nx) (σ1:=[some (.ref 0),some (.int k),some (.int pl),some (.int mo),some (pD lo),none]) (S1:=S) (by wtm_at "?a") (aV ?_);have t:bW (eB (aZ .Eq) (eB (aP .Mod) (eB (aP .FloorDiv) (aj 3) (eC (.int 729))) (eC (.int 2))) (eC (.int 0))) [some (.ref 0),some (.int k),some (.int pl),some (.int mo),some (pD lo),none] S=some (decide ((mo.fdiv 729).fmod 2=0),S):=by wtm_at "?a"
    rw[jY hb] at t;refine aH (fl := .rt _) (eF t (gm rfl (aH (fl := .nx) (σ1:=[some (.ref 0),some (.int k),some (.int pl),some (.int mo),some (pD lo),some (pD w)]) (S1:=S) (by wtm_at "?a") (aV (aH (fZ (S1:=S) ?_) d7))))) d7;wtm_at "?a"
   .wtm_at "?c"
   .rfl
 .refine⟨.tri (fY mo) (fY (mo.fdiv 1458)) (fY (mo.fdiv 1062882)),⟨λp hp=>?_,λl h e=>by cases e⟩,λS hS=>?_⟩
  .simp only[Sh.pts,List.mem_cons,qi,or_false] at hp;rcases hp with rfl|rfl|rfl<;>exact(yJ _).le (by decide)
  .have c0:=pO hn 0 hS;have c1:=pO hn (pl+1) hS;have d1:=sp_drawn (iY ns (pl+1)) pl S;have s1:=tW mo S;have s2:=tW (mo.fdiv 1458) S;have s3:=tW (mo.fdiv 1062882) S;rw[hmo] at d1;apply bY
   .wtm_at "?b"
    unfold Lk;have b0:=bm (iY ns 0);refine aH (fl := .nx) (σ1:=[some (.ref 0),some (.int k),some (.int (k - k.fmod 3*(iY ns 0).fmod 2)),none,none,none]) (S1:=S) (by wtm_at "?a") (aV ?_);rw[hpl];refine aH (fl := .nx) (σ1:=[some (.ref 0),some (.int k),some (.int pl),some (.int mo),none,none]) (S1:=S) (by wtm_at "?a") (aV ?_);refine aH (fl := .nx) (σ1:=[some (.ref 0),some (.int k),some (.int pl),some (.int mo),some (pD (fY mo)),none]) (S1:=S) (by wtm_at "?a") (aV ?_);have t:bW (eB (aZ .Eq) (eB (aP .Mod) (eB (aP .FloorDiv) (aj 3) (eC (.int 729))) (eC (.int 2))) (eC (.int 0))) [some (.ref 0),some (.int k),some (.int pl),some (.int mo),some (pD (fY mo)),none] S=some (decide ((mo.fdiv 729).fmod 2=0),S):=by wtm_at "?a"
    rw[nj hb] at t;refine aH (fl := .nx) (eF t (eH rfl dR)) (aV (aH (fZ (S1:=S) ?_) d7));exact bH (aM bC (aM (aC rfl) (aM (bH (aM (bI (aC rfl) bC (qJ (by decide))) bA) (cV rfl s2)) (aM (bH (aM (bI (aC rfl) bC (qJ (by decide))) bA) (cV rfl s3)) bA)))) (lC (by show 4<=sizeLine;decide))
   .wtm_at "?c"
   .rfl
theorem zmH{α:Type}{S1:So}{fi:IF}{rest:Sg}(qs:List α)(enc g:α->D)(h1:fi σ S=some (.fix (qs.map enc),S1))(hl:qs.length<=1000)(hτ:nR src σ=none::rest)(hstep:∀q∈qs,fe (some (enc q)::rest) S1=some (g q,S1)):fL fi (aK 0) eZ fe src σ S=some (.ref S1.length,S1++[.lst (qs.map g)]):=by
 have key:=JC (nx:=dj (.fix (qs.map enc))) (S:=S1) (rest:=rest) (fe:=fe) qs enc g (λi=>rfl) hstep qs.length 0 none [] (by omega);refine vq (n:=qs.length) h1 ?_ (by rw[sizeLine_eq];omega) hτ ?_
 .show some (qs.map enc).length=_;simp
 .rw[key];simp
noncomputable def Sh.nm:Sh->Str
 |.box _ _ => "box"
 |.tri _ _ _ => "triangle"
def Rw(s:Sh):bR s = .tup (.str s.nm::s.pts.map pD):=by cases s<;>rfl
noncomputable def Sh.by(f:Pt->Pt):Sh->Sh
 |.box lo hi => .box (f lo) (f hi)
 |.tri a b c => .tri (f a) (f b) (f c)
def Jk(f:Pt->Pt)(s:Sh):(s.by f).pts=s.pts.map f/\(s.by f).nm=s.nm:=by cases s<;>exact⟨rfl,rfl⟩
theorem zlM(hn:ns.length<=63)(k:Int):∃s:Sh,lg 70 s/\∀S,lM ns S->vD [.ref 0,.int k] S=some (bR s,S):=by
 obtain⟨s,ok,e⟩:=zlN hn k;generalize hc:iY ns 0=ce;refine⟨s.by (iD ce),⟨λp hp=>?_,λlo hi e=>?_⟩,λS hS=>?_⟩
 .rw[(Jk _ s).1] at hp;obtain⟨q,hq,rfl⟩:=List.mem_map.mp hp;exact(Rr (ok.bd q hq)).le (by decide)
 .cases s with
  |box l h =>
   simp only[Sh.by,Sh.box.injEq] at e;obtain⟨rfl,rfl⟩:=e;exact zqK (ok.ord l h rfl)
  |tri a b c=>cases e
 .have c0:=pO hn 0 hS;rw[hc] at c0;have e0:=e S hS;have hlen:s.pts.length<=10:=by cases s<;>simp[Sh.pts]
  rw[Rw] at e0;rw[Rw,(Jk _ s).1,(Jk _ s).2];have hlc:fL (fO (jP (aj 2) (jH (eC (.int 1))) lA)) (aK 0) eZ (eN (aO 2 yR) (ak (aj 0) (ak (eN (aO 2 nF) (ak (aj 1) (ak (eC (.int 0)) au))) au))) [none,some 0] [some (.ref 0),some (.int k),some (.tup (.str s.nm::s.pts.map pD))] S=some (.ref S.length,S++[.lst (s.pts.map λp=>pD (iD ce p))]):=by
   refine zmH s.pts pD (λp=>pD (iD ce p)) (Uw (zZ (aC rfl) (FT bC) FQ (Jr (ys:=s.pts.map pD) ?_ FP))) (by omega) rfl λp hp=>?_
   .rintro⟨e1,e2⟩
    have:HT.sIx (D.str s.nm::s.pts.map pD).length 0 (some 1)=1:=by unfold HT.sIx;simp
    omega
   .exact bH (aM (aC rfl) (aM (bH (aM (aC rfl) (aM bC bA)) (cV rfl c0)) bA)) (cV rfl (Jv (ok.bd p hp) (by decide) ce S))
  apply bY (S':=S++[.lst (s.pts.map λp=>pD (iD ce p))]) (σ':=[some (.ref 0),some (.int k),some (.tup (.str s.nm::s.pts.map pD))])
  .wtm_at "?b"
   unfold Wm;have Pz:gq (D.str s.nm::s.pts.map pD) 0=some (D.str s.nm):=JV (j:=0) rfl;have r:=zpp (S:=S++[.lst (s.pts.map λp=>pD (iD ce p))]) (xs:=[.str s.nm]) (ys:=s.pts.map λp=>pD (iD ce p)) (by simp) (by simp;rw[sizeLine_eq];omega);rw[List.map_map];exact aH (dI (bH (aM (aC rfl) (aM (aC rfl) bA)) (cV rfl e0)) (di rfl)) (aV (aH (fZ (bI (bH (aM (bI (aC rfl) bC (iZ Pz)) bA) (lC (by show 1<=sizeLine;decide))) (bH (aM hlc bA) (Vf cM)) r)) d7))
  .simp
  .rw[D.lo,lF];intro x hx;rcases List.mem_cons.mp hx with rfl|hx
   .simp[D.lo]
   .obtain⟨p,_,rfl⟩:=List.mem_map.mp hx;simp[D.lo,cI]
theorem wB(i:Int)(h0:0<=i)(h6:i<6):∃d:Pt,aN 5 d/\d≠(0,0,0)/\gq [P3 1 0 0,P3 0 (0 - 2) 0,P3 0 0 3,P3 1 1 0,P3 0 1 (0 - 1),P3 (0 - 1) 0 0] i=some (pD d):=by
 have:i=0\/i=1\/i=2\/i=3\/i=4\/i=5:=by omega
 rcases this with rfl|rfl|rfl|rfl|rfl|rfl
 .exact⟨(1,0,0),⟨by unfold Bd;decide,by unfold Bd;decide,by unfold Bd;decide⟩,by decide,rfl⟩
 .exact⟨(0,0 - 2,0),⟨by unfold Bd;decide,by unfold Bd;decide,by unfold Bd;decide⟩,by decide,rfl⟩
 .exact⟨(0,0,3),⟨by unfold Bd;decide,by unfold Bd;decide,by unfold Bd;decide⟩,by decide,rfl⟩
 .exact⟨(1,1,0),⟨by unfold Bd;decide,by unfold Bd;decide,by unfold Bd;decide⟩,by decide,rfl⟩
 .exact⟨(0,1,0 - 1),⟨by unfold Bd;decide,by unfold Bd;decide,by unfold Bd;decide⟩,by decide,rfl⟩
 .exact⟨(0 - 1,0,0),⟨by unfold Bd;decide,by unfold Bd;decide,by unfold Bd;decide⟩,by decide,rfl⟩
theorem ZW(hn:ns.length<=63)(k:Int):∃o d:Pt,aN 80 o/\aN 5 d/\d≠(0,0,0)/\∀S,lM ns S->MF [.ref 0,.int k] S=some (bF o d,S):=by
 generalize hce:iY ns k=ck;generalize hc0:iY ns 0=c0;generalize hmo:Es ck k=mo;obtain⟨dm,bm,nm,em⟩:=wB ((mo.fdiv 1594323).fmod 6) (qg _ (by decide)) (rZ _ (by decide));obtain⟨d,bd,nd,ed⟩:∃d:Pt,aN 5 d/\d≠(0,0,0)/\∀S,∃G:So,G3 [some (.ref 0),some (.int k),some (.int mo),some (pD (fY mo)),some (pD (fY (mo.fdiv 729))),none] S=some (.nx,[some (.ref 0),some (.int k),some (.int mo),some (pD (fY mo)),some (pD d),none],S++G):=by
  by_cases h3:(mo.fdiv 531441).fmod 3=0\/pD (fY (mo.fdiv 729))=P3 0 0 0
  .refine⟨dm,bm,nm,λS=>⟨[.lst [P3 1 0 0,P3 0 (0 - 2) 0,P3 0 0 3,P3 1 1 0,P3 0 1 (0 - 1),P3 (0 - 1) 0 0]],?_⟩⟩;have t:iW (bW (eB (aZ .Eq) (eB (aP .Mod) (eB (aP .FloorDiv) (aj 2) (eC (.int 531441))) (eC (.int 3))) (eC (.int 0)))) (bW (eB (aZ .Eq) (aj 4) (eN cB (ak (eC (.int 0)) (ak (eC (.int 0)) (ak (eC (.int 0)) au)))))) [some (.ref 0),some (.int k),some (.int mo),some (pD (fY mo)),some (pD (fY (mo.fdiv 729))),none] S=some (true,S):=by
    by_cases ha:(mo.fdiv 531441).fmod 3=0
    .refine pN (b:=true) (S1:=S) ?_ (gm rfl rfl);rw[<-jY ha];wtm_at "?a"
    .have hb:=h3.resolve_left ha;refine pN (b:=false) (S1:=S) ?_ (eH rfl ?_)
     .rw[<-nj ha];wtm_at "?a"
     .have q:=eG (bI (aC (σ:=[some (.ref 0),some (.int k),some (.int mo),some (pD (fY mo)),some (pD (fY (mo.fdiv 729))),none]) (i:=4) (d:=pD (fY (mo.fdiv 729))) (S:=S) rfl) (bH (aM (bC (d := .int 0)) (aM (bC (d := .int 0)) (aM (bC (d := .int 0)) bA))) (lC (by show 3<=sizeLine;decide))) (vy rfl 1 rfl rfl (by decide)));rw[q,jY hb]
   unfold G3;refine eF t (gm rfl (aH (dI (x:=pD dm) (S1:=S++[.lst [P3 1 0 0,P3 0 (0 - 2) 0,P3 0 0 3,P3 1 1 0,P3 0 1 (0 - 1),P3 (0 - 1) 0 0]]) ?_ (di rfl)) (aV dR)));refine bI (x := .ref S.length) (S1:=S++[.lst [P3 1 0 0,P3 0 (0 - 2) 0,P3 0 0 3,P3 1 1 0,P3 0 1 (0 - 1),P3 (0 - 1) 0 0]]) ?_ (bI (bI (aC rfl) bC (qJ (by decide))) bC (yr (by decide))) (yo cM em);wtm_at "?a"
  .have ha:¬(mo.fdiv 531441).fmod 3=0:=λh=>h3 (.inl h);have hb:¬pD (fY (mo.fdiv 729))=P3 0 0 0:=λh=>h3 (.inr h);refine⟨fY (mo.fdiv 729),yJ _,λh=>hb (by rw[h]),λS=>⟨[],?_⟩⟩;have t:iW (bW (eB (aZ .Eq) (eB (aP .Mod) (eB (aP .FloorDiv) (aj 2) (eC (.int 531441))) (eC (.int 3))) (eC (.int 0)))) (bW (eB (aZ .Eq) (aj 4) (eN cB (ak (eC (.int 0)) (ak (eC (.int 0)) (ak (eC (.int 0)) au)))))) [some (.ref 0),some (.int k),some (.int mo),some (pD (fY mo)),some (pD (fY (mo.fdiv 729))),none] S=some (false,S):=by
    refine pN (b:=false) (S1:=S) ?_ (eH rfl ?_)
    .rw[<-nj ha];wtm_at "?a"
    .have q:=eG (bI (aC (σ:=[some (.ref 0),some (.int k),some (.int mo),some (pD (fY mo)),some (pD (fY (mo.fdiv 729))),none]) (i:=4) (d:=pD (fY (mo.fdiv 729))) (S:=S) rfl) (bH (aM (bC (d := .int 0)) (aM (bC (d := .int 0)) (aM (bC (d := .int 0)) bA))) (lC (by show 3<=sizeLine;decide))) (vy rfl 1 rfl rfl (by decide)));rw[q,nj hb]
   unfold G3;rw[List.append_nil];exact eF t (eH rfl dR)
 have bs:=yJ mo;generalize hsp:fY mo=st at *
 generalize hof:(mo.fdiv 9565938).fmod 4=of;have bo:Bd 4 of:=by have h1:=qg (mo.fdiv 9565938) (show(0:Int)<4 by decide);have h2:=rZ (mo.fdiv 9565938) (show(0:Int)<4 by decide);rw[hof] at h1 h2;unfold Bd;omega
 have bp:aN 15 (st.1 - of*d.1,st.2.1 - of*d.2.1,st.2.2 - of*d.2.2) :=
  ⟨(bs.1.sub (bo.mul bd.1)).le (by decide),(bs.2.1.sub (bo.mul bd.2.1)).le (by decide),(bs.2.2.sub (bo.mul bd.2.2)).le (by decide)⟩
 refine⟨iD c0 (st.1 - of*d.1,st.2.1 - of*d.2.1,st.2.2 - of*d.2.2),d,(Rr bp).le (by decide),bd,nd,λS hS=>?_⟩;obtain⟨G,e4⟩:=ed S;have cc:=pO hn k hS;have cz:=pO hn 0 ((hS.app G).app [.lst [.int (st.1 - of*d.1),.int (st.2.1 - of*d.2.1),.int (st.2.2 - of*d.2.2)]]);have s1:=tW mo S;have s2:=tW (mo.fdiv 729) S;have dr:=sp_drawn ck k S;rw[hmo] at dr;rw[hce] at cc;rw[hc0] at cz;rw[hsp] at s1;have a1:Ml [some (.ref 0),some (.int k),none,none,none,none] S=some (.nx,[some (.ref 0),some (.int k),some (.int mo),none,none,none],S):=by unfold Ml;exact dI (bH (aM (bH (aM (aC rfl) (aM (aC rfl) bA)) (cV rfl cc)) (aM (aC rfl) bA)) (cV rfl dr)) (di rfl)
 have a2:Mp [some (.ref 0),some (.int k),some (.int mo),none,none,none] S=some (.nx,[some (.ref 0),some (.int k),some (.int mo),some (pD st),none,none],S):=by unfold Mp;exact dI (bH (aM (aC rfl) bA) (cV rfl s1)) (di rfl)
 have a3:Mq [some (.ref 0),some (.int k),some (.int mo),some (pD st),none,none] S=some (.nx,[some (.ref 0),some (.int k),some (.int mo),some (pD st),some (pD (fY (mo.fdiv 729))),none],S):=by unfold Mq;exact dI (bH (aM (bI (aC rfl) bC (qJ (by decide))) bA) (cV rfl s2)) (di rfl)
 have a5:Mr [some (.ref 0),some (.int k),some (.int mo),some (pD st),some (pD d),none] (S++G)=some (.nx,[some (.ref 0),some (.int k),some (.int mo),some (pD st),some (pD d),some (.int of)],S++G):=by unfold Mr;rw[<-hof];exact dI (bI (bI (aC rfl) bC (qJ (by decide))) bC (yr (by decide))) (di rfl)
 have m1:cO of d.1=true:=Ai bo bd.1 (by decide);have m2:cO of d.2.1=true:=Ai bo bd.2.1 (by decide);have m3:cO of d.2.2=true:=Ai bo bd.2.2 (by decide);have a6:Ms [some (.ref 0),some (.int k),some (.int mo),some (pD st),some (pD d),some (.int of)] (S++G)=some (.nx,[some (.ref 0),some (.int k),some (.int mo),some (pD (st.1 - of*d.1,st.2.1 - of*d.2.1,st.2.2 - of*d.2.2)),some (pD d),some (.int of)],S++G++[.lst [.int (st.1 - of*d.1),.int (st.2.1 - of*d.2.1),.int (st.2.2 - of*d.2.2)]]):=by unfold Ms;refine dI (x:=pD (st.1 - of*d.1,st.2.1 - of*d.2.1,st.2.2 - of*d.2.2)) (S1:=S++G++[.lst [.int (st.1 - of*d.1),.int (st.2.1 - of*d.2.1),.int (st.2.2 - of*d.2.2)]]) ?_ (di rfl);wtm_at "?a"
 have a7:Mt [some (.ref 0),some (.int k),some (.int mo),some (pD (st.1 - of*d.1,st.2.1 - of*d.2.1,st.2.2 - of*d.2.2)),some (pD d),some (.int of)] (S++G++[.lst [.int (st.1 - of*d.1),.int (st.2.1 - of*d.2.1),.int (st.2.2 - of*d.2.2)]])=some (.rt (bF (iD c0 (st.1 - of*d.1,st.2.1 - of*d.2.1,st.2.2 - of*d.2.2)) d),[some (.ref 0),some (.int k),some (.int mo),some (pD (st.1 - of*d.1,st.2.1 - of*d.2.1,st.2.2 - of*d.2.2)),some (pD d),some (.int of)],S++G++[.lst [.int (st.1 - of*d.1),.int (st.2.1 - of*d.2.1),.int (st.2.2 - of*d.2.2)]]):=by unfold Mt;exact fZ (bH (aM (bH (aM (aC rfl) (aM (bH (aM (aC rfl) (aM bC bA)) (cV rfl cz)) bA)) (cV rfl (Jv bp (by decide) c0 _))) (aM (aC rfl) bA)) (lC (by show 2<=sizeLine;decide)))
 apply bY (S':=S++G++[.lst [.int (st.1 - of*d.1),.int (st.2.1 - of*d.2.1),.int (st.2.2 - of*d.2.2)]])
 .wtm_at "?b"
  unfold Xa;exact aH a1 (aV (aH a2 (aV (aH a3 (aV (aH e4 (aV (aH a5 (aV (aH a6 (aV (aH a7 d7))))))))))))
 .rw[gH];simp
 .simp[D.lo,cI]
theorem zn0(hn:ns.length<=63):∃m:Nat,m<=30/\∀S,lM ns S->Ao [.ref 0] S=some (.int (m:Nat),S):=by
 generalize hmo:Es (iY ns 0) 77=mo;have pre:∀S,lM ns S->bG (eN (aO 2 yN) (ak (eN (aO 2 nF) (ak (aj 0) (ak (eC (.int 0)) au))) (ak (eC (.int 77)) au))) (aK 1) [some (.ref 0),none] S=some (.nx,[some (.ref 0),some (.int mo)],S):=λS F=>by have d0:=sp_drawn (iY ns 0) 77 S;rw[hmo] at d0;exact dI (bH (aM (bH (aM (aC rfl) (aM bC bA)) (cV rfl (pO hn 0 F))) (aM bC bA)) (cV rfl d0)) (di rfl)
 have Br:∀S b,decide (mo.fmod 8=5)=b->bW (eB (aZ .Eq) (eB (aP .Mod) (aj 1) (eC (.int 8))) (eC (.int 5))) [some (.ref 0),some (.int mo)] S=some (b,S):=λS b h=>by rw[<-h];exact eG (bI (bI (aC rfl) bC (yr (by decide))) bC EY)
 by_cases h:mo.fmod 8=5
 .refine⟨30,by decide,λS F=>?_⟩;apply bY
  .wtm_at "?b"
   unfold Lw;exact aH (pre S F) (aV (aH (eF (Br S true (jY h)) (gm rfl (aH (fZ bC) d7))) d7))
  .exact kJ
  .rfl
 .have h1:=qg (mo.fdiv 8) (show(0:Int)<13 by decide);have h2:=rZ (mo.fdiv 8) (show(0:Int)<13 by decide);refine⟨((mo.fdiv 8).fmod 13).toNat,by omega,λS F=>?_⟩;rw[Int.toNat_of_nonneg h1];apply bY
  .wtm_at "?b"
   unfold Lw;exact aH (pre S F) (aV (aH (eF (Br S false (nj h)) (eH rfl dR)) (aV (aH (fZ (bI (bI (aC rfl) bC (qJ (by decide))) bC (yr (by decide)))) d7))))
  .exact kJ
  .rfl
theorem zhc{s:Sh}(ho:aN k o)(hd:aN k d)(hs:lg k s)(h0:d≠(0,0,0))(hk:k<=1500)(S:So)(hS:WF S):
 J9 [bF o d,bR s] S=some (tD (gF o d s),S):=by
 have hm:=U6 ho hd hs h0 hk S hS;have hr:=Xc (o:=o) h0 S;have hn:Bo [bR s] S=some (.non,S):=by
  apply Xb;cases s with
  |box l h =>
   obtain⟨o1,o2,o3⟩:=hs.ord l h rfl;exact WX o1 o2 o3
  |tri a b c=>exact WY
 apply bY
 .wtm_at "?b"
  unfold RD;exact aH (tV (bH (aM (aC rfl) bA) (cV rfl hr))) (aV (aH (tV (bH (aM (aC rfl) bA) (cV rfl hn))) (aV (aH (fZ (bH (aM (aC rfl) (aM (aC rfl) bA)) (cV rfl hm))) d7))))
 .exact kJ
 .cases gF o d s<;>rfl
theorem zkF(hn:ns.length<=63):∃shs:List Sh,shs.length<=30/\(∀s∈shs,lg 70 s)/\∀(σ:Sg) (S:So),lM ns S->aj 0 σ S=some (.ref 0,S)->nR [none,some 0] σ=[none,some (.ref 0)] ->
 fL (mU (ak (eN (aO 1 Ao) (ak (aj 0) au)) au)) (aK 0) eZ (eN (aO 2 vD) (ak (aj 1) (ak (aj 0) au))) [none,some 0] σ S=some (.ref S.length,S++[.lst (shs.map bR)]):=by
 obtain⟨m,hm,em⟩:=zn0 hn;have Xn:∀k:Nat,∃s:Sh,lg 70 s/\∀S,lM ns S->vD [.ref 0,.int (k:Nat)] S=some (bR s,S):=λk=>zlM hn (k:Nat);obtain⟨sh,hsh⟩:∃sh:Nat->Sh,∀k:Nat,lg 70 (sh k)/\∀S,lM ns S->vD [.ref 0,.int (k:Nat)] S=some (bR (sh k),S):=⟨λk=>(Xn k).choose,λk=>(Xn k).choose_spec⟩
 refine⟨(List.range m).map sh,by simpa using hm,λs hs=>?_,λσ S F hv hτ=>?_⟩
 .obtain⟨k,_,rfl⟩:=List.mem_map.mp hs;exact(hsh k).1
 .have lc:=vq (σ:=σ) (S:=S) (fi:=mU (ak (eN (aO 1 Ao) (ak (aj 0) au)) au)) (g:=aK 0) (t:=eZ) (src:=[none,some 0]) (n:=m) (J5 (j:=(m:Int)) (aM (bH (aM hv bA) (cV rfl (em S F))) bA) (by omega)) (by show some (gR 0 (m:Int).toNat).length=_;simp[gR]) (by rw[sizeLine_eq];omega) hτ (by rw[Int.toNat_natCast];exact YH (fe:=eN (aO 2 vD) (ak (aj 1) (ak (aj 0) au))) (m:=m) (rest:=[some (.ref 0)]) (λx=>bR (sh x)) (λx hx=>bH (aM (aC rfl) (aM (aC rfl) bA)) (cV rfl ((hsh x).2 S F))));rw[lc,List.map_map];rfl
theorem zml{m:Nat}{S0:So}{fa:AF}(hS:WF S)(hT:kW "tree_over" S=true)(hm:S[m]?=some (.lst (shs.map bR)))(hl:shs.length<=32)(hk:∀s∈shs,lg K s)(h1:fa σ S0=some ([.ref m],S)):
 ∃t G,o5 K shs t/\oX "Scene" 2 GQ fa σ S0=some (.ref S.length,S++G)/\WF (S++G)/\jn (S++G) S.length shs t:=by
 obtain⟨t,bs,ok,e,W⟩:=zlS hS hT hm hl hk;have mk:=Q6 (C := "Scene") (n:=2) h1 rfl e;have XH:(S++[O.ins "Scene" [("kept",.ref (S.length+1)),("tree",gj t)]]++[O.lst (shs.map bR)]++[O.lst (bs.map jC)])[S.length]?=some (.ins "Scene" [("kept",.ref (S.length+1)),("tree",gj t)]):=fK (fK cM);have Hl:(S++[O.ins "Scene" [("kept",.ref (S.length+1)),("tree",gj t)]]++[O.lst (shs.map bR)]++[O.lst (bs.map jC)])[S.length+1]?=some (.lst (shs.map bR)):=by refine fK ?_;generalize O.ins "Scene" [("kept",.ref (S.length+1)),("tree",gj t)]=o;rw[show S.length+1=(S++[o]).length by simp];exact cM
 have fz:mG "Scene" S.length (S++[O.ins "Scene" [("kept",.ref (S.length+1)),("tree",gj t)]]++[O.lst (shs.map bR)]++[O.lst (bs.map jC)])=(.ref S.length,S++[O.ins "Scene" [("kept",.ref (S.length+1)),("tree",gj t)]]++[O.lst (shs.map bR)]++[O.lst (bs.map jC)]):=by unfold mG;rw[XH];simp only;rw[if_neg];intro h;have:=h.2.1;simp at this
 rw[fz] at mk;rw[gH,gH] at *
 exact⟨t,_,ok,mk,W,XH,Hl⟩
end MX.P
end
section
namespace MX.P
open PySem L2 MX
def Yx:qt "tuple" "tuple" = some true:=by kernel_rfl
def Yw:qt "int" "int" = some true:=by kernel_rfl
def Yv:qt "int" "bool" = some false:=by kernel_rfl
theorem ev_isi_tup:pB [.tup xs,.ty "tuple"] S=some (.bl true,S):=by show((some "tuple").bind λt=>(qt t "tuple").map λb=>(D.bl b,S))=_;simp only[bQ,Yx,o9]
theorem ev_isi_int{i:Int}:pB [.int i,.ty "int"] S=some (.bl true,S):=by show((some "int").bind λt=>(qt t "int").map λb=>(D.bl b,S))=_;simp only[bQ,Yw,o9]
theorem ev_isi_bool{i:Int}:pB [.int i,.ty "bool"] S=some (.bl false,S):=by show((some "int").bind λt=>(qt t "bool").map λb=>(D.bl b,S))=_;simp only[bQ,Yv,o9]
end MX.P
local macro_rules | `(tactic| wtm_at "?d") => `(tactic| (with_reducible assumption))
local macro_rules | `(tactic| wtm_at "?m") => `(tactic| first | (with_reducible first | exact MX.P.ev_isi_tup | exact MX.P.ev_isi_int | exact MX.P.ev_isi_bool))
namespace MX.P
def UL(i:Int)(S:So):Gu [.int i] S=some (.bl true,S):=by
 apply bY
 .wtm_at "?b"
  unfold Wn;wtm_at "?a"
 .wtm_at "?c"
 .rfl
end MX.P
end
section
local macro_rules | `(tactic| wtm_at "?d") => `(tactic| (with_reducible assumption))
namespace MX.P
open PySem L2 MX
theorem zlO{l:Nat}{a b c d:Int}(ha:Bd k a)(hb:Bd k b)(hc:Bd l c)(hd:Bd l d)(hk:k+l<=134217728)(S:So):Gx [R2 a b,R2 c d] S=some (.bl (decide (a*d<c*b)),S):=by refine bY (σ':=[some (R2 a b),some (R2 c d)]) (S':=S) ?_ (by simp) rfl;show Ls [some (R2 a b),some (R2 c d)] S=_;unfold Ls;wtm_at "?a"
theorem znX{t:Option Tr}(sc:jn S c shs t):Bf [.ref c] S=some (.int (shs.length:Nat),S):=by
 apply bY
 .wtm_at "?b"
  unfold Nh;have:=nq sc.kept;rw[cZ] at this;exact aH (fZ (bH (aM (Fp (aC rfl) sc.ins rfl) bA) this)) d7
 .exact kJ
 .rfl
noncomputable def jT(o d:Pt)(shs:List Sh)(j:Nat):Option fH:=((List.range j).filterMap (dN o d shs)).foldl fG none
theorem Q0{h:fH}(e:jT o d shs j=some h):h.2<j/\∃s,shs[h.2]?=some s/\gF o d s=some h.1:=by
 rcases yw _ _ _ e with q|q
 .obtain⟨i,hi,q⟩:=List.mem_filterMap.mp q;obtain⟨s,p,e1,e2,rfl⟩:=T8.mp q;exact⟨List.mem_range.mp hi,s,e1,e2⟩
 .cases q
theorem zmM(hj:j<shs.length):jT o d shs (j+1)=match gF o d shs[j] with
 |none=>jT o d shs j
 |some p=>fG (jT o d shs j) (p,j):=by
 have hat:dN o d shs j=(gF o d shs[j]).map λp=>(p,j):=by unfold dN;rw[gJ hj];rfl
 unfold jT;rw[List.range_succ,List.filterMap_append,List.foldl_append];cases e:gF o d shs[j] with
 |none=>rw[e] at hat;simp[hat]
 |some p=>rw[e] at hat;simp[hat]
theorem zps{p:Int×Int}{b:fH}(e:jT o d shs j=some b):fG (some b) (p,j)=if decide (p.1*b.1.2<b.1.1*p.2)=true then some (p,j) else some b:=by
 have h:=(Q0 e).1;have k:jV (p,j) b=decide (p.1*b.1.2<b.1.1*p.2):=by
  rw[Bool.eq_iff_iff,Aj,decide_eq_true_iff];show fW p b.1\/_↔fW p b.1;constructor
  .rintro(q|⟨_,q⟩)
   .exact q
   .simp only at q;omega
  .exact .inl
 show(if jV (p,j) b=true then some (p,j) else some b)=_;rw[k]
section
variable {K:Nat}{o d:Pt}(ho:aN K o)(hd:aN K d)(h0:d≠(0,0,0))
include ho hd h0 in
theorem ZV(hK:K<=1500)(hs:∀s∈shs,lg K s)(hl:shs.length<=32){m:Nat}(hS:WF S)(hm:S[m]?=some (.lst (shs.map bR))):Mz [bF o d,.ref m] S=some (b7 (jK o d shs),S):=by
 have inv:=Ah (nx:=dj (.fix (gR 0 shs.length))) (g:=aK 3) (f:=GK) (xs:=gR 0 shs.length)
  (λj σ S'=>∃a b,σ=[some (bF o d),some (.ref m),some (b7 (jT o d shs j)),a,b]/\S'=S)
  (λj σ S' _=>rfl)
  (λj dd σ S' hj ⟨a,b,e1,e2⟩=>?_) shs.length 0 [some (bF o d),some (.ref m),some .non,none,none] S ⟨none,none,rfl,rfl⟩ (by simp[gR])
 .obtain⟨σ',S',e,a,b,rfl,hSS⟩:=inv;rw[hSS] at e;rw[show(gR 0 shs.length).length=shs.length by simp[gR]] at e;have el:jT o d shs shs.length=jK o d shs:=rfl;rw[el] at e;apply bY
  .wtm_at "?b"
   unfold W9;have ln:=nq hm;rw[cZ] at ln;have a1:Mh [some (bF o d),some (.ref m),none,none,none] S=some (.nx,[some (bF o d),some (.ref m),some .non,none,none],S):=by unfold Mh;exact dI bC (di rfl)
   have a2:Mi [some (bF o d),some (.ref m),some .non,none,none] S=some (.nx,[some (bF o d),some (.ref m),some (b7 (jK o d shs)),a,b],S):=by
    unfold Mi;refine zdt (n:=shs.length) (J5 (j:=(shs.length:Int)) (aM (bH (aM (aC rfl) bA) ln) bA) (by omega)) ?_ ?_
    .show some (gR 0 (shs.length:Int).toNat).length=_;simp[gR]
    .rw[Int.toNat_natCast];exact e
   have a3:Mj [some (bF o d),some (.ref m),some (b7 (jK o d shs)),a,b] S=some (.rt (b7 (jK o d shs)),[some (bF o d),some (.ref m),some (b7 (jK o d shs)),a,b],S):=by unfold Mj;exact fZ (aC rfl)
   exact aH a1 (aV (aH a2 (aV (aH a3 d7))))
  .exact kJ
  .cases jK o d shs<;>simp[b7,cj,aY,D.lo,cI]
 .subst e1 e2;have hj':j<shs.length:=by have:=(eV.mp hj).1;simpa[gR] using this
  have hd':dd = .int (j:Nat):=by rw[LR,if_pos hj'] at hj;have:=(Option.some.inj hj).symm;rw[this];congr 1;omega
  subst hd';have XM:=hs _ (List.getElem_mem hj');have mt:=zhc ho hd XM h0 hK S' hS;have hix:gq (shs.map bR) ((j:Nat):Int)=some (bR shs[j]):=JV (by simp[hj']);have b1:Nx [some (bF o d),some (.ref m),some (b7 (jT o d shs j)),some (.int (j:Nat)),b] S'=some (.nx,[some (bF o d),some (.ref m),some (b7 (jT o d shs j)),some (.int (j:Nat)),some (tD (gF o d shs[j]))],S'):=by unfold Nx;exact dI (bH (aM (aC rfl) (aM (bI (aC rfl) (aC rfl) (yo hm hix)) bA)) (cV rfl mt)) (di rfl)
  have b2:Ny [some (bF o d),some (.ref m),some (b7 (jT o d shs j)),some (.int (j:Nat)),some (tD (gF o d shs[j]))] S'=some (.nx,[some (bF o d),some (.ref m),some (b7 (jT o d shs (j+1))),some (.int (j:Nat)),some (tD (gF o d shs[j]))],S'):=by
   unfold Ny;rw[zmM hj'];cases e:gF o d shs[j] with
   |none=>exact eF (b:=false) (tO (b:=false) (eG (bI (aC rfl) bC pP)) (eH rfl rfl)) (eH rfl dR)
   |some p =>
    simp only;have set:∀x:D,aA (bG (eN cB (ak (aj 4) (ak (aj 3) au))) (aK 2)) aJ [some (bF o d),some (.ref m),some x,some (.int (j:Nat)),some (tD (some p))] S'=some (.nx,[some (bF o d),some (.ref m),some (b7 (some (p,j))),some (.int (j:Nat)),some (tD (some p))],S'):=λx =>
     aH (dI (bH (aM (aC rfl) (aM (aC rfl) bA)) (lC (by show 2<=sizeLine;decide))) (di rfl)) (aV dR)
    cases eb:jT o d shs j with
    |none =>
     exact eF (b:=true) (tO (b:=true) (eG (bI (aC rfl) bC pP)) (gm rfl (pN (b:=true) (eG (bI (aC rfl) bC pM)) (gm rfl rfl)))) (gm rfl (set _))
    |some h =>
     obtain⟨_,s,q1,q2⟩:=Q0 eb;have bp:=Ji ho hd XM h0 p e;have bh:=Ji ho hd (hs s (List.mem_of_getElem? q1)) h0 h.1 q2;have ll:=zlO bp.2.2.1 bp.2.2.2 bh.2.2.1 bh.2.2.2 (by omega) S';have tt:∀bb,decide (p.1*h.1.2<h.1.1*p.2)=bb->pK (bW (eB (aZ .IsNot) (aj 4) (eC .non))) (iW (bW (eB (aZ .Is) (aj 2) (eC .non))) (gY (eN (aO 2 Gx) (ak (aj 4) (ak (eB aL (aj 2) (eC (.int 0))) au))))) [some (bF o d),some (.ref m),some (b7 (some h)),some (.int (j:Nat)),some (tD (some p))] S'=some (bb,S'):=λbb hbb=>by rw[hbb] at ll;exact tO (b:=true) (eG (bI (aC rfl) bC pP)) (gm rfl (pN (b:=false) (eG (bI (aC rfl) bC pM)) (eH rfl (tQ (bH (aM (aC rfl) (aM (bI (aC rfl) bC (iZ (z:=rD h.1) rfl)) bA)) (cV rfl ll)) rfl))))
     rw[zps eb];cases hb:decide (p.1*h.1.2<h.1.1*p.2) with
     |true=>rw[if_pos rfl];exact eF (tt true hb) (gm rfl (set _))
     |false=>rw[if_neg (by simp)];exact eF (tt false hb) (eH rfl dR)
  have b3:GK [some (bF o d),some (.ref m),some (b7 (jT o d shs j)),some (.int (j:Nat)),b] S'=some (.nx,[some (bF o d),some (.ref m),some (b7 (jT o d shs (j+1))),some (.int (j:Nat)),some (tD (gF o d shs[j]))],S'):=by unfold GK;exact aH b1 (aV (aH b2 (aV dR)))
  exact⟨_,_,.nx,_,_,di rfl,b3,.inl rfl,_,_,rfl,rfl⟩
end
noncomputable abbrev dZ(o:Pt):D := .tup [pD o,P3 0 0 0]
theorem Tp:bW (eB (aZ .Eq) (eB aL (aj 0) (eC (.int 1))) (eN cB (ak (eC (.int 0)) (ak (eC (.int 0)) (ak (eC (.int 0)) au))))) [some (dZ o)] S=some (true,S):=by refine eG (bI (bI (aC rfl) bC (iZ rfl)) (bH (aM bC (aM bC (aM bC bA))) (lC (uU rfl))) ?_);exact(vy (x:=P3 0 0 0) (y:=P3 0 0 0) rfl 8 rfl rfl (by decide)).trans (by rw[jY rfl])
theorem znQ:t6 [dZ o] S=none:=by
 have e:Bm (iC 1 [dZ o]) S=none:=by show Bm [some (dZ o)] S=none;unfold Bm aA cW;rw[Tp];rfl
 unfold t6 fnOf;rw[e]
theorem znP:Bh [dZ o] S=some ("NoRay" : Str):=by
 have e:Bk (iC 1 [dZ o]) S=some (("NoRay" : Str),S):=by show Bk [some (dZ o)] S=_;unfold Bk ud;rw[Tp];rfl
 unfold Bh m6;rw[e];simp only;rw[if_pos kJ]
theorem V8:vL [.ref c,dZ o] S=none/\G6 [.ref c,dZ o] S=some ("NoRay" : Str):=by
 constructor
 .have e:yQ (iC 5 [.ref c,dZ o]) S=none:=by show yQ [some (.ref c),some (dZ o),none,none,none] S=none;have e2:eN (aO 1 t6) (ak (aj 1) au) [some (.ref c),some (dZ o),none,none,none] S=none:=bH (aM (aC rfl) bA) (cV rfl znQ);unfold yQ GZ aA lB;rw[e2];rfl
  unfold vL fnOf;rw[e]
 .have e:Az (iC 5 [.ref c,dZ o]) S=some (("NoRay" : Str),S):=by show Az [some (.ref c),some (dZ o),none,none,none] S=_;have ea:ak (aj 1) au [some (.ref c),some (dZ o),none,none,none] S=some ([dZ o],S):=aM (aC rfl) bA;unfold Az vg;rw[ea];simp only[bQ];rw[if_pos (show[dZ o].length=1 from rfl),znP];rfl
  unfold G6 m6;rw[e];simp only;rw[if_pos kJ]
theorem zhC{t:Option Tr}(sc:jn S c shs t):vJ [.ref c,dZ o] S=none/\Ba [.ref c,dZ o] S=some ("NoRay" : Str):=by
 have s1:bG (eC .non) (aK 2) [some (.ref c),some (dZ o),none,none] S=some (.nx,[some (.ref c),some (dZ o),some .non,none],S):=dI bC (di rfl);constructor
 .have e:yU (iC 4 [.ref c,dZ o]) S=none:=by show yU [some (.ref c),some (dZ o),none,none] S=none;have e2:jy "Scene" "hits" 2 vL (aj 0) (ak (aj 1) au) [some (.ref c),some (dZ o),some .non,none] S=none:=Aa (aC rfl) sc.ins rfl (aM (aC rfl) bA) rfl V8.1;unfold yU GD;refine aH s1 (aV ?_);unfold GJ aA lR fO;rw[e2];rfl
  unfold vJ fnOf;rw[e]
 .have e:Bb (iC 4 [.ref c,dZ o]) S=some (("NoRay" : Str),S):=by show Bb [some (.ref c),some (dZ o),none,none] S=_;have ea:ak (aj 1) au [some (.ref c),some (dZ o),some .non,none] S=some ([dZ o],S):=aM (aC rfl) bA;have ev:aj 0 [some (.ref c),some (dZ o),some .non,none] S=some (.ref c,S):=aC rfl;unfold Bb uZ qQ;simp only;rw[s1];simp only;unfold sG;rw[ev];simp only[bQ];rw[sc.ins];simp only;rw[if_pos ⟨trivial,rfl⟩,ea];simp only[bQ];rw[if_pos (show[dZ o].length+1=2 from rfl),V8.2];rfl
  unfold Ba m6;rw[e];simp only;rw[if_pos kJ]
theorem zpj{src:List Nat}{fb:EF}{xb:XF}{iJ:Nat->D}{S':So}{dz:List D}{y:Str}{d:D}(h1:u5 src σ=some dz)(h2:fb (dz.map some) S=none)(h3:xb (dz.map some) S=some (y,S'))(h4:Eo iJ y=some d):xW src fb xb iJ σ S=some (d,S'):=by unfold xW;rw[h1];simp only[bQ];rw[h2];simp only;rw[h3];simp only[bQ];rw[h4];rfl
end MX.P
end
end
section
local macro_rules | `(tactic| wtm_at "?d") => `(tactic| (with_reducible assumption))
namespace MX.K16
open PySem PySem.Spec L2 MX MX.P
def TJ(r:Option fH):eO 2 (b7 r)=true:=by cases r<;>rfl
def Rm(s:Sh):eO 2 (bR s)=true:=by cases s<;>(simp only[bR,eO,kO,List.all_nil];decide +kernel)
noncomputable abbrev loc(k m n r du to:Option D)(c st:Option D):Sg:=[some (.ref 0),k,m,n,r,du,to,c,st]
noncomputable abbrev lq(j:Int)(m c:Nat)(r du to:Option D):Sg:=loc (some (.int j)) (some (.ref m)) (some (.ref (m+1))) r du to (some (.ref c)) none
theorem zmr:∀ns:List Int,ns.length<=63->∃σ' gM,Vw (iC 9 [.ref 0]) (.frz (ns.map D.int)::(["tree_over", "law"]:List Str).map O.tbl)=some (.rt (.bl true),σ',gM):=by
 classical
 intro ns hn;have F0:lM ns (.frz (ns.map D.int)::(["tree_over", "law"]:List Str).map O.tbl):=rfl;have T0:kW "tree_over" (.frz (ns.map D.int)::(["tree_over", "law"]:List Str).map O.tbl)=true:=by unfold kW;simp[O.isT]
 have W0:WF (.frz (ns.map D.int)::(["tree_over", "law"]:List Str).map O.tbl):=by
  intro o ho;rcases List.mem_cons.mp ho with rfl|ho
  .show cI _ _=true;rw[lF];intro x hx;obtain⟨z,_,rfl⟩:=List.mem_map.mp hx;simp[D.lo]
  .obtain⟨y,_,rfl⟩:=List.mem_map.mp ho;rfl
 generalize hS0:(.frz (ns.map D.int)::(["tree_over", "law"]:List Str).map O.tbl:So)=S0 at *
 have st0:iC 9 [.ref 0]=loc none none none none none none none none:=rfl;rw[st0];obtain⟨shs,hl,hk,lc⟩:=zkF hn;have e1:=lc (loc none none none none none none none none) S0 F0 rfl rfl;have W1:WF (S0++[.lst (shs.map bR)]):=W0.snoc (Fg _ _);have e2:eN nU (ak (aj 2) au) (loc none (some (.ref S0.length)) none none none none none none) (S0++[.lst (shs.map bR)])=some (.ref (S0.length+1),S0++[.lst (shs.map bR)]++[.lst (shs.map bR)]):=by have:=Kg (S:=S0++[O.lst (shs.map bR)]) cM;rw[jQ] at this;exact bH (aM (aC rfl) bA) this
 have W1':WF (S0++[.lst (shs.map bR)]++[.lst (shs.map bR)]):=W1.snoc (Fg _ _);have hk':∀s∈shs,lg 101 s:=λs hs=>⟨λp hp=>((hk s hs).bd p hp).le (by omega),(hk s hs).2⟩
 obtain⟨t,G,ok,mk,W2,sc⟩:=zml (K:=101) (S:=S0++[.lst (shs.map bR)]++[.lst (shs.map bR)]) (S0:=S0++[.lst (shs.map bR)]++[.lst (shs.map bR)]) (σ:=loc none (some (.ref S0.length)) (some (.ref (S0.length+1))) none none none none none) (fa:=ak (aj 2) au) W1' (by rw[gH];exact yF T0) (fK cM) (by omega) hk' (aM (aC rfl) bA);have sh2:(S0++[O.lst (shs.map bR)]++[O.lst (shs.map bR)]++G)[S0.length]?=some (.lst (shs.map bR)):=by rw[mR (by simp)];exact fK cM
 have XD:(S0++[O.lst (shs.map bR)]++[O.lst (shs.map bR)]++G)[S0.length+1]?=some (.lst (shs.map bR)):=by rw[mR (by simp),show S0.length+1=(S0++[O.lst (shs.map bR)]).length by simp];exact cM
 have F2:lM ns (S0++[O.lst (shs.map bR)]++[O.lst (shs.map bR)]++G):=((F0.app _).app _).app _;generalize hc:(S0++[O.lst (shs.map bR)]++[O.lst (shs.map bR)]).length=c at *
 generalize hm:S0.length=m at *
 generalize hS2:S0++[O.lst (shs.map bR)]++[O.lst (shs.map bR)]++G=S2 at *
 have sz:=znX sc;have ln:=nq XD;rw[cZ] at ln;have wh:=UL (shs.length:Int) S2;have e4:Lx (loc none (some (.ref m)) (some (.ref (m+1))) none none none (some (.ref c)) none) S2=some (.nx,loc none (some (.ref m)) (some (.ref (m+1))) none none none (some (.ref c)) none,S2):=by unfold Lx;have zz:jy "Scene" "size" 1 Bf (aj 7) au (loc none (some (.ref m)) (some (.ref (m+1))) none none none (some (.ref c)) none) S2=some (.int (shs.length:Nat),S2):=Aa (aC rfl) sc.ins rfl bA rfl sz;refine eF (b:=false) (pN (b:=false) (eG ?_) (eH rfl (Ac (b:=true) (tQ (bH (aM zz bA) (cV rfl wh)) rfl)))) (eH rfl dR);have:=bI zz (bH (aM (aC (σ:=loc none (some (.ref m)) (some (.ref (m+1))) none none none (some (.ref c)) none) (i:=3) rfl) bA) ln) (QR (i:=(shs.length:Int)) (j:=(shs.length:Int)));rw[this,jY rfl];rfl
 have W3:WF (S2++[.lst [.int 40,.int 41,.int 40]]):=W2.snoc rfl;have BX:=sc.app [.lst [.int 40,.int 41,.int 40]];have F3:=F2.app [.lst [.int 40,.int 41,.int 40]];have Hl:(S2++[O.lst [.int 40,.int 41,.int 40]])[m+1]?=some (.lst (shs.map bR)):=fK XD;have sh3:(S2++[O.lst [.int 40,.int 41,.int 40]])[m]?=some (.lst (shs.map bR)):=fK sh2;have Ph:(S2++[O.lst [.int 40,.int 41,.int 40]])[S2.length]?=some (.lst [.int 40,.int 41,.int 40]):=cM;generalize zu:S2++[O.lst [.int 40,.int 41,.int 40]]=S3 at *
 have turn:∀(j:Int) (k r du to:Option D),∃r' X6 Xj,Gz (lq j m c r du to) S3=some (.nx,lq j m c r' X6 Xj,S3):=λj k r du to=>by
  obtain⟨o,d,bo,bd,h0,er⟩:=ZW hn j;have X7:aN 101 o:=bo.le (by omega);have X8:aN 101 d:=bd.le (by omega);have du1:=ZV X7 X8 h0 (by omega) hk' (by omega) W3 Hl;have fr1:=ziV X7 X8 h0 (by omega) ok S3 c W3 BX;refine⟨some (bF o d),some (b7 (jK o d shs)),some (b7 (jK o d shs)),?_⟩;have s1:MN (lq j m c r du to) S3=some (.nx,lq j m c (some (bF o d)) du to,S3):=by unfold MN;exact dI (bH (aM (aC rfl) (aM (aC rfl) bA)) (cV rfl (er S3 F3))) (di rfl)
  have s2:MP (lq j m c (some (bF o d)) du to) S3=some (.nx,lq j m c (some (bF o d)) (some (b7 (jK o d shs))) to,S3):=by unfold MP;exact dI (bH (aM (aC rfl) (aM (aC rfl) bA)) (cV rfl du1)) (di rfl)
  have s3:MT (lq j m c (some (bF o d)) (some (b7 (jK o d shs))) to) S3=some (.nx,lq j m c (some (bF o d)) (some (b7 (jK o d shs))) (some (b7 (jK o d shs))),S3):=by unfold MT;exact dI (Aa (aC rfl) BX.ins rfl (aM (aC rfl) bA) rfl fr1) (di rfl)
  have key:∀x,jK o d shs=x->aA GR (aA yV (aA zf aJ)) (lq j m c (some (bF o d)) (some (b7 x)) (some (b7 x))) S3=some (.nx,lq j m c (some (bF o d)) (some (b7 x)) (some (b7 x)),S3):=λx hx=>by
   have s4:GR (lq j m c (some (bF o d)) (some (b7 x)) (some (b7 x))) S3=some (.nx,lq j m c (some (bF o d)) (some (b7 x)) (some (b7 x)),S3):=by unfold GR;refine eF (b:=false) (eG ?_) (eH rfl dR);have:=bI (aC (σ:=lq j m c (some (bF o d)) (some (b7 x)) (some (b7 x))) (S:=S3) (i:=6) rfl) (aC (i:=5) rfl) (Rb (x:=b7 x) (y:=b7 x) (by cases x<;>rfl) 2 (TJ x) (TJ x) (by decide));rw[this,jY rfl];rfl
   cases x with
   |none =>
    have s5:yV (lq j m c (some (bF o d)) (some (b7 none)) (some (b7 none))) S3=some (.nx,lq j m c (some (bF o d)) (some (b7 none)) (some (b7 none)),S3):=by unfold yV;exact eF (b:=false) (tO (b:=false) (eG (bI (aC rfl) bC pP)) (eH rfl rfl)) (eH rfl dR)
    have s6:zf (lq j m c (some (bF o d)) (some (b7 none)) (some (b7 none))) S3=some (.nx,lq j m c (some (bF o d)) (some (b7 none)) (some (b7 none)),S3):=by unfold zf;exact eF (b:=false) (tO (b:=false) (eG (bI (aC rfl) bC pP)) (eH rfl rfl)) (eH rfl dR)
    exact aH s4 (aV (aH s5 (aV (aH s6 (aV dR)))))
   |some h =>
    have s5:yV (lq j m c (some (bF o d)) (some (b7 (some h))) (some (b7 (some h)))) S3=some (.nx,lq j m c (some (bF o d)) (some (b7 (some h))) (some (b7 (some h))),S3):=by unfold yV;exact eF (b:=false) (tO (b:=true) (eG (bI (aC rfl) bC pP)) (gm rfl (pN (b:=false) (Ac (b:=true) (tQ (bH (aM (aC rfl) (aM bC bA)) ev_isi_tup) rfl)) (eH rfl (Ac (b:=true) (tQ (bH (aM (bI (aC rfl) bC (iZ (z:=rD h.1) rfl)) (aM bC bA)) ev_isi_tup) rfl)))))) (eH rfl dR)
    have s6:zf (lq j m c (some (bF o d)) (some (b7 (some h))) (some (b7 (some h)))) S3=some (.nx,lq j m c (some (bF o d)) (some (b7 (some h))) (some (b7 (some h))),S3):=by unfold zf;exact eF (b:=false) (tO (b:=true) (eG (bI (aC rfl) bC pP)) (gm rfl (Ac (b:=true) (tQ (bH (aM (bI (aC rfl) bC (iZ (z:=aY h.2) rfl)) bA) (cV rfl (UL (h.2:Int) S3))) rfl)))) (eH rfl dR)
    exact aH s4 (aV (aH s5 (aV (aH s6 (aV dR)))))
  unfold Gz;exact aH s1 (aV (aH s2 (aV (aH s3 (aV (key _ rfl))))))
 have inv:=Ah (nx:=dj (.lst S2.length)) (g:=aK 1) (f:=Gz) (xs:=[.int 40,.int 41,.int 40])
  (λj σ S'=>∃k r du to,σ=loc k (some (.ref m)) (some (.ref (m+1))) r du to (some (.ref c)) none/\S'=S3)
  (λj σ S' ⟨_,_,_,_,_,e⟩=>by subst e;unfold dj;simp only;rw[Ph])
  (λj dd σ S' hj ⟨k,r,du,to,e1,e2⟩=>?_) 3 0 (loc none (some (.ref m)) (some (.ref (m+1))) none none none (some (.ref c)) none) S3 ⟨none,none,none,none,rfl,rfl⟩ (by simp)
 .obtain⟨σ',S',e,k,r,du,to,rfl,rfl⟩:=inv;have c0:=pO hn 0 F3;have c2:=pO hn 2 F3;generalize iY ns 0=ce at c0;generalize iY ns 2=c2' at c2;have p1:=Jv (yJ c2') (by decide) ce S';have q1:=tW c2' S';generalize iD ce (fY c2')=o at p1;generalize fY c2'=u1 at p1 q1;have fs:=zhC (o:=o) BX;have eqs:=Q7 (S:=S') 2 (.inl sh3) (.inl Hl) (λx hx=>by obtain⟨s,_,rfl⟩:=List.mem_map.mp hx;exact Rm s) (λx hx=>by obtain⟨s,_,rfl⟩:=List.mem_map.mp hx;exact Rm s) (by decide);rw[jY rfl] at eqs;have ev0:aj 0 [some (.ref c),some (dZ o)] S'=some (.ref c,S'):=aC rfl;have ea:ak (aj 1) au [some (.ref c),some (dZ o)] S'=some ([dZ o],S'):=aM (aC rfl) bA;have xb:sG "Scene" "first" 2 Ba (aj 0) (ak (aj 1) au) [some (.ref c),some (dZ o)] S'=some (("NoRay" : Str),S'):=by unfold sG;rw[ev0];simp only[bQ];rw[BX.ins];simp only;rw[if_pos ⟨trivial,rfl⟩,ea];simp only[bQ];rw[if_pos (show[dZ o].length+1=2 from rfl),fs.2];rfl
  have told:=zpj (σ:=loc k (some (.ref m)) (some (.ref (m+1))) r du to (some (.ref c)) (some (dZ o))) (src:=[7,8]) (dz:=[.ref c,dZ o]) (iJ:=qU "refused") (fb:=jy "Scene" "first" 2 vJ (aj 0) (ak (aj 1) au)) (S:=S') rfl (Aa (aC rfl) BX.ins rfl (aM (aC rfl) bA) rfl fs.1) xb (d := .tup [.str "refused",.str "NoRay"]) rfl;apply Exists.intro;apply Exists.intro;refine aH (dI e1 (di rfl)) (aV (aH (dI e2 (di rfl)) (aV (aH (dI mk (di rfl)) (aV (aH e4 (aV ?_)))))));refine aH (fl := .nx) (zdt (n:=3) (qL (bH (aM bC (aM bC (aM bC bA))) (by rw[<-zu];exact yq (by show 3<=sizeLine;decide))) Ph) (by show(match S'[S2.length]? with|some (.lst xs)=>some xs.length|some (.frz xs)=>some xs.length|_=>none)=_;rw[Ph];rfl) e) (aV ?_);refine aH (dI (bH (aM (bH (aM (bH (aM (bH (aM (aC rfl) (aM bC bA)) (cV rfl c2)) bA) (cV rfl q1)) (aM (bH (aM (aC rfl) (aM bC bA)) (cV rfl c0)) bA)) (cV rfl p1)) (aM (bH (aM bC (aM bC (aM bC bA))) (lC (by show 3<=sizeLine;decide))) bA)) (lC (by show 2<=sizeLine;decide))) (di rfl)) (aV ?_);have fin:=bI told (bH (aM (bC (d := .str "refused")) (aM (bC (d := .str "NoRay")) bA)) (lC (by show 2<=sizeLine;decide))) (vy (x := .tup [.str "refused",.str "NoRay"]) (y := .tup [.str "refused",.str "NoRay"]) (S:=S') rfl 2 (by decide +kernel) (by decide +kernel) (by decide));rw[jY rfl] at fin;exact aH (fZ (JZ (b:=true) (bI (aC rfl) (aC rfl) eqs) (gm rfl fin))) d7
 .subst e1 e2;obtain⟨z,hz⟩:∃z:Int,dd = .int z:=by
   have hm:=List.mem_of_getElem? hj;simp only[List.mem_cons,qi,or_false] at hm;rcases hm with rfl|rfl|rfl
   .exact⟨40,rfl⟩
   .exact⟨41,rfl⟩
   .exact⟨40,rfl⟩
  subst hz;obtain⟨r',X6,Xj,e⟩:=turn z k r du to;exact⟨_,_,.nx,_,_,di rfl,e,.inl rfl,_,_,_,_,rfl,rfl⟩
end MX.K16
end
section
local macro_rules | `(tactic| wtm_at "sc") => `(tactic| exact ⟨rfl, rfl, rfl, by decide +kernel, by kernel_rfl, by decide +kernel, by decide +kernel⟩)
local macro_rules | `(tactic| wtm_at "nf") => `(tactic| exact ⟨by first | exact MX.zus λ_ _ _ _ _ _ _ => rfl | exact MX.bind2 λ_ _ _ _ _ _ _ _ => rfl | exact MX.bind3 λ_ _ _ _ _ _ _ _ _ => rfl | exact MX.bind4 λ_ _ _ _ _ _ _ _ _ _ => rfl, by wtm_at "sc", by decide +kernel, by kernel_rfl, by kernel_rfl⟩)
namespace MX.K16
open PySem PySem.Spec PySem.W PyProof.Rows L2 MX MX.P
noncomputable abbrev LF:=List (Str×Nat×GN)
noncomputable abbrev F0:LF:=[]
noncomputable abbrev E0:CE:={ flds:=[("kept", "Scene"),("tree", "Scene"),("box", "Tree"),("number", "Tree"),("halves", "Tree")],gls:=[] }
section
variable {w:World}{K:FgA}{mg:Str->Option Value}{base h:Heap}{k n:Nat}{x:Str}{F:LF}{E:CE}{fb:SF}
noncomputable abbrev AA(w:World)(K:FgA)(mg:Str->Option Value)(base:Heap)(k:Nat)(F:LF)(E:CE):Prop:=bL PG w K mg base k F/\dY PG w K mg base k E
theorem nf(st:Stmt)(ps:List Str)(a:AA w K mg base k F E)(b:K.In h/\h.Ns mainGlobals mg/\∀y∈blt,mg y=none)(hD:cY K x st)(p:lV x st ps/\jA (fC (bf st).names) ps (bf st)/\(bf st).names.all (λy=>decide ((bf st).names.lookup y.1=some y.2))=true/\(fC (bf st).names).length=n/\ju 40 (kY st F blt E) (gk st)=some fb):AA w K mg base (k+1) ((x,ps.length,fnOf n fb)::F) E :=
 ⟨zmE a.1 a.2 b.1 b.2.1 b.2.2 hD p.1 p.2.1 p.2.2.1 p.2.2.2.1 p.2.2.2.2,a.2.mono (Nat.le_succ k)⟩
theorem nt{c:Addr}(a:AA w K mg base k F E)(b:K.In h/\h.Ns mainGlobals mg/\∀y∈blt,mg y=none)(hD:sW K "tree_over" (top 39) c)(hC:CodeHd base c (gZ K "tree_over"))(hB:BM base mg)(hb:ju 40 (wA 40 (top 39) F blt E "leaf") (gk (top 39))=some fb:=by kernel_rfl):AA w K mg base (k+4) (("tree_over",1,sY "tree_over" 5 fb)::F) E :=
 ⟨zmD (ps:=["leaves"]) a.1 a.2 b.1 b.2.1 b.2.2 hD hC hB (zus λ_ _ _ _ _ _ _=>rfl) (by exact⟨rfl,rfl,rfl,by decide +kernel,by kernel_rfl,by decide +kernel,by decide +kernel⟩) (by decide +kernel) (λ_ _ _ _ _ _ _ _ _=>rfl) (by kernel_rfl) hb,a.2.mono (Nat.le_add_right k 4)⟩
end
noncomputable abbrev X0:List (Str×Nat×XN):=[]
noncomputable abbrev Y0:List (Str×Str×Nat×XN):=[]
noncomputable abbrev F1:LF:=("_law_drawn",2,yN)::F0
noncomputable abbrev F2:LF:=("_law_cell",2,nF)::F1
noncomputable abbrev F3:LF:=("_law_many",1,Ao)::F2
noncomputable abbrev F4:LF:=("_law_spot",1,qO)::F3
noncomputable abbrev F5:LF:=("_law_plain",2,Lp)::F4
noncomputable abbrev F6:LF:=("_law_put",2,yR)::F5
noncomputable abbrev F7:LF:=("_law_shape",2,vD)::F6
noncomputable abbrev E1:CE:={ E0 with mks:=("Tree",4,yZ)::E0.mks }
noncomputable abbrev F8:LF:=("numbers_at",2,Gv)::F7
noncomputable abbrev F9:LF:=("box_around",1,yO)::F8
noncomputable abbrev F10:LF:=("widest_place",1,Nf)::F9
noncomputable abbrev F11:LF:=("tree_over",1,λ_ _=>none)::F10
noncomputable abbrev F12:LF:=("tree_over",1,jh 1)::F11
noncomputable abbrev F13:LF:=("tree_over",1,jh 2)::F12
noncomputable abbrev F14:LF:=("tree_over",1,jh 3)::F13
noncomputable abbrev F15:LF:=("tree_over",1,jh 4)::F14
noncomputable abbrev F16:LF:=("tree_over",1,jh 5)::F15
noncomputable abbrev F17:LF:=("tree_over",1,jh 6)::F16
noncomputable abbrev F18:LF:=("tree_about",1,Gw)::F17
noncomputable abbrev F19:LF:=("are_in_order",2,Nb)::F18
noncomputable abbrev F20:LF:=("is_shape",1,vH)::F19
noncomputable abbrev F21:LF:=("refuse_no_shape",1,Bo)::F20
noncomputable abbrev F22:LF:=("bounds",1,vC)::F21
noncomputable abbrev E2:CE:={ E1 with mks:=("Scene",2,GQ)::E1.mks }
noncomputable abbrev E3:CE:={ E2 with mths:=("size", "Scene",1,Bf)::E2.mths }
noncomputable abbrev F23:LF:=("_law_whole",1,Gu)::F22
noncomputable abbrev F24:LF:=("_law_ray",2,MF)::F23
noncomputable abbrev X1:List (Str×Nat×XN):=("refuse_standing",1,Bh)::X0
noncomputable abbrev F25:LF:=("refuse_standing",1,t6)::F24
noncomputable abbrev F26:LF:=("times_between",4,Mx)::F25
noncomputable abbrev F27:LF:=("is_less",2,tY)::F26
noncomputable abbrev F28:LF:=("span_in",2,vB)::F27
noncomputable abbrev F29:LF:=("common_divisor",2,GP)::F28
noncomputable abbrev F30:LF:=("lowest_terms",1,t8)::F29
noncomputable abbrev F31:LF:=("meets_box",2,LQ)::F30
noncomputable abbrev F32:LF:=("cross",2,ji)::F31
noncomputable abbrev F33:LF:=("way_between",2,eE)::F32
noncomputable abbrev F34:LF:=("edges_of",1,vG)::F33
noncomputable abbrev F35:LF:=("dot",2,fP)::F34
noncomputable abbrev F36:LF:=("meets_along",3,MJ)::F35
noncomputable abbrev F37:LF:=("meets_segment",3,Mw)::F36
noncomputable abbrev F38:LF:=("meets_edges",2,yS)::F37
noncomputable abbrev F39:LF:=("goes_through",3,pU)::F38
noncomputable abbrev F40:LF:=("meets_within_plane",3,zc)::F39
noncomputable abbrev F41:LF:=("meets_triangle",2,nu)::F40
noncomputable abbrev F42:LF:=("time_at",2,yK)::F41
noncomputable abbrev F43:LF:=("meets",2,J9)::F42
noncomputable abbrev F44:LF:=("_law_less",2,Gx)::F43
noncomputable abbrev F45:LF:=("_law_due",2,Mz)::F44
noncomputable abbrev F46:LF:=("numbers_along",2,G4)::F45
noncomputable abbrev E4:CE:={ E3 with mths:=("hits", "Scene",2,vL)::E3.mths }
noncomputable abbrev Y1:List (Str×Str×Nat×XN):=("hits", "Scene",2,G6)::Y0
noncomputable abbrev F47:LF:=("is_sooner",2,Gy)::F46
noncomputable abbrev E5:CE:={ E4 with mths:=("first", "Scene",2,vJ)::E4.mths }
noncomputable abbrev Y2:List (Str×Str×Nat×XN):=("first", "Scene",2,Ba)::Y1
theorem call:WalkO seen loose (λ_ _=>True) (zs6 xb ms defs blt ts).says PySem.Challenge.rw_firsthit_k16_whole_first_of_a_scene.row.toRowW lawRec [] λf vs=>PySem.call f vs:=by
 refine ziM (k:=74) (x := "_law_script") rfl rfl ⟨rfl,by decide,by decide⟩ ?F
 case F =>
  intro w mg fa h K KX G hmg hD hB0 hM hX hT;have H:∀i (h:i<defs.length),cY K (defs[i]).1 (defs[i]).2:=λi h=>hD _ (List.getElem_mem h);have M:∀i (h:i<ms.length),gb K (ms[i]).1 (ms[i]).2.1 (ms[i]).2.2:=λi h=>hM _ (List.getElem_mem h);have hb:=zmW KX G hB0;unfold xb at hX;simp only[cL] at hX;obtain⟨⟨⟨ig,cN⟩,Bp⟩,NZ⟩:=hX;obtain⟨T,O,hcl⟩:=Yn KX G Bp;have hcl:∀y∈(["NotClosed", "NoRay", "NoShape", "BadRow"]:List Str),∃C,sH K mg y C:=λy hy=>by
   simp only[List.mem_cons,qi,or_false] at hy;rcases hy with rfl|rfl|rfl|rfl
   .exact hcl 2 (by decide)
   .exact hcl 0 (by decide)
   .exact hcl 1 (by decide)
   .exact hcl 3 (by decide)
  obtain⟨tf,tfd,m1,m2,m3,m4⟩:=znF (w:=w) T O KX G (H 40 (by decide)) (H 41 (by decide));obtain⟨c0,z0,hC0⟩:=hT ("tree_over",top 39) (by simp[ts]);obtain⟨c1,z1,hC1⟩:=hT ("law",top 59) (by simp[ts]);have hs:∀base:Heap,Mod K mg base->BM base mg->AA w K mg base 71 F47 E5/\c7 PG w K mg base 71 X1/\cR PG w K mg base 71 Y2:=λbase hMd hB=>by
   have z:=z0;have hC:=hC0 base hMd.kin;have e0:dY PG w K mg base 0 E0:=Zf KX G (λy hy=>by
    simp only[List.mem_cons,qi,or_false] at hy;rcases hy with rfl|rfl|rfl|rfl|rfl
    .exact⟨_,cN,by decide⟩
    .exact⟨_,cN,by decide⟩
    .exact⟨_,ig,by decide⟩
    .exact⟨_,ig,by decide⟩
    .exact⟨_,ig,by decide⟩) (λy hy=>by
    cases hy)
   have b:K.In h/\h.Ns mainGlobals mg/\∀y∈blt,mg y=none:=⟨KX,G,hb⟩
   have a:AA w K mg base 0 F0 E0:=⟨bL.nil,e0⟩
   have x:c7 PG w K mg base 0 X0:=c7.nil;have m:cR PG w K mg base 0 Y0:=cR.nil;have a:AA w K mg base 1 F1 E0:=nf (top 47) ["_law_cell_here", "_law_k"] a b (H 0 (by decide)) (by wtm_at "nf");have a:AA w K mg base 2 F2 E0:=nf (top 46) ["_law_script", "_law_k"] a b (H 1 (by decide)) (by wtm_at "nf");have a:AA w K mg base 3 F3 E0:=nf (top 54) ["_law_script"] a b (H 2 (by decide)) (by wtm_at "nf");have a:AA w K mg base 4 F4 E0:=nf (top 50) ["_law_more"] a b (H 3 (by decide)) (by wtm_at "nf");have a:AA w K mg base 5 F5 E0:=nf (top 52) ["_law_script", "_law_k"] a b (H 4 (by decide)) (by wtm_at "nf");have a:AA w K mg base 6 F6 E0:=nf (top 51) ["_law_point", "_law_cell_here"] a b (H 5 (by decide)) (by wtm_at "nf");have a:AA w K mg base 7 F7 E0:=nf (top 53) ["_law_script", "_law_k"] a b (H 6 (by decide)) (by wtm_at "nf");have a:AA w K mg base 9 F7 E1:=⟨a.1.mono (by decide),Ug (C := "Tree") (st:=nH 37 0) (ps:=["self", "box", "number", "halves"]) (n:=4) (fb:=NQ) (m:=40) a.1 a.2 hb (RL KX G ig) (QK (M 0 (by decide)) ig (by decide)) (λ_ _ _ _ _ _ us hl=>match us,hl with|[_,_,_,_],_=>rfl) (by wtm_at "sc") (by decide +kernel) (by kernel_rfl) (by kernel_rfl)⟩
   have a:AA w K mg base 10 F8 E1:=nf (top 15) ["points", "place"] a b (H 7 (by decide)) (by wtm_at "nf");have a:AA w K mg base 11 F9 E1:=nf (top 16) ["points"] a b (H 8 (by decide)) (by wtm_at "nf");have a:AA w K mg base 12 F10 E1:=nf (top 38) ["box"] a b (H 9 (by decide)) (by wtm_at "nf");have a:AA w K mg base 12 F11 E1:=⟨zmC (ps:=["leaves"]) a.1 KX G (let ⟨f,fd,a,F,_⟩:=z;⟨f,fd,a,F⟩) (zus λ_ _ _ _ _ _ _=>rfl),a.2⟩
   have a:AA w K mg base 16 F12 E1:=nt (fb:=nA (jh 0)) a b z hC hB;have a:AA w K mg base 20 F13 E1:=nt (fb:=nA (jh 1)) a b z hC hB;have a:AA w K mg base 24 F14 E1:=nt (fb:=nA (jh 2)) a b z hC hB;have a:AA w K mg base 28 F15 E1:=nt (fb:=nA (jh 3)) a b z hC hB;have a:AA w K mg base 32 F16 E1:=nt (fb:=nA (jh 4)) a b z hC hB;have a:AA w K mg base 36 F17 E1:=nt (fb:=nA (jh 5)) a b z hC hB;have a:AA w K mg base 37 F18 E1:=nf (top 40) ["boxes"] a b (H 10 (by decide)) (by wtm_at "nf");have a:AA w K mg base 38 F19 E1:=nf (top 30) ["low", "high"] a b (H 11 (by decide)) (by wtm_at "nf");have a:AA w K mg base 39 F20 E1:=nf (top 31) ["shape"] a b (H 12 (by decide)) (by wtm_at "nf");have a:AA w K mg base 40 F21 E1:=nf (top 32) ["shape"] a b (H 13 (by decide)) (by wtm_at "nf");have a:AA w K mg base 41 F22 E1:=nf (top 35) ["shape"] a b (H 14 (by decide)) (by wtm_at "nf");have a:AA w K mg base 43 F22 E2:=⟨a.1.mono (by decide),Ug (C := "Scene") (st:=nH 44 0) (ps:=["self", "shapes"]) (n:=2) (fb:=Nq) (m:=40) a.1 a.2 hb (RL KX G cN) (QK (M 1 (by decide)) cN (by decide)) (λ_ _ _ _ _ _ us hl=>match us,hl with|[_,_],_=>rfl) (by wtm_at "sc") (by decide +kernel) (by kernel_rfl) (by kernel_rfl)⟩
   have a:AA w K mg base 44 F22 E3:=⟨a.1.mono (by decide),Ld (C := "Scene") (x := "size") (st:=nH 44 1) (ps:=["self"]) (n:=1) (fb:=Nh) (m:=40) a.1 a.2 (Ag cN) hb (M 2 (by decide)) (λ_ _ _ _ _ _ us hl=>match us,hl with|[_],_=>rfl) (by wtm_at "sc") (by decide +kernel) (by kernel_rfl) (by kernel_rfl)⟩
   have a:AA w K mg base 45 F23 E3:=nf (top 48) ["_law_thing"] a b (H 15 (by decide)) (by wtm_at "nf");have a:AA w K mg base 46 F24 E3:=nf (top 55) ["_law_script", "_law_k"] a b (H 16 (by decide)) (by wtm_at "nf");have x:c7 PG w K mg base 47 X1:=zkV (x := "refuse_standing") (st:=top 29) (ps:=["ray"]) (n:=1) (xb:=Bk) (m:=40) a.1 a.2 (x.mono (by decide)) (m.mono (by decide)) KX G hb hcl (H 17 (by decide)) (zus λ_ _ _ _ _ _ _=>rfl) (by wtm_at "sc") (by decide +kernel) (by kernel_rfl) (by kernel_rfl);have a:AA w K mg base 47 F25 E3:=nf (top 29) ["ray"] a b (H 17 (by decide)) (by wtm_at "nf");have a:AA w K mg base 48 F26 E3:=nf (top 17) ["start", "step", "low", "high"] a b (H 18 (by decide)) (by wtm_at "nf");have a:AA w K mg base 49 F27 E3:=nf (top 10) ["one", "other"] a b (H 19 (by decide)) (by wtm_at "nf");have a:AA w K mg base 50 F28 E3:=nf (top 18) ["ray", "box"] a b (H 20 (by decide)) (by wtm_at "nf");have a:AA w K mg base 51 F29 E3:=nf (top 8) ["one", "other"] a b (H 21 (by decide)) (by wtm_at "nf");have a:AA w K mg base 52 F30 E3:=nf (top 9) ["ratio"] a b (H 22 (by decide)) (by wtm_at "nf");have a:AA w K mg base 53 F31 E3:=nf (top 19) ["ray", "box"] a b (H 23 (by decide)) (by wtm_at "nf");have a:AA w K mg base 54 F32 E3:=nf (top 13) ["one", "other"] a b (H 24 (by decide)) (by wtm_at "nf");have a:AA w K mg base 55 F33 E3:=nf (top 11) ["one", "other"] a b (H 25 (by decide)) (by wtm_at "nf");have a:AA w K mg base 56 F34 E3:=nf (top 21) ["triangle"] a b (H 26 (by decide)) (by wtm_at "nf");have a:AA w K mg base 57 F35 E3:=nf (top 12) ["one", "other"] a b (H 27 (by decide)) (by wtm_at "nf");have a:AA w K mg base 58 F36 E3:=nf (top 22) ["ray", "one", "other"] a b (H 28 (by decide)) (by wtm_at "nf");have a:AA w K mg base 59 F37 E3:=nf (top 23) ["ray", "one", "other"] a b (H 29 (by decide)) (by wtm_at "nf");have a:AA w K mg base 60 F38 E3:=nf (top 24) ["ray", "triangle"] a b (H 30 (by decide)) (by wtm_at "nf");have a:AA w K mg base 61 F39 E3:=nf (top 25) ["start", "way", "triangle"] a b (H 31 (by decide)) (by wtm_at "nf");have a:AA w K mg base 62 F40 E3:=nf (top 26) ["ray", "triangle", "upright"] a b (H 32 (by decide)) (by wtm_at "nf");have a:AA w K mg base 63 F41 E3:=nf (top 27) ["ray", "triangle"] a b (H 33 (by decide)) (by wtm_at "nf");have a:AA w K mg base 64 F42 E3:=nf (top 33) ["ray", "shape"] a b (H 34 (by decide)) (by wtm_at "nf");have a:AA w K mg base 65 F43 E3:=nf (top 34) ["ray", "shape"] a b (H 35 (by decide)) (by wtm_at "nf");have a:AA w K mg base 66 F44 E3:=nf (top 49) ["_law_one", "_law_other"] a b (H 36 (by decide)) (by wtm_at "nf");have a:AA w K mg base 67 F45 E3:=nf (top 58) ["_law_ray_here", "_law_shapes"] a b (H 37 (by decide)) (by wtm_at "nf");have a:AA w K mg base 68 F46 E3:=nf (top 41) ["tree", "ray"] a b (H 38 (by decide)) (by wtm_at "nf");have m:cR PG w K mg base 69 Y1:=Wb (C := "Scene") (x := "hits") (st:=nH 44 6) (ps:=["self", "ray"]) (n:=5) (xb:=Az) (m:=40) a.1 a.2 (x.mono (by decide)) (m.mono (by decide)) (Ag cN) hb hcl (M 3 (by decide)) (λ_ _ _ _ _ _ us hl=>match us,hl with|[_,_],_=>rfl) (by wtm_at "sc") (by decide +kernel) (by kernel_rfl) (by kernel_rfl);have a:AA w K mg base 69 F46 E4:=⟨a.1.mono (by decide),Ld (C := "Scene") (x := "hits") (st:=nH 44 6) (ps:=["self", "ray"]) (n:=5) (fb:=yQ) (m:=40) a.1 a.2 (Ag cN) hb (M 3 (by decide)) (λ_ _ _ _ _ _ us hl=>match us,hl with|[_,_],_=>rfl) (by wtm_at "sc") (by decide +kernel) (by kernel_rfl) (by kernel_rfl)⟩
   have a:AA w K mg base 70 F47 E4:=nf (top 43) ["one", "other"] a b (H 39 (by decide)) (by wtm_at "nf");have m:cR PG w K mg base 71 Y2:=Wb (C := "Scene") (x := "first") (st:=nH 44 7) (ps:=["self", "ray"]) (n:=4) (xb:=Bb) (m:=40) a.1 a.2 (x.mono (by decide)) (m.mono (by decide)) (Ag cN) hb hcl (M 4 (by decide)) (λ_ _ _ _ _ _ us hl=>match us,hl with|[_,_],_=>rfl) (by wtm_at "sc") (by decide +kernel) (by kernel_rfl) (by kernel_rfl);have a:AA w K mg base 71 F47 E5:=⟨a.1.mono (by decide),Ld (C := "Scene") (x := "first") (st:=nH 44 7) (ps:=["self", "ray"]) (n:=4) (fb:=yU) (m:=40) a.1 a.2 (Ag cN) hb (M 4 (by decide)) (λ_ _ _ _ _ _ us hl=>match us,hl with|[_,_],_=>rfl) (by wtm_at "sc") (by decide +kernel) (by kernel_rfl) (by kernel_rfl)⟩
   exact⟨a,x.mono (by decide),m.mono (by decide)⟩
  refine zkJ (m:=40) (n:=9) (fb:=Vw) (fns:=F47) (E:=E5) (k:=71) (ys:=["tree_over", "law"]) (ext:=HW (kY (top 59) F47 blt E5) E5 X1 Y2 "_law_told" (qU "refused")) KX G hb hmg z1 hC1 (by decide) (of_decide_eq_true NZ) (show lV "law" (top 59) ["_law_script"] from zus λ_ _ _ _ _ _ _=>rfl) (by wtm_at "sc") (by decide +kernel) (by kernel_rfl) (by kernel_rfl) (λbase u v=>(hs base u v).1) (λX e1 e2 e3 e4 hN hnm L hr x es g p pos hx=>?_) zmr;refine ziQ (k:=71) (tS:=vR "refused" _) hN hnm (by rw[e4];exact hb) L hr (λbase=>by rw[e1,e2,e3,e4];intro u v;exact⟨(hs base u v).1.1,(hs base u v).1.2,(hs base u v).2⟩) (by rw[e4];exact T.name) (by rw[e4];exact m1) (by rw[e3];exact m2) (by rw[e3];exact m3) (λbase=>by rw[e1,e2,e3,e4];exact m4 base _ (by decide)) (λa e i H Q=>znH a e i H Q) hx
end MX.K16
theorem PySem.Challenge.cw_firsthit_k16_whole_first_of_a_scene_holds : PySem.Challenge.rw_firsthit_k16_whole_first_of_a_scene.Holds := by
 exact MX.zmz (H:=MX.zs6 MX.K16.xb MX.K16.ms MX.K16.defs MX.K16.blt MX.K16.ts) (q:=MX.K16.seen) (d:=MX.K16.lawRec) MX.K16.p1 (MX.left5 MX.K16.leftA MX.K16.leftB1 MX.K16.leftB2 MX.K16.leftC1 MX.K16.leftC2) MX.K16.p2 MX.K16.p3 MX.K16.p4 MX.K16.p5 MX.K16.p6 (by w_witness2) MX.K16.call
#print axioms PySem.Challenge.cw_firsthit_k16_whole_first_of_a_scene_holds
end
