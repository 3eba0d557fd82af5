import PyProof.Rows.All
import Wide.All
import OpenK.AllK
import Wide.FinOn
import PyProof.EqAt
import PyProof.EqKinds
import PyProof.TupleCall
import PyProof.DictRoadsH
import PyProof.DictItems
import KE.KIsAll
import KE.KMinKey
import KE.KSortTup
import PyProof.EnumFor
import PyProof.EnumMake
import PyProof.EnumStmt
import PyProof.Rows.SeqMore2
import PyProof.Rows.StrWeight2
import Open.Pieces
import PySem.Challenge.RW_firsthit_k26_whole_moved_and_turned
abbrev fO:=@List.getElem?_eq_some_iff
abbrev cM:=@List.mem_cons_of_mem
abbrev fL:=@List.mem_cons_self
abbrev dN:=@Nat.lt_of_lt_of_le
abbrev di:=@PySem.Heap.get?_push_of_some
abbrev gM:=@Bool.false_ne_true
abbrev xQ:=@Nat.le_of_ble_eq_true
abbrev iJ:=@PySem.mem_of_lookup
abbrev dh:=@Bool.and_eq_true
abbrev b8:=@Option.bind_some
abbrev cW:=@List.length_map
abbrev d7:=@List.size_toArray
abbrev lz:=@List.length_append
abbrev fB:=@List.append_assoc
abbrev iY:=@List.getElem?_map
abbrev oh:=@Int.fmod_nonneg_of_pos
abbrev tE:=@Int.fmod_lt_of_pos
abbrev gZ:=@Nat.lt_irrefl
abbrev mH:=@List.mem_append
abbrev jM:=@List.length_cons
abbrev uY:=@List.map_append
abbrev ou:=@List.getElem?_append_left
abbrev zp:=@List.getElem?_append_right
abbrev gO:=@PySem.Heap.get?_push_size
abbrev zm:=@Nat.lt_of_le_of_lt
abbrev aL:=@PySem.wpAny_bind
abbrev bO:=@PySem.wpAny_pure
abbrev kh:=@PySem.wpAny_mono
abbrev cJ:=@PySem.Heap.lt_size
abbrev bZ:=@Nat.le_refl
abbrev lO:=@List.all_cons
abbrev f9:=@List.getElem?_eq_getElem
abbrev zj:=@List.length_nil
abbrev xP:=@List.length_take
abbrev qG:=@Option.map_some
abbrev mG:=@Bool.or_eq_true
abbrev uR:=@Nat.le_of_lt
abbrev dJ:=@Nat.ne_of_lt
abbrev zf:=@PySem.Heap.get?_update_other
abbrev Dv:=@PySem.Heap.get?_update_self
abbrev xO:=@List.take_length
abbrev lN:=@List.mem_nil_iff
abbrev uQ:=@decide_eq_true_eq
abbrev jL:=@List.lookup_cons
abbrev jd:=@List.map_cons
abbrev uP:=@List.nil_append
abbrev j9:=@List.getElem?_eq_none
def aX{α β:Type _}{f:α→β}{x:Option α}{b:β}:x.map f=some b↔∃a,x=some a∧f a=b:=Option.map_eq_some_iff
def bC{α β:Type _}{f:α→Option β}{x:Option α}{b:β}:x.bind f=some b↔∃a,x=some a∧f a=some b:=Option.bind_eq_some_iff
noncomputable section
noncomputable abbrev FgA:=PySem.W.Frag
set_option compiler.extract_closed false
set_option Elab.async false
set_option linter.all false
set_option maxRecDepth 100000
set_option maxHeartbeats 0
section
namespace MX
open PySem PySem.Spec PySem.W PyProof.Rows
noncomputable def qP(a:Addr)(o:Obj):Bool:=match o.data with
 |.freed=>false
 |.dict _ _=>true
 |_=>match o.cls with
  |.none=>Nat.beq a 3
  |_=>true
noncomputable def qQ:List Obj->Addr->FgA
 |[],_=>[]
 |o::r,a=>bif qP a o then(a,o)::qQ r (Nat.succ a) else qQ r (Nat.succ a)
noncomputable def jf(h:Heap):FgA:=qQ h.objs.toList 0
noncomputable def zy(K:FgA)(x:Str):Option (Arguments×List Stmt×Scope×Bool):=match nsIn K mainGlobals x with
 |some (some (.ref f))=>match K.lookup f with
  |some ⟨_,_,.func ⟨n,q,ps,.stmts b,sc,g,[],.none,_,_,_,_,cd,_,bn⟩,_⟩=>some (ps,b,sc,n==x&&(q==x&&(Nat.beq g mainGlobals&&(Nat.beq bn builtinsNs&&(codeIn K cd x&&keepIn K (.ref f))))))
  |_=>none
 |_=>none
noncomputable def Eh(K:FgA)(h:Heap)(x:Str):Option Obj×Bool:=match nsIn K mainGlobals x with
 |some (some (.ref f))=>match K.lookup f with
  |some ⟨_,_,.func F,_⟩=>match F.code with
   |.ref c=>match K.lookup c with
    |some ⟨_,_,.fields vs,_⟩=>match(vs[11]?:Option Value) with
     |some (.ref P)=>(h.get? P,codeHdIn K c P&&(K.lookup P).isNone)
     |_=>(none,false)
    |_=>(none,false)
   |_=>(none,false)
  |_=>(none,false)
 |_=>(none,false)
noncomputable def dA(s:Stmt):Arguments:=match s with
 |.FunctionDef _ a _ _ _ _ _ _ _ _=>a
 |_=>{ posonlyargs:=[],args:=[],vararg:=none,kwonlyargs:=[],kw_defaults:=[],kwarg:=none,defaults:=[] }
noncomputable def dB(s:Stmt):List Stmt:=match s with
 |.FunctionDef _ _ b _ _ _ _ _ _ _=>b
 |_=>[]
noncomputable def dS(s:Stmt):Scope:=match s with
 |.FunctionDef _ _ _ _ _ _ c _ _ _=>c
 |_=>{ kind := .function,names:=[],isGenerator:=false,isCoroutine:=false }
noncomputable def wX(s:Stmt):Pos:=match s with
 |.FunctionDef _ _ _ _ _ _ _ _ _ p=>p
 |_=>⟨0,0,0,0⟩
noncomputable def O7(ds:List (Str×Stmt))(blt:List Str)(s:Shared):List (Option (Arguments×List Stmt×Scope×Bool))×List (Option (Option Value)):=(ds.map λy=>zy (jf s.heap) y.1,blt.map λy=>nsIn (jf s.heap) mainGlobals y)
noncomputable def tL(ds:List (Str×Stmt))(blt:List Str):List (Option (Arguments×List Stmt×Scope×Bool))×List (Option (Option Value)):=(ds.map λy=>some (dA y.2,dB y.2,dS y.2,true),blt.map λ_=>some none)
noncomputable def O6(ds:List (Str×Stmt))(blt:List Str)(x:Str)(s:Shared):(List (Option (Arguments×List Stmt×Scope×Bool))×List (Option (Option Value)))×Option (Arguments×List Stmt×Scope×Bool)×(Option Obj×Bool):=(O7 ds blt s,zy (jf s.heap) x,Eh (jf s.heap) s.heap x)
noncomputable def NZ(ds:List (Str×Stmt))(blt:List Str)(st:Stmt):(List (Option (Arguments×List Stmt×Scope×Bool))×List (Option (Option Value)))×Option (Arguments×List Stmt×Scope×Bool)×(Option Obj×Bool):=(tL ds blt,some (dA st,dB st,dS st,true),(some (tabObj #[]),true))
noncomputable abbrev t8:List Value:=[.type "ValueError",.type "Exception",.type "BaseException",.type "object"]
noncomputable def wn:Nat->Str
 |0 => "NoRay"
 |1 => "NoShape"
 |2 => "NotClosed"
 |_ => "BadRow"
noncomputable def pC(K:FgA)(D:Addr):Bool :=
 (findIn K (.ref D) "__getattribute__" == some (some (.builtin "BaseException.__getattribute__"))&&(findIn K (.ref D) "__getattr__" == some none&&mroIn K D (.type "BaseException")==some true))&&((clsIn K D).isSome&&(findIn K (.ref D) "__class__" == some (some (.builtin "object.__class__")) &&
  (specialIn K (.builtin "object.__class__") "__get__" == some (some (.builtin "getset_descriptor.__get__"))&&(takesIn K (.builtin "object.__class__")==some true&&mroIn K D (.type "object")==some true))))
noncomputable def cU(K:FgA)(x:Str):Addr:=match nsIn K mainGlobals x with
 |some (some (.ref a))=>a
 |_=>0
noncomputable def iZ(K:FgA)(x:Str):Addr:=match nsIn K mainGlobals x with
 |some (some (.ref f))=>match K.lookup f with
  |some ⟨_,_,.func F,_⟩=>match F.code with
   |.ref c=>match K.lookup c with
    |some ⟨_,_,.fields vs,_⟩=>match(vs[11]?:Option Value) with
     |some (.ref P)=>P
     |_=>0
    |_=>0
   |_=>0
  |_=>0
 |_=>0
noncomputable def wU(K:FgA)(i:Nat):Bool:=(pC K (cU K (wn i))&&excIn K (cU K (wn i)) t8 "ValueError.__new__")&&(mroIn K (cU K (wn i)) (.ref (cU K "HitError"))==some true &&
 (kitOne K (.ref (cU K (wn i))) (.ref (cU K "HitError"))==some true&&(kitOne K (.ref (cU K (wn i))) (.type "ValueError")==some true &&
  ((List.range 4).all (λj=>kitOne K (.ref (cU K (wn i))) (.ref (cU K (wn j)))==some (decide (i=j)))&&nsIn K mainGlobals (wn i)==some (some (.ref (cU K (wn i))))))))
noncomputable def P0(K:FgA):Bool:=(List.range 4).all (wU K)&&((nsIn K mainGlobals "HitError" == some (some (.ref (cU K "HitError")))&&excIn K (cU K "HitError") t8 "ValueError.__new__")&&(nsIn K mainGlobals "isinstance" == some none&&nsIn K mainGlobals "ValueError" == some none))
noncomputable def oV(K:FgA)(D:Addr):Bool:=findIn K (.ref D) "__str__" == some (some (.builtin "BaseException.__str__"))&&mroIn K D (.type "BaseException")==some true
noncomputable def excB2(K:FgA):Bool:=P0 K&&(List.range 4).all λi=>keepIn K (.ref (cU K (wn i)))&&oV K (cU K (wn i))
noncomputable def obsX(xb:FgA->Bool)(ds:List (Str×Stmt))(blt:List Str)(x:Str)(s:Shared):((List (Option (Arguments×List Stmt×Scope×Bool))×List (Option (Option Value)))×Option (Arguments×List Stmt×Scope×Bool)×(Option Obj×Bool))×Bool:=(O6 ds blt x s,xb (jf s.heap))
noncomputable def valX(ds:List (Str×Stmt))(blt:List Str)(st:Stmt):((List (Option (Arguments×List Stmt×Scope×Bool))×List (Option (Option Value)))×Option (Arguments×List Stmt×Scope×Bool)×(Option Obj×Bool))×Bool:=(NZ ds blt st,true)
noncomputable def Ig(K:FgA)(C m:Str):Option (Arguments×List Stmt×Scope×Bool):=match findIn K (.ref (cU K C)) m with
 |some (some (.ref f))=>match K.lookup f with
  |some ⟨_,_,.func ⟨n,q,ps,.stmts b,sc,g,[],.none,_,_,_,_,cd,_,bn⟩,_⟩=>some (ps,b,sc,n==m&&(q==C ++ "." ++ m&&(Nat.beq g mainGlobals&&(Nat.beq bn builtinsNs&&(codeIn K cd (C ++ "." ++ m)&&(keepIn K (.ref f)&&isFn K (.ref f)))))))
  |_=>none
 |_=>none
noncomputable def sY(K:FgA)(C:Str)(fs:List Str):Bool:=(plainGet K (cU K C) Str.empty&&(hasDictIn K (cU K C)&&(plainOver K (cU K C)&&findIn K (.ref (cU K C)) "__setattr__" == some (some (.builtin "object.__setattr__"))))) &&
 ((makesIn K (cU K C)&&(keepIn K (.ref (cU K C))&&nsIn K mainGlobals C==some (some (.ref (cU K C)))))&&fs.all λf=>findIn K (.ref (cU K C)) f==some none)
noncomputable def vW(K:FgA)(x y:Str):Bool:=match nsIn K mainGlobals x with
 |some (some (.str z _))=>z==y
 |_=>false
noncomputable def Hw(os:List Obj)(cd:Value)(x:Str):Bool:=match cd with
 |.ref c=>(match os[c]? with
  |some o=>(match o.data with
   |.fields vs=>(match o.cls with
    |.none=>false
    |_=>(match vs.toList with | _ :: .str n _::_=>n==x | _=>false))
   |_=>false)
  |none=>false)
 |_=>false
noncomputable def Ie(K:FgA)(os:List Obj)(x:Str):Option (Arguments×List Stmt×Scope×Bool):=match nsIn K mainGlobals x with
 |some (some (.ref f))=>match os[f]? with
  |some o=>match o.data with
   |.func ⟨n,q,ps,.stmts b,sc,g,[],.none,_,_,_,_,cd,_,bn⟩=>(match o.cls with
    |.none=>none
    |_=>some (ps,b,sc,n==x&&(q==x&&(Nat.beq g mainGlobals&&(Nat.beq bn builtinsNs&&Hw os cd x)))))
   |_=>none
  |none=>none
 |_=>none
noncomputable def tH(ds:List (Str×Stmt))(blt:List Str)(s:Shared):List (Option (Arguments×List Stmt×Scope×Bool))×List (Option (Option Value)):=(ds.map λy=>Ie (jf s.heap) s.heap.objs.toList y.1,blt.map λy=>nsIn (jf s.heap) mainGlobals y)
noncomputable abbrev xK:=Option (Arguments×List Stmt×Scope×Bool)
noncomputable def zx(ys:List Str)(s:Shared):List (xK×(Option Obj×Bool)):=ys.map λy=>(zy (jf s.heap) y,Eh (jf s.heap) s.heap y)
noncomputable def Ec(ts:List (Str×Stmt)):List (xK×(Option Obj×Bool)):=ts.map λy=>(some (dA y.2,dB y.2,dS y.2,true),(some (tabObj #[]),true))
noncomputable def rW(xb:FgA->Bool)(ms:List (Str×Str×Stmt))(s:Shared):List xK×Bool:=(ms.map λy=>Ig (jf s.heap) y.1 y.2.1,xb (jf s.heap))
noncomputable def vQ(ms:List (Str×Str×Stmt)):List xK×Bool:=(ms.map λy=>some (dA y.2.2,dB y.2.2,dS y.2.2,true),true)
end MX
end
section
namespace MX
open PySem PySem.Spec PySem.W PyProof.Rows
noncomputable def tQ1:List Obj->BT->Nat->Option (BT×Nat)
 |[],T,n=>some (T,n)
 |o::r,T,n=>match((T.ins n o).get n).isSome with
  |true=>tQ1 r (T.ins n o) (n+1)
  |false=>none
theorem tQ2{v:Life}:∀{l:List Obj}{T:BT}{n:Nat}{T':BT}{n':Nat}{a:Array Obj},absHeap T n v=⟨a,v⟩->tQ1 l T n=some (T',n')->absHeap T' n' v=⟨a++l.toArray,v⟩
 |[],T,n,T',n',a,e,h=>by cases h;rw[e];simp
 |o::r,T,n,T',n',a,e,h=>by
  unfold tQ1 at h;split at h
  . rename_i g;have e2:absHeap (T.ins n o) (n+1) v=⟨a.push o,v⟩:=by rw[absHeap_ins g,e];rfl
    rw[tQ2 e2 h];simp
  . cases h
noncomputable def tQ3(p:Program)(w:World)(m:Nat)(z:Option Value):Nat->SharedT->Thread->Option SharedT
 |0,_,_=>none
 |n+1,s,t=>match through t with
  |true=>some s
  |false=>match stepOk m z t with
   |false=>none
   |true=>match stepT (denote treeTable) p w s t with
    |some (s',t')=>tQ3 p w m z n s' t'
    |none=>none
theorem tQ4{p:Program}{w:World}{m:Nat}{z:Option Value}:∀{n:Nat}{s s':SharedT}{t:Thread},tQ3 p w m z n s t=some s'->topRun treeTable p w m z n s.abs t=some s'.abs
 |0,_,_,_,h=>by cases h
 |n+1,s,s',t,h=>by
  unfold tQ3 at h;unfold topRun;cases ht:through t with
  |true=>rw[ht] at h;cases h;rfl
  |false=>
   rw[ht] at h;cases hk:stepOk m z t with
   |false=>rw[hk] at h;cases h
   |true=>
    rw[hk] at h;cases hs:stepT (denote treeTable) p w s t with
    |none=>rw[hs] at h;cases h
    |some r=>obtain⟨s₂,t₂⟩:=r;rw[hs] at h;rw[stepT_spec hs];exact tQ4 h
noncomputable def tQ5(p:Program)(w:World)(N:Nat)(os:OsState):Option SharedT:=let b:=boot_heap w.params;match b.isNs mainGlobals with
 |false=>none
 |true=>(tQ1 b.objs.toList .nil 0).bind λx=>(tQ3 p w b.objs.size (b.nsMap mainGlobals "__annotations__") N ⟨x.1,x.2,b.life,#[],boot_drawn,boot_toks,os⟩ (topStub p)).bind λs=>match staticsOk (importedModules p.main.body) b s.abs.heap&&namesBound p s.abs.heap&&gensDone s.abs&&laidKept b s.abs.heap with
  |true=>some s
  |false=>none
theorem tQ6{p:Program}{w:World}{N:Nat}{α:Type}{look:Shared->α}{a:α}(e:opening p=plainProg p.main.scope.names)(hN:Nat.ble 600 N=true)(f:∀s,fenceModules? p s=some s)(h:∀os,(tQ5 p w N os).map (λs=>look s.abs)=some a):(openEnds treeTable p w N).map look=some a:=by
 obtain⟨⟨hp,gs,d,k,os⟩,e1,e2⟩:=Option.map_eq_some_iff.mp (boot_open e hN f w);obtain⟨rfl,rfl,rfl,rfl⟩:hp=boot_heap w.params∧gs=#[]∧d=boot_drawn∧k=boot_toks:=by simpa using e2
 obtain⟨s,h1,h2⟩:=Option.map_eq_some_iff.mp (h os);unfold tQ5 at h1;dsimp only at h1;split at h1
 . cases h1
 . rename_i hns;obtain⟨⟨T,n⟩,h3,h4⟩:=Option.bind_eq_some_iff.mp h1;obtain⟨s₂,h5,h6⟩:=Option.bind_eq_some_iff.mp h4;split at h6
   . rename_i hst;cases h6;have z:absHeap T n (boot_heap w.params).life=boot_heap w.params:=by have:=tQ2 (v:=(boot_heap w.params).life) (a:=#[]) rfl h3;rw[this];simp
     have r:=tQ4 h5;rw[show SharedT.abs ⟨T,n,(boot_heap w.params).life,#[],boot_drawn,boot_toks,os⟩=⟨boot_heap w.params,#[],boot_drawn,boot_toks,os⟩ by unfold SharedT.abs;dsimp only;rw[z]] at r
     unfold openEnds;rw[e1];show((topFrom treeTable p w N _)).map look=_;unfold topFrom;dsimp only;rw[hns,r];show(match(_:Bool) with|true=>some s.abs|false=>none).map look=_;rw[hst];exact congrArg some h2
   . cases h6
end MX
end
section
namespace MX.K26
open PySem PySem.Spec PySem.W PyProof.Rows MX
noncomputable abbrev PP:Program:=PySem.Challenge.pw_firsthit_k26_whole_moved_and_turned
noncomputable abbrev PG:Program:=PySem.Challenge.rw_firsthit_k26_whole_moved_and_turned.prog
noncomputable def top(i:Nat):Stmt:=PP.main.body.getD i (.Pass ⟨0,0,0,0⟩)
noncomputable def qx(i j:Nat):Stmt:=match top i with
 |.ClassDef _ _ _ b _ _ _ _ _ _ _=>b.getD j (.Pass ⟨0,0,0,0⟩)
 |_ => .Pass ⟨0,0,0,0⟩
noncomputable def blt:List Str:=["len", "abs", "min", "max", "isinstance", "all", "any", "sum", "sorted", "tuple", "list", "range", "zip", "int", "bool", "str", "enumerate"]
noncomputable def nm(s:Stmt):Str:=match s with
 |.FunctionDef n _ _ _ _ _ _ _ _ _=>n
 |_ => ""
noncomputable def ix1:List Nat:=[45,44,46,48,47,49,50,13,14,35,37,28,29,30,32,27,15,8,16]
noncomputable def ix2:List Nat:=[38,6,7,17,11,9,19,10,20,21,22,23,24,25,31,40,52,53,51,54]
noncomputable def Hx:List (Str×Stmt):=ix1.map λi=>(nm (top i),top i)
noncomputable def Hy:List (Str×Stmt):=ix2.map λi=>(nm (top i),top i)
noncomputable abbrev defs:List (Str×Stmt):=Hx++Hy
noncomputable def ms:List (Str×Str×Stmt):=[("Tree", "__init__",qx 34 0),("Scene", "__init__",qx 42 0),("Scene", "hits",qx 42 6),("Scene", "first",qx 42 7),("Scene", "every",qx 42 8)]
noncomputable def xb(K:Frag):Bool:=sY K "Tree" ["box", "number", "halves"]&&sY K "Scene" ["kept", "tree"]&&decide ((["tree_over", "in_order"]:List Str).map (iZ K)).Nodup
noncomputable def ts:List (Str×Stmt):=[("tree_over",top 36),("in_order",top 41)]
noncomputable def seen:Program:=view PP [54]
noncomputable def loose:List Str:=(["_wall", "HitError", "NoRay", "NoShape", "common_divisor", "lowest_terms", "is_less", "way_between", "dot", "cross", "numbers_at", "box_around", "times_between", "span_in", "meets_box", "edges_of", "meets_along", "meets_segment", "meets_edges", "goes_through", "meets_within_plane", "meets_triangle", "refuse_standing", "are_in_order", "is_shape", "refuse_no_shape", "time_at", "bounds", "Tree", "widest_place", "tree_over", "tree_about", "numbers_along", "is_sooner", "in_order", "Scene", "_law_cell", "_law_drawn", "_law_spot", "_law_put", "_law_plain", "_law_shape", "_law_ray", "_law_ratio", "_law_changed", "_law_shape_changed"]:List String).map Str.ofString
noncomputable def lawRec:DefRec:=⟨"law",dA (top 54),dB (top 54),dS (top 54),wX (top 54)⟩
theorem tQ7:opening PP=plainProg PP.main.scope.names:=by kernel_rfl
theorem tQ8:∀s,fenceModules? PP s=some s:=by intro s;kernel_rfl
def leftA:LeftO PP seen loose (λ_=>true) (λ_=>()) (λ_=>()) 5280:=λw=>tQ6 tQ7 rfl tQ8 λos=>by kernel_rfl
def leftB1:∀w,(openEnds treeTable PP w 5280).map (tH Hx blt)=some (tL Hx blt):=λw=>tQ6 tQ7 rfl tQ8 λos=>by kernel_rfl
def leftB2:∀w,(openEnds treeTable PP w 5280).map (tH Hy [])=some (tL Hy []):=λw=>tQ6 tQ7 rfl tQ8 λos=>by kernel_rfl
def leftC1:∀w,(openEnds treeTable PP w 5280).map (zx (ts.map (·.1)))=some (Ec ts):=λw=>tQ6 tQ7 rfl tQ8 λos=>by kernel_rfl
def leftC2:∀w,(openEnds treeTable PP w 5280).map (rW xb ms)=some (vQ ms):=λw=>tQ6 tQ7 rfl tQ8 λos=>by kernel_rfl
abbrev LW:=PySem.Challenge.rw_firsthit_k26_whole_moved_and_turned
def tR1:LW.wellSaid=true:=by kernel_rfl
def tR2:defOf seen LW.name=some (lawRec,[]):=by kernel_rfl
def tR3:LW.prog.theDef LW.name=some (lawRec.params,lawRec.body,lawRec.scope):=by kernel_rfl
def tR4:kwWritten? lawRec.params.kwonlyargs lawRec.params.kw_defaults=some []:=by kernel_rfl
def tR5:(chainsOk seen&&opensWell LW.prog&&(frees LW.row.toRowW&&LW.row.within.isEmpty))=true:=by kernel_rfl
def tR6:LW.prog.bare:=⟨rfl,rfl,rfl,rfl,rfl,by decide +kernel⟩
end MX.K26
end
section
namespace L2
open PySem PySem.Spec PyProof.Rows
noncomputable abbrev Key:=Sum Int Str
noncomputable def uq:Key->Value->Bool
 |.inl k,v=>Value.isInt k v
 |.inr x,v=>Value.isStrOf x v
noncomputable def mL(w:World):Key->Int
 |.inl k=>hashInt k
 |.inr x=>hashStr w x
theorem rG:∀{k:Key} {v:Value},uq k v=true->(∃i t,k=Sum.inl i/\v=Value.int i t)\/(∃x t,k=Sum.inr x/\v=Value.str x t)
 |.inl i,v,h=>by obtain⟨t,e⟩:=Value.isInt_shape (k:=i) (v:=v) h;exact .inl ⟨i,t,rfl,e⟩
 |.inr x,v,h=>by obtain⟨t,e⟩:=Value.isStrOf_shape (x:=x) (v:=v) h;exact .inr ⟨x,t,rfl,e⟩
theorem ZQ(a b:Int):decide ((Sum.inl a:Key)=Sum.inl b)=(a==b):=by
 by_cases e:a=b
 .subst e;simp
 .have h:¬(Sum.inl a:Key)=Sum.inl b:=λq=>e (Sum.inl.inj q);rw[decide_eq_false h];exact(beq_eq_false_iff_ne.mpr e).symm
theorem Zc(a b:Str):decide ((Sum.inr a:Key)=Sum.inr b)=decide (a=b):=by
 by_cases e:a=b
 .subst e;simp
 .have h:¬(Sum.inr a:Key)=Sum.inr b:=λq=>e (Sum.inr.inj q);rw[decide_eq_false h,decide_eq_false e]
def ZR(a:Int)(b:Str):decide ((Sum.inl a:Key)=Sum.inr b)=false:=decide_eq_false (λq=>nomatch q)
def ZS(a:Str)(b:Int):decide ((Sum.inr a:Key)=Sum.inl b)=false:=decide_eq_false (λq=>nomatch q)
noncomputable def Ih(prog:Program)(w:World):PySem.KeyKind prog w Key where
 is:=uq
 hash:=mL w
 inj:=λv a b ha hb=>by
  rcases rG ha with⟨i,t,rfl,rfl⟩|⟨x,t,rfl,rfl⟩
  .rcases rG hb with⟨j,u,rfl,e⟩|⟨y,u,rfl,e⟩
   .injection e with e1 _;rw[e1]
   .exact nomatch e
  .rcases rG hb with⟨j,u,rfl,e⟩|⟨y,u,rfl,e⟩
   .exact nomatch e
   .injection e with e1 _;rw[e1]
 byValue:=λk v h=>by rcases rG h with⟨i,t,rfl,rfl⟩|⟨x,t,rfl,rfl⟩<;>rfl
 pyHash:=λhv h=>by
  rcases rG hv with⟨i,t,rfl,rfl⟩|⟨x,t,rfl,rfl⟩
  .exact wpAny_pyHash_int h
  .exact wpAny_pyHash_str h
 eqBool:=λhu hv h=>by
  rcases rG hu with⟨i,t,rfl,rfl⟩|⟨x,t,rfl,rfl⟩
  .rcases rG hv with⟨j,u,rfl,rfl⟩|⟨y,u,rfl,rfl⟩
   .rw[ZQ] at h;exact wpAny_eqBool_int h
   .rw[ZR] at h;exact SeqAt.EqAt.int_str i t y u _ _ _ _ h
  .rcases rG hv with⟨j,u,rfl,rfl⟩|⟨y,u,rfl,rfl⟩
   .rw[ZS] at h;exact SeqAt.EqAt.str_int x t j u _ _ _ _ h
   .rw[Zc] at h;exact wpAny_eqBool_str h
 «strs»:=λk x t v h=>by
  rcases rG h with⟨i,u,rfl,e⟩|⟨y,u,rfl,e⟩
  .exact nomatch e
  .injection e with e1 _;subst e1;cases v<;>rfl
inductive V where
 |non|bl (b:Bool)|int (i:Int)|str (x:Str)|byt (b:Array UInt8)|flt (b:UInt64)|ref (a:Addr)|ty (n:String)
 deriving DecidableEq
noncomputable def RelV:V->Value->Prop
 |.non,u=>u=Value.none
 |.bl b,u=>u=Value.bool b
 |.int i,u=>∃t,u=Value.int i t
 |.str x,u=>∃t,u=Value.str x t
 |.byt b,u=>∃t,u=Value.bytes b t
 |.flt b,u=>∃t,u=Value.float b t
 |.ref a,u=>u=Value.ref a
 |.ty n,u=>u=Value.type n
noncomputable abbrev Vals:List V->List Value->Prop:=Paired RelV
def Vals.length{xs:List V}{us:List Value}(r:Vals xs us):xs.length=us.length:=Paired.length r
theorem Vals.get:∀{xs:List V} {us:List Value} {i:Nat} {x:V},Vals xs us->xs[i]?=some x->∃u,us[i]?=some u/\RelV x u
 |_,_,_,_,.nil,e=>by simp at e
 |_,_,0,_,.cons r _,e=>by simp at e;subst e;exact⟨_,rfl,r⟩
 |_,_,i+1,x,.cons _ t,e=>by obtain⟨u,h1,h2⟩:=Vals.get (i:=i) (x:=x) t (by simpa using e);exact⟨u,by simpa using h1,h2⟩
def Vals.append:∀{xs ys:List V} {us ws:List Value},Vals xs us->Vals ys ws->Vals (xs++ys) (us++ws)
 |_,_,_,_,.nil,s=>s
 |_,_,_,_,.cons r t,s => .cons r (Vals.append t s)
def Vals.take:∀{xs:List V} {us:List Value} (n:Nat),Vals xs us->Vals (xs.take n) (us.take n)
 |_,_,0,_ => .nil
 |_,_,_+1,.nil => .nil
 |_,_,n+1,.cons r t => .cons r (Vals.take n t)
def Vals.drop:∀{xs:List V} {us:List Value} (n:Nat),Vals xs us->Vals (xs.drop n) (us.drop n)
 |_,_,0,r=>r
 |_,_,_+1,.nil => .nil
 |_,_,n+1,.cons _ t=>Vals.drop n t
theorem Vals.none_of:∀{xs:List V} {us:List Value} {i:Nat},Vals xs us->xs[i]?=none->us[i]?=none:=λ{xs us i} r e=>by have h1:=r.length;have h2:xs.length<=i:=List.getElem?_eq_none_iff.mp e;exact List.getElem?_eq_none_iff.mpr (by omega)
noncomputable def jn:Option V->Option Value->Prop
 |some v,some u=>RelV v u
 |none,none=>True
 |_,_=>False
noncomputable def KV{κ:Type}:List (κ×V)->List (κ×Value)->Prop:=Paired fun(p:κ×V) (q:κ×Value)=>p.1=q.1/\RelV p.2 q.2
noncomputable def kV:Key->V
 |.inl i => .int i
 |.inr x => .str x
inductive HO where
 |lst (xs:List V)
 |tup (xs:List V)
 |dK (kvs:List (Key×V))|dT (kvs:List (List Key×V))
 |set (S:Int->Bool) (n:Nat)
 |ins (C dx:Addr) (fs:List (Str×V))
 |own (x:Addr)
 |xd (fs:List (Str×V))
 |met (f x:Addr)
 |rng (lo hi:Int)
 |frz (o:Obj) (u:HO)
 |tbl (ps:Array Value)
 |ext (φ:Heap->Prop)
noncomputable abbrev Hp:=Addr->Option HO
noncomputable def upd(H:Hp)(a:Addr)(o:HO):Hp:=λb=>if b=a then some o else H b
def fY{H:Hp}{a:Addr}{o:HO}:upd H a o a=some o:=by unfold upd;rw[if_pos rfl]
def cu{H:Hp}{a b:Addr}{o:HO}(h:b≠a):upd H a o b=H b:=by unfold upd;rw[if_neg h]
def Ek{H:Hp}{a b:Addr}{o u:HO}(h:H a=some o)(h':H b=some u)(d:o≠u):a≠b:=by intro e;subst e;rw[h] at h';exact d (Option.some.inj h')
def gR{H:Hp}{a b:Addr}{o:HO}(h:H a=some o)(h':H b=none):a≠b:=by intro e;subst e;rw[h] at h';cases h'
section
variable (P:Program)(w:World)
noncomputable def bY(H:Hp)(h:Heap)(a:Addr):HO->Prop
 |.lst xs=>xs.length<=sizeLine/\∃(its:List Value) (n:Nat),Vals xs its/\h.get? a=some { cls := .type "list",data := .seq its.toArray n }
 |.tup xs=>xs.length<=sizeLine/\∃its:List Value,Vals xs its/\IsTup h a its.toArray
 |.dK kvs=>kvs.length<=sizeLine/\(a==sysModules)=false/\∃vs,KV kvs vs/\h.DictOf (Ih P w) a vs
 |.dT kvs=>kvs.length<=sizeLine/\(a==sysModules)=false/\∃xs:List (List Key×Addr×Value),
  Paired (fun(p:List Key×V) (q:List Key×Addr×Value)=>p.1=q.1/\H q.2.1=some (.tup (p.1.map kV))/\RelV p.2 q.2.2) kvs xs /\
  ∃o es ep,h.get? a=some o/\o.ExactDict/\o.data = .dict es ep/\es.toList=xs.map (entryOfKey (tupleKind (Ih P w)))/\(xs.map (·.1)).Nodup
 |.set S n=>h.SetOf (intKind P w) a S n
 |.ins C dx fs=>H dx=some (.own a)/\fs.length<=1000/\dx≠a/\h.get? a=some (PySem.W.instObj C dx) /\
  ∃mA,h.Ns1 dx mA/\(∀f,jn (fs.lookup f) (mA f))/\PySem.Within mA (fs.map (·.1))
 |.own _=>∃o,h.get? a=some o
 |.xd fs=>∃mA,h.Ns1 a mA/\∀f,jn (fs.lookup f) (mA f)
 |.rng lo hi=>∃t u v,h.get? a=some { cls := .type "range",data := .fields #[.int lo t,.int hi u,.int 1 v] }
 |.frz o u=>h.get? a=some o/\bY H h a u
 |.tbl ps=>h.get? a=some { cls := .none,data := .fields ps }/\TriplesOk ps.toList/\∀pos cv,codeAmong pos ps.toList=some cv->∃c q oc vs t,cv=Value.ref c/\H c=some (.own a)/\h.get? c=some oc/\oc.data = .fields vs/\vs[1]?=some (.str q t)
 |.met f x=>h.get? a=some (PySem.W.methodObj (.ref f) (.ref x))
 |.ext φ=>φ h/\(∃o,h.get? a=some o)/\∀h1 h2:Heap,φ h1->(∀o,h1.get? a=some o->h2.get? a=some o)->φ h2
def gK(H:Hp)(h:Heap):Prop:=∀a o,H a=some o->bY P w H h a o
end
section
variable {P:Program}{w:World}{H H':Hp}{h h':Heap}{a:Addr}{o:HO}
theorem bY.lt(x:bY P w H h a o):a<h.objs.size:=by
 cases o with
 |lst xs=>obtain⟨_,_,_,_,e⟩:=x;exact cJ e
 |tup xs=>obtain⟨_,_,_,p⟩:=x;exact p.lt
 |dK kvs=>obtain⟨_,_,_,_,o,_,_,e,_⟩:=x;exact cJ e
 |dT kvs=>obtain⟨_,_,_,_,o,_,_,e,_⟩:=x;exact cJ e
 |set S n=>obtain⟨o,_,_,_,e,_⟩:=x;exact cJ e
 |ins C dx fs=>obtain⟨_,_,_,e,_⟩:=x;exact cJ e
 |own y=>obtain⟨_,e⟩:=x;exact cJ e
 |xd fs=>obtain⟨_,⟨_,_,_,e,_⟩,_⟩:=x;exact cJ e
 |rng lo hi=>obtain⟨_,_,_,e⟩:=x;exact cJ e
 |frz ob u=>obtain⟨e,_⟩:=x;exact cJ e
 |tbl ps=>exact cJ x.1
 |met f y=>exact cJ (show h.get? a=some _ from x)
 |ext φ=>obtain⟨_,⟨_,e⟩,_⟩:=x;exact cJ e
def Paired.mapP{α β:Type}{F G:α->β->Prop}:∀{l₁:List α} {l₂:List β},Paired F l₁ l₂->(∀a b,F a b->G a b)->Paired G l₁ l₂
 |_,_,.nil,_ => .nil
 |_,_,.cons r t,f => .cons (f _ _ r) (Paired.mapP t f)
theorem bY.stay(x:bY P w H h a o)(k:∀b u,(b=a\/H b=some (.own a))->h.get? b=some u->h'.get? b=some u)(ho:∀b,H b=some (.own a)->H' b=some (.own a))(ht:∀b xs,H b=some (.tup xs)->H' b=some (.tup xs)):bY P w H' h' a o:=by
 induction o with
 |lst xs=>obtain⟨z,its,n,r,e⟩:=x;exact⟨z,its,n,r,k _ _ (.inl rfl) e⟩
 |tup xs=>obtain⟨z,its,r,ob,e,c⟩:=x;exact⟨z,its,r,ob,k _ _ (.inl rfl) e,c⟩
 |dK kvs=>obtain⟨z,y,vs,r,ob,es,ep,e,c⟩:=x;exact⟨z,y,vs,r,ob,es,ep,k _ _ (.inl rfl) e,c⟩
 |dT kvs =>
  obtain⟨z,y,xs,r,ob,es,ep,e,c⟩:=x;exact⟨z,y,xs,Paired.mapP r λp q z=>⟨z.1,ht _ _ z.2.1,z.2.2⟩,ob,es,ep,k _ _ (.inl rfl) e,c⟩
 |set S n=>obtain⟨ob,es,ep,t,e,c⟩:=x;exact⟨ob,es,ep,t,k _ _ (.inl rfl) e,c⟩
 |ins C dx fs =>
  obtain⟨d,z,ne,e,mA,⟨od,es,ep,e2,c⟩,r⟩:=x;exact⟨ho _ d,z,ne,k _ _ (.inl rfl) e,mA,⟨od,es,ep,k _ _ (.inr d) e2,c⟩,r⟩
 |own y=>obtain⟨ob,e⟩:=x;exact⟨ob,k _ _ (.inl rfl) e⟩
 |xd fs=>obtain⟨mA,⟨od,es,ep,e,c⟩,r⟩:=x;exact⟨mA,⟨od,es,ep,k _ _ (.inl rfl) e,c⟩,r⟩
 |rng lo hi=>obtain⟨t,u,v,e⟩:=x;exact⟨t,u,v,k _ _ (.inl rfl) e⟩
 |frz ob u ih=>obtain⟨e,q⟩:=x;exact⟨k _ _ (.inl rfl) e,ih q⟩
 |tbl ps =>
  obtain⟨e,h1,h2⟩:=x;refine⟨k a _ (.inl rfl) e,h1,λpos cv q=>?_⟩;obtain⟨c,q,oc,vs,t,e1,e2,e3,e4⟩:=h2 pos cv q;exact⟨c,q,oc,vs,t,e1,ho _ e2,k _ _ (.inr e2) e3,e4⟩
 |met f y =>
  have e:h.get? a=some (PySem.W.methodObj (.ref f) (.ref y)):=x;show h'.get? a=some (PySem.W.methodObj (.ref f) (.ref y));exact k a _ (.inl rfl) e
 |ext φ=>obtain⟨p,⟨o,e⟩,st⟩:=x;exact⟨st _ _ p λo q=>k _ _ (.inl rfl) q,⟨o,k _ _ (.inl rfl) e⟩,st⟩
def gK.lt(x:gK P w H h)(e:H a=some o):a<h.objs.size:=(x a o e).lt
def gK.fresh(x:gK P w H h)(e:h.objs.size<=a):H a=none:=by
 cases q:H a with
 |none=>rfl
 |some u=>exact absurd (dN (x.lt q) e) (gZ _)
def gK.kept(x:gK P w H h)(k:∀b u,h.get? b=some u->h'.get? b=some u):gK P w H h':=λa o e =>
 (x a o e).stay (λb u _ q=>k b u q) (λ_ q=>q) λ_ _ q=>q
theorem gK.laid(x:gK P w H h)(k:∀b u,h.get? b=some u->h'.get? b=some u)(hp:h.objs.size<=a)(new:bY P w (upd H a o) h' a o):gK P w (upd H a o) h':=λb u e=>by
 have hn:=x.fresh hp;by_cases hb:b=a
 .subst hb;rw[fY] at e;cases e;exact new
 .rw[cu hb] at e;exact(x b u e).stay (λc v _ q=>k c v q) (λc q=>by rw[cu (gR q hn)];exact q) λc xs q=>by rw[cu (gR q hn)];exact q
end
def Rd(H:Hp)(a:Addr)(u:HO):Prop:=H a=some u\/∃o,H a=some (.frz o u)
theorem Rd.ok{P:Program}{w:World}{H:Hp}{h:Heap}{a:Addr}{u:HO}(r:Rd H a u)(x:gK P w H h):bY P w H h a u:=by
 rcases r with r|⟨o,r⟩
 .exact x a u r
 .obtain⟨_,q⟩:=x a _ r;exact q
noncomputable def Ho:Option HO->Prop
 |some (.lst _)=>True
 |some (.dK _)=>True
 |some (.dT _)=>True
 |some (.set _ _)=>True
 |some (.ins _ _ _)=>True
 |some (.ext _)=>True
 |_=>False
section
variable {P:Program}{w:World}{H:Hp}{h h':Heap}{x e:Addr}{o':HO}
theorem gK.write(ok:gK P w H h)(mu:Ho (H x))(he:e=x\/H e=some (.own x))(k:∀b u,b≠e->h.get? b=some u->h'.get? b=some u)(heo:∃u,h'.get? e=some u)(new:bY P w (upd H x o') h' x o'):gK P w (upd H x o') h':=λb u q=>by
 have Cj:∀c y,H c=some (.own y)->c≠x:=λc y r z=>by subst z;rw[r] at mu;exact mu
 have O8:∀c xs,H c=some (.tup xs)->c≠x:=λc xs r z=>by subst z;rw[r] at mu;exact mu
 by_cases hb:b=x
 .subst hb;rw[fY] at q;cases q;exact new
 .rw[cu hb] at q;by_cases hbe:b=e
  .have q':H b=some (.own x):=by
    rcases he with z|z
    .exact absurd (hbe.trans z) hb
    .rw[hbe];exact z
   rw[q] at q';cases q';obtain⟨v,hv⟩:=heo;exact⟨v,by rw[hbe];exact hv⟩
  .refine(ok b u q).stay (λc v hc r=>k c v ?_ r) (λc r=>by rw[cu (Cj c b r)];exact r) λc xs r=>by rw[cu (O8 c xs r)];exact r
   rcases hc with rfl|hc
   .exact hbe
   .rintro rfl
    rcases he with z|z
    .exact Cj c b hc z
    .rw[hc] at z;cases z;exact hb rfl
end
structure Un(fs ex:List Addr)(H H':Hp)(h h':Heap):Prop where
 keep:∀b o,h.get? b=some o->H b=none->b∉fs->b∉ex->h'.get? b=some o
 slot:∀b o,h.get? b=some o->H b=none->b∈fs->b∉ex->∃sl,h'.get? b=some { o with slots:=sl }
 free:∀b o,h.get? b=some o->H b=none->b∉ex->H' b=none
 there:∀b o,h.get? b=some o->b∉ex->∃o',h'.get? b=some o'
 tups:∀b xs,H b=some (.tup xs)->H' b=some (.tup xs)
 frzs:∀b o u,H b=some (.frz o u)->H' b=some (.frz o u)
 tbls:∀b ps,H b=some (.tbl ps)->∃more,H' b=some (.tbl (ps++more))
section
variable {fs fs' ex ex':List Addr}{H H1 H2:Hp}{h h1 h2 h':Heap}{a x e:Addr}{o:HO}
theorem Un.any(u:Un fs ex H H1 h h1){b:Addr}{ob:Obj}(q:h.get? b=some ob)(n:H b=none)(hx:b∉ex):∃sl,h1.get? b=some { ob with slots:=sl }:=by
 by_cases hb:b∈fs
 .exact u.slot b ob q n hb hx
 .exact⟨ob.slots,u.keep b ob q n hb hx⟩
theorem Un.kept(k:∀b u,h.get? b=some u->h'.get? b=some u):Un fs ex H H h h' :=
 ⟨λb ob q _ _ _=>k b ob q,λb ob q _ _ _=>⟨ob.slots,k b ob q⟩,λ_ _ _ n _=>n,λb ob q _=>⟨ob,k b ob q⟩,λ_ _ q=>q,λ_ _ _ q=>q,λ_ ps q=>⟨#[],by rw[q];simp⟩⟩
def Un.refl:Un fs ex H H h h:=Un.kept λ_ _ q=>q
theorem Un.laid(k:∀b u,h.get? b=some u->h'.get? b=some u)(hp:h.objs.size<=a)(hn:H a=none):Un fs ex H (upd H a o) h h' where
 keep:=λb u q _ _ _=>k b u q
 slot:=λb u q _ _ _=>⟨u.slots,k b u q⟩
 free:=λb u q n _=>by rw[cu (dJ (dN (cJ q) hp))];exact n
 there:=λb u q _=>⟨u,k b u q⟩
 tups:=λb xs q=>by rw[cu (gR q hn)];exact q
 frzs:=λb u xs q=>by rw[cu (gR q hn)];exact q
 tbls:=λb ps q=>⟨#[],by rw[cu (gR q hn),q];simp⟩
theorem Un.write(mu:Ho (H x))(he:e=x\/H e=some (.own x))(k:∀b u,b≠e->h.get? b=some u->h'.get? b=some u)(heo:∃u,h'.get? e=some u):Un fs ex H (upd H x o) h h':=by
 have hx:∀b,H b=none->b≠x:=λb n z=>by subst z;rw[n] at mu;exact mu
 have hb:∀b,H b=none->b≠e:=λb n z=>by
  subst z;rcases he with r|r
  .exact hx b n r
  .rw[n] at r;cases r
 have hm:∀b u,H b=some u->¬Ho (some u)->b≠x:=λb u q nm z=>by subst z;rw[q] at mu;exact nm mu
 refine⟨λb u q n _ _=>k b u (hb b n) q,λb u q n _ _=>⟨u.slots,k b u (hb b n) q⟩,λb u q n _=>by rw[cu (hx b n)];exact n,λb u q _=>?_,
  λb xs q=>by rw[cu (hm b _ q λz=>z)];exact q,λb u xs q=>by rw[cu (hm b _ q λz=>z)];exact q,λb ps q=>⟨#[],by rw[cu (hm b _ q λz=>z),q];simp⟩⟩
 by_cases hbe:b=e
 .subst hbe;exact heo
 .exact⟨u,k b u hbe q⟩
end
noncomputable def yS(h:Heap)(H:Hp):List Addr:=(List.range h.objs.size).filter λa=>(H a).isSome
noncomputable def pN(h:Heap)(H:Hp):Heap:=PySem.W.hideAll h (yS h H)
def zkR(h:Heap)(H:Hp):(pN h H).objs.size=h.objs.size:=PySem.W.hideAll_size _ _
theorem zmx{h:Heap}{H:Hp}{b:Addr}{o:Obj}(e:h.get? b=some o)(n:H b=none):(pN h H).get? b=some o :=
 PySem.W.hideAll_get _ e λhm=>by have q:(H b).isSome=true:=(List.mem_filter.mp hm).2;rw[n] at q;simp at q
theorem zoI{h:Heap}{H:Hp}{b:Addr}{o:Obj}(e:(pN h H).get? b=some o):h.get? b=some o/\H b=none:=by
 have e':h.get? b=some o:=PySem.W.of_hideAll (yS h H) e;refine⟨e',?_⟩;cases q:H b with
 |none=>rfl
 |some x =>
  have hm:b∈yS h H:=List.mem_filter.mpr ⟨List.mem_range.mpr (cJ e'),by simp[q]⟩;have z:(pN h H).get? b=none:=PySem.W.hideAll_none (yS h H) hm;rw[z] at e;cases e
structure Mod(K:FgA)(mg:Str->Option Value)(base:Heap):Prop where
 kin:K.In base
 glob:base.Ns mainGlobals mg
 blt:∃mb,base.Ns builtinsNs mb/\∀x:Str,x ≠ "__name__" -> mb x=bootBuiltins x
 nolimit:base.NoLimit
structure Cx where
 prog:Program
 w:World
 K:FgA
 mg:Str->Option Value
 base:Heap
 A:Around
 N:List Str
 s₀:Shared
 H₀:Hp
 env:Env
 outer:List Env
 stack:List Env
 ex:List Addr
 fn:Str->Bool
 calm:Bool
 pn:List (Addr×Obj)
 xe:Value->Shared->Prop
noncomputable def frs(l:List Env):List Addr:=l.filterMap (·.frame)
noncomputable abbrev Cx.fs(X:Cx):List Addr:=frs X.outer
def Hl(sc:Scope)(x:Str):Prop:=sc.names.lookup x=some .local\/sc.names.lookup x=some .cell\/sc.names.lookup x=some .free
def Loc(sc:Scope)(x:Str):Prop:=sc.names.lookup x=some .local\/sc.names.lookup x=some .cell
noncomputable def Look(env:Env)(h:Heap)(m:Str->Option Value)(x:Str)(u:Value):Prop :=
 (env.kindOf x=some .local/\m x=some u)\/((env.kindOf x=some .cell\/env.kindOf x=some .free)/\∃c,env.cells.lookup x=some c/\h.IsCell c (some u))
structure Cx.Ok(X:Cx):Prop where
 mod:Mod X.K X.mg X.base
 kind:X.env.scope.kind = .function
 glob:X.env.globals=mainGlobals
 blt:X.env.builtins=builtinsNs
 above:X.s₀.heap.objs.size<=X.env.locals
 inj:∀x y c,X.env.cells.lookup x=some c->X.env.cells.lookup y=some c->x=y
 has:∀x,(X.env.kindOf x=some .cell\/X.env.kindOf x=some .free)->∃c,X.env.cells.lookup x=some c
 cab:∀x c,X.fn x=true->X.env.cells.lookup x=some c->X.s₀.heap.objs.size<=c
 hd:X.calm=true->X.A.handled=none
 frames:X.A.frames=some X.stack
 stk:X.stack=X.outer\/(X.stack=X.env::X.outer/\X.env.frame=some X.env.locals)
 exf:∀b∈X.ex,b≠X.env.locals/\∀x c,X.env.cells.lookup x=some c->c≠b
 bs:∀b o,X.base.get? b=some o->X.s₀.heap.get? b=some o/\X.H₀ b=none
 bsz:X.base.objs.size<=X.s₀.heap.objs.size
 noex:∀b o,X.base.get? b=some o->b∉X.ex
 exfs:∀b∈X.ex,b∉X.fs
 funs:X.s₀.heap.FunFrames X.base X.outer
 frf:∀b∈X.fs,X.H₀ b=none
structure Inv(X:Cx)(pins:List (Addr×Obj))(σ:List (Option V))(H:Hp)(s:Shared):Prop where
 ok:X.Ok
 os:s.os=X.s₀.os
 bare:AllBare s.gens
 base:Un X.fs X.ex X.H₀ H X.s₀.heap s.heap
 loc:∃m,s.heap.Ns X.env.locals m/\∀(i:Nat) (x:Str) (v:V),X.N[i]?=some x->σ[i]?=some (some v)->Hl X.env.scope x->∃u,RelV v u/\Look X.env s.heap m x u
 cell:∀x c,X.env.cells.lookup x=some c->∃v,s.heap.IsCell c v
 free:H X.env.locals=none
 freeC:∀x c,X.env.cells.lookup x=some c->H c=none
 pin:∀p∈X.pn++pins,s.heap.get? p.1=some p.2/\H p.1=none/\p.1≠X.env.locals/\p.1∉X.fs/\∀v,p.2.data ≠ .cell v
 hok:gK X.prog X.w H s.heap
 len:σ.length=X.N.length
section
variable {X:Cx}{pins:List (Addr×Obj)}{σ:List (Option V)}{H H':Hp}{s:Shared}{h':Heap}
def Cx.Ok.nofr(ok:X.Ok){b:Addr}{o:Obj}(e:X.base.get? b=some o):b∉X.fs:=λhb=>by have:=(ok.funs.mem hb).1;rw[e] at this;cases this
def Inv.bs(I:Inv X pins σ H s):∀b o,X.base.get? b=some o->s.heap.get? b=some o/\H b=none:=λb o e =>
 ⟨I.base.keep b o (I.ok.bs b o e).1 (I.ok.bs b o e).2 (I.ok.nofr e) (I.ok.noex b o e),I.base.free b o (I.ok.bs b o e).1 (I.ok.bs b o e).2 (I.ok.noex b o e)⟩
def Inv.bk(I:Inv X pins σ H s):∀b o,X.base.get? b=some o->s.heap.get? b=some o:=λb o e=>(I.bs b o e).1
def Inv.mod(I:Inv X pins σ H s):Mod X.K X.mg X.base:=I.ok.mod
def Inv.kIn(I:Inv X pins σ H s):X.K.In s.heap:=I.ok.mod.kin.keeps I.bk
def Inv.lt(I:Inv X pins σ H s):X.env.locals<s.heap.objs.size:=let ⟨_,hn,_⟩:=I.loc;hn.lt
def Inv.sz(I:Inv X pins σ H s):X.s₀.heap.objs.size<=s.heap.objs.size:=Nat.le_trans I.ok.above (uR I.lt)
theorem Inv.nofs(I:Inv X pins σ H s){a:Addr}(h:s.heap.objs.size<=a):a∉X.fs:=λhb=>by obtain⟨_,o,ho,_⟩:=I.ok.funs.mem hb;exact absurd (dN (cJ ho) (Nat.le_trans I.sz h)) (gZ _)
theorem Inv.cne(I:Inv X pins σ H s):∀x c,X.env.cells.lookup x=some c->c≠X.env.locals:=λx c e z=>by obtain⟨v,o,ho,hd⟩:=I.cell x c e;obtain⟨m,⟨o',es,ep,ho',hd',_⟩,_⟩:=I.loc;rw[z,ho'] at ho;cases ho;rw[hd'] at hd;cases hd
theorem Inv.funs(I:Inv X pins σ H s):s.heap.FunFrames X.base X.outer:=by
 have all:∀(l:List Env),(∀b∈frs l,b∈X.fs)->X.s₀.heap.FunFrames X.base l->s.heap.FunFrames X.base l:=by
  intro l
  induction l with
  |nil=>intro _ _;trivial
  |cons env r ih =>
   intro hs hl;obtain⟨hk,⟨L,o,hf,hn,ho,hd⟩,hr⟩:=hl;have hL:L∈X.fs:=hs L (by unfold frs;rw[List.filterMap_cons,hf];exact fL);obtain⟨sl,e⟩:=I.base.slot L o ho (I.ok.frf L hL) hL λz=>I.ok.exfs L z hL;exact⟨hk,⟨L,_,hf,hn,e,hd⟩,ih (λb hb=>hs b (by unfold frs;rw[List.filterMap_cons,hf];exact cM _ hb)) hr⟩
 exact all X.outer (λ_ hb=>hb) I.ok.funs
theorem Inv.stack(I:Inv X pins σ H s):s.heap.FunFrames X.base X.stack:=by
 rcases I.ok.stk with e|⟨e,hf⟩
 .rw[e];exact I.funs
 .rw[e];obtain⟨m,hn,_⟩:=I.loc;refine .cons (by rw[I.ok.kind];decide) hf hn ?_ I.funs;exact Heap.get?_none_of_le (Nat.le_trans I.ok.bsz I.ok.above)
theorem Inv.stkSub(I:Inv X pins σ H s):∀b∈frs X.stack,b∈X.env.locals::X.fs:=λb hb=>by
 rcases I.ok.stk with e|⟨e,hf⟩
 .rw[e] at hb;exact cM _ hb
 .rw[e] at hb;unfold frs at hb;rw[List.filterMap_cons,hf] at hb;exact hb
theorem Inv.stkFree(I:Inv X pins σ H s):∀b∈frs X.stack,H b=none:=λb hb=>by
 rcases List.mem_cons.mp (I.stkSub b hb) with e|hb
 .rw[e];exact I.free
 .obtain⟨_,o,ho,_⟩:=I.ok.funs.mem hb;exact I.base.free b o ho (I.ok.frf b hb) λz=>I.ok.exfs b z hb
theorem Inv.step{g':Array GenState}{t':Nat}{d':Drawn}{ch:List Addr}(I:Inv X pins σ H s)(hch:∀b∈ch,(b∈X.ex\/X.s₀.heap.objs.size<=b)/\b≠X.env.locals/\(∀x c,X.env.cells.lookup x=some c->c≠b)/\∀p∈X.pn++pins,p.1≠b)(keep:∀b o,b≠X.env.locals->b∉X.fs->b∉ch->s.heap.get? b=some o->H b=none->h'.get? b=some o)(slot:∀b o,b≠X.env.locals->b∈X.fs->b∉ch->s.heap.get? b=some o->H b=none->∃sl,h'.get? b=some { o with slots:=sl })(free:∀b o,b∉ch->s.heap.get? b=some o->H b=none->H' b=none)(there:∀b o,b∉ch->s.heap.get? b=some o->∃o',h'.get? b=some o')(tups:∀b xs,H b=some (.tup xs)->H' b=some (.tup xs))(frzs:∀b o u,H b=some (.frz o u)->H' b=some (.frz o u))(tbls:∀b ps,H b=some (.tbl ps)->∃more,H' b=some (.tbl (ps++more)))(ns:∀m,s.heap.Ns X.env.locals m->h'.Ns X.env.locals m)(hok:gK X.prog X.w H' h')(hg:AllBare g'):
 Inv X pins σ H' { s with heap:=h',gens:=g',drawn:=d',toks:=t' }:=by
 have Xa:∀b o,X.s₀.heap.get? b=some o->b≠X.env.locals:=λb o e=>dJ (dN (cJ e) I.ok.above);have uo:∀b o,X.s₀.heap.get? b=some o->b∉X.ex->b∉ch:=λb o e hx hb=>by
  rcases(hch b hb).1 with z|z
  .exact hx z
  .exact absurd (dN (cJ e) z) (gZ _)
 have cellK:∀x c,X.env.cells.lookup x=some c->∀v,s.heap.IsCell c v->h'.IsCell c v:=λx c e v ⟨o,ho,hd⟩=>by
  have oY:c∉ch:=λz=>(hch c z).2.2.1 x c e rfl;by_cases hc:c∈X.fs
  .obtain⟨sl,q⟩:=slot c o (I.cne x c e) hc oY ho (I.freeC x c e);exact⟨_,q,hd⟩
  .exact⟨o,keep c o (I.cne x c e) hc oY ho (I.freeC x c e),hd⟩
 refine⟨I.ok,I.os,hg,⟨λb o e n hb hx=>?_,λb o e n hb hx=>?_,λb o e n hx=>?_,λb o e hx=>?_,λb xs e=>tups b xs (I.base.tups b xs e),λb o xs e=>frzs b o xs (I.base.frzs b o xs e),λb ps e=>?_⟩,?_,λx c e=>?_,?_,λx c e=>?_,λp hp=>?_,hok,I.len⟩
 .exact keep b o (Xa b o e) hb (uo b o e hx) (I.base.keep b o e n hb hx) (I.base.free b o e n hx)
 .obtain⟨sl,e1⟩:=I.base.slot b o e n hb hx;obtain⟨sl',e2⟩:=slot b _ (Xa b o e) hb (uo b o e hx) e1 (I.base.free b o e n hx);exact⟨sl',e2⟩
 .obtain⟨o',e1⟩:=I.base.there b o e hx;exact free b o' (uo b o e hx) e1 (I.base.free b o e n hx)
 .obtain⟨o',e1⟩:=I.base.there b o e hx;exact there b o' (uo b o e hx) e1
 .obtain⟨m1,e1⟩:=I.base.tbls b ps e;obtain⟨m2,e2⟩:=tbls b _ e1;exact⟨m1++m2,by rw[e2,Array.append_assoc]⟩
 .obtain⟨m,hn,hl⟩:=I.loc;refine⟨m,ns m hn,λi x v e1 e2 e3=>?_⟩;obtain⟨u,r,l⟩:=hl i x v e1 e2 e3;refine⟨u,r,?_⟩;rcases l with l|⟨k,c,e,z⟩
  .exact .inl l
  .exact .inr ⟨k,c,e,cellK x c e _ z⟩
 .obtain⟨v,z⟩:=I.cell x c e;exact⟨v,cellK x c e v z⟩
 .obtain⟨m,⟨o,_,_,ho,_⟩,_⟩:=I.loc;exact free _ o (λz=>(hch _ z).2.1 rfl) ho I.free
 .obtain⟨v,o,ho,hd⟩:=I.cell x c e;exact free c o (λz=>(hch c z).2.2.1 x c e rfl) ho (I.freeC x c e)
 .obtain⟨e,n,ne,nf,d⟩:=I.pin p hp;have oY:p.1∉ch:=λz=>(hch p.1 z).2.2.2 p hp rfl;exact⟨keep p.1 p.2 ne nf oY e n,free p.1 p.2 oY e n,ne,nf,d⟩
theorem Inv.un{t':Nat}(I:Inv X pins σ H s)(u:Un X.fs [] H H' s.heap h')(hok:gK X.prog X.w H' h'):Inv X pins σ H' { s with heap:=h',toks:=t' }:=by
 obtain⟨m,⟨o,es,ep,ho,r⟩,_⟩:=id I.loc;obtain⟨sl,hL⟩:=u.any ho I.free (by simp);exact I.step (g':=s.gens) (d':=s.drawn) (ch:=[]) (λ_ z=>nomatch z) (λb o _ hb _ e n=>u.keep b o e n hb (by simp)) (λb o _ hb _ e n=>u.slot b o e n hb (by simp)) (λb o _ e n=>u.free b o e n (by simp)) (λb o _ e=>u.there b o e (by simp)) u.tups u.frzs u.tbls (λm' hm=>by
  obtain⟨o',es',ep',ho',r'⟩:=hm;rw[ho] at ho';cases ho';exact⟨_,es',ep',hL,r'⟩) hok I.bare
theorem Inv.call{g':Array GenState}{t':Nat}{d':Drawn}{ch:List Addr}(I:Inv X pins σ H s)(u:Un (frs X.stack) ch H H' s.heap h')(hok:gK X.prog X.w H' h')(hg:AllBare g')(hch:∀b∈ch,(b∈X.ex\/X.s₀.heap.objs.size<=b)/\b≠X.env.locals/\(∀x c,X.env.cells.lookup x=some c->c≠b)/\∀p∈X.pn++pins,p.1≠b):
 Inv X pins σ H' { s with heap:=h',gens:=g',drawn:=d',toks:=t' }:=by
 obtain⟨m,⟨o,es,ep,ho,r⟩,_⟩:=id I.loc;obtain⟨sl,hL⟩:=u.any ho I.free λz=>(hch _ z).2.1 rfl;exact I.step (ch:=ch) hch (λb o hL hb hc e n=>u.keep b o e n (λz=>(List.mem_cons.mp (I.stkSub b z)).elim hL hb) hc) (λb o _ _ hc e n=>u.any e n hc) (λb o hc e n=>u.free b o e n hc) (λb o hc e=>u.there b o e hc) u.tups u.frzs u.tbls (λm' hm=>by
  obtain⟨o',es',ep',ho',r'⟩:=hm;rw[ho] at ho';cases ho';exact⟨_,es',ep',hL,r'⟩) hok hg
theorem Inv.turned{t':Nat}{it:Addr}(I:Inv X pins σ H s)(k:∀b o,b≠it->s.heap.get? b=some o->h'.get? b=some o)(hn:H it=none)(hL:it≠X.env.locals)(h1:it∈X.ex\/X.s₀.heap.objs.size<=it)(h2:∀x c,X.env.cells.lookup x=some c->c≠it)(h3:∀p∈X.pn++pins,p.1≠it):Inv X pins σ H { s with heap:=h',toks:=t' }:=by
 have W8:∀b u,H b=some u->b≠it:=λb u e z=>by rw[z,hn] at e;cases e
 refine I.step (g':=s.gens) (d':=s.drawn) (ch:=[it]) (λb hb=>?_) (λb o _ _ hc e _=>k b o (λz=>hc (by simp[z])) e) (λb o _ _ hc e _=>⟨o.slots,k b o (λz=>hc (by simp[z])) e⟩) (λ_ _ _ _ n=>n)
  (λb o hc e=>⟨o,k b o (λz=>hc (by simp[z])) e⟩) (λ_ _ e=>e) (λ_ _ _ e=>e) (λb ps e=>⟨#[],by rw[e];simp⟩) (λm hm=>?_) (λb u e=>?_) I.bare
 .have e:b=it:=by simpa using hb
  subst e;exact⟨h1,hL,h2,h3⟩
 .obtain⟨o,es,ep,ho,r⟩:=hm;exact⟨o,es,ep,k _ o (Ne.symm hL) ho,r⟩
 .refine(I.hok b u e).stay (λc v hc q=>k c v ?_ q) (λ_ q=>q) λ_ _ q=>q;rcases hc with z|z
  .rw[z];exact W8 b u e
  .exact W8 c _ z
def Inv.tok(I:Inv X pins σ H s)(t:Nat):Inv X pins σ H { s with toks:=t }:=I.un (h':=s.heap) (t':=t) Un.refl I.hok
def Inv.kept{t':Nat}(I:Inv X pins σ H s)(k:∀b u,s.heap.get? b=some u->h'.get? b=some u):Inv X pins σ H { s with heap:=h',toks:=t' }:=I.un (Un.kept k) (I.hok.kept k)
def Inv.laid{a:Addr}{o:HO}{t':Nat}(I:Inv X pins σ H s)(k:∀b u,s.heap.get? b=some u->h'.get? b=some u)(hp:s.heap.objs.size<=a)(new:bY X.prog X.w (upd H a o) h' a o):
 Inv X pins σ (upd H a o) { s with heap:=h',toks:=t' }:=I.un (Un.laid k hp (I.hok.fresh hp)) (I.hok.laid k hp new)
def Inv.write{x e:Addr}{o:HO}{t':Nat}(I:Inv X pins σ H s)(mu:Ho (H x))(he:e=x\/H e=some (.own x))(k:∀b u,b≠e->s.heap.get? b=some u->h'.get? b=some u)(heo:∃u,h'.get? e=some u)(new:bY X.prog X.w (upd H x o) h' x o):Inv X pins σ (upd H x o) { s with heap:=h',toks:=t' }:=I.un (Un.write mu he k heo) (I.hok.write mu he k heo new)
def Inv.pins_of{um:List (Addr×Obj)}(I:Inv X pins σ H s)(h:∀p∈um,s.heap.get? p.1=some p.2/\H p.1=none/\p.1≠X.env.locals/\p.1∉X.fs/\∀v,p.2.data ≠ .cell v):Inv X um σ H s :=
 ⟨I.ok,I.os,I.bare,I.base,I.loc,I.cell,I.free,I.freeC,λp hp=>(mH.mp hp).elim (λz=>I.pin p (List.mem_append_left _ z)) (h p),I.hok,I.len⟩
theorem Tp{N:List Str}(hN:N.Nodup){i j:Nat}{x:Str}(a:N[i]?=some x)(b:N[j]?=some x):i=j:=by obtain⟨h1,e1⟩:=fO.mp a;obtain⟨h2,e2⟩:=fO.mp b;exact(List.getElem_inj hN).mp (e1.trans e2.symm)
theorem zjP{M:Model}{A:Around}{E:Value->Shared->Prop}{i:Nat}{x:Str}{v:V}{u:Value}{Q:Unit->Shared->Prop}(I:Inv X pins σ H s)(hN:X.N.Nodup)(hi:X.N[i]?=some x)(hx:Loc X.env.scope x)(r:RelV v u)(h:∀s',Inv X pins (σ.set i (some v)) H s'->(∃a,Heap.SameBut a s.heap s'.heap/\(a=X.env.locals\/X.env.cells.lookup x=some a))->Q () s')(hf:X.fn x=true\/X.env.scope.names.lookup x=some .local:=by first|exact .inl rfl|exact .inr rfl|assumption):wpAny M A (storeName X.env x u) Q E s:=by
 obtain⟨m,hn,hl⟩:=id I.loc;have hcls:(X.env.scope.kind == .class||(X.env.scope.kind == .module&&X.env.locals != X.env.globals))=false:=by rw[I.ok.kind];rfl
 have hiσ:i<σ.length:=by rw[I.len];exact(fO.mp hi).1
 have cne:=I.cne;have tracked:∀{a:Addr} {h':Heap},(∃o,s.heap.get? a=some o/\H a=none)->Heap.SameBut a s.heap h'->gK X.prog X.w H h':=λ{a h'} ha hs b ob e=>by
  obtain⟨_,_,hfree⟩:=ha;refine(I.hok b ob e).stay (λc w' hc q=>(hs.2 c ?_).trans q) (λ_ q=>q) λ_ _ q=>q
  rintro rfl
  rcases hc with rfl|hc
  .rw[hfree] at e;cases e
  .rw[hfree] at hc;cases hc
 rcases hx with hk|hk
 .refine wpAny_storeName_local hk hn (λh' hn' hs=>?_) hcls;obtain⟨oL,_,_,hoL,_⟩:=id hn;refine h _ ⟨I.ok,I.os,I.bare,⟨λb o e n hb hx=>?_,λb o e n hb hx=>?_,I.base.free,λb o e hx=>?_,I.base.tups,I.base.frzs,I.base.tbls⟩,⟨_,hn',λj y v' e1 e2 e3=>?_⟩,λy c e=>?_,I.free,I.freeC,λp hp=>?_,tracked ⟨oL,hoL,I.free⟩ hs,by simpa using I.len⟩ ⟨_,hs,.inl rfl⟩
  .exact(hs.2 b (dJ (dN (cJ e) I.ok.above))).trans (I.base.keep b o e n hb hx)
  .obtain⟨sl,e1⟩:=I.base.slot b o e n hb hx;exact⟨sl,(hs.2 b (dJ (dN (cJ e) I.ok.above))).trans e1⟩
  .obtain⟨o',e1⟩:=I.base.there b o e hx;exact⟨o',(hs.2 b (dJ (dN (cJ e) I.ok.above))).trans e1⟩
  .by_cases hj:j=i
   .subst hj;rw[hi] at e1;cases e1;rw[List.getElem?_set_self hiσ] at e2;cases e2;exact⟨u,r,.inl ⟨hk,by simp⟩⟩
   .rw[List.getElem?_set_ne (Ne.symm hj)] at e2;obtain⟨u',r',q⟩:=hl j y v' e1 e2 e3;refine⟨u',r',?_⟩;rcases q with⟨k,e⟩|⟨k,c,e,z⟩
    .refine .inl ⟨k,?_⟩;have:y≠x:=λe=>hj (Tp hN e1 (e ▸ hi));simp[this,e]
    .exact .inr ⟨k,c,e,z.sameBut hs (cne y c e)⟩
  .obtain⟨w',z⟩:=I.cell y c e;exact⟨w',z.sameBut hs (cne y c e)⟩
  .obtain⟨e,n,ne,nf,d⟩:=I.pin p hp;exact⟨(hs.2 p.1 ne).trans e,n,ne,nf,d⟩
 .have hfn:X.fn x=true:=by
   rcases hf with z|z
   .exact z
   .rw[z] at hk;cases hk
  obtain⟨c,hc⟩:=I.ok.has x (.inl hk);obtain⟨w',z⟩:=I.cell x c hc;refine wpAny_storeName_cell I.ok.kind hk hc z (λh' hc' hs=>?_);obtain⟨oc,hoc,Pu⟩:=id z;refine h { s with heap:=h' } ⟨I.ok,I.os,I.bare,⟨λb o e n hb hx=>?_,λb o e n hb hx=>?_,I.base.free,λb o e hx=>?_,I.base.tups,I.base.frzs,I.base.tbls⟩,⟨m,hn.sameBut hs (Ne.symm (cne x c hc)),λj y v' e1 e2 e3=>?_⟩,λy c' e=>?_,I.free,I.freeC,λp hp=>?_,tracked ⟨oc,hoc,I.freeC x c hc⟩ hs,by simpa using I.len⟩ ⟨c,hs,.inr hc⟩
  .exact(hs.2 b (dJ (dN (cJ e) (I.ok.cab x c hfn hc)))).trans (I.base.keep b o e n hb hx)
  .obtain⟨sl,e1⟩:=I.base.slot b o e n hb hx;exact⟨sl,(hs.2 b (dJ (dN (cJ e) (I.ok.cab x c hfn hc)))).trans e1⟩
  .obtain⟨o',e1⟩:=I.base.there b o e hx;exact⟨o',(hs.2 b (dJ (dN (cJ e) (I.ok.cab x c hfn hc)))).trans e1⟩
  .by_cases hj:j=i
   .subst hj;rw[hi] at e1;cases e1;rw[List.getElem?_set_self hiσ] at e2;cases e2;exact⟨u,r,.inr ⟨.inl hk,c,hc,hc'⟩⟩
   .rw[List.getElem?_set_ne (Ne.symm hj)] at e2;obtain⟨u',r',q⟩:=hl j y v' e1 e2 e3;refine⟨u',r',?_⟩;rcases q with q|⟨k,c',e,z'⟩
    .exact .inl q
    .refine .inr ⟨k,c',e,z'.sameBut hs ?_⟩
     rintro rfl
     exact hj (Tp hN e1 (I.ok.inj _ _ _ e hc ▸ hi))
  .by_cases hcc:c'=c
   .subst hcc;exact⟨_,hc'⟩
   .obtain⟨w2,z2⟩:=I.cell y c' e;exact⟨w2,z2.sameBut hs hcc⟩
  .obtain⟨e,n,ne,nf,d⟩:=I.pin p hp;refine⟨(hs.2 p.1 ?_).trans e,n,ne,nf,d⟩;intro q;rw[q,hoc] at e;have q':oc=p.2:=Option.some.inj e;exact d w' (by rw[<-q'];exact Pu)
theorem J6{M:Model}{A:Around}{E:Value->Shared->Prop}{i:Nat}{x:Str}{v:V}{u:Value}{Q:Unit->Shared->Prop}(I:Inv X pins σ H s)(hN:X.N.Nodup)(hi:X.N[i]?=some x)(hx:Loc X.env.scope x)(r:RelV v u)(h:∀s',Inv X pins (σ.set i (some v)) H s'->Q () s')(hf:X.fn x=true\/X.env.scope.names.lookup x=some .local:=by first|exact .inl rfl|exact .inr rfl|assumption):wpAny M A (storeName X.env x u) Q E s :=
 zjP I hN hi hx r (λs' I' _=>h s' I') hf
theorem Inv.call'{s':Shared}{ch:List Addr}(I:Inv X pins σ H s)(ho:s'.os=s.os)(u:Un (frs X.stack) ch H H' s.heap s'.heap)(hok:gK X.prog X.w H' s'.heap)(hg:AllBare s'.gens)(hch:∀b∈ch,(b∈X.ex\/X.s₀.heap.objs.size<=b)/\b≠X.env.locals/\(∀x c,X.env.cells.lookup x=some c->c≠b)/\∀p∈X.pn++pins,p.1≠b):Inv X pins σ H' s':=by obtain⟨h',g',d',t',o'⟩:=s';have e:o'=s.os:=ho;subst e;exact I.call (g':=g') (t':=t') (d':=d') u hok hg hch
end
noncomputable abbrev XK:=Value->Option Addr->Hp->Prop
noncomputable abbrev St:=List (Option V)
noncomputable abbrev VK:=V->Hp->Prop
noncomputable abbrev TE:=St->Hp->VK->Prop
noncomputable abbrev TT:=St->Hp->(Bool->Hp->Prop)->Prop
noncomputable abbrev TA:=St->Hp->(List V->Hp->Prop)->Prop
structure uZ where
 nx:St->Hp->Prop
 rt:VK
 bk:St->Hp->Prop:=λ_ _=>False
 ct:St->Hp->Prop:=λ_ _=>False
noncomputable abbrev TS:=uZ->St->Hp->Prop
def EP(X:Cx)(pins:List (Addr×Obj))(σ:St)(Q:VK)(u:Value)(s':Shared):Prop:=∃v H',Inv X pins σ H' s'/\RelV v u/\Q v H'
def TP(X:Cx)(pins:List (Addr×Obj))(σ:St)(Q:Bool->Hp->Prop)(b:Bool)(s':Shared):Prop:=∃H',Inv X pins σ H' s'/\Q b H'
def AP(X:Cx)(pins:List (Addr×Obj))(σ:St)(Q:List V->Hp->Prop)(us:List Value)(s':Shared):Prop:=∃vs H',Inv X pins σ H' s'/\Vals vs us/\Q vs H'
noncomputable def SP(X:Cx)(pins:List (Addr×Obj))(D:uZ)(f:Flow)(s':Shared):Prop :=
 match f with
 |.next=>∃σ' H',Inv X pins σ' H' s'/\D.nx σ' H'
 |.brk=>∃σ' H',Inv X pins σ' H' s'/\D.bk σ' H'
 |.cont=>∃σ' H',Inv X pins σ' H' s'/\D.ct σ' H'
 |.ret u=>∃v σ' H',Inv X pins σ' H' s'/\RelV v u/\D.rt v H'
noncomputable def PE(X:Cx)(e:Expr)(t:TE):Prop :=
 ∀(pins:List (Addr×Obj)) (s:Shared) (σ:St) (H:Hp) (Q:VK),Inv X pins σ H s->t σ H Q->wpAny (model X.prog X.w) X.A (eval e X.env) (EP X pins σ Q) X.xe s
noncomputable def PT(X:Cx)(e:Expr)(t:TT):Prop :=
 ∀(pins:List (Addr×Obj)) (s:Shared) (σ:St) (H:Hp) (Q:Bool->Hp->Prop),Inv X pins σ H s->t σ H Q->wpAny (model X.prog X.w) X.A (isTrue e X.env (eval e X.env)) (TP X pins σ Q) X.xe s
noncomputable def PW(X:Cx)(e:Expr)(t:TT):Prop :=
 ∀(whole:Sem Value) (pins:List (Addr×Obj)) (s:Shared) (σ:St) (H:Hp) (Q:Bool->Hp->Prop),Inv X pins σ H s->t σ H Q->wpAny (model X.prog X.w) X.A (isTrue e X.env whole) (TP X pins σ Q) X.xe s
def PW.pt{X:Cx}{e:Expr}{t:TT}(h:PW X e t):PT X e t:=h _
noncomputable def PA(X:Cx)(es:List Expr)(t:TA):Prop :=
 ∀(pos:Pos) (pins:List (Addr×Obj)) (s:Shared) (σ:St) (H:Hp) (Q:List V->Hp->Prop),Inv X pins σ H s->t σ H Q->wpAny (model X.prog X.w) X.A (spliced (backTo pos (starEach es X.env))) (AP X pins σ Q) X.xe s
noncomputable def PS(X:Cx)(st:Stmt)(t:TS):Prop :=
 ∀(pins:List (Addr×Obj)) (s:Shared) (σ:St) (H:Hp) (D:uZ),Inv X pins σ H s->t D σ H->wpAny (model X.prog X.w) X.A (exec st X.env) (SP X pins D) X.xe s
noncomputable def jT(X:Cx)(st:List Stmt)(t:TS):Prop :=
 ∀(pins:List (Addr×Obj)) (s:Shared) (σ:St) (H:Hp) (D:uZ),Inv X pins σ H s->t D σ H->wpAny (model X.prog X.w) X.A (execs st X.env) (SP X pins D) X.xe s
def bR{α:Type}{t:Sem α}{Q Q':α->Shared->Prop}{M:Model}{A:Around}{E:Value->Shared->Prop}{s:Shared}(h:wpAny M A t Q E s)(hQ:∀a s,Q a s->Q' a s):wpAny M A t Q' E s:=kh h hQ λ_ _ x=>x
section
variable {X:Cx}
noncomputable def Oa(i:Nat):TE:=λσ H Q=>∃v,σ[i]?=some (some v)/\Q v H
noncomputable def tC(v:V):TE:=λ_ H Q=>Q v H
theorem YF{i:Nat}{x:Str}{pos:Pos}(hN:X.N[i]?=some x)(hv:Hl X.env.scope x)(hd:(x==("__debug__" : Str))=false:=by decide)(hcd:(x==("__classdict__" : Str))=false:=by decide):PE X (.Name x pos) (Oa i):=by
 intro pins s σ H Q I h;obtain⟨v,e,h⟩:=h;obtain⟨m,hn,hl⟩:=I.loc;obtain⟨u,r,l⟩:=hl i x v hN e hv;have fin:EP X pins σ Q u s:=⟨v,H,I,r,h⟩
 rcases l with⟨hk,hm⟩|⟨hk,c,hc,hcell⟩
 .exact wpAny_Name (wpAny_loadName_local I.ok.kind hk hn hm fin) hd
 .rcases hk with hk|hk
  .exact wpAny_Name (wpAny_loadName_cell I.ok.kind hk hc hcell fin) hd
  .exact wpAny_Name (wpAny_loadName_free I.ok.kind hk hc hcell fin hcd) hd
def Zy{i j pos}:PE X (.Constant (.int i) j pos) (tC (.int i)):=λ_ _ _ H _ I h=>wpAny_Constant_int ⟨.int i,H,I.tok _,⟨_,rfl⟩,h⟩
def Yr{b j pos}:PE X (.Constant (.bool b) j pos) (tC (.bl b)):=λ_ _ _ H _ I h=>Constant_bool ⟨.bl b,H,I,rfl,h⟩
def ZC{j pos}:PE X (.Constant .none j pos) (tC .non):=λ_ _ _ H _ I h=>Constant_none ⟨.non,H,I,rfl,h⟩
def YC{x j pos}:PE X (.Constant (.str x) j pos) (tC (.str x)):=λ_ _ _ H _ I h=>Calls.Constant_str ⟨.str x,H,I.tok _,⟨_,rfl⟩,h⟩
def Gl(X:Cx)(x:Str):Prop:=X.env.kindOf x=some .globalImplicit
theorem Js{E:Value->Shared->Prop}{pins:List (Addr×Obj)}{s:Shared}{σ:St}{H:Hp}{x:Str}{u:Value}{pos:Pos}{Q:Value->Shared->Prop}(I:Inv X pins σ H s)(hg:Gl X x)(hm:X.mg x=some u)(h:Q u s)(hd:(x==("__debug__" : Str))=false:=by decide):wpAny (model X.prog X.w) X.A (eval (.Name x pos) X.env) Q E s :=
 Calls.Name_function_global I.ok.kind hg (Calls.loadGlobal_global (by rw[I.ok.glob];exact I.mod.glob.keeps I.bk) hm h) hd
theorem q9{E:Value->Shared->Prop}{pins:List (Addr×Obj)}{s:Shared}{σ:St}{H:Hp}{x:Str}{u:Value}{pos:Pos}{Q:Value->Shared->Prop}(I:Inv X pins σ H s)(hg:Gl X x)(hm:X.mg x=none)(hv:bootBuiltins x=some u)(h:Q u s)(hn:x ≠ "__name__" := by decide)(hd:(x==("__debug__" : Str))=false:=by decide):wpAny (model X.prog X.w) X.A (eval (.Name x pos) X.env) Q E s:=by obtain⟨mb,h1,h2⟩:=I.mod.blt;exact Calls.Name_function_global I.ok.kind hg (Calls.loadGlobal_builtin (by rw[I.ok.glob];exact I.mod.glob.keeps I.bk) hm (by rw[I.ok.blt];exact h1.keeps I.bk) ((h2 x hn).trans hv) h) hd
theorem zol{x:Str}{v:V}{u:Value}{pos:Pos}(hg:Gl X x)(hm:X.mg x=none)(hv:bootBuiltins x=some u)(r:RelV v u)(hn:x ≠ "__name__" := by decide)(hd:(x==("__debug__" : Str))=false:=by decide):PE X (.Name x pos) (tC v) :=
 λ_ _ _ H _ I h=>q9 I hg hm hv ⟨v,H,I,r,h⟩ hn hd
variable {a b:Expr}{ta tb:TE}{pos:Pos}
variable {tA GX:TT}{rest:List Expr}
noncomputable def Oq(t u:TT):TT:=λσ H Q=>t σ H λc H1=>if c=true then u σ H1 Q else Q false H1
noncomputable def tOr(t u:TT):TT:=λσ H Q=>t σ H λc H1=>if c=true then Q true H1 else u σ H1 Q
noncomputable def Og(t:TT):TT:=λσ H Q=>t σ H λc H1=>Q (!c) H1
theorem zn3(ha:PT X a tA):PW X (.BoolOp .And [a] pos) tA:=by
 intro wh pins s σ H Q I h;refine isTrue_and (bR (ha pins s σ H Q I h) λc s1 e=>?_);cases c with
 |true=>exact isTrue_and_nil e
 |false=>exact e
theorem YZ(ha:PT X a tA):PW X (.BoolOp .Or [a] pos) tA:=by
 intro wh pins s σ H Q I h;refine isTrue_or (bR (ha pins s σ H Q I h) λc s1 e=>?_);cases c with
 |false=>exact isTrue_or_nil e
 |true=>exact e
theorem YX(ha:PT X a tA)(hb:PW X (.BoolOp .And (b::rest) pos) GX):PW X (.BoolOp .And (a::b::rest) pos) (Oq tA GX):=by
 intro wh pins s σ H Q I h;refine isTrue_and (bR (ha pins s σ H _ I h) λc s1 ⟨H1,I1,q1⟩=>?_);cases c with
 |true=>exact hb wh pins s1 σ H1 Q I1 q1
 |false=>exact⟨H1,I1,q1⟩
theorem Yz(ha:PT X a tA)(hb:PW X (.BoolOp .Or (b::rest) pos) GX):PW X (.BoolOp .Or (a::b::rest) pos) (tOr tA GX):=by
 intro wh pins s σ H Q I h;refine isTrue_or (bR (ha pins s σ H _ I h) λc s1 ⟨H1,I1,q1⟩=>?_);cases c with
 |true=>exact⟨H1,I1,q1⟩
 |false=>exact hb wh pins s1 σ H1 Q I1 q1
def YT(ha:PT X a tA):PT X (.UnaryOp .Not a pos) (Og tA):=by intro pins s σ H Q I h;exact isTrue_not (ha pins s σ H (λc H1=>Q (!c) H1) I h)
noncomputable def Bs(ta tb:TE):TE:=λσ H Q=>ta σ H λx H1=>∃c,x = .bl c/\if c=true then tb σ H1 Q else Q (.bl false) H1
noncomputable def Oe(ta tb:TE):TE:=λσ H Q=>ta σ H λx H1=>∃c,x = .bl c/\if c=true then Q (.bl true) H1 else tb σ H1 Q
noncomputable def Bj(ta:TE):TE:=λσ H Q=>ta σ H λx H1=>∃c,x = .bl c/\Q (.bl (!c)) H1
def ZF{op}{t:TE}(h:PE X a t):PE X (.BoolOp op [a] pos) t:=λpins s σ H Q I hw=>BoolOp_one (h pins s σ H Q I hw)
theorem Zv(ha:PE X a ta)(hb:PE X (.BoolOp .And (b::rest) pos) tb):PE X (.BoolOp .And (a::b::rest) pos) (Bs ta tb):=by
 intro pins s σ H Q I h;refine BoolOp_and (bR (ha pins s σ H _ I h) λv s1 ⟨x,H1,I1,r1,q1⟩=>?_);obtain⟨c,rfl,q1⟩:=q1;cases r1;refine wpAny_truthy_bool ?_;cases c with
 |true=>exact hb pins s1 σ H1 Q I1 q1
 |false=>exact⟨.bl false,H1,I1,rfl,q1⟩
theorem Yw(ha:PE X a ta)(hb:PE X (.BoolOp .Or (b::rest) pos) tb):PE X (.BoolOp .Or (a::b::rest) pos) (Oe ta tb):=by
 intro pins s σ H Q I h;refine BoolOp_or (bR (ha pins s σ H _ I h) λv s1 ⟨x,H1,I1,r1,q1⟩=>?_);obtain⟨c,rfl,q1⟩:=q1;cases r1;refine wpAny_truthy_bool ?_;cases c with
 |false=>exact hb pins s1 σ H1 Q I1 q1
 |true=>exact⟨.bl true,H1,I1,rfl,q1⟩
theorem ZD(ha:PE X a ta):PE X (.UnaryOp .Not a pos) (Bj ta):=by intro pins s σ H Q I h;refine UnaryOp_ (bR (ha pins s σ H _ I h) λv s1 ⟨x,H1,I1,r1,q1⟩=>?_);obtain⟨c,rfl,q1⟩:=q1;cases r1;exact not_of (wpAny_truthy_bool ⟨.bl (!c),H1,I1,rfl,q1⟩)
noncomputable def tIf(t:TT)(ta tb:TE):TE:=λσ H Q=>t σ H λc H1=>if c=true then ta σ H1 Q else tb σ H1 Q
theorem zmd{c:Expr}(hc:PT X c tA)(ha:PE X a ta)(hb:PE X b tb):PE X (.IfExp c a b pos) (tIf tA ta tb):=by
 intro pins s σ H Q I h;refine wpAny_IfExp (bR (hc pins s σ H _ I h) λd s1 ⟨H1,I1,q1⟩=>?_);cases d with
 |true=>exact ha pins s1 σ H1 Q I1 q1
 |false=>exact hb pins s1 σ H1 Q I1 q1
end
noncomputable def dI(K:FgA)(H:Hp)(a:Addr)(xs:List V):Prop :=
 Rd H a (.lst xs) \/
  ∃(o:Obj) (its:Array Value) (n:Nat),K.lookup a=some o/\o.cls = .type "list" /\ o.dict=none/\o.data = .seq its n/\its.size<=sizeLine/\Vals xs its.toList
noncomputable def dM(K:FgA)(H:Hp)(a:Addr)(xs:List V):Prop :=
 Rd H a (.tup xs) \/
  ∃(o:Obj) (its:Array Value) (n:Nat),K.lookup a=some o/\o.cls = .type "tuple" /\ o.data = .seq its n/\its.size<=sizeLine/\Vals xs its.toList
noncomputable def Qk:Value->Option V
 |.none=>some .non
 |.bool b=>some (.bl b)
 |.int i _=>some (.int i)
 |.str x _=>some (.str x)
 |.bytes b _=>some (.byt b)
 |.float b _=>some (.flt b)
 |.ref a=>some (.ref a)
 |.type n=>some (.ty n)
 |_=>none
theorem RelV.abs{x:V}{u:Value}(r:RelV x u):Qk u=some x:=by
 cases x with
 |non=>cases r;rfl
 |bl _=>cases r;rfl
 |int _=>obtain⟨t,rfl⟩:=r;rfl
 |str _=>obtain⟨t,rfl⟩:=r;rfl
 |byt _=>obtain⟨t,rfl⟩:=r;rfl
 |flt _=>obtain⟨t,rfl⟩:=r;rfl
 |ref _=>cases r;rfl
 |ty _=>cases r;rfl
def RelV.inj{x y:V}{u:Value}(r:RelV x u)(q:RelV y u):x=y:=Option.some.inj (r.abs.symm.trans q.abs)
theorem Vals.inj:∀{xs ys:List V} {us:List Value},Vals xs us->Vals ys us->xs=ys
 |_,_,_,.nil,.nil=>rfl
 |_,_,_,.cons r t,.cons r' t'=>by rw[r.inj r',Vals.inj t t']
section
variable {X:Cx}{pins:List (Addr×Obj)}{σ:St}{H:Hp}{s:Shared}{a:Addr}{xs ys:List V}
def dI.of{K:FgA}(h:H a=some (.lst xs)):dI K H a xs := .inl (.inl h)
def dM.of{K:FgA}(h:H a=some (.tup xs)):dM K H a xs := .inl (.inl h)
theorem Inv.list(I:Inv X pins σ H s)(h:dI X.K H a xs):∃its:List Value,Vals xs its/\PlainL s.heap a its.toArray/\xs.length<=sizeLine:=by
 rcases h with h|⟨o,its,n,hk,hc,hd,hs,hz,r⟩
 .obtain⟨z,its,n,r,e⟩:=h.ok I.hok;exact⟨its,r,⟨_,n,e,rfl,rfl,rfl⟩,z⟩
 .refine⟨its.toList,r,⟨o,n,I.kIn a o hk,hc,hd,by simpa using hs⟩,?_⟩;have e:=r.length;simp only[Array.length_toList] at e;omega
theorem Inv.tuple(I:Inv X pins σ H s)(h:dM X.K H a xs):∃its:List Value,Vals xs its/\IsTup s.heap a its.toArray/\xs.length<=sizeLine:=by
 rcases h with h|⟨o,its,n,hk,hc,hs,hz,r⟩
 .obtain⟨z,its,r,p⟩:=h.ok I.hok;exact⟨its,r,p,z⟩
 .refine⟨its.toList,r,⟨o,I.kIn a o hk,hc,n,by simpa using hs⟩,?_⟩;have e:=r.length;simp only[Array.length_toList] at e;omega
theorem Inv.list_inj(I:Inv X pins σ H s)(h:dI X.K H a xs)(h':dI X.K H a ys):xs=ys:=by
 obtain⟨its,r,⟨o,n,e,_,_,d⟩,_⟩:=I.list h;obtain⟨its',r',⟨o',n',e',_,_,d'⟩,_⟩:=I.list h';rw[e] at e';cases e';rw[d] at d';injection d' with d1 _;have:its=its':=by simpa using congrArg Array.toList d1
 subst this;exact r.inj r'
theorem Inv.tuple_inj(I:Inv X pins σ H s)(h:dM X.K H a xs)(h':dM X.K H a ys):xs=ys:=by
 obtain⟨its,r,⟨o,e,_,n,d⟩,_⟩:=I.tuple h;obtain⟨its',r',⟨o',e',_,n',d'⟩,_⟩:=I.tuple h';rw[e] at e';cases e';rw[d] at d';injection d' with d1 _;have:its=its':=by simpa using congrArg Array.toList d1
 subst this;exact r.inj r'
end
noncomputable abbrev Cx.wish(X:Cx)(E:Value->Shared->Prop):Cx:={ X with xe:=E }
noncomputable abbrev Cx.nox(X:Cx):Cx:=X.wish λ_ _=>False
def Cx.Ok.wish{X:Cx}(ok:X.Ok)(E:Value->Shared->Prop):(X.wish E).Ok :=
 ⟨ok.mod,ok.kind,ok.glob,ok.blt,ok.above,ok.inj,ok.has,ok.cab,ok.hd,ok.frames,ok.stk,ok.exf,ok.bs,ok.bsz,ok.noex,ok.exfs,ok.funs,ok.frf⟩
def Cx.Ok.unwish{X:Cx}{E:Value->Shared->Prop}(ok:(X.wish E).Ok):X.Ok :=
 ⟨ok.mod,ok.kind,ok.glob,ok.blt,ok.above,ok.inj,ok.has,ok.cab,ok.hd,ok.frames,ok.stk,ok.exf,ok.bs,ok.bsz,ok.noex,ok.exfs,ok.funs,ok.frf⟩
section
variable {X:Cx}{pins:List (Addr×Obj)}{σ:St}{H:Hp}{s:Shared}{E:Value->Shared->Prop}
def Inv.wish(I:Inv X pins σ H s)(E:Value->Shared->Prop):Inv (X.wish E) pins σ H s:=⟨I.ok.wish E,I.os,I.bare,I.base,I.loc,I.cell,I.free,I.freeC,I.pin,I.hok,I.len⟩
def Inv.unwish(I:Inv (X.wish E) pins σ H s):Inv X pins σ H s:=⟨I.ok.unwish,I.os,I.bare,I.base,I.loc,I.cell,I.free,I.freeC,I.pin,I.hok,I.len⟩
theorem SP.unwish{D:uZ}{f:Flow}{s':Shared}(h:SP (X.wish E) pins D f s'):SP X pins D f s':=by
 cases f with
 |next=>obtain⟨σ',H',I,q⟩:=h;exact⟨σ',H',I.unwish,q⟩
 |brk=>obtain⟨σ',H',I,q⟩:=h;exact⟨σ',H',I.unwish,q⟩
 |cont=>obtain⟨σ',H',I,q⟩:=h;exact⟨σ',H',I.unwish,q⟩
 |ret u=>obtain⟨v,σ',H',I,r,q⟩:=h;exact⟨v,σ',H',I.unwish,r,q⟩
def PE.nox{e:Expr}{t:TE}(h:PE X.nox e t):PE X e t:=λpins s σ H Q I hw =>
 kh (h pins s σ H Q (I.wish _) hw) (λ_ _ ⟨v,H',I',r,q⟩=>⟨v,H',I'.unwish,r,q⟩) λ_ _ z=>False.elim z
def jT.nox{st:List Stmt}{t:TS}(h:jT X.nox st t):jT X st t:=λpins s σ H D I hw =>
 kh (h pins s σ H D (I.wish _) hw) (λ_ _ q=>q.unwish) λ_ _ z=>False.elim z
end
section
variable {X:Cx}{st:Stmt}{rest:List Stmt}{t u:TS}{e:Expr}{te:TE}{pos:Pos}
noncomputable def HN:TS:=λD σ H=>D.nx σ H
noncomputable def Oc(t u:TS):TS:=λD σ H=>t { D with nx:=u D } σ H
def zn7:jT X [] HN:=λ_ _ σ H _ I h=>wpAny_execs_nil ⟨σ,H,I,h⟩
theorem zl2(h1:PS X st t)(h2:jT X rest u):jT X (st::rest) (Oc t u):=by
 intro pins s σ H D I h;refine wpAny_execs_cons (bR (h1 pins s σ H { D with nx:=u D } I h) λf s1 q=>?_);cases f with
 |next =>
  obtain⟨σ',H',I',q⟩:=q;exact h2 pins s1 σ' H' D I' q
 |ret v=>exact q
 |brk=>exact q
 |cont=>exact q
noncomputable def vV:TS:=λD σ H=>D.bk σ H
noncomputable def Bo:TS:=λD σ H=>D.ct σ H
def zn9:PS X (.Pass pos) HN:=λ_ _ σ H _ I h=>wpAny_Pass ⟨σ,H,I,h⟩
def zl5:PS X (.Break pos) vV:=λ_ _ σ H _ I h=>wpAny_Break ⟨σ,H,I,h⟩
def zhM:PS X (.Continue pos) Bo:=λ_ _ σ H _ I h=>wpAny_Continue ⟨σ,H,I,h⟩
def Inv.quiet{pins:List (Addr×Obj)}{σ:St}{H:Hp}{s:Shared}(I:Inv X pins σ H s):interactive X.env=false:=by simp[interactive,I.ok.kind]
def YK{x j pos pos'}:PS X (.Expr (.Constant (.str x) j pos) pos') HN:=λ_ s σ H _ I h=>wpAny_Expr (Calls.Constant_str (show SP X _ _ .next { s with toks:=s.toks+1 } from⟨σ,H,I.tok _,h⟩)) I.quiet
noncomputable def Bm(te:TE):TS:=λD σ H=>te σ H λ_ H1=>D.nx σ H1
theorem zoa(he:PE X e te)(hs:swapsWith e none pos.line X.env=pure false:=by rfl):PS X (.Expr e pos) (Bm te):=by intro pins s σ H D I h;exact wpAny_Expr_any (bR (he pins s σ H _ I h) λv s1 ⟨x,H1,I1,r1,q1⟩=>⟨σ,H1,I1,q1⟩) I.quiet hs
noncomputable def Od(te:TE):TS:=λD σ H=>te σ H D.rt
theorem YQ(he:PE X e te):PS X (.Return (some e) pos) (Od te):=by intro pins s σ H D I h;exact wpAny_Return_some (bR (he pins s σ H _ I h) λv s1 ⟨x,H1,I1,r1,q1⟩=>⟨x,σ,H1,I1,r1,q1⟩)
noncomputable def Bg:TS:=λD _ H=>D.rt .non H
def zn8:PS X (.Return none pos) Bg:=λ_ _ σ H _ I h=>wpAny_Return_none ⟨.non,σ,H,I,rfl,h⟩
noncomputable def Oj(c:TT)(t u:TS):TS:=λD σ H=>c σ H λb H1=>if b=true then t D σ H1 else u D σ H1
theorem Yy{c:Expr}{a b:List Stmt}{tc:TT}(hc:PT X c tc)(ha:jT X a t)(hb:jT X b u):PS X (.If c a b pos) (Oj tc t u):=by
 intro pins s σ H D I h;refine wpAny_If (bR (hc pins s σ H _ I h) λd s1 ⟨H1,I1,q1⟩=>?_);cases d with
 |true=>exact ha pins s1 σ H1 D I1 q1
 |false=>exact hb pins s1 σ H1 D I1 q1
end
noncomputable abbrev TG:=V->St->Hp->(St->Hp->Prop)->Prop
noncomputable abbrev qC:=List V->St->Hp->(St->Hp->Prop)->Prop
noncomputable def PG(X:Cx)(target:Expr)(t:TG):Prop :=
 ∀(pins:List (Addr×Obj)) (s:Shared) (σ:St) (H:Hp) (v:V) (u:Value) (Q:St->Hp->Prop),Inv X pins σ H s->RelV v u->t v σ H Q ->
  wpAny (model X.prog X.w) X.A (assign target X.env u) (λ_ s'=>∃σ' H',Inv X pins σ' H' s'/\Q σ' H') X.xe s
noncomputable def yX(X:Cx)(ts:List Expr)(t:qC):Prop :=
 ∀(pins:List (Addr×Obj)) (s:Shared) (σ:St) (H:Hp) (vs:List V) (us:List Value) (Q:St->Hp->Prop),Inv X pins σ H s->Vals vs us->t vs σ H Q ->
  wpAny (model X.prog X.w) X.A (assignInOrder ((assignEach ts X.env).map (·.2)) us) (λ_ s'=>∃σ' H',Inv X pins σ' H' s'/\Q σ' H') X.xe s
section
variable {X:Cx}{pos:Pos}
noncomputable def uD(i:Nat):TG:=λv σ H Q=>Q (σ.set i (some v)) H
theorem zog{i:Nat}{x:Str}(hN:X.N.Nodup)(hi:X.N[i]?=some x)(hx:Loc X.env.scope x)(hf:X.fn x=true\/X.env.scope.names.lookup x=some .local:=by first|exact .inl rfl|exact .inr rfl|assumption):PG X (.Name x pos) (uD i):=by intro pins s σ H v u Q I r h;exact wpAny_assign_Name (J6 I hN hi hx r (λs' I'=>⟨_,H,I',h⟩) hf)
noncomputable def PL:qC:=λvs σ H Q=>vs=[]/\Q σ H
noncomputable def Dc(t:TG)(u:qC):qC:=λvs σ H Q=>∃v r,vs=v::r/\t v σ H λσ' H'=>u r σ' H' Q
def zoe:yX X [] PL:=by intro pins s σ H vs us Q I r h;obtain⟨e,h⟩:=h;subst e;cases r;exact assignInOrder_nil ⟨σ,H,I,h⟩
theorem zma{e:Expr}{es:List Expr}{t:TG}{u:qC}(h1:PG X e t)(h2:yX X es u)(hs:(assignEach (e::es) X.env).map (·.2)=assign e X.env::(assignEach es X.env).map (·.2):=by rfl):yX X (e::es) (Dc t u):=by
 intro pins s σ H vs us Q I r h;obtain⟨v,vr,e1,h⟩:=h;subst e1;cases r with
 |cons r rr =>
  rw[hs];refine assignInOrder_cons (bR (h1 pins s σ H _ _ _ I r h) λ_ s1 ⟨σ1,H1,I1,q1⟩=>?_);exact h2 pins s1 σ1 H1 _ _ Q I1 rr q1
noncomputable def bL(K:FgA)(n:Nat)(t:qC):TG:=λv σ H Q=>∃a xs,v = .ref a/\dM K H a xs/\xs.length=n/\t xs σ H Q
theorem YG{es:List Expr}{k:Nat}{t:qC}{n:Nat}(hc:X.calm=true)(h:yX X es t)(hn:(assignEach es X.env).length=n:=by rfl)(hst:(assignEach es X.env).findIdx? (·.1)=none:=by rfl):PG X (.Tuple es k pos) (bL X.K n t):=by intro pins s σ H v u Q I r hw;obtain⟨a,xs,e1,hq,hl,hw⟩:=hw;subst e1;cases r;obtain⟨its,rv,ht,hz⟩:=I.tuple hq;refine assign_Tuple_tuple (I.ok.hd hc) ht (by simp[hn,<-hl,rv.length]) hst λh' hx=>?_;have I1:Inv X pins σ H { s with heap:=h' }:=I.kept (t':=s.toks) λb o e=>hx b o (dJ (cJ e)) e;exact h pins _ σ H xs _ Q I1 (by simpa using rv) hw
noncomputable def Br(te:TE)(g:TG):TS:=λD σ H=>te σ H λx H1=>g x σ H1 D.nx
theorem YJ{tg e:Expr}{te:TE}{g:TG}(he:PE X e te)(hg:PG X tg g)(hs:swapsWithSole [tg] e pos.line X.env=pure false:=by rfl)(hw:swappedStores [tg] e X.env=pure none:=by rfl)(h1:(assignEach [tg] X.env).map (·.2)=[assign tg X.env]:=by rfl):PS X (.Assign [tg] e pos) (Br te g):=by intro pins s σ H D I h;refine wpAny_Assign_stores (bR (he pins s σ H _ I h) λv s1 ⟨x,H1,I1,r1,q1⟩=>?_) hs hw;rw[h1];exact bR (hg pins s1 σ H1 x v _ I1 r1 q1) λ_ s2 q=>q
theorem YS{i:Nat}{x:Str}{e:Expr}{te:TE}{pos':Pos}(hN:X.N.Nodup)(hi:X.N[i]?=some x)(hx:Loc X.env.scope x)(he:PE X e te)(hs:swapsWith e (some (.Name x pos')) pos.line X.env=pure false:=by rfl)(hf:X.fn x=true\/X.env.scope.names.lookup x=some .local:=by first|exact .inl rfl|exact .inr rfl|assumption):
 PS X (.Assign [.Name x pos'] e pos) (Br te (uD i)):=by
 intro pins s σ H D I h;refine wpAny_Assign_Name (bR (he pins s σ H _ I h) λv s1 ⟨y,H1,I1,r1,q1⟩=>?_) hs;exact J6 I1 hN hi hx r1 (λs2 I2=>⟨_,H1,I2,q1⟩) hf
end
section
variable {X:Cx}{pos:Pos}
noncomputable def vU(c:TT)(tb:TS):TS:=λD σ H=>∃W:Nat->St->Hp->Prop,(∃m,W m σ H)/\∀m σ H,W m σ H ->
 c σ H λb H1=>if b=true then ∃N:St->Hp->Prop,(∀σ' H',N σ' H'->∃m',m'<m/\W m' σ' H')/\tb { D with nx:=N,ct:=N,bk:=D.nx } σ H1 else D.nx σ H1
theorem zl3{c:Expr}{body:List Stmt}{tc:TT}{tb:TS}(hp:PassesOwn (model X.prog X.w) X.A X.env X.xe)(hc:PT X c tc)(hb:jT X body tb):PS X (.While c body [] pos) (vU tc tb):=by
 intro pins s σ H D I h;obtain⟨W,⟨m0,w0⟩,turn⟩:=h;refine wpAny_While (codeAny_whileLoop (λn s'=>∃σ' H',Inv X pins σ' H' s'/\W n σ' H') ?_ m0 ⟨σ,H,I,w0⟩)
 rintro n s1 ⟨σ1,H1,I1,w1⟩
 refine wpAny_passesOwn hp (bR (hc pins s1 σ1 H1 _ I1 (turn n σ1 H1 w1)) λb s2 ⟨H2,I2,q2⟩=>?_);cases b with
 |true =>
  obtain⟨N,hN,q2⟩:=q2;rw[if_pos rfl];refine wpAny_passesOwn hp (bR (hb pins s2 σ1 H2 _ I2 q2) λf s3 q3=>?_);cases f with
  |next =>
   obtain⟨σ3,H3,I3,n3⟩:=q3;obtain⟨m',hm,w3⟩:=hN σ3 H3 n3;exact⟨m',hm,σ3,H3,I3,w3⟩
  |cont =>
   obtain⟨σ3,H3,I3,n3⟩:=q3;obtain⟨m',hm,w3⟩:=hN σ3 H3 n3;exact⟨m',hm,σ3,H3,I3,w3⟩
  |brk=>exact q3
  |ret v=>exact q3
 |false =>
  rw[if_neg gM];exact wpAny_execs_nil ⟨σ1,H2,I2,q2⟩
end
structure It where
 go:Nat->Hp->Prop
 yld:Nat->Hp->V->Hp->Prop
 stop:Nat->Hp->Prop
noncomputable def kE(X:Cx)(pins:List (Addr×Obj))(H:Hp)(b:Addr):Prop :=
 H b=none/\b≠X.env.locals/\b∉X.fs/\(b∈X.ex\/X.s₀.heap.objs.size<=b)/\(∀x c,X.env.cells.lookup x=some c->c≠b)/\∀p∈X.pn++pins,p.1≠b
theorem Inv.fpOk{X:Cx}{pins:List (Addr×Obj)}{σ:St}{H H':Hp}{s:Shared}{b:Addr}(I:Inv X pins σ H s)(hb:s.heap.objs.size<=b)(hn:H' b=none):kE X pins H' b:=by
 refine⟨hn,Nat.ne_of_gt (dN I.lt hb),I.nofs hb,.inr (Nat.le_trans I.sz hb),λx c e z=>?_,λp hp z=>?_⟩
 .obtain⟨v,q⟩:=I.cell x c e;exact absurd (dN q.lt (by rw[z];exact hb)) (gZ _)
 .exact absurd (dN (cJ (I.pin p hp).1) (by rw[z];exact hb)) (gZ _)
structure u6(P:Program)(w:World)(K:FgA)(tg:Expr)(J:It)(fp:List Addr)(it:Addr)(tn:Nat->Heap->Prop):Prop where
 mem:it∈fp
 obj:∀i h,tn i h->∀b∈fp,∃o,h.get? b=some o/\∀v,o.data ≠ .cell v
 keep:∀i h h',tn i h->(∀b∈fp,∀o,h.get? b=some o->h'.get? b=some o)->tn i h'
 item:∀(X:Cx),X.prog=P->X.w=w->X.K=K->X.calm=true->∀(i:Nat) (pins:List (Addr×Obj)) (s:Shared) (σ:St) (H:Hp) (E:Value->Shared->Prop),Inv X pins σ H s->(∀b∈fp,kE X pins H b)->tn i s.heap->J.go i H ->
  wpAny (model P w) X.A (pyNext (.ref it)) (λr s1=>∃u,r=some u /\
   wpAny (model P w) X.A (letOwnedTupleGo tg (.ref it) u) (λ_ s2=>∃x H',Inv X pins σ H' s2/\RelV x u/\J.yld i H x H'/\tn (i+1) s2.heap/\∀b∈fp,H' b=none) E s1) E s
 done:∀(X:Cx),X.prog=P->X.w=w->X.K=K->X.calm=true->∀(i:Nat) (pins:List (Addr×Obj)) (s:Shared) (σ:St) (H:Hp) (E:Value->Shared->Prop),Inv X pins σ H s->(∀b∈fp,kE X pins H b)->tn i s.heap->J.stop i H ->
  wpAny (model P w) X.A (pyNext (.ref it)) (λr s1=>r=none/\Inv X pins σ H s1) E s
 self:∀(A:Around) (i:Nat) (s:Shared) (Q:Value->Shared->Prop) (E:Value->Shared->Prop),tn i s.heap->Q (.ref it) s->wpAny (model P w) A (pyIter (.ref it)) Q E s
noncomputable abbrev TI:=St->Hp->(It->Hp->Prop)->Prop
noncomputable def PIE(X:Cx)(pins:List (Addr×Obj))(σ:St)(tg:Expr)(R:It->Hp->Prop)(itv:Value)(s2:Shared):Prop :=
 ∃(it:Addr) (fp:List Addr) (tn:Nat->Heap->Prop) (J:It) (H':Hp),itv = .ref it/\Inv X pins σ H' s2/\u6 X.prog X.w X.K tg J fp it tn/\tn 0 s2.heap/\(∀b∈fp,kE X pins H' b)/\R J H'
noncomputable def PI(X:Cx)(tg iter:Expr)(wi:TI):Prop :=
 ∀(pins:List (Addr×Obj)) (s:Shared) (σ:St) (H:Hp) (R:It->Hp->Prop),Inv X pins σ H s->wi σ H R ->
  wpAny (model X.prog X.w) X.A (eval iter X.env) (λv s1=>wpAny (model X.prog X.w) X.A (pyIter v) (PIE X pins σ tg R) X.xe s1) X.xe s
theorem Ip{M:Model}{A:Around}{E:Value->Shared->Prop}{s:Shared}{tg:Expr}{it:Addr}{u:Value}{o:Obj}{n:String}{vs:Array Value}{Q:Unit->Shared->Prop}(ho:s.heap.get? it=some o)(hc:o.cls = .type n)(hd:o.data = .fields vs)(hn:["enumerate", "zip", "dict_itemiterator", "dict_reverseitemiterator", "odict_iterator", "itertools.zip_longest", "itertools.pairwise"].contains n=false)(hQ:Q () s):wpAny M A (letOwnedTupleGo tg (.ref it) u) Q E s:=by
 unfold letOwnedTupleGo;cases tg<;>first
  |exact bO hQ
  | (cases u<;>first
   |exact bO hQ
   | (refine aL (wpAny_load ho ?_)
      rw[hc,hd];show wpAny M A (if(["enumerate", "zip", "dict_itemiterator", "dict_reverseitemiterator", "odict_iterator", "itertools.zip_longest", "itertools.pairwise"].contains n&&vs[0]?==some (rawInt _))=true then _ else _) Q E s;rw[if_neg (by intro h;rw[hn,Bool.false_and] at h;cases h)];exact bO hQ))
noncomputable def yZ(K:FgA)(a:Addr):It :=
 ⟨λi H=>∃xs x,dI K H a xs/\xs[i]?=some x,λi H x H'=>H'=H/\∀xs,dI K H a xs->xs[i]?=some x,λi H=>∃xs,dI K H a xs/\xs.length<=i⟩
noncomputable def Qo(K:FgA)(a:Addr):It :=
 ⟨λi H=>∃xs x,dM K H a xs/\xs[i]?=some x,λi H x H'=>H'=H/\∀xs,dM K H a xs->xs[i]?=some x,λi H=>∃xs,dM K H a xs/\xs.length<=i⟩
noncomputable def Dr(lo:Int)(n:Nat):It:=⟨λi _=>i<n,λi H x H'=>H'=H/\x = .int (lo+i),λi _=>n<=i⟩
theorem zjH{P:Program}{w:World}{K:FgA}{tg:Expr}(a it:Addr):u6 P w K tg (yZ K a) [it] it (λi h=>h.IsListIter it a i) where
 mem:=by simp
 obj:=λi h st b hb=>by
  have e:b=it:=by simpa using hb
  subst e;obtain⟨o,e,c,d⟩:=st;exact⟨o,e,λv z=>by rw[d] at z;cases z⟩
 keep:=λi h h' st k=>st.at λo e=>k it (by simp) o e
 item:=by intro X hP hw hK hc i pins s σ H E I hf st hg;subst hP hw hK;obtain⟨xs,x,hq,hx⟩:=hg;obtain⟨its,rv,p,hz⟩:=I.list hq;obtain⟨u,hu,ru⟩:=rv.get hx;obtain⟨f0,f1,f2,f3,f4,f5⟩:=hf it (by simp);refine wpAny_pyNext_list_item st p.isList (x:=u) (by simpa using hu) λh' st' sb=>?_;have I1:Inv X pins σ H { s with heap:=h' }:=I.turned (t':=s.toks) (λb o hb e=>(sb.2 b hb).trans e) f0 f1 f3 f4 f5;obtain⟨o,e,c,d⟩:=id st';exact⟨u,rfl,Ip (s:={ s with heap:=h' }) e c d (by decide) ⟨x,H,I1,ru,⟨rfl,λys hy=>by rw[I.list_inj hy hq];exact hx⟩,st',λb hb=>(hf b hb).1⟩⟩
 done:=by intro X hP hw hK hc i pins s σ H E I hf st hg;subst hP hw hK;obtain⟨xs,hq,hx⟩:=hg;obtain⟨its,rv,p,hz⟩:=I.list hq;obtain⟨f0,f1,f2,f3,f4,f5⟩:=hf it (by simp);have hl:=rv.length;exact wpAny_pyNext_list_end (I.ok.hd hc) st p.isList (by simp;omega) λh' eb=>⟨rfl,I.turned (t':=s.toks) (λb o hb e=>eb b o hb e) f0 f1 f3 f4 f5⟩
 self:=λ_ _ _ _ _ st h=>wpAny_pyIter_listiter st h
theorem ziW{P:Program}{w:World}{K:FgA}{tg:Expr}(a it:Addr):u6 P w K tg (Qo K a) [it] it (λi h=>h.IsTupleIter it a i) where
 mem:=by simp
 obj:=λi h st b hb=>by
  have e:b=it:=by simpa using hb
  subst e;obtain⟨o,e,c,d⟩:=st;exact⟨o,e,λv z=>by rw[d] at z;cases z⟩
 keep:=λi h h' st k=>st.at λo e=>k it (by simp) o e
 item:=by intro X hP hw hK hc i pins s σ H E I hf st hg;subst hP hw hK;obtain⟨xs,x,hq,hx⟩:=hg;obtain⟨its,rv,p,hz⟩:=I.tuple hq;obtain⟨u,hu,ru⟩:=rv.get hx;obtain⟨f0,f1,f2,f3,f4,f5⟩:=hf it (by simp);refine wpAny_pyNext_tuple_item st (show s.heap.IsTuple a its.toArray from p) (x:=u) (by simpa using hu) λh' st' sb=>?_;have I1:Inv X pins σ H { s with heap:=h' }:=I.turned (t':=s.toks) (λb o hb e=>(sb.2 b hb).trans e) f0 f1 f3 f4 f5;obtain⟨o,e,c,d⟩:=id st';exact⟨u,rfl,Ip (s:={ s with heap:=h' }) e c d (by decide) ⟨x,H,I1,ru,⟨rfl,λys hy=>by rw[I.tuple_inj hy hq];exact hx⟩,st',λb hb=>(hf b hb).1⟩⟩
 done:=by intro X hP hw hK hc i pins s σ H E I hf st hg;subst hP hw hK;obtain⟨xs,hq,hx⟩:=hg;obtain⟨its,rv,p,hz⟩:=I.tuple hq;obtain⟨f0,f1,f2,f3,f4,f5⟩:=hf it (by simp);have hl:=rv.length;exact wpAny_pyNext_tuple_end (I.ok.hd hc) st (show s.heap.IsTuple a its.toArray from p) (by simp;omega) λh' eb=>⟨rfl,I.turned (t':=s.toks) (λb o hb e=>eb b o hb e) f0 f1 f3 f4 f5⟩
 self:=λ_ _ _ _ _ st h=>wpAny_pyIter_tupleiter st h
theorem ziX{P:Program}{w:World}{K:FgA}{tg:Expr}(it:Addr)(lo:Int)(n:Nat):u6 P w K tg (Dr lo n) [it] it (λi h=>IsRangeIter h it (lo+(i:Nat)*1) ((n:Int) - (i:Nat)) 1) where
 mem:=by simp
 obj:=λi h st b hb=>by
  have e:b=it:=by simpa using hb
  subst e;exact⟨_,st,λv z=>by
   have z':Data.fields _=Data.cell v:=z;cases z'⟩
 keep:=λi h h' st k=>k it (by simp) _ st
 item:=by intro X hP hw hK hc i pins s σ H E I hf st hg;subst hP hw hK;obtain⟨f0,f1,f2,f3,f4,f5⟩:=hf it (by simp);have W:=Walks.range (prog:=X.prog) (w:=X.w) (I.ok.hd hc) it lo 1 n;refine W.item i s _ _ hg st λv h' tk hv st' kk=>?_;obtain⟨t,rfl⟩:=hv;have I1:Inv X pins σ H { s with heap:=h',toks:=tk }:=I.turned (λb o hb e=>kk b o (by simpa using hb) e) f0 f1 f3 f4 f5;refine⟨_,rfl,Ip (s:={ s with heap:=h',toks:=tk }) (n := "range_iterator") st' rfl rfl (by decide) ⟨.int (lo+i),H,I1,⟨t,?_⟩,⟨rfl,rfl⟩,st',λb hb=>(hf b hb).1⟩⟩;rw[Int.mul_one]
 done:=by intro X hP hw hK hc i pins s σ H E I hf st hg;subst hP hw hK;obtain⟨f0,f1,f2,f3,f4,f5⟩:=hf it (by simp);exact wpAny_pyNext_range_end (I.ok.hd hc) st (by have:n<=i:=hg;omega) λh' eb=>⟨rfl,I.turned (t':=s.toks) (λb o hb e=>eb b o hb e) f0 f1 f3 f4 f5⟩
 self:=λ_ _ _ _ _ st h=>wpAny_pyIter_rangeiter st h
section
variable {X:Cx}{tg:Expr}
noncomputable def Cz(K:FgA)(tl:TE):TI:=λσ H R=>tl σ H λx H1=>∃a,x = .ref a/\(∃xs,dI K H1 a xs)/\R (yZ K a) H1
noncomputable def Ph(K:FgA)(tl:TE):TI:=λσ H R=>tl σ H λx H1=>∃a,x = .ref a/\(∃xs,dM K H1 a xs)/\R (Qo K a) H1
theorem zod{l:Expr}{tl:TE}(hl:PE X l tl):PI X tg l (Cz X.K tl):=by
 intro pins s σ H R I h;refine bR (hl pins s σ H _ I h) λv s1 ⟨x,H1,I1,r1,q1⟩=>?_;obtain⟨a,e,⟨xs,hq⟩,q⟩:=q1;subst e;cases r1;obtain⟨its,rv,p,hz⟩:=I1.list hq;refine wpAny_pyIter_list p.isList ?_;refine⟨s1.heap.objs.size,[s1.heap.objs.size],_,_,H1,rfl,I1.kept (t':=s1.toks) λb o e=>di _ e,zjH a _,⟨_,gO _ rfl,rfl,rfl⟩,λb hb=>?_,q⟩;have e:b=s1.heap.objs.size:=by simpa using hb
 subst e;exact I1.fpOk (bZ _) (I1.hok.fresh (bZ _))
theorem YH{l:Expr}{tl:TE}(hl:PE X l tl):PI X tg l (Ph X.K tl):=by
 intro pins s σ H R I h;refine bR (hl pins s σ H _ I h) λv s1 ⟨x,H1,I1,r1,q1⟩=>?_;obtain⟨a,e,⟨xs,hq⟩,q⟩:=q1;subst e;cases r1;obtain⟨its,rv,p,hz⟩:=I1.tuple hq;refine wpAny_pyIter_tuple (show s1.heap.IsTuple a its.toArray from p) ?_;refine⟨s1.heap.objs.size,[s1.heap.objs.size],_,_,H1,rfl,I1.kept (t':=s1.toks) λb o e=>di _ e,ziW a _,⟨_,gO _ rfl,rfl,rfl⟩,λb hb=>?_,q⟩;have e:b=s1.heap.objs.size:=by simpa using hb
 subst e;exact I1.fpOk (bZ _) (I1.hok.fresh (bZ _))
theorem TV{pins:List (Addr×Obj)}{σ:St}{H:Hp}{s:Shared}{R:It->Hp->Prop}{E:Value->Shared->Prop}{lo hi:Int}{t u v:Tok}{tk:Nat}(I:Inv X pins σ H s)(h1 : -(2 ^ 62)<=lo)(h2:lo<2 ^ 62)(h3 : -(2 ^ 62)<=hi)(h4:hi<2 ^ 62)(q:R (Dr lo (hi - lo).toNat) H):wpAny (model X.prog X.w) X.A (pyIter (.ref s.heap.objs.size)) (PIE X pins σ tg R) E { s with heap:=s.heap.push { cls := .type "range",data := .fields #[.int lo t,.int hi u,.int 1 v] },toks:=tk }:=by
 refine wpAny_pyIter_range (IsRange.new ..) (small_one h1 h2 h3 h4) ?_;have I1:Inv X pins σ H { s with heap:=s.heap.push { cls := .type "range",data := .fields #[.int lo t,.int hi u,.int 1 v] },toks:=tk }:=I.kept λb o e=>di _ e;refine⟨(s.heap.push { cls := .type "range",data := .fields #[.int lo t,.int hi u,.int 1 v] }).objs.size,[(s.heap.push { cls := .type "range",data := .fields #[.int lo t,.int hi u,.int 1 v] }).objs.size],_,_,H,rfl,
  I1.kept (t':=tk) λb o e=>di _ e,ziX _ lo (hi - lo).toNat,?_,λb hb=>?_,q⟩
 .have e1:lo+((0:Nat):Int)*1=lo:=by simp
  have e2:(((hi - lo).toNat:Nat):Int) - ((0:Nat):Int)=Builtin.Range.rangeSize lo hi 1:=by rw[rangeSize_one];split<;>omega
  show IsRangeIter _ _ (lo+((0:Nat):Int)*1) ((((hi - lo).toNat:Nat):Int) - ((0:Nat):Int)) 1;rw[e1,e2];exact gO _ rfl
 .have e:b=(s.heap.push { cls := .type "range",data := .fields #[.int lo t,.int hi u,.int 1 v] }).objs.size:=by simpa using hb
  subst e;exact I1.fpOk (bZ _) (I1.hok.fresh (bZ _))
noncomputable def Cy(ta:TA):TI:=λσ H R=>ta σ H λvs H1=>∃j:Int,vs=[.int j] /\ -(2 ^ 62)<=j/\j<2 ^ 62/\R (Dr 0 j.toNat) H1
noncomputable def Cw(ta:TA):TI:=λσ H R=>ta σ H λvs H1=>∃i j:Int,vs=[.int i,.int j]/\(-(2 ^ 62)<=i/\i<2 ^ 62 /\ -(2 ^ 62)<=j/\j<2 ^ 62)/\R (Dr i (j - i).toNat) H1
theorem zke{a:Expr}{ta:TA}{p pos:Pos}(hg:Gl X "range")(hm:X.mg "range" = none)(ha:PA X [a] ta)(hs:starEach [a] X.env=[(false,eval a X.env)]:=by rfl):PI X tg (.Call (.Name "range" p) [a] [] pos) (Cy ta):=by
 intro pins s σ H R I h;refine Call_ (q9 I hg hm boot_range (PyProof.Rows.callWith_type1 (bR (ha pos pins s σ H _ I h) λus s1 ⟨vs,H1,I1,r1,q1⟩=>?_) hs rfl));obtain⟨j,e,q1,q2,q⟩:=q1;subst e;cases r1 with
 |cons r rr =>
  cases rr;obtain⟨t,rfl⟩:=r;exact call_range_1 (TV I1 (by omega) (by omega) q1 q2 (by simpa using q))
theorem zkd{a b:Expr}{ta:TA}{p pos:Pos}(hg:Gl X "range")(hm:X.mg "range" = none)(ha:PA X [a,b] ta)(hs:starEach [a,b] X.env=[(false,eval a X.env),(false,eval b X.env)]:=by rfl)(hs2:starEach [b] X.env=[(false,eval b X.env)]:=by rfl):
 PI X tg (.Call (.Name "range" p) [a,b] [] pos) (Cw ta):=by
 intro pins s σ H R I h;refine Call_ (q9 I hg hm boot_range (PyProof.Rows.callWith_type1 (bR (ha pos pins s σ H _ I h) λus s1 ⟨vs,H1,I1,r1,q1⟩=>?_) (by rw[hs,hs2]) (by rw[hs2];rfl)));obtain⟨i,j,e,⟨q1,q2,q3,q4⟩,q⟩:=q1;subst e;cases r1 with
 |cons r rr =>
  cases rr with
  |cons r' rr =>
   cases rr;obtain⟨t,rfl⟩:=r;obtain⟨t',rfl⟩:=r';exact call_range_2 (TV I1 q1 q2 q3 q4 q)
noncomputable def Ol(wi:TI)(g:TG)(tb:TS):TS:=λD σ H=>wi σ H λJ H1=>∃W:Nat->Nat->St->Hp->Prop,(∃m,W 0 m σ H1)/\∀i m σ H,W i m σ H ->
 (J.stop i H/\D.nx σ H)\/(J.go i H/\∃N:St->Hp->Prop,(∀σ' H',N σ' H'->∃m',m'<m/\W (i+1) m' σ' H')/\∀x H',J.yld i H x H'->g x σ H' λσ2 H2=>tb { D with nx:=N,ct:=N,bk:=D.nx } σ2 H2)
noncomputable def zG(fp:List Addr)(h:Heap):List (Addr×Obj):=fp.filterMap λb=>(h.get? b).map λo=>(b,o)
def KJ{fp:List Addr}{h:Heap}{b:Addr}{o:Obj}(hb:b∈fp)(e:h.get? b=some o):(b,o)∈zG fp h:=List.mem_filterMap.mpr ⟨b,hb,by rw[e];rfl⟩
theorem zki{fp:List Addr}{h:Heap}{p:Addr×Obj}(hp:p∈zG fp h):p.1∈fp/\h.get? p.1=some p.2:=by
 obtain⟨b,hb,e⟩:=List.mem_filterMap.mp hp;cases q:h.get? b with
 |none=>rw[q] at e;cases e
 |some o =>
  rw[q] at e;have e':(b,o)=p:=Option.some.inj e;subst e';exact⟨hb,q⟩
theorem Inv.pinned{pins:List (Addr×Obj)}{σ:St}{H:Hp}{s:Shared}{fp:List Addr}(I:Inv X pins σ H s)(hf:∀b∈fp,kE X pins H b)(ho:∀b∈fp,∃o,s.heap.get? b=some o/\∀v,o.data ≠ .cell v):Inv X (pins++zG fp s.heap) σ H s :=
 I.pins_of λp hp=>(mH.mp hp).elim (λz=>I.pin p (List.mem_append_right _ z)) λz=>by obtain⟨hb,e⟩:=zki z;obtain⟨f0,f1,f2,_⟩:=hf p.1 hb;obtain⟨o,e',d⟩:=ho p.1 hb;rw[e] at e';cases e';exact⟨e,f0,f1,f2,d⟩
def Inv.unpinned{pins pl:List (Addr×Obj)}{σ:St}{H:Hp}{s:Shared}(I:Inv X (pins++pl) σ H s):Inv X pins σ H s:=I.pins_of λp hp=>I.pin p (List.mem_append_right _ (List.mem_append_left _ hp))
theorem YM{iter:Expr}{body:List Stmt}{wi:TI}{g:TG}{tb:TS}{pos:Pos}(hp:PassesOwn (model X.prog X.w) X.A X.env X.xe)(hc:X.calm=true)(hi:PI X tg iter wi)(hg:PG X tg g)(hb:jT X body tb)(hs:∀x,foldedSetIterable iter X.env x=pure x:=by intro _;rfl):PS X (.For tg iter body [] pos) (Ol wi g tb):=by
 intro pins s σ H D I h;refine wpAny_For (bR (hi pins s σ H _ I h) λv s1 h1=>bR h1 λitv s2 h2=>?_) hs;obtain⟨it,fp,tn,J,H2,e,I2,T,st2,f2,W,⟨m0,w0⟩,turn⟩:=h2;subst e;have stat:∀{H':Hp},(∀b∈fp,H' b=none)->∀b∈fp,kE X pins H' b:=λhn b hb=>⟨hn b hb,(f2 b hb).2⟩
 refine codeAny_forLoop_any (λn s'=>∃i σ' H',Inv X pins σ' H' s'/\tn i s'.heap/\(∀b∈fp,H' b=none)/\W i n σ' H') ?_ m0 ⟨0,σ,H2,I2,st2,λb hb=>(f2 b hb).1,w0⟩
 rintro n s3 ⟨i,σ3,H3,I3,st3,Hf,w3⟩
 rcases turn i n σ3 H3 w3 with⟨stop,qn⟩|⟨go,N,hN,step⟩
 .refine wpAny_passesOwn hp (bR (T.done X rfl rfl rfl hc i pins s3 σ3 H3 X.xe I3 (stat Hf) st3 stop) λr s4 ⟨hr,I4⟩=>?_);subst hr;exact wpAny_execs_nil ⟨σ3,H3,I4,qn⟩
 .refine wpAny_passesOwn hp (bR (T.item X rfl rfl rfl hc i pins s3 σ3 H3 X.xe I3 (stat Hf) st3 go) λr s4 ⟨u,hr,h4⟩=>?_);subst hr;refine wpAny_passesOwn hp (bR h4 λ_ s5 ⟨x,H5,I5,r5,y5,vX,PN⟩=>?_);have Qq:=I5.pinned (stat PN) (T.obj _ _ vX);refine wpAny_passesOwn hp (bR (hg _ s5 σ3 H5 x u _ Qq r5 (step x H5 y5)) λ_ s6 ⟨σ6,H6,I6,q6⟩=>?_);refine wpAny_passesOwn hp (bR (hb _ s6 σ6 H6 _ I6 q6) λf s7 q7=>?_);have again:∀{σ7:St} {H7:Hp},Inv X (pins++zG fp s5.heap) σ7 H7 s7->N σ7 H7->∃m,m<n/\∃i σ' H',Inv X pins σ' H' s7/\tn i s7.heap/\(∀b∈fp,H' b=none)/\W i m σ' H':=λ{σ7 H7} I7 n7=>by obtain⟨m',hm,w7⟩:=hN σ7 H7 n7;refine⟨m',hm,i+1,σ7,H7,I7.unpinned,T.keep _ _ _ vX λb hb o e=>(I7.pin (b,o) (List.mem_append_right _ (List.mem_append_right _ (KJ hb e)))).1,λb hb=>?_,w7⟩;obtain⟨o,e,d⟩:=T.obj _ _ vX b hb;exact(I7.pin (b,o) (List.mem_append_right _ (List.mem_append_right _ (KJ hb e)))).2.1
  cases f with
  |next=>obtain⟨σ7,H7,I7,n7⟩:=q7;exact again I7 n7
  |cont=>obtain⟨σ7,H7,I7,n7⟩:=q7;exact again I7 n7
  |brk=>obtain⟨σ7,H7,I7,q7⟩:=q7;exact⟨σ7,H7,I7.unpinned,q7⟩
  |ret v=>obtain⟨x7,σ7,H7,I7,r7,q7⟩:=q7;exact⟨x7,σ7,H7,I7.unpinned,r7,q7⟩
end
noncomputable abbrev R2:=V->V->Hp->VK->Prop
noncomputable def fW(X:Cx)(f:Value->Value->Sem Value)(r:R2):Prop :=
 ∀(pins:List (Addr×Obj)) (s:Shared) (σ:St) (H:Hp) (x y:V) (v u:Value) (Q:VK),Inv X pins σ H s->RelV x v->RelV y u->r x y H Q ->
  wpAny (model X.prog X.w) X.A (f v u) (EP X pins σ Q) X.xe s
noncomputable def Ql(X:Cx)(f:Value->Sem Value)(r:V->Hp->VK->Prop):Prop :=
 ∀(pins:List (Addr×Obj)) (s:Shared) (σ:St) (H:Hp) (x:V) (v:Value) (Q:VK),Inv X pins σ H s->RelV x v->r x H Q ->
  wpAny (model X.prog X.w) X.A (f v) (EP X pins σ Q) X.xe s
noncomputable def iR(X:Cx)(f:Value)(r:List V->Hp->VK->Prop):Prop :=
 ∀(pins:List (Addr×Obj)) (s:Shared) (σ:St) (H:Hp) (xs:List V) (us:List Value) (Q:VK),Inv X pins σ H s->Vals xs us->r xs H Q ->
  wpAny (model X.prog X.w) X.A (call f us) (EP X pins σ Q) X.xe s
noncomputable def Qm(X:Cx)(r:V->Hp->(Bool->Hp->Prop)->Prop):Prop :=
 ∀(pins:List (Addr×Obj)) (s:Shared) (σ:St) (H:Hp) (x:V) (v:Value) (Q:Bool->Hp->Prop),Inv X pins σ H s->RelV x v->r x H Q ->
  wpAny (model X.prog X.w) X.A (truthy v) (TP X pins σ Q) X.xe s
noncomputable def GR(r:R2)(ta tb:TE):TE:=λσ H Q=>ta σ H λx H1=>tb σ H1 λy H2=>r x y H2 Q
noncomputable def tUn(r:V->Hp->VK->Prop)(ta:TE):TE:=λσ H Q=>ta σ H λx H1=>r x H1 Q
noncomputable def rI(C:Int->Int->Prop)(g:Int->Int->V):R2:=λx y H Q=>∃i j,x = .int i/\y = .int j/\C i j/\Q (g i j) H
noncomputable def qw(g:Int->Int->V):R2:=λx y H Q=>∃i j,x = .int i/\y = .int j/\Q (g i j) H
noncomputable def rU(g:Int->V):V->Hp->VK->Prop:=λx H Q=>∃i,x = .int i/\Q (g i) H
section
variable {X:Cx}{a b c:Expr}{ta tb tc:TE}{pos:Pos}
theorem xq(ha:PE X a ta)(hb:PE X b tb){pins:List (Addr×Obj)}{s:Shared}{σ:St}{H:Hp}{R:V->V->Hp->Prop}(I:Inv X pins σ H s)(h:ta σ H λx H1=>tb σ H1 λy H2=>R x y H2){Q:Value->Shared->Prop}{f:Value->Value->Sem Value}(hf:∀v u s2 x y H2,Inv X pins σ H2 s2->RelV x v->RelV y u->R x y H2->wpAny (model X.prog X.w) X.A (f v u) Q X.xe s2):
 wpAny (model X.prog X.w) X.A (eval a X.env) (λv s₁=>wpAny (model X.prog X.w) X.A (eval b X.env) (λu s₂=>wpAny (model X.prog X.w) X.A (f v u) Q X.xe s₂) X.xe s₁) X.xe s:=by
 refine bR (ha pins s σ H _ I h) λv s1 ⟨x,H1,I1,r1,q1⟩=>?_;refine bR (hb pins s1 σ H1 _ I1 q1) λu s2 ⟨y,H2,I2,r2,q2⟩=>?_;exact hf v u s2 x y H2 I2 r1 r2 q2
theorem Yv{op:Operator}{r:R2}(ho:fW X (binaryOp op) r)(ha:PE X a ta)(hb:PE X b tb):PE X (.BinOp a op b pos) (GR r ta tb):=by intro pins s σ H Q I h;exact wpAny_BinOp (xq ha hb I h λv u s2 x y H2 I2 rx ry q=>ho pins s2 σ H2 x y v u Q I2 rx ry q)
theorem Yx{op:UnaryOp}{r:V->Hp->VK->Prop}(ho:Ql X (unaryOp op) r)(ha:PE X a ta):PE X (.UnaryOp op a pos) (tUn r ta):=by intro pins s σ H Q I h;exact UnaryOp_ (bR (ha pins s σ H _ I h) λv s1 ⟨x,H1,I1,r1,q1⟩=>ho pins s1 σ H1 x v Q I1 r1 q1)
theorem Cg{f:Value->Value->Sem Value}{C:Int->Int->Prop}{g:Int->Int->Int}(rule:∀(i j:Int) (t u:Tok) (s:Shared) (Q:Value->Shared->Prop) (E:Value->Shared->Prop),C i j->Q (.int (g i j) s.toks) { s with toks:=s.toks+1 }->wpAny (model X.prog X.w) X.A (f (.int i t) (.int j u)) Q E s):
 fW X f (rI C λi j => .int (g i j)):=by
 intro pins s σ H x y v u Q I rx ry h;obtain⟨i,j,rfl,rfl,hc,q⟩:=h;obtain⟨t,rfl⟩:=rx;obtain⟨t',rfl⟩:=ry;exact rule i j t t' s _ _ hc ⟨.int (g i j),H,I.tok _,⟨_,rfl⟩,q⟩
theorem Ce{f:Value->Value->Sem Value}{g:Int->Int->Int}(rule:∀(i j:Int) (t u:Tok) (s:Shared) (Q:Value->Shared->Prop) (E:Value->Shared->Prop),Q (.int (g i j) s.toks) { s with toks:=s.toks+1 }->wpAny (model X.prog X.w) X.A (f (.int i t) (.int j u)) Q E s):
 fW X f (qw λi j => .int (g i j)):=by
 intro pins s σ H x y v u Q I rx ry h;obtain⟨i,j,rfl,rfl,q⟩:=h;obtain⟨t,rfl⟩:=rx;obtain⟨t',rfl⟩:=ry;exact rule i j t t' s _ _ ⟨.int (g i j),H,I.tok _,⟨_,rfl⟩,q⟩
theorem m8{f:Value->Value->Sem Value}{g:Int->Int->Bool}(rule:∀(i j:Int) (t u:Tok) (s:Shared) (Q:Value->Shared->Prop) (E:Value->Shared->Prop),Q (.bool (g i j)) s->wpAny (model X.prog X.w) X.A (f (.int i t) (.int j u)) Q E s):
 fW X f (qw λi j => .bl (g i j)):=by
 intro pins s σ H x y v u Q I rx ry h;obtain⟨i,j,rfl,rfl,q⟩:=h;obtain⟨t,rfl⟩:=rx;obtain⟨t',rfl⟩:=ry;exact rule i j t t' s _ _ ⟨.bl (g i j),H,I,rfl,q⟩
def Dt(i j:Int):Prop:=0<=j/\j<=1000000/\i.natAbs<2 ^ 64
def Zm:fW X (binaryOp .Add) (qw λi j => .int (i+j)):=Ce λ_ _ _ _ _ _ _ q=>add_int q
def Zt:fW X (binaryOp .Sub) (qw λi j => .int (i - j)):=Ce λ_ _ _ _ _ _ _ q=>sub_int q
def zoE:fW X (binaryOp .Mod) (rI (λ_ j=>j≠0) λi j => .int (i.fmod j)):=Cg λ_ _ _ _ _ _ _ hc q=>mod_int' hc q
def Zq:fW X (binaryOp .Pow) (rI Dt λi j => .int (i ^ j.toNat)):=Cg λ_ _ _ _ _ _ _ hc q=>pow_int_small hc.1 hc.2.1 hc.2.2 q
def Zr:fW X (binaryOp .LShift) (rI Dt λi j => .int (i*2 ^ j.toNat)):=Cg λ_ _ _ _ _ _ _ hc q=>lshift_int_small hc.1 hc.2.1 hc.2.2 q
theorem unI{f:Value->Sem Value}{g:Int->Int}(rule:∀(i:Int) (t:Tok) (s:Shared) (Q:Value->Shared->Prop) (E:Value->Shared->Prop),Q (.int (g i) s.toks) { s with toks:=s.toks+1 }->wpAny (model X.prog X.w) X.A (f (.int i t)) Q E s):
 Ql X f (rU λi => .int (g i)):=by
 intro pins s σ H x v Q I rx h;obtain⟨i,rfl,q⟩:=h;obtain⟨t,rfl⟩:=rx;exact rule i t s _ _ ⟨.int (g i),H,I.tok _,⟨_,rfl⟩,q⟩
def Z3:Ql X (unaryOp .USub) (rU λi => .int (-i)):=unI λ_ _ _ _ _ q=>neg_int q
end
section
variable {X:Cx}{a b c:Expr}{ta tb tc:TE}{pos:Pos}
theorem Ey{pins:List (Addr×Obj)}{σ:St}{H:Hp}{s:Shared}{Q:VK}{k k':Bool}(I:Inv X pins σ H s)(q:Q (.bl k) H)(e:k=k'):EP X pins σ Q (.bool k') s:=by subst e;exact⟨.bl k,H,I,rfl,q⟩
def Yo:fW X (compareOp .Lt) (qw λi j => .bl (decide (i<j))):=m8 λ_ _ _ _ _ _ _ q=>lt_int q
def Yn:fW X (compareOp .LtE) (qw λi j => .bl (decide (i<=j))):=m8 λ_ _ _ _ _ _ _ q=>le_int q
def Ym:fW X (compareOp .Gt) (qw λi j => .bl (decide (j<i))):=m8 λ_ _ _ _ _ _ _ q=>gt_int q
def Yl:fW X (compareOp .GtE) (qw λi j => .bl (decide (j<=i))):=m8 λ_ _ _ _ _ _ _ q=>ge_int q
theorem Zo:fW X (compareOp .Is) (λx y H Q=>y = .non/\Q (.bl (decide (x = .non))) H):=by
 intro pins s σ H x y v u Q I rx ry h;obtain⟨rfl,q⟩:=h;cases ry;refine is_none_gen (Ey I q ?_);cases x<;>first
  | (cases rx;rfl)
  | (obtain⟨t,rfl⟩:=rx;rfl)
theorem zoC:fW X (compareOp .IsNot) (λx y H Q=>y = .non/\Q (.bl (!decide (x = .non))) H):=by
 intro pins s σ H x y v u Q I rx ry h;obtain⟨rfl,q⟩:=h;cases ry;refine isnot_none_gen (Ey I q ?_);cases x<;>first
  | (cases rx;rfl)
  | (obtain⟨t,rfl⟩:=rx;rfl)
theorem QB(b:Expr){op:CmpOp}(h:op ≠ .In:=by decide)(h2:op ≠ .NotIn:=by decide):behindInMarks op b=false:=by
 have e1:(op==CmpOp.In)=false:=by cases op<;>first|rfl|exact absurd rfl h
 have e2:(op==CmpOp.NotIn)=false:=by cases op<;>first|rfl|exact absurd rfl h2
 cases b<;>simp[behindInMarks,e1,e2]
theorem zoj{op:CmpOp}{r:R2}(ho:fW X (compareOp op) r)(ha:PE X a ta)(hb:PE X b tb)(hm:behindInMarks op b=false):PE X (.Compare a [op] [b] pos) (GR r ta tb):=by intro pins s σ H Q I h;exact wpAny_Compare1 (xq ha hb I h λv u s2 x y H2 I2 rx ry q=>ho pins s2 σ H2 x y v u Q I2 rx ry q) hm
noncomputable def Bf(t:TE):TT:=λσ H Q=>t σ H λx H'=>∃k,x = .bl k/\Q k H'
theorem zn6{op:CmpOp}{r:R2}(ho:fW X (compareOp op) r)(ha:PE X a ta)(hb:PE X b tb)(hm:behindInMarks op b=false):PT X (.Compare a [op] [b] pos) (Bf (GR r ta tb)):=by
 intro pins s σ H Q I h;refine wpAny_isTrue_Compare1 (bR (ha pins s σ H _ I h) λv s1 ⟨x,H1,I1,r1,q1⟩=>bR (hb pins s1 σ H1 _ I1 q1) λu s2 ⟨y,H2,I2,r2,q2⟩ =>
  bR (ho pins s2 σ H2 x y v u _ I2 r1 r2 q2) λc s3 ⟨z,H3,I3,r3,k,e,q3⟩=>?_) hm
 subst e;cases r3;exact wpAny_truthy_bool ⟨H3,I3,q3⟩
noncomputable def xu(K:FgA)(x:V)(H:Hp)(k:Bool):Prop :=
 match x with
 |.non=>k=false
 |.bl b=>k=b
 |.int i=>k=(i != 0)
 |.str y=>y.length<=sizeLine/\k=((y.length:Int) != 0)
 |.byt y=>y.size<=sizeLine/\k=((y.size:Int) != 0)
 |.ref p=>(∃xs,dI K H p xs/\k = !xs.isEmpty)\/(∃xs,dM K H p xs/\k = !xs.isEmpty)\/∃kvs,H p=some (.dK kvs)/\k = !kvs.isEmpty
 |_=>False
def zjs{κ:Type}{kvs:List (κ×V)}{vs:List (κ×Value)}(r:KV kvs vs):(!vs.isEmpty) = !kvs.isEmpty:=by cases r<;>rfl
def Vy{xs:List V}{its:List Value}(r:Vals xs its):(!its.toArray.isEmpty) = !xs.isEmpty:=by cases r<;>simp
def xV:(sizeLine:Nat)<2 ^ 63:=by rw[sizeLine_eq];decide
theorem Z1:Qm X (λx H Q=>∃k,xu X.K x H k/\Q k H):=by
 intro pins s σ H x v Q I rx h;obtain⟨k,e,q⟩:=h;have hl:=xV;have hs:sizeLine=16777216:=sizeLine_eq;cases x with
 |non =>
  cases rx;have e':k=false:=e;subst e';exact truthy_none ⟨H,I,q⟩
 |bl b =>
  cases rx;have e':k=b:=e;subst e';exact wpAny_truthy_bool ⟨H,I,q⟩
 |int i =>
  obtain⟨t,rfl⟩:=rx;have e':k=(i != 0):=e;subst e';exact PySem.P.truthy_int ⟨H,I,q⟩
 |str y =>
  obtain⟨t,rfl⟩:=rx;obtain⟨hy,e'⟩:y.length<=sizeLine/\k=((y.length:Int) != 0):=e;subst e';exact PySem.P.truthy_str (by omega) ⟨H,I.tok _,q⟩
 |byt y =>
  obtain⟨t,rfl⟩:=rx;obtain⟨hy,e'⟩:y.size<=sizeLine/\k=((y.size:Int) != 0):=e;subst e';exact PySem.W.truthy_bytes (by omega) ⟨H,I.tok _,q⟩
 |ref p =>
  cases rx;have e':(∃xs,dI X.K H p xs/\k = !xs.isEmpty)\/(∃xs,dM X.K H p xs/\k = !xs.isEmpty)\/∃kvs,H p=some (.dK kvs)/\k = !kvs.isEmpty:=e;rcases e' with⟨xs,hx,e'⟩|⟨xs,hx,e'⟩|⟨kvs,hx,e'⟩
  .subst e';obtain⟨its,r,pl,hz⟩:=I.list hx;have hlen:=r.length;exact wpAny_truthy_list pl.isList (by simp only[d7];omega) ⟨H,I.tok _,by rw[Vy r];exact q⟩
  .subst e';obtain⟨its,r,pl,hz⟩:=I.tuple hx;have hlen:=r.length;exact truthy_tuple pl (by simp only[d7];omega) ⟨H,I.tok _,by rw[Vy r];exact q⟩
  .subst e';obtain⟨hz,hS,vs,r,m⟩:kvs.length<=sizeLine/\(p==sysModules)=false/\∃vs,KV kvs vs/\s.heap.DictOf (Ih X.prog X.w) p vs:=I.hok p _ hx;have hlen:kvs.length=vs.length:=Paired.length r;exact wpAny_truthy_dict hS m (by omega) ⟨H,I.tok _,by rw[zjs r];exact q⟩
 |_=>exact(show False from e).elim
theorem zl1(ha:PE X a ta)(he:∀whole,isTrue a X.env whole=(do let v <-whole;standAt a.pos;holding [v] (truthy v))):
 PT X a (λσ H Q=>ta σ H λx H'=>∃k,xu X.K x H' k/\Q k H'):=by
 intro pins s σ H Q I h;exact isTrue_plain (bR (ha pins s σ H _ I h) λv s1 ⟨x,H1,I1,r1,q1⟩=>Z1 pins s1 σ H1 x v Q I1 r1 q1) (he _)
theorem zjd:fW X (binaryOp .Add) (λx y H Q=>∃i j,x = .str i/\y = .str j/\i.length+j.length<=sizeLine/\Q (.str (i++j)) H):=by intro pins s σ H x y v u Q I rx ry h;obtain⟨i,j,rfl,rfl,hz,q⟩:=h;obtain⟨t,rfl⟩:=rx;obtain⟨t',rfl⟩:=ry;exact add_str (λt' tk=>⟨.str (i++j),H,I.tok _,⟨_,rfl⟩,q⟩) hz
def pX{x:V}{us:List Value}(r:Vals [x] us):∃u,us=[u]/\RelV x u:=by
 cases r with
 |cons r1 r2=>cases r2;exact⟨_,rfl,r1⟩
theorem HW{x y:V}{us:List Value}(r:Vals [x,y] us):∃u w',us=[u,w']/\RelV x u/\RelV y w':=by
 cases r with
 |cons r1 r2 =>
  cases r2 with
  |cons r3 r4=>cases r4;exact⟨_,_,rfl,r1,r3⟩
theorem zmP:iR X (.builtin "abs") (λxs H Q=>∃i,xs=[.int i]/\Q (.int (if i<0 then -i else i)) H):=by intro pins s σ H xs us Q I r h;obtain⟨i,rfl,q⟩:=h;obtain⟨u,rfl,t,rfl⟩:=pX r;exact call_abs_int λu tk=>⟨.int (if i<0 then -i else i),H,I.tok _,⟨_,rfl⟩,q⟩
theorem zlm(hc:X.calm=true):iR X (.builtin "max") (λxs H Q=>∃i j,xs=[.int i,.int j]/\Q (.int (if j>i then j else i)) H):=by
 intro pins s σ H xs us Q I r h;obtain⟨i,j,rfl,q⟩:=h;obtain⟨u,w',rfl,⟨t,rfl⟩,⟨t',rfl⟩⟩:=HW r;refine max_two_ints (I.ok.hd hc) λh' tk k=>⟨_,H,I.kept k,?_,q⟩
 by_cases hj:j>i
 .rw[if_pos hj,if_pos hj];exact⟨_,rfl⟩
 .rw[if_neg hj,if_neg hj];exact⟨_,rfl⟩
theorem zll(hc:X.calm=true):iR X (.builtin "min") (λxs H Q=>∃i j,xs=[.int i,.int j]/\Q (.int (if j<i then j else i)) H):=by
 intro pins s σ H xs us Q I r h;obtain⟨i,j,rfl,q⟩:=h;obtain⟨u,w',rfl,⟨t,rfl⟩,⟨t',rfl⟩⟩:=HW r;refine min_two_ints (I.ok.hd hc) λh' tk k=>⟨_,H,I.kept k,?_,q⟩
 by_cases hj:j<i
 .rw[if_pos hj,if_pos hj];exact⟨_,rfl⟩
 .rw[if_neg hj,if_neg hj];exact⟨_,rfl⟩
end
structure lM(h:Heap)(x dx C:Addr)(mA:Str->Option Value):Prop where
 obj:h.get? x=some (PySem.W.instObj C dx)
 ns:h.Ns1 dx mA
 ne:dx≠x
theorem zkw{h:Heap}{dx:Addr}{mA:Str->Option Value}(n:h.Ns1 dx mA):∃od,h.get? dx=some od/\∀name,PySem.W.lookIn name od=some (mA name):=by
 obtain⟨o,es,ep,ho,hd,hk,_,hm⟩:=n;refine⟨o,ho,λname=>?_⟩;have e:=hm name;unfold nsFind findBy at e;rw[<-Array.find?_toList] at e;unfold PySem.W.lookIn;rw[hd];dsimp only;split
 .rename_i y q;rw[q] at e;exact congrArg some e
 .rename_i q;rw[q] at e;have a:es.toList.any (·.refKey)=false:=by rw[List.any_eq_false];intro y hy;obtain⟨z,t,hkey⟩:=hk y (Array.mem_toList_iff.mp hy);simp[DictEntry.refKey,hkey]
  have a':¬es.toList.any (·.refKey)=true:=by rw[a];exact gM
  rw[if_neg a'];exact congrArg some e
def lM.look{h:Heap}{x dx C:Addr}{mA:Str->Option Value}(I:lM h x dx C mA):∃od,PySem.W.InstAt h x (PySem.W.instObj C dx) C (some od)/\∀name,PySem.W.lookIn name od=some (mA name) :=
 let ⟨od,ho,hl⟩:=zkw I.ns
 ⟨od,⟨I.obj,rfl,rfl,ho⟩,hl⟩
section
variable {prog:Program}{w:World}{A:Around}{E:Value->Shared->Prop}{s:Shared}{K:FgA}{x dx C f:Addr}{mA:Str->Option Value}{name:Str}{v:Value}
theorem zo3{expr:Bool}{Q:Value->Shared->Prop}(X:K.In s.heap)(I:lM s.heap x dx C mA)(hg:PySem.W.plainGet K C name=true)(hh:PySem.W.hasDictIn K C=true)(ha:PySem.W.findIn K (.ref C) name=some none)(hv:mA name=some v)(hv':PySem.W.handedIn v=true)(h:Q v { s with toks:=s.toks+1 }):
 wpAny (model prog w) A (getAttr (.ref x) name expr) Q E s:=by
 obtain⟨od,J,hl⟩:=I.look;exact PySem.W.get_value X J (PySem.W.plainGet_of hg).1 (PySem.W.findObj_own hh ha rfl (by rw[hl,hv])) hv' h
theorem zmz{pl:Sem Bool}{Q:Value×List Value->Shared->Prop}(X:K.In s.heap)(I:lM s.heap x dx C mA)(hg:PySem.W.plainGet K C name=true)(hf:PySem.W.findIn K (.ref C) name=some (some (.ref f)))(ht:PySem.W.isFn K (.ref f)=true)(hv:mA name=none)(h:Q (.ref f,[.ref x]) s):
 wpAny (model prog w) A (getMethod (.ref x) name pl) Q E s:=by
 obtain⟨od,J,hl⟩:=I.look;exact PySem.W.method_fn X J (PySem.W.plainGet_of hg).1 (PySem.W.plainGet_of hg).2 hf (beq_iff_eq.mp ht) (by show(PySem.W.lookIn name od).map (·.isSome)=some false;rw[hl,hv];rfl) h
theorem znX{ns:List Str}{Q:Unit->Shared->Prop}(X:K.In s.heap)(I:lM s.heap x dx C mA)(hs:PySem.W.findIn K (.ref C) "__setattr__" = some (some (.builtin "object.__setattr__")))(hp:PySem.W.plainOver K C=true)(ht:PySem.W.takerIn K C name=some none)(hh:PySem.W.hasDictIn K C=true)(hw:PySem.Within mA ns)(hsz:ns.length<=sizeLine)(h:∀h',lM h' x dx C (λy=>if y=name then some v else mA y)->Heap.SameBut dx s.heap h'->Q () { s with heap:=h',toks:=s.toks+2 }):
 wpAny (model prog w) A (setAttr (.ref x) name v) Q E s:=by
 obtain⟨od,J,hl⟩:=I.look;refine PySem.W.set_plain X J hs (PySem.W.osa_open (s:={ s with toks:=s.toks+1 }) (r:=none) X J hp ht λb=>?_);obtain⟨cd,hc,hd'⟩:=PySem.W.any_some hh;have hx:s.heap.get? x=some ⟨.ref C,some dx,.plain,#[]⟩:=I.obj;refine aL (bO (aL (aL (wpAny_loadPart hx (aL (PySem.W.Looks.here (s:={ s with toks:=s.toks+1 }) (PySem.W.looks_clsIn X hc) ?_))))));rw[hd'];refine bO (a:=some dx) (aL (bO (aL ?_)));refine wpAny_nsSet1 (s:={ s with toks:=s.toks+1 }) I.ns λh' hn2 hs2=>?_;obtain⟨oD,esD,epD,hoD,hdD,hcD⟩:=hn2.count (PySem.Within.cons name v hw);refine aL (wpAny_lookBehind hoD (by rw[hdD];exact pastItsLine_dict (Nat.le_trans hcD (by rw[jM];omega))) ?_);exact bO (h _ ⟨(hs2.2 _ (Ne.symm I.ne)).trans I.obj,hn2,I.ne⟩ hs2)
theorem zml{R:Result->Shared->Prop}{vs:List Value}{kw:List (Str×Value)}(X:K.In s.heap)(hm:PySem.W.makesIn K C=true)(hi:PySem.W.findIn K (.ref C) "__init__" = some (some (.ref f)))(hf:PySem.W.typeIn K (.ref f)=some (.type "function"))(h:codeAny (model prog w) (A.under (.builtin "type.__call__" ⟨.ref C::vs,kw⟩)) (.call (.ref f) ⟨.ref (s.heap.objs.size+1)::vs,kw⟩) (PySem.W.InitBack (s.heap.objs.size+1) R)
  { s with heap:=(s.heap.push PySem.W.emptyDict).push (PySem.W.instObj C s.heap.objs.size) }):
 codeAny (model prog w) A (.call (.ref C) ⟨vs,kw⟩) R s:=by
 obtain⟨hh,g,d,t,os⟩:=s;exact PySem.W.make_core (PySem.W.makes_of X hm) (PySem.W.looks_findIn X hi) (λself=>PySem.W.bind_fn X self hf) (.inl rfl) h
end
noncomputable def jC(f:Str)(v:V):List (Str×V)->List (Str×V)
 |[]=>[(f,v)]
 | (g,x)::r=>if g=f then(g,v)::r else(g,x)::jC f v r
theorem Vt(f g:Str)(v:V):∀fs:List (Str×V),(jC f v fs).lookup g=if g=f then some v else fs.lookup g
 |[]=>by
  show List.lookup g [(f,v)]=_;by_cases h:g=f
  .have hb:(g==f)=true:=beq_iff_eq.mpr h;simp only[List.lookup,hb,if_pos h]
  .have hb:(g==f)=false:=beq_eq_false_iff_ne.mpr h;simp only[List.lookup,hb,if_neg h]
 | (k,x)::r=>by
   have ih:=Vt f g v r;rw[show jC f v ((k,x)::r)=(if k=f then(k,v)::r else(k,x)::jC f v r) from rfl];by_cases hk:k=f
   .rw[if_pos hk];by_cases h:g=k
    .have hb:(g==k)=true:=beq_iff_eq.mpr h;simp only[List.lookup,hb,if_pos (h.trans hk)]
    .have hb:(g==k)=false:=beq_eq_false_iff_ne.mpr h;simp only[List.lookup,hb,if_neg (λe:g=f=>h (e.trans hk.symm))]
   .rw[if_neg hk];by_cases h:g=k
    .have hb:(g==k)=true:=beq_iff_eq.mpr h;simp only[List.lookup,hb,if_neg (λe:g=f=>hk (h.symm.trans e))]
    .have hb:(g==k)=false:=beq_eq_false_iff_ne.mpr h;simp only[List.lookup,hb];exact ih
theorem Ku(f:Str)(v:V):∀fs:List (Str×V),f∈(jC f v fs).map (·.1)/\∀g,g∈fs.map (·.1)->g∈(jC f v fs).map (·.1)
 |[]=>⟨by simp[jC],λg h=>by simp at h⟩
 | (k,x)::r=>by
   obtain⟨i1,i2⟩:=Ku f v r;rw[show jC f v ((k,x)::r)=(if k=f then(k,v)::r else(k,x)::jC f v r) from rfl];by_cases hk:k=f
   .rw[if_pos hk];subst hk;exact⟨by simp,λg h=>by simpa using h⟩
   .rw[if_neg hk];refine⟨?_,λg h=>?_⟩
    .rw[jd];exact cM _ i1
    .rw[jd] at h ⊢;rcases List.mem_cons.mp h with e|e
     .exact List.mem_cons.mpr (.inl e)
     .exact cM _ (i2 g e)
theorem Vs(f:Str)(v:V):∀fs:List (Str×V),(jC f v fs).length<=fs.length+1
 |[]=>by simp[jC]
 | (k,x)::r=>by
   have ih:=Vs f v r;rw[show jC f v ((k,x)::r)=(if k=f then(k,v)::r else(k,x)::jC f v r) from rfl];by_cases hk:k=f
   .rw[if_pos hk,jM,jM];omega
   .rw[if_neg hk,jM,jM];omega
theorem jn.some_of{v:V}{o:Option Value}(r:jn (some v) o):∃u,o=some u/\RelV v u:=by
 cases o with
 |none=>exact(show False from r).elim
 |some u=>exact⟨u,rfl,r⟩
def jn.none_of{o:Option Value}(r:jn none o):o=none:=by
 cases o with
 |none=>rfl
 |some u=>exact(show False from r).elim
theorem zkS{v:V}{u:Value}(r:RelV v u):PySem.W.handedIn u=true:=by
 cases v with
 |non=>cases (show u=Value.none from r);rfl
 |bl b=>cases (show u=Value.bool b from r);rfl
 |int i=>obtain⟨t,e⟩:=(show ∃t,u=Value.int i t from r);cases e;rfl
 |str x=>obtain⟨t,e⟩:=(show ∃t,u=Value.str x t from r);cases e;rfl
 |byt b=>obtain⟨t,e⟩:=(show ∃t,u=Value.bytes b t from r);cases e;rfl
 |flt b=>obtain⟨t,e⟩:=(show ∃t,u=Value.float b t from r);cases e;rfl
 |ref a=>cases (show u=Value.ref a from r);rfl
 |ty n=>cases (show u=Value.type n from r);rfl
section
variable {P:Program}{w:World}{H H':Hp}{h h':Heap}{a C dx:Addr}{fs fs':List (Str×V)}
theorem EY(hok:gK P w H h)(e:H a=some (.ins C dx fs)):∃mA,lM h a dx C mA/\(∀f,jn (fs.lookup f) (mA f))/\PySem.Within mA (fs.map (·.1))/\fs.length<=1000/\H dx=some (.own a):=by
 obtain⟨d,z,ne,ob,mA,n,r,q⟩:=(show bY P w H h a (.ins C dx fs) from hok a _ e)
 exact⟨mA,⟨ob,n,ne⟩,r,q,z,d⟩
end
structure jZ(K:FgA)(C:Addr):Prop where
 pg:PySem.W.plainGet K C Str.empty=true
 hd:PySem.W.hasDictIn K C=true
 po:PySem.W.plainOver K C=true
 sa:PySem.W.findIn K (.ref C) "__setattr__" = some (some (.builtin "object.__setattr__"))
def jZ.get{K:FgA}{C:Addr}(c:jZ K C)(f:Str):PySem.W.plainGet K C f=true:=c.pg
def eV(K:FgA)(C:Addr)(f:Str):Prop:=PySem.W.findIn K (.ref C) f=some none
theorem eV.taker{K:FgA}{C:Addr}{f:Str}(n:eV K C f):PySem.W.takerIn K C f=some none:=by unfold PySem.W.takerIn;rw[show PySem.W.findIn K (.ref C) f=some none from n];rfl
structure Meth(K:FgA)(C:Addr)(m:Str)(f:Addr):Prop where
 at_:PySem.W.findIn K (.ref C) m=some (some (.ref f))
 fn:PySem.W.isFn K (.ref f)=true
 kp:PySem.W.keepIn K (.ref f)=true
section
variable {X:Cx}{pins:List (Addr×Obj)}{σ:St}{H:Hp}{s:Shared}{a C dx:Addr}{fs:List (Str×V)}{f:Str}{v:V}{A:Around}{E:Value->Shared->Prop}
theorem zjt{b:Bool}{Q:Value->Shared->Prop}(I:Inv X pins σ H s)(e:H a=some (.ins C dx fs))(c:jZ X.K C)(n:eV X.K C f)(l:fs.lookup f=some v)(h:∀u s',Inv X pins σ H s'->RelV v u->Q u s'):wpAny (model X.prog X.w) A (getAttr (.ref a) f b) Q E s:=by obtain⟨mA,O,r,_,_,_⟩:=EY I.hok e;obtain⟨u,hu,ru⟩:=jn.some_of (v:=v) (o:=mA f) (by rw[<-l];exact r f);exact zo3 I.kIn O (c.get f) c.hd n hu (zkS ru) (h u _ (I.tok _) ru)
theorem Vx{m:Str}{g:Addr}{pl:Sem Bool}{Q:Value×List Value->Shared->Prop}(I:Inv X pins σ H s)(e:H a=some (.ins C dx fs))(c:jZ X.K C)(k:Meth X.K C m g)(l:fs.lookup m=none)(h:Q (.ref g,[.ref a]) s):wpAny (model X.prog X.w) A (getMethod (.ref a) m pl) Q E s:=by obtain⟨mA,O,r,_,_,_⟩:=EY I.hok e;have hn:mA m=none:=jn.none_of (by rw[<-l];exact r m);exact zmz I.kIn O (c.get m) k.at_ k.fn hn h
theorem zi7{y:V}{u:Value}{Q:Unit->Shared->Prop}(I:Inv X pins σ H s)(e:H a=some (.ins C dx fs))(c:jZ X.K C)(n:eV X.K C f)(hl:fs.length<1000)(ry:RelV y u)(h:∀s',Inv X pins σ (upd H a (.ins C dx (jC f y fs))) s'->Q () s'):wpAny (model X.prog X.w) A (setAttr (.ref a) f u) Q E s:=by
 obtain⟨mA,O,r,wi,_,ho⟩:=EY I.hok e;have hz:(fs.map (·.1)).length<=sizeLine:=by rw[cW,sizeLine_eq];omega
 refine znX I.kIn O c.sa c.po n.taker c.hd wi hz λh' O' sb=>h _ ?_;have hd:∃o,h'.get? dx=some o:=let ⟨o,_,_,e',_⟩:=O'.ns;⟨o,e'⟩;refine I.write (x:=a) (e:=dx) (by rw[e];exact True.intro) (.inr ho) (λb q hb z=>(sb.2 b hb).trans z) hd ?_;refine⟨by rw[cu O.ne];exact ho,?_,O.ne,O'.obj,_,O'.ns,λg=>?_,λg hg=>?_⟩
 .have:=Vs f y fs;omega
 .show jn ((jC f y fs).lookup g) (if g=f then some u else mA g);rw[Vt];by_cases q:g=f
  .rw[if_pos q,if_pos q];exact ry
  .rw[if_neg q,if_neg q];exact r g
 .by_cases q:g=f
  .rw[q];exact(Ku f y fs).1
  .refine(Ku f y fs).2 g (wi g λz=>hg ?_);show(if g=f then some u else mA g)=none;rw[if_neg q];exact z
theorem Inv.made(I:Inv X pins σ H s):Inv X pins σ (upd (upd H s.heap.objs.size (.own (s.heap.objs.size+1))) (s.heap.objs.size+1) (.ins C s.heap.objs.size []))
 { s with heap:=(s.heap.push PySem.W.emptyDict).push (PySem.W.instObj C s.heap.objs.size) }:=by
 have e1:(s.heap.push PySem.W.emptyDict).get? s.heap.objs.size=some PySem.W.emptyDict:=gO s.heap rfl;have e2:((s.heap.push PySem.W.emptyDict).push (PySem.W.instObj C s.heap.objs.size)).get? (s.heap.objs.size+1)=some (PySem.W.instObj C s.heap.objs.size):=by
  have:=gO (s.heap.push PySem.W.emptyDict) (o:=PySem.W.instObj C s.heap.objs.size) rfl
  rwa [Heap.size_push] at this
 have e3:(s.heap.push PySem.W.emptyDict).Ns s.heap.objs.size (λ_=>none):=⟨PySem.W.emptyDict,#[],_,e1,rfl,(λe he=>absurd he (by simp)),λ_=>rfl⟩
 have I1:=I.laid (a:=s.heap.objs.size) (o := .own (s.heap.objs.size+1)) (h':=s.heap.push PySem.W.emptyDict) (t':=s.toks) (λb u q=>di _ q) (bZ _) ⟨_,e1⟩;refine I1.laid (a:=s.heap.objs.size+1) (o := .ins C s.heap.objs.size []) (t':=s.toks) (λb u q=>di _ q) (Nat.le_of_eq (Heap.size_push _ _)) ?_;have ne:s.heap.objs.size≠s.heap.objs.size+1:=dJ (Nat.lt_succ_self _);refine⟨by rw[cu ne,fY],Nat.zero_le _,ne,e2,λ_=>none,(Heap.Ns1.of_empty e3).at λo q=>di _ q,λ_=>True.intro,λy hy=>absurd rfl hy⟩
theorem Z6{prog:Program}{w:World}{env:Env}{e:Expr}{f:Str}{pos:Pos}{s:Shared}{Q:Value->Shared->Prop}(hb:attributeBase e f env (eval e env)=eval e env)(h:wpAny (model prog w) A (eval e env) (λo s₁=>wpAny (model prog w) A (getAttr o f true) Q E s₁) E s):wpAny (model prog w) A (eval (.Attribute e f pos) env) Q E s :=
 Attribute_any_ h (by rw[arm_eval_Attribute,hb])
end
noncomputable def Om(K:FgA)(ta:TE)(f:Str):TE:=λσ H Q=>ta σ H λx H1=>∃a C dx fs v,x = .ref a/\H1 a=some (.ins C dx fs)/\jZ K C/\eV K C f/\fs.lookup f=some v/\Q v H1
noncomputable def Ov(K:FgA)(ta tv:TE)(f:Str):TS:=λD σ H=>tv σ H λy H1=>ta σ H1 λx H2=>∃a C dx fs,x = .ref a/\H2 a=some (.ins C dx fs)/\jZ K C/\eV K C f/\fs.length<1000 /\
 D.nx σ (upd H2 a (.ins C dx (jC f y fs)))
section
variable {X:Cx}{o e value:Expr}{f:Str}{pos pos' tpos:Pos}{ta tv:TE}
theorem Zx(he:PE X e ta)(hb:attributeBase e f X.env (eval e X.env)=eval e X.env):PE X (.Attribute e f pos) (Om X.K ta f):=by intro pins s σ H Q I h;refine Z6 hb (bR (he pins s σ H _ I h) λu s1 ⟨x,H1,I1,rx,a,C,dx,fs,v,ex,ea,c,n,l,q⟩=>?_);subst ex;obtain rfl:u=Value.ref a:=rx;exact zjt I1 ea c n l λu' s2 I2 ru=>⟨v,H1,I2,ru,q⟩
theorem YL(ha:PE X o ta)(hv:PE X value tv)(hs:swapsWith value (some (.Attribute o f pos')) pos.line X.env=pure false):PS X (.Assign [.Attribute o f pos'] value pos) (Ov X.K ta tv f):=by intro pins s σ H D I h;refine plainObj_wpAny_Assign_Attribute (bR (hv pins s σ H _ I h) λu s1 ⟨y,H1,I1,ry,q⟩=>bR (ha pins s1 σ H1 _ I1 q) λov s2 ⟨x,H2,I2,rx,a,C,dx,fs,ex,ea,c,n,l,q2⟩=>?_) hs;subst ex;obtain rfl:ov=Value.ref a:=rx;exact zi7 I2 ea c n l ry λs3 I3=>⟨σ,_,I3,q2⟩
end
section
variable {X:Cx}{pins:List (Addr×Obj)}{σ:St}{H:Hp}{s:Shared}{A:Around}{E:Value->Shared->Prop}{Q:Value->Shared->Prop}{c:Value}{b:Bool}
inductive mJ(K:FgA)(H:Hp):V->Value->Prop where
 |non:mJ K H .non (.type "NoneType")
 |bl (x:Bool):mJ K H (.bl x) (.type "bool")
 |int (i:Int):mJ K H (.int i) (.type "int")
 |str (x:Str):mJ K H (.str x) (.type "str")
 |flt (x:UInt64):mJ K H (.flt x) (.type "float")
 |lst {a:Addr} {xs:List V} (e:H a=some (.lst xs)):mJ K H (.ref a) (.type "list")
 |frz {a:Addr} {o:Obj} {xs:List V} (e:H a=some (.frz o (.lst xs))):mJ K H (.ref a) (.type "list")
 |tup {a:Addr} {xs:List V} (e:H a=some (.tup xs)):mJ K H (.ref a) (.type "tuple")
 |dK {a:Addr} {kvs:List (Key×V)} (e:H a=some (.dK kvs)):mJ K H (.ref a) (.type "dict")
 |dT {a:Addr} {kvs:List (List Key×V)} (e:H a=some (.dT kvs)):mJ K H (.ref a) (.type "dict")
 |ins {a C dx:Addr} {fs:List (Str×V)} (e:H a=some (.ins C dx fs)) (cl:jZ K C) (ha:PySem.W.findIn K (.ref C) "__class__" = some (some (.builtin "object.__class__")))
  (hn:PySem.W.specialIn K (.builtin "object.__class__") "__get__" = some (some (.builtin "getset_descriptor.__get__"))) (htk:PySem.W.takesIn K (.builtin "object.__class__")=some true)
  (hm:PySem.W.mroIn K C (.type "object")=some true):mJ K H (.ref a) (.ref C)
theorem zkH{x:V}{u t:Value}(I:Inv X pins σ H s)(rx:RelV x u)(ty:mJ X.K H x t)(e:PySem.W.kitOne X.K t c=some b)(h:∀tk,Q (.bool b) { s with toks:=tk }):
 wpAny (model X.prog X.w) A (call (.builtin "isinstance") [u,c]) Q E s:=by
 cases ty with
 |non=>cases (show u=Value.none from rx);exact PySem.W.kia_one PySem.W.kitx_none I.kIn True.intro e (λz=>nomatch z) h
 |bl y=>cases (show u=Value.bool y from rx);exact PySem.W.kia_one PySem.W.kitx_bool I.kIn True.intro e (λz=>nomatch z) h
 |int i=>obtain⟨t,q⟩:=(show ∃t,u=Value.int i t from rx);cases q;exact PySem.W.kia_one PySem.W.kitx_int I.kIn True.intro e (λz=>nomatch z) h
 |str y=>obtain⟨t,q⟩:=(show ∃t,u=Value.str y t from rx);cases q;exact PySem.W.kia_one PySem.W.kitx_str I.kIn True.intro e (λz=>nomatch z) h
 |flt y=>obtain⟨t,q⟩:=(show ∃t,u=Value.float y t from rx);cases q;exact PySem.W.kia_one PySem.W.kitx_float I.kIn True.intro e (λz=>nomatch z) h
 |@lst a xs ea =>
  cases (show u=Value.ref a from rx);obtain⟨_,_,n,_,h1⟩:=(show bY X.prog X.w H s.heap a (.lst xs) from I.hok a _ ea)
  exact PySem.W.kia_one PySem.W.kitx_list I.kIn ⟨_,h1,rfl⟩ e (λz=>nomatch z) h
 |@frz a ob xs ea =>
  cases (show u=Value.ref a from rx);obtain⟨_,_,_,n,_,h1⟩:=(show bY X.prog X.w H s.heap a (.frz ob (.lst xs)) from I.hok a _ ea)
  exact PySem.W.kia_one PySem.W.kitx_list I.kIn ⟨_,h1,rfl⟩ e (λz=>nomatch z) h
 |@tup a xs ea =>
  cases (show u=Value.ref a from rx);obtain⟨_,_,_,p⟩:=(show bY X.prog X.w H s.heap a (.tup xs) from I.hok a _ ea)
  obtain⟨o,h1,h2,_⟩:=p;exact PySem.W.kia_one PySem.W.kitx_tuple I.kIn ⟨o,h1,h2⟩ e (λz=>nomatch z) h
 |@dK a kvs ea =>
  cases (show u=Value.ref a from rx);obtain⟨_,_,vs,_,p⟩:=(show bY X.prog X.w H s.heap a (.dK kvs) from I.hok a _ ea)
  obtain⟨o,es,ep,h1,h2,_⟩:=p;exact PySem.W.kia_one PySem.W.kitx_dict I.kIn ⟨o,h1,h2.1⟩ e (λz=>nomatch z) h
 |@dT a kvs ea =>
  cases (show u=Value.ref a from rx);obtain⟨_,_,xs,_,o,es,ep,h1,h2,_⟩:=(show bY X.prog X.w H s.heap a (.dT kvs) from I.hok a _ ea)
  exact PySem.W.kia_one PySem.W.kitx_dict I.kIn ⟨o,h1,h2.1⟩ e (λz=>nomatch z) h
 |@ins a C dx fs ea cl ha hn htk hm =>
  cases (show u=Value.ref a from rx);obtain⟨mA,O,_⟩:=EY I.hok ea;obtain⟨od,J,_⟩:=O.look;exact PySem.W.kia_one (PySem.W.kitx_own (cl.get _) cl.hd ha hn htk hm) I.kIn J e (λz=>nomatch z) h
end
structure bK(k:Nat)(A:Around):Prop where
 hd:A.handled=none
 dp:A.depth+3*k+5<recursionLimit
 un:A.units+16*k+200<cLine
def bK.mono{j k:Nat}{A:Around}(r:bK k A)(h:j<=k):bK j A:=⟨r.hd,by have:=r.dp;omega,by have:=r.un;omega⟩
theorem bK.deeper{k:Nat}{A:Around}(r:bK (k+1) A)(env:Env):bK k (A.deeper env) :=
 ⟨r.hd,by have:=r.dp;show A.depth+1+3*k+5<_;omega,by have:=r.un;show A.units+3+16*k+200<_;omega⟩
def bK.in1{k:Nat}{A:Around}(r:bK (k+1) A):bK k A.in1 :=
 ⟨r.hd,by have:=r.dp;show A.depth+3*k+5<_;omega,by have:=r.un;show A.units+1+16*k+200<_;omega⟩
theorem zjl{A:Around}{C:Addr}{us:List Value}{kw:List (Str×Value)}:(A.under (.builtin "type.__call__" ⟨.ref C::us,kw⟩)).depth=A.depth+1:=by
 first|rfl|simp[Around.under,Code.weight,Code.isCreation,Code.isGuard,Code.isCaller,Code.frames,Code.isFrame,guardIds]
theorem zjk{A:Around}{C:Addr}{us:List Value}{kw:List (Str×Value)}:(A.under (.builtin "type.__call__" ⟨.ref C::us,kw⟩)).units=A.units+1:=by
 first|rfl|simp[Around.under,Code.cUnits,Code.frames,Code.isFrame]
theorem bK.make{k:Nat}{A:Around}(r:bK (k+1) A)(C:Addr)(us:List Value)(kw:List (Str×Value)):bK k (A.under (.builtin "type.__call__" ⟨.ref C::us,kw⟩)) :=
 ⟨r.hd,by have:=r.dp;rw[zjl];omega,by have:=r.un;rw[zjk];omega⟩
def bK.depth{k:Nat}{A:Around}(r:bK k A):A.depth<recursionLimit:=by have:=r.dp;omega
def bK.units{k:Nat}{A:Around}(r:bK k A):A.units+64<cLine:=by have:=r.un;omega
noncomputable def Bk:TA:=λ_ H Q=>Q [] H
noncomputable def Bp(ta:TE)(tr:TA):TA:=λσ H Q=>ta σ H λx H1=>tr σ H1 λxs H2=>Q (x::xs) H2
section
variable {X:Cx}{e:Expr}{es:List Expr}{te:TE}{t:TA}{pos:Pos}
def Zu:PA X [] Bk:=λ_ _ _ _ H Q I h=>Calls.spliced_nil ⟨[],H,I,.nil,h⟩
theorem zon(ha:PE X e te)(hr:PA X es t)(hs:starEach (e::es) X.env=(false,eval e X.env)::starEach es X.env:=by rfl):PA X (e::es) (Bp te t):=by intro pos pins s σ H Q I h;rw[hs];show wpAny _ _ (spliced ((false,eval e X.env)::backTo pos (starEach es X.env))) _ _ s;refine Calls.spliced_cons (bR (ha pins s σ H _ I h) λu s1 ⟨x,H1,I1,r1,q1⟩=>?_);exact bR (hr pos pins s1 σ H1 _ I1 q1) λus s2 ⟨xs,H2,I2,r2,q2⟩=>⟨x::xs,H2,I2,.cons r1 r2,q2⟩
noncomputable def Ob(t:TA):TE:=λσ H Q=>t σ H λxs H1=>xs.length<=sizeLine/\∀p,H1 p=none->Q (.ref p) (upd H1 p (.tup xs))
noncomputable def Oh(t:TA):TE:=λσ H Q=>t σ H λxs H1=>xs.length<=sizeLine/\∀p,H1 p=none->Q (.ref p) (upd H1 p (.lst xs))
theorem YD{x1}(h:PA X es t):PE X (.Tuple es x1 pos) (Ob t):=by intro pins s σ H Q I hq;refine wpAny_Tuple_spliced (bR (h pos pins s σ H _ I hq) λus s1 ⟨xs,H1,I1,r,z,q⟩=>⟨by rw[<-r.length];exact z,?_⟩);have hf:H1 s1.heap.objs.size=none:=I1.hok.fresh (bZ _);refine⟨.ref s1.heap.objs.size,upd H1 s1.heap.objs.size (.tup xs),I1.laid (t':=s1.toks) (λb u e=>di _ e) (bZ _) ?_,rfl,q _ hf⟩;exact⟨z,us,r,⟨_,gO _ rfl,rfl,_,rfl⟩⟩
theorem Zz(h:PA X es t):PE X (.List es pos) (Oh t):=by intro pins s σ H Q I hq;refine wpAny_List_spliced (bR (h pos pins s σ H _ I hq) λus s1 ⟨xs,H1,I1,r,z,q⟩=>⟨by rw[<-r.length];exact z,?_⟩);have hf:H1 s1.heap.objs.size=none:=I1.hok.fresh (bZ _);refine⟨.ref s1.heap.objs.size,upd H1 s1.heap.objs.size (.lst xs),I1.laid (t':=s1.toks) (λb u e=>di _ e) (bZ _) ?_,rfl,q _ hf⟩;exact⟨z,us,0,r,gO _ rfl⟩
end
noncomputable abbrev Sp:=List V->Hp->VK->XK->Prop
noncomputable abbrev pK:=List Env->Hp->Shared->XK->Value->Shared->Prop
structure jK(P:Program)(w:World)(K:FgA)(mg:Str->Option Value)(base:Heap)(A:Around)(outer:List Env)(s:Shared)(H:Hp):Prop where
 frames:A.frames=some outer
 mod:Mod K mg base
 bs:∀b o,base.get? b=some o->s.heap.get? b=some o/\H b=none
 bsz:base.objs.size<=s.heap.objs.size
 funs:s.heap.FunFrames base outer
 frf:∀b∈frs outer,H b=none
 hok:gK P w H s.heap
 bare:AllBare s.gens
noncomputable def CE(outer:List Env)(P:Program)(w:World)(H:Hp)(s:Shared)(Q:VK)(u:Value)(s':Shared):Prop :=
 ∃v H',s'.os=s.os/\AllBare s'.gens/\Un (frs outer) [] H H' s.heap s'.heap/\gK P w H' s'.heap/\RelV v u/\Q v H'
noncomputable def CR(CX:pK)(outer:List Env)(P:Program)(w:World)(H:Hp)(s:Shared)(Q:VK)(E:XK)(r:Result)(s':Shared):Prop :=
 match r with
 |.ok (.ret u)=>CE outer P w H s Q u s'
 |.ok _=>False
 |.error e=>CX outer H s E e s'
structure cY(P:Program)(w:World)(K:FgA)(mg:Str->Option Value)(base:Heap)(CX:pK)(k:Nat)(f:Addr)(fd:FuncData)(ps:List Str)(sp:Sp):Prop where
 len:∀vs H Q E,sp vs H Q E->vs.length=ps.length
 run:∀(A:Around) (outer:List Env) (s:Shared) (H:Hp) (args:Args) (us:List Value) (vs:List V) (Q:VK) (E:XK),bK k A->jK P w K mg base A outer s H->BindsTo s fd args (ps.zip us)->Vals vs us->sp vs H Q E ->
  codeAny (model P w) A (.call (.ref f) args) (CR CX outer P w H s Q E) s
def cY.mono{P:Program}{w:World}{K:FgA}{mg:Str->Option Value}{base:Heap}{CX:pK}{j k:Nat}{f:Addr}{fd:FuncData}{ps:List Str}{sp:Sp}(F:cY P w K mg base CX j f fd ps sp)(h:j<=k):
 cY P w K mg base CX k f fd ps sp:=⟨F.len,λA outer s H args us vs Q E hr=>F.run A outer s H args us vs Q E (hr.mono h)⟩
theorem jK.make{P:Program}{w:World}{K:FgA}{mg:Str->Option Value}{base:Heap}{A:Around}{outer:List Env}{s:Shared}{H:Hp}(e:jK P w K mg base A outer s H)(C:Addr)(us:List Value)(kw:List (Str×Value)):
 jK P w K mg base (A.under (.builtin "type.__call__" ⟨.ref C::us,kw⟩)) outer s H:=⟨by first|exact e.frames|(simpa[Around.under,Code.envs,Code.isFrame,pushEnvs] using e.frames),e.mod,e.bs,e.bsz,e.funs,e.frf,e.hok,e.bare⟩
section
variable {X:Cx}{pins:List (Addr×Obj)}{σ:St}{H:Hp}{s s':Shared}
def Inv.env0(I:Inv X pins σ H s):jK X.prog X.w X.K X.mg X.base X.A X.stack s H :=
 ⟨I.ok.frames,I.ok.mod,I.bs,Nat.le_trans I.ok.bsz I.sz,I.stack,I.stkFree,I.hok,I.bare⟩
theorem Inv.after{Q:VK}{u:Value}(I:Inv X pins σ H s)(h:CE X.stack X.prog X.w H s Q u s'):EP X pins σ Q u s':=by obtain⟨v,H',os,bare,un,hok,r,q⟩:=h;obtain⟨hh,g,d,t,os'⟩:=s';obtain rfl:os'=s.os:=os;exact⟨v,H',I.call (h':=hh) (g':=g) (d':=d) (t':=t) (ch:=[]) un hok bare (λb z=>absurd z (by simp)),r,q⟩
end
noncomputable def Bq(sp:Sp)(ji:List V)(E:XK)(t:TA):TE:=λσ H Q=>t σ H λvs H1=>sp (vs++ji) H1 Q E
noncomputable def ud(C:Addr)(m:Str)(sp:Sp)(ji:List V)(E:XK)(ta:TE)(t:TA):TE:=λσ H Q=>ta σ H λx H1=>∃a dx fs,x = .ref a/\H1 a=some (.ins C dx fs)/\fs.lookup m=none /\
 t σ H1 λvs H2=>sp (x::(vs++ji)) H2 Q E
noncomputable def Bl(C:Addr)(sp:Sp)(ji:List V)(E:XK)(t:TA):TE:=λσ H Q=>t σ H λvs H1=>∀x dx,H1 x=none->H1 dx=none->dx≠x ->
 sp (.ref x::(vs++ji)) (upd (upd H1 dx (.own x)) x (.ins C dx [])) (λv H2=>v = .non/\Q (.ref x) H2) E
noncomputable def Binds(K:FgA)(fd:FuncData)(ps:List Str)(ds:List Value):Prop :=
 ∀(s:Shared) (us:List Value),K.In s.heap->(us++ds).length=ps.length->BindsTo s fd ⟨us,[]⟩ (ps.zip (us++ds))
theorem Binds.all{K:FgA}{fd:FuncData}{ps:List Str}(h:∀us:List Value,us.length=ps.length->bindArgs fd ⟨us,[]⟩=pure (ps.zip us)):Binds K fd ps []:=λs us _ hl=>by rw[List.append_nil] at hl ⊢;exact .of_eq (h us hl)
def u9(CX:pK)(X:Cx)(E:XK):Prop:=∀(pins:List (Addr×Obj)) (σ:St) (H:Hp) (s:Shared) (e:Value) (s':Shared),Inv X pins σ H s->CX X.stack H s E e s'->X.xe e s'
section
variable {X:Cx}{CX:pK}{k:Nat}{f C:Addr}{fd:FuncData}{ps:List Str}{sp:Sp}{ji:List V}{ds:List Value}{E:XK}{x m:Str}{p pos apos:Pos}{e o:Expr}{es:List Expr}{ta:TE}{t:TA}
theorem Ji{pins:List (Addr×Obj)}{σ:St}{H:Hp}{s:Shared}{Q:VK}{us:List Value}{vs:List V}(F:cY X.prog X.w X.K X.mg X.base CX k f fd ps sp)(hr:bK k X.A)(hb:Binds X.K fd ps ds)(hd:Vals ji ds)(hx:u9 CX X E)(I:Inv X pins σ H s)(r:Vals vs us)(h:sp (vs++ji) H Q E):wpAny (model X.prog X.w) X.A (call (.ref f) us) (EP X pins σ Q) X.xe s:=by
 have r2:Vals (vs++ji) (us++ds):=r.append hd;have hl:(us++ds).length=ps.length:=by rw[<-r2.length];exact F.len _ _ _ _ h
 refine wpAny_call (codeAny_mono (F.run X.A X.stack s H ⟨us,[]⟩ (us++ds) (vs++ji) Q E hr I.env0 (hb s us I.kIn hl) r2 h) λr s' hq=>?_);cases r with
 |error e=>exact hx pins σ H s e s' I hq
 |ok fl =>
  cases fl with
  |ret u=>exact I.after hq
  |next=>exact False.elim hq
  |brk=>exact False.elim hq
  |cont=>exact False.elim hq
theorem zok(F:cY X.prog X.w X.K X.mg X.base CX k f fd ps sp)(hr:bK k X.A)(hg:Gl X x)(hm:X.mg x=some (.ref f))(hk:PySem.W.keepIn X.K (.ref f)=true)(hb:Binds X.K fd ps ds)(hd:Vals ji ds)(hx:u9 CX X E)(ha:PA X (e::es) t)(hdb:(x==("__debug__" : Str))=false:=by decide)(he:starEach (e::es) X.env=(false,eval e X.env)::starEach es X.env:=by rfl)(hpl:(backTo pos (starEach es X.env)).any (·.1)=false:=by rfl):
 PE X (.Call (.Name x p) (e::es) [] pos) (Bq sp ji E t):=by
 intro pins s σ H Q I h;refine wpAny_Call_Name_kw (Js I hg hm ?_ hdb);refine PySem.W.callWith_K (h₀:=X.base) I.ok.mod.kin hk (bR (ha pos pins s σ H _ I h) λus s1 ⟨vs,H1,I1,r,q⟩=>⟨I1.kIn,?_⟩) he hpl;exact Ji F hr hb hd hx I1 r q
theorem zoh{pl:Sem Bool}(he:PE X o ta)(c:jZ X.K C)(hm:Meth X.K C m f)(F:cY X.prog X.w X.K X.mg X.base CX k f fd ps sp)(hr:bK k X.A)(hb:Binds X.K fd ps ds)(hd:Vals ji ds)(hx:u9 CX X E)(ha:PA X (e::es) t)(hst:starEach (e::es) X.env=(false,eval e X.env)::starEach es X.env:=by rfl)(hpl:(backTo pos (starEach es X.env)).any (·.1)=false:=by rfl)(ht:eval (.Call (.Attribute o m apos) (e::es) [] pos) X.env=(do
  let ov <-eval o X.env
  standAt apos.atName
  let (f,first) <-holding [ov] (getMethod ov m pl)
  callWith pos f first (backTo pos (starEach (e::es) X.env)) (backToKw pos (keywordEach [] X.env))):=by rfl):
 PE X (.Call (.Attribute o m apos) (e::es) [] pos) (ud C m sp ji E ta t):=by
 intro pins s σ H Q I h;refine PySem.W.methodCall_KW (pl:=pl) (bR (he pins s σ H _ I h) λu s1 ⟨x,H1,I1,rx,a,dx,fs,ex,ea,l,q⟩=>?_) ht;subst ex;obtain rfl:u=Value.ref a:=rx;refine Vx I1 ea c hm l ?_;refine PySem.W.callWith_K (first:=[.ref a]) (h₀:=X.base) I.ok.mod.kin hm.kp (bR (ha pos pins s1 σ H1 _ I1 q) λus s2 ⟨vs,H2,I2,r,q2⟩=>⟨I2.kIn,?_⟩) hst hpl;exact Ji (us := .ref a::us) (vs := .ref a::vs) F hr hb hd hx I2 (.cons rfl r) q2
theorem zmc{pl:Sem Bool}(he:PE X o ta)(c:jZ X.K C)(hm:Meth X.K C m f)(F:cY X.prog X.w X.K X.mg X.base CX k f fd ps sp)(hr:bK k X.A)(hb:Binds X.K fd ps ds)(hd:Vals ji ds)(hx:u9 CX X E)(ht:eval (.Call (.Attribute o m apos) [] [] pos) X.env=(do
  let ov <-eval o X.env
  standAt apos.atName
  let (f,first) <-holding [ov] (getMethod ov m pl)
  callWith pos f first (backTo pos (starEach [] X.env)) (backToKw pos (keywordEach [] X.env))):=by rfl):
 PE X (.Call (.Attribute o m apos) [] [] pos) (ud C m sp ji E ta Bk):=by
 intro pins s σ H Q I h;refine PySem.W.methodCall_KW (pl:=pl) (bR (he pins s σ H _ I h) λu s1 ⟨x,H1,I1,rx,a,dx,fs,ex,ea,l,q⟩=>?_) ht;subst ex;obtain rfl:u=Value.ref a:=rx;refine Vx I1 ea c hm l ?_;exact PySem.W.callWith_K0 (first:=[.ref a]) I1.kIn hm.kp (Ji (us:=[.ref a]) (vs:=[.ref a]) F hr hb hd hx I1 (.cons rfl .nil) q)
structure Mk(K:FgA)(C f:Addr):Prop where
 makes:PySem.W.makesIn K C=true
 init:PySem.W.findIn K (.ref C) "__init__" = some (some (.ref f))
 fn:PySem.W.isFn K (.ref f)=true
 kp:PySem.W.keepIn K (.ref C)=true
theorem zlZ{pins:List (Addr×Obj)}{σ:St}{H:Hp}{s:Shared}{Q:VK}{us:List Value}{vs:List V}(M:Mk X.K C f)(F:cY X.prog X.w X.K X.mg X.base CX k f fd ps sp)(hr:bK (k+1) X.A)(hb:Binds X.K fd ps ds)(hd:Vals ji ds)(hx:u9 CX X E)(I:Inv X pins σ H s)(r:Vals vs us)(h:∀x dx,H x=none->H dx=none->dx≠x->sp (.ref x::(vs++ji)) (upd (upd H dx (.own x)) x (.ins C dx [])) (λv H2=>v = .non/\Q (.ref x) H2) E):
 wpAny (model X.prog X.w) X.A (call (.ref C) us) (EP X pins σ Q) X.xe s:=by
 have hq:=h (s.heap.objs.size+1) s.heap.objs.size (I.hok.fresh (Nat.le_succ _)) (I.hok.fresh (bZ _)) (dJ (Nat.lt_succ_self _));have I2:=Inv.made (C:=C) I;have r2:Vals (V.ref (s.heap.objs.size+1)::(vs++ji)) (Value.ref (s.heap.objs.size+1)::(us++ds)) := .cons rfl (r.append hd);have hl:(Value.ref (s.heap.objs.size+1)::us++ds).length=ps.length:=by have e:=r2.length;rw[F.len _ _ _ _ hq] at e;exact e.symm
 refine wpAny_call (zml (f:=f) I.kIn M.makes M.init (beq_iff_eq.mp M.fn) (codeAny_mono (F.run _ X.stack _ _ ⟨Value.ref (s.heap.objs.size+1)::us,[]⟩ (Value.ref (s.heap.objs.size+1)::(us++ds)) _ _ E (hr.make C us [])
  (I2.env0.make C us []) (hb _ (Value.ref (s.heap.objs.size+1)::us) I2.kIn hl) r2 hq) λr s' hq'=>?_))
 cases r with
 |error e=>exact hx pins σ _ _ e s' I2 hq'
 |ok fl =>
  cases fl with
  |ret u =>
   obtain⟨v,H',I3,rv,ev,q3⟩:=I2.after hq';subst ev;exact⟨rv,⟨V.ref (s.heap.objs.size+1),H',I3,rfl,q3⟩⟩
  |next=>exact False.elim hq'
  |brk=>exact False.elim hq'
  |cont=>exact False.elim hq'
theorem zoi(M:Mk X.K C f)(F:cY X.prog X.w X.K X.mg X.base CX k f fd ps sp)(hr:bK (k+1) X.A)(hg:Gl X x)(hm:X.mg x=some (.ref C))(hb:Binds X.K fd ps ds)(hd:Vals ji ds)(hx:u9 CX X E)(ha:PA X (e::es) t)(hdb:(x==("__debug__" : Str))=false:=by decide)(he:starEach (e::es) X.env=(false,eval e X.env)::starEach es X.env:=by rfl)(hpl:(backTo pos (starEach es X.env)).any (·.1)=false:=by rfl):
 PE X (.Call (.Name x p) (e::es) [] pos) (Bl C sp ji E t):=by
 intro pins s σ H Q I h;refine wpAny_Call_Name_kw (Js I hg hm ?_ hdb);refine PySem.W.callWith_K (h₀:=X.base) I.ok.mod.kin M.kp (bR (ha pos pins s σ H _ I h) λus s1 ⟨vs,H1,I1,r,q⟩=>⟨I1.kIn,?_⟩) he hpl;exact zlZ M F hr hb hd hx I1 r q
end
structure oM(N P:List Str)(sc:Scope):Prop where
 kind:sc.kind = .function
 co:sc.isCoroutine=false
 gen:sc.isGenerator=false
 nd:N.Nodup
 pre:N.take P.length=P
 par:∀x∈P,sc.names.lookup x=some .local\/sc.names.lookup x=some .cell
 nofree:∀y∈sc.names,y.2 ≠ .free
theorem Us{kindOf:Str->Option NameKind}{x:Str}:∀{binds:List (Str×Value)} {m:Str->Option Value},(∀v,(x,v)∉binds)->bindL kindOf binds m x=m x
 |[],_,_=>rfl
 | (n,v)::r,m,h=>by
   unfold bindL;rw[Us λw hw=>h w (cM _ hw)];split
   .have:x≠n:=by rintro rfl;exact h v fL
    simp[this]
   .rfl
theorem Uq{kindOf:Str->Option NameKind}{x:Str}:∀{binds:List (Str×Value)} {m:Str->Option Value},(∀v,(x,v)∉binds)->bindC kindOf binds m x=m x
 |[],_,_=>rfl
 | (n,v)::r,m,h=>by
   unfold bindC;rw[Uq λw hw=>h w (cM _ hw)];split
   .rfl
   .have:x≠n:=by rintro rfl;exact h v fL
    simp[this]
theorem Ur{kindOf:Str->Option NameKind}{x:Str}{v:Value}:∀{P:List Str} {vs:List Value} {i:Nat} {m:Str->Option Value},P.Nodup->P[i]?=some x->vs[i]?=some v->kindOf x=some .local ->
 bindL kindOf (P.zip vs) m x=some v
 |[],_,_,_,_,h,_,_=>by simp at h
 |_::_,[],_,_,_,_,h,_=>by simp at h
 |p::P,w::vs,0,m,nd,h1,h2,hk=>by simp at h1 h2;subst h1;subst h2;show bindL kindOf ((p,w)::P.zip vs) m p=_;unfold bindL;rw[Us λv hv=>(List.nodup_cons.mp nd).1 (List.of_mem_zip hv).1,if_pos hk];simp
 |p::P,w::vs,i+1,m,nd,h1,h2,hk=>by show bindL kindOf ((p,w)::P.zip vs) m x=_;unfold bindL;exact Ur (i:=i) (List.nodup_cons.mp nd).2 (by simpa using h1) (by simpa using h2) hk
theorem Uo{kindOf:Str->Option NameKind}{x:Str}{v:Value}:∀{P:List Str} {vs:List Value} {i:Nat} {m:Str->Option Value},P.Nodup->P[i]?=some x->vs[i]?=some v->kindOf x≠some .local ->
 bindC kindOf (P.zip vs) m x=some v
 |[],_,_,_,_,h,_,_=>by simp at h
 |_::_,[],_,_,_,_,h,_=>by simp at h
 |p::P,w::vs,0,m,nd,h1,h2,hk=>by simp at h1 h2;subst h1;subst h2;show bindC kindOf ((p,w)::P.zip vs) m p=_;unfold bindC;rw[Uq λv hv=>(List.nodup_cons.mp nd).1 (List.of_mem_zip hv).1,if_neg hk];simp
 |p::P,w::vs,i+1,m,nd,h1,h2,hk=>by show bindC kindOf ((p,w)::P.zip vs) m x=_;unfold bindC;exact Uo (i:=i) (List.nodup_cons.mp nd).2 (by simpa using h1) (by simpa using h2) hk
noncomputable def start(N:List Str)(vs:List V):St:=vs.map some++List.replicate (N.length - vs.length) none
noncomputable def pL(CX:pK)(P:Program)(w:World)(K:FgA)(mg:Str->Option Value)(base:Heap)(N:List Str)(qual:Str)(scope:Scope)(f:Addr)(cd:Value)(A:Around)(outer:List Env)(s:Shared)(H:Hp)(E:XK):Cx where
 prog:=P
 w:=w
 K:=K
 mg:=mg
 base:=base
 A:=A.deeper (envOfC qual scope s.heap.objs.size f cd)
 N:=N
 s₀:=s
 H₀:=H
 env:=envOfC qual scope s.heap.objs.size f cd
 outer:=outer
 stack:=envOfC qual scope s.heap.objs.size f cd::outer
 ex:=[]
 calm:=true
 fn:=λ_=>true
 pn:=[]
 xe:=λe s'=>wpAny (model P w) (A.deeper (envOfC qual scope s.heap.objs.size f cd)) (leaving (envOfC qual scope s.heap.objs.size f cd) e) (λ_ s''=>CX outer H s E e s'') (λe' s''=>CX outer H s E e' s'') s'
theorem T9{sc:Scope}{n:Nat}{x:Str}(h:sc.names.lookup x=some .cell):∃c,(cellsFrom n sc.names []).lookup x=some c:=by have q:=PySem.W.cellsFrom_some sc.names n [] (.inl h);exact Option.isSome_iff_exists.mp q
theorem zkK{CX:pK}{P:Program}{w:World}{K:FgA}{mg:Str->Option Value}{base:Heap}{N ps:List Str}{qual:Str}{scope:Scope}{f:Addr}{cd:Value}{A:Around}{outer:List Env}{s s1:Shared}{H:Hp}{E:XK}{us:List Value}{vs:List V}(S:oM N ps scope)(hd:A.handled=none)(e0:jK P w K mg base A outer s H)(hl:vs.length=ps.length)(r:Vals vs us)(x:InCallC s s.heap.objs.size (bindL (envOfC qual scope s.heap.objs.size f cd).kindOf (ps.zip us) λ_=>none) (cellsFrom (s.heap.objs.size+1) scope.names []) (bindC (envOfC qual scope s.heap.objs.size f cd).kindOf (ps.zip us) λ_=>none) s1):
 Inv (pL CX P w K mg base N qual scope f cd A outer s H E) [] (start N vs) H s1:=by
 have hpl:ps.length<=N.length:=by have:=congrArg List.length S.pre;rw[xP] at this;omega
 obtain⟨h1,tk,rfl,hk⟩:=x.done;have rY:∀b:Addr,b∉(pL CX P w K mg base N qual scope f cd A outer s H E).ex:=λb z=>absurd (show b∈([]:List Addr) from z) (by simp);refine⟨⟨e0.mod,S.kind,rfl,rfl,bZ _,λy z c h1 h2=>?_,λy hy=>?_,λy c _ h=>?_,λ_=>hd,Around.frames_deeper e0.frames,.inr ⟨rfl,rfl⟩,λb z=>absurd z (rY b),e0.bs,e0.bsz,λb _ _=>rY b,λb z=>absurd z (rY b),e0.funs,e0.frf⟩,
  rfl,e0.bare,Un.kept hk,⟨_,x.toInCall.ns,λi y v h1 h2 h3=>?_⟩,λy c h=>⟨_,x.cell y c h⟩,e0.hok.fresh (bZ _),λy c h=>?_,λp hp=>absurd (show p∈([]:List (Addr×Obj)) from hp) (by simp),e0.hok.kept hk,?_⟩
 .exact name_of_addr x.apart (iJ h1) (iJ h2)
 .have hy:scope.names.lookup y=some .cell\/scope.names.lookup y=some .free:=hy;rcases hy with hy|hy
  .exact T9 hy
  .exact absurd rfl (S.nofree _ (iJ hy))
 .exact uR (x.above y c (iJ h))
 .have hi:i<vs.length:=by
   unfold start at h2;by_cases hi:i<vs.length
   .exact hi
   .rw[zp (by simpa using hi)] at h2;rw[List.getElem?_replicate] at h2;split at h2<;>cases h2
  have ha:vs[i]?=some v:=by
   unfold start at h2;rw[ou (by simpa using hi),iY] at h2;cases e:vs[i]? with
   |none=>rw[e] at h2;cases h2
   |some a=>rw[e] at h2;cases h2;rfl
  obtain⟨u,hu,rv⟩:=r.get ha;have hp:ps[i]?=some y:=by rw[<-S.pre,List.getElem?_take_of_lt (by omega)];exact h1
  have Xb:ps.Nodup:=by rw[<-S.pre];exact S.nd.sublist (List.take_sublist _ _)
  refine⟨u,rv,?_⟩;rcases S.par y (List.mem_of_getElem? hp) with k|k
  .exact .inl ⟨k,Ur Xb hp hu k⟩
  .obtain⟨c,e⟩:=T9 (n:=s.heap.objs.size+1) k;refine .inr ⟨.inl k,c,e,?_⟩;have q:=x.cell y c e;rw[Uo Xb hp hu (by show scope.names.lookup y≠_;rw[k];decide)] at q;exact q
 .exact e0.hok.fresh (uR (x.above y c (iJ h)))
 .unfold start;show _=N.length;rw[lz,cW,List.length_replicate];omega
theorem Io{CX:pK}{P:Program}{w:World}{K:FgA}{mg:Str->Option Value}{base:Heap}{k:Nat}{f:Addr}{name qual:Str}{params:Arguments}{body:List Stmt}{scope:Scope}{dV kV doc pm cdv ct oc:Value}{an od:Option Addr}{osl:Array (Option Value)}{N ps:List Str}{sp:Sp}(lk:K.lookup f=some ⟨oc,od,.func (PySem.W.fnOf name qual params body scope dV kV doc pm an cdv ct),osl⟩)(hcd:PySem.W.codeIn K cdv qual=true)(S:oM N ps scope)(len:∀vs H Q E,sp vs H Q E->vs.length=ps.length)(hbody:∀(A:Around) (outer:List Env) (s:Shared) (H:Hp) (vs:List V) (Q:VK) (E:XK),bK k (A.deeper (envOfC qual scope s.heap.objs.size f cdv))->sp vs H Q E ->
  ∃t,jT (pL CX P w K mg base N qual scope f cdv A outer s H E) body t/\t { nx:=λ_ H'=>Q .non H',rt:=Q } (start N vs) H):
 cY P w K mg base CX (k+1) f (PySem.W.fnOf name qual params body scope dV kV doc pm an cdv ct) ps sp:=by
 refine⟨len,λA outer s H args us vs Q E hr e0 hb r hsp=>?_⟩;have hl:=len _ _ _ _ hsp;have KX:K.In s.heap:=e0.mod.kin.keeps λb o e=>(e0.bs b o e).1;have lim:s.heap.NoLimit:=e0.mod.nolimit.keeps λb o e=>(e0.bs b o e).1;have hkind:∀y∈ps.zip us,scope.names.lookup y.1=some .local\/(scope.names.lookup y.1=some .cell/\((cellsFrom (s.heap.objs.size+1) scope.names []).lookup y.1).isSome=true):=fun⟨n,v⟩ hy=>by
  rcases S.par n (List.of_mem_zip hy).1 with q|q
  .exact .inl q
  .exact .inr ⟨q,PySem.W.cellsFrom_some _ _ _ (.inl q)⟩
 refine codeAny_call_function hr.depth (KX _ _ lk) rfl S.co S.gen rfl (PySem.W.codeRec_of KX hcd) (hb _ _ _ _ ?_);refine wpAny_newFunctionEnv_cells S.kind hkind λenv he s1 x=>?_;subst he;refine⟨lim.keeps x.toInCall.keep,codeAny_func ?_⟩;obtain⟨t,ht,hq⟩:=hbody A outer s H vs Q E (hr.deeper _) hsp;have I:Inv (pL CX P w K mg base N qual scope f cdv A outer s H E) [] (start N vs) H s1:=zkK S hr.hd e0 hl r x;refine kh (ht [] s1 (start N vs) H _ I hq) (λfl s' hs=>?_) λe s' hs=>hs;have fin:∀{σ':St} {H':Hp} {v:V} {u:Value},Inv (pL CX P w K mg base N qual scope f cdv A outer s H E) [] σ' H' s'->RelV v u->Q v H'->CE outer P w H s Q u s' :=
  λ{σ' H' v u} J rv q=>⟨v,H',J.os,J.bare,J.base,J.hok,rv,q⟩
 cases fl with
 |ret u =>
  obtain⟨v,σ',H',J,rv,q⟩:=hs;exact fin J rv q
 |next =>
  obtain⟨σ',H',J,q⟩:=hs;exact fin (v:=V.non) (u:=Value.none) J rfl q
 |brk =>
  obtain⟨_,_,_,q⟩:=hs;exact False.elim q
 |cont =>
  obtain⟨_,_,_,q⟩:=hs;exact False.elim q
section
variable {X:Cx}{x:Str}{p pos:Pos}{e:Expr}{es:List Expr}{t:TA}{id T:String}{r:List V->Hp->VK->Prop}
noncomputable def WK(r:List V->Hp->VK->Prop)(t:TA):TE:=λσ H Q=>t σ H λvs H1=>r vs H1 Q
theorem zme(hc:iR X (.builtin id) r)(hg:Gl X x)(hm:X.mg x=none)(hv:bootBuiltins x=some (.builtin id))(ha:PA X (e::es) t)(hn:x ≠ "__name__" := by decide)(hdb:(x==("__debug__" : Str))=false:=by decide)(he:starEach (e::es) X.env=(false,eval e X.env)::starEach es X.env:=by rfl)(hpl:(backTo pos (starEach es X.env)).any (·.1)=false:=by rfl):PE X (.Call (.Name x p) (e::es) [] pos) (WK r t):=by intro pins s σ H Q I h;refine wpAny_Call_Name_kw (q9 I hg hm hv ?_ hn hdb);exact PyProof.Rows.callWith_builtin1 (bR (ha pos pins s σ H _ I h) λus s1 ⟨vs,H1,I1,r1,q1⟩=>hc pins s1 σ H1 vs us Q I1 r1 q1) he hpl
theorem zkf(hc:iR X (.type T) r)(hg:Gl X x)(hm:X.mg x=none)(hv:bootBuiltins x=some (.type T))(ha:PA X (e::es) t)(hn:x ≠ "__name__" := by decide)(hdb:(x==("__debug__" : Str))=false:=by decide)(he:starEach (e::es) X.env=(false,eval e X.env)::starEach es X.env:=by rfl)(hpl:(backTo pos (starEach es X.env)).any (·.1)=false:=by rfl):PE X (.Call (.Name x p) (e::es) [] pos) (WK r t):=by intro pins s σ H Q I h;refine wpAny_Call_Name_kw (q9 I hg hm hv ?_ hn hdb);exact PyProof.Rows.callWith_type1 (bR (ha pos pins s σ H _ I h) λus s1 ⟨vs,H1,I1,r1,q1⟩=>hc pins s1 σ H1 vs us Q I1 r1 q1) he hpl
end
end L2
namespace HT
open PySem PyProof.Rows
section
variable {prog:Program}{w:World}{A:Around}{E:Value->Shared->Prop}{s:Shared}
theorem zph{t b:Addr}{vs ws:List Value}{Q:Value->Shared->Prop}(ht:IsTup s.heap t vs.toArray)(hb:IsTup s.heap b ws.toArray)(hv:vs≠[])(h1:ws=[]->Q (.ref t) s)(h2:ws≠[]->Q (.ref s.heap.objs.size) { s with heap:=s.heap.push { cls := .type "tuple",data := .seq (vs++ws).toArray } })(hsz:vs.length+ws.length<=sizeLine):wpAny (model prog w) A (binaryOp .Add (.ref t) (.ref b)) Q E s:=by
 obtain⟨⟨cls,dd,data,sl⟩,ho,hc,n,hd⟩:=id ht;obtain⟨⟨cls2,dd2,data2,sl2⟩,ho2,hc2,n2,hd2⟩:=id hb;simp only at hc hd hc2 hd2;subst hc hd hc2 hd2;have e:vs.toArray++ws.toArray=(vs++ws).toArray:=by simp
 by_cases hw:ws=[]
 .exact concat_meets ⟨_,ho,rfl⟩ ⟨_,ho2,rfl⟩ noFill_tuple_add seq_tuple_add PySem.F.slot_tuple_add PySem.F.entry_tuple_add (PySem.F.args_tuple_add_2 _ _)
   (tuple_addW1 t b vs.toArray ws.toArray n n2 dd dd2 sl sl2 (by simpa using hv) (by simp[hw])) ⟨ho,ho2,h1 hw⟩
 .refine concat_meets ⟨_,ho,rfl⟩ ⟨_,ho2,rfl⟩ noFill_tuple_add seq_tuple_add PySem.F.slot_tuple_add PySem.F.entry_tuple_add (PySem.F.args_tuple_add_2 _ _)
   (tuple_addW2 t b vs.toArray ws.toArray n n2 dd dd2 sl sl2 (by simpa using hv) (by simpa using hw) (by rw[d7,d7];exact hsz)) ⟨ho,ho2,?_⟩
  rw[e];exact h2 hw
noncomputable def sIx(n d:Nat):Option Int->Nat
 |none=>d
 |some v=>if v<0 then(v+(n:Int)).toNat else min v.toNat n
def zii(n d:Nat):sIx n d none=d:=rfl
theorem zj7(n d k:Nat):sIx n d (some (k:Int))=min k n:=by show(if(k:Int)<0 then((k:Int)+(n:Int)).toNat else min (k:Int).toNat n)=min k n;rw[if_neg (by omega),Int.toNat_natCast]
theorem Y0(n d:Nat)(hd:d<=n)(o:Option Int):sIx n d o<=n:=by
 cases o with
 |none=>exact hd
 |some v =>
  show(if v<0 then(v+(n:Int)).toNat else min v.toNat n)<=n;by_cases hv:v<0
  .rw[if_pos hv];omega
  .rw[if_neg hv];exact Nat.min_le_right _ _
theorem Rz(v:Int)(n d:Nat):(if v<0 then max (v+(n:Int)) 0 else min v (n:Int))=((sIx n d (some v):Nat):Int):=by
 show(if v<0 then max (v+(n:Int)) 0 else min v (n:Int))=(((if v<0 then(v+(n:Int)).toNat else min v.toNat n):Nat):Int)
 by_cases hv:v<0
 .simp only[if_pos hv];omega
 .simp only[if_neg hv];omega
theorem zjD(lo hi:Option Int)(n:Nat):Builtin.Slice.sliceAdjust lo hi 1 (n:Int)=(((sIx n 0 lo:Nat):Int),((sIx n n hi:Nat):Int)):=by
 have h1:¬((1:Int)<0):=by omega
 unfold Builtin.Slice.sliceAdjust;simp only[h1,if_false];refine Prod.ext ?_ ?_
 .cases lo with
  |none=>rfl
  |some v=>exact Rz v n 0
 .cases hi with
  |none=>rfl
  |some v=>exact Rz v n n
theorem zjb(i j:Nat):Builtin.Slice.slicePlaces (i:Int) (j:Int) 1=j - i:=by
 unfold Builtin.Slice.slicePlaces;have h1:(1:Int)>0:=by omega
 simp only[h1,if_true,Int.ediv_one];split<;>omega
theorem VD{v:Value}{o:Option Int}{Q:Option Int->Shared->Prop}(p:IsPart v o)(h:Q o s):wpAny (model prog w) A (Builtin.Slice.slicePartIndex v) Q E s:=by
 cases p with
 |none=>exact slicePart_none h
 |int i t=>exact slicePart_int h
theorem zcW{sl:Addr}{vl vu:Value}{lo hi:Option Int}{n:Nat}{Q:Int×Int×Nat->Shared->Prop}(hs:s.heap.IsSliceOf sl vl vu .none)(pl:IsPart vl lo)(pu:IsPart vu hi)(h:Q (((sIx n 0 lo:Nat):Int),1,sIx n n hi - sIx n 0 lo) s):wpAny (model prog w) A (Builtin.Slice.sliceApplied (.ref sl) (pure (n:Int))) Q E s:=by obtain⟨os,hos,hcs,hds⟩:=id hs;unfold Builtin.Slice.sliceApplied Builtin.Slice.sliceFields;refine aL (aL (wpAny_field hos hds (x:=vl) rfl (aL (wpAny_field hos hds (x:=vu) rfl (aL (wpAny_field hos hds (x := .none) rfl (bO ?_)))))));refine aL (slicePart_none ?_);show wpAny _ _ (if((1:Int)==0)=true then _ else _) _ _ s;rw[if_neg (by decide)];refine aL (VD pl (aL (VD pu (aL (bO ?_)))));show wpAny _ _ (match Builtin.Slice.sliceAdjust lo hi 1 (n:Int) with|(lo,hi)=>pure (lo,(1:Int),Builtin.Slice.slicePlaces lo hi 1)) _ _ s;rw[zjD lo hi n];show wpAny _ _ (pure (((sIx n 0 lo:Nat):Int),(1:Int),Builtin.Slice.slicePlaces ((sIx n 0 lo:Nat):Int) ((sIx n n hi:Nat):Int) 1)) _ _ s;rw[zjb];exact bO h
theorem zl9(xs:Array Value)(i k:Nat):((List.range k).filterMap fun(m:Nat)=>xs[((i:Int)+(m:Int)*1).toNat]?).toArray=((xs.toList.drop i).take k).toArray:=by
 have e:(fun(m:Nat)=>xs[((i:Int)+(m:Int)*1).toNat]?)=λm=>xs[i+m]?:=by
  funext m;have:((i:Int)+(m:Int)*1).toNat=i+m:=by omega
  rw[this]
 rw[e];have:=pick_run xs i k;rw[List.filterMap_map] at this;have e2:((λx=>xs[x]?) ∘ λx=>i+x)=λm=>xs[i+m]?:=rfl;rw[e2] at this;rw[this]
theorem zel{t sl:Addr}{items:Array Value}{vl vu:Value}{lo hi:Option Int}{Q:Value->Shared->Prop}(ht:IsTup s.heap t items)(hs:s.heap.IsSliceOf sl vl vu .none)(pl:IsPart vl lo)(pu:IsPart vu hi)(hw:¬(sIx items.size 0 lo=0/\sIx items.size items.size hi=items.size))(h:Q (.ref s.heap.objs.size) { s with heap:=s.heap.push { cls := .type "tuple",data := .seq ((items.toList.drop (sIx items.size 0 lo)).take (sIx items.size items.size hi - sIx items.size 0 lo)).toArray } })(hsz:items.size<=sizeLine):wpAny (model prog w) A (getItem (.ref t) (.ref sl)) Q E s:=by
 have iV:sizeOk (.seq ((items.toList.drop (sIx items.size 0 lo)).take (sIx items.size items.size hi - sIx items.size 0 lo)).toArray):=by show((items.toList.drop (sIx items.size 0 lo)).take (sIx items.size items.size hi - sIx items.size 0 lo)).toArray.size<=sizeLine;rw[d7,xP,List.length_drop,Array.length_toList];omega
 have hj:sIx items.size items.size hi<=items.size:=Y0 _ _ (bZ _) hi;obtain⟨os,hos,hcs,hds⟩:=id hs;have hTs:s.TypeIs (.ref sl) "slice" := ⟨os,hos,hcs⟩
 unfold getItem
 try with_reducible refine wpAny_holding ?_
 first|refine aL (bO ?_)|skip
 refine aL (wpAny_sequenceKey ht.typeIs (by decide) ?_);refine aL (wpAny_callSpecial?_slot (name:=Str.ofString "__getitem__") ht.typeIs PyProof.Rows.slot_tuple_getitem
  (wpAny_call_entry PyProof.Rows.slot_tuple_getitem ht.typeIs entry_tuple_getitem ?_ (args_tuple_getitem _ _)))
 show wpAny _ _ (Builtin.Tuple.tupleItemsOf (.ref t) >>= _) _ _ s;refine aL (tupleItemsOf_ ht ?_);refine aL (wpAny_typeOf hTs ?_);rw[if_pos (by decide)];refine aL (zcW hs pl pu ?_);have hno:¬((((sIx items.size 0 lo:Nat):Int)==0&&(1:Int)==1&&(sIx items.size items.size hi - sIx items.size 0 lo)==items.size)=true):=by intro q;rw[dh,dh] at q;have q1:((sIx items.size 0 lo:Nat):Int)=0:=eq_of_beq q.1.1;have q2:sIx items.size items.size hi - sIx items.size 0 lo=items.size:=eq_of_beq q.2;exact hw ⟨by omega,by omega⟩
 show wpAny _ _ (if(((sIx items.size 0 lo:Nat):Int)==0&&(1:Int)==1&&(sIx items.size items.size hi - sIx items.size 0 lo)==items.size)=true then _ else _) _ _ s;rw[if_neg hno,zl9]
 first
  |exact aL (m:=Builtin.Tuple.tupleExact _) (wpAny_newObj_type (bO ⟨_,rfl,bO h⟩) iV)
  |exact aL (m:=Builtin.Tuple.tupleExact _) (wpAny_newObj_type (aL (bO (bO ⟨_,rfl,bO h⟩))) iV)
  |exact aL (aL (m:=Builtin.Tuple.tupleExact _) (wpAny_newObj_type (bO (bO ⟨_,rfl,bO h⟩)) iV))
  |exact aL (aL (m:=Builtin.Tuple.tupleExact _) (wpAny_newObj_type (bO ⟨_,rfl,bO h⟩) iV))
end
end HT
namespace L2
open PySem PySem.Spec PyProof.Rows
noncomputable abbrev TO:=St->Hp->(Option Int->Hp->Prop)->Prop
noncomputable def PO(X:Cx)(e:Option Expr)(t:TO):Prop :=
 ∀(pins:List (Addr×Obj)) (s:Shared) (σ:St) (H:Hp) (Q:Option Int->Hp->Prop),Inv X pins σ H s->t σ H Q ->
  wpAny (model X.prog X.w) X.A (evalPart e X.env) (λu s'=>∃o H',Inv X pins σ H' s'/\IsPart u o/\Q o H') X.xe s
noncomputable def rK:TO:=λ_ H Q=>Q none H
noncomputable def Bh(t:TE):TO:=λσ H Q=>t σ H λx H1=>∃i,x = .int i/\Q (some i) H1
section
variable {X:Cx}{e:Expr}{te:TE}{lo hi:Option Expr}{tl th:TO}{pos p2:Pos}
def zoc:PO X none rK:=by intro pins s σ H Q I h;rw[evalPart_none];exact bO ⟨none,H,I,.none,h⟩
theorem zob(h:PE X e te):PO X (some e) (Bh te):=by intro pins s σ H Q I hw;rw[evalPart_some];refine bR (h pins s σ H _ I hw) λu s1 ⟨x,H1,I1,r1,q1⟩=>?_;obtain⟨i,rfl,q⟩:=q1;obtain⟨t,rfl⟩:=r1;exact⟨some i,H1,I1,.int i t,q⟩
noncomputable def qD(X:Cx)(r:V->Option Int->Option Int->Hp->VK->Prop):Prop :=
 ∀(pins:List (Addr×Obj)) (s:Shared) (σ:St) (H:Hp) (x:V) (v vl vu:Value) (lo hi:Option Int) (sl:Addr) (Q:VK),Inv X pins σ H s->RelV x v->s.heap.IsSliceOf sl vl vu .none->IsPart vl lo->IsPart vu hi->r x lo hi H Q ->
  ∃T id,typeLookup (.type T) "__getitem__" = pure (some (.builtin id))/\s.TypeIs v T/\wpAny (model X.prog X.w) X.A (getItem v (.ref sl)) (EP X pins σ Q) X.xe s
theorem qD.or{r r':V->Option Int->Option Int->Hp->VK->Prop}(h:qD X r)(h':qD X r'):qD X (λx lo hi H Q=>r x lo hi H Q\/r' x lo hi H Q):=by
 intro pins s σ H x v vl vu lo hi sl Q I rx hs pl pu q;rcases q with q|q
 .exact h pins s σ H x v vl vu lo hi sl Q I rx hs pl pu q
 .exact h' pins s σ H x v vl vu lo hi sl Q I rx hs pl pu q
noncomputable def tSl(r:V->Option Int->Option Int->Hp->VK->Prop)(te:TE)(tl th:TO):TE:=λσ H Q=>te σ H λx H1=>tl σ H1 λl H2=>th σ H2 λu H3=>r x l u H3 Q
theorem zmb{r:V->Option Int->Option Int->Hp->VK->Prop}(hr:qD X r)(he:PE X e te)(hl:PO X lo tl)(hu:PO X hi th):PE X (.Subscript e (.Slice lo hi none p2) pos) (tSl r te tl th):=by intro pins s σ H Q I h;refine Subscript_ (bR (he pins s σ H _ I h) λv s1 ⟨x,H1,I1,r1,q1⟩=>?_);refine wpAny_Slice (bR (hl pins s1 σ H1 _ I1 q1) λvl s2 ⟨l,H2,I2,pl,q2⟩=>bR (hu pins s2 σ H2 _ I2 q2) λvu s3 ⟨u,H3,I3,pu,q3⟩=>?_);rw[evalPart_none];refine bO ?_;have I4:Inv X pins σ H3 { s3 with heap:=s3.heap.push { cls := .type "slice",data := .fields #[vl,vu,.none] } }:=I3.kept (t':=s3.toks) λb ob q=>di _ q;obtain⟨T,id,hT,ht,hg⟩:=hr pins { s3 with heap:=s3.heap.push { cls := .type "slice",data := .fields #[vl,vu,.none] } } σ H3 x v vl vu l u s3.heap.objs.size Q I4 r1 (Heap.IsSliceOf.new ..) pl pu q3;show wpAny (model X.prog X.w) X.A (subscriptTail e (.Slice lo hi none p2) v (.ref s3.heap.objs.size)) (EP X pins σ Q) X.xe { s3 with heap:=s3.heap.push { cls := .type "slice",data := .fields #[vl,vu,.none] } };exact tail_any (ops:=[.ref s3.heap.objs.size,v]) ht hT hg (by with_unfolding_all rfl)
noncomputable def qH(xs:List V)(lo hi:Option Int):List V:=(xs.drop (HT.sIx xs.length 0 lo)).take (HT.sIx xs.length xs.length hi - HT.sIx xs.length 0 lo)
def Vq(xs:List V)(lo hi:Option Int):(qH xs lo hi).length<=xs.length:=by unfold qH;rw[xP,List.length_drop];omega
noncomputable def BZ(K:FgA):V->Option Int->Option Int->Hp->VK->Prop:=λx lo hi H Q=>∃a xs,x = .ref a/\dM K H a xs /\
 ¬(HT.sIx xs.length 0 lo=0/\HT.sIx xs.length xs.length hi=xs.length)/\∀p,H p=none->Q (.ref p) (upd H p (.tup (qH xs lo hi)))
theorem zpW:qD X (BZ X.K):=by
 intro pins s σ H x v vl vu lo hi sl Q I rx hs pl pu h;obtain⟨a,xs,rfl,hx,hw,q⟩:=h;cases rx;obtain⟨its,r,ht,hz⟩:=I.tuple hx;have hlen:its.toArray.size=xs.length:=by rw[d7];exact r.length.symm
 refine⟨"tuple",_,PyProof.Rows.slot_tuple_getitem.lookup,ht.typeIs,?_⟩;refine HT.zel ht hs pl pu (by rw[hlen];exact hw) ?_ (by rw[hlen];exact hz);rw[hlen];refine⟨.ref s.heap.objs.size,_,I.laid (t':=s.toks) (o := .tup (qH xs lo hi)) (λb ob q=>di _ q) (bZ _) ?_,rfl,q _ (I.hok.fresh (bZ _))⟩;exact⟨Nat.le_trans (Vq xs lo hi) hz,_,(r.drop (HT.sIx xs.length 0 lo)).take (HT.sIx xs.length xs.length hi - HT.sIx xs.length 0 lo),IsTup.new _ _⟩
noncomputable def Cd(K:FgA):R2:=λx y H Q=>∃a b xs ys,x = .ref a/\y = .ref b/\dM K H a xs/\dM K H b ys/\xs≠[]/\xs.length+ys.length<=sizeLine /\
 (ys=[]->Q (.ref a) H)/\(ys≠[]->∀p,H p=none->Q (.ref p) (upd H p (.tup (xs++ys))))
def Vals.nil_iff{xs:List V}{us:List Value}(r:Vals xs us):us=[]↔xs=[]:=by
 cases r with
 |nil=>simp
 |cons _ _=>simp
theorem zoG:fW X (binaryOp .Add) (Cd X.K):=by intro pins s σ H x y v u Q I rx ry h;obtain⟨a,b,xs,ys,rfl,rfl,ha,hb,hx,hz,q1,q2⟩:=h;cases rx;cases ry;obtain⟨its,r1,p1,_⟩:=I.tuple ha;obtain⟨its2,r2,p2,_⟩:=I.tuple hb;refine HT.zph p1 p2 (λz=>hx (r1.nil_iff.mp z)) (λz=>⟨.ref a,H,I,rfl,q1 (r2.nil_iff.mp z)⟩) (λz=>?_) (by rw[<-r1.length,<-r2.length];exact hz);refine⟨.ref s.heap.objs.size,_,I.laid (t':=s.toks) (o := .tup (xs++ys)) (λb ob q=>di _ q) (bZ _) ?_,rfl,q2 (λw=>z (r2.nil_iff.mpr w)) _ (I.hok.fresh (bZ _))⟩;exact⟨by rw[lz];exact hz,_,r1.append r2,IsTup.new _ _⟩
end
noncomputable def uw(n:Nat)(i:Int):Option Nat:=if 0<=i then(if i<n then some i.toNat else none) else if -(n:Int)<=i then some (i+n).toNat else none
noncomputable def gJ{α:Type}(xs:List α)(i:Int):Option α:=(uw xs.length i).bind λj=>xs[j]?
theorem zoS{n:Nat}{i:Int}{j:Nat}(h:uw n i=some j):seqIndex? i n=some j/\j<n /\ -(n:Int)<=i/\i<n:=by
 unfold uw at h;by_cases h0:0<=i
 .rw[if_pos h0] at h;by_cases h1:i<n
  .rw[if_pos h1] at h;have e:i.toNat=j:=Option.some.inj h;exact⟨by rw[seqIndex_of h0 h1,e],by omega,by omega,h1⟩
  .rw[if_neg h1] at h;cases h
 .rw[if_neg h0] at h;by_cases h1 : -(n:Int)<=i
  .rw[if_pos h1] at h;have e:(i+n).toNat=j:=Option.some.inj h;exact⟨by rw[seqIndex_neg (by omega) h1,e],by omega,h1,by omega⟩
  .rw[if_neg h1] at h;cases h
theorem Jl{α:Type}{xs:List α}{i:Int}{v:α}(h:gJ xs i=some v):∃j,seqIndex? i xs.length=some j/\xs[j]?=some v/\j<xs.length /\ -(xs.length:Int)<=i/\i<xs.length:=by
 unfold gJ at h;cases e:uw xs.length i with
 |none=>rw[e] at h;cases h
 |some j =>
  rw[e] at h;obtain⟨h1,h2,h3,h4⟩:=zoS e;exact⟨j,h1,h,h2,h3,h4⟩
theorem zQ{α:Type}{xs:List α}{j:Nat}{v:α}(h:xs[j]?=some v):gJ xs (j:Int)=some v:=by
 have hj:j<xs.length:=(fO.mp h).1;have e:uw xs.length (j:Int)=some j:=by unfold uw;rw[if_pos (by omega),if_pos (by omega)];simp
 unfold gJ;rw[e];exact h
def H9(b:Expr):Prop:=∀o i,subscripted b false o i=operate [o,i] (getItem o i)
noncomputable def Dq(X:Cx)(r:R2):Prop :=
 ∀(value slice:Expr) (pins:List (Addr×Obj)) (s:Shared) (σ:St) (H:Hp) (x y:V) (v u:Value) (Q:VK),Inv X pins σ H s->RelV x v->RelV y u->r x y H Q ->
  subscripted slice false v u=operate [v,u] (getItem v u)->wpAny (model X.prog X.w) X.A (subscriptTail value slice v u) (EP X pins σ Q) X.xe s
noncomputable def sX(X:Cx)(id:String)(r:V->List V->Hp->VK->Prop):Prop :=
 ∀(pins:List (Addr×Obj)) (s:Shared) (σ:St) (H:Hp) (x:V) (xs:List V) (v:Value) (us:List Value) (Q:VK),Inv X pins σ H s->RelV x v->Vals xs us->r x xs H Q ->
  wpAny (model X.prog X.w) X.A (call (.builtin id) (v::us)) (EP X pins σ Q) X.xe s
section
variable {X:Cx}{a b:Expr}{ta tb:TE}{pos:Pos}
theorem Yt{r:R2}(hr:Dq X r)(ha:PE X a ta)(hb:PE X b tb)(hs:H9 b):PE X (.Subscript a b pos) (GR r ta tb):=by intro pins s σ H Q I h;exact Subscript_ (xq ha hb I h λv u s2 x y H2 I2 rx ry q=>hr a b pins s2 σ H2 x y v u Q I2 rx ry q (hs _ _))
noncomputable def O1(K:FgA):R2:=λx y H Q=>∃p xs i v,x = .ref p/\y = .int i/\dI K H p xs/\gJ xs i=some v/\Q v H
noncomputable def OD(K:FgA):R2:=λx y H Q=>∃p xs i v,x = .ref p/\y = .int i/\dM K H p xs/\gJ xs i=some v/\Q v H
noncomputable def OJ:R2:=λx y H Q=>∃z i c,x = .str z/\y = .int i/\z.length<=sizeLine/\gJ z.cps.toList i=some c/\Q (.str ⟨#[c]⟩) H
theorem R7:Dq X (O1 X.K):=by
 intro value slice pins s σ H x y v u Q I rx ry h hs;obtain⟨p,xs,i,z,rfl,rfl,hq,he,q⟩:=h;cases rx;obtain⟨t,rfl⟩:=ry;obtain⟨its,r,pl,hz⟩:=I.list hq;obtain⟨j,h1,h2,h3,h4,h5⟩:=Jl he;obtain⟨w,ew,fU⟩:=r.get h2;have hl:=r.length;have hn:=xV;have fin:EP X pins σ Q w s:=⟨z,H,I,fU,q⟩
 by_cases h0:0<=i
 .have hj:i.toNat=j:=by rw[seqIndex_of h0 h5] at h1;exact Option.some.inj h1
  exact item_listR pl.isList h0 (by omega) (by rw[hj];simpa using ew) fin hs
 .have hj:(i+(its.toArray.size:Int)).toNat=j:=by rw[seqIndex_neg (by omega) h4] at h1;rw[d7,<-hl];exact Option.some.inj h1
  exact subscriptTail_builtinR (x:=w) pl.isList.typeIs slot_list_getitem.lookup
   (wpAny_getItem_list_neg (Q:=λr s'=>r=w/\EP X pins σ Q r s') pl.isList (by omega) (by rw[d7]<;>omega) (by omega) (by rw[hj];simpa using ew) ⟨rfl,fin⟩) hs
theorem ZP:Dq X (OD X.K):=by
 intro value slice pins s σ H x y v u Q I rx ry h hs;obtain⟨p,xs,i,z,rfl,rfl,hq,he,q⟩:=h;cases rx;obtain⟨t,rfl⟩:=ry;obtain⟨its,r,pl,hz⟩:=I.tuple hq;obtain⟨j,h1,h2,h3,h4,h5⟩:=Jl he;obtain⟨w,ew,fU⟩:=r.get h2;have hl:=r.length;have hn:=xV;have fin:EP X pins σ Q w s:=⟨z,H,I,fU,q⟩
 exact subscriptTail_builtinR (x:=w) pl.typeIs slot_tuple_getitem.lookup
  (getItem_tuple (j:=j) (Q:=λr s'=>r=w/\EP X pins σ Q r s') pl (by omega) (by omega) (by rw[d7,<-hl];exact h1) (by simpa using ew) ⟨rfl,fin⟩) hs
theorem ZM:Dq X OJ:=by
 intro value slice pins s σ H x y v u Q I rx ry h hs;obtain⟨z,i,c,rfl,rfl,hz,he,q⟩:=h;obtain⟨t,rfl⟩:=rx;obtain⟨t',rfl⟩:=ry;obtain⟨j,h1,h2,h3,h4,h5⟩:=Jl he;have hl:z.cps.toList.length=z.length:=by simp[Str.length]
 rw[hl] at h1 h4 h5;have hn:=xV;exact tail_any (typeIs_str s z t) slot_str_getitem.lookup (getItem_str (c:=c) (by
  have e1:decide (i < -(2 ^ 63:Int))=false:=decide_eq_false (by omega);have e2:decide (i ≥ 2 ^ 63)=false:=decide_eq_false (by omega);rw[e1,e2,Bool.or_false]) (by rw[h1];simpa using h2) ⟨.str ⟨#[c]⟩,H,I.tok _,⟨_,rfl⟩,q⟩) hs
theorem zgW(lo hi:Option Int)(n:Nat):(sliceBounds lo hi none n).1=((HT.sIx n 0 lo:Nat):Int)/\(sliceBounds lo hi none n).2.1=((HT.sIx n n hi:Nat):Int)/\(sliceBounds lo hi none n).2.2=1:=by
 refine⟨?_,?_,rfl⟩
 .cases lo with
  |none=>simp[sliceBounds,HT.sIx]
  |some i =>
   simp only[sliceBounds,HT.sIx,Option.getD_none,show(1:Int)>0 by decide,if_true];by_cases h:i<0
   .simp only[h,if_true]<;>omega
   .simp only[h,if_false]<;>omega
 .cases hi with
  |none=>simp[sliceBounds,HT.sIx]
  |some i =>
   simp only[sliceBounds,HT.sIx,Option.getD_none,show(1:Int)>0 by decide,if_true];by_cases h:i<0
   .simp only[h,if_true]<;>omega
   .simp only[h,if_false]<;>omega
theorem zgf(its:List Value)(lo hi:Option Int):slicePick its.toArray lo hi none=((its.drop (HT.sIx its.length 0 lo)).take (HT.sIx its.length its.length hi - HT.sIx its.length 0 lo)).toArray:=by obtain⟨h1,h2,h3⟩:=zgW lo hi its.toArray.size;unfold slicePick;rw[h1,h2,h3];simp only[sliceRange_one,pick_run,d7]<;>rfl
noncomputable def Ca(K:FgA):V->Option Int->Option Int->Hp->VK->Prop:=λx lo hi H Q=>∃a xs,x = .ref a/\dI K H a xs/\∀p,H p=none->Q (.ref p) (upd H p (.lst (qH xs lo hi)))
theorem znQ:qD X (Ca X.K):=by intro pins s σ H x v vl vu lo hi sl Q I rx hs pl pu h;obtain⟨a,xs,rfl,hx,q⟩:=h;cases rx;obtain⟨its,r,ht,hz⟩:=I.list hx;have hlen:=r.length;refine⟨"list",_,slot_list_getitem.lookup,ht.isList.typeIs,?_⟩;refine wpAny_getItem_list_slice ht.isList hs pl pu .none (by simp) ?_ (by rw[d7]<;>omega);rw[zgf,<-hlen];refine⟨.ref s.heap.objs.size,_,I.laid (t':=s.toks) (o := .lst (qH xs lo hi)) (λb ob q=>di _ q) (bZ _) ?_,rfl,q _ (I.hok.fresh (bZ _))⟩;exact⟨Nat.le_trans (Vq xs lo hi) hz,_,0,(r.drop (HT.sIx xs.length 0 lo)).take (HT.sIx xs.length xs.length hi - HT.sIx xs.length 0 lo),gO _ rfl⟩
theorem V6:iR X (.builtin "len") (λxs H Q=>∃p ys,xs=[.ref p]/\(dI X.K H p ys\/dM X.K H p ys)/\Q (.int ys.length) H):=by
 intro pins s σ H xs us Q I r h;obtain⟨p,ys,rfl,hq,q⟩:=h;obtain⟨u,rfl,rx⟩:=pX r;cases rx;have hn:=xV;rcases hq with hq|hq
 .obtain⟨its,r',pl,hz⟩:=I.list hq;have hlen:=r'.length;exact Calls.call_len_list pl.isList (by simp only[d7]<;>omega) ⟨.int ys.length,H,I.tok _,⟨s.toks+1,by rw[d7,hlen]⟩,q⟩
 .obtain⟨its,r',pl,hz⟩:=I.tuple hq;have hlen:=r'.length;exact len_tuple pl (by simp only[d7]<;>omega) ⟨.int ys.length,H,I.tok _,⟨s.toks+1,by rw[d7,hlen]⟩,q⟩
theorem zhu:iR X (.builtin "len") (λxs H Q=>∃z,xs=[.str z]/\z.length<=sizeLine/\Q (.int z.length) H):=by intro pins s σ H xs us Q I r h;obtain⟨z,rfl,hz,q⟩:=h;obtain⟨u,rfl,t,rfl⟩:=pX r;have hn:=xV;exact len_str (by omega) ⟨.int z.length,H,I.tok _,⟨_,rfl⟩,q⟩
theorem V7:iR X (.type "list") (λxs H Q=>∃p ys,xs=[.ref p]/\(dI X.K H p ys\/dM X.K H p ys)/\∀l,H l=none->Q (.ref l) (upd H l (.lst ys))):=by
 intro pins s σ H xs us Q I r h;obtain⟨p,ys,rfl,hq,q⟩:=h;obtain⟨u,rfl,rx⟩:=pX r;cases rx;have fin:∀(its:List Value),Vals ys its->ys.length<=sizeLine->∀(h':Heap) (c':Nat),(∀b o',s.heap.get? b=some o'->h'.get? b=some o') ->
  h'.get? s.heap.objs.size=some { cls := .type "list",dict:=none,data := .seq its.toArray c',slots:=#[] }->EP X pins σ Q (.ref s.heap.objs.size) { s with heap:=h' }:=λits r' hz h' c' kp e =>
  ⟨.ref s.heap.objs.size,_,I.laid (t':=s.toks) kp (bZ _) (show bY X.prog X.w _ h' _ (.lst ys) from⟨hz,its,c',r',e⟩),rfl,q _ (I.hok.fresh (bZ _))⟩
 rcases hq with hq|hq
 .obtain⟨its,r',pl,hz⟩:=I.list hq;have hlen:=r'.length;obtain⟨o,ho,hc,n,hd⟩:=pl.isList;exact call_list_seq p (.inl rfl) ho hc hd (λh' c' kp e=>fin its r' hz h' c' kp e) (by simp only[d7]<;>omega)
 .obtain⟨its,r',pl,hz⟩:=I.tuple hq;have hlen:=r'.length;obtain⟨o,ho,hc,n,hd⟩:=pl;exact call_list_seq p (.inr rfl) ho hc hd (λh' c' kp e=>fin its r' hz h' c' kp e) (by simp only[d7]<;>omega)
theorem Wq:iR X (.type "tuple") (λxs H Q=>∃p ys,xs=[.ref p]/\((dI X.K H p ys/\∀l,H l=none->Q (.ref l) (upd H l (.tup ys)))\/(dM X.K H p ys/\Q (.ref p) H))):=by
 intro pins s σ H xs us Q I r h;obtain⟨p,ys,rfl,h⟩:=h;obtain⟨u,rfl,rx⟩:=pX r;cases rx;rcases h with⟨hq,q⟩|⟨hq,q⟩
 .obtain⟨its,r',pl,hz⟩:=I.list hq;have hlen:=r'.length;refine call_tuple_list pl.isList (λh' kp=>?_) (by simp only[d7]<;>omega);have I1:Inv X pins σ H { s with heap:=h' }:=I.kept (t':=s.toks) kp;have I2:Inv X pins σ (upd H h'.objs.size (.tup ys)) { s with heap:=h'.push { cls := .type "tuple",data := .seq its.toArray } } :=
   I1.laid (t':=s.toks) (λb o e=>di _ e) (bZ _) (show bY X.prog X.w _ _ _ (.tup ys) from⟨hz,its,r',IsTup.new _ _⟩)
  exact⟨.ref h'.objs.size,_,I2,rfl,q _ (I1.hok.fresh (bZ _))⟩
 .obtain⟨its,r',pl,hz⟩:=I.tuple hq;exact call_tuple_same pl ⟨.ref p,H,I,rfl,q⟩
noncomputable def N6(K:FgA)(T:String)(x:V)(H:Hp):Prop:=match x with
 |.str _=>T = "str"
 |.int _=>T = "int"
 |.ref p=>(T = "list" /\ ∃xs,dI K H p xs)\/(T = "tuple" /\ ∃o,K.lookup p=some o/\o.cls = .type "tuple" /\ o.dict=none) \/
  (T = "dict" /\ ((∃kvs,H p=some (.dK kvs))\/∃kvs,H p=some (.dT kvs)))\/(T = "set" /\ ∃S n,H p=some (.set S n))
 |_=>False
theorem Rm{pins:List (Addr×Obj)}{σ:St}{H:Hp}{s:Shared}{T:String}{x:V}{v:Value}(I:Inv X pins σ H s)(r:RelV x v)(ty:N6 X.K T x H):
 s.TypeIs v T/\∀a,v = .ref a->∃ob,s.heap.get? a=some ob/\ob.dict=none:=by
 cases x with
 |str z =>
  obtain⟨t,rfl⟩:=r;cases (show T = "str" from ty);exact⟨typeIs_str s z t,λ_ e=>nomatch e⟩
 |int i =>
  obtain⟨t,rfl⟩:=r;cases (show T = "int" from ty);exact⟨typeIs_int s i t,λ_ e=>nomatch e⟩
 |ref p =>
  cases r;rcases ty with⟨rfl,xs,hq⟩|⟨rfl,o,hk,hc,hd⟩|⟨rfl,hk⟩|⟨rfl,S,n,hk⟩
  .obtain⟨its,_,pl,_⟩:=I.list hq;refine⟨pl.isList.typeIs,λa e=>?_⟩;cases e;obtain⟨o,n,e,c,hd,_⟩:=pl;exact⟨o,e,hd⟩
  .refine⟨⟨o,I.kIn p o hk,hc⟩,λa e=>?_⟩;cases e;exact⟨o,I.kIn _ o hk,hd⟩
  .have z:∃o,s.heap.get? p=some o/\o.ExactDict:=by
    rcases hk with⟨kvs,hk⟩|⟨kvs,hk⟩
    .obtain⟨_,_,_,_,o,_,_,e,ex,_⟩:=I.hok p _ hk;exact⟨o,e,ex⟩
    .obtain⟨_,_,_,_,o,_,_,e,ex,_⟩:=I.hok p _ hk;exact⟨o,e,ex⟩
   obtain⟨o,e,ex⟩:=z;refine⟨⟨o,e,ex.1⟩,λa e2=>?_⟩;cases e2;exact⟨o,e,ex.2.1⟩
  .obtain⟨o,_,_,_,e,ex,_⟩:=I.hok p _ hk;refine⟨⟨o,e,ex.1⟩,λa e2=>?_⟩;cases e2;exact⟨o,e,ex.2.1⟩
 |_=>exact False.elim ty
noncomputable def Oo(K:FgA)(T:String)(r:V->List V->Hp->VK->Prop)(to:TE):TE:=λσ H Q=>to σ H λx H1=>N6 K T x H1/\r x [] H1 Q
noncomputable def tBM(K:FgA)(T:String)(r:V->List V->Hp->VK->Prop)(to:TE)(t:TA):TE:=λσ H Q=>to σ H λx H1=>N6 K T x H1/\t σ H1 λxs H2=>r x xs H2 Q
variable {o e:Expr}{es:List Expr}{to:TE}{t:TA}{name:Str}{apos cpos:Pos}{T id:String}{r:V->List V->Hp->VK->Prop}
theorem Zw(pa:PlainAttrs T)(slot:Slot T name id)(hty:typeOf (.builtin id)=pure (.type "method_descriptor"))(hm:sX X id r)(ho:PE X o to)(hbase:attributeBase o name X.env (eval o X.env)=eval o X.env:=by rfl)(hline:(apos.endLine==cpos.line)=true:=by rfl):PE X (.Call (.Attribute o name apos) [] [] cpos) (Oo X.K T r to):=by intro pins s σ H Q I h;refine wpAny_Call_method0_late hbase hline (bR (ho pins s σ H _ I h) λv s1 ⟨x,H1,I1,r1,ty,q1⟩=>?_);obtain⟨h1,h2⟩:=Rm I1 r1 ty;exact⟨T,id,pa,slot,hty,h1,h2,Calls.callWith_builtin rfl (PySem.evalArgs_none (hm pins s1 σ H1 x [] v [] Q I1 r1 .nil q1))⟩
theorem Ys(pa:PlainAttrs T)(slot:Slot T name id)(hty:typeOf (.builtin id)=pure (.type "method_descriptor"))(hm:sX X id r)(ho:PE X o to)(ha:PA X (e::es) t)(hbase:attributeBase o name X.env (eval o X.env)=eval o X.env:=by rfl)(hfew:((backTo cpos (starEach (e::es) X.env)).all (λx => !x.1)&&(backToKw cpos (keywordEach [] X.env)).all (λx=>x.1.isSome)
  && decide ((e::es).length+([]:List Keyword).length+(if([]:List Keyword).isEmpty then 0 else 1)<30))=true:=by rfl)(hline:(apos.endLine==cpos.line)=true:=by rfl)(hs:starEach (e::es) X.env=(false,eval e X.env)::starEach es X.env:=by rfl)(hplain:(backTo cpos (starEach es X.env)).any (·.1)=false:=by rfl):
 PE X (.Call (.Attribute o name apos) (e::es) [] cpos) (tBM X.K T r to t):=by
 intro pins s σ H Q I h;refine wpAny_Call_method_late hbase hfew hline rfl (bR (ho pins s σ H _ I h) λv s1 ⟨x,H1,I1,r1,ty,q1⟩=>?_);obtain⟨h1,h2⟩:=Rm I1 r1 ty;refine⟨T,id,pa,slot,hty,h1,h2,?_⟩;have hA:=ha cpos pins s1 σ H1 _ I1 q1;rw[hs] at hA ⊢;refine Calls.callWith_builtin (by show(false||(backTo cpos (starEach es X.env)).any (·.1))=false;rw[hplain]<;>rfl) (Calls.evalArgs_plain ?_);exact bR hA λus s2 ⟨vs,H2,I2,r2,q2⟩=>hm pins s2 σ H2 x vs v us Q I2 r1 r2 q2
end
noncomputable def Hq(X:Cx)(id:String)(r:V->List V->Hp->VK->Prop):Prop :=
 ∀(pins:List (Addr×Obj)) (s:Shared) (σ:St) (H:Hp) (x:V) (xs:List V) (v:Value) (us:List Value) (Q:VK),Inv X pins σ H s->RelV x v->Vals xs us->r x xs H Q ->
  wpAny (model X.prog X.w) X.A (call (.builtin id) (v::us)) (EP X pins σ Q) X.xe s
def Vals.one:∀{x:V} {us:List Value},Vals [x] us->∃u,us=[u]/\RelV x u
 |_,_,.cons r .nil=>⟨_,rfl,r⟩
def Vals.two:∀{x y:V} {us:List Value},Vals [x,y] us->∃u v,us=[u,v]/\RelV x u/\RelV y v
 |_,_,_,.cons r (.cons q .nil)=>⟨_,_,rfl,r,q⟩
def Vals.zero:∀{us:List Value},Vals [] us->us=[]
 |_,.nil=>rfl
theorem Vals.dropLast{xs:List V}{us:List Value}(h:Vals xs us):Vals xs.dropLast us.dropLast:=by
 induction h with
 |nil=>exact .nil
 |cons r t ih =>
  cases t with
  |nil=>exact .nil
  |cons q t'=>exact .cons r ih
def Vals.eraseIdx:∀{xs:List V} {us:List Value} (i:Nat),Vals xs us->Vals (xs.eraseIdx i) (us.eraseIdx i)
 |_,_,_,.nil => .nil
 |_,_,0,.cons _ t=>t
 |_,_,i+1,.cons r t => .cons r (Vals.eraseIdx i t)
theorem zjx{α:Type}(l:List α):l.eraseIdx (l.length - 1)=l.dropLast:=by
 induction l with
 |nil=>rfl
 |cons a r ih =>
  cases r with
  |nil=>rfl
  |cons b r =>
   have e:(a::b::r).length - 1=((b::r).length - 1)+1:=by have h1:(a::b::r).length=r.length+2:=rfl;have h2:(b::r).length=r.length+1:=rfl;omega
   rw[e,List.eraseIdx_cons_succ,ih]
   all_goals rfl
def U4{α:Type}:∀(l:List α) (i:Nat),(l.eraseIdx i).length<=l.length
 |[],_=>bZ _
 |_::_,0=>Nat.le_succ _
 |_::r,i+1=>Nat.succ_le_succ (U4 r i)
section
variable {X:Cx}{pins:List (Addr×Obj)}{σ:St}{H:Hp}{s:Shared}{l b:Addr}{xs ys zs:List V}
theorem Inv.lset{its its':List Value}{n:Nat}{f:Array Value->Array Value}{t':Nat}(I:Inv X pins σ H s)(hH:H l=some (.lst xs))(e:s.heap.get? l=some { cls := .type "list",data := .seq its.toArray n })(hf:f its.toArray=its'.toArray)(hv:Vals ys its')(hz:ys.length<=sizeLine):
 Inv X pins σ (upd H l (.lst ys)) { s with heap:=s.heap.update l (Obj.mapSeq f),toks:=t' }:=by
 have q:=PySem.IsL.update e f;rw[hf] at q;refine I.write (x:=l) (e:=l) (by rw[hH];exact trivial) (.inl rfl) (λb' u hb hu=>(zf s.heap (Obj.mapSeq f) (Ne.symm hb)).trans hu) ⟨_,q⟩ ?_;exact⟨hz,its',_,hv,q⟩
def Inv.lnew{its:List Value}{t':Nat}(I:Inv X pins σ H s)(hv:Vals ys its)(hz:ys.length<=sizeLine):
 Inv X pins σ (upd H s.heap.objs.size (.lst ys)) { s with heap:=s.heap.push { cls := .type "list",data := .seq its.toArray },toks:=t' } :=
 I.laid (λ_ _ q=>di _ q) (bZ _) ⟨hz,its,0,hv,gO _ rfl⟩
def Inv.fresh(I:Inv X pins σ H s):H s.heap.objs.size=none:=I.hok.fresh (bZ _)
theorem Inv.lstM(I:Inv X pins σ H s)(hH:H l=some (.lst xs)):xs.length<=sizeLine/\∃(its:List Value) (n:Nat),Vals xs its/\xs.length=its.length/\s.heap.get? l=some { cls := .type "list",data := .seq its.toArray n }:=by obtain⟨z,its,n,r,e⟩:=I.hok l _ hH;exact⟨z,its,n,r,r.length,e⟩
def Qy{n:Nat}(h:n<=sizeLine):Builtin.List.listTooLong n=false:=by unfold Builtin.List.listTooLong;exact decide_eq_false (by omega)
end
section
variable {X:Cx}
noncomputable def rQ:V->List V->Hp->VK->Prop:=λx vs H Q=>∃l xs y,x = .ref l/\vs=[y]/\H l=some (.lst xs)/\xs.length<sizeLine/\Q .non (upd H l (.lst (xs++[y])))
theorem zko:Hq X "list.append" rQ:=by intro pins s σ H x vs v us Q I rx rv h;obtain⟨l,xs,y,rfl,rfl,hH,hz,q⟩:=h;cases rx;obtain⟨u,rfl,ru⟩:=rv.one;obtain⟨z,its,n,r,hl,e⟩:=I.lstM hH;refine call_meets F.slot_list_append ⟨_,e,rfl⟩ F.entry_list_append (F.args_list_append_2 _ _) (PySem.list_append l its.toArray n u (by rw[d7];omega)) ⟨e,?_⟩;refine⟨.non,_,I.lset (its':=its++[u]) hH e (by simp) (r.append (.cons ru .nil)) ?_,rfl,q⟩;rw[lz,List.length_singleton];omega
noncomputable def rP:V->List V->Hp->VK->Prop:=λx vs H Q=>∃l b xs zs,x = .ref l/\vs=[.ref b]/\H l=some (.lst xs)/\H b=some (.lst zs)/\xs.length+zs.length<=sizeLine/\Q .non (upd H l (.lst (xs++zs)))
theorem zkn:Hq X "list.extend" rP:=by
 intro pins s σ H x vs v us Q I rx rv h;obtain⟨l,b,xs,zs,rfl,rfl,hH,hB,hz,q⟩:=h;cases rx;obtain⟨u,rfl,ru⟩:=rv.one;cases ru;obtain⟨z,its,n,r,hl,e⟩:=I.lstM hH;obtain⟨z2,its2,n2,r2,hl2,e2⟩:=I.lstM hB;have hsz:its.toArray.size+its2.toArray.size<=sizeLine:=by rw[d7,d7];omega
 have o8:¬(!its.toArray.isEmpty&&Builtin.List.listTooLong (its.toArray.size+its2.toArray.size))=true:=by rw[Qy hsz,Bool.and_false];exact gM
 refine call_meets F.slot_list_extend ⟨_,e,rfl⟩ F.entry_list_extend (F.args_list_extend_2 _ _)
  (AutoSeq1.list_extend_list_list_0 l its.toArray n b its2.toArray n2 o8 (by rw[d7];omega) (by omega)) ⟨e,e2,?_⟩
 refine⟨.non,_,I.lset (its':=its++its2) hH e (by simp) (r.append r2) ?_,rfl,q⟩;rw[lz];omega
noncomputable def Oz:V->List V->Hp->VK->Prop:=λx vs H Q=>∃l xs y,x = .ref l/\vs=[]/\H l=some (.lst xs)/\xs[xs.length - 1]?=some y/\Q y (upd H l (.lst xs.dropLast))
theorem Zi:Hq X "list.pop" Oz:=by
 intro pins s σ H x vs v us Q I rx rv h;obtain⟨l,xs,y,rfl,rfl,hH,hy,q⟩:=h;cases rx;have hus:=rv.zero;subst hus;obtain⟨z,its,n,r,hl,e⟩:=I.lstM hH;obtain⟨u,hu,ru⟩:=r.get hy;have hy':its.toArray[its.toArray.size - 1]?=some u:=by show its.toArray[its.length - 1]?=some u;rw[<-Array.getElem?_toList,<-hl];exact hu
 refine call_meets F.slot_list_pop ⟨_,e,rfl⟩ F.entry_list_pop (F.args_list_pop_1 _) (MeetsSeq.list_pop_last l its.toArray n u hy' (by rw[d7];omega)) ⟨e,?_⟩;refine⟨y,_,I.lset (its':=its.dropLast) hH e ?_ r.dropLast ?_,ru,q⟩
 .show its.toArray.eraseIdxIfInBounds (its.toArray.size - 1)=its.dropLast.toArray;rw[d7,List.eraseIdxIfInBounds_toArray,zjx]
 .rw[List.length_dropLast];omega
noncomputable def v9:V->List V->Hp->VK->Prop:=λx vs H Q=>∃l xs i k y,x = .ref l/\vs=[.int i]/\H l=some (.lst xs) /\ -(2 ^ 63)<=i/\i<2 ^ 63/\seqIndex? i xs.length=some k/\xs[k]?=some y/\Q y (upd H l (.lst (xs.eraseIdx k)))
theorem zmi:Hq X "list.pop" v9:=by
 intro pins s σ H x vs v us Q I rx rv h;obtain⟨l,xs,i,k,y,rfl,rfl,hH,h1,h2,hk,hy,q⟩:=h;cases rx;obtain⟨u,rfl,ru⟩:=rv.one;obtain⟨t,rfl⟩:=ru;obtain⟨z,its,n,r,hl,e⟩:=I.lstM hH;obtain⟨w,hw,fU⟩:=r.get hy;refine call_meets F.slot_list_pop ⟨_,e,rfl⟩ F.entry_list_pop (F.args_list_pop_2 _ _)
  (MeetsSeq.list_pop_at l its.toArray n i t k w (fitsIndex_both h1 h2) (by rw[d7,<-hl];exact hk) (by rw[<-Array.getElem?_toList];exact hw) (by rw[d7];omega)) ⟨e,?_⟩
 refine⟨y,_,I.lset (its':=its.eraseIdx k) hH e ?_ (r.eraseIdx k) ?_,fU,q⟩
 .show its.toArray.eraseIdxIfInBounds k=(its.eraseIdx k).toArray;rw[List.eraseIdxIfInBounds_toArray]
 .have:=U4 xs k;omega
noncomputable def O2:R2:=λx y H Q=>∃l b xs zs,x = .ref l/\y = .ref b/\H l=some (.lst xs)/\H b=some (.lst zs)/\xs.length+zs.length<=sizeLine/\∀p,H p=none->Q (.ref p) (upd H p (.lst (xs++zs)))
theorem Zn:fW X (binaryOp .Add) O2:=by
 intro pins s σ H x y v u Q I rx ry h;obtain⟨l,b,xs,zs,rfl,rfl,hH,hB,hz,q⟩:=h;cases rx;cases ry;obtain⟨z,its,n,r,hl,e⟩:=I.lstM hH;obtain⟨z2,its2,n2,r2,hl2,e2⟩:=I.lstM hB;refine PySem.P.add_list e e2 ?_ (by rw[d7,d7];omega);have ea:its.toArray++its2.toArray=(its++its2).toArray:=by simp
 rw[ea];exact⟨.ref _,_,I.lnew (t':=s.toks) (r.append r2) (by rw[lz];omega),rfl,q _ I.fresh⟩
end
end L2
namespace Xp
open PySem PySem.W PySem.Calls PyProof.Rows
theorem zff{P:Params}{h:Heap}:∀(ns:List Int) (vs:List Value),WellAll P h vs (ns.map WData.int)->IntsAre vs ns:=by
 intro ns
 induction ns with
 |nil =>
  intro vs w;rw[List.map_nil] at w;cases w;exact .nil
 |cons n ns ih =>
  intro vs w;rw[jd] at w;cases w with
  |cons a b =>
   cases a;exact .cons _ _ (ih _ b)
theorem zj6{l:OpenLaw}{n:Nat}(hn:l.most=some n){P:Params}{h:Heap}{args:List WData}{vals:List Value}(hpre:l.row.toRowW.claim.pre args=true)(hwl:WellAll P h vals args):
 ∃a vs ns,vals=[Value.ref a]/\args=[WData.list (ns.map WData.int)]/\h.get? a=some { cls := .type "list",data := .seq vs.toArray }/\IntsAre vs ns/\ns.length<=n:=by
 have hsh:WShape.hasAll [] args [.list .int]=true:=(pre_splitW hpre).1;have hc:l.pre.holds [] { args:=args }=true:=(pre_splitW hpre).2;obtain⟨d,r,rfl,h1,h2⟩:=hasAllW_cons hsh;obtain rfl:=hasAllW_nil h2;obtain⟨xs,rfl,h3⟩:=hasW_list h1;obtain⟨ns,rfl⟩:=items_int h3;have hlen:ns.length<=n:=by
  unfold OpenLaw.pre at hc;have h4:(WTm.not (.lt (.lit (.int (n:Int))) (.len (.arg 0)))).holds [] { args:=[.list (ns.map .int)] }=true:=by have h4:=(holds_andW hc).1;rw[hn] at h4;exact h4
  have h5:=condW_of h4 (w_not (w_lt w_lit (w_len_list (w_arg rfl))));rw[cW] at h5;refine Nat.le_of_not_lt λq=>?_;have q':(n:Int)<((ns.length:Nat):Int):=by omega
  first
   | (rw[decide_eq_true q'] at h5;exact absurd h5 (by decide))
   | (simp at h5;omega)
 cases hwl with
 |cons w1 w2 =>
  cases w2;cases w1 with
  |list ho hall=>exact⟨_,_,ns,rfl,rfl,ho,zff ns _ hall,hlen⟩
theorem zkb(l:OpenLaw)(args:List WData):l.row.toRowW.claim.post args (.bool true) args=true :=
 postW_of (r:=l.row.toRowW) (X:=(true==true))
  (show WShape.has [] (.bool true) .bool=true by first|rfl|decide|simp[WShape.has,WShape.arms,WShape.armsAll])
  (show(WTm.eq .res (.lit (.bool true))).value [] { args:=args,res:=some (.bool true),after:=args }=some (.bool (true==true)) from w_eq_bool (w_res rfl) w_lit) rfl
theorem zh8{l:OpenLaw}{n:Nat}{q:Program}{loose:List Str}{XP:(Str->Option Value)->Heap->Prop}{YP:World->Heap->Prop}{d:DefRec}(hn:l.most=some n)(hdf:d.params.defaults=[])(call:∀(w:World) (s₀ s₁:Shared) (mg mb:Str->Option Value) (fa:Addr) (o:Obj) (pm cd doc:Value) (a:Addr) (vs:List Value) (ns:List Int),
  Ground q loose [] XP w s₀ mg mb s₁.heap->YP w s₁.heap ->
  s₁.heap.get? fa=some o->o.data = .func (docDef d.name d.params d.body d.scope pm cd doc)->s₁.heap.CodeRec cd d.name->mg d.name=some (.ref fa) ->
  s₁.heap.get? a=some { cls := .type "list",data := .seq vs.toArray }->IntsAre vs ns->ns.length<=n->s₁.gens=#[] ->
  codeAny (model l.prog w) callerA (.call (.ref fa) ⟨[.ref a],[]⟩) (λr s'=>r = .ok (.ret (.bool true))/\OldK s₁.heap s'.heap/\s'.os=s₁.os/\AllBare s'.gens) s₁):
 WalkO q loose XP YP l.row.toRowW d [] (λf vs=>PySem.call f vs):=by
 intro w s₀ s₁ mg mb G Y fa o pm cd doc dV kV ho hd hcd hD hmg hg args vals as hpre hlay hrd hwl hlo;obtain rfl:dV = .none:=Dflts.none hD hdf;obtain rfl:kV = .none:=Dflts.noKw hD;obtain⟨a,vs,ns,rfl,rfl,hobj,hints,hlen⟩:=zj6 hn hpre hwl;refine enter_call (codeAny_mono (call w s₀ s₁ mg mb fa o pm cd doc a vs ns G Y ho (fd_plain hd) hcd hmg hobj hints hlen hg) λr s' hq=>?_);obtain⟨rfl,h2,h3,h4⟩:=hq;exact⟨.inl ⟨.bool true,.bool true,[],rfl,λ_=>rfl,.bool true,zkb l _,λ_=>⟨List.Pairwise.nil,λ_ hm=>(nomatch hm)⟩⟩,h2,h3,h4⟩
end Xp
namespace L2
open PySem PySem.Spec PyProof.Rows
def Vb:∀{vs:List Value} {ns:List Int},IntsAre vs ns->Vals (ns.map V.int) vs
 |_,_,.nil => .nil
 |_,_,.cons n t h => .cons ⟨t,rfl⟩ (Vb h)
noncomputable def mU(s:Stmt):Arguments:=match s with
 |.FunctionDef _ a _ _ _ _ _ _ _ _=>a
 |_=>{ posonlyargs:=[],args:=[],vararg:=none,kwonlyargs:=[],kw_defaults:=[],kwarg:=none,defaults:=[] }
noncomputable def iQ(s:Stmt):List Stmt:=match s with
 |.FunctionDef _ _ b _ _ _ _ _ _ _=>b
 |_=>[]
noncomputable def b7(s:Stmt):Scope:=match s with
 |.FunctionDef _ _ _ _ _ _ sc _ _ _=>sc
 |_=>{ kind := .function,names:=[],isGenerator:=false,isCoroutine:=false }
noncomputable abbrev iW:pK:=λ_ _ _ _ _ _=>False
noncomputable abbrev E0:XK:=λ_ _ _=>False
def DW{X:Cx}:u9 iW X E0:=λ_ _ _ _ _ _ _ h=>h.elim
structure pJ(K:FgA)(x qual:Str)(st:Stmt)(f:Addr)(fd:FuncData):Prop where
 ex:∃(oc:Value) (od:Option Addr) (kV doc pm:Value) (an:Option Addr) (cdv ct:Value) (osl:Array (Option Value)),
  fd=PySem.W.fnOf x qual (mU st) (iQ st) (b7 st) .none kV doc pm an cdv ct/\K.lookup f=some ⟨oc,od,.func fd,osl⟩/\PySem.W.codeIn K cdv qual=true
 kp:PySem.W.keepIn K (.ref f)=true
section
variable {P:Program}{w:World}{K:FgA}{mg:Str->Option Value}{base:Heap}
theorem pJ.ok{x qual:Str}{st:Stmt}{f:Addr}{fd:FuncData}{N ps:List Str}{k:Nat}{sp:Sp}(F:pJ K x qual st f fd)(S:oM N ps (b7 st))(len:∀vs H Q E,sp vs H Q E->vs.length=ps.length)(hbody:∀(cdv:Value) (A:Around) (outer:List Env) (s:Shared) (H:Hp) (vs:List V) (Q:VK) (E:XK),bK k (A.deeper (envOfC qual (b7 st) s.heap.objs.size f cdv))->sp vs H Q E ->
  ∃t,jT (pL iW P w K mg base N qual (b7 st) f cdv A outer s H E).nox (iQ st) t/\t { nx:=λ_ H'=>Q .non H',rt:=Q } (start N vs) H):cY P w K mg base iW (k+1) f fd ps sp:=by
 obtain⟨oc,od,kV,doc,pm,an,cdv,ct,osl,rfl,lk,hcd⟩:=F.ex;refine Io lk hcd S len λA outer s H vs Q E hr hsp=>?_;obtain⟨t,h,q⟩:=hbody cdv A outer s H vs Q E hr hsp;exact⟨t,h.nox,q⟩
theorem pJ.binds{x qual:Str}{st:Stmt}{f:Addr}{fd:FuncData}{ps:List Str}(F:pJ K x qual st f fd)(h:∀(kV doc pm:Value) (an:Option Addr) (cdv ct:Value) (us:List Value),us.length=ps.length->bindArgs (PySem.W.fnOf x qual (mU st) (iQ st) (b7 st) .none kV doc pm an cdv ct) ⟨us,[]⟩=pure (ps.zip us)):Binds K fd ps []:=by obtain⟨oc,od,kV,doc,pm,an,cdv,ct,osl,rfl,lk,hcd⟩:=F.ex;exact .all (h kV doc pm an cdv ct)
theorem Q8{x qual:Str}{st:Stmt}{f:Addr}{oc:Value}{od an:Option Addr}{osl:Array (Option Value)}{kV doc pm cdv ct:Value}(l:K.lookup f=some ⟨oc,od,.func (PySem.W.fnOf x qual (mU st) (iQ st) (b7 st) .none kV doc pm an cdv ct),osl⟩)(c:PySem.W.codeIn K cdv qual=true)(k:PySem.W.keepIn K (.ref f)=true):pJ K x qual st f (PySem.W.fnOf x qual (mU st) (iQ st) (b7 st) .none kV doc pm an cdv ct):=⟨⟨oc,od,kV,doc,pm,an,cdv,ct,osl,rfl,l,c⟩,k⟩
end
def Same(H H':Hp):Prop:=∀b o,H b=some o->H' b=some o
def Same.refl(H:Hp):Same H H:=λ_ _ h=>h
end L2
end
section
namespace MX
open PySem PySem.Spec PyProof.Rows L2
noncomputable abbrev NK:=List (List Int)
noncomputable def CP(k:NK):Int:=reduceHash (Builtin.Tuple.tupleHashOf (k.map λks=>reduceHash (Builtin.Tuple.tupleHashOf (ks.map hashInt))))
noncomputable def Qd(x:NK×Addr×Value):DictEntry:=⟨CP x.1,.ref x.2.1,x.2.2⟩
def Qp(h:Heap)(d:Addr)(xs:List (NK×Addr×Value)):Prop:=∃o es,h.get? d=some o/\o.ExactDict/\o.data = .dict es xs.length/\es.toList=xs.map Qd/\(xs.map (·.1)).Nodup
noncomputable def Qe(a:Addr)(xs:List (NK×Addr×Value)):HO := .ext λh=>(a==sysModules)=false/\xs.length<=sizeLine/\Qp h a xs
def sW(K:FgA)(H:Hp)(k:NK)(b:Addr):Prop:=∃bs:List Addr,dM K H b (bs.map V.ref)/\Paired (fun(ks:List Int) (c:Addr)=>dM K H c (ks.map V.int)) k bs
theorem sW.mono{K:FgA}{H H':Hp}{k:NK}{b:Addr}(t:∀a vs,dM K H a vs->dM K H' a vs)(h:sW K H k b):sW K H' k b:=by
 obtain⟨bs,h1,h2⟩:=h;refine⟨bs,t _ _ h1,?_⟩;clear h1
 induction h2 with
 |nil=>exact .nil
 |cons hc _ ih=>exact .cons (t _ _ hc) ih
inductive DR(K:FgA)(H:Hp):List (NK×Int)->List (NK×Addr×Value)->Prop
 |nil:DR K H [] []
 |cons {k:NK} {i:Int} {b:Addr} {t:Tok} {xs:List (NK×Int)} {ys:List (NK×Addr×Value)}:sW K H k b->DR K H xs ys->DR K H ((k,i)::xs) ((k,b,.int i t)::ys)
section
variable {K:FgA}{H H':Hp}{xs:List (NK×Int)}{ys:List (NK×Addr×Value)}
theorem DR.mono(t:∀a vs,dM K H a vs->dM K H' a vs)(h:DR K H xs ys):DR K H' xs ys:=by
 induction h with
 |nil=>exact .nil
 |cons hc _ ih=>exact .cons (hc.mono t) ih
end
section
variable {X:Cx}{pins:List (Addr×Obj)}{σ:L2.St}{H:Hp}{s:Shared}
theorem zlI(I:Inv X pins σ H s){b:Addr}{xs:List V}(h:dM X.K H b xs):∃o items n,s.heap.get? b=some o/\o.cls = .type "tuple" /\ o.data = .seq items n/\Vals xs items.toList:=by
 rcases h with h|⟨o,its,n,h1,h2,h3,_,h5⟩
 .obtain⟨_,its,r,o,h1,h2,n,h3⟩:=(show bY X.prog X.w H s.heap b (.tup xs) from h.ok I.hok)
  exact⟨o,its.toArray,n,h1,h2,h3,by simpa using r⟩
 .exact⟨o,its,n,I.kIn _ _ h1,h2,h3,h5⟩
end
section
variable {prog:Program}{w:World}{A:Around}{E:Value->Shared->Prop}
theorem QV{it l:Addr}{us:Array Value}(ne:l≠it):∀(n i:Nat) (t:Shared) (Q:List Value->Shared->Prop),t.heap.IsListIter it l i->t.heap.IsList l us->i+n<=us.size ->
 (∀h',h'.IsListIter it l (i+n)->Heap.SameBut it t.heap h'->Q ((us.toList.drop i).take n) { t with heap:=h' })->wpAny (model prog w) A (draw (.ref it) n) Q E t
 |0,i,t,Q,g,_,_,q=>by show wpAny _ _ (pure []) Q E t;exact bO (by simpa using q t.heap g (Heap.SameBut.refl ..))
 |n+1,i,t,Q,g,gl,le,q=>by
  have lt:i<us.size:=by omega
  show wpAny _ _ (pyNext (.ref it) >>= _) Q E t;refine aL (wpAny_pyNext_list_item g gl (x:=us[i]) (by simp[lt]) λk₁ g₁ s₁=>?_);have gl₁:k₁.IsList l us:=let ⟨o,e,r⟩:=gl;⟨o,s₁.extBut _ _ ne e,r⟩;refine aL (wpAny_holding (QV ne n (i+1) _ _ g₁ gl₁ (by omega) λk₂ g₂ s₂=>bO ?_));have e:us.toList.drop i=us[i]::us.toList.drop (i+1):=by simp[List.drop_eq_getElem_cons,lt]
  have z:=q k₂ (by rw[show i+(n+1)=i+1+n by omega];exact g₂) (s₁.trans s₂);rw[e,List.take_succ_cons] at z;exact z
theorem zlz{l:Addr}{us:Array Value}{t:Shared}{Q:List Value->Shared->Prop}(hh:A.handled=none)(gl:t.heap.IsList l us)(q:∀h',Heap.ExtBut t.heap.objs.size t.heap h'->Q us.toList { t with heap:=h' }):wpAny (model prog w) A (unpackItems (.ref l) us.size none) Q E t:=by
 have ne:l≠t.heap.objs.size:=by obtain⟨o,e,_⟩:=gl;exact dJ (cJ e)
 have gp:∀o,(t.heap.push o).IsList l us:=λo=>let ⟨u,e,r⟩:=gl;⟨u,di _ e,r⟩;unfold unpackItems notIterableAtAll;refine aL (aL (wpAny_specialOf gl.typeIs slot_list_iter.lookup (bO ?_)));simp only[Bool.false_eq_true,if_false];refine aL (wpAny_holding (wpAny_pyIter_list gl (aL (wpAny_holding (QV ne us.size 0 _ _ ⟨_,gO _ rfl,rfl,rfl⟩ (gp _) (by omega) λk₁ g₁ s₁=>?_)))));rw[show List.take us.size (List.drop 0 us.toList)=us.toList by rw[List.drop_zero];exact List.take_of_length_le (by simp),if_neg (by simp)];have gl₁:k₁.IsList l us:=let ⟨o,e,r⟩:=gp _;⟨o,s₁.extBut _ _ ne e,r⟩;refine aL (wpAny_holding (wpAny_pyNext_list_end hh g₁ gl₁ (by simp) λk₂ e₂=>?_));simp only[Option.isSome_none,Bool.false_eq_true,if_false];exact bO (q k₂ λc o hc e=>e₂ c o hc (s₁.extBut c o hc (di _ e)))
end
noncomputable def CW(K:FgA)(n:Nat)(t:qC):TG:=λv σ H Q=>∃a xs,v = .ref a/\dI K H a xs/\xs.length=n/\t xs σ H Q
theorem zof{X:Cx}{pos:Pos}{es:List Expr}{k:Nat}{t:qC}{n:Nat}(hc:X.calm=true)(h:yX X es t)(hn:(assignEach es X.env).length=n)(hst:(assignEach es X.env).findIdx? (·.1)=none):PG X (.Tuple es k pos) (CW X.K n t):=by
 intro pins s σ H v u Q I r hw;obtain⟨a,xs,rfl,hq,hl,hw⟩:=hw;cases r;obtain⟨its,rv,ht,hz⟩:=I.list hq;rw[arm_assign_Tuple];refine aL (wpAny_standAt ?_);unfold unpack;have el:(assignEach es X.env).length=its.toArray.size:=by simp[hn,<-hl,rv.length]
 rw[el,hst];refine aL (wpAny_holding (zlz (I.ok.hd hc) ht.isList λh' hx=>?_));have I1:Inv X pins σ H { s with heap:=h' }:=I.kept (t':=s.toks) λb o e=>hx b o (dJ (cJ e)) e;exact h pins _ σ H xs _ Q I1 (by simpa using rv) hw
theorem PG.or{X:Cx}{e:Expr}{t t':TG}(h:PG X e t)(h':PG X e t'):PG X e (λv σ H Q=>t v σ H Q\/t' v σ H Q):=λpins s σ H v u Q I r q=>by
 rcases q with q|q
 .exact h pins s σ H v u Q I r q
 .exact h' pins s σ H v u Q I r q
inductive D where
 |non|bl (b:Bool)|int (i:Int)|str (x:Str)|tup (xs:List D)|ref (n:Nat)
 |ty (n:String)|adr (a:Addr)
 |obj (C:Str) (ks:List Str) (xs:List D)
inductive O where
 |lst (xs:List D)
 |frz (xs:List D)
 |ins (C:Str) (fs:List (Str×D))
 |dct (xs:List (NK×Int))
 |tbl (x:Str)
noncomputable abbrev Sg:=List (Option D)
noncomputable abbrev So:=List O
mutual
inductive Rep(K:FgA)(H:Hp)(α:List Addr):D->V->Prop
 |non:Rep K H α .non .non
 |bl (b:Bool):Rep K H α (.bl b) (.bl b)
 |int (i:Int):Rep K H α (.int i) (.int i)
 |str (x:Str):Rep K H α (.str x) (.str x)
 |tup {a:Addr} {ds:List D} {vs:List V}:dM K H a vs->aG K H α ds vs->Rep K H α (.tup ds) (.ref a)
 |ref {n:Nat} {a:Addr}:α[n]?=some a->Rep K H α (.ref n) (.ref a)
 |ty (n:String):Rep K H α (.ty n) (.ty n)
 |adr (a:Addr):Rep K H α (.adr a) (.ref a)
 |obj {a:Addr} {C:Str} {dx:Addr} {gs:List (Str×V)} {ks:List Str} {ds:List D} {vs:List V}:H a=some (.ins (cU K C) dx gs)->3<=gs.length->gs.map (·.1)=ks->gs.map (·.2)=vs->aG K H α ds vs->Rep K H α (.obj C ks ds) (.ref a)
inductive aG(K:FgA)(H:Hp)(α:List Addr):List D->List V->Prop
 |nil:aG K H α [] []
 |cons {d:D} {v:V} {ds:List D} {vs:List V}:Rep K H α d v->aG K H α ds vs->aG K H α (d::ds) (v::vs)
end
structure Ext(K:FgA)(H:Hp)(α:List Addr)(H':Hp)(α':List Addr):Prop where
 tups:∀a vs,dM K H a vs->dM K H' a vs
 pre:∀(n:Nat) a,α[n]?=some a->α'[n]?=some a
 insts:∀a c dx gs,3<=gs.length->H a=some (.ins c dx gs)->H' a=some (.ins c dx gs)
section
variable {K:FgA}{H H' Xn:Hp}{α α' α'':List Addr}
def Ext.refl:Ext K H α H α:=⟨λ_ _ h=>h,λ_ _ h=>h,λ_ _ _ _ _ h=>h⟩
def Ext.trans(a:Ext K H α H' α')(b:Ext K H' α' Xn α''):Ext K H α Xn α'':=⟨λc vs h=>b.tups c vs (a.tups c vs h),λn c h=>b.pre n c (a.pre n c h),λx c d g l h=>b.insts x c d g l (a.insts x c d g l h)⟩
mutual
theorem Rep.mono(e:Ext K H α H' α'):∀{d:D} {v:V},Rep K H α d v->Rep K H' α' d v
 |_,_,.non => .non
 |_,_,.bl b => .bl b
 |_,_,.int i => .int i
 |_,_,.str x => .str x
 |_,_,.tup h r => .tup (e.tups _ _ h) (aG.mono e r)
 |_,_,.ref h => .ref (e.pre _ _ h)
 |_,_,.ty n => .ty n
 |_,_,.adr a => .adr a
 |_,_,.obj h l k v r => .obj (e.insts _ _ _ _ l h) l k v (aG.mono e r)
theorem aG.mono(e:Ext K H α H' α'):∀{ds:List D} {vs:List V},aG K H α ds vs->aG K H' α' ds vs
 |_,_,.nil => .nil
 |_,_,.cons h r => .cons (Rep.mono e h) (aG.mono e r)
end
def aG.length:∀{ds:List D} {vs:List V},aG K H α ds vs->ds.length=vs.length
 |_,_,.nil=>rfl
 |_,_,.cons _ r=>by simp[aG.length r]
theorem aG.get:∀{ds:List D} {vs:List V} {i:Nat} {d:D},aG K H α ds vs->ds[i]?=some d->∃v,vs[i]?=some v/\Rep K H α d v
 |_,_,_,_,.nil,e=>by simp at e
 |_,_,0,_,.cons h _,e=>by simp at e;subst e;exact⟨_,rfl,h⟩
 |_,_,i+1,_,.cons _ r,e=>by obtain⟨v,h1,h2⟩:=aG.get (i:=i) r (by simpa using e);exact⟨v,by simpa using h1,h2⟩
theorem aG.getV:∀{ds:List D} {vs:List V} {i:Nat} {v:V},aG K H α ds vs->vs[i]?=some v->∃d,ds[i]?=some d/\Rep K H α d v
 |_,_,_,_,.nil,e=>by simp at e
 |_,_,0,_,.cons h _,e=>by simp at e;subst e;exact⟨_,rfl,h⟩
 |_,_,i+1,_,.cons _ r,e=>by obtain⟨v,h1,h2⟩:=aG.getV (i:=i) r (by simpa using e);exact⟨v,by simpa using h1,h2⟩
def aG.append:∀{ds es:List D} {vs ws:List V},aG K H α ds vs->aG K H α es ws->aG K H α (ds++es) (vs++ws)
 |_,_,_,_,.nil,s=>s
 |_,_,_,_,.cons h r,s => .cons h (aG.append r s)
theorem aG.take:∀{ds:List D} {vs:List V} (n:Nat),aG K H α ds vs->aG K H α (ds.take n) (vs.take n)
 |_,_,0,_=>by simp;exact .nil
 |_,_,_+1,.nil => .nil
 |_,_,n+1,.cons h r => .cons h (aG.take n r)
theorem aG.drop:∀{ds:List D} {vs:List V} (n:Nat),aG K H α ds vs->aG K H α (ds.drop n) (vs.drop n)
 |_,_,0,r=>by simpa using r
 |_,_,_+1,.nil => .nil
 |_,_,n+1,.cons h r=>by simpa using aG.drop n r
theorem Same.tups(s:Same H H'):∀a vs,dM K H a vs->dM K H' a vs:=λa vs h=>by
 rcases h with(h|⟨o,h⟩)|h
 .exact .inl (.inl (s _ _ h))
 .exact .inl (.inr ⟨o,s _ _ h⟩)
 .exact .inr h
def Same.ext(s:Same H H'):Ext K H α H' α:=⟨Same.tups s,λ_ _ h=>h,λ_ _ _ _ _ h=>s _ _ h⟩
def mz{p:Addr}{o:HO}(h:H p=none):Same H (upd H p o):=λb u e=>by rw[cu (gR e h)];exact e
noncomputable def qF(K:FgA)(H:Hp)(a:Addr)(xs:List V):Prop :=
 (∃o,H a=some (.frz o (.lst xs))) \/
  ∃(o:Obj) (its:Array Value) (n:Nat),K.lookup a=some o/\o.cls = .type "list" /\ o.dict=none/\o.data = .seq its n/\its.size<=sizeLine/\Vals xs its.toList
def qF.sq{a:Addr}{xs:List V}(h:qF K H a xs):dI K H a xs:=by
 rcases h with h|h
 .exact .inl (.inr h)
 .exact .inr h
def qF.same{a:Addr}{xs:List V}(s:Same H H')(h:qF K H a xs):qF K H' a xs:=by
 rcases h with⟨o,h⟩|h
 .exact .inl ⟨o,s _ _ h⟩
 .exact .inr h
noncomputable def O.own:O->Bool
 |.frz _=>false
 |_=>true
noncomputable def gC(K:FgA)(H:Hp)(α:List Addr)(a:Addr):O->Prop
 |.lst ds=>∃vs,H a=some (.lst vs)/\aG K H α ds vs
 |.frz ds=>∃vs,qF K H a vs/\aG K H α ds vs
 |.ins C fs=>∃dx gs,H a=some (.ins (cU K C) dx gs)/\fs.map (·.1)=gs.map (·.1)/\aG K H α (fs.map (·.2)) (gs.map (·.2))
 |.dct xs=>∃ys,H a=some (Qe a ys)/\DR K H xs ys
 |.tbl x=>a=iZ K x/\∃ps,H a=some (.tbl ps)
structure aA(K:FgA)(H:Hp)(α:List Addr)(S:So):Prop where
 len:α.length=S.length
 nd:∀(n m:Nat) o o' a,S[n]?=some o->S[m]?=some o'->O.own o=true->O.own o'=true->α[n]?=some a->α[m]?=some a->n=m
 obj:∀(n:Nat) o a,S[n]?=some o->α[n]?=some a->gC K H α a o
noncomputable def bH(K:FgA)(H:Hp)(α:List Addr)(σd:Sg)(σ:L2.St):Prop :=
 σd.length=σ.length/\∀(i:Nat) d,σd[i]?=some (some d)->∃v,σ[i]?=some (some v)/\Rep K H α d v
def bH.mono{σd:Sg}{σ:L2.St}(e:Ext K H α H' α')(h:bH K H α σd σ):bH K H' α' σd σ :=
 ⟨h.1,λi d q=>let ⟨v,h1,h2⟩:=h.2 i d q;⟨v,h1,h2.mono e⟩⟩
theorem bH.set{σd:Sg}{σ:L2.St}{d:D}{v:V}(h:bH K H α σd σ)(r:Rep K H α d v)(i:Nat):bH K H α (σd.set i (some d)) (σ.set i (some v)):=by
 refine⟨by simpa using h.1,λj e q=>?_⟩;by_cases hj:j=i
 .subst hj;by_cases hlt:j<σd.length
  .rw[List.getElem?_set_self hlt] at q;cases q;exact⟨v,by rw[List.getElem?_set_self (by rw[<-h.1];exact hlt)],r⟩
  .rw[j9 (by simpa using hlt)] at q;cases q
 .rw[List.getElem?_set_ne (Ne.symm hj)] at q;obtain⟨u,h1,h2⟩:=h.2 j e q;exact⟨u,by rw[List.getElem?_set_ne (Ne.symm hj)];exact h1,h2⟩
theorem gC.mono{a:Addr}{o:O}(s:Same H H')(e:Ext K H α H' α')(h:gC K H α a o):gC K H' α' a o:=by
 cases o with
 |lst ds=>obtain⟨vs,h1,h2⟩:=h;exact⟨vs,s _ _ h1,h2.mono e⟩
 |frz ds=>obtain⟨vs,h1,h2⟩:=h;exact⟨vs,qF.same s h1,h2.mono e⟩
 |ins C fs=>obtain⟨dx,gs,h1,h2,h3⟩:=h;exact⟨dx,gs,s _ _ h1,h2,h3.mono e⟩
 |dct xs=>obtain⟨ys,h1,h2⟩:=h;exact⟨ys,s _ _ h1,h2.mono e.tups⟩
 |tbl x=>obtain⟨h0,ps,h1⟩:=h;exact⟨h0,ps,s _ _ h1⟩
def aA.mono{S:So}(s:Same H H')(h:aA K H α S):aA K H' α S :=
 ⟨h.len,h.nd,λn o a h1 h2=>(h.obj n o a h1 h2).mono s (Same.ext s)⟩
theorem gC.some{a:Addr}{o:O}(h:gC K H α a o)(w:O.own o=true):∃u,H a=some u:=by
 cases o with
 |lst ds=>obtain⟨vs,h1,_⟩:=h;exact⟨_,h1⟩
 |frz ds=>cases w
 |ins C fs=>obtain⟨dx,gs,h1,_⟩:=h;exact⟨_,h1⟩
 |dct xs=>obtain⟨ys,h1,_⟩:=h;exact⟨_,h1⟩
 |tbl x=>obtain⟨_,ps,h1⟩:=h;exact⟨_,h1⟩
theorem getElem?pH{α:Type}{l:List α}{x y:α}{n:Nat}(h:(l++[x])[n]?=some y):l[n]?=some y\/(n=l.length/\y=x):=by
 by_cases hn:n<l.length
 .rw[ou hn] at h;exact .inl h
 .rw[zp (by omega)] at h;by_cases h0:n - l.length=0
  .rw[h0] at h;simp at h;exact .inr ⟨by omega,h.symm⟩
  .rw[j9 (by simp;omega)] at h;cases h
theorem aA.snoc{S:So}{p:Addr}{o:O}{u:HO}(h:aA K H α S)(hp:H p=none)(ho:∀α',Ext K H α (upd H p u) α'->gC K (upd H p u) α' p o):
 aA K (upd H p u) (α++[p]) (S++[o])/\Ext K H α (upd H p u) (α++[p]):=by
 have s:Same H (upd H p u):=mz hp;have e:Ext K H α (upd H p u) (α++[p]):=⟨Same.tups s,λn a q=>by rw[ou (fO.mp q).1];exact q,λ_ _ _ _ _ h=>s _ _ h⟩
 have old:∀{n:Nat} {o':O} {a:Addr},S[n]?=some o'->(α++[p])[n]?=some a->α[n]?=some a:=λ{n o' a} h1 h2=>by
  have hn:n<α.length:=by rw[h.len];exact(fO.mp h1).1
  rw[ou hn] at h2;exact h2
 have o4:(α++[p])[S.length]?=some p:=by rw[<-h.len];simp
 have apart:∀{n:Nat} {o':O},S[n]?=some o'->O.own o'=true->¬(α++[p])[n]?=some p:=λ{n o'} h1 w h2=>by obtain⟨u,z⟩:=(h.obj n o' p h1 (old h1 h2)).some w;rw[hp] at z;cases z
 refine⟨⟨by simp[h.len],λn m o1 o2 a h1 h2 w1 w2 a1 a2=>?_,λn o' a h1 h2=>?_⟩,e⟩
 .rcases getElem?pH h1 with q1|⟨e1,e2⟩<;>rcases getElem?pH h2 with q2|⟨e3,e4⟩
  .exact h.nd n m o1 o2 a q1 q2 w1 w2 (old q1 a1) (old q2 a2)
  .rw[e3,o4] at a2;cases a2;exact absurd a1 (apart q1 w1)
  .rw[e1,o4] at a1;cases a1;exact absurd a2 (apart q2 w2)
  .rw[e1,e3]
 .rcases getElem?pH h1 with h1|⟨rfl,rfl⟩
  .exact(h.obj n o' a h1 (old h1 h2)).mono s e
  .rw[o4] at h2;cases h2;exact ho _ e
theorem aA.put'{S:So}{n:Nat}{a:Addr}{o₀ o:O}{u₀ u:HO}(h:aA K H α S)(hn:S[n]?=some o₀)(w₀:O.own o₀=true)(w:O.own o=true)(ha:α[n]?=some a)(hv:H a=some u₀)(nt:∀ws,HO.tup ws≠u₀)(nf:∀ob x,HO.frz ob x≠u₀)(ni:∀c dx gs,3<=gs.length->HO.ins c dx gs≠u₀)(ho:Ext K H α (upd H a u) α->gC K (upd H a u) α a o):aA K (upd H a u) α (S.set n o)/\Ext K H α (upd H a u) α:=by
 have e:Ext K H α (upd H a u) α:=⟨λb ws q=>by
  rcases q with(q|⟨o,q⟩)|q
  .exact .inl (.inl (by rw[cu (Ek q hv (nt _))];exact q))
  .exact .inl (.inr ⟨o,by rw[cu (Ek q hv (nf _ _))];exact q⟩)
  .exact .inr q,λ_ _ q=>q,λb c dx gs l q=>by rw[cu (Ek q hv (ni _ _ _ l))];exact q⟩
 have hlt:n<S.length:=(fO.mp hn).1;have at':∀{m:Nat} {o':O},(S.set n o)[m]?=some o'->(m=n/\o'=o)\/(m≠n/\S[m]?=some o'):=λ{m o'} h1=>by
  by_cases hm:m=n
  .subst hm;rw[List.getElem?_set_self hlt] at h1;exact .inl ⟨rfl,(Option.some.inj h1).symm⟩
  .rw[List.getElem?_set_ne (Ne.symm hm)] at h1;exact .inr ⟨hm,h1⟩
 refine⟨⟨by simpa using h.len,λm k o1 o2 b h1 h2 w1 w2 b1 b2=>?_,λm o' b h1 h2=>?_⟩,e⟩
 .rcases at' h1 with⟨e1,e2⟩|⟨n1,q1⟩<;>rcases at' h2 with⟨e3,e4⟩|⟨n2,q2⟩
  .rw[e1,e3]
  .rw[e1] at b1 ⊢;exact h.nd _ _ o₀ o2 b hn q2 w₀ w2 b1 b2
  .rw[e3] at b2 ⊢;exact h.nd _ _ o1 o₀ b q1 hn w1 w₀ b1 b2
  .exact h.nd _ _ o1 o2 b q1 q2 w1 w2 b1 b2
 .rcases at' h1 with⟨rfl,rfl⟩|⟨hm,h1⟩
  .rw[ha] at h2;cases h2;exact ho e
  .have q:=h.obj m o' b h1 h2;have hba:O.own o'=true->b≠a:=λw' z=>hm (by subst z;exact h.nd m n o' o₀ b h1 hn w' w₀ h2 ha);cases o' with
   |lst ds=>obtain⟨ws,q1,q2⟩:=q;exact⟨ws,by rw[cu (hba rfl)];exact q1,q2.mono e⟩
   |frz ds =>
    obtain⟨ws,q1,q2⟩:=q;refine⟨ws,?_,q2.mono e⟩;rcases q1 with⟨ob,q1⟩|q1
    .exact .inl ⟨ob,by rw[cu (Ek q1 hv (nf _ _))];exact q1⟩
    .exact .inr q1
   |ins C fs=>obtain⟨dx,gs,q1,q2,q3⟩:=q;exact⟨dx,gs,by rw[cu (hba rfl)];exact q1,q2,q3.mono e⟩
   |dct xs=>obtain⟨ys,q1,q2⟩:=q;exact⟨ys,by rw[cu (hba rfl)];exact q1,q2.mono e.tups⟩
   |tbl x=>obtain⟨q0,ps,q1⟩:=q;exact⟨q0,ps,by rw[cu (hba rfl)];exact q1⟩
theorem aA.put{S:So}{n:Nat}{a:Addr}{o₀ o:O}{u₀ u:HO}(h:aA K H α S)(hn:S[n]?=some o₀)(w₀:O.own o₀=true)(w:O.own o=true)(ha:α[n]?=some a)(hv:H a=some u₀)(hu:(∃vs,u₀ = .lst vs)\/∃f,u₀ = .ext f)(ho:Ext K H α (upd H a u) α->gC K (upd H a u) α a o):aA K (upd H a u) α (S.set n o)/\Ext K H α (upd H a u) α :=
 h.put' hn w₀ w ha hv (λws z=>by rcases hu with⟨vs,e⟩|⟨f,e⟩<;>(rw[e] at z;cases z)) (λob x z=>by rcases hu with⟨vs,e⟩|⟨f,e⟩<;>(rw[e] at z;cases z)) (λc dx gs _ z=>by rcases hu with⟨vs,e⟩|⟨f,e⟩<;>(rw[e] at z;cases z)) ho
end
mutual
def D.lo(n:Nat):D->Bool
 |.tup xs=>cV n xs
 |.obj _ _ xs=>cV n xs
 |.ref m=>decide (m<n)
 |_=>true
def cV(n:Nat):List D->Bool
 |[]=>true
 |d::ds=>D.lo n d&&cV n ds
end
noncomputable def O.lo(n:Nat):O->Bool
 |.lst xs=>cV n xs
 |.frz xs=>cV n xs
 |.ins _ fs=>cV n (fs.map (·.2))
 |.dct _=>true
 |.tbl _=>true
section
variable {K:FgA}{H:Hp}{α β:List Addr}
mutual
theorem Rep.lo:∀{d:D} {v:V},Rep K H α d v->D.lo α.length d=true
 |_,_,.non=>by simp[D.lo]
 |_,_,.bl _=>by simp[D.lo]
 |_,_,.int _=>by simp[D.lo]
 |_,_,.str _=>by simp[D.lo]
 |_,_,.tup _ r=>by rw[D.lo];exact aG.lo r
 |_,_,.ref h=>by rw[D.lo];exact decide_eq_true (fO.mp h).1
 |_,_,.ty _=>by simp[D.lo]
 |_,_,.adr _=>by simp[D.lo]
 |_,_,.obj _ _ _ _ r=>by rw[D.lo];exact aG.lo r
theorem aG.lo:∀{ds:List D} {vs:List V},aG K H α ds vs->cV α.length ds=true
 |_,_,.nil=>by simp[cV]
 |_,_,.cons h r=>by rw[cV,Rep.lo h,aG.lo r];rfl
end
mutual
theorem Rep.cut(n:Nat):∀{d:D} {v:V},Rep K H α d v->D.lo n d=true->Rep K H (α.take n) d v
 |_,_,.non,_ => .non
 |_,_,.bl b,_ => .bl b
 |_,_,.int i,_ => .int i
 |_,_,.str x,_ => .str x
 |_,_,.tup h r,b => .tup h (aG.cut n r (by rw[D.lo] at b;exact b))
 |_,_,.ref h,b => .ref (by
  rw[D.lo] at b;rw[List.getElem?_take_of_lt (of_decide_eq_true b)];exact h)
 |_,_,.ty n,_ => .ty n
 |_,_,.adr a,_ => .adr a
 |_,_,.obj h l k v r,b => .obj h l k v (aG.cut n r (by rw[D.lo] at b;exact b))
theorem aG.cut(n:Nat):∀{ds:List D} {vs:List V},aG K H α ds vs->cV n ds=true->aG K H (α.take n) ds vs
 |_,_,.nil,_ => .nil
 |_,_,.cons h r,b=>by rw[cV,dh] at b;exact .cons (Rep.cut n h b.1) (aG.cut n r b.2)
end
theorem gC.lo{a:Addr}{o:O}(h:gC K H α a o):O.lo α.length o=true:=by
 cases o with
 |lst ds=>obtain⟨_,_,r⟩:=h;exact r.lo
 |frz ds=>obtain⟨_,_,r⟩:=h;exact r.lo
 |ins C fs=>obtain⟨_,_,_,_,r⟩:=h;exact r.lo
 |dct xs=>rfl
 |tbl x=>rfl
theorem gC.cut{a:Addr}{o:O}(n:Nat)(h:gC K H α a o)(b:O.lo n o=true):gC K H (α.take n) a o:=by
 cases o with
 |lst ds=>obtain⟨vs,h1,r⟩:=h;exact⟨vs,h1,r.cut n b⟩
 |frz ds=>obtain⟨vs,h1,r⟩:=h;exact⟨vs,h1,r.cut n b⟩
 |ins C fs=>obtain⟨dx,gs,h1,h2,r⟩:=h;exact⟨dx,gs,h1,h2,r.cut n b⟩
 |dct xs=>exact h
 |tbl x=>exact h
def WF(S:So):Prop:=∀o∈S,O.lo S.length o=true
theorem aA.wf{S:So}(h:aA K H α S):WF S:=λo ho=>by
 obtain⟨n,hn,e⟩:=List.mem_iff_getElem.mp ho;have hn':n<α.length:=by rw[h.len];exact hn
 have:=(h.obj n o α[n] (by rw[fO];exact⟨hn,e⟩) (by simp)).lo;rw[h.len] at this;exact this
theorem aA.cut{S:So}(h:aA K H α S)(n:Nat)(b:∀o∈S.take n,O.lo n o=true):aA K H (α.take n) (S.take n):=by
 have lt:∀{m:Nat} {o:O},(S.take n)[m]?=some o->m<n:=λ{m o} h1=>by have:=(fO.mp h1).1;simp at this;omega
 refine⟨by simp[h.len],λm k o1 o2 a h1 h2 w1 w2 a1 a2=>?_,λm o a h1 h2=>?_⟩
 .have l1:=lt h1;have l2:=lt h2;rw[List.getElem?_take_of_lt l1] at h1 a1;rw[List.getElem?_take_of_lt l2] at h2 a2;exact h.nd m k o1 o2 a h1 h2 w1 w2 a1 a2
 have hm:m<n:=by have:=(fO.mp h1).1;simp at this;omega
 have b1:=b o (List.mem_of_getElem? h1);rw[List.getElem?_take_of_lt hm] at h1 h2;exact(h.obj m o a h1 h2).cut n b1
end
noncomputable def kD(k:NK):D := .tup (k.map λks => .tup (ks.map .int))
section
variable {K:FgA}{H:Hp}{α:List Addr}
def Vl:∀l:List Int,aG K H α (l.map .int) (l.map V.int)
 |[] => .nil
 |i::l => .cons (.int i) (Vl l)
end
end MX
end
section
namespace MX
open PySem PySem.Spec PyProof.Rows L2
open Builtin.Int (intBits)
noncomputable abbrev EF:=Sg->So->Option (D×So)
noncomputable def Kt(K:FgA)(H:Hp)(α:List Addr)(z:D)(S':So)(Q:VK):Prop :=
 ∀w H' α',aA K H' α' S'->Ext K H α H' α'->Rep K H' α' z w->Q w H'
noncomputable def v8(K:FgA)(f:EF):TE:=λσ H Q=>∃σd S α z S',bH K H α σd σ/\aA K H α S/\f σd S=some (z,S')/\Kt K H α z S' Q
def SE(X:Cx)(e:Expr)(f:EF):Prop:=PE X e (v8 X.K f)
def PE.imp{X:Cx}{e:Expr}{t t':TE}(h:PE X e t)(k:∀σ H Q,t' σ H Q->t σ H Q):PE X e t':=λpins s σ H Q I q=>h pins s σ H Q I (k σ H Q q)
noncomputable abbrev G2:=D->D->So->Option (D×So)
noncomputable abbrev GN:=List D->So->Option (D×So)
noncomputable def oE(K:FgA)(g:G2):R2:=λv u H Q=>∃S α x y z S',aA K H α S/\Rep K H α x v/\Rep K H α y u/\g x y S=some (z,S')/\Kt K H α z S' Q
noncomputable def jQ(K:FgA)(g:GN):List V->Hp->VK->Prop:=λvs H Q=>∃S α ds z S',aA K H α S/\aG K H α ds vs/\g ds S=some (z,S')/\Kt K H α z S' Q
def Kt.same{K:FgA}{H:Hp}{α:List Addr}{z:D}{S:So}{Q:VK}{w:V}(k:Kt K H α z S Q)(s:aA K H α S)(r:Rep K H α z w):Q w H:=k w H α s Ext.refl r
def Kt.new{K:FgA}{H H':Hp}{α:List Addr}{z:D}{S:So}{Q:VK}{w:V}(k:Kt K H α z S Q)(s:aA K H α S)(m:Same H H')(r:Rep K H' α z w):Q w H':=k w H' α (s.mono m) (Same.ext m) r
def Kt.trans{K:FgA}{H H1:Hp}{α α1:List Addr}{z:D}{S':So}{Q:VK}(k:Kt K H α z S' Q)(e:Ext K H α H1 α1):Kt K H1 α1 z S' Q:=λw H' α' s x r=>k w H' α' s (e.trans x) r
noncomputable def cQ(i j:Int):Bool:=decide (intBits i<=64)||decide (intBits j<=64)||decide (intBits i+intBits j<=134217728)
theorem cQ.ok{i j:Int}(h:cQ i j=true):IntMulOk i j:=by
 unfold cQ at h;rw[mG,mG] at h;rcases h with(h|h)|h
 .exact .of_left (of_decide_eq_true h)
 .exact .of_right (of_decide_eq_true h)
 .exact IntMulOk.of_le (bZ _) (bZ _) (of_decide_eq_true h)
noncomputable def dF(j:Int):Bool:=decide (j≠0)&&decide (intBits j<=8000)
theorem dF.ok{i j:Int}(h:dF j=true):j≠0/\Builtin.divisionGoesByPylong i j=false:=by
 unfold dF at h;rw[dh] at h;have h1:j≠0:=of_decide_eq_true h.1;have h2:intBits j<=8000:=of_decide_eq_true h.2;refine⟨h1,PyProof.noPylong_of_log2 ?_⟩;have hb:(j==0)=false:=by simpa using h1
 unfold Builtin.Int.intBits at h2;rw[hb] at h2;simp only[Bool.false_eq_true,if_false] at h2;omega
section
variable {X:Cx}
def zoD:fW X (binaryOp .Mult) (rI (λi j=>cQ i j=true) λi j => .int (i*j)):=Cg λ_ _ _ _ _ _ _ hc q=>mul_int q (cQ.ok hc)
def zoF:fW X (binaryOp .FloorDiv) (rI (λ_ j=>dF j=true) λi j => .int (i.fdiv j)):=Cg λ_ _ _ _ _ _ _ hc q=>floordiv_int (dF.ok (i:=0) hc).1 q (.inl (dF.ok hc).2)
end
noncomputable def pB:G2
 |.int i,.int j,S=>some (.int (i+j),S)
 |.str a,.str b,S=>if a.length+b.length<=sizeLine then some (.str (a++b),S) else none
 |.tup xs,.tup ys,S=>if xs≠[]/\xs.length+ys.length<=sizeLine then some (.tup (xs++ys),S) else none
 |.ref n,.ref m,S=>match S[n]?,S[m]? with
  |some (.lst xs),some (.lst ys)=>if xs.length+ys.length<=sizeLine then some (.ref S.length,S++[.lst (xs++ys)]) else none
  |_,_=>none
 |_,_,_=>none
noncomputable def wJ:G2
 |.int i,.int j,S=>some (.int (i - j),S)
 |_,_,_=>none
noncomputable def sE:G2
 |.int i,.int j,S=>if cQ i j=true then some (.int (i*j),S) else none
 |_,_,_=>none
noncomputable def sI:G2
 |.int i,.int j,S=>if dF j=true then some (.int (i.fdiv j),S) else none
 |_,_,_=>none
noncomputable def sG:G2
 |.int i,.int j,S=>if j≠0 then some (.int (i.fmod j),S) else none
 |_,_,_=>none
noncomputable def sy:G2
 |.int i,.int j,S=>if 0<=j/\j<=1000000/\i.natAbs<2 ^ 64 then some (.int (i*2 ^ j.toNat),S) else none
 |_,_,_=>none
noncomputable def wL:G2
 |.int i,.int j,S=>if 0<=j/\j<=1000000/\i.natAbs<2 ^ 64 then some (.int (i ^ j.toNat),S) else none
 |_,_,_=>none
noncomputable def aN:Operator->G2
 |.Add=>pB
 |.Sub=>wJ
 |.Mult=>sE
 |.FloorDiv=>sI
 |.Mod=>sG
 |.LShift=>sy
 |.Pow=>wL
 |_=>λ_ _ _=>none
section
variable {X:Cx}
theorem zoB:fW X (binaryOp .Add) (oE X.K pB):=by
 intro pins s σ H v u vv uu Q I rv ru h;obtain⟨S,α,x,y,z,S',hs,rx,ry,hg,k⟩:=h;unfold pB at hg;split at hg
 .cases hg;cases rx;cases ry;exact Zm pins s σ H _ _ _ _ Q I rv ru ⟨_,_,rfl,rfl,k.same hs (.int _)⟩
 .split at hg
  .rename_i hl;cases hg;cases rx;cases ry;exact zjd pins s σ H _ _ _ _ Q I rv ru ⟨_,_,rfl,rfl,hl,k.same hs (.str _)⟩
  .cases hg
 .split at hg
  .rename_i hl;cases hg;cases rx with
   |tup h1 r1 =>
    cases ry with
    |tup h2 r2 =>
     refine zoG pins s σ H _ _ _ _ Q I rv ru ⟨_,_,_,_,rfl,rfl,h1,h2,?_,?_,?_,?_⟩
     .intro e;subst e;cases r1;exact hl.1 rfl
     .rw[<-r1.length,<-r2.length];exact hl.2
     .intro e;subst e;cases r2;exact k.same hs (.tup h1 (by rw[List.append_nil];exact r1))
     .intro _ p hp;exact k.new hs (mz hp) (.tup (dM.of fY) ((r1.append r2).mono (Same.ext (mz hp))))
  .cases hg
 .split at hg
  .rename_i n m xs ys e1 e2;split at hg
   .rename_i hl;cases hg;cases rx with
    |ref a1 =>
     cases ry with
     |ref a2 =>
      obtain⟨vs,h1,r1⟩:=hs.obj _ _ _ e1 a1;obtain⟨ws,h2,r2⟩:=hs.obj _ _ _ e2 a2;refine Zn pins s σ H _ _ _ _ Q I rv ru ⟨_,_,_,_,rfl,rfl,h1,h2,by rw[<-r1.length,<-r2.length];exact hl,λp hp=>?_⟩;obtain⟨s',e'⟩:=hs.snoc (p:=p) (o := .lst (xs++ys)) (u := .lst (vs++ws)) hp λα' e=>⟨_,fY,(r1.append r2).mono e⟩
      exact k _ _ _ s' e' (.ref (by rw[<-hs.len];simp))
   .cases hg
  .cases hg
 .cases hg
theorem zoq:fW X (binaryOp .Sub) (oE X.K wJ):=by
 intro pins s σ H v u vv uu Q I rv ru h;obtain⟨S,α,x,y,z,S',hs,rx,ry,hg,k⟩:=h;unfold wJ at hg;split at hg
 .cases hg;cases rx;cases ry;exact Zt pins s σ H _ _ _ _ Q I rv ru ⟨_,_,rfl,rfl,k.same hs (.int _)⟩
 .cases hg
theorem zov:fW X (binaryOp .Mult) (oE X.K sE):=by
 intro pins s σ H v u vv uu Q I rv ru h;obtain⟨S,α,x,y,z,S',hs,rx,ry,hg,k⟩:=h;unfold sE at hg;split at hg
 .split at hg
  .rename_i hc;cases hg;cases rx;cases ry;exact zoD pins s σ H _ _ _ _ Q I rv ru ⟨_,_,rfl,rfl,hc,k.same hs (.int _)⟩
  .cases hg
 .cases hg
theorem zoz:fW X (binaryOp .FloorDiv) (oE X.K sI):=by
 intro pins s σ H v u vv uu Q I rv ru h;obtain⟨S,α,x,y,z,S',hs,rx,ry,hg,k⟩:=h;unfold sI at hg;split at hg
 .split at hg
  .rename_i hc;cases hg;cases rx;cases ry;exact zoF pins s σ H _ _ _ _ Q I rv ru ⟨_,_,rfl,rfl,hc,k.same hs (.int _)⟩
  .cases hg
 .cases hg
theorem zow:fW X (binaryOp .Mod) (oE X.K sG):=by
 intro pins s σ H v u vv uu Q I rv ru h;obtain⟨S,α,x,y,z,S',hs,rx,ry,hg,k⟩:=h;unfold sG at hg;split at hg
 .split at hg
  .rename_i hc;cases hg;cases rx;cases ry;exact zoE pins s σ H _ _ _ _ Q I rv ru ⟨_,_,rfl,rfl,hc,k.same hs (.int _)⟩
  .cases hg
 .cases hg
theorem zor:fW X (binaryOp .LShift) (oE X.K sy):=by
 intro pins s σ H v u vv uu Q I rv ru h;obtain⟨S,α,x,y,z,S',hs,rx,ry,hg,k⟩:=h;unfold sy at hg;split at hg
 .split at hg
  .rename_i hc;cases hg;cases rx;cases ry;exact Zr pins s σ H _ _ _ _ Q I rv ru ⟨_,_,rfl,rfl,hc,k.same hs (.int _)⟩
  .cases hg
 .cases hg
theorem zos:fW X (binaryOp .Pow) (oE X.K wL):=by
 intro pins s σ H v u vv uu Q I rv ru h;obtain⟨S,α,x,y,z,S',hs,rx,ry,hg,k⟩:=h;unfold wL at hg;split at hg
 .split at hg
  .rename_i hc;cases hg;cases rx;cases ry;exact Zq pins s σ H _ _ _ _ Q I rv ru ⟨_,_,rfl,rfl,hc,k.same hs (.int _)⟩
  .cases hg
 .cases hg
theorem zoA:∀op:Operator,fW X (binaryOp op) (oE X.K (aN op)):=by
 intro op;cases op
 case Add=>exact zoB
 case Sub=>exact zoq
 case Mult=>exact zov
 case FloorDiv=>exact zoz
 case Mod=>exact zow
 case LShift=>exact zor
 case Pow=>exact zos
 all_goals
  intro pins s σ H v u vv uu Q I rv ru h;obtain⟨S,α,x,y,z,S',hs,rx,ry,hg,k⟩:=h;exact absurd hg (by simp[aN])
end
noncomputable def nJ(f:D->Option PyData):List D->Option (List PyData)
 |[]=>some []
 |d::ds=>(f d).bind λp=>(nJ f ds).map λps=>p::ps
noncomputable def eH(S:So):Nat->D->Option PyData
 |0,_=>none
 |_+1,.non=>some .none
 |_+1,.bl b=>some (.bool b)
 |_+1,.int i=>some (.int i)
 |_+1,.str x=>some (.str x)
 |n+1,.tup ds=>(nJ (eH S n) ds).map .tuple
 |n+1,.ref m=>match S[m]? with
  |some (.lst ds)=>(nJ (eH S n) ds).map .list
  |some (.frz ds)=>(nJ (eH S n) ds).map .list
  |_=>none
 |_+1,_=>none
theorem VN{X:Cx}{s:Shared}{H:Hp}{α:List Addr}{f:D->Option PyData}(hf:∀d v u p,Rep X.K H α d v->RelV v u->f d=some p->∃as,Reads s.heap u p as):
 ∀ds vs us ps,aG X.K H α ds vs->Vals vs us->nJ f ds=some ps->∃as,ReadsAll s.heap us ps as
 |_,_,_,_,.nil,.nil,e=>by simp[nJ] at e;subst e;exact⟨_,.nil⟩
 |_,_,_,_,.cons r rr,.cons rv rvs,e=>by simp only[nJ,bC,aX] at e;obtain⟨p,e1,ps,e2,rfl⟩:=e;obtain⟨as,ra⟩:=hf _ _ _ _ r rv e1;obtain⟨bs,rb⟩:=VN hf _ _ _ _ rr rvs e2;exact⟨_,.cons ra rb⟩
theorem Ad{X:Cx}{pins:List (Addr×Obj)}{s:Shared}{σ:L2.St}{H:Hp}{α:List Addr}{S:So}(I:Inv X pins σ H s)(hs:aA X.K H α S):∀(n:Nat) d v u p,Rep X.K H α d v->RelV v u->eH S n d=some p->∃as,Reads s.heap u p as
 |0,d,v,u,p,_,_,e=>by simp[eH] at e
 |n+1,d,v,u,p,r,rv,e=>by
  have ih:=VN (X:=X) (s:=s) (Ad I hs n);cases r with
  |non=>cases rv;simp[eH] at e;subst e;exact⟨_,.none⟩
  |bl b=>cases rv;simp[eH] at e;subst e;exact⟨_,.bool b⟩
  |int i=>obtain⟨t,rfl⟩:=rv;simp[eH] at e;subst e;exact⟨_,.int i t⟩
  |str x=>obtain⟨t,rfl⟩:=rv;simp[eH] at e;subst e;exact⟨_,.str x t⟩
  |tup h r =>
   cases rv;simp only[eH,aX] at e;obtain⟨ps,e1,rfl⟩:=e;obtain⟨its,r',⟨o,ho,hc,m,hd⟩,_⟩:=I.tuple h;obtain⟨as,ra⟩:=ih _ _ _ _ r r' e1;exact⟨_,.tuple ho hc hd (by simpa using ra)⟩
  |@ref m a h =>
   cases rv;simp only[eH] at e;cases hm:S[m]? with
   |none=>rw[hm] at e;simp at e
   |some o =>
    rw[hm] at e;have hob:=hs.obj _ _ _ hm h;cases o with
    |lst ds =>
     simp only[aX] at e;obtain⟨ps,e1,rfl⟩:=e;obtain⟨vs,h1,r⟩:=hob;obtain⟨its,r',⟨o,m,ho,hc,hdd,hd⟩,_⟩:=I.list (dI.of (K:=X.K) h1);obtain⟨as,ra⟩:=ih _ _ _ _ r r' e1;exact⟨_,.list ho hc hd (by simpa using ra)⟩
    |frz ds =>
     simp only[aX] at e;obtain⟨ps,e1,rfl⟩:=e;obtain⟨vs,h1,r⟩:=hob;obtain⟨its,r',⟨o,m,ho,hc,hdd,hd⟩,_⟩:=I.list h1.sq;obtain⟨as,ra⟩:=ih _ _ _ _ r r' e1;exact⟨_,.list ho hc hd (by simpa using ra)⟩
    |ins C fs=>simp at e
    |dct xs=>simp at e
    |tbl x=>simp at e
  |ty n=>simp[eH] at e
  |adr a=>simp[eH] at e
  |obj _ _ _ _ _=>simp[eH] at e
noncomputable def mC(S:So)(x y:D):Option Bool:=(eH S 24 x).bind λp=>(eH S 24 y).bind λq=>if SeqAt.shaped p=true/\SeqAt.shaped q=true then some (PyData.eqv p q) else none
noncomputable def oH:D->Bool
 |.non=>true
 |_=>false
noncomputable def aV:CmpOp->G2
 |.Lt,.int i,.int j,S=>some (.bl (decide (i<j)),S)
 |.LtE,.int i,.int j,S=>some (.bl (decide (i<=j)),S)
 |.Gt,.int i,.int j,S=>some (.bl (decide (j<i)),S)
 |.GtE,.int i,.int j,S=>some (.bl (decide (j<=i)),S)
 |.Eq,.int i,.int j,S=>some (.bl (decide (i=j)),S)
 |.NotEq,.int i,.int j,S=>some (.bl (!decide (i=j)),S)
 |.Eq,x,y,S=>(mC S x y).map λb=>(.bl b,S)
 |.NotEq,x,y,S=>(mC S x y).map λb=>(.bl (!b),S)
 |.Is,x,.non,S=>some (.bl (oH x),S)
 |.IsNot,x,.non,S=>some (.bl (!oH x),S)
 |.Is,.bl a,.bl b,S=>some (.bl (a==b),S)
 |.IsNot,.bl a,.bl b,S=>some (.bl (!(a==b)),S)
 |_,_,_,_=>none
def Td{K:FgA}{H:Hp}{α:List Addr}{x:D}{v:V}(r:Rep K H α x v):decide (v = .non)=oH x:=by cases r<;>simp[oH]
section
variable {X:Cx}
def zox:fW X (compareOp .Eq) (qw λi j => .bl (decide (i=j))):=m8 λ_ _ _ _ _ _ _ q=>eq_int (by rw[Bool.beq_eq_decide_eq];exact q)
def zot:fW X (compareOp .NotEq) (qw λi j => .bl (!decide (i=j))):=m8 λ_ _ _ _ _ _ _ q=>ne_int (by rw[bne,Bool.beq_eq_decide_eq];exact q)
theorem zoy{pins:List (Addr×Obj)}{s:Shared}{σ:L2.St}{H:Hp}{v u:V}{vv uu:Value}{Q:VK}{S:So}{α:List Addr}{x y:D}{b:Bool}(hu:X.A.units+64<cLine)(I:Inv X pins σ H s)(rv:RelV v vv)(ru:RelV u uu)(hs:aA X.K H α S)(rx:Rep X.K H α x v)(ry:Rep X.K H α y u)(hg:mC S x y=some b)(k:Q (.bl b) H):wpAny (model X.prog X.w) X.A (compareOp .Eq vv uu) (EP X pins σ Q) X.xe s:=by
 unfold mC at hg;simp only[bC] at hg;obtain⟨p,e1,q,e2,hg⟩:=hg;split at hg
 .rename_i hc;obtain⟨as,ra⟩:=Ad I hs 24 _ _ _ _ rx rv e1;obtain⟨bs,rb⟩:=Ad I hs 24 _ _ _ _ ry ru e2;cases hg;exact SeqAt.compareEq_shaped ra rb hc.1 hc.2 hu ⟨.bl _,H,I,rfl,k⟩
 .cases hg
theorem zou{pins:List (Addr×Obj)}{s:Shared}{σ:L2.St}{H:Hp}{v u:V}{vv uu:Value}{Q:VK}{S:So}{α:List Addr}{x y:D}{b:Bool}(hu:X.A.units+64<cLine)(I:Inv X pins σ H s)(rv:RelV v vv)(ru:RelV u uu)(hs:aA X.K H α S)(rx:Rep X.K H α x v)(ry:Rep X.K H α y u)(hg:mC S x y=some b)(k:Q (.bl (!b)) H):wpAny (model X.prog X.w) X.A (compareOp .NotEq vv uu) (EP X pins σ Q) X.xe s:=by
 unfold mC at hg;simp only[bC] at hg;obtain⟨p,e1,q,e2,hg⟩:=hg;split at hg
 .rename_i hc;obtain⟨as,ra⟩:=Ad I hs 24 _ _ _ _ rx rv e1;obtain⟨bs,rb⟩:=Ad I hs 24 _ _ _ _ ry ru e2;cases hg;exact SeqAt.compareNe_shaped ra rb hc.1 hc.2 hu ⟨.bl _,H,I,rfl,k⟩
 .cases hg
theorem RV(hu:X.A.units+64<cLine):∀op:CmpOp,fW X (compareOp op) (oE X.K (aV op)):=by
 intro op pins s σ H v u vv uu Q I rv ru h;obtain⟨S,α,x,y,z,S',hs,rx,ry,hg,k⟩:=h;unfold aV at hg;split at hg
 .cases hg;cases rx;cases ry;exact Yo pins s σ H _ _ _ _ Q I rv ru ⟨_,_,rfl,rfl,k.same hs (.bl _)⟩
 .cases hg;cases rx;cases ry;exact Yn pins s σ H _ _ _ _ Q I rv ru ⟨_,_,rfl,rfl,k.same hs (.bl _)⟩
 .cases hg;cases rx;cases ry;exact Ym pins s σ H _ _ _ _ Q I rv ru ⟨_,_,rfl,rfl,k.same hs (.bl _)⟩
 .cases hg;cases rx;cases ry;exact Yl pins s σ H _ _ _ _ Q I rv ru ⟨_,_,rfl,rfl,k.same hs (.bl _)⟩
 .cases hg;cases rx;cases ry;exact zox pins s σ H _ _ _ _ Q I rv ru ⟨_,_,rfl,rfl,k.same hs (.bl _)⟩
 .cases hg;cases rx;cases ry;exact zot pins s σ H _ _ _ _ Q I rv ru ⟨_,_,rfl,rfl,k.same hs (.bl _)⟩
 .simp only[aX] at hg;obtain⟨b,e,hg⟩:=hg;cases hg;exact zoy hu I rv ru hs rx ry e (k.same hs (.bl _))
 .simp only[aX] at hg;obtain⟨b,e,hg⟩:=hg;cases hg;exact zou hu I rv ru hs rx ry e (k.same hs (.bl _))
 .cases hg;cases ry;exact Zo pins s σ H _ _ _ _ Q I rv ru ⟨rfl,by rw[Td rx];exact k.same hs (.bl _)⟩
 .cases hg;cases ry;refine zoC pins s σ H _ _ _ _ Q I rv ru ⟨rfl,?_⟩;rw[Td rx];exact k.same hs (.bl _)
 .cases hg;cases rx;cases ry;cases rv;cases ru;exact is_bool (Ey I (k.same hs (.bl _)) rfl)
 .cases hg;cases rx;cases ry;cases rv;cases ru;exact isnot_bool (Ey I (k.same hs (.bl _)) rfl)
 .cases hg
end
noncomputable def aH:G2
 |.tup xs,.int i,S=>(gJ xs i).map λz=>(z,S)
 |.ref n,.int i,S=>match S[n]? with
  |some (.lst xs)=>(gJ xs i).map λz=>(z,S)
  |some (.frz xs)=>(gJ xs i).map λz=>(z,S)
  |_=>none
 |.str z,.int i,S=>if z.length<=sizeLine then(gJ z.cps.toList i).map λc=>(.str ⟨#[c]⟩,S) else none
 |_,_,_=>none
theorem JC{K:FgA}{H:Hp}{α:List Addr}{ds:List D}{vs:List V}{i:Int}{z:D}(r:aG K H α ds vs)(h:gJ ds i=some z):∃w,gJ vs i=some w/\Rep K H α z w:=by
 unfold gJ at h ⊢;rw[<-r.length];cases e:uw ds.length i with
 |none=>rw[e] at h;simp at h
 |some j =>
  rw[e] at h;exact r.get h
theorem ixs{X:Cx}:Dq X (oE X.K aH):=by
 intro value slice pins s σ H v u vv uu Q I rv ru h hsub;obtain⟨S,α,x,y,z,S',hs,rx,ry,hg,k⟩:=h;unfold aH at hg;split at hg
 .simp only[aX] at hg;obtain⟨b,e,hg⟩:=hg;cases hg;cases ry;cases rx with
  |tup h r =>
   obtain⟨w,e',fU⟩:=JC r e;exact ZP value slice pins s σ H _ _ _ _ Q I rv ru ⟨_,_,_,_,rfl,rfl,h,e',k.same hs fU⟩ hsub
 .cases ry;cases rx with
  |ref h =>
   rename_i n i a;cases hm:S[n]? with
   |none=>rw[hm] at hg;simp at hg
   |some o =>
    rw[hm] at hg;have hob:=hs.obj _ _ _ hm h;cases o with
    |lst ds =>
     simp only[aX] at hg;obtain⟨b,e,hg⟩:=hg;cases hg;obtain⟨vs,h1,r⟩:=hob;obtain⟨w,e',fU⟩:=JC r e;exact R7 value slice pins s σ H _ _ _ _ Q I rv ru ⟨_,_,_,_,rfl,rfl,dI.of h1,e',k.same hs fU⟩ hsub
    |frz ds =>
     simp only[aX] at hg;obtain⟨b,e,hg⟩:=hg;cases hg;obtain⟨vs,h1,r⟩:=hob;obtain⟨w,e',fU⟩:=JC r e;exact R7 value slice pins s σ H _ _ _ _ Q I rv ru ⟨_,_,_,_,rfl,rfl,h1.sq,e',k.same hs fU⟩ hsub
    |ins C fs=>simp at hg
    |dct xs=>simp at hg
    |tbl x=>simp at hg
 .split at hg
  .rename_i hl;simp only[aX] at hg;obtain⟨b,e,hg⟩:=hg;cases hg;cases rx;cases ry;exact ZM value slice pins s σ H _ _ _ _ Q I rv ru ⟨_,_,_,rfl,rfl,hl,e,k.same hs (.str _)⟩ hsub
  .cases hg
 .cases hg
end MX
end
section
namespace MX
open PySem PySem.Spec PyProof.Rows L2
theorem Fz(names:List (Str×NameKind)):∀(n:Nat) (acc:List (Str×Addr)),cellsFrom n names acc=cellsFrom n names []++acc:=by
 induction names with
 |nil=>intro n acc;simp[cellsFrom]
 |cons p r ih =>
  intro n acc;obtain⟨x,k⟩:=p;unfold cellsFrom;split
  .rw[ih,ih _ [(x,n)],fB];rfl
  .exact ih n acc
theorem Et{names:List (Str×NameKind)}:∀{n:Nat} {x:Str} {c:Addr},(x,c)∈cellsFrom n names []->n<=c/\(x,NameKind.cell)∈names:=by
 induction names with
 |nil=>intro n x c h;simp[cellsFrom] at h
 |cons p r ih =>
  intro n x c h;obtain⟨y,k⟩:=p;unfold cellsFrom at h;split at h
  .rename_i hk;rw[Fz,mH] at h;rcases h with h|h
   .have:=ih h;exact⟨by omega,cM _ this.2⟩
   .have e:(x,c)=(y,n):=by simpa using h
    cases e;have:k=NameKind.cell:=by simpa using hk
    subst this;exact⟨bZ _,fL⟩
  .have:=ih h;exact⟨this.1,cM _ this.2⟩
theorem GP{α:Type}(x:Str):∀(l r:List (Str×α)),(l++r).lookup x=(l.lookup x).or (r.lookup x)
 |[],r=>by simp
 | (k,v)::l,r=>by
   rw[List.cons_append,jL,jL];cases x==k with
   |true=>rfl
   |false=>exact GP x l r
theorem Km{names:List (Str×NameKind)}{n:Nat}{acc:List (Str×Addr)}{x:Str}{c:Addr}(h:(cellsFrom n names acc).lookup x=some c):
 ((cellsFrom n names []).lookup x=some c)\/((cellsFrom n names []).lookup x=none/\acc.lookup x=some c):=by
 rw[Fz,GP] at h;cases e:(cellsFrom n names []).lookup x with
 |some d=>rw[e] at h;exact .inl h
 |none=>rw[e] at h;exact .inr ⟨rfl,h⟩
theorem J8{env:Env}(f:Str×NameKind->List (Str×Addr)->Sem (ForInStep (List (Str×Addr))))(hf:∀name kind cs,f (name,kind) cs=if(kind==NameKind.free)=true then(do let a <-cellOf env name;pure (.yield ((name,a)::cs))) else pure (.yield cs)):
 ∀(names:List (Str×NameKind)) (acc:List (Str×Addr)),(∀y∈names,y.2 = .free->∃c,env.cells.lookup y.1=some c)->∃cl,forIn names acc f=pure cl /\
  (∀x c,cl.lookup x=some c->acc.lookup x=some c\/((x,NameKind.free)∈names/\env.cells.lookup x=some c))/\∀x,((x,NameKind.free)∈names\/∃c,acc.lookup x=some c)->∃c,cl.lookup x=some c
 |[],acc,_=>⟨acc,by rw[List.forIn_nil],λx c h => .inl h,λx h=>by
  rcases h with h|h
  .cases h
  .exact h⟩
 | (y,k)::r,acc,h=>by
   by_cases hk:k=NameKind.free
   .subst hk;obtain⟨c,hc⟩:=h (y,.free) fL rfl;obtain⟨cl,e,h1,h2⟩:=J8 f hf r ((y,c)::acc) λz hz=>h z (cM _ hz);refine⟨cl,?_,λx d hx=>?_,λx hx=>h2 x ?_⟩
    .rw[List.forIn_cons,hf];have e1:cellOf env y=pure c:=by unfold cellOf;rw[hc]
     simp only[beq_self_eq_true,if_true,e1,pure_bind];exact e
    .rcases h1 x d hx with q|⟨q1,q2⟩
     .rw[jL] at q;cases hb:x==y with
      |true =>
       rw[hb] at q;cases q;obtain rfl:x=y:=by simpa using hb
       exact .inr ⟨fL,hc⟩
      |false=>rw[hb] at q;exact .inl q
     .exact .inr ⟨cM _ q1,q2⟩
    .rcases hx with hx|⟨d,hx⟩
     .rcases List.mem_cons.mp hx with q|q
      .cases q;exact .inr ⟨c,by simp⟩
      .exact .inl q
     .cases hb:x==y with
      |true=>exact .inr ⟨c,by rw[jL,hb]⟩
      |false=>exact .inr ⟨d,by rw[jL,hb];exact hx⟩
   .have hb:(k==NameKind.free)=false:=by simpa using hk
    obtain⟨cl,e,h1,h2⟩:=J8 f hf r acc λz hz=>h z (cM _ hz);refine⟨cl,?_,λx d hx=>?_,λx hx=>h2 x ?_⟩
    .rw[List.forIn_cons,hf,hb];simp only[Bool.false_eq_true,if_false,pure_bind];exact e
    .rcases h1 x d hx with q|⟨q1,q2⟩
     .exact .inl q
     .exact .inr ⟨cM _ q1,q2⟩
    .rcases hx with hx|hx
     .rcases List.mem_cons.mp hx with q|q
      .cases q;exact absurd rfl hk
      .exact .inl q
     .exact .inr hx
theorem zpg{scope:Scope}{env:Env}(h:∀y∈scope.names,y.2 = .free->∃c,env.cells.lookup y.1=some c):∃cl,closureFor scope env=pure cl /\
 (∀x c,cl.lookup x=some c->(x,NameKind.free)∈scope.names/\env.cells.lookup x=some c)/\∀x,(x,NameKind.free)∈scope.names->∃c,cl.lookup x=some c:=by
 obtain⟨cl,e,h1,h2⟩:=J8 (env:=env) (λx cs=>if(x.2==NameKind.free)=true then(do let a <-cellOf env x.1;pure (.yield ((x.1,a)::cs))) else pure (.yield cs)) (λ_ _ _=>rfl) scope.names [] h;refine⟨cl,?_,λx c q=>?_,λx q=>h2 x (.inl q)⟩
 .unfold closureFor;show(forIn scope.names [] _ >>= λcs=>pure cs)=_;rw[show(forIn scope.names ([]:List (Str×Addr)) _:Sem (List (Str×Addr)))=_ from e];rfl
 .rcases h1 x c q with z|z
  .simp at z
  .exact z
theorem Mj{env:Env}:∀{names:List (Str×NameKind)} {x:Str},
 (names.map fun(n,k)=>if(k==NameKind.free&&env.scope.kind == .function&&env.kindOf n==some .cell) then(n,NameKind.cell) else(n,k)).lookup x =
  (names.lookup x).map λk=>if(k==NameKind.free&&env.scope.kind == .function&&env.kindOf x==some .cell) then NameKind.cell else k
 |[],_=>rfl
 | (n,k)::r,x=>by
   have ih:=@Mj env r x;show List.lookup x ((if(k==NameKind.free&&env.scope.kind == .function&&env.kindOf n==some .cell)=true then(n,NameKind.cell) else(n,k))::_)=_;cases hx:x==n with
   |true =>
    obtain rfl:x=n:=by simpa using hx
    by_cases hc:(k==NameKind.free&&env.scope.kind == .function&&env.kindOf x==some .cell)=true
    .rw[if_pos hc];simp only[jL,hx,qG,if_pos hc]
    .rw[if_neg hc];simp only[jL,hx,qG,if_neg hc]
   |false =>
    by_cases hc:(k==NameKind.free&&env.scope.kind == .function&&env.kindOf n==some .cell)=true
    .rw[if_pos hc];simp only[jL,hx];exact ih
    .rw[if_neg hc];simp only[jL,hx];exact ih
theorem ziU{M:Model}{A:Around}{E:Value->Shared->Prop}{s:Shared}{scope:Scope}{globals:Addr}{cl:List (Str×Addr)}{qual:Str}{env:Env}{Q:Env->Shared->Prop}(h:Q { scope:=scope,locals:=s.heap.objs.size,globals:=globals,cells:=cellsFrom (s.heap.objs.size+1) scope.names cl,qual:=qual,func:=none,code:=env.code,frame:=env.frame,builtins:=env.builtins }
  { s with heap:=pushCells (s.heap.push { cls := .type "dict",data := .dict #[] }) scope.names }):
 wpAny M A (newFunctionEnv scope globals cl [] qual none .none (some env)) Q E s:=by
 simp only[newFunctionEnv,Option.isSome_some,if_true];refine aL (wpAny_alloc ?_);refine aL (wpAny_layCells _ (λname kind cells=>by cases hkc:kind==NameKind.cell<;>simp[hkc]) _ _ _ _ ?_);rw[show({ s with heap:=s.heap.push { cls := .type "dict",data := .dict #[] } }:Shared).heap.objs.size=s.heap.objs.size+1 from Heap.size_push ..];rw[List.forIn_nil];exact aL (bO (bO h))
structure qT(X:Cx)(scope:Scope)(N':List Str)(src:List (Option Nat)):Prop where
 kind:scope.kind = .function
 uniq:∀y∈scope.names,scope.names.lookup y.1=some y.2
 free:∀y∈scope.names,y.2 = .free->(X.env.kindOf y.1=some .cell\/X.env.kindOf y.1=some .free)
 len:src.length=N'.length
 src:∀(j i:Nat) x,N'[j]?=some x->src[j]?=some (some i)->X.N[i]?=some x/\scope.names.lookup x=some .free
noncomputable def mQ(src:List (Option Nat))(σ:L2.St):L2.St:=src.map λo=>o.bind λi=>(σ[i]?).join
noncomputable def qU(X:Cx)(scope:Scope)(N':List Str)(cl:List (Str×Addr))(s₂:Shared)(H₂:Hp)(fp:List Addr):Cx where
 prog:=X.prog
 w:=X.w
 K:=X.K
 mg:=X.mg
 base:=X.base
 A:=X.A
 N:=N'
 s₀:=s₂
 H₀:=H₂
 env:={ scope:=relabel scope X.env,locals:=s₂.heap.objs.size+1,globals:=X.env.globals,cells:=cellsFrom (s₂.heap.objs.size+1+1) scope.names cl,qual:=X.env.qual,func:=none,code:=X.env.code,frame:=X.env.frame,builtins:=X.env.builtins }
 outer:=X.stack
 stack:=X.stack
 ex:=fp
 fn:=λx=>decide (scope.names.lookup x=some .cell)
 calm:=X.calm
 pn:=[]
 xe:=λ_ _=>False
structure oK(X:Cx)(scope:Scope)(N':List Str)(Y:Cx):Prop where
 prog:Y.prog=X.prog
 w:Y.w=X.w
 K:Y.K=X.K
 mg:Y.mg=X.mg
 base:Y.base=X.base
 A:Y.A=X.A
 N:Y.N=N'
 sc:Y.env.scope=relabel scope X.env
 calm:Y.calm=X.calm
 fn:∀x,scope.names.lookup x=some .cell->Y.fn x=true
section
variable {X:Cx}{pins:List (Addr×Obj)}{σ:L2.St}{H:Hp}{s:Shared}{scope:Scope}{N':List Str}{src:List (Option Nat)}{cl:List (Str×Addr)}{fp:List Addr}
def zkJ:oK X scope N' (qU X scope N' cl s H fp):=⟨rfl,rfl,rfl,rfl,rfl,rfl,rfl,rfl,rfl,λx h=>decide_eq_true h⟩
theorem zmt(I:Inv X pins σ H s)(hf:∀b∈fp,kE X pins H b)(hfe:∀b∈fp,∃o,s.heap.get? b=some o)(ok:qT X scope N' src)(h1:∀x c,cl.lookup x=some c->(x,NameKind.free)∈scope.names/\X.env.cells.lookup x=some c)(h2:∀x,(x,NameKind.free)∈scope.names->∃c,cl.lookup x=some c){l:Obj}:
 Inv (qU X scope N' cl s H fp) [] (mQ src σ) H { s with heap:=pushCells ((s.heap.push l).push { cls := .type "dict",data := .dict #[] }) scope.names }:=by
 have hC:((s.heap.push l).objs.size)=s.heap.objs.size+1:=Heap.size_push ..;have keep:∀b o,s.heap.get? b=some o->(pushCells ((s.heap.push l).push { cls := .type "dict",data := .dict #[] }) scope.names).get? b=some o:=λb o e =>
  pushCells_keeps _ _ b o (di _ (di _ e))
 have O3:=cellsFrom_ok scope.names ((s.heap.push l).push { cls := .type "dict",data := .dict #[] }) (s.heap.objs.size+1+1) [] ⟨λ_ _ hm=>(nomatch hm),List.Pairwise.nil⟩ (by rw[Heap.size_push,hC];exact bZ _);rw[Heap.size_push,hC] at O3;have cells:∀x c,(qU X scope N' cl s H fp).env.cells.lookup x=some c->((cellsFrom (s.heap.objs.size+1+1) scope.names []).lookup x=some c/\s.heap.objs.size+1+1<=c/\(x,NameKind.cell)∈scope.names)\/(X.env.cells.lookup x=some c/\(x,NameKind.free)∈scope.names):=λx c e=>by
  rcases Km e with z|⟨_,z⟩
  .have:=Et (iJ z);exact .inl ⟨z,this.1,this.2⟩
  .exact .inr ⟨(h1 x c z).2,(h1 x c z).1⟩
 have Ci:∀x c,X.env.cells.lookup x=some c->c<s.heap.objs.size:=λx c e=>by obtain⟨v,q⟩:=I.cell x c e;exact q.lt
 have rel:∀x,(qU X scope N' cl s H fp).env.kindOf x=(scope.names.lookup x).map λk=>if(k==NameKind.free&&X.env.scope.kind == .function&&X.env.kindOf x==some .cell) then NameKind.cell else k:=λx=>Mj
 have wO:∀b∈fp,b<s.heap.objs.size:=λb hb=>by obtain⟨o,e⟩:=hfe b hb;exact cJ e
 have cap:∀x y c,(qU X scope N' cl s H fp).env.cells.lookup x=some c->(qU X scope N' cl s H fp).env.cells.lookup y=some c->x=y:=λx y c ex ey=>by
  rcases cells x c ex with⟨z1,l1,m1⟩|⟨z1,m1⟩<;>rcases cells y c ey with⟨z2,l2,m2⟩|⟨z2,m2⟩
  .exact name_of_addr O3.apart (iJ z1) (iJ z2)
  .exact absurd (dN (Ci y c z2) (Nat.le_trans (Nat.le_add_right _ 2) l1)) (gZ _)
  .exact absurd (dN (Ci x c z1) (Nat.le_trans (Nat.le_add_right _ 2) l2)) (gZ _)
  .exact I.ok.inj x y c z1 z2
 have CK:(pushCells ((s.heap.push l).push { cls := .type "dict",data := .dict #[] }) scope.names).Ns (s.heap.objs.size+1) (λ_=>none):=by have q:((s.heap.push l).push { cls := .type "dict",data := .dict #[] }).Ns (s.heap.push l).objs.size (λ_=>none):=Heap.Ns.new (s.heap.push l) (.type "dict");rw[hC] at q;exact q.keeps (pushCells_keeps _ _)
 refine⟨⟨I.ok.mod,ok.kind,I.ok.glob,I.ok.blt,Nat.le_succ _,cap,λx hx=>?_,λx c hx e=>?_,I.ok.hd,I.ok.frames,.inl rfl,λb hb=>?_,I.bs,Nat.le_trans I.ok.bsz I.sz,λb o e hb=>?_,λb hb=>?_,I.stack,I.stkFree⟩,
  rfl,I.bare,Un.kept keep,⟨_,CK,λi x v e1 e2 e3=>?_⟩,λx c e=>?_,I.hok.fresh (Nat.le_succ _),λx c e=>?_,λp hp=>absurd (show p∈([]:List (Addr×Obj)) from hp) (by simp),I.hok.kept keep,?_⟩
 .-- has
  rw[rel] at hx;have hk:scope.names.lookup x=some .cell\/scope.names.lookup x=some .free:=by
   cases q:scope.names.lookup x with
   |none=>rw[q] at hx;simp at hx
   |some k =>
    rw[q] at hx;simp only[qG,Option.some.injEq] at hx;by_cases hk:k = .free
    .exact .inr (by rw[hk])
    .have hb:(k==NameKind.free)=false:=by simpa using hk
     simp only[hb,Bool.false_and,Bool.false_eq_true,if_false] at hx;rcases hx with hx|hx
     .exact .inl (by rw[hx])
     .exact absurd hx hk
  show ∃c,(cellsFrom (s.heap.objs.size+1+1) scope.names cl).lookup x=some c;rw[Fz,GP];rcases hk with hk|hk
  .obtain⟨c,hc⟩:=Option.isSome_iff_exists.mp (PySem.W.cellsFrom_some scope.names (s.heap.objs.size+1+1) [] (.inl hk));exact⟨c,by rw[hc];rfl⟩
  .obtain⟨c,hc⟩:=h2 x (iJ hk);cases q:(cellsFrom (s.heap.objs.size+1+1) scope.names []).lookup x with
   |some d=>exact⟨d,rfl⟩
   |none=>exact⟨c,hc⟩
 .-- cab
  have hx':scope.names.lookup x=some .cell:=of_decide_eq_true hx;rcases cells x c e with⟨_,l1,_⟩|⟨_,m1⟩
  .show s.heap.objs.size<=c;omega
  .rw[ok.uniq _ m1] at hx';cases hx'
 .-- exf
  refine⟨?_,λx c e z=>?_⟩
  .exact dJ (Nat.lt_succ_of_lt (wO b hb))
  .subst z;rcases cells x c e with⟨_,l1,_⟩|⟨z1,_⟩
   .exact absurd (dN (wO c hb) (Nat.le_trans (Nat.le_add_right _ 2) l1)) (gZ _)
   .exact(hf c hb).2.2.2.2.1 x c z1 rfl
 .-- noex
  obtain⟨_,_,_,q,_⟩:=hf b hb;rcases q with q|q
  .exact I.ok.noex b o e q
  .exact absurd (dN (dN (cJ e) I.ok.bsz) q) (gZ _)
 .-- exfs
  intro z;obtain⟨_,f1,f2,_⟩:=hf b hb;exact(List.mem_cons.mp (I.stkSub b z)).elim f1 f2
 .-- loc
  have e1':N'[i]?=some x:=e1;obtain⟨j,hj,hv⟩:∃j,src[i]?=some (some j)/\σ[j]?=some (some v):=by
   unfold mQ at e2;rw[iY] at e2;cases q:src[i]? with
   |none=>rw[q] at e2;simp at e2
   |some o =>
    rw[q] at e2;cases o with
    |none=>simp at e2
    |some j =>
     refine⟨j,rfl,?_⟩;simp only[qG,b8,Option.some.injEq] at e2;cases q2:σ[j]? with
     |none=>rw[q2] at e2;simp at e2
     |some o2=>rw[q2] at e2;simp at e2;rw[e2]
  obtain⟨hN,hfr⟩:=ok.src i j x e1' hj;have hm:=iJ hfr;have hk:=ok.free _ hm rfl;obtain⟨m,hn,hl⟩:=I.loc;obtain⟨u,ru,lk⟩:=hl j x v hN hv (by rcases hk with hk|hk;exact .inr (.inl hk);exact .inr (.inr hk));refine⟨u,ru,.inr ⟨?_,?_⟩⟩
  .rw[rel,hfr];simp only[qG];split
   .exact .inl rfl
   .exact .inr rfl
  .rcases lk with⟨q,_⟩|⟨_,c,hc,hcell⟩
   .rcases hk with hk|hk<;>(rw[q] at hk;cases hk)
   .refine⟨c,?_,hcell.keeps keep⟩;show(cellsFrom (s.heap.objs.size+1+1) scope.names cl).lookup x=some c;rw[Fz,GP];have hnone:(cellsFrom (s.heap.objs.size+1+1) scope.names []).lookup x=none:=by
     cases q:(cellsFrom (s.heap.objs.size+1+1) scope.names []).lookup x with
     |none=>rfl
     |some d =>
      have:=ok.uniq _ (Et (iJ q)).2;rw[hfr] at this;cases this
    rw[hnone];obtain⟨c',hc'⟩:=h2 x hm;have:=(h1 x c' hc').2;rw[hc] at this;cases this;exact hc'
 .-- cell
  rcases cells x c e with⟨z1,_,_⟩|⟨z1,_⟩
  .exact⟨none,(O3.empty x c (iJ z1)).1⟩
  .obtain⟨v,q⟩:=I.cell x c z1;exact⟨v,q.keeps keep⟩
 .-- freeC
  rcases cells x c e with⟨_,l1,_⟩|⟨z1,_⟩
  .exact I.hok.fresh (by omega)
  .exact I.freeC x c z1
 .-- len
  show(mQ src σ).length=N'.length;unfold mQ;rw[cW];exact ok.len
end
theorem zh7{prog:Program}{w:World}{A:Around}{R:Result->Shared->Prop}{s:Shared}{elt target iter:Expr}{ifs:List Expr}{scope:Scope}{pos:Pos}{it acc:Value}{env:Env}(I:Nat->Shared->Prop)(turn:∀n s,I n s->wpAny (model prog w) A (pyNext it) (λr s₁=>match r with
  |none=>R (.ok .next) s₁
  |some v=>wpAny (model prog w) A (letOwnedTupleGo target it v) (λ_ s₀=>wpAny (model prog w) A (assign target env v) (λ_ s₂ =>
   wpAny (model prog w) A (forIn ifs true λc r=>if r=true then do let ok <-isTrue c env (eval c env);pure (ForInStep.yield ok) else pure (ForInStep.yield r)) (λok s₃ =>
    if ok=true then wpAny (model prog w) A (eval elt env) (λx s₄ =>
     wpAny (model prog w) A (call (.builtin "list.append") [acc,x]) (λ_ s₅=>∃m,m<n/\I m s₅) (λ_ _=>False) s₄) (λ_ _=>False) s₃
    else ∃m,m<n/\I m s₃) (λ_ _=>False) s₂) (λ_ _=>False) s₀) (λ_ _=>False) s₁) (λ_ _=>False) s)(n:Nat)(h:I n s):
 codeAny (model prog w) A (.compLoop (.ListComp elt [⟨target,iter,ifs,0⟩] scope pos) 0 it acc env) R s:=by
 refine codeAny_loop rfl I (λn s hI=>?_) n h;show wpAny _ A ((compTurn (.ListComp elt [⟨target,iter,ifs,0⟩] scope pos) 0 it acc env).onRaise (λx=>do noteFrame x env;theTreesLotGoes x)) _ _ s;refine wpAny_noted ?_;rw[compTurn_list];refine aL (wpAny_standAt (aL (kh (turn n s hI) (λr s₁ h₁=>?_) λ_ _ h'=>h'.elim)));cases r with
 |none=>exact bO h₁
 |some v =>
  refine aL (kh h₁ (λ_ s₀ h₀=>?_) λ_ _ h'=>h'.elim);refine aL (kh h₀ (λ_ s₂ h₂=>aL (kh h₂ (λok s₃ h₃=>?_) λ_ _ h'=>h'.elim)) λ_ _ h'=>h'.elim);cases ok with
  |false=>exact bO ⟨rfl,h₃⟩
  |true =>
   exact aL (aL (kh h₃ (λx s₄ h₄=>aL (kh h₄ (λ_ s₅ h₅=>bO (bO ⟨rfl,h₅⟩)) λ_ _ h'=>h'.elim)) λ_ _ h'=>h'.elim))
noncomputable def xH(X:Cx)(ifs:List Expr)(t:TT):Prop :=
 ∀(pins:List (Addr×Obj)) (s:Shared) (σ:L2.St) (H:Hp) (Q:Bool->Hp->Prop),Inv X pins σ H s->t σ H Q ->
  wpAny (model X.prog X.w) X.A (forIn ifs true λc r=>if r=true then do let ok <-isTrue c X.env (eval c X.env);pure (ForInStep.yield ok) else pure (ForInStep.yield r)) (TP X pins σ Q) X.xe s
def zn5{X:Cx}:xH X [] (λ_ H Q=>Q true H):=λ_ _ _ H _ I h=>wpAny_tests_nil ⟨H,I,h⟩
def zn4{X:Cx}{c:Expr}{t:TT}(h:PT X c t):xH X [c] t:=λpins s σ H Q I q=>wpAny_tests_one (h pins s σ H Q I q)
noncomputable def Hr(J:It)(g:TG)(tt:TT)(te:TE)(Fin:List V->Hp->Prop)(W:Nat->Nat->List V->L2.St->Hp->Prop):Prop :=
 ∀i m ys τ H,W i m ys τ H->(J.stop i H/\Fin ys H)\/(J.go i H/\ys.length<sizeLine/\∀x H',J.yld i H x H'->g x τ H' λτ2 H2=>tt τ2 H2 λb H3 =>
  if b=true then te τ2 H3 λy H4=>∃m',m'<m/\W (i+1) m' (ys++[y]) τ2 H4 else ∃m',m'<m/\W (i+1) m' ys τ2 H3)
theorem gK.track{P:Program}{w:World}{H:Hp}{h:Heap}{a:Addr}{o:HO}(x:gK P w H h)(hn:H a=none)(new:bY P w (upd H a o) h a o):gK P w (upd H a o) h:=λb u e=>by
 by_cases hb:b=a
 .subst hb;rw[fY] at e;cases e;exact new
 .rw[cu hb] at e;exact(x b u e).stay (λc v _ q=>q) (λc q=>by rw[cu (gR q hn)];exact q) λc xs q=>by rw[cu (gR q hn)];exact q
theorem Un.track{fs ex:List Addr}{H H':Hp}{h h':Heap}{a:Addr}{o:HO}(u:Un fs ex H H' h h')(hn:H' a=none)(ha:h.get? a=none):Un fs ex H (upd H' a o) h h' where
 keep:=u.keep
 slot:=u.slot
 free:=λb ob q n hx=>by rw[cu (λz=>by rw[z,ha] at q;cases q)];exact u.free b ob q n hx
 there:=u.there
 tups:=λb xs q=>by rw[cu (gR (u.tups b xs q) hn)];exact u.tups b xs q
 frzs:=λb ob xs q=>by rw[cu (gR (u.frzs b ob xs q) hn)];exact u.frzs b ob xs q
 tbls:=λb ps q=>by obtain⟨m,e⟩:=u.tbls b ps q;exact⟨m,by rw[cu (gR e hn)];exact e⟩
theorem Uv{X:Cx}{pins:List (Addr×Obj)}{σ:L2.St}{H:Hp}{s:Shared}{scope:Scope}{N':List Str}{src:List (Option Nat)}{cl:List (Str×Addr)}{fp:List Addr}{elt tg iter:Expr}{ifs:List Expr}{pos:Pos}{J:It}{it:Addr}{tn:Nat->Heap->Prop}{g:TG}{tt:TT}{te:TE}{Fin:List V->Hp->Prop}{W:Nat->Nat->List V->L2.St->Hp->Prop}{RR:Value->Addr->Result->Shared->Prop}{E:Value->Shared->Prop}(hc:X.calm=true)(ok:qT X scope N' src)(I:Inv X pins σ H s)(T:u6 X.prog X.w X.K tg J fp it tn)(st:tn 0 s.heap)(hf:∀b∈fp,kE X pins H b)(h1:∀x c,cl.lookup x=some c->(x,NameKind.free)∈scope.names/\X.env.cells.lookup x=some c)(h2:∀x,(x,NameKind.free)∈scope.names->∃c,cl.lookup x=some c)(hY:∀Y,oK X scope N' Y->PG Y tg g/\xH Y ifs tt/\PE Y elt te)(w0:∃m,W 0 m [] (mQ src σ) H)(turn:Hr J g tt te Fin W)(hRR:∀ys H' s' oC m,H' s.heap.objs.size=none->LCg.NsObj oC m->Inv X (pins++[(s.heap.objs.size+1,oC)]) σ (upd H' s.heap.objs.size (.lst ys)) s'->Fin ys H'->RR (.ref s.heap.objs.size) (s.heap.objs.size+1) (.ok .next) s'):
 wpAny (model X.prog X.w) X.A (newList []) (λacc s₃=>wpAny (model X.prog X.w) X.A (newFunctionEnv scope X.env.globals cl [] X.env.qual none .none (some X.env)) (λcenv s₄ =>
  codeAny (model X.prog X.w) X.A (.compStart (.ListComp elt [⟨tg,iter,ifs,0⟩] scope pos) 0 (.ref it) acc { cenv with scope:=relabel scope X.env }) (RR acc cenv.locals) s₄) E s₃) E s:=by
 have hfe:∀b∈fp,∃o,s.heap.get? b=some o:=λb hb=>by obtain⟨o,e,_⟩:=T.obj _ _ st b hb;exact⟨o,e⟩
 refine wpAny_newObj_type (ziU ?_);have hC:(s.heap.push { cls := .type "list",dict:=none,data := .seq ([]:List Value).toArray }).objs.size=s.heap.objs.size+1:=Heap.size_push ..;dsimp only;rw[hC];have I0:Inv (qU X scope N' cl s H fp) [] (mQ src σ) H { s with heap:=pushCells ((s.heap.push { cls := .type "list",dict:=none,data := .seq ([]:List Value).toArray }).push { cls := .type "dict",data := .dict #[] }) scope.names } :=
  zmt I hf hfe ok h1 h2
 have wA:oK X scope N' (qU X scope N' cl s H fp):=zkJ;obtain⟨hg,ht,he⟩:=hY _ wA;generalize wI:qU X scope N' cl s H fp=Y at I0 wA hg ht he;have eP:Y.prog=X.prog:=wA.prog;have ew:Y.w=X.w:=wA.w;have eA:Y.A=X.A:=wA.A;have eK:Y.K=X.K:=wA.K;have uE:Y.calm=true:=wA.calm.trans hc;have sJ:Y.env={ scope:=relabel scope X.env,locals:=s.heap.objs.size+1,globals:=X.env.globals,cells:=cellsFrom (s.heap.objs.size+1+1) scope.names cl,qual:=X.env.qual,func:=none,code:=X.env.code,frame:=X.env.frame,builtins:=X.env.builtins }:=by rw[<-wI];rfl
 have exe:Y.xe=λ_ _=>False:=by rw[<-wI];rfl
 have Hg:Y.fs=frs X.stack:=by rw[<-wI];rfl
 have Xi:Y.ex=fp:=by rw[<-wI];rfl
 have Qa:Y.s₀=s:=by rw[<-wI];rfl
 have eH0:Y.H₀=H:=by rw[<-wI];rfl
 have Qc:Y.pn=[]:=by rw[<-wI];rfl
 have eL:Y.env.locals=s.heap.objs.size+1:=by rw[sJ]
 rw[<-sJ];have wO:∀b∈fp,b<s.heap.objs.size:=λb hb=>by obtain⟨o,e⟩:=hfe b hb;exact cJ e
 have hD:∀(τ:L2.St) (H':Hp) (s':Shared) (pn:List (Addr×Obj)),Inv Y pn τ H' s'->∀x c,Y.env.cells.lookup x=some c->c≠s.heap.objs.size:=λτ H' s' pn J' x c e z=>by
  have e':=e;rw[sJ] at e';rcases Km e' with q|⟨_,q⟩
  .have:=(Et (iJ q)).1;rw[z] at this;exact absurd (dN (Nat.lt_succ_self _) (Nat.le_trans (Nat.le_succ _) this)) (gZ _)
  .obtain⟨v,q'⟩:=I.cell x c (h1 x c q).2;have:=q'.lt;rw[z] at this;exact absurd this (gZ _)
 have stat:∀{H':Hp} {pn:List (Addr×Obj)},(∀b∈fp,H' b=none)->(∀p∈pn,p.1=s.heap.objs.size)->∀b∈fp,kE Y pn H' b:=λ{H' pn} hn hp b hb=>by
  refine⟨hn b hb,?_,?_,.inl (by rw[Xi];exact hb),λx c e z=>?_,λp hm z=>?_⟩
  .rw[eL];exact dJ (Nat.lt_succ_of_lt (wO b hb))
  .rw[Hg];intro z;exact(List.mem_cons.mp (I.stkSub b z)).elim (hf b hb).2.1 (hf b hb).2.2.1
  .subst z;rw[sJ] at e;rcases Km e with q|⟨_,q⟩
   .have:=(Et (iJ q)).1;exact absurd (dN (wO c hb) (Nat.le_trans (Nat.le_add_right _ 2) this)) (gZ _)
   .exact(hf c hb).2.2.2.2.1 x c (h1 x c q).2 rfl
  .rw[Qc,uP] at hm;have e1:=hp p hm;rw[e1] at z;have:=wO b hb;rw[<-z] at this;exact absurd this (gZ _)
 obtain⟨m0,w0⟩:=w0;have loop:∀s₃:Shared,s₃={ s with heap:=pushCells ((s.heap.push { cls := .type "list",dict:=none,data := .seq ([]:List Value).toArray }).push { cls := .type "dict",data := .dict #[] }) scope.names } ->
  codeAny (model X.prog X.w) X.A (.compLoop (.ListComp elt [⟨tg,iter,ifs,0⟩] scope pos) 0 (.ref it) (.ref s.heap.objs.size) Y.env) (RR (.ref s.heap.objs.size) (s.heap.objs.size+1)) s₃:=by
  rintro s₃ rfl
  refine zh7 (λn s'=>∃i ys τ H' its k,Inv Y [(s.heap.objs.size,{ cls := .type "list",data := .seq (List.toArray its) k })] τ H' s'/\Vals ys its/\ys.length<=sizeLine/\tn i s'.heap/\(∀b∈fp,H' b=none)/\W i n ys τ H') ?_ m0 ?_
  .rintro n s3 ⟨i,ys,τ,H3,its,k,I3,rv,hlen,st3,Hf,w3⟩
   have Xf:=stat Hf (pn:=[(s.heap.objs.size,{ cls := .type "list",data := .seq (List.toArray its) k })]) (by simp);rcases turn i n ys τ H3 w3 with⟨stop,fin⟩|⟨go,hlt,step⟩
   .have q:=T.done Y eP ew eK uE i _ s3 τ H3 (λ_ _=>False) I3 Xf st3 stop;rw[eA] at q;refine bR q λr s4 ⟨hr,I4⟩=>?_;subst hr;obtain⟨oD,nD,_⟩:=I4.pin (s.heap.objs.size,{ cls := .type "list",data := .seq (List.toArray its) k }) (by rw[Qc];simp);obtain⟨m,hn,_⟩:=I4.loc;rw[eL] at hn;obtain⟨oC,heC,hoC⟩:=LCg.ns_obj hn;have un:=I4.base;rw[Hg,Xi,eH0,Qa] at un;have hfresh:s.heap.get? s.heap.objs.size=none:=by
     cases q:s.heap.get? s.heap.objs.size with
     |none=>rfl
     |some o=>exact absurd (cJ q) (gZ _)
    have hok:=I4.hok;rw[eP,ew] at hok;have hCn:H3 (s.heap.objs.size+1)=none:=by have:=I4.free;rw[eL] at this;exact this
    have I5:Inv X pins σ (upd H3 s.heap.objs.size (.lst ys)) s4:=by refine I.call' (ch:=fp) (by have:=I4.os;rw[Qa] at this;exact this) (Un.track un nD hfresh) (gK.track hok nD ⟨hlen,its,k,rv,oD⟩) I4.bare λb hb=>?_;exact⟨(hf b hb).2.2.2.1,(hf b hb).2.1,(hf b hb).2.2.2.2.1,(hf b hb).2.2.2.2.2⟩
    refine hRR ys H3 s4 oC m nD hoC ?_ fin;refine I5.pins_of λp hp=>?_;rcases mH.mp hp with z|z
    .exact I5.pin p (List.mem_append_right _ z)
    .have e:p=(s.heap.objs.size+1,oC):=by simpa using z
     subst e;have fo:=I.fpOk (b:=s.heap.objs.size+1) (H':=upd H3 s.heap.objs.size (.lst ys)) (Nat.le_succ _) (by rw[cu (Nat.ne_of_gt (Nat.lt_succ_self _))];exact hCn);obtain⟨es,ep,hd,_⟩:=hoC;exact⟨heC,fo.1,fo.2.1,fo.2.2.1,λv z=>by rw[hd] at z;cases z⟩
   .have q:=T.item Y eP ew eK uE i _ s3 τ H3 (λ_ _=>False) I3 Xf st3 go;rw[eA] at q;refine bR q λr s4 ⟨u,hr,h4⟩=>?_;subst hr;refine bR h4 λ_ s5 ⟨x,H5,I5,r5,y5,vX,PN⟩=>?_;have fo5:=stat PN (pn:=[(s.heap.objs.size,{ cls := .type "list",data := .seq (List.toArray its) k })]) (by simp);have Qq:=I5.pinned fo5 (T.obj _ _ vX);have q:=hg _ s5 τ H5 x u _ Qq r5 (step x H5 y5);rw[eP,ew,eA,exe] at q;refine bR q λ_ s6 ⟨τ6,H6,I6,q6⟩=>?_;have q:=ht _ s6 τ6 H6 _ I6 q6;rw[eP,ew,eA,exe] at q;refine bR q λb s7 ⟨H7,I7,q7⟩=>?_;have after:∀{τ8:L2.St} {H8:Hp} {s8:Shared},Inv Y ([(s.heap.objs.size,{ cls := .type "list",data := .seq (List.toArray its) k })]++zG fp s5.heap) τ8 H8 s8 ->
     tn (i+1) s8.heap/\(∀b∈fp,H8 b=none)/\s8.heap.get? s.heap.objs.size=some { cls := .type "list",data := .seq (List.toArray its) k }/\H8 s.heap.objs.size=none:=λ{τ8 H8 s8} I8=>by
     have pi:∀b∈fp,∀o,s5.heap.get? b=some o->s8.heap.get? b=some o/\H8 b=none:=λb hb o e=>by have:=I8.pin (b,o) (List.mem_append_right _ (List.mem_append_right _ (KJ hb e)));exact⟨this.1,this.2.1⟩
     have pd:=I8.pin (s.heap.objs.size,{ cls := .type "list",data := .seq (List.toArray its) k }) (List.mem_append_right _ (List.mem_append_left _ (by simp)));refine⟨T.keep _ _ _ vX λb hb o e=>(pi b hb o e).1,λb hb=>?_,pd.1,pd.2.1⟩;obtain⟨o,e,d⟩:=T.obj _ _ vX b hb;exact(pi b hb o e).2
    cases b with
    |false =>
     rw[if_neg gM];rw[if_neg gM] at q7;obtain⟨m',hm,w7⟩:=q7;obtain⟨a1,a2,_,_⟩:=after I7;exact⟨m',hm,i+1,ys,τ6,H7,its,k,I7.unpinned,rv,hlen,a1,a2,w7⟩
    |true =>
     rw[if_pos rfl];rw[if_pos rfl] at q7;have q:=he _ s7 τ6 H7 _ I7 q7;rw[eP,ew,eA,exe] at q;refine bR q λv s8 ⟨y,H8,I8,r8,m',hm,w8⟩=>?_;obtain⟨a1,a2,aD,nD⟩:=after I8;refine append_at (hsz:=by rw[d7,<-rv.length];exact hlen) aD λh9 WR e9=>?_;have hne:s.heap.objs.size≠Y.env.locals:=by rw[eL];exact dJ (Nat.lt_succ_self _)
     have I8':Inv Y [] τ6 H8 s8:=I8.pins_of λp hp=>absurd hp (by simp);have I9:Inv Y [] τ6 H8 { s8 with heap:=h9 }:=I8'.turned (t':=s8.toks) (λb o hb e=>WR.extBut b o hb e) nD hne (.inr (by rw[Qa];exact bZ _)) (λx c e=>hD _ _ _ _ I8 x c e) (by rw[Qc];simp);have I10:Inv Y [(s.heap.objs.size,{ cls := .type "list",data := .seq (List.toArray (its++[v])) (k+1) })] τ6 H8 { s8 with heap:=h9 }:=I9.pins_of λp hp=>by
      have e:p=(s.heap.objs.size,{ cls := .type "list",data := .seq (List.toArray (its++[v])) (k+1) }):=by simpa using hp
      subst e;refine⟨by rw[<-List.push_toArray];exact e9,nD,hne,?_,λv z=>by cases z⟩;rw[Hg];intro z;rcases List.mem_cons.mp (I.stkSub _ z) with z|z
      .exact absurd I.lt (by rw[<-z];exact gZ _)
      .exact I.nofs (bZ _) z
     refine⟨m',hm,i+1,ys++[y],τ6,H8,its++[v],k+1,I10,rv.append (.cons r8 .nil),by rw[lz];exact hlt,?_,a2,w8⟩;exact T.keep _ _ _ a1 λb hb o e=>WR.extBut b o (dJ (wO b hb)) e
  .refine⟨0,[],mQ src σ,H,[],0,?_,.nil,Nat.zero_le _,?_,λb hb=>(hf b hb).1,w0⟩
   .refine I0.pins_of λp hp=>?_;have e:p=(s.heap.objs.size,{ cls := .type "list",data := .seq (List.toArray []) 0 }):=by simpa using hp
    subst e;refine⟨pushCells_keeps _ _ _ _ (di _ (gO _ rfl)),I.hok.fresh (bZ _),by rw[eL];exact dJ (Nat.lt_succ_self _),?_,λv z=>by cases z⟩;rw[Hg];intro z;rcases List.mem_cons.mp (I.stkSub _ z) with z|z
    .exact absurd I.lt (by rw[<-z];exact gZ _)
    .exact I.nofs (bZ _) z
   .exact T.keep _ _ _ st λb hb o e=>pushCells_keeps _ _ _ _ (di _ (di _ e))
 exact codeAny_compStart_list (loop _ rfl) (T.self _ 0 _ _ _ (T.keep _ _ _ st λb hb o e=>pushCells_keeps _ _ _ _ (di _ (di _ e))) (loop _ rfl))
noncomputable def tLc(wi:TI)(g:TG)(tt:TT)(te:TE)(src:List (Option Nat)):TE:=λσ H Q=>wi σ H λJ H1=>∃W,(∃m,W 0 m [] (mQ src σ) H1) /\
 Hr J g tt te (λys H'=>∀p,H' p=none->Q (.ref p) (upd H' p (.lst ys))) W
section
variable {X:Cx}{elt tg iter:Expr}{ifs:List Expr}{scope:Scope}{pos:Pos}{N':List Str}{src:List (Option Nat)}{wi:TI}{g:TG}{tt:TT}{te:TE}
def R9(ok:qT X scope N' src){pins:List (Addr×Obj)}{σ:L2.St}{H:Hp}{s:Shared}(I:Inv X pins σ H s):∃cl,closureFor scope X.env=pure cl /\
 (∀x c,cl.lookup x=some c->(x,NameKind.free)∈scope.names/\X.env.cells.lookup x=some c)/\∀x,(x,NameKind.free)∈scope.names->∃c,cl.lookup x=some c :=
 zpg (scope:=scope) (env:=X.env) λy hy e=>I.ok.has y.1 (ok.free y hy e)
theorem Yu(hc:X.calm=true)(ok:qT X scope N' src)(hi:PI X tg iter wi)(hY:∀Y,oK X scope N' Y->PG Y tg g/\xH Y ifs tt/\PE Y elt te)(hs:∀x,foldedSetIterable iter X.env x=pure x):PE X (.ListComp elt [⟨tg,iter,ifs,0⟩] scope pos) (tLc wi g tt te src):=by intro pins s σ H Q I h;obtain⟨cl,hclos,h1,h2⟩:=R9 ok I;rw[eval_ListComp];refine wpAny_comprehension_free (use:=none) rfl hs hclos ok.kind (λy hy e=>by rw[ok.uniq y hy,e]) ?_;refine bR (hi pins s σ H _ I h) λv s1 q1=>bR q1 λitv s2 q2=>?_;obtain⟨it,fp,tn,J,H2,e,I2,T,st2,f2,W,w0,turn⟩:=q2;subst e;refine Uv (RR:=λacc C=>compPost (model X.prog X.w) X.A X.xe none (EP X pins σ Q) acc C) hc ok I2 T st2 f2 h1 h2 hY w0 turn ?_;intro ys H' s' oC m nD hoC I3 fin;obtain⟨heC,nC,uo,nfC,dC⟩:=I3.pin (s2.heap.objs.size+1,oC) (List.mem_append_right _ (List.mem_append_right _ (by simp)));refine⟨m,hoC.ns heC,λh'' sb=>⟨.ref s2.heap.objs.size,_,?_,rfl,fin _ nD⟩⟩;have I4:Inv X pins σ (upd H' s2.heap.objs.size (.lst ys)) s':=I3.unpinned;have fo:=I2.fpOk (b:=s2.heap.objs.size+1) (H':=upd H' s2.heap.objs.size (.lst ys)) (Nat.le_succ _) nC;exact I4.turned (t':=s'.toks) (λb o hb e=>sb.extBut b o hb e) nC fo.2.1 fo.2.2.2.1 fo.2.2.2.2.1 fo.2.2.2.2.2
noncomputable def Oi(wi:TI)(g:TG)(tt:TT)(te:TE)(src:List (Option Nat))(i:Nat):TS:=λD σ H=>wi σ H λJ H1=>∃W,(∃m,W 0 m [] (mQ src σ) H1) /\
 Hr J g tt te (λys H'=>∀p,H' p=none->D.nx (σ.set i (some (.ref p))) (upd H' p (.lst ys))) W
theorem zl4{y:Str}{py spos:Pos}{i:Nat}(hN:X.N.Nodup)(Pj:X.N[i]?=some y)(hy:X.env.kindOf y=some .local)(hsw:swapsWith (.ListComp elt [⟨tg,iter,ifs,0⟩] scope pos) (some (.Name y py)) spos.line X.env=pure true)(hc:X.calm=true)(ok:qT X scope N' src)(hi:PI X tg iter wi)(hY:∀Y,oK X scope N' Y->PG Y tg g/\xH Y ifs tt/\PE Y elt te)(hs:∀x,foldedSetIterable iter X.env x=pure x):PS X (.Assign [.Name y py] (.ListComp elt [⟨tg,iter,ifs,0⟩] scope pos) spos) (Oi wi g tt te src i):=by
 intro pins s σ H D I h;obtain⟨cl,hclos,h1,h2⟩:=R9 ok I;rw[exec_Assign_Name_used _ _ _ _ hsw];refine aL (wpAny_standAt (aL ?_));show wpAny _ _ (do let _ <-comprehension (.ListComp elt [⟨tg,iter,ifs,0⟩] scope pos) scope X.env _ (newList []) false (eval iter X.env) (some (assign (.Name y py) X.env))) _ _ s;refine aL (kh (wpAny_comprehension_free (use:=some (assign (.Name y py) X.env)) (Q:=λ_ s'=>SP X pins D .next s') rfl hs hclos ok.kind (λy hy e=>by rw[ok.uniq y hy,e])
  ?_) (λ_ s' hq=>bO (bO hq)) λ_ _ e=>e)
 refine bR (hi pins s σ H _ I h) λv s1 q1=>bR q1 λitv s2 q2=>?_;obtain⟨it,fp,tn,J,H2,e,I2,T,st2,f2,W,w0,turn⟩:=q2;subst e;refine Uv (RR:=λacc C=>compPost (model X.prog X.w) X.A X.xe (some (assign (.Name y py) X.env)) (λ_ s'=>SP X pins D .next s') acc C) hc ok I2 T st2 f2 h1 h2 hY w0 turn ?_;intro ys H' s' oC m nD hoC I3 fin;show wpAny _ _ (assign (.Name y py) X.env (.ref s2.heap.objs.size)) _ _ s';refine wpAny_assign_Name (J6 I3 hN Pj (.inl hy) (v := .ref s2.heap.objs.size) rfl (λs3 I4=>?_) (.inr hy));obtain⟨heC,nC,uo,nfC,dC⟩:=I4.pin (s2.heap.objs.size+1,oC) (List.mem_append_right _ (List.mem_append_right _ (by simp)));refine⟨m,hoC.ns heC,λh'' sb=>⟨_,_,?_,fin _ nD⟩⟩;have I5:Inv X pins _ (upd H' s2.heap.objs.size (.lst ys)) s3:=I4.unpinned;have fo:=I2.fpOk (b:=s2.heap.objs.size+1) (H':=upd H' s2.heap.objs.size (.lst ys)) (Nat.le_succ _) nC;exact I5.turned (t':=s3.toks) (λb o hb e=>sb.extBut b o hb e) nC fo.2.1 fo.2.2.2.1 fo.2.2.2.2.1 fo.2.2.2.2.2
end
noncomputable abbrev TF:=Sg->So->Option (Bool×So)
noncomputable abbrev AF:=Sg->So->Option (List D×So)
inductive Fl where
 |nx|bk|ct|rt (d:D)
noncomputable abbrev SF:=Sg->So->Option (Fl×Sg×So)
noncomputable abbrev GF:=D->Sg->So->Option (Sg×So)
def Kb(K:FgA)(H:Hp)(α:List Addr)(S':So)(Q:Hp->Prop):Prop:=∀H' α',aA K H' α' S'->Ext K H α H' α'->Q H'
noncomputable def BR(K:FgA)(f:TF):TT:=λσ H Q=>∃σd S α b S',bH K H α σd σ/\aA K H α S/\f σd S=some (b,S')/\Kb K H α S' (Q b)
def ST(X:Cx)(e:Expr)(f:TF):Prop:=PT X e (BR X.K f)
def SW(X:Cx)(e:Expr)(f:TF):Prop:=PW X e (BR X.K f)
noncomputable def WX(K:FgA)(f:AF):TA:=λσ H Q=>∃σd S α ds S',bH K H α σd σ/\aA K H α S/\f σd S=some (ds,S')/\∀vs H' α',aA K H' α' S'->Ext K H α H' α'->aG K H' α' ds vs->Q vs H'
def SA(X:Cx)(es:List Expr)(f:AF):Prop:=PA X es (WX X.K f)
noncomputable def Ks(K:FgA)(H:Hp)(α:List Addr)(fl:Fl)(σd':Sg)(S':So)(D:uZ):Prop :=
 ∀σ' H' α',bH K H' α' σd' σ'->aA K H' α' S'->Ext K H α H' α'->match fl with
  |.nx=>D.nx σ' H'
  |.bk=>D.bk σ' H'
  |.ct=>D.ct σ' H'
  |.rt d=>∀v,Rep K H' α' d v->D.rt v H'
noncomputable def BV(K:FgA)(f:SF):TS:=λD σ H=>∃σd S α fl σd' S',bH K H α σd σ/\aA K H α S/\f σd S=some (fl,σd',S')/\Ks K H α fl σd' S' D
def SS(X:Cx)(st:Stmt)(f:SF):Prop:=PS X st (BV X.K f)
def uJ(X:Cx)(sts:List Stmt)(f:SF):Prop:=jT X sts (BV X.K f)
noncomputable def Ox(K:FgA)(f:GF):TG:=λv σ H Q=>∃σd S α d σd' S',bH K H α σd σ/\aA K H α S/\Rep K H α d v/\f d σd S=some (σd',S') /\
 ∀σ' H' α',bH K H' α' σd' σ'->aA K H' α' S'->Ext K H α H' α'->Q σ' H'
def SG(X:Cx)(tg:Expr)(f:GF):Prop:=PG X tg (Ox X.K f)
def PT.imp{X:Cx}{e:Expr}{t t':TT}(h:PT X e t)(k:∀σ H Q,t' σ H Q->t σ H Q):PT X e t':=λpins s σ H Q I q=>h pins s σ H Q I (k σ H Q q)
def PW.imp{X:Cx}{e:Expr}{t t':TT}(h:PW X e t)(k:∀σ H Q,t' σ H Q->t σ H Q):PW X e t':=λwh pins s σ H Q I q=>h wh pins s σ H Q I (k σ H Q q)
def PA.imp{X:Cx}{e:List Expr}{t t':TA}(h:PA X e t)(k:∀σ H Q,t' σ H Q->t σ H Q):PA X e t':=λpos pins s σ H Q I q=>h pos pins s σ H Q I (k σ H Q q)
def PS.imp{X:Cx}{e:Stmt}{t t':TS}(h:PS X e t)(k:∀D σ H,t' D σ H->t D σ H):PS X e t':=λpins s σ H D I q=>h pins s σ H D I (k D σ H q)
def jT.imp{X:Cx}{e:List Stmt}{t t':TS}(h:jT X e t)(k:∀D σ H,t' D σ H->t D σ H):jT X e t':=λpins s σ H D I q=>h pins s σ H D I (k D σ H q)
def PG.imp{X:Cx}{e:Expr}{t t':TG}(h:PG X e t)(k:∀v σ H Q,t' v σ H Q->t v σ H Q):PG X e t':=λpins s σ H v u Q I r q=>h pins s σ H v u Q I r (k v σ H Q q)
def PI.imp{X:Cx}{tg e:Expr}{t t':TI}(h:PI X tg e t)(k:∀σ H Q,t' σ H Q->t σ H Q):PI X tg e t':=λpins s σ H Q I q=>h pins s σ H Q I (k σ H Q q)
noncomputable def aj(i:Nat):EF:=λσ S=>match σ[i]? with
 |some (some d)=>some (d,S)
 |_=>none
noncomputable def eC(d:D):EF:=λ_ S=>some (d,S)
noncomputable def eB(g:G2)(fa fb:EF):EF:=λσ S=>(fa σ S).bind λr=>(fb σ r.2).bind λq=>g r.1 q.1 q.2
noncomputable def eU(g:D->So->Option (D×So))(fa:EF):EF:=λσ S=>(fa σ S).bind λr=>g r.1 r.2
noncomputable def aB:AF:=λ_ S=>some ([],S)
noncomputable def ak(fa:EF)(fr:AF):AF:=λσ S=>(fa σ S).bind λr=>(fr σ r.2).bind λq=>some (r.1::q.1,q.2)
noncomputable def eN(g:GN)(fa:AF):EF:=λσ S=>(fa σ S).bind λr=>g r.1 r.2
noncomputable def uF(t:TF)(fa fb:EF):EF:=λσ S=>(t σ S).bind λr=>if r.1=true then fa σ r.2 else fb σ r.2
noncomputable def bL:GN:=λds S=>if ds.length<=sizeLine then some (.tup ds,S) else none
noncomputable def lB:GN:=λds S=>if ds.length<=sizeLine then some (.ref S.length,S++[.lst ds]) else none
section
variable {X:Cx}{a b:Expr}{fa fb:EF}{pos:Pos}
theorem zp3{i:Nat}{x:Str}(hN:X.N[i]?=some x)(hv:Hl X.env.scope x)(hd:(x==("__debug__" : Str))=false)(hcd:(x==("__classdict__" : Str))=false):SE X (.Name x pos) (aj i):=by
 refine PE.imp (YF hN hv hd hcd) λσ H Q h=>?_;obtain⟨σd,S,α,z,S',hv,hs,hf,k⟩:=h;unfold aj at hf;split at hf
 .rename_i d e;cases hf;obtain⟨v,h1,h2⟩:=hv.2 i _ e;exact⟨v,h1,k.same hs h2⟩
 .cases hf
theorem oW{e:Expr}{d:D}{v:V}(h:PE X e (tC v))(r:∀H α,Rep X.K H α d v):SE X e (eC d):=by refine PE.imp h λσ H Q h=>?_;obtain⟨σd,S,α,z,S',hv,hs,hf,k⟩:=h;cases hf;exact k.same hs (r _ _)
def Y8{i:Int}{j}:SE X (.Constant (.int i) j pos) (eC (.int i)):=oW Zy λ_ _ => .int i
def YB{i:Bool}{j}:SE X (.Constant (.bool i) j pos) (eC (.bl i)):=oW Yr λ_ _ => .bl i
def zp7{j}:SE X (.Constant .none j pos) (eC .non):=oW ZC λ_ _ => .non
def zp5{x:Str}{j}:SE X (.Constant (.str x) j pos) (eC (.str x)):=oW YC λ_ _ => .str x
theorem G4{K:FgA}{g:G2}{σ:L2.St}{H:Hp}{Q:VK}(h:v8 K (eB g fa fb) σ H Q):v8 K fa σ H λx H1=>v8 K fb σ H1 λy H2=>oE K g x y H2 Q:=by obtain⟨σd,S,α,z,S',hv,hs,hf,k⟩:=h;unfold eB at hf;simp only[bC] at hf;obtain⟨⟨x,S1⟩,e1,⟨y,S2⟩,e2,e3⟩:=hf;refine⟨σd,S,α,x,S1,hv,hs,e1,λv H1 α1 s1 x1 r1=>⟨σd,S1,α1,y,S2,hv.mono x1,s1,e2,λu H2 α2 s2 x2 r2=>?_⟩⟩;exact⟨S2,α2,x,y,z,S',s2,r1.mono x2,r2,e3,k.trans (x1.trans x2)⟩
def Xw{op:Operator}(ha:SE X a fa)(hb:SE X b fb):SE X (.BinOp a op b pos) (eB (aN op) fa fb) :=
 PE.imp (Yv (zoA op) ha hb) λ_ _ _ h=>G4 h
def Y6{op:CmpOp}(hu:X.A.units+64<cLine)(h1:op ≠ .In)(h2:op ≠ .NotIn)(ha:SE X a fa)(hb:SE X b fb):SE X (.Compare a [op] [b] pos) (eB (aV op) fa fb) :=
 PE.imp (zoj (RV hu op) ha hb (QB b h1 h2)) λ_ _ _ h=>G4 h
def Xr(hp:H9 b)(ha:SE X a fa)(hb:SE X b fb):SE X (.Subscript a b pos) (eB aH fa fb) :=
 PE.imp (Yt ixs ha hb hp) λ_ _ _ h=>G4 h
noncomputable def uV:D->So->Option (D×So)
 |.int i,S=>some (.int (-i),S)
 |_,_=>none
theorem zp8(ha:SE X a fa):SE X (.UnaryOp .USub a pos) (eU uV fa):=by
 refine PE.imp (Yx Z3 ha) λσ H Q h=>?_;obtain⟨σd,S,α,z,S',hv,hs,hf,k⟩:=h;unfold eU at hf;simp only[bC] at hf;obtain⟨⟨x,S1⟩,e1,e2⟩:=hf;refine⟨σd,S,α,x,S1,hv,hs,e1,λv H1 α1 s1 x1 r1=>?_⟩;cases r1 with
 |int i=>cases e2;exact⟨_,rfl,(k.trans x1).same s1 (.int _)⟩
 |_=>cases e2
def Y4:SA X [] aB:=by refine PA.imp Zu λσ H Q h=>?_;obtain⟨σd,S,α,ds,S',hv,hs,hf,k⟩:=h;cases hf;exact k _ _ _ hs Ext.refl .nil
theorem zn2{e:Expr}{es:List Expr}{fe:EF}{fr:AF}(ha:SE X e fe)(hr:SA X es fr)(hst:starEach (e::es) X.env=(false,eval e X.env)::starEach es X.env):SA X (e::es) (ak fe fr):=by refine PA.imp (zon ha hr hst) λσ H Q h=>?_;obtain⟨σd,S,α,ds,S',hv,hs,hf,k⟩:=h;unfold ak at hf;simp only[bC] at hf;obtain⟨⟨x,S1⟩,e1,⟨ys,S2⟩,e2,e3⟩:=hf;cases e3;exact⟨σd,S,α,x,S1,hv,hs,e1,λv H1 α1 s1 x1 r1=>⟨σd,S1,α1,ys,_,hv.mono x1,s1,e2,λvs H2 α2 s2 x2 r2=>k _ _ _ s2 (x1.trans x2) (.cons (r1.mono x2) r2)⟩⟩
theorem BW{K:FgA}{g:GN}{fa:AF}{σ:L2.St}{H:Hp}{Q:VK}(h:v8 K (eN g fa) σ H Q):WX K fa σ H λvs H1=>jQ K g vs H1 Q:=by obtain⟨σd,S,α,z,S',hv,hs,hf,k⟩:=h;unfold eN at hf;simp only[bC] at hf;obtain⟨⟨ds,S1⟩,e1,e2⟩:=hf;exact⟨σd,S,α,ds,S1,hv,hs,e1,λvs H1 α1 s1 x1 r1=>⟨S1,α1,ds,z,S',s1,r1,e2,k.trans x1⟩⟩
theorem zp4{es:List Expr}{fs:AF}{k0}(h:SA X es fs):SE X (.Tuple es k0 pos) (eN bL fs):=by
 refine PE.imp (YD h) λσ H Q q=>?_;obtain⟨σd,S,α,ds,S1,hv,hs,e1,k⟩:=BW q;refine⟨σd,S,α,ds,S1,hv,hs,e1,λvs H1 α1 s1 x1 r1=>?_⟩;obtain⟨S2,α2,ds',z,S3,s2,r2,e2,k2⟩:=k vs H1 α1 s1 x1 r1;unfold bL at e2;split at e2
 .rename_i hl;cases e2;refine⟨by rw[<-r2.length];exact hl,λp hp=>?_⟩;exact k2.new s2 (mz hp) (.tup (dM.of fY) (r2.mono (Same.ext (mz hp))))
 .cases e2
theorem Y9{es:List Expr}{fs:AF}(h:SA X es fs):SE X (.List es pos) (eN lB fs):=by
 refine PE.imp (Zz h) λσ H Q q=>?_;obtain⟨σd,S,α,ds,S1,hv,hs,e1,k⟩:=BW q;refine⟨σd,S,α,ds,S1,hv,hs,e1,λvs H1 α1 s1 x1 r1=>?_⟩;obtain⟨S2,α2,ds',z,S3,s2,r2,e2,k2⟩:=k vs H1 α1 s1 x1 r1;unfold lB at e2;split at e2
 .rename_i hl;cases e2;refine⟨by rw[<-r2.length];exact hl,λp hp=>?_⟩;obtain⟨s',e'⟩:=s2.snoc (p:=p) (o := .lst ds') (u := .lst vs) hp λα' e=>⟨_,fY,r2.mono e⟩
  exact k2 _ _ _ s' e' (.ref (by rw[<-s2.len];simp))
 .cases e2
noncomputable def rJ:D->So->Option Bool
 |.non,_=>some false
 |.bl b,_=>some b
 |.int i,_=>some (i != 0)
 |.str x,_=>if x.length<=sizeLine then some ((x.length:Int) != 0) else none
 |.tup xs,_=>some (!xs.isEmpty)
 |.ref n,S=>match S[n]? with
  |some (.lst xs)=>some (!xs.isEmpty)
  |some (.frz xs)=>some (!xs.isEmpty)
  |_=>none
 |_,_=>none
def MK{K:FgA}{H:Hp}{α:List Addr}{ds:List D}{vs:List V}(r:aG K H α ds vs):(!ds.isEmpty) = !vs.isEmpty:=by cases r<;>rfl
theorem znt{K:FgA}{H:Hp}{α:List Addr}{S:So}{d:D}{v:V}{b:Bool}(hs:aA K H α S)(r:Rep K H α d v)(e:rJ d S=some b):xu K v H b:=by
 cases r with
 |non=>cases e;exact rfl
 |bl b=>cases e;exact rfl
 |int i=>cases e;exact rfl
 |str x =>
  have e':(if x.length<=sizeLine then some ((x.length:Int) != 0) else none)=some b:=e;split at e'
  .rename_i hl;cases e';exact⟨hl,rfl⟩
  .cases e'
 |tup h r=>cases e;exact .inr (.inl ⟨_,h,MK r⟩)
 |@ref n a h =>
  simp only[rJ] at e;cases hm:S[n]? with
  |none=>simp[hm] at e
  |some o =>
   simp only[hm] at e;have hob:=hs.obj _ _ _ hm h;cases o with
   |lst xs =>
    cases e;obtain⟨vs,h1,r⟩:=hob;exact .inl ⟨_,dI.of h1,MK r⟩
   |frz xs =>
    cases e;obtain⟨vs,h1,r⟩:=hob;exact .inl ⟨_,h1.sq,MK r⟩
   |ins C fs=>cases e
   |dct xs=>cases e
   |tbl x=>cases e
 |ty n=>cases e
 |adr a=>cases e
 |obj _ _ _ _ _=>cases e
noncomputable def kj(fa:EF):TF:=λσ S=>(fa σ S).bind λr=>(rJ r.1 r.2).map λb=>(b,r.2)
theorem zpK(ha:SE X a fa)(he:∀whole,isTrue a X.env whole=(do let v <-whole;standAt a.pos;holding [v] (truthy v))):ST X a (kj fa):=by refine PT.imp (zl1 ha he) λσ H Q h=>?_;obtain⟨σd,S,α,b,S',hv,hs,hf,k⟩:=h;unfold kj at hf;simp only[bC,aX] at hf;obtain⟨⟨x,S1⟩,e1,c,e2,e3⟩:=hf;cases e3;exact⟨σd,S,α,x,S1,hv,hs,e1,λv H1 α1 s1 x1 r1=>⟨b,znt s1 r1 e2,k _ _ s1 x1⟩⟩
noncomputable def bI(fa:EF):TF:=λσ S=>(fa σ S).bind λr=>match r.1 with
 |.bl b=>some (b,r.2)
 |_=>none
theorem zpM{op:CmpOp}(hu:X.A.units+64<cLine)(h1:op ≠ .In)(h2:op ≠ .NotIn)(ha:SE X a fa)(hb:SE X b fb):ST X (.Compare a [op] [b] pos) (bI (eB (aV op) fa fb)):=by
 refine PT.imp (zn6 (RV hu op) ha hb (QB b h1 h2)) λσ H Q h=>?_;obtain⟨σd,S,α,c,S',hv,hs,hf,k⟩:=h;unfold bI at hf;simp only[bC] at hf;obtain⟨⟨z,S1⟩,e1,e2⟩:=hf;cases z with
 |bl c' =>
  cases e2;exact G4 ⟨σd,S,α,.bl c,_,hv,hs,e1,λv H1 α1 s1 x1 r1=>by cases r1;exact⟨c,rfl,k _ _ s1 x1⟩⟩
 |_=>cases e2
noncomputable def vh(t:TF):TF:=λσ S=>(t σ S).map λr=>(!r.1,r.2)
theorem zpL{t:TF}(ha:ST X a t):ST X (.UnaryOp .Not a pos) (vh t):=by refine PT.imp (YT ha) λσ H Q h=>?_;obtain⟨σd,S,α,c,S',hv,hs,hf,k⟩:=h;unfold vh at hf;simp only[aX] at hf;obtain⟨⟨b,S1⟩,e1,e2⟩:=hf;cases e2;exact⟨σd,S,α,b,S1,hv,hs,e1,k⟩
noncomputable def tR(t u:TF):TF:=λσ S=>(t σ S).bind λr=>if r.1=true then u σ r.2 else some (false,r.2)
noncomputable def jD(t u:TF):TF:=λσ S=>(t σ S).bind λr=>if r.1=true then some (true,r.2) else u σ r.2
def znA{t:TF}(ha:ST X a t):SW X (.BoolOp .And [a] pos) t:=zn3 ha
def zpI{t:TF}(ha:ST X a t):SW X (.BoolOp .Or [a] pos) t:=YZ ha
theorem zpJ{t u:TF}{rest:List Expr}(ha:ST X a t)(hb:SW X (.BoolOp .And (b::rest) pos) u):SW X (.BoolOp .And (a::b::rest) pos) (tR t u):=by
 refine PW.imp (YX ha hb) λσ H Q h=>?_;obtain⟨σd,S,α,c,S',hv,hs,hf,k⟩:=h;unfold tR at hf;simp only[bC] at hf;obtain⟨⟨b1,S1⟩,e1,e2⟩:=hf;refine⟨σd,S,α,b1,S1,hv,hs,e1,λH1 α1 s1 x1=>?_⟩;cases b1 with
 |true =>
  rw[if_pos rfl];rw[if_pos rfl] at e2;exact⟨σd,S1,α1,c,S',hv.mono x1,s1,e2,λH2 α2 s2 x2=>k _ _ s2 (x1.trans x2)⟩
 |false =>
  rw[if_neg gM];rw[if_neg gM] at e2;cases e2;exact k _ _ s1 x1
theorem XC{t u:TF}{rest:List Expr}(ha:ST X a t)(hb:SW X (.BoolOp .Or (b::rest) pos) u):SW X (.BoolOp .Or (a::b::rest) pos) (jD t u):=by
 refine PW.imp (Yz ha hb) λσ H Q h=>?_;obtain⟨σd,S,α,c,S',hv,hs,hf,k⟩:=h;unfold jD at hf;simp only[bC] at hf;obtain⟨⟨b1,S1⟩,e1,e2⟩:=hf;refine⟨σd,S,α,b1,S1,hv,hs,e1,λH1 α1 s1 x1=>?_⟩;cases b1 with
 |true =>
  rw[if_pos rfl];rw[if_pos rfl] at e2;cases e2;exact k _ _ s1 x1
 |false =>
  rw[if_neg gM];rw[if_neg gM] at e2;exact⟨σd,S1,α1,c,S',hv.mono x1,s1,e2,λH2 α2 s2 x2=>k _ _ s2 (x1.trans x2)⟩
theorem Xq{c:Expr}{t:TF}(hc:ST X c t)(ha:SE X a fa)(hb:SE X b fb):SE X (.IfExp c a b pos) (uF t fa fb):=by
 refine PE.imp (zmd hc ha hb) λσ H Q h=>?_;obtain⟨σd,S,α,z,S',hv,hs,hf,k⟩:=h;unfold uF at hf;simp only[bC] at hf;obtain⟨⟨b1,S1⟩,e1,e2⟩:=hf;refine⟨σd,S,α,b1,S1,hv,hs,e1,λH1 α1 s1 x1=>?_⟩;cases b1 with
 |true =>
  rw[if_pos rfl];rw[if_pos rfl] at e2;exact⟨σd,S1,α1,z,S',hv.mono x1,s1,e2,k.trans x1⟩
 |false =>
  rw[if_neg gM];rw[if_neg gM] at e2;exact⟨σd,S1,α1,z,S',hv.mono x1,s1,e2,k.trans x1⟩
noncomputable def wW(fa:EF):EF:=λσ S=>(fa σ S).bind λr=>match r.1 with
 |.bl b=>some (.bl (!b),r.2)
 |_=>none
theorem zp6(ha:SE X a fa):SE X (.UnaryOp .Not a pos) (wW fa):=by
 refine PE.imp (ZD ha) λσ H Q h=>?_;obtain⟨σd,S,α,z,S',hv,hs,hf,k⟩:=h;unfold wW at hf;simp only[bC] at hf;obtain⟨⟨x,S1⟩,e1,e2⟩:=hf;refine⟨σd,S,α,x,S1,hv,hs,e1,λv H1 α1 s1 x1 r1=>?_⟩;cases r1 with
 |bl c=>cases e2;exact⟨c,rfl,(k.trans x1).same s1 (.bl _)⟩
 |_=>cases e2
noncomputable def sZ(fa fb:EF):EF:=λσ S=>(fa σ S).bind λr=>match r.1 with
 |.bl true=>fb σ r.2
 |.bl false=>some (.bl false,r.2)
 |_=>none
noncomputable def yW(fa fb:EF):EF:=λσ S=>(fa σ S).bind λr=>match r.1 with
 |.bl true=>some (.bl true,r.2)
 |.bl false=>fb σ r.2
 |_=>none
def zlY{op}(ha:SE X a fa):SE X (.BoolOp op [a] pos) fa:=ZF ha
theorem Y5{rest:List Expr}(ha:SE X a fa)(hb:SE X (.BoolOp .And (b::rest) pos) fb):SE X (.BoolOp .And (a::b::rest) pos) (sZ fa fb):=by
 refine PE.imp (Zv ha hb) λσ H Q h=>?_;obtain⟨σd,S,α,z,S',hv,hs,hf,k⟩:=h;unfold sZ at hf;simp only[bC] at hf;obtain⟨⟨x,S1⟩,e1,e2⟩:=hf;refine⟨σd,S,α,x,S1,hv,hs,e1,λv H1 α1 s1 x1 r1=>?_⟩;cases r1 with
 |bl c =>
  refine⟨c,rfl,?_⟩;cases c with
  |true=>rw[if_pos rfl];exact⟨σd,S1,α1,z,S',hv.mono x1,s1,e2,k.trans x1⟩
  |false=>rw[if_neg gM];cases e2;exact(k.trans x1).same s1 (.bl _)
 |_=>cases e2
theorem Xx{rest:List Expr}(ha:SE X a fa)(hb:SE X (.BoolOp .Or (b::rest) pos) fb):SE X (.BoolOp .Or (a::b::rest) pos) (yW fa fb):=by
 refine PE.imp (Yw ha hb) λσ H Q h=>?_;obtain⟨σd,S,α,z,S',hv,hs,hf,k⟩:=h;unfold yW at hf;simp only[bC] at hf;obtain⟨⟨x,S1⟩,e1,e2⟩:=hf;refine⟨σd,S,α,x,S1,hv,hs,e1,λv H1 α1 s1 x1 r1=>?_⟩;cases r1 with
 |bl c =>
  refine⟨c,rfl,?_⟩;cases c with
  |false=>rw[if_neg gM];exact⟨σd,S1,α1,z,S',hv.mono x1,s1,e2,k.trans x1⟩
  |true=>rw[if_pos rfl];cases e2;exact(k.trans x1).same s1 (.bl _)
 |_=>cases e2
end
noncomputable def tK(K:FgA)(n:Nat)(φ:GN):Sp:=λvs H Q _=>vs.length=n/\jQ K φ vs H Q
def uM(X:Cx)(x:Str)(n:Nat)(φ:GN):Prop:=∃f fd ps k,X.mg x=some (.ref f)/\PySem.W.keepIn X.K (.ref f)=true/\Binds X.K fd ps [] /\
 cY X.prog X.w X.K X.mg X.base iW k f fd ps (tK X.K n φ)/\bK k X.A
section
variable {X:Cx}{x:Str}{p pos:Pos}{es:List Expr}{fs:AF}
noncomputable def aR(n:Nat)(φ:GN):GN:=λds S=>if ds.length=n then φ ds S else none
theorem zn1{e:Expr}{n:Nat}{φ:GN}(hg:Gl X x)(hF:uM X x n φ)(ha:SA X (e::es) fs)(hdb:(x==("__debug__" : Str))=false)(he:starEach (e::es) X.env=(false,eval e X.env)::starEach es X.env)(hpl:(backTo pos (starEach es X.env)).any (·.1)=false):SE X (.Call (.Name x p) (e::es) [] pos) (eN (aR n φ) fs):=by
 obtain⟨f,fd,ps,k,hm,hk,hb,F,hr⟩:=hF;refine PE.imp (zok F hr hg hm hk hb .nil DW ha hdb he hpl) λσ H Q h=>?_;obtain⟨σd,S,α,ds,S1,hv,hs,e1,k⟩:=BW h;refine⟨σd,S,α,ds,S1,hv,hs,e1,λvs H1 α1 s1 x1 r1=>?_⟩;obtain⟨S2,α2,ds',z,S3,s2,r2,e2,k2⟩:=k vs H1 α1 s1 x1 r1;unfold aR at e2;split at e2
 .rename_i hl;rw[List.append_nil];exact⟨by rw[<-r2.length];exact hl,S2,α2,ds',z,S3,s2,r2,e2,k2⟩
 .cases e2
theorem zlX{e:Expr}{id:String}{g:GN}(hc:iR X (.builtin id) (jQ X.K g))(hg:Gl X x)(hm:X.mg x=none)(hv:bootBuiltins x=some (.builtin id))(ha:SA X (e::es) fs)(hn:x ≠ "__name__")(hdb:(x==("__debug__" : Str))=false)(he:starEach (e::es) X.env=(false,eval e X.env)::starEach es X.env)(hpl:(backTo pos (starEach es X.env)).any (·.1)=false):SE X (.Call (.Name x p) (e::es) [] pos) (eN g fs) :=
 PE.imp (zme hc hg hm hv ha hn hdb he hpl) λ_ _ _ h=>BW h
theorem zlW{e:Expr}{T:String}{g:GN}(hc:iR X (.type T) (jQ X.K g))(hg:Gl X x)(hm:X.mg x=none)(hv:bootBuiltins x=some (.type T))(ha:SA X (e::es) fs)(hn:x ≠ "__name__")(hdb:(x==("__debug__" : Str))=false)(he:starEach (e::es) X.env=(false,eval e X.env)::starEach es X.env)(hpl:(backTo pos (starEach es X.env)).any (·.1)=false):SE X (.Call (.Name x p) (e::es) [] pos) (eN g fs) :=
 PE.imp (zkf hc hg hm hv ha hn hdb he hpl) λ_ _ _ h=>BW h
end
noncomputable def aK(i:Nat):GF:=λd σ S=>some (σ.set i (some d),S)
noncomputable abbrev n6:=List D->Sg->So->Option (Sg×So)
noncomputable def jO:n6:=λds σ S=>match ds with
 |[]=>some (σ,S)
 |_=>none
noncomputable def dY(f:GF)(fr:n6):n6:=λds σ S=>match ds with
 |d::r=>(f d σ S).bind λq=>fr r q.1 q.2
 |[]=>none
noncomputable def jy(n:Nat)(fr:n6):GF:=λd σ S=>match d with
 |.tup xs=>if xs.length=n then fr xs σ S else none
 |.ref m=>match S[m]? with
  |some (.lst xs)=>if xs.length=n then fr xs σ S else none
  |_=>none
 |_=>none
noncomputable def Ow(K:FgA)(f:n6):qC:=λvs σ H Q=>∃σd S α ds σd' S',bH K H α σd σ/\aA K H α S/\aG K H α ds vs/\f ds σd S=some (σd',S') /\
 ∀σ' H' α',bH K H' α' σd' σ'->aA K H' α' S'->Ext K H α H' α'->Q σ' H'
def Dm(X:Cx)(Be:List Expr)(f:n6):Prop:=yX X Be (Ow X.K f)
section
variable {X:Cx}{pos:Pos}
theorem znV{i:Nat}{x:Str}(hN:X.N.Nodup)(hi:X.N[i]?=some x)(hx:Loc X.env.scope x)(hf:X.fn x=true\/X.env.scope.names.lookup x=some .local):SG X (.Name x pos) (aK i):=by refine PG.imp (zog hN hi hx hf) λv σ H Q h=>?_;obtain⟨σd,S,α,d,σd',S',hv,hs,r,hf,k⟩:=h;cases hf;exact k _ _ _ (hv.set r i) hs Ext.refl
theorem znU:Dm X [] jO:=by
 refine λpins s σ H vs us Q I r0 h=>zoe pins s σ H vs us Q I r0 ?_;obtain⟨σd,S,α,ds,σd',S',hv,hs,r,hf,k⟩:=h;cases r with
 |nil=>cases hf;exact⟨rfl,k _ _ _ hv hs Ext.refl⟩
 |cons _ _=>cases hf
theorem zlR{e:Expr}{es:List Expr}{f:GF}{fr:n6}(h1:SG X e f)(h2:Dm X es fr)(hs:(assignEach (e::es) X.env).map (·.2)=assign e X.env::(assignEach es X.env).map (·.2)):Dm X (e::es) (dY f fr):=by
 refine λpins s σ H vs us Q I r0 h=>zma h1 h2 hs pins s σ H vs us Q I r0 ?_;obtain⟨σd,S,α,ds,σd',S',hv,hs,r,hf,k⟩:=h;cases r with
 |nil=>cases hf
 |cons r rr =>
  unfold dY at hf;simp only[bC] at hf;obtain⟨⟨σ1,S1⟩,e1,e2⟩:=hf;exact⟨_,_,rfl,σd,S,α,_,σ1,S1,hv,hs,r,e1,λσ' H' α' v' s' x'=>⟨σ1,S1,α',_,σd',S',v',s',rr.mono x',e2,λσ2 H2 α2 v2 s2 x2=>k _ _ _ v2 s2 (x'.trans x2)⟩⟩
theorem zp2{es:List Expr}{k0:Nat}{f:n6}{n:Nat}(hc:X.calm=true)(h:Dm X es f)(hn:(assignEach es X.env).length=n)(hst:(assignEach es X.env).findIdx? (·.1)=none):SG X (.Tuple es k0 pos) (jy n f):=by
 refine PG.imp (PG.or (YG hc h hn hst) (zof hc h hn hst)) λv σ H Q h=>?_;obtain⟨σd,S,α,d,σd',S',hv,hs,r,hf,k⟩:=h;unfold jy at hf;cases r with
 |tup h r =>
  simp only at hf;split at hf
  .rename_i hl;exact .inl ⟨_,_,rfl,h,by rw[<-r.length];exact hl,σd,S,α,_,σd',S',hv,hs,r,hf,k⟩
  .cases hf
 |ref ha =>
  simp only at hf;split at hf
  .rename_i xs em;split at hf
   .rename_i hl;obtain⟨vs,h1,r⟩:=hs.obj _ _ _ em ha;exact .inr ⟨_,vs,rfl,dI.of h1,by rw[<-r.length];exact hl,σd,S,α,xs,σd',S',hv,hs,r,hf,k⟩
   .cases hf
  .cases hf
 |_=>cases hf
end
noncomputable def aQ:SF:=λσ S=>some (.nx,σ,S)
noncomputable def aC(f g:SF):SF:=λσ S=>(f σ S).bind λr=>match r.1 with
 |.nx=>g r.2.1 r.2.2
 |fl=>some (fl,r.2.1,r.2.2)
noncomputable def bB(fe:EF)(fg:GF):SF:=λσ S=>(fe σ S).bind λr=>(fg r.1 σ r.2).map λq=>(.nx,q.1,q.2)
noncomputable def pU(fe:EF):SF:=λσ S=>(fe σ S).map λr=>(.nx,σ,r.2)
noncomputable def bM(fe:EF):SF:=λσ S=>(fe σ S).map λr=>(.rt r.1,σ,r.2)
noncomputable def ug:SF:=λσ S=>some (.rt .non,σ,S)
noncomputable def BJ:SF:=λσ S=>some (.bk,σ,S)
noncomputable def oX:SF:=λσ S=>some (.ct,σ,S)
noncomputable def cX(t:TF)(f g:SF):SF:=λσ S=>(t σ S).bind λr=>if r.1=true then f σ r.2 else g σ r.2
section
variable {X:Cx}{st:Stmt}{rest:List Stmt}{f g:SF}{e:Expr}{fe:EF}{pos:Pos}
def zpO:uJ X [] aQ:=by refine jT.imp zn7 λD σ H h=>?_;obtain⟨σd,S,α,fl,σd',S',hv,hs,hf,k⟩:=h;cases hf;exact k _ _ _ hv hs Ext.refl
def Ks.trans{K:FgA}{H H1:Hp}{α α1:List Addr}{fl:Fl}{σd':Sg}{S':So}{D:uZ}(k:Ks K H α fl σd' S' D)(e:Ext K H α H1 α1):Ks K H1 α1 fl σd' S' D:=λσ' H' α' v s x=>k σ' H' α' v s (e.trans x)
theorem znJ(h1:SS X st f)(h2:uJ X rest g):uJ X (st::rest) (aC f g):=by
 refine jT.imp (zl2 h1 h2) λD σ H h=>?_;obtain⟨σd,S,α,fl,σd',S',hv,hs,hf,k⟩:=h;unfold aC at hf;simp only[bC] at hf;obtain⟨⟨Xh,σ1,S1⟩,e1,e2⟩:=hf;refine⟨σd,S,α,Xh,σ1,S1,hv,hs,e1,λσ' H' α' v' s' x'=>?_⟩;cases Xh with
 |nx=>exact⟨σ1,S1,α',fl,σd',S',v',s',e2,k.trans x'⟩
 |bk=>cases e2;exact k σ' H' α' v' s' x'
 |ct=>cases e2;exact k σ' H' α' v' s' x'
 |rt d=>cases e2;exact k σ' H' α' v' s' x'
def znH:SS X (.Pass pos) aQ:=by refine PS.imp zn9 λD σ H h=>?_;obtain⟨σd,S,α,fl,σd',S',hv,hs,hf,k⟩:=h;cases hf;exact k _ _ _ hv hs Ext.refl
theorem zpR{x j pos'}:SS X (.Expr (.Constant (.str x) j pos) pos') aQ:=by refine PS.imp YK λD σ H h=>?_;obtain⟨σd,S,α,fl,σd',S',hv,hs,hf,k⟩:=h;cases hf;exact k _ _ _ hv hs Ext.refl
def zpT:SS X (.Break pos) BJ:=by refine PS.imp zl5 λD σ H h=>?_;obtain⟨σd,S,α,fl,σd',S',hv,hs,hf,k⟩:=h;cases hf;exact k _ _ _ hv hs Ext.refl
def zpS:SS X (.Continue pos) oX:=by refine PS.imp zhM λD σ H h=>?_;obtain⟨σd,S,α,fl,σd',S',hv,hs,hf,k⟩:=h;cases hf;exact k _ _ _ hv hs Ext.refl
theorem znI(he:SE X e fe)(hsw:swapsWith e none pos.line X.env=pure false):SS X (.Expr e pos) (pU fe):=by refine PS.imp (zoa he hsw) λD σ H h=>?_;obtain⟨σd,S,α,fl,σd',S',hv,hs,hf,k⟩:=h;unfold pU at hf;simp only[aX] at hf;obtain⟨⟨d,S1⟩,e1,e2⟩:=hf;cases e2;exact⟨σd,S,α,d,S1,hv,hs,e1,λv H' α' s' x' r'=>k _ _ _ (hv.mono x') s' x'⟩
theorem zpN(he:SE X e fe):SS X (.Return (some e) pos) (bM fe):=by refine PS.imp (YQ he) λD σ H h=>?_;obtain⟨σd,S,α,fl,σd',S',hv,hs,hf,k⟩:=h;unfold bM at hf;simp only[aX] at hf;obtain⟨⟨d,S1⟩,e1,e2⟩:=hf;cases e2;exact⟨σd,S,α,d,S1,hv,hs,e1,λv H' α' s' x' r'=>k _ _ _ (hv.mono x') s' x' v r'⟩
theorem znG:SS X (.Return none pos) ug:=by refine PS.imp zn8 λD σ H h=>?_;obtain⟨σd,S,α,fl,σd',S',hv,hs,hf,k⟩:=h;cases hf;exact k _ _ _ hv hs Ext.refl _ .non
theorem Je{tg:Expr}{fg:GF}(he:SE X e fe)(hg:SG X tg fg)(h1:swapsWithSole [tg] e pos.line X.env=pure false)(h2:swappedStores [tg] e X.env=pure none)(h3:(assignEach [tg] X.env).map (·.2)=[assign tg X.env]):SS X (.Assign [tg] e pos) (bB fe fg):=by refine PS.imp (YJ he hg h1 h2 h3) λD σ H h=>?_;obtain⟨σd,S,α,fl,σd',S',hv,hs,hf,k⟩:=h;unfold bB at hf;simp only[bC,aX] at hf;obtain⟨⟨d,S1⟩,e1,⟨σ1,S2⟩,e2,e3⟩:=hf;cases e3;exact⟨σd,S,α,d,S1,hv,hs,e1,λv H' α' s' x' r'=>⟨σd,S1,α',d,_,_,hv.mono x',s',r',e2,λσ2 H2 α2 v2 s2 x2=>k _ _ _ v2 s2 (x'.trans x2)⟩⟩
theorem Ri{i:Nat}{x:Str}{pos':Pos}(hN:X.N.Nodup)(hi:X.N[i]?=some x)(hx:Loc X.env.scope x)(he:SE X e fe)(hsw:swapsWith e (some (.Name x pos')) pos.line X.env=pure false)(hfn:X.fn x=true\/X.env.scope.names.lookup x=some .local):
 SS X (.Assign [.Name x pos'] e pos) (bB fe (aK i)):=by
 refine PS.imp (YS hN hi hx he hsw hfn) λD σ H h=>?_;obtain⟨σd,S,α,fl,σd',S',hv,hs,hf,k⟩:=h;unfold bB at hf;simp only[bC,aX] at hf;obtain⟨⟨d,S1⟩,e1,⟨σ1,S2⟩,e2,e3⟩:=hf;cases e3;cases e2;exact⟨σd,S,α,d,S1,hv,hs,e1,λv H' α' s' x' r'=>k _ _ _ ((hv.mono x').set r' i) s' x'⟩
theorem Xz{c:Expr}{a b:List Stmt}{t:TF}(hc:ST X c t)(ha:uJ X a f)(hb:uJ X b g):SS X (.If c a b pos) (cX t f g):=by
 refine PS.imp (Yy hc ha hb) λD σ H h=>?_;obtain⟨σd,S,α,fl,σd',S',hv,hs,hf,k⟩:=h;unfold cX at hf;simp only[bC] at hf;obtain⟨⟨b1,S1⟩,e1,e2⟩:=hf;refine⟨σd,S,α,b1,S1,hv,hs,e1,λH1 α1 s1 x1=>?_⟩;cases b1 with
 |true =>
  rw[if_pos rfl];rw[if_pos rfl] at e2;exact⟨σd,S1,α1,fl,σd',S',hv.mono x1,s1,e2,k.trans x1⟩
 |false =>
  rw[if_neg gM];rw[if_neg gM] at e2;exact⟨σd,S1,α1,fl,σd',S',hv.mono x1,s1,e2,k.trans x1⟩
end
noncomputable def lq(t:TF)(f:SF):Nat->SF
 |0=>λ_ _=>none
 |n+1=>λσ S=>(t σ S).bind λr=>if r.1=true then(f σ r.2).bind λq=>match q.1 with
  |.nx=>lq t f n q.2.1 q.2.2
  |.ct=>lq t f n q.2.1 q.2.2
  |.bk=>some (.nx,q.2.1,q.2.2)
  |.rt d=>some (.rt d,q.2.1,q.2.2)
  else some (.nx,σ,r.2)
theorem Kz{t:TF}{f:SF}:∀{n:Nat} {σ:Sg} {S:So} {r:Fl×Sg×So},lq t f n σ S=some r->lq t f (n+1) σ S=some r
 |0,_,_,_,h=>by cases h
 |n+1,σ,S,r,h=>by
  unfold lq at h ⊢;simp only[bC] at h ⊢;obtain⟨q,e1,e2⟩:=h;refine⟨q,e1,?_⟩;by_cases hb:q.1=true
  .rw[if_pos hb] at e2 ⊢;simp only[bC] at e2 ⊢;obtain⟨q2,e3,e4⟩:=e2;refine⟨q2,e3,?_⟩;obtain⟨fl,σ1,S1⟩:=q2;cases fl with
   |nx=>exact Kz e4
   |ct=>exact Kz e4
   |bk=>exact e4
   |rt d=>exact e4
  .rw[if_neg hb] at e2 ⊢;exact e2
theorem T6{t:TF}{f:SF}{n m:Nat}{σ:Sg}{S:So}{r:Fl×Sg×So}(h:lq t f n σ S=some r)(hm:n<=m):lq t f m σ S=some r:=by
 obtain⟨k,rfl⟩:=Nat.exists_eq_add_of_le hm;clear hm
 induction k with
 |zero=>exact h
 |succ k ih=>exact Kz ih
open Classical in
noncomputable def jX(t:TF)(f:SF):SF:=λσ S=>if h:∃n r,lq t f n σ S=some r then some (Classical.choose (Classical.choose_spec h)) else none
theorem Rt{t:TF}{f:SF}{n:Nat}{σ:Sg}{S:So}{r:Fl×Sg×So}(h:lq t f n σ S=some r):jX t f σ S=some r:=by
 have hx:∃n r,lq t f n σ S=some r:=⟨n,r,h⟩
 unfold jX;rw[dif_pos hx];have e:=Classical.choose_spec (Classical.choose_spec hx);have e1:=T6 e (Nat.le_max_left _ n);have e2:=T6 h (Nat.le_max_right (Classical.choose hx) n);rw[e1] at e2;exact e2
theorem Rq{t:TF}{f:SF}{σ:Sg}{S:So}{r:Fl×Sg×So}(h:jX t f σ S=some r):∃n,lq t f n σ S=some r:=by
 unfold jX at h;split at h
 .rename_i hx;cases h;exact⟨_,Classical.choose_spec (Classical.choose_spec hx)⟩
 .cases h
theorem JW{t:TF}{f:SF}{σ σ1 σ2:Sg}{S S1 S2:So}{fl:Fl}{r:Fl×Sg×So}(h1:t σ S=some (true,S1))(h2:f σ S1=some (fl,σ2,S2))(hf:fl = .nx\/fl = .ct)(h3:jX t f σ2 S2=some r):jX t f σ S=some r:=by obtain⟨n,e⟩:=Rq h3;refine Rt (n:=n+1) ?_;unfold lq;rw[h1];simp only[b8,if_true];rw[h2];rcases hf with rfl|rfl<;>exact e
def Fi{t:TF}{f:SF}{σ:Sg}{S S1:So}(h1:t σ S=some (false,S1)):jX t f σ S=some (.nx,σ,S1):=by refine Rt (n:=1) ?_;unfold lq;rw[h1];simp
section
variable {X:Cx}{pos:Pos}
theorem zlE{c:Expr}{body:List Stmt}{t:TF}{f:SF}(hp:PassesOwn (model X.prog X.w) X.A X.env X.xe)(hc:ST X c t)(hb:uJ X body f):SS X (.While c body [] pos) (jX t f):=by
 refine PS.imp (zl3 hp hc hb) λD σ H h=>?_;obtain⟨σd,S,α,fl,σd',S',hv,hs,hf,k⟩:=h;obtain⟨n,hn⟩:=Rq hf;refine⟨λm σ1 H1=>∃σd1 S1 α1,bH X.K H1 α1 σd1 σ1/\aA X.K H1 α1 S1/\Ext X.K H α H1 α1/\lq t f m σd1 S1=some (fl,σd',S'),⟨n,σd,S,α,hv,hs,Ext.refl,hn⟩,?_⟩
 rintro m σ1 H1 ⟨σd1,S1,α1,v1,s1,x1,e⟩
 cases m with
 |zero=>cases e
 |succ m =>
  unfold lq at e;simp only[bC] at e;obtain⟨⟨b,S2⟩,e1,e2⟩:=e;refine⟨σd1,S1,α1,b,S2,v1,s1,e1,λH2 α2 s2 x2=>?_⟩;cases b with
  |false =>
   rw[if_neg gM];rw[if_neg gM] at e2;cases e2;exact k _ _ _ (v1.mono x2) s2 (x1.trans x2)
  |true =>
   rw[if_pos rfl];rw[if_pos rfl] at e2;simp only[bC] at e2;obtain⟨⟨PX,σd3,S3⟩,e3,e4⟩:=e2;refine⟨λσ4 H4=>∃σd4 S4 α4,bH X.K H4 α4 σd4 σ4/\aA X.K H4 α4 S4/\Ext X.K H α H4 α4/\lq t f m σd4 S4=some (fl,σd',S'),λσ4 H4 q=>⟨m,Nat.lt_succ_self _,q⟩,?_⟩;refine⟨σd1,S2,α2,PX,σd3,S3,v1.mono x2,s2,e3,λσ4 H4 α4 v4 s4 x4=>?_⟩;have xx:=(x1.trans x2).trans x4;cases PX with
   |nx=>exact⟨σd3,S3,α4,v4,s4,xx,e4⟩
   |ct=>exact⟨σd3,S3,α4,v4,s4,xx,e4⟩
   |bk=>cases e4;exact k _ _ _ v4 s4 xx
   |rt d=>cases e4;exact k _ _ _ v4 s4 xx
end
end MX
end
section
variable {A:PySem.Around}{E Q:PySem.Value->PySem.Shared->Prop}{H:L2.Hp}{K:FgA}{S S':MX.So}{X:L2.Cx}{a c l:PySem.Addr}{cpos p pos spos:PySem.Pos}{d:MX.D}{ds:List MX.D}{e:PySem.Expr}{env:PySem.Env}{es:List PySem.Expr}{f fe:MX.EF}{fa:MX.AF}{fb:MX.SF}{fd:PySem.FuncData}{fns:List (PySem.Str×Nat×MX.GN)}{h h':PySem.Heap}{i j k kk m n t':Nat}{ks:List PySem.Keyword}{mg:PySem.Str->Option PySem.Value}{name x y:PySem.Str}{names:List (PySem.Str×PySem.NameKind)}{ns:List Int}{o:PySem.Obj}{out:List PySem.Value}{params:PySem.Arguments}{prog q:PySem.Program}{ps:List PySem.Str}{s:PySem.Shared}{scope:PySem.Scope}{st:PySem.Stmt}{vs:List L2.V}{w:PySem.World}{xs:Array (Int×PySem.Tok)}{α:List PySem.Addr}{σ':MX.Sg}
section
namespace MZ
open PySem PySem.Spec PyProof.Rows L2
structure Sub where
 it:Addr
 src:Addr
 tup:Bool
def cF(h:Heap)(p:Sub)(k:Nat):Prop:=if p.tup=true then h.IsTupleIter p.it p.src k else h.IsListIter p.it p.src k
def SrcAt(h:Heap)(p:Sub)(items:List Value):Prop:=if p.tup=true then h.IsTuple p.src items.toArray else h.IsList p.src items.toArray
theorem cF.at{h h':Heap}{p:Sub}{k:Nat}(x:cF h p k)(f:∀o,h.get? p.it=some o->h'.get? p.it=some o):cF h' p k:=by
 unfold cF at x ⊢;split
 .rename_i hp;rw[if_pos hp] at x;obtain⟨o,e,r⟩:=x;exact⟨o,f o e,r⟩
 .rename_i hp;rw[if_neg hp] at x;obtain⟨o,e,r⟩:=x;exact⟨o,f o e,r⟩
theorem SrcAt.at{h h':Heap}{p:Sub}{xs:List Value}(x:SrcAt h p xs)(f:∀o,h.get? p.src=some o->h'.get? p.src=some o):SrcAt h' p xs:=by
 unfold SrcAt at x ⊢;split
 .rename_i hp;rw[if_pos hp] at x;obtain⟨o,e,r⟩:=x;exact⟨o,f o e,r⟩
 .rename_i hp;rw[if_neg hp] at x;obtain⟨o,e,r⟩:=x;exact⟨o,f o e,r⟩
theorem cF.obj{h:Heap}{p:Sub}{k:Nat}(x:cF h p k):∃o,h.get? p.it=some o/\∀v,o.data ≠ .cell v:=by
 unfold cF at x;split at x
 .obtain⟨o,e,_,d⟩:=x;exact⟨o,e,λv z=>by rw[d] at z;cases z⟩
 .obtain⟨o,e,_,d⟩:=x;exact⟨o,e,λv z=>by rw[d] at z;cases z⟩
section
variable {prog:Program}{w:World}{A:Around}{E:Value->Shared->Prop}{s:Shared}
theorem zei{it t:Addr}{i:Nat}{items}{x:Value}{Q:Value->Shared->Prop}(hit:s.heap.IsTupleIter it t i)(ht:s.heap.IsTuple t items)(hx:items[i]?=some x)(hQ:∀h',h'.IsTupleIter it t (i+1)->Heap.SameBut it s.heap h'->Q x { s with heap:=h' }):
 wpAny (model prog w) A (Builtin.SmallTypes.nextOf (.ref it)) Q E s:=by
 obtain⟨o,ho,hc,hd⟩:=id hit;obtain⟨ol,hol,_,nl,hdl⟩:=ht;unfold Builtin.SmallTypes.nextOf;refine aL (wpAny_callSpecial?_slot (name:=Str.ofString "__next__") hit.typeIs F.slot_tuple_iterator_next
  (wpAny_call_entry F.slot_tuple_iterator_next hit.typeIs F.entry_tuple_iterator_next ?_ (F.args_tuple_iterator_next_1 _)))
 show wpAny _ _ (field (.ref it) 0 >>= _) _ _ s;refine aL (wpAny_field ho hd (x := .ref t) rfl ?_);show wpAny _ _ (if(Value.ref t==Value.none)=true then _ else _) _ _ s;rw[if_neg (show ¬((Value.ref t==Value.none)=true) from gM)];show wpAny _ _ (field (.ref it) 1 >>= _) _ _ s;refine aL (wpAny_field ho hd (x := .int i 0) rfl ?_);show wpAny _ _ (seqItems? (.ref t) >>= _) _ _ s;refine aL (wpAny_seqItems hol hdl ?_);simp only[Int.toNat_natCast,hx];refine aL (wpAny_setField ho hd (by simp) (bO ⟨x,rfl,bO (hQ _ ?_ (Heap.SameBut.update ..))⟩));exact⟨_,Dv _ ho (Obj.isFreed_of_fields (Obj.data_mapFields hd _)),(Obj.cls_mapFields ..).trans hc,by
  rw[Obj.data_mapFields hd];simp[rawInt]⟩
theorem zeF{it t:Addr}{i:Nat}{items}{Q:Value->Shared->Prop}(hh:A.handled=none)(hit:s.heap.IsTupleIter it t i)(ht:s.heap.IsTuple t items)(hx:items[i]?=none)(hE:∀h' e,Heap.ExtBut it s.heap h'->(∃o,h'.get? e=some o/\o.cls = .type "StopIteration")->E (.ref e) { s with heap:=h' }):
 wpAny (model prog w) A (Builtin.SmallTypes.nextOf (.ref it)) Q E s:=by
 obtain⟨o,ho,hc,hd⟩:=id hit;obtain⟨ol,hol,_,nl,hdl⟩:=ht;unfold Builtin.SmallTypes.nextOf;refine aL (wpAny_callSpecial?_slot (name:=Str.ofString "__next__") hit.typeIs F.slot_tuple_iterator_next
  (wpAny_call_entry F.slot_tuple_iterator_next hit.typeIs F.entry_tuple_iterator_next ?_ (F.args_tuple_iterator_next_1 _)))
 show wpAny _ _ (field (.ref it) 0 >>= _) _ _ s;refine aL (wpAny_field ho hd (x := .ref t) rfl ?_);show wpAny _ _ (if(Value.ref t==Value.none)=true then _ else _) _ _ s;rw[if_neg (show ¬((Value.ref t==Value.none)=true) from gM)];show wpAny _ _ (field (.ref it) 1 >>= _) _ _ s;refine aL (wpAny_field ho hd (x := .int i 0) rfl ?_);show wpAny _ _ (seqItems? (.ref t) >>= _) _ _ s;refine aL (wpAny_seqItems hol hdl ?_);simp only[Int.toNat_natCast,hx];refine aL (wpAny_rule (aL (wpAny_setField ho hd (by simp) ?_)));show wpAny _ _ (newExc (.type "StopIteration") [] >>= _) _ _ _;refine aL ?_;simp only[newExc,newTuple];refine aL (wpAny_newObj_type ?_ (by size_fits));refine aL (m:=firstArgMember _ _) (wpAny_of_eq (a:=Value.none) (by first|rfl|(simp only[firstArgMember];rfl)) ?_);refine wpAny_newObj_type ?_ (by size_fits);simp only[raiseNew];refine aL (wpAny_handled ?_)
 first|rw[show A.in1.handled=none from hh]|rw[hh]
 refine aL (bO (wpAny_throw ?_));exact hE _ _ (((Heap.SameBut.update ..).extBut.push _).push _) ⟨_,gO _ rfl,rfl⟩
theorem T5{p:Sub}{xs:List Value}{k:Nat}{x:Value}{Q:Value->Shared->Prop}(hi:cF s.heap p k)(hs:SrcAt s.heap p xs)(hx:xs[k]?=some x)(hQ:∀h',cF h' p (k+1)->Heap.SameBut p.it s.heap h'->Q x { s with heap:=h' }):wpAny (model prog w) A (Builtin.SmallTypes.nextOf (.ref p.it)) Q E s:=by
 by_cases hp:p.tup=true
 .unfold cF SrcAt at *
  rw[if_pos hp] at hi hs;exact zei hi hs (by simpa using hx) λh' a b=>hQ h' (by rw[if_pos hp];exact a) b
 .unfold cF SrcAt at *
  rw[if_neg hp] at hi hs;exact wpAny_nextOf_list_item hi hs (by simpa using hx) λh' a b=>hQ h' (by rw[if_neg hp];exact a) b
theorem znB{p:Sub}{xs:List Value}{k:Nat}{Q:Value->Shared->Prop}(hh:A.handled=none)(hi:cF s.heap p k)(hs:SrcAt s.heap p xs)(hx:xs[k]?=none)(hE:∀h' e,Heap.ExtBut p.it s.heap h'->(∃o,h'.get? e=some o/\o.cls = .type "StopIteration")->E (.ref e) { s with heap:=h' }):
 wpAny (model prog w) A (Builtin.SmallTypes.nextOf (.ref p.it)) Q E s:=by
 by_cases hp:p.tup=true
 .unfold cF SrcAt at *
  rw[if_pos hp] at hi hs;exact zeF hh hi hs (by simpa using hx) hE
 .unfold cF SrcAt at *
  rw[if_neg hp] at hi hs;exact wpAny_nextOf_list_end hh hi hs (by simpa using hx) hE
end
noncomputable abbrev dz(xs:List Value):Obj:={ cls := .type "tuple",data := .seq xs.toArray }
structure xR(z TI TO:Addr)(ps:List Sub):Prop where
 TIz:TI≠z
 TOz:TO≠z
 TITO:TI≠TO
 iz:∀p∈ps,p.it≠z
 iTI:∀p∈ps,p.it≠TI
 iTO:∀p∈ps,p.it≠TO
 sz:∀p∈ps,p.src≠z
 sTO:∀p∈ps,p.src≠TO
 si:∀p∈ps,∀q∈ps,p.src≠q.it
 nd:(ps.map (·.it)).Nodup
section
variable {prog:Program}{w:World}{A:Around}{E:Value->Shared->Prop}{s:Shared}
theorem Tc{T:Addr}{ys:List Value}{k:Nat}{x:Value}{Q:Unit->Shared->Prop}(hT:s.heap.get? T=some (dz ys))(hz:ys.length<=sizeLine)(h:∀h',h'.get? T=some (dz (ys.set k x))->Heap.SameBut T s.heap h'->Q () { s with heap:=h' }):
 wpAny (model prog w) A (updateSeq T (·.setIfInBounds k x)) Q E s:=by
 refine wpAny_updateSeq hT rfl (h _ ?_ (Heap.SameBut.update ..)) (by rw[d7];exact hz) (by simp;omega);rw[Dv _ hT rfl];simp[Obj.mapSeq,dz]
def znW{α:Type}(a b:List α)(y x:α):(a++y::b).set a.length x=a++x::b:=by rw[List.set_append_right _ _ (bZ _)];simp
theorem zlv{z TI TO:Addr}{ps:List Sub}{xss:List (List Value)}{row ys:List Value}{k:Nat}{Q:Value->Shared->Prop}(D:xR z TI TO ps)(hne:ps≠[])(hps:ps.length<=100)(hz:IsZip s.heap z TI TO .none)(hTI:s.heap.get? TI=some (dz (ps.map λp=>Value.ref p.it)))(hTO:s.heap.get? TO=some (dz ys))(hy:ys.length=ps.length)(hl:xss.length=ps.length)(hr:row.length=ps.length)(hi:∀p∈ps,cF s.heap p k)(hs:∀(j:Nat) p xs,ps[j]?=some p->xss[j]?=some xs->SrcAt s.heap p xs)(hx:∀(j:Nat) xs x,xss[j]?=some xs->row[j]?=some x->xs[k]?=some x)(hQ:∀h',IsZip h' z TI TO (rawInt s.heap.objs.size)->h'.get? TO=some (dz row)->(∀p∈ps,cF h' p (k+1))->h'.get? s.heap.objs.size=some (dz row)->h'.objs.size=s.heap.objs.size+1 ->
  (∀c o,c≠z->c≠TO->(∀p∈ps,c≠p.it)->s.heap.get? c=some o->h'.get? c=some o)->Q (.ref s.heap.objs.size) { s with heap:=h' }):
 wpAny (model prog w) A (Builtin.«zip.__next__» ⟨[.ref z],[]⟩) (λfin s'=>∃v,fin = .done (.ret v)/\Q v s') E s:=by
 have line:(100:Nat)<=sizeLine:=by decide
 show wpAny _ _ (field (.ref z) 2 >>= _) _ _ _;refine aL (wpAny_field hz rfl (x := .bool false) rfl ?_);show wpAny _ _ (field (.ref z) 3 >>= _) _ _ _;refine aL (wpAny_field hz rfl (x := .ref TI) rfl ?_);refine aL (wpAny_seqItems hTI rfl ?_);have hemp:((ps.map λp=>Value.ref p.it).toArray.isEmpty)=false:=by
  cases ps with
  |nil=>exact absurd rfl hne
  |cons _ _=>simp
 show wpAny _ _ (if((ps.map λp=>Value.ref p.it).toArray.isEmpty)=true then _ else _) _ _ _;rw[if_neg (by rw[hemp];exact gM)];show wpAny _ _ (Builtin.SmallTypes.ownedTupleIsFree (.ref z) >>= _) _ _ _;refine aL ?_;unfold Builtin.SmallTypes.ownedTupleIsFree;refine aL (wpAny_field hz rfl (x := .none) rfl (bO ?_));simp only[if_true];refine aL (wpAny_rule ?_);refine aL (wpAny_field hz rfl (x := .ref TO) rfl ?_);refine aL (wpAny_setField_rec hz (by simp) λh₁ hz₁ hs₁=>?_);replace hz₁:IsZip h₁ z TI TO .ellipsis:=hz₁;refine aL ?_;refine wpAny_forIn_list _
  (λrest b s'=>b.1=none/\∃j h,s'={ s with heap:=h }/\rest=((ps.drop j).map λp=>Value.ref p.it).zipIdx j/\j<=ps.length/\IsZip h z TI TO .ellipsis/\h.get? TO=some (dz (row.take j++ys.drop j))/\h.objs.size=s.heap.objs.size /\
   (∀(i:Nat) p,ps[i]?=some p->cF h p (if i<j then k+1 else k))/\∀c o,c≠z->c≠TO->(∀p∈ps,c≠p.it)->s.heap.get? c=some o->h.get? c=some o) _ ?_ ?_ _ _ ?_
 .rintro⟨v,kk⟩ rest b s' ⟨hb,j,h,rfl,hrest,hj,z1,t1,GZ,i1,k1⟩
  have hjl:j<ps.length:=by refine Nat.lt_of_le_of_ne hj λe=>?_;rw[e] at hrest;simp at hrest
  obtain⟨p,hp⟩:∃p,ps[j]?=some p:=⟨ps[j],by simp[hjl]⟩
  have hpm:p∈ps:=List.mem_of_getElem? hp;have hdrop:ps.drop j=p::ps.drop (j+1):=by obtain⟨h1,h2⟩:=fO.mp hp;rw[<-h2];exact List.drop_eq_getElem_cons h1
  rw[hdrop,jd,List.zipIdx_cons] at hrest;injection hrest with e1 e2;obtain⟨e3,e4⟩:=Prod.mk.inj e1;subst e3;replace e4:=e4.symm;subst e4;obtain⟨xs,hxs⟩:∃xs,xss[j]?=some xs:=⟨xss[j]'(by omega),by simp⟩
  obtain⟨x,Xd⟩:∃x,row[j]?=some x:=⟨row[j]'(by omega),by simp⟩
  obtain⟨y,hyr⟩:∃y,ys[j]?=some y:=⟨ys[j]'(by omega),by simp⟩
  have hit:cF h p k:=by have:=i1 j p hp;rw[if_neg (gZ _)] at this;exact this
  have gW:SrcAt h p xs:=(hs j p xs hp hxs).at λo e=>k1 _ o (D.sz p hpm) (D.sTO p hpm) (λq hq=>D.si p hpm q hq) e;have hcur:row.take j++ys.drop j=row.take j++y::ys.drop (j+1):=by obtain⟨h1,h2⟩:=fO.mp hyr;rw[List.drop_eq_getElem_cons h1,h2]
  have hlj:(row.take j).length=j:=by rw[xP];omega
  obtain⟨b1,b2⟩:=b;have hb':b1=none:=hb;subst hb';refine aL (wpAny_onRaise ?_);show wpAny _ _ (Builtin.SmallTypes.nextOf (.ref p.it) >>= _) _ _ _;refine aL (T5 hit gW (hx j xs x hxs Xd) λh₂ it₂ sb₂=>bO ?_);have t2:h₂.get? TO=some (dz (row.take j++ys.drop j)):=sb₂.extBut _ _ (D.iTO p hpm).symm t1;refine aL (wpAny_seqItems t2 rfl ?_);refine aL (Tc (s:={ s with heap:=h₂ }) (k:=j) t2 (by rw[lz,xP,List.length_drop];omega) λh₃ t3 sb₃=>?_);refine aL (wpAny_letGo (bO ?_));refine⟨rfl,j+1,h₃,rfl,e2,hjl,?_,?_,?_,λi q hq=>?_,λc o c1 c2 c3 e=>?_⟩
  .exact sb₃.extBut _ _ D.TOz.symm (sb₂.extBut _ _ (D.iz p hpm).symm z1)
  .rw[t3,hcur];have:(row.take j++y::ys.drop (j+1)).set j x=row.take (j+1)++ys.drop (j+1):=by
    have e:row.take (j+1)=row.take j++[x]:=by obtain⟨h1,h2⟩:=fO.mp Xd;rw[<-h2];simp
    have:=znW (row.take j) (ys.drop (j+1)) y x;rw[hlj] at this;rw[this,e,fB];rfl
   rw[this]
  .rw[sb₃.1,sb₂.1,GZ]
  .have Pn:q∈ps:=List.mem_of_getElem? hq;have k3:∀o,h₂.get? q.it=some o->h₃.get? q.it=some o:=λo e=>sb₃.extBut _ _ (D.iTO q Pn) e;by_cases hij:i=j
   .subst hij;rw[hp] at hq;cases hq;rw[if_pos (Nat.lt_succ_self _)];exact it₂.at k3
   .have hne':q.it≠p.it:=λz=>hij (by
     obtain⟨a1,a2⟩:=fO.mp hq;obtain⟨b1,b2⟩:=fO.mp hp;refine(List.getElem_inj (xs:=ps.map (·.it)) (i:=i) (j:=j) (h₀:=by simpa using a1) (h₁:=by simpa using b1) D.nd).mp ?_;simp[a2,b2,z])
    have:=i1 i q hq;have e:(if i<j+1 then k+1 else k)=(if i<j then k+1 else k):=by
     by_cases h1:i<j
     .rw[if_pos h1,if_pos (by omega)]
     .rw[if_neg h1,if_neg (by omega)]
    rw[e];exact(this.at λo e=>sb₂.extBut _ _ hne' e).at k3
  .exact sb₃.extBut _ _ c2 (sb₂.extBut _ _ (c3 p hpm) (k1 c o c1 c2 c3 e))
 .rintro⟨b1,b2⟩ s' ⟨hb,j,h,rfl,hrest,hj,z1,t1,GZ,i1,k1⟩
  have hb':b1=none:=hb;subst hb';have hjl:j=ps.length:=by
   refine Nat.le_antisymm hj (Nat.le_of_not_lt λhlt=>?_);have hd:ps.drop j≠[]:=by intro e;have:=congrArg List.length e;rw[List.length_drop] at this;simp at this;omega
   cases q:ps.drop j with
   |nil=>exact hd q
   |cons a r=>rw[q] at hrest;simp at hrest
  subst hjl;have WL:h.get? TO=some (dz row):=by rw[t1,List.take_of_length_le (by omega),List.drop_of_length_le (by omega),List.append_nil]
  show wpAny _ _ (seqItems? (.ref TO) >>= _) _ _ _;refine aL (wpAny_seqItems WL rfl ?_);refine aL (wpAny_newTuple ?_ (by simp;omega));have hzlt:z<h.objs.size:=cJ z1;show wpAny _ _ (Builtin.SmallTypes.ownedTupleHandOut (.ref z) (.ref h.objs.size) >>= _) _ _ _;refine aL ?_;unfold Builtin.SmallTypes.ownedTupleHandOut;have hz₆:IsZip (h.push { cls := .type "tuple",data := .seq row.toArray.toList.toArray }) z TI TO .ellipsis:=di _ z1;refine aL (wpAny_setField_rec hz₆ (by simp) λh₇ hz₇ hs₇=>?_);replace hz₇:IsZip h₇ z TI TO (rawInt h.objs.size):=hz₇;refine wpAny_setField_rec hz₇ (by simp) λh₈ hz₈ hs₈=>?_;replace hz₈:IsZip h₈ z TI TO (rawInt h.objs.size):=hz₈;have up:∀c o,c≠z->h.get? c=some o->h₈.get? c=some o:=λc o c1 e=>hs₈.extBut _ _ c1 (hs₇.extBut _ _ c1 (di _ e));have hT₈:h₈.get? h.objs.size=some (dz row):=hs₈.extBut _ _ (Nat.ne_of_gt hzlt) (hs₇.extBut _ _ (Nat.ne_of_gt hzlt) (by simpa[dz] using gO h (o:=dz row) rfl));have hz8:h₈.objs.size=h.objs.size+1:=by rw[hs₈.1,hs₇.1,Heap.size_push]
  rw[GZ] at hz₈ hT₈ hz8;refine bO ⟨_,rfl,?_⟩;show Q (.ref h.objs.size) _;rw[GZ];refine hQ h₈ hz₈ (up _ _ D.TOz WL) (λp hp=>?_) hT₈ hz8 λc o c1 c2 c3 e=>up c o c1 (k1 c o c1 c2 c3 e);obtain⟨i,hil,e⟩:=List.mem_iff_getElem.mp hp;have:=i1 i p (by rw[fO];exact⟨hil,e⟩);rw[if_pos hil] at this;exact this.at λo e=>up _ o (D.iz p hp) e
 .refine⟨rfl,0,h₁,rfl,rfl,Nat.zero_le _,hz₁,by simpa using hs₁.extBut _ _ D.TOz hTO,hs₁.1,λi p hp=>?_,λc o c1 c2 c3 e=>hs₁.extBut _ _ c1 e⟩;have hpm:=List.mem_of_getElem? hp;rw[if_neg (Nat.not_lt_zero _)];exact(hi p hpm).at λo e=>hs₁.extBut _ _ (D.iz p hpm) e
theorem zns{z TI TO:Addr}{ps:List Sub}{xss:List (List Value)}{ys:List Value}{k j₀:Nat}{Q:Fin->Shared->Prop}(hh:A.handled=none)(D:xR z TI TO ps)(hne:ps≠[])(hps:ps.length<=100)(hz:IsZip s.heap z TI TO .none)(hTI:s.heap.get? TI=some (dz (ps.map λp=>Value.ref p.it)))(hTO:s.heap.get? TO=some (dz ys))(hy:ys.length=ps.length)(hl:xss.length=ps.length)(hi:∀p∈ps,cF s.heap p k)(hs:∀(j:Nat) p xs,ps[j]?=some p->xss[j]?=some xs->SrcAt s.heap p xs)(hj₀:j₀<ps.length)(wH:∀(j:Nat) xs,j<j₀->xss[j]?=some xs->∃x,xs[k]?=some x)(hend:∀xs,xss[j₀]?=some xs->xs[k]?=none)(hE:∀h' e,(∀c o,c≠z->c≠TO->(∀p∈ps,c≠p.it)->s.heap.get? c=some o->h'.get? c=some o)->(∃o,h'.get? e=some o/\o.cls = .type "StopIteration")->E (.ref e) { s with heap:=h' }):
 wpAny (model prog w) A (Builtin.«zip.__next__» ⟨[.ref z],[]⟩) Q E s:=by
 have line:(100:Nat)<=sizeLine:=by decide
 show wpAny _ _ (field (.ref z) 2 >>= _) _ _ _;refine aL (wpAny_field hz rfl (x := .bool false) rfl ?_);show wpAny _ _ (field (.ref z) 3 >>= _) _ _ _;refine aL (wpAny_field hz rfl (x := .ref TI) rfl ?_);refine aL (wpAny_seqItems hTI rfl ?_);have hemp:((ps.map λp=>Value.ref p.it).toArray.isEmpty)=false:=by
  cases ps with
  |nil=>exact absurd rfl hne
  |cons _ _=>simp
 show wpAny _ _ (if((ps.map λp=>Value.ref p.it).toArray.isEmpty)=true then _ else _) _ _ _;rw[if_neg (by rw[hemp];exact gM)];show wpAny _ _ (Builtin.SmallTypes.ownedTupleIsFree (.ref z) >>= _) _ _ _;refine aL ?_;unfold Builtin.SmallTypes.ownedTupleIsFree;refine aL (wpAny_field hz rfl (x := .none) rfl (bO ?_));simp only[if_true];refine aL (wpAny_rule ?_);refine aL (wpAny_field hz rfl (x := .ref TO) rfl ?_);refine aL (wpAny_setField_rec hz (by simp) λh₁ hz₁ hs₁=>?_);replace hz₁:IsZip h₁ z TI TO .ellipsis:=hz₁;refine aL ?_;refine wpAny_forIn_list _
  (λrest b s'=>b.1=none/\∃j h cur,s'={ s with heap:=h }/\rest=((ps.drop j).map λp=>Value.ref p.it).zipIdx j/\j<=j₀/\IsZip h z TI TO .ellipsis/\h.get? TO=some (dz cur)/\cur.length=ps.length /\
   (∀(i:Nat) p,ps[i]?=some p->j<=i->cF h p k)/\∀c o,c≠z->c≠TO->(∀p∈ps,c≠p.it)->s.heap.get? c=some o->h.get? c=some o) _ ?_ ?_ _ _ ?_
 .rintro⟨v,kk⟩ rest b s' ⟨hb,j,h,cur,rfl,hrest,hj,z1,t1,c1',i1,k1⟩
  have hjl:j<ps.length:=zm hj hj₀;obtain⟨p,hp⟩:∃p,ps[j]?=some p:=⟨ps[j],by simp[hjl]⟩
  have hpm:p∈ps:=List.mem_of_getElem? hp;have hdrop:ps.drop j=p::ps.drop (j+1):=by obtain⟨h1,h2⟩:=fO.mp hp;rw[<-h2];exact List.drop_eq_getElem_cons h1
  rw[hdrop,jd,List.zipIdx_cons] at hrest;injection hrest with e1 e2;obtain⟨e3,e4⟩:=Prod.mk.inj e1;subst e3;replace e4:=e4.symm;subst e4;obtain⟨xs,hxs⟩:∃xs,xss[j]?=some xs:=⟨xss[j]'(by omega),by simp⟩
  have hit:cF h p k:=i1 j p hp (bZ _);have gW:SrcAt h p xs:=(hs j p xs hp hxs).at λo e=>k1 _ o (D.sz p hpm) (D.sTO p hpm) (λq hq=>D.si p hpm q hq) e;obtain⟨b1,b2⟩:=b;have hb':b1=none:=hb;subst hb';by_cases hj0:j=j₀
  .subst hj0;refine aL (wpAny_onRaise ?_);show wpAny _ _ (Builtin.SmallTypes.nextOf (.ref p.it) >>= _) _ _ _;refine aL (znB hh hit gW (hend xs hxs) λh₂ e sb₂ he=>?_);obtain⟨oe,hoe,hce⟩:=he;have hz₂:IsZip h₂ z TI TO .ellipsis:=sb₂ _ _ (D.iz p hpm).symm z1;have hez:e≠z:=λx=>by subst x;rw[hz₂] at hoe;cases hoe;simp at hce
   exact wpAny_setField_rec hz₂ (by simp) λh₃ _ hs₃=>hE h₃ e (λc o c1 c2 c3 x=>hs₃.extBut _ _ c1 (sb₂ _ _ (c3 p hpm) (k1 c o c1 c2 c3 x))) ⟨oe,hs₃.extBut _ _ hez hoe,hce⟩
  .obtain⟨x,hx⟩:=wH j xs (by omega) hxs;refine aL (wpAny_onRaise ?_);show wpAny _ _ (Builtin.SmallTypes.nextOf (.ref p.it) >>= _) _ _ _;refine aL (T5 hit gW hx λh₂ it₂ sb₂=>bO ?_);have t2:h₂.get? TO=some (dz cur):=sb₂.extBut _ _ (D.iTO p hpm).symm t1;refine aL (wpAny_seqItems t2 rfl ?_);refine aL (Tc (s:={ s with heap:=h₂ }) (k:=j) t2 (by omega) λh₃ t3 sb₃=>?_);refine aL (wpAny_letGo (bO ?_));refine⟨rfl,j+1,h₃,_,rfl,e2,by omega,?_,t3,by simpa using c1',λi q hq hiq=>?_,λc o c1 c2 c3 e=>?_⟩
   .exact sb₃.extBut _ _ D.TOz.symm (sb₂.extBut _ _ (D.iz p hpm).symm z1)
   .have Pn:q∈ps:=List.mem_of_getElem? hq;have hne':q.it≠p.it:=λz=>(show i≠j by omega) (by
     obtain⟨a1,a2⟩:=fO.mp hq;obtain⟨b1,b2⟩:=fO.mp hp;refine(List.getElem_inj (xs:=ps.map (·.it)) (i:=i) (j:=j) (h₀:=by simpa using a1) (h₁:=by simpa using b1) D.nd).mp ?_;simp[a2,b2,z])
    exact((i1 i q hq (by omega)).at λo e=>sb₂.extBut _ _ hne' e).at λo e=>sb₃.extBut _ _ (D.iTO q Pn) e
   .exact sb₃.extBut _ _ c2 (sb₂.extBut _ _ (c3 p hpm) (k1 c o c1 c2 c3 e))
 .rintro b s' ⟨hb,j,h,cur,rfl,hrest,hj,_⟩
  exfalso;have hd:ps.drop j≠[]:=by intro e;have:=congrArg List.length e;rw[List.length_drop] at this;simp at this;omega
  cases q:ps.drop j with
  |nil=>exact hd q
  |cons a r=>rw[q] at hrest;simp at hrest
 .refine⟨rfl,0,h₁,ys,rfl,rfl,Nat.zero_le _,hz₁,hs₁.extBut _ _ D.TOz hTO,hy,λi p hp _=>?_,λc o c1 c2 c3 e=>hs₁.extBut _ _ c1 e⟩;have hpm:=List.mem_of_getElem? hp;exact(hi p hpm).at λo e=>hs₁.extBut _ _ (D.iz p hpm) e
theorem zkk{z TI TO:Addr}{ps:List Sub}{xss:List (List Value)}{row ys:List Value}{k:Nat}{Q:Option Value->Shared->Prop}(D:xR z TI TO ps)(hne:ps≠[])(hps:ps.length<=100)(hz:IsZip s.heap z TI TO .none)(hTI:s.heap.get? TI=some (dz (ps.map λp=>Value.ref p.it)))(hTO:s.heap.get? TO=some (dz ys))(hy:ys.length=ps.length)(hl:xss.length=ps.length)(hr:row.length=ps.length)(hi:∀p∈ps,cF s.heap p k)(hs:∀(j:Nat) p xs,ps[j]?=some p->xss[j]?=some xs->SrcAt s.heap p xs)(hx:∀(j:Nat) xs x,xss[j]?=some xs->row[j]?=some x->xs[k]?=some x)(hQ:∀h',IsZip h' z TI TO (rawInt s.heap.objs.size)->h'.get? TO=some (dz row)->(∀p∈ps,cF h' p (k+1))->h'.get? s.heap.objs.size=some (dz row)->h'.objs.size=s.heap.objs.size+1 ->
  (∀c o,c≠z->c≠TO->(∀p∈ps,c≠p.it)->s.heap.get? c=some o->h'.get? c=some o)->Q (some (.ref s.heap.objs.size)) { s with heap:=h' }):
 wpAny (model prog w) A (pyNext (.ref z)) Q E s:=by
 have hT:s.TypeIs (.ref z) "zip" := ⟨_,hz,rfl⟩
 unfold pyNext;exact aL (wpAny_attempt (wpAny_callSpecial?_slot (name:=Str.ofString "__next__") hT F.slot_zip_next
  (wpAny_call_entry F.slot_zip_next hT F.entry_zip_next
   (zlv D hne hps hz hTI hTO hy hl hr hi hs hx λh' a1 a2 a3 a4 a5 a6=>bO (hQ h' a1 a2 a3 a4 a5 a6)) (F.args_zip_next_1 _))))
theorem zmg{z TI TO:Addr}{ps:List Sub}{xss:List (List Value)}{ys:List Value}{k j₀:Nat}{Q:Option Value->Shared->Prop}(hh:A.handled=none)(D:xR z TI TO ps)(hne:ps≠[])(hps:ps.length<=100)(hz:IsZip s.heap z TI TO .none)(hTI:s.heap.get? TI=some (dz (ps.map λp=>Value.ref p.it)))(hTO:s.heap.get? TO=some (dz ys))(hy:ys.length=ps.length)(hl:xss.length=ps.length)(hi:∀p∈ps,cF s.heap p k)(hs:∀(j:Nat) p xs,ps[j]?=some p->xss[j]?=some xs->SrcAt s.heap p xs)(hj₀:j₀<ps.length)(wH:∀(j:Nat) xs,j<j₀->xss[j]?=some xs->∃x,xs[k]?=some x)(hend:∀xs,xss[j₀]?=some xs->xs[k]?=none)(hQ:∀h',(∀c o,c≠z->c≠TO->(∀p∈ps,c≠p.it)->s.heap.get? c=some o->h'.get? c=some o)->Q none { s with heap:=h' }):
 wpAny (model prog w) A (pyNext (.ref z)) Q E s:=by
 have hT:s.TypeIs (.ref z) "zip" := ⟨_,hz,rfl⟩
 unfold pyNext;refine aL (wpAny_attempt (wpAny_callSpecial?_slot (name:=Str.ofString "__next__") hT F.slot_zip_next
  (wpAny_call_entry F.slot_zip_next hT F.entry_zip_next (zns hh D hne hps hz hTI hTO hy hl hi hs hj₀ wH hend λh' e hk he=>?_) (F.args_zip_next_1 _))))
 obtain⟨o,ho,hc⟩:=he;refine aL (wpAny_isInstance (T := "StopIteration") (b:=true) ⟨o,ho,hc⟩ isSubtype_stop ?_);exact bO (hQ _ hk)
noncomputable def dU(n:Nat):List (Addr×Bool)->List Sub
 |[]=>[]
 | (a,t)::r=>⟨n,a,t⟩::dU (n+1) r
def fJ(h:Heap)(p:Addr×Bool):Prop:=if p.2=true then ∃xs,h.IsTuple p.1 xs else ∃xs,h.IsList p.1 xs
theorem fJ.keeps{h h':Heap}{p:Addr×Bool}(x:fJ h p)(f:∀b o,h.get? b=some o->h'.get? b=some o):fJ h' p:=by
 unfold fJ at x ⊢;split
 .rename_i hp;rw[if_pos hp] at x;obtain⟨xs,o,e,r⟩:=x;exact⟨xs,o,f _ o e,r⟩
 .rename_i hp;rw[if_neg hp] at x;obtain⟨xs,o,e,r⟩:=x;exact⟨xs,o,f _ o e,r⟩
theorem zms{p:Addr×Bool}{Q:Value->Shared->Prop}(hp:fJ s.heap p)(h:∀h',(∀b o,s.heap.get? b=some o->h'.get? b=some o)->h'.objs.size=s.heap.objs.size+1->cF h' ⟨s.heap.objs.size,p.1,p.2⟩ 0->Q (.ref s.heap.objs.size) { s with heap:=h' }):
 wpAny (model prog w) A (pyIter (.ref p.1)) Q E s:=by
 unfold fJ at hp;by_cases ht:p.2=true
 .rw[if_pos ht] at hp;obtain⟨xs,hx⟩:=hp;refine wpAny_pyIter_tuple hx (h _ (λb o e=>di _ e) (Heap.size_push ..) ?_);unfold cF;rw[if_pos ht];exact⟨_,gO _ rfl,rfl,rfl⟩
 .rw[if_neg ht] at hp;obtain⟨xs,hx⟩:=hp;refine wpAny_pyIter_list hx (h _ (λb o e=>di _ e) (Heap.size_push ..) ?_);unfold cF;rw[if_neg ht];exact⟨_,gO _ rfl,rfl,rfl⟩
theorem Fv:∀(n:Nat) (l:List (Addr×Bool)) (p:Sub),p∈dU n l->n<=p.it/\p.it<n+l.length/\(p.src,p.tup)∈l
 |_,[],p,h=>by cases h
 |n,(a,t)::r,p,h=>by
  rcases List.mem_cons.mp h with rfl|h
  .exact⟨bZ _,by simp,fL⟩
  .obtain⟨h1,h2,h3⟩:=Fv (n+1) r p h;exact⟨Nat.le_of_succ_le h1,dN h2 (by rw[jM];omega),cM _ h3⟩
def Ky:∀(n:Nat) (l:List (Addr×Bool)),(dU n l).length=l.length
 |_,[]=>rfl
 |n,_::r=>by simp[dU,Ky (n+1) r]
theorem SX:∀(n:Nat) (l:List (Addr×Bool)),((dU n l).map (·.it)).Nodup
 |_,[]=>List.nodup_nil
 |n,(a,t)::r=>by rw[dU,jd,List.nodup_cons];refine⟨λhm=>?_,SX (n+1) r⟩;obtain⟨p,hp,e⟩:=List.mem_map.mp hm;have:=(Fv (n+1) r p hp).1;have e':p.it=n:=e;rw[e'] at this;exact absurd this (Nat.not_succ_le_self n)
theorem KZ:∀(n:Nat) (l:List (Addr×Bool)) (p:Addr×Bool),dU n (l++[p])=dU n l++[⟨n+l.length,p.1,p.2⟩]
 |n,[],(a,t)=>rfl
 |n,(b,u)::r,p=>by
  rw[List.cons_append,dU,dU,KZ (n+1) r p,List.cons_append];have:n+1+r.length=n+(r.length+1):=by omega
  simp[this]
theorem zjr{l:List (Addr×Bool)}{Q:List Value->Shared->Prop}(hl:∀p∈l,fJ s.heap p)(h:∀h',(∀b o,s.heap.get? b=some o->h'.get? b=some o)->h'.objs.size=s.heap.objs.size+l.length->(∀p∈dU s.heap.objs.size l,cF h' p 0)->Q ((dU s.heap.objs.size l).map λp=>Value.ref p.it) { s with heap:=h' }):
 wpAny (model prog w) A (Builtin.SmallTypes.iterAll (l.map λp=>Value.ref p.1)) Q E s:=by
 unfold Builtin.SmallTypes.iterAll;refine aL ?_;refine wpAny_forIn_list _ (λrest its s'=>∃d r h',l=d++r/\rest=r.map (λp=>Value.ref p.1)/\its=((dU s.heap.objs.size d).map λp=>Value.ref p.it).toArray/\s'={ s with heap:=h' } /\
  (∀b o,s.heap.get? b=some o->h'.get? b=some o)/\h'.objs.size=s.heap.objs.size+d.length/\∀p∈dU s.heap.objs.size d,cF h' p 0) _ ?_ ?_ _ _ ?_
 .rintro x rest its s' ⟨d,r,h',rfl,hr,rfl,rfl,k1,z1,i1⟩
  cases r with
  |nil=>cases hr
  |cons p r =>
   rw[jd] at hr;injection hr with e1 e2;subst e1;refine aL (wpAny_holding (zms (s:={ s with heap:=h' }) ((hl p (by simp)).keeps k1) λh2 k2 z2 i2=>bO ?_));refine⟨d++[p],r,h2,by simp,e2,?_,rfl,λb o e=>k2 b o (k1 b o e),by rw[z2];simp;show h'.objs.size+1=_;omega,λq hq=>?_⟩
   .rw[KZ,uY];simp[z1]
   .rw[KZ] at hq;rcases mH.mp hq with hq|hq
    .exact(i1 q hq).at λo e=>k2 _ o e
    .have e:q=⟨s.heap.objs.size+d.length,p.1,p.2⟩:=by simpa using hq
     subst e;have:({ s with heap:=h' }:Shared).heap.objs.size=s.heap.objs.size+d.length:=z1;rw[<-this];exact i2
 .rintro its s' ⟨d,r,h',rfl,hr,rfl,rfl,k1,z1,i1⟩
  cases r with
  |cons p r=>cases hr
  |nil =>
   rw[List.append_nil] at *
   exact bO (by simpa using h h' k1 z1 i1)
 .exact⟨[],l,s.heap,rfl,rfl,rfl,rfl,λ_ _ e=>e,rfl,λp hp=>by cases hp⟩
theorem zkv{l:List (Addr×Bool)}(hl:l.length<=100):
 Meets (Builtin.«zip.__new__» ⟨.type "zip" :: l.map (λp=>Value.ref p.1),[]⟩) (λ_ R s=>(∀p∈l,fJ s.heap p) /\
  ∀h',IsZip h' (s.heap.objs.size+l.length+2) (s.heap.objs.size+l.length) (s.heap.objs.size+l.length+1) .none->h'.get? (s.heap.objs.size+l.length)=some (dz ((dU s.heap.objs.size l).map λp=>Value.ref p.it)) ->
   h'.get? (s.heap.objs.size+l.length+1)=some (dz ((dU s.heap.objs.size l).map λ_=>Value.none))->(∀p∈dU s.heap.objs.size l,cF h' p 0)->h'.objs.size=s.heap.objs.size+l.length+3 ->
   (∀b o,s.heap.get? b=some o->h'.get? b=some o)->R (.ok (.ret (.ref (s.heap.objs.size+l.length+2)))) { s with heap:=h' }) :=
 .of_wp λprog w A R s h=>by
  obtain⟨hl1,h⟩:=h;have line:(100:Nat)<=sizeLine:=by decide
  have hsl:=Ky s.heap.objs.size l;unfold Builtin.«zip.__new__»;refine aL ?_;unfold Builtin.SmallTypes.newClass;show wpAny _ _ (isType (.type "zip") >>= _) _ _ _;refine aL (wpAny_of_eq (a:=true) rfl ?_);show wpAny _ _ (isSubtype (.type "zip") (.type "zip") >>= _) _ _ _;refine aL (wpAny_of_eq (a:=true) sub_zip ?_);refine bO ?_;show wpAny _ _ (Builtin.SmallTypes.iterAll (l.map λp=>Value.ref p.1) >>= _) _ _ _;refine aL (zjr hl1 λh1 k1 z1 i1=>?_);show wpAny _ _ (newTuple ((dU s.heap.objs.size l).map λp=>Value.ref p.it) >>= _) _ _ _;refine aL (wpAny_newTuple ?_ (by rw[cW];omega));refine aL (wpAny_newTuple ?_ (by simp only[cW];omega));refine aL ?_;unfold Builtin.SmallTypes.newRecord;refine wpAny_newObj_type ?_ (by first|trivial|(show(_:Nat)<=_;simp;decide)|size_fits);refine bO ⟨_,rfl,?_⟩;have z2:(h1.push (dz ((dU s.heap.objs.size l).map λp=>Value.ref p.it))).objs.size=s.heap.objs.size+l.length+1:=by rw[Heap.size_push,z1]
  have z3:((h1.push (dz ((dU s.heap.objs.size l).map λp=>Value.ref p.it))).push (dz (((dU s.heap.objs.size l).map λp=>Value.ref p.it).map λ_=>Value.none))).objs.size=s.heap.objs.size+l.length+2:=by rw[Heap.size_push,z2]
  have g1:∀o,((h1.push (dz ((dU s.heap.objs.size l).map λp=>Value.ref p.it))).push (dz (((dU s.heap.objs.size l).map λp=>Value.ref p.it).map λ_=>Value.none)) |>.push o).get? (s.heap.objs.size+l.length)=some (dz ((dU s.heap.objs.size l).map λp=>Value.ref p.it)):=λo=>by rw[<-z1];exact di _ (di _ (gO _ rfl))
  have g2:∀o,((h1.push (dz ((dU s.heap.objs.size l).map λp=>Value.ref p.it))).push (dz (((dU s.heap.objs.size l).map λp=>Value.ref p.it).map λ_=>Value.none)) |>.push o).get? (s.heap.objs.size+l.length+1)=some (dz ((dU s.heap.objs.size l).map λ_=>Value.none)):=λo=>by rw[<-z2];have:=di o (gO (h1.push (dz ((dU s.heap.objs.size l).map λp=>Value.ref p.it))) (o:=dz (((dU s.heap.objs.size l).map λp=>Value.ref p.it).map λ_=>Value.none)) rfl);rw[List.map_map] at this ⊢;exact this
  have g3:((h1.push (dz ((dU s.heap.objs.size l).map λp=>Value.ref p.it))).push (dz (((dU s.heap.objs.size l).map λp=>Value.ref p.it).map λ_=>Value.none)) |>.push { cls := .type "zip",dict:=none,data := .fields #[.none,.bool false,.bool false,.ref (s.heap.objs.size+l.length),.ref (s.heap.objs.size+l.length+1)],slots:=#[] }).get? (s.heap.objs.size+l.length+2)=some { cls := .type "zip",dict:=none,data := .fields #[.none,.bool false,.bool false,.ref (s.heap.objs.size+l.length),.ref (s.heap.objs.size+l.length+1)],slots:=#[] }:=by rw[<-z3];exact gO _ rfl
  have fin:=h _ g3 (g1 _) (g2 _) (λp hp=>(i1 p hp).at λo e=>di _ (di _ (di _ e))) (by rw[Heap.size_push,z3]) λb o e=>di _ (di _ (di _ (k1 b o e)));show R (.ok (.ret (.ref ((h1.push (dz ((dU s.heap.objs.size l).map λp=>Value.ref p.it))).push (dz (((dU s.heap.objs.size l).map λp=>Value.ref p.it).map λ_=>Value.none))).objs.size))) { s with heap:=((h1.push (dz ((dU s.heap.objs.size l).map λp=>Value.ref p.it))).push (dz (((dU s.heap.objs.size l).map λp=>Value.ref p.it).map λ_=>Value.none))).push { cls := .type "zip",dict:=none,data := .fields #[.none,.bool false,.bool false,.ref h1.objs.size,.ref (h1.push (dz ((dU s.heap.objs.size l).map λp=>Value.ref p.it))).objs.size],slots:=#[] } };rw[z3,z2,z1];exact fin
end
noncomputable def rowAt{α:Type}:List (List α)->Nat->Option (List α)
 |[],_=>some []
 |xs::r,i=>(xs[i]?).bind λx=>(rowAt r i).map (x::·)
theorem U7{α:Type}:∀{xss:List (List α)} {i:Nat} {row:List α},rowAt xss i=some row->row.length=xss.length
 |[],_,_,h=>by cases h;rfl
 |xs::r,i,row,h=>by simp only[rowAt,bC,aX] at h;obtain⟨x,_,r',e,rfl⟩:=h;simp[U7 e]
theorem U6{α:Type}:∀{xss:List (List α)} {i j:Nat} {row:List α} {xs:List α} {x:α},rowAt xss i=some row->xss[j]?=some xs->row[j]?=some x->xs[i]?=some x
 |[],_,_,_,_,_,_,h,_=>by simp at h
 |ys::r,i,0,row,xs,x,h,h1,h2=>by simp only[rowAt,bC,aX] at h;obtain⟨y,e1,r',e,rfl⟩:=h;simp at h1 h2;subst h1;subst h2;exact e1
 |ys::r,i,j+1,row,xs,x,h,h1,h2=>by simp only[rowAt,bC,aX] at h;obtain⟨y,e1,r',e,rfl⟩:=h;exact U6 e (by simpa using h1) (by simpa using h2)
theorem Vz{α:Type}:∀{xss:List (List α)} {i:Nat},rowAt xss i=none->∃j,j<xss.length/\(∀(k:Nat) xs,k<j->xss[k]?=some xs->∃x,xs[i]?=some x)/\∀xs,xss[j]?=some xs->xs[i]?=none
 |[],_,h=>by cases h
 |ys::r,i,h=>by
  cases e:ys[i]? with
  |none=>exact⟨0,by simp,λk xs hk=>absurd hk (Nat.not_lt_zero _),λxs hx=>by simp at hx;subst hx;exact e⟩
  |some y =>
   have h':rowAt r i=none:=by
    cases q:rowAt r i with
    |none=>rfl
    |some z=>simp[rowAt,e,q] at h
   obtain⟨j,h1,h2,h3⟩:=Vz h';refine⟨j+1,by simp;omega,λk xs hk hx=>?_,λxs hx=>h3 xs (by simpa using hx)⟩;cases k with
   |zero=>simp at hx;subst hx;exact⟨y,e⟩
   |succ k=>exact h2 k xs (by omega) (by simpa using hx)
inductive SrcsR(K:FgA)(H:Hp):List (Addr×Bool)->List (List V)->Prop
 |nil:SrcsR K H [] []
 |tup {a:Addr} {xs:List V} {l:List (Addr×Bool)} {r:List (List V)}:dM K H a xs->SrcsR K H l r->SrcsR K H ((a,true)::l) (xs::r)
 |lst {a:Addr} {xs:List V} {l:List (Addr×Bool)} {r:List (List V)}:dI K H a xs->SrcsR K H l r->SrcsR K H ((a,false)::l) (xs::r)
noncomputable def Itz(K:FgA)(srcs:List (Addr×Bool)):It :=
 ⟨λi H=>∃xss row,SrcsR K H srcs xss/\rowAt xss i=some row,
  λi H x H'=>∃p row,x = .ref p/\H p=none/\H'=upd H p (.tup row)/\∀xss,SrcsR K H srcs xss->rowAt xss i=some row,
  λi H=>∃xss,SrcsR K H srcs xss/\rowAt xss i=none⟩
section
variable {X:Cx}{pins:List (Addr×Obj)}{σ:L2.St}{H:Hp}{s:Shared}
theorem J5(I:Inv X pins σ H s):∀{l:List (Addr×Bool)} {r r':List (List V)},SrcsR X.K H l r->SrcsR X.K H l r'->r=r'
 |_,_,_,.nil,.nil=>rfl
 |_,_,_,.tup h t,.tup h' t'=>by rw[I.tuple_inj h h',J5 I t t']
 |_,_,_,.lst h t,.lst h' t'=>by rw[I.list_inj h h',J5 I t t']
theorem Gd(I:Inv X pins σ H s):∀{l:List (Addr×Bool)} {r:List (List V)},SrcsR X.K H l r->∃us:List (List Value),us.length=l.length /\
 (∀(j:Nat) p u,l[j]?=some p->us[j]?=some u->SrcAt s.heap ⟨0,p.1,p.2⟩ u)/\(∀(i:Nat) row,rowAt r i=some row->∃jg,rowAt us i=some jg/\Vals row jg)/\∀(i:Nat),rowAt r i=none->rowAt us i=none
 |_,_,.nil=>⟨[],rfl,λj p u h=>by simp at h,λi row h=>by cases h;exact⟨[],rfl,.nil⟩,λi h=>by cases h⟩
 |_,_,@SrcsR.tup _ _ a xs l r h t=>by
  obtain⟨us,h1,h2,h3,h4⟩:=Gd I t;obtain⟨its,rv,ht,hz⟩:=I.tuple h;refine⟨its::us,by simp[h1],λj p u e1 e2=>?_,λi row e=>?_,λi e=>?_⟩
  .cases j with
   |zero=>simp at e1 e2;subst e1;subst e2;unfold SrcAt;rw[if_pos rfl];exact ht
   |succ j=>exact h2 j p u (by simpa using e1) (by simpa using e2)
  .simp only[rowAt,bC,aX] at e;obtain⟨x,e1,r',e2,rfl⟩:=e;obtain⟨w,ew,fU⟩:=rv.get e1;obtain⟨ur,e3,r3⟩:=h3 i r' e2;exact⟨w::ur,by simp[rowAt,ew,e3],.cons fU r3⟩
  .cases q:xs[i]? with
   |none=>simp[rowAt,rv.none_of q]
   |some x =>
    have e':rowAt r i=none:=by
     cases q2:rowAt r i with
     |none=>rfl
     |some z=>simp[rowAt,q,q2] at e
    obtain⟨w,ew,_⟩:=rv.get q;simp[rowAt,ew,h4 i e']
 |_,_,@SrcsR.lst _ _ a xs l r h t=>by
  obtain⟨us,h1,h2,h3,h4⟩:=Gd I t;obtain⟨its,rv,ht,hz⟩:=I.list h;refine⟨its::us,by simp[h1],λj p u e1 e2=>?_,λi row e=>?_,λi e=>?_⟩
  .cases j with
   |zero=>simp at e1 e2;subst e1;subst e2;unfold SrcAt;rw[if_neg gM];exact ht.isList
   |succ j=>exact h2 j p u (by simpa using e1) (by simpa using e2)
  .simp only[rowAt,bC,aX] at e;obtain⟨x,e1,r',e2,rfl⟩:=e;obtain⟨w,ew,fU⟩:=rv.get e1;obtain⟨ur,e3,r3⟩:=h3 i r' e2;exact⟨w::ur,by simp[rowAt,ew,e3],.cons fU r3⟩
  .cases q:xs[i]? with
   |none=>simp[rowAt,rv.none_of q]
   |some x =>
    have e':rowAt r i=none:=by
     cases q2:rowAt r i with
     |none=>rfl
     |some z=>simp[rowAt,q,q2] at e
    obtain⟨w,ew,_⟩:=rv.get q;simp[rowAt,ew,h4 i e']
def RW{a:Addr}{u:HO}(h:Rd H a u):∃o,H a=some o:=by
 rcases h with h|⟨o,h⟩
 .exact⟨_,h⟩
 .exact⟨_,h⟩
theorem k_ne(I:Inv X pins σ H s){a b:Addr}{o:Obj}(hk:X.K.lookup a=some o)(hf:kE X pins H b):a≠b:=by
 rintro rfl
 have hb:=I.ok.mod.kin a o hk;rcases hf.2.2.2.1 with z|z
 .exact I.ok.noex a o hb z
 .exact absurd (dN (dN (cJ hb) I.ok.bsz) z) (gZ _)
theorem tU(I:Inv X pins σ H s){b:Addr}(hf:kE X pins H b):∀{l:List (Addr×Bool)} {r:List (List V)},SrcsR X.K H l r->∀p∈l,p.1≠b
 |_,_,.nil,p,hp=>by cases hp
 |_,_,.tup h t,p,hp=>by
  rcases List.mem_cons.mp hp with rfl|hp
  .rcases h with h|⟨o,_,_,hk,_⟩
   .obtain⟨o,e⟩:=RW h;exact gR e hf.1
   .exact k_ne I hk hf
  .exact tU I hf t p hp
 |_,_,.lst h t,p,hp=>by
  rcases List.mem_cons.mp hp with rfl|hp
  .rcases h with h|⟨o,_,_,hk,_⟩
   .obtain⟨o,e⟩:=RW h;exact gR e hf.1
   .exact k_ne I hk hf
  .exact tU I hf t p hp
theorem JB(I:Inv X pins σ H s):∀{l:List (Addr×Bool)} {r:List (List V)},SrcsR X.K H l r->∀p∈l,fJ s.heap p
 |_,_,.nil,p,hp=>by cases hp
 |_,_,.tup h t,p,hp=>by
  rcases List.mem_cons.mp hp with rfl|hp
  .obtain⟨its,_,ht,_⟩:=I.tuple h;unfold fJ;rw[if_pos rfl];exact⟨_,ht⟩
  .exact JB I t p hp
 |_,_,.lst h t,p,hp=>by
  rcases List.mem_cons.mp hp with rfl|hp
  .obtain⟨its,_,ht,_⟩:=I.list h;unfold fJ;rw[if_neg gM];exact⟨_,ht.isList⟩
  .exact JB I t p hp
theorem Inv.turnedN{t':Nat}{h':Heap}{ch:List Addr}(I:Inv X pins σ H s)(k:∀b o,b∉ch->s.heap.get? b=some o->h'.get? b=some o)(hf:∀b∈ch,kE X pins H b):Inv X pins σ H { s with heap:=h',toks:=t' }:=by
 have oY:∀b u,H b=some u->b∉ch:=λb u e hb=>by rw[(hf b hb).1] at e;cases e
 refine I.step (g':=s.gens) (d':=s.drawn) (ch:=ch) (λb hb=>⟨(hf b hb).2.2.2.1,(hf b hb).2.1,(hf b hb).2.2.2.2.1,(hf b hb).2.2.2.2.2⟩) (λb o _ _ hc e _=>k b o hc e) (λb o _ _ hc e _=>⟨o.slots,k b o hc e⟩) (λ_ _ _ _ n=>n)
  (λb o hc e=>⟨o,k b o hc e⟩) (λ_ _ e=>e) (λ_ _ _ e=>e) (λb ps e=>⟨#[],by rw[e];simp⟩) (λm hm=>?_) (λb u e=>?_) I.bare
 .obtain⟨o,es,ep,ho,r⟩:=hm;exact⟨o,es,ep,k _ o (λhb=>(hf _ hb).2.1 rfl) ho,r⟩
 .refine(I.hok b u e).stay (λc v hc q=>k c v ?_ q) (λ_ q=>q) λ_ _ q=>q;rcases hc with rfl|hc
  .exact oY _ _ e
  .exact oY _ _ hc
theorem Inv.turnedT{t':Nat}{h':Heap}{ch:List Addr}{row:List V}{jg:List Value}(I:Inv X pins σ H s)(k:∀b o,b∉ch->s.heap.get? b=some o->h'.get? b=some o)(hf:∀b∈ch,kE X pins H b)(ht:h'.get? s.heap.objs.size=some (dz jg))(rv:Vals row jg)(hz:row.length<=sizeLine):Inv X pins σ (upd H s.heap.objs.size (.tup row)) { s with heap:=h',toks:=t' }:=by
 have oY:∀b u,H b=some u->b∉ch:=λb u e hb=>by rw[(hf b hb).1] at e;cases e
 have hn:H s.heap.objs.size=none:=I.hok.fresh (bZ _);have old:∀b o,s.heap.get? b=some o->b≠s.heap.objs.size:=λb o e=>dJ (cJ e);refine I.step (g':=s.gens) (d':=s.drawn) (ch:=ch) (λb hb=>⟨(hf b hb).2.2.2.1,(hf b hb).2.1,(hf b hb).2.2.2.2.1,(hf b hb).2.2.2.2.2⟩) (λb o _ _ hc e _=>k b o hc e) (λb o _ _ hc e _=>⟨o.slots,k b o hc e⟩)
  (λb o _ e n=>by rw[cu (old b o e)];exact n)
  (λb o hc e=>⟨o,k b o hc e⟩) (λb xs e=>by rw[cu (gR e hn)];exact e) (λb o u e=>by rw[cu (gR e hn)];exact e) (λb ps e=>⟨#[],by rw[cu (gR e hn),e];simp⟩) (λm hm=>?_) (λb u e=>?_) I.bare
 .obtain⟨o,es,ep,ho,r⟩:=hm;exact⟨o,es,ep,k _ o (λhb=>(hf _ hb).2.1 rfl) ho,r⟩
 .by_cases hb:b=s.heap.objs.size
  .subst hb;rw[fY] at e;cases e;exact⟨hz,jg,rv,⟨_,ht,rfl,_,rfl⟩⟩
  .rw[cu hb] at e;refine(I.hok b u e).stay (λc v hc q=>k c v ?_ q) (λc q=>by rw[cu (gR q hn)];exact q) λc xs q=>by rw[cu (gR q hn)];exact q
   rcases hc with rfl|hc
   .exact oY _ _ e
   .exact oY _ _ hc
end
structure xN(z TI TO:Addr)(ps:List Sub):Prop where
 TIz:TI≠z
 TOz:TO≠z
 TITO:TI≠TO
 iz:∀p∈ps,p.it≠z
 iTI:∀p∈ps,p.it≠TI
 iTO:∀p∈ps,p.it≠TO
 nd:(ps.map (·.it)).Nodup
theorem zlA{P:Program}{w:World}{K:FgA}{es:List Expr}{kk:Nat}{tp:Pos}{z TI TO:Addr}{ps:List Sub}{srcs:List (Addr×Bool)}(D:xN z TI TO ps)(gW:ps.map (λp=>(p.src,p.tup))=srcs)(hne:ps≠[])(hps:ps.length<=100):
 u6 P w K (.Tuple es kk tp) (Itz K srcs) (z::TI::TO::ps.map (·.it)) z (λi h=>IsZip h z TI TO .none/\h.get? TI=some (dz (ps.map λp=>Value.ref p.it))/\(∃ys,h.get? TO=some (dz ys)/\ys.length=ps.length)/\∀p∈ps,cF h p i) where
 mem:=fL
 obj:=λi h ⟨h1,h2,⟨ys,h3,_⟩,h4⟩ b hb=>by
  rcases List.mem_cons.mp hb with rfl|hb
  .exact⟨_,h1,λv z=>by cases z⟩
  rcases List.mem_cons.mp hb with rfl|hb
  .exact⟨_,h2,λv z=>by cases z⟩
  rcases List.mem_cons.mp hb with rfl|hb
  .exact⟨_,h3,λv z=>by cases z⟩
  obtain⟨p,hp,rfl⟩:=List.mem_map.mp hb;exact(h4 p hp).obj
 keep:=λi h h' ⟨h1,h2,⟨ys,h3,h3'⟩,h4⟩ k=>by refine⟨k z fL _ h1,k TI (by simp) _ h2,⟨ys,k TO (by simp) _ h3,h3'⟩,λp hp=>(h4 p hp).at λo e=>k _ ?_ o e⟩;exact cM _ (cM _ (cM _ (List.mem_map.mpr ⟨p,hp,rfl⟩)))
 item:=by
  intro X hP hw hK hc i pins s σ H E I hf st hg;subst hP hw hK;obtain⟨h1,h2,⟨ys,h3,h3'⟩,h4⟩:=st;obtain⟨xss,row,hS,hrow⟩:=hg;obtain⟨us,u1,u2,u3,u4⟩:=Gd I hS;obtain⟨jg,e1,rv⟩:=u3 i row hrow;have hlen:srcs.length=ps.length:=by rw[<-gW,cW]
  have fz:=hf z fL;have Df:=hf TO (by simp);have fit:∀p∈ps,kE X pins H p.it:=λp hp=>hf _ (cM _ (cM _ (cM _ (List.mem_map.mpr ⟨p,hp,rfl⟩))));have sm:∀p∈ps,(p.src,p.tup)∈srcs:=λp hp=>by rw[<-gW];exact List.mem_map.mpr ⟨p,hp,rfl⟩
  have DD:xR z TI TO ps:=⟨D.TIz,D.TOz,D.TITO,D.iz,D.iTI,D.iTO,λp hp=>tU I fz hS _ (sm p hp),λp hp=>tU I Df hS _ (sm p hp),λp hp q hq=>tU I (fit q hq) hS _ (sm p hp),D.nd⟩
  have ul:us.length=ps.length:=by rw[u1,hlen]
  have hrl:jg.length=ps.length:=by rw[U7 e1,ul]
  have hat:∀(j:Nat) p xs,ps[j]?=some p->us[j]?=some xs->SrcAt s.heap p xs:=λj p xs hp hx=>by
   have hj:srcs[j]?=some (p.src,p.tup):=by rw[<-gW,iY,hp];rfl
   exact u2 j _ xs hj hx
  refine zkk DD hne hps h1 h2 h3 h3' ul hrl h4 hat (λj xs x hx hr=>U6 e1 hx hr) λh' a1 a2 a3 a4 a5 a6=>?_;refine⟨_,rfl,wpAny_letOwnedTupleGo_zip (s:={ s with heap:=h' }) a1 λh'' b1 b2=>?_⟩;have PJ:s.heap.objs.size≠z:=Nat.ne_of_gt (cJ h1);have kp:∀c o,c∉(z::TO::ps.map (·.it))->s.heap.get? c=some o->h''.get? c=some o:=λc o hc e=>by have c1:c≠z:=λq=>hc (by simp[q]);have c2:c≠TO:=λq=>hc (by simp[q]);have c3:∀p∈ps,c≠p.it:=λp hp q=>hc (cM _ (cM _ (List.mem_map.mpr ⟨p,hp,q.symm⟩)));exact b2.extBut _ _ c1 (a6 c o c1 c2 c3 e)
  have fch:∀b∈z::TO::ps.map (·.it),kE X pins H b:=λb hb=>by
   rcases List.mem_cons.mp hb with rfl|hb
   .exact fz
   rcases List.mem_cons.mp hb with rfl|hb
   .exact Df
   exact hf b (cM _ (cM _ (cM _ hb)))
  have line:(100:Nat)<=sizeLine:=by decide
  have I1:Inv X pins σ (upd H s.heap.objs.size (.tup row)) { s with heap:=h'' }:=Inv.turnedT (t':=s.toks) I kp fch (b2.extBut _ _ PJ a4) rv (by rw[rv.length,hrl];omega);refine⟨.ref s.heap.objs.size,_,I1,rfl,⟨s.heap.objs.size,row,rfl,I.hok.fresh (bZ _),rfl,λxss' h=>by rw[J5 I h hS];exact hrow⟩,⟨b1,?_,⟨jg,b2.extBut _ _ D.TOz a2,hrl⟩,λp hp=>(a3 p hp).at λo e=>b2.extBut _ _ (D.iz p hp) e⟩,λb hb=>?_⟩
  .exact b2.extBut _ _ D.TIz (a6 _ _ D.TIz D.TITO (λp hp=>(D.iTI p hp).symm) h2)
  .have hlt:b<s.heap.objs.size:=by
    rcases List.mem_cons.mp hb with rfl|hb
    .exact cJ h1
    rcases List.mem_cons.mp hb with rfl|hb
    .exact cJ h2
    rcases List.mem_cons.mp hb with rfl|hb
    .exact cJ h3
    obtain⟨p,hp,rfl⟩:=List.mem_map.mp hb;obtain⟨o,e,_⟩:=(h4 p hp).obj;exact cJ e
   rw[cu (dJ hlt)];exact(hf b hb).1
 done:=by
  intro X hP hw hK hc i pins s σ H E I hf st hg;subst hP hw hK;obtain⟨h1,h2,⟨ys,h3,h3'⟩,h4⟩:=st;obtain⟨xss,hS,hrow⟩:=hg;obtain⟨us,u1,u2,u3,u4⟩:=Gd I hS;have e1:=u4 i hrow;obtain⟨j₀,j1,j2,j3⟩:=Vz e1;have hlen:srcs.length=ps.length:=by rw[<-gW,cW]
  have fz:=hf z fL;have Df:=hf TO (by simp);have fit:∀p∈ps,kE X pins H p.it:=λp hp=>hf _ (cM _ (cM _ (cM _ (List.mem_map.mpr ⟨p,hp,rfl⟩))));have sm:∀p∈ps,(p.src,p.tup)∈srcs:=λp hp=>by rw[<-gW];exact List.mem_map.mpr ⟨p,hp,rfl⟩
  have DD:xR z TI TO ps:=⟨D.TIz,D.TOz,D.TITO,D.iz,D.iTI,D.iTO,λp hp=>tU I fz hS _ (sm p hp),λp hp=>tU I Df hS _ (sm p hp),λp hp q hq=>tU I (fit q hq) hS _ (sm p hp),D.nd⟩
  have ul:us.length=ps.length:=by rw[u1,hlen]
  have hat:∀(j:Nat) p xs,ps[j]?=some p->us[j]?=some xs->SrcAt s.heap p xs:=λj p xs hp hx=>by
   have hj:srcs[j]?=some (p.src,p.tup):=by rw[<-gW,iY,hp];rfl
   exact u2 j _ xs hj hx
  refine zmg (I.ok.hd hc) DD hne hps h1 h2 h3 h3' ul h4 hat (by omega) j2 j3 λh' a6=>⟨rfl,?_⟩
  refine Inv.turnedN (t':=s.toks) (ch:=z::TO::ps.map (·.it)) I (λc o hc e=>a6 c o (λq=>hc (by simp[q])) (λq=>hc (by simp[q])) (λp hp q=>hc (cM _ (cM _ (List.mem_map.mpr ⟨p,hp,q.symm⟩)))) e) λb hb=>?_;rcases List.mem_cons.mp hb with rfl|hb
  .exact fz
  rcases List.mem_cons.mp hb with rfl|hb
  .exact Df
  exact hf b (cM _ (cM _ (cM _ hb)))
 self:=λ_ _ _ _ _ st h=>wpAny_pyIter_zip st.1 h
def zmS:bootBuiltins "zip" = some (.type "zip"):=by decide +kernel
theorem arity(l:List Value)(h2:2<=l.length)(h4:l.length<=4):checkTypeCall "zip" ⟨l,[]⟩=pure ()/\checkBuiltinCall "zip.__new__" ⟨.type "zip" :: l,[]⟩=pure ()/\∀obj,argsOk "object.__init__" ⟨obj::l,[]⟩:=by
 have ao:∀(k:List Value),k.length<=5->k≠[]->argsOk "object.__init__" ⟨k,[]⟩:=λk hk hn=>by
  unfold argsOk;rw[signature?_of (id := "object.__init__") (n:=['_','_','t','i','n','i','_','_']) (o:=['t','c','e','j','b','o']) (by kernel_rfl) F.owner_object];rcases k with _|⟨k1,_|⟨k2,_|⟨k3,_|⟨k4,_|⟨k5,_|⟨k6,r⟩⟩⟩⟩⟩⟩
  .exact absurd rfl hn
  .kernel_rfl
  .kernel_rfl
  .kernel_rfl
  .kernel_rfl
  .kernel_rfl
  .exact absurd hk (by simp only[jM];omega)
 rcases l with _|⟨a,_|⟨b,_|⟨c,_|⟨d,_|⟨e,r⟩⟩⟩⟩⟩
 .exact absurd h2 (by simp only[zj];omega)
 .exact absurd h2 (by simp only[jM,zj];omega)
 .exact⟨by kernel_rfl,by kernel_rfl,λo=>ao _ (by simp) (by simp)⟩
 .exact⟨by kernel_rfl,by kernel_rfl,λo=>ao _ (by simp) (by simp)⟩
 .exact⟨by kernel_rfl,by kernel_rfl,λo=>ao _ (by simp) (by simp)⟩
 .exact absurd h4 (by simp only[jM];omega)
noncomputable def Cv(K:FgA)(ta:TA):TI:=λσ H R=>ta σ H λvs H1=>∃srcs:List (Addr×Bool),vs=srcs.map (λp=>V.ref p.1)/\2<=srcs.length/\srcs.length<=4/\(∃xss,SrcsR K H1 srcs xss)/\R (Itz K srcs) H1
theorem Vd:∀{l:List (Addr×Bool)} {us:List Value},Vals (l.map λp=>V.ref p.1) us->us=l.map λp=>Value.ref p.1
 |[],_,.nil=>rfl
 |_::_,_,.cons r t=>by cases r;rw[Vd t];rfl
theorem zqu{X:Cx}{es ts:List Expr}{kk:Nat}{tp p pos:Pos}{ta:TA}{e:Expr}(hg:Gl X "zip")(hm:X.mg "zip" = none)(ha:PA X (e::es) ta)(hst:starEach (e::es) X.env=(false,eval e X.env)::starEach es X.env)(hpl:(backTo pos (starEach es X.env)).any (·.1)=false):PI X (.Tuple ts kk tp) (.Call (.Name "zip" p) (e::es) [] pos) (Cv X.K ta):=by
 intro pins s σ H R I h;refine Call_ (q9 I hg hm zmS (PyProof.Rows.callWith_type1 (bR (ha pos pins s σ H _ I h) λus s1 ⟨vs,H1,I1,r1,q1⟩=>?_) hst hpl));obtain⟨srcs,e0,h2,h4,⟨xss,hS⟩,q⟩:=q1;subst e0;have eu:=Vd r1;subst eu;obtain⟨c1,c2,c3⟩:=arity (srcs.map λp=>Value.ref p.1) (by simpa using h2) (by simpa using h4);refine callType_new F.called_zip (by decide) c1 c2 c3 F.entry_zip_new (zkv (l:=srcs) (by omega)) ⟨JB I1 hS,λh' z1 z2 z3 z4 z5 z6=>?_⟩;show _/\_;refine⟨⟨_,z1,rfl⟩,?_⟩;refine wpAny_pyIter_zip (s:={ s1 with heap:=h' }) z1 ?_;have I2:Inv X pins σ H1 { s1 with heap:=h' }:=I1.kept (t':=s1.toks) z6;have hl:(dU s1.heap.objs.size srcs).length=srcs.length:=Ky _ _;have hmap:∀(n:Nat) (l:List (Addr×Bool)),(dU n l).map (λp=>(p.src,p.tup))=l:=λn l=>by
  induction l generalizing n with
  |nil=>rfl
  |cons a r ih=>obtain⟨a,t⟩:=a;rw[dU,jd,ih]
 have lt:∀p∈dU s1.heap.objs.size srcs,s1.heap.objs.size<=p.it/\p.it<s1.heap.objs.size+srcs.length:=λp hp=>⟨(Fv _ _ p hp).1,(Fv _ _ p hp).2.1⟩
 refine⟨_,_,_,_,H1,rfl,I2,zlA (K:=X.K) (srcs:=srcs) (ps:=dU s1.heap.objs.size srcs) (z:=s1.heap.objs.size+srcs.length+2) (TI:=s1.heap.objs.size+srcs.length) (TO:=s1.heap.objs.size+srcs.length+1)
  ⟨dJ (by omega),dJ (by omega),dJ (by omega),λp hp=>dJ (dN (lt p hp).2 (by omega)),λp hp=>dJ (lt p hp).2,λp hp=>dJ (dN (lt p hp).2 (by omega)),SX _ _⟩ (hmap _ _) (λz=>by rw[z] at hl;simp at hl;omega) (by omega),⟨z1,z2,⟨_,z3,by simp⟩,z4⟩,λb hb=>?_,q⟩
 have hge:s1.heap.objs.size<=b:=by
  rcases List.mem_cons.mp hb with rfl|hb
  .omega
  rcases List.mem_cons.mp hb with rfl|hb
  .omega
  rcases List.mem_cons.mp hb with rfl|hb
  .omega
  obtain⟨p,hp,rfl⟩:=List.mem_map.mp hb;exact(lt p hp).1
 exact I1.fpOk hge (I1.hok.fresh hge)
end MZ
end
section
namespace MX
open PySem PySem.Spec PyProof.Rows L2
inductive zb where
 |fix (xs:List D)|lst (n:Nat)|zip (ds:List D)|itm (n m:Nat)|enm (n:Nat)
noncomputable def vY(S:So):D->Option (List D)
 |.tup xs=>some xs
 |.ref n=>match S[n]? with
  |some (.lst xs)=>some xs
  |some (.frz xs)=>some xs
  |_=>none
 |_=>none
noncomputable def pW(S:So):List D->Option (List (List D))
 |[]=>some []
 |d::r=>(vY S d).bind λxs=>(pW S r).map (xs::·)
noncomputable def Qz:List (List D)->Option Nat
 |[]=>none
 |[xs]=>some xs.length
 |xs::r=>(Qz r).map λn=>min xs.length n
noncomputable def dG:zb->Nat->So->Option (Option D)
 |.fix xs,i,_=>some xs[i]?
 |.lst n,i,S=>match S[n]? with
  |some (.lst xs)=>some xs[i]?
  |some (.frz xs)=>some xs[i]?
  |_=>none
 |.zip ds,i,S=>(pW S ds).map λxss=>(MZ.rowAt xss i).map D.tup
 |.itm n m,i,S=>match S[n]? with
  |some (.dct xs)=>if xs.length=m then some ((xs[i]?).map λx => .tup [kD x.1,.int x.2]) else none
  |_=>none
 |.enm n,i,S=>match S[n]? with
  |some (.lst xs)=>some ((xs[i]?).map λx => .tup [.int (i:Nat),x])
  |_=>none
noncomputable def uT:zb->So->Option Nat
 |.fix xs,_=>some xs.length
 |.lst n,S=>match S[n]? with
  |some (.lst xs)=>some xs.length
  |some (.frz xs)=>some xs.length
  |_=>none
 |.zip ds,S=>(pW S ds).bind Qz
 |.itm n m,S=>match S[n]? with
  |some (.dct xs)=>if xs.length=m then some m else none
  |_=>none
 |.enm n,S=>match S[n]? with
  |some (.lst xs)=>some xs.length
  |_=>none
noncomputable abbrev IF:=Sg->So->Option (zb×So)
def za(K:FgA)(H₀:Hp)(α₀:List Addr)(j:zb)(J:It):Prop:=∀(i:Nat) H α S,Ext K H₀ α₀ H α->aA K H α S ->
 (dG j i S=some none->J.stop i H)/\∀d,dG j i S=some (some d)->J.go i H/\∀x H',J.yld i H x H'->Same H H'/\Rep K H' α d x
noncomputable def WW(K:FgA)(f:IF):TI:=λσ H R=>∃σd S α j S',bH K H α σd σ/\aA K H α S/\f σd S=some (j,S')/\∀J H' α',aA K H' α' S'->Ext K H α H' α'->za K H' α' j J->R J H'
def SI(X:Cx)(tg e:Expr)(f:IF):Prop:=PI X tg e (WW X.K f)
noncomputable def d9(fe:EF):IF:=λσ S=>(fe σ S).bind λr=>match r.1 with
 |.tup xs=>some (.fix xs,r.2)
 |.ref n=>match r.2[n]? with
  |some (.lst _)=>some (.lst n,r.2)
  |some (.frz _)=>some (.lst n,r.2)
  |_=>none
 |_=>none
noncomputable def jt(lo:Int)(n:Nat):List D:=(List.range n).map λk => .int (lo+(k:Nat))
noncomputable def lR(fa:AF):IF:=λσ S=>(fa σ S).bind λr=>match r.1 with
 |[.int j]=>if -(2 ^ 62)<=j/\j<2 ^ 62 then some (.fix (jt 0 j.toNat),r.2) else none
 |_=>none
noncomputable def wF(fa:AF):IF:=λσ S=>(fa σ S).bind λr=>match r.1 with
 |[.int i,.int j]=>if(-(2 ^ 62)<=i/\i<2 ^ 62) /\ -(2 ^ 62)<=j/\j<2 ^ 62 then some (.fix (jt i (j - i).toNat),r.2) else none
 |_=>none
noncomputable def qI(fa:AF):IF:=λσ S=>(fa σ S).bind λr=>if 2<=r.1.length/\r.1.length<=4 then(pW r.2 r.1).map λ_=>(.zip r.1,r.2) else none
inductive jk(K:FgA)(H:Hp)(α:List Addr):List D->List (Addr×Bool)->Prop
 |nil:jk K H α [] []
 |tup {a:Addr} {xs:List D} {vs:List V} {ds:List D} {l:List (Addr×Bool)}:dM K H a vs->aG K H α xs vs->jk K H α ds l->jk K H α (.tup xs::ds) ((a,true)::l)
 |ref {a:Addr} {n:Nat} {ds:List D} {l:List (Addr×Bool)}:α[n]?=some a->jk K H α ds l->jk K H α (.ref n::ds) ((a,false)::l)
inductive jA(K:FgA)(H:Hp)(α:List Addr):List (List D)->List (List V)->Prop
 |nil:jA K H α [] []
 |cons {xs:List D} {vs:List V} {r:List (List D)} {q:List (List V)}:aG K H α xs vs->jA K H α r q->jA K H α (xs::r) (vs::q)
theorem Ac{K:FgA}{H H1:Hp}{α α1:List Addr}{S1:So}(x1:Ext K H α H1 α1)(s1:aA K H1 α1 S1):∀{ds:List D} {l:List (Addr×Bool)} {xss:List (List D)},jk K H α ds l->pW S1 ds=some xss->∃lH,MZ.SrcsR K H1 l lH/\jA K H1 α1 xss lH
 |_,_,_,.nil,e=>by cases e;exact⟨[],.nil,.nil⟩
 |_,_,_,.tup h r t,e=>by simp only[pW,vY,b8,aX] at e;obtain⟨Wz,e1,rfl⟩:=e;obtain⟨lH,h1,h2⟩:=Ac x1 s1 t e1;exact⟨_,.tup (x1.tups _ _ h) h1,.cons (r.mono x1) h2⟩
 |_,_,_,@jk.ref _ _ _ a n ds l h t,e=>by
  simp only[pW,bC,aX] at e;obtain⟨xs,e0,Wz,e1,rfl⟩:=e;obtain⟨lH,h1,h2⟩:=Ac x1 s1 t e1;have ha:=x1.pre _ _ h;simp only[vY] at e0;split at e0
  .rename_i q;cases e0;obtain⟨vs,q1,q2⟩:=s1.obj _ _ _ q ha;exact⟨_,.lst (dI.of q1) h1,.cons q2 h2⟩
  .rename_i q;cases e0;obtain⟨vs,q1,q2⟩:=s1.obj _ _ _ q ha;exact⟨_,.lst q1.sq h1,.cons q2 h2⟩
  .cases e0
theorem JV{K:FgA}{H:Hp}{α:List Addr}{i:Nat}:∀{xss:List (List D)} {lH:List (List V)},jA K H α xss lH->(MZ.rowAt xss i=none->MZ.rowAt lH i=none)/\∀row,MZ.rowAt xss i=some row->∃rH,MZ.rowAt lH i=some rH/\aG K H α row rH
 |_,_,.nil=>⟨λh=>(by cases h),λrow h=>(by cases h;exact⟨[],rfl,.nil⟩)⟩
 |_,_,@jA.cons _ _ _ xs vs r q h t=>by
  obtain⟨i1,i2⟩:=JV (i:=i) t;refine⟨λe=>?_,λrow e=>?_⟩
  .cases h1:xs[i]? with
   |none =>
    have:vs[i]?=none:=j9 (by rw[<-h.length];exact List.getElem?_eq_none_iff.mp h1);simp[MZ.rowAt,this]
   |some x =>
    have e':MZ.rowAt r i=none:=by
     cases q2:MZ.rowAt r i with
     |none=>rfl
     |some z=>simp[MZ.rowAt,h1,q2] at e
    obtain⟨v,hv,_⟩:=h.get h1;simp[MZ.rowAt,hv,i1 e']
  .simp only[MZ.rowAt,bC,aX] at e;obtain⟨x,e1,r',e2,rfl⟩:=e;obtain⟨v,hv,rv⟩:=h.get e1;obtain⟨vr,e3,r3⟩:=i2 r' e2;exact⟨v::vr,by simp[MZ.rowAt,hv,e3],.cons rv r3⟩
theorem zoT{l:List (Addr×Bool)}(h:jk K H α ds l):za K H α (.zip ds) (MZ.Itz K l):=λi H1 α1 S1 x1 s1=>by
 simp only[dG,aX];refine⟨fun⟨xss,e1,e2⟩=>?_,λd ⟨xss,e1,row,e2,e9⟩=>?_⟩
 .obtain⟨lH,h1,h2⟩:=Ac x1 s1 h e1;exact⟨lH,h1,(JV h2).1 (by simpa using e2)⟩
 .subst e9;obtain⟨lH,h1,h2⟩:=Ac x1 s1 h e1;obtain⟨rH,e3,r3⟩:=(JV h2).2 row e2;refine⟨⟨lH,rH,h1,e3⟩,λx H' y=>?_⟩;obtain⟨p,row',rfl,hp,rfl,hy⟩:=y;have:=hy lH h1;rw[e3] at this;cases this;exact⟨mz hp,.tup (dM.of fY) (r3.mono (Same.ext (mz hp)))⟩
theorem SN{K:FgA}{H:Hp}{α:List Addr}{S:So}(hs:aA K H α S):∀{ds:List D} {vs:List V} {xss:List (List D)},aG K H α ds vs->pW S ds=some xss->∃l,jk K H α ds l/\vs=l.map λp=>V.ref p.1
 |_,_,_,.nil,_=>⟨[],.nil,rfl⟩
 |_,_,_,.cons r rr,e=>by
  simp only[pW,bC,aX] at e;obtain⟨xs,e0,Wz,e1,rfl⟩:=e;obtain⟨l,h1,h2⟩:=SN hs rr e1;cases r with
  |tup h q=>exact⟨_,.tup h q h1,by rw[h2];rfl⟩
  |ref h=>exact⟨_,.ref h h1,by rw[h2];rfl⟩
  |_=>cases e0
theorem J4{K:FgA}{H:Hp}{α:List Addr}:∀{ds:List D} {l:List (Addr×Bool)},jk K H α ds l->ds.length=l.length
 |_,_,.nil=>rfl
 |_,_,.tup _ _ t=>by simp[J4 t]
 |_,_,.ref _ t=>by simp[J4 t]
section
variable {X:Cx}{tg:Expr}
theorem PI.or{t t':TI}(h:PI X tg e t)(h':PI X tg e t'):PI X tg e (λσ H R=>t σ H R\/t' σ H R):=λpins s σ H R I q=>by
 rcases q with q|q
 .exact h pins s σ H R I q
 .exact h' pins s σ H R I q
theorem zoU(h:dM K H a vs)(r:aG K H α ds vs):za K H α (.fix ds) (Qo K a):=λi H1 α1 S1 x1 s1=>by
 have h1:=x1.tups _ _ h;have r1:=r.mono x1;refine⟨λe=>?_,λd e=>?_⟩
 .have e':ds[i]?=none:=Option.some.inj e;exact⟨vs,h1,by rw[<-r.length];exact List.getElem?_eq_none_iff.mp e'⟩
 .obtain⟨v,e1,q⟩:=r1.get (Option.some.inj e);refine⟨⟨vs,v,h1,e1⟩,λx H' y=>?_⟩;obtain⟨rfl,y⟩:=y;have:=y vs h1;rw[e1] at this;cases this;exact⟨Same.refl _,q⟩
theorem R6(h:α[n]?=some a):za K H α (.lst n) (yZ K a):=λi H1 α1 S1 x1 s1=>by
 have h1:=x1.pre _ _ h;have core:∀ds,(∃vs,dI K H1 a vs/\aG K H1 α1 ds vs)->((some ds[i]?=some (none:Option D))->(yZ K a).stop i H1)/\∀d,some ds[i]?=some (some d)->(yZ K a).go i H1/\∀x H',(yZ K a).yld i H1 x H'->Same H1 H'/\Rep K H' α1 d x:=λds ⟨vs,q,r⟩=>by
  refine⟨λe=>?_,λd e=>?_⟩
  .have e':ds[i]?=none:=Option.some.inj e;exact⟨vs,q,by rw[<-r.length];exact List.getElem?_eq_none_iff.mp e'⟩
  .obtain⟨v,e1,rv⟩:=r.get (Option.some.inj e);refine⟨⟨vs,v,q,e1⟩,λx H' y=>?_⟩;obtain⟨rfl,y⟩:=y;have:=y vs q;rw[e1] at this;cases this;exact⟨Same.refl _,rv⟩
 unfold dG;cases hm:S1[n]? with
 |none=>simp only[hm];exact⟨λe=>(nomatch e),λd e=>(nomatch e)⟩
 |some o =>
  have hob:=s1.obj _ _ _ hm h1;cases o with
  |lst ds=>simp only[hm];obtain⟨vs,q,r⟩:=hob;exact core ds ⟨vs,dI.of q,r⟩
  |frz ds=>simp only[hm];obtain⟨vs,q,r⟩:=hob;exact core ds ⟨vs,q.sq,r⟩
  |ins C fs=>simp only[hm];exact⟨λe=>(nomatch e),λd e=>(nomatch e)⟩
  |dct xs=>simp only[hm];exact⟨λe=>(nomatch e),λd e=>(nomatch e)⟩
  |tbl x=>simp only[hm];exact⟨λe=>(nomatch e),λd e=>(nomatch e)⟩
theorem KN{lo:Int}:(jt lo n)[i]?=if i<n then some (.int (lo+(i:Nat))) else none:=by
 unfold jt;rw[iY];by_cases h:i<n
 .rw[if_pos h,List.getElem?_range h];rfl
 .rw[if_neg h,j9 (by simpa using h)];rfl
theorem UL{lo:Int}:za K H α (.fix (jt lo n)) (Dr lo n):=λi H1 α1 S1 x1 s1=>by
 simp only[dG];rw[KN];by_cases h:i<n
 .rw[if_pos h];refine⟨λe=>(nomatch e),λd e=>⟨h,λx H' y=>?_⟩⟩;obtain⟨rfl,rfl⟩:=y;cases e;exact⟨Same.refl _,.int _⟩
 .rw[if_neg h];exact⟨λ_=>Nat.le_of_not_lt h,λd e=>(nomatch e)⟩
theorem zpZ(he:SE X e fe):SI X tg e (d9 fe):=by
 refine PI.imp (PI.or (YH he) (zod he)) λσ H R h=>?_;obtain⟨σd,S,α,j,S',hv,hs,hf,k⟩:=h;unfold d9 at hf;simp only[bC] at hf;obtain⟨⟨d,S1⟩,e1,e2⟩:=hf;cases d with
 |tup xs =>
  cases e2;refine .inl ⟨σd,S,α,.tup xs,_,hv,hs,e1,λv H1 α1 s1 x1 r1=>?_⟩;cases r1 with
  |tup h r=>exact⟨_,rfl,⟨_,h⟩,k _ _ _ s1 x1 (zoU h r)⟩
 |ref n =>
  refine .inr ⟨σd,S,α,.ref n,S1,hv,hs,e1,λv H1 α1 s1 x1 r1=>?_⟩;cases r1 with
  |ref h =>
   refine⟨_,rfl,?_⟩;simp only at e2;cases hm:S1[n]? with
   |none=>simp[hm] at e2
   |some o =>
    have hob:=s1.obj _ _ _ hm h;cases o with
    |lst ds=>simp only[hm] at e2;cases e2;obtain⟨vs,q,r⟩:=hob;exact⟨⟨vs,dI.of q⟩,k _ _ _ s1 x1 (R6 h)⟩
    |frz ds=>simp only[hm] at e2;cases e2;obtain⟨vs,q,r⟩:=hob;exact⟨⟨vs,q.sq⟩,k _ _ _ s1 x1 (R6 h)⟩
    |ins C fs=>simp[hm] at e2
    |dct xs=>simp[hm] at e2
    |tbl x=>simp[hm] at e2
 |_=>cases e2
theorem zj4{a:Expr}(hg:Gl X "range")(hm:X.mg "range" = none)(ha:SA X [a] fa)(hst:starEach [a] X.env=[(false,eval a X.env)]):SI X tg (.Call (.Name "range" p) [a] [] pos) (lR fa):=by
 refine PI.imp (zke hg hm ha hst) λσ H R h=>?_;obtain⟨σd,S,α,j,S',hv,hs,hf,k⟩:=h;unfold lR at hf;simp only[bC] at hf;obtain⟨⟨ds,S1⟩,e1,e2⟩:=hf;refine⟨σd,S,α,ds,S1,hv,hs,e1,λvs H1 α1 s1 x1 r1=>?_⟩;split at e2
 .rename_i jj hj;simp only at hj;subst hj;split at e2
  .rename_i hb;cases e2;cases r1 with
   |cons r rr=>cases r;cases rr;exact⟨jj,rfl,hb.1,hb.2,k _ _ _ s1 x1 UL⟩
  .cases e2
 .cases e2
theorem zj3{a b:Expr}(hg:Gl X "range")(hm:X.mg "range" = none)(ha:SA X [a,b] fa)(hst:starEach [a,b] X.env=[(false,eval a X.env),(false,eval b X.env)])(hst2:starEach [b] X.env=[(false,eval b X.env)]):
 SI X tg (.Call (.Name "range" p) [a,b] [] pos) (wF fa):=by
 refine PI.imp (zkd hg hm ha hst hst2) λσ H R h=>?_;obtain⟨σd,S,α,j,S',hv,hs,hf,k⟩:=h;unfold wF at hf;simp only[bC] at hf;obtain⟨⟨ds,S1⟩,e1,e2⟩:=hf;refine⟨σd,S,α,ds,S1,hv,hs,e1,λvs H1 α1 s1 x1 r1=>?_⟩;split at e2
 .rename_i ii jj hj;simp only at hj;subst hj;split at e2
  .rename_i hb;cases e2;cases r1 with
   |cons r rr =>
    cases r;cases rr with
    |cons r rr=>cases r;cases rr;exact⟨ii,jj,rfl,⟨hb.1.1,hb.1.2,hb.2.1,hb.2.2⟩,k _ _ _ s1 x1 UL⟩
  .cases e2
 .cases e2
theorem zpY{ts:List Expr}{tp:Pos}(hg:Gl X "zip")(hm:X.mg "zip" = none)(ha:SA X (e::es) fa)(hst:starEach (e::es) X.env=(false,eval e X.env)::starEach es X.env)(hpl:(backTo pos (starEach es X.env)).any (·.1)=false):SI X (.Tuple ts kk tp) (.Call (.Name "zip" p) (e::es) [] pos) (qI fa):=by
 refine PI.imp (MZ.zqu hg hm ha hst hpl) λσ H R h=>?_;obtain⟨σd,S,α,j,S',hv,hs,hf,k⟩:=h;unfold qI at hf;simp only[bC] at hf;obtain⟨⟨ds,S1⟩,e1,e2⟩:=hf;refine⟨σd,S,α,ds,S1,hv,hs,e1,λvs H1 α1 s1 x1 r1=>?_⟩;split at e2
 .rename_i hb;simp only[aX] at e2;obtain⟨xss,e3,e4⟩:=e2;cases e4;obtain⟨l,h1,h2⟩:=SN s1 r1 e3;have hl:=J4 h1;obtain⟨lH,h3,_⟩:=Ac Ext.refl s1 h1 e3;exact⟨l,h2,by rw[<-hl];exact hb.1,by rw[<-hl];exact hb.2,⟨lH,h3⟩,k _ _ _ s1 x1 (zoT h1)⟩
 .cases e2
end
noncomputable def jN(nx:Nat->So->Option (Option D))(g:GF)(f:SF):Nat->Nat->SF
 |0,i=>λσ S=>match nx i S with
  |some none=>some (.nx,σ,S)
  |_=>none
 |k+1,i=>λσ S=>match nx i S with
  |some (some d)=>(g d σ S).bind λq=>(f q.1 q.2).bind λr=>match r.1 with
   |.nx=>jN nx g f k (i+1) r.2.1 r.2.2
   |.ct=>jN nx g f k (i+1) r.2.1 r.2.2
   |.bk=>some (.nx,r.2.1,r.2.2)
   |.rt d=>some (.rt d,r.2.1,r.2.2)
  |_=>none
noncomputable def oA(fi:IF)(g:GF)(f:SF):SF:=λσ S=>(fi σ S).bind λr=>(uT r.1 r.2).bind λn=>jN (dG r.1) g f n 0 σ r.2
theorem zpP{tg iter:Expr}{body:List Stmt}{fi:IF}{g:GF}{f:SF}(hp:PassesOwn (model X.prog X.w) X.A X.env X.xe)(hc:X.calm=true)(hi:SI X tg iter fi)(hg:SG X tg g)(hb:uJ X body f)(hfs:∀x,foldedSetIterable iter X.env x=pure x):SS X (.For tg iter body [] pos) (oA fi g f):=by
 refine PS.imp (YM hp hc hi hg hb hfs) λD σ H h=>?_;obtain⟨σd,S,α,fl,σd',S',hv,hs,hf,k⟩:=h;unfold oA at hf;simp only[bC] at hf;obtain⟨⟨j,S1⟩,e1,n,e2,e3⟩:=hf;refine⟨σd,S,α,j,S1,hv,hs,e1,λJ H1 α1 s1 x1 jr=>?_⟩;refine⟨λi m σ2 H2=>∃σd2 S2 α2,bH X.K H2 α2 σd2 σ2/\aA X.K H2 α2 S2/\Ext X.K H1 α1 H2 α2/\jN (dG j) g f m i σd2 S2=some (fl,σd',S'),⟨n,σd,S1,α1,hv.mono x1,s1,Ext.refl,e3⟩,?_⟩
 rintro i m σ2 H2 ⟨σd2,S2,α2,v2,s2,x2,e⟩
 obtain⟨o5,Pg⟩:=jr i H2 α2 S2 x2 s2;cases m with
 |zero =>
  unfold jN at e;split at e
  .rename_i hn;cases e;exact .inl ⟨o5 hn,k _ _ _ v2 s2 (x1.trans x2)⟩
  .cases e
 |succ m =>
  unfold jN at e;split at e
  .rename_i d hn;obtain⟨hgo,hy⟩:=Pg d hn;simp only[bC] at e;obtain⟨⟨σ3,S3⟩,e4,⟨Xg,σ4,S4⟩,e5,e6⟩:=e;refine .inr ⟨hgo,λσ5 H5=>∃σd5 S5 α5,bH X.K H5 α5 σd5 σ5/\aA X.K H5 α5 S5/\Ext X.K H1 α1 H5 α5/\jN (dG j) g f m (i+1) σd5 S5=some (fl,σd',S'),λσ5 H5 q=>⟨m,Nat.lt_succ_self _,q⟩,λx H3 y=>?_⟩;obtain⟨sm,rx⟩:=hy x H3 y;have x3:Ext X.K H2 α2 H3 α2:=Same.ext sm;refine⟨σd2,S2,α2,d,σ3,S3,v2.mono x3,s2.mono sm,rx,e4,λσ5 H5 α5 v5 s5 x5=>?_⟩;refine⟨σ3,S3,α5,Xg,σ4,S4,v5,s5,e5,λσ6 H6 α6 v6 s6 x6=>?_⟩;have xx:=((x2.trans x3).trans x5).trans x6;cases Xg with
   |nx=>exact⟨σ4,S4,α6,v6,s6,xx,e6⟩
   |ct=>exact⟨σ4,S4,α6,v6,s6,xx,e6⟩
   |bk=>cases e6;exact k _ _ _ v6 s6 (x1.trans xx)
   |rt d=>cases e6;exact k _ _ _ v6 s6 (x1.trans xx)
  .cases e
noncomputable def nH(src:List (Option Nat))(σ:Sg):Sg:=src.map λo=>o.bind λi=>(σ[i]?).join
theorem zlH{σd:Sg}{σ:L2.St}{src:List (Option Nat)}(h:bH K H α σd σ):bH K H α (nH src σd) (mQ src σ):=by
 refine⟨by simp[nH,mQ],λi d e=>?_⟩;unfold nH at e;rw[iY] at e;cases q:src[i]? with
 |none=>rw[q] at e;simp at e
 |some o =>
  rw[q] at e;cases o with
  |none=>simp at e
  |some j =>
   simp only[qG,b8,Option.some.injEq] at e;cases q2:σd[j]? with
   |none=>rw[q2] at e;simp at e
   |some o2 =>
    rw[q2] at e;simp at e;subst e;obtain⟨v,h1,h2⟩:=h.2 j d q2;exact⟨v,by unfold mQ;rw[iY,q];simp[h1],h2⟩
noncomputable def cZ:TF:=λ_ S=>some (true,S)
noncomputable def jx(nx:Nat->So->Option (Option D))(g:GF)(t:TF)(fe:EF):Nat->Nat->Sg->So->List D->Option (List D×So)
 |0,i,_,S,acc=>match nx i S with
  |some none=>some (acc,S)
  |_=>none
 |k+1,i,τ,S,acc=>match nx i S with
  |some (some d)=>(g d τ S).bind λq=>(t q.1 q.2).bind λb=>if b.1=true then(fe q.1 b.2).bind λr=>jx nx g t fe k (i+1) q.1 r.2 (acc++[r.1]) else jx nx g t fe k (i+1) q.1 b.2 acc
  |_=>none
noncomputable def G8(fi:IF)(g:GF)(t:TF)(fe:EF)(src:List (Option Nat)):Sg->So->Option (List D×So):=λσ S=>(fi σ S).bind λr=>(uT r.1 r.2).bind λn=>if n<=sizeLine then jx (dG r.1) g t fe n 0 (nH src σ) r.2 [] else none
noncomputable def dD(fi:IF)(g:GF)(t:TF)(fe:EF)(src:List (Option Nat)):EF:=λσ S=>(G8 fi g t fe src σ S).map λq=>(.ref q.2.length,q.2++[.lst q.1])
def uI(X:Cx)(ifs:List Expr)(t:TF):Prop:=xH X ifs (BR X.K t)
def znD:uI X [] cZ:=λpins s σ H Q I h=>zn5 pins s σ H Q I (by
 obtain⟨σd,S,α,b,S',hv,hs,hf,k⟩:=h;cases hf;exact k _ _ hs Ext.refl)
def znC{c:Expr}{t:TF}(h:ST X c t):uI X [c] t:=zn4 h
section
variable {X:Cx}{elt tg iter:Expr}{ifs:List Expr}{scope:Scope}{pos:Pos}{N':List Str}{src:List (Option Nat)}{fi:IF}{g:GF}{t:TF}{fe:EF}
theorem Sd{σd:Sg}{σ:L2.St}{Fin:List V->Hp->Prop}(hv:bH K H α σd σ)(hs:aA K H α S)(hf:G8 fi g t fe src σd S=some (ds,S'))(k:∀ys H' α',aA K H' α' S'->Ext K H α H' α'->aG K H' α' ds ys->Fin ys H'):
 WW K fi σ H λJ H1=>∃W,(∃m,W 0 m [] (mQ src σ) H1)/\Hr J (Ox K g) (BR K t) (v8 K fe) Fin W:=by
 unfold G8 at hf;simp only[bC] at hf;obtain⟨⟨j,S1⟩,e1,n,e2,e3⟩:=hf;split at e3
 .rename_i hn;refine⟨σd,S,α,j,S1,hv,hs,e1,λJ H1 α1 s1 x1 jr=>?_⟩;refine⟨λi m ys τ H2=>∃σd2 S2 α2 acc,bH K H2 α2 σd2 τ/\aA K H2 α2 S2/\Ext K H1 α1 H2 α2/\aG K H2 α2 acc ys/\acc.length+m<=sizeLine/\jx (dG j) g t fe m i σd2 S2 acc=some (ds,S'),
   ⟨n,nH src σd,S1,α1,[],zlH (hv.mono x1),s1,Ext.refl,.nil,by simpa using hn,e3⟩,?_⟩
  rintro i m ys τ H2 ⟨σd2,S2,α2,acc,v2,s2,x2,r2,hl,e⟩
  obtain⟨o5,Pg⟩:=jr i H2 α2 S2 x2 s2;cases m with
  |zero =>
   unfold jx at e;split at e
   .rename_i hn;cases e;exact .inl ⟨o5 hn,k _ _ _ s2 (x1.trans x2) r2⟩
   .cases e
  |succ m =>
   unfold jx at e;split at e
   .rename_i d hn;obtain⟨hgo,hy⟩:=Pg d hn;simp only[bC] at e;obtain⟨⟨σ3,S3⟩,e4,⟨b,S4⟩,e5,e6⟩:=e;refine .inr ⟨hgo,by rw[<-r2.length];omega,λx H3 y=>?_⟩;obtain⟨sm,rx⟩:=hy x H3 y;have x3:Ext K H2 α2 H3 α2:=Same.ext sm;refine⟨σd2,S2,α2,d,σ3,S3,v2.mono x3,s2.mono sm,rx,e4,λσ5 H5 α5 v5 s5 x5=>?_⟩;refine⟨σ3,S3,α5,b,S4,v5,s5,e5,λH6 α6 s6 x6=>?_⟩;cases b with
    |false =>
     rw[if_neg gM];rw[if_neg gM] at e6;exact⟨m,Nat.lt_succ_self _,σ3,S4,α6,acc,v5.mono x6,s6,((x2.trans x3).trans x5).trans x6,((r2.mono x3).mono x5).mono x6,by omega,e6⟩
    |true =>
     rw[if_pos rfl];rw[if_pos rfl] at e6;simp only[bC] at e6;obtain⟨⟨z,S7⟩,e7,e8⟩:=e6;refine⟨σ3,S4,α6,z,S7,v5.mono x6,s6,e7,λw H8 α8 s8 x8 r8=>?_⟩;exact⟨m,Nat.lt_succ_self _,σ3,S7,α8,acc++[z],(v5.mono x6).mono x8,s8,(((x2.trans x3).trans x5).trans x6).trans x8,((((r2.mono x3).mono x5).mono x6).mono x8).append (.cons r8 .nil),by simp;omega,e8⟩
   .cases e
 .cases e3
theorem V3(hY:∀Y,oK X scope N' Y->SG Y tg g/\uI Y ifs t/\SE Y elt fe):∀Y,oK X scope N' Y->PG Y tg (Ox X.K g)/\xH Y ifs (BR X.K t)/\PE Y elt (v8 X.K fe):=λY hy=>by obtain⟨h1,h2,h3⟩:=hY Y hy;unfold SG at h1;unfold uI at h2;unfold SE at h3;rw[hy.K] at h1 h2 h3;exact⟨h1,h2,h3⟩
theorem QF(hc:X.calm=true)(ok:qT X scope N' src)(hi:SI X tg iter fi)(hY:∀Y,oK X scope N' Y->SG Y tg g/\uI Y ifs t/\SE Y elt fe)(hfs:∀x,foldedSetIterable iter X.env x=pure x):SE X (.ListComp elt [⟨tg,iter,ifs,0⟩] scope pos) (dD fi g t fe src):=by
 refine PE.imp (Yu hc ok hi (V3 hY) hfs) λσ H Q h=>?_;obtain⟨σd,S,α,z,S',hv,hs,hf,k⟩:=h;unfold dD at hf;simp only[aX] at hf;obtain⟨⟨ds,S1⟩,e1,e2⟩:=hf;cases e2;refine Sd hv hs e1 λys H' α' s' x' r' p hp=>?_;obtain⟨s2,x2⟩:=s'.snoc (p:=p) (o := .lst ds) (u := .lst ys) hp λα'' e=>⟨_,fY,r'.mono e⟩
 exact k _ _ _ s2 (x'.trans x2) (.ref (by rw[<-s'.len];simp))
theorem zlF{py:Pos}(hN:X.N.Nodup)(Pj:X.N[i]?=some y)(hy:X.env.kindOf y=some .local)(hsw:swapsWith (.ListComp elt [⟨tg,iter,ifs,0⟩] scope pos) (some (.Name y py)) spos.line X.env=pure true)(hc:X.calm=true)(ok:qT X scope N' src)(hi:SI X tg iter fi)(hY:∀Y,oK X scope N' Y->SG Y tg g/\uI Y ifs t/\SE Y elt fe)(hfs:∀x,foldedSetIterable iter X.env x=pure x):SS X (.Assign [.Name y py] (.ListComp elt [⟨tg,iter,ifs,0⟩] scope pos) spos) (bB (dD fi g t fe src) (aK i)):=by
 refine PS.imp (zl4 hN Pj hy hsw hc ok hi (V3 hY) hfs) λD σ H h=>?_;obtain⟨σd,S,α,fl,σd',S',hv,hs,hf,k⟩:=h;unfold bB dD at hf;simp only[bC,aX] at hf;obtain⟨⟨d,S1⟩,⟨⟨ds,S2⟩,e1,e2⟩,⟨σ1,S3⟩,e3,e4⟩:=hf;cases e4;cases e3;cases e2;refine Sd hv hs e1 λys H' α' s' x' r' p hp=>?_;obtain⟨s2,x2⟩:=s'.snoc (p:=p) (o := .lst ds) (u := .lst ys) hp λα'' e=>⟨_,fY,r'.mono e⟩
 exact k _ _ _ (((hv.mono x').mono x2).set (.ref (by rw[<-s'.len];simp)) i) s2 (x'.trans x2)
end
noncomputable def jo:GN
 |[.tup xs],S=>some (.int xs.length,S)
 |[.str z],S=>if z.length<=sizeLine then some (.int z.length,S) else none
 |[.ref n],S=>match S[n]? with
  |some (.lst xs)=>some (.int xs.length,S)
  |some (.frz xs)=>some (.int xs.length,S)
  |_=>none
 |_,_=>none
noncomputable def pM:GN
 |[.int i],S=>some (.int (if i<0 then -i else i),S)
 |_,_=>none
noncomputable def mW:List D->Option (List Int)
 |[]=>some []
 |.int i::r=>(mW r).map (i::·)
 |_::_=>none
noncomputable def jB:List Int->Option Int
 |[]=>none
 |i::r=>some (r.foldl (λa b=>if b<a then b else a) i)
noncomputable def iM:List Int->Option Int
 |[]=>none
 |i::r=>some (r.foldl (λa b=>if b>a then b else a) i)
noncomputable def sH:GN
 |[.int i,.int j],S=>some (.int (if j<i then j else i),S)
 |[.ref n],S=>match S[n]? with
  |some (.lst xs)=>(mW xs).bind λns=>(jB ns).map λm=>(.int m,S)
  |_=>none
 |_,_=>none
noncomputable def pA:GN
 |[.int i,.int j],S=>some (.int (if j>i then j else i),S)
 |[.ref n],S=>match S[n]? with
  |some (.lst xs)=>(mW xs).bind λns=>(iM ns).map λm=>(.int m,S)
  |_=>none
 |_,_=>none
noncomputable def lX:GN
 |[.tup xs],S=>some (.tup xs,S)
 |[.ref n],S=>match S[n]? with
  |some (.lst xs)=>some (.tup xs,S)
  |some (.frz xs)=>some (.tup xs,S)
  |_=>none
 |_,_=>none
noncomputable def qM:GN
 |[.tup xs],S=>some (.ref S.length,S++[.lst xs])
 |[.ref n],S=>match S[n]? with
  |some (.lst xs)=>some (.ref S.length,S++[.lst xs])
  |some (.frz xs)=>some (.ref S.length,S++[.lst xs])
  |_=>none
 |_,_=>none
theorem V8:∀(r:List Int) (i:Int),r.foldl (λa b=>if b<a then b else a) i<=i/\(∀x∈r,r.foldl (λa b=>if b<a then b else a) i<=x)/\(r.foldl (λa b=>if b<a then b else a) i=i\/r.foldl (λa b=>if b<a then b else a) i∈r)
 |[],i=>⟨Int.le_refl _,λ_ h=>(nomatch h),.inl rfl⟩
 |x::r,i=>by
  obtain⟨h1,h2,h3⟩:=V8 r (if x<i then x else i);rw[List.foldl_cons];refine⟨?_,λy hy=>?_,?_⟩
  .refine Int.le_trans (by first|exact h1|(refine Int.le_trans ?_ h1;split<;>omega)) (by first|(split<;>omega)|exact Int.le_refl _)
  .rcases List.mem_cons.mp hy with rfl|hy
   .first
     |exact Int.le_trans h1 (by split<;>omega)
     |exact Int.le_trans (by split<;>omega) h1
   .exact h2 y hy
  .rcases h3 with h3|h3
   .rw[h3];split
    .exact .inr fL
    .exact .inl rfl
   .exact .inr (cM _ h3)
theorem zev:∀(r:List Int) (i:Int),i<=r.foldl (λa b=>if b>a then b else a) i/\(∀x∈r,x<=r.foldl (λa b=>if b>a then b else a) i)/\(r.foldl (λa b=>if b>a then b else a) i=i\/r.foldl (λa b=>if b>a then b else a) i∈r)
 |[],i=>⟨Int.le_refl _,λ_ h=>(nomatch h),.inl rfl⟩
 |x::r,i=>by
  obtain⟨h1,h2,h3⟩:=zev r (if x>i then x else i);rw[List.foldl_cons];refine⟨?_,λy hy=>?_,?_⟩
  .refine Int.le_trans (by first|exact h1|(refine Int.le_trans ?_ h1;split<;>omega)) (by first|(split<;>omega)|exact Int.le_refl _)
  .rcases List.mem_cons.mp hy with rfl|hy
   .first
     |exact Int.le_trans h1 (by split<;>omega)
     |exact Int.le_trans (by split<;>omega) h1
   .exact h2 y hy
  .rcases h3 with h3|h3
   .rw[h3];split
    .exact .inr fL
    .exact .inl rfl
   .exact .inr (cM _ h3)
theorem RN{m:Int}(h1:m∈ns)(h2:∀a∈ns,m<=a):jB ns=some m:=by
 cases ns with
 |nil=>cases h1
 |cons i r =>
  obtain⟨a,b,c⟩:=V8 r i;unfold jB;have l1:m<=r.foldl (λa b=>if b<a then b else a) i:=by
   rcases c with c|c
   .rw[c];exact h2 i fL
   .exact h2 _ (cM _ c)
  have l2:r.foldl (λa b=>if b<a then b else a) i<=m:=by
   rcases List.mem_cons.mp h1 with rfl|h1
   .exact a
   .exact b m h1
  exact congrArg some (Int.le_antisymm l2 l1)
theorem Fd{m:Int}(h1:m∈ns)(h2:∀a∈ns,a<=m):iM ns=some m:=by
 cases ns with
 |nil=>cases h1
 |cons i r =>
  obtain⟨a,b,c⟩:=zev r i;unfold iM;have l1:r.foldl (λa b=>if b>a then b else a) i<=m:=by
   rcases c with c|c
   .rw[c];exact h2 i fL
   .exact h2 _ (cM _ c)
  have l2:m<=r.foldl (λa b=>if b>a then b else a) i:=by
   rcases List.mem_cons.mp h1 with rfl|h1
   .exact a
   .exact b m h1
  exact congrArg some (Int.le_antisymm l1 l2)
theorem vK{K:FgA}{H:Hp}{α:List Addr}:∀{ds:List D} {vs:List V} {us:List Value} {ns:List Int},aG K H α ds vs->Vals vs us->mW ds=some ns->IntsAre us ns
 |_,_,_,_,.nil,.nil,e=>by cases e;exact .nil
 |_,_,_,_,.cons r rr,.cons rv rvs,e=>by
  cases r with
  |int i =>
   simp only[mW,aX] at e;obtain⟨ms,e1,rfl⟩:=e;obtain⟨t,rfl⟩:=rv;exact .cons _ _ (vK rr rvs e1)
  |_=>cases e
theorem aG.inv1(r:aG K H α [d] vs):∃v,vs=[v]/\Rep K H α d v:=by
 cases r with
 |cons r rr=>cases rr;exact⟨_,rfl,r⟩
theorem aG.inv2{e:D}(r:aG K H α [d,e] vs):∃v u,vs=[v,u]/\Rep K H α d v/\Rep K H α e u:=by
 cases r with
 |cons r rr =>
  obtain⟨u,rfl,q⟩:=rr.inv1;exact⟨_,_,rfl,r,q⟩
theorem nP{xs:List D}(hs:aA K H α S)(ha:α[n]?=some a)(h:S[n]?=some (.lst xs)\/S[n]?=some (.frz xs)):∃vs,dI K H a vs/\aG K H α xs vs:=by
 rcases h with h|h
 .obtain⟨vs,q,r⟩:=hs.obj _ _ _ h ha;exact⟨vs,dI.of q,r⟩
 .obtain⟨vs,q,r⟩:=hs.obj _ _ _ h ha;exact⟨vs,q.sq,r⟩
section
variable {X:Cx}
theorem XR:iR X (.builtin "len") (jQ X.K jo):=by
 intro pins s σ H vs us Q I rv h;obtain⟨S,α,ds,z,S',hs,r,hg,k⟩:=h;unfold jo at hg;split at hg
 .cases hg;obtain⟨v,rfl,r0⟩:=r.inv1;cases r0 with
  |tup h r1=>exact V6 pins s σ H _ us Q I rv ⟨_,_,rfl,.inr h,by rw[<-r1.length];exact k.same hs (.int _)⟩
 .split at hg
  .rename_i hl;cases hg;obtain⟨v,rfl,r0⟩:=r.inv1;cases r0;exact zhu pins s σ H _ us Q I rv ⟨_,rfl,hl,k.same hs (.int _)⟩
  .cases hg
 .obtain⟨v,rfl,r0⟩:=r.inv1;cases r0 with
  |@ref n a ha =>
   have core:∀xs,(∃vs,dI X.K H a vs/\aG X.K H α xs vs)->some (D.int (xs.length:Int),S)=some (z,S')->wpAny (model X.prog X.w) X.A (call (.builtin "len") us) (EP X pins σ Q) X.xe s:=λxs ⟨vs,q,r⟩ e=>by cases e;exact V6 pins s σ H _ us Q I rv ⟨_,_,rfl,.inl q,by rw[<-r.length];exact k.same hs (.int _)⟩
   split at hg
   .rename_i e;exact core _ (nP hs ha (.inl e)) hg
   .rename_i e;exact core _ (nP hs ha (.inr e)) hg
   .cases hg
 .cases hg
theorem XJ:iR X (.builtin "abs") (jQ X.K pM):=by
 intro pins s σ H vs us Q I rv h;obtain⟨S,α,ds,z,S',hs,r,hg,k⟩:=h;unfold pM at hg;split at hg
 .cases hg;obtain⟨v,rfl,r0⟩:=r.inv1;cases r0;exact zmP pins s σ H _ us Q I rv ⟨_,rfl,k.same hs (.int _)⟩
 .cases hg
theorem X3(hc:X.calm=true):iR X (.builtin "min") (jQ X.K sH):=by
 intro pins s σ H vs us Q I rv h;obtain⟨S,α,ds,z,S',hs,r,hg,k⟩:=h;unfold sH at hg;split at hg
 .cases hg;obtain⟨v,u,rfl,r1,r2⟩:=r.inv2;cases r1;cases r2;exact zll hc pins s σ H _ us Q I rv ⟨_,_,rfl,k.same hs (.int _)⟩
 .obtain⟨v,rfl,r0⟩:=r.inv1;cases r0 with
  |@ref n a ha =>
   split at hg
   .rename_i e;simp only[bC,aX] at hg;obtain⟨ns,e1,m,e2,e3⟩:=hg;cases e3;obtain⟨ws,q,r⟩:=nP hs ha (.inl e);obtain⟨u,rfl,ru⟩:=pX rv;cases ru;obtain⟨its,rr,pl,hz⟩:=I.list q;have hi:=vK r rr e1;have hne:0<ns.length:=by
     cases ns with
     |nil=>cases e2
     |cons _ _=>simp
    obtain⟨xs,hxs⟩:=hi.allInts.items;have hn:=hi.numsOf;have hnn:numsOf (intItems xs).toList=ns:=by rw[<-hxs];simpa using hn
    rw[nums_intItems] at hnn;have hsz:0<xs.size:=by have:=congrArg List.length hnn;simp at this;omega
    have hl':s.heap.IsList a (intItems xs):=by rw[<-hxs];exact pl.isList
    refine min_intList (I.ok.hd hc) hl' hsz λv h' tk hv hk=>?_;obtain⟨t,rfl⟩:=intItems_at hv;obtain⟨h1,h2⟩:=argBest_lt (numAt xs) (xs.size - 1);have hm:jB ns=some (numAt xs (argBest (λi j=>decide (numAt xs i<numAt xs j)) (xs.size - 1))):=by
     refine RN ?_ λb hb=>?_
     .rw[<-hnn,numAt_eq];exact getD_mem (by rw[cW,Array.length_toList];omega)
     .rw[<-hnn] at hb;obtain⟨j,hj,rfl⟩:=mem_getD hb;rw[cW,Array.length_toList] at hj;rw[<-numAt_eq];exact h2 j (by omega)
    rw[e2] at hm;cases hm;exact⟨.int _,H,I.kept hk,⟨t,rfl⟩,k.same hs (.int _)⟩
   .cases hg
 .cases hg
theorem XS(hc:X.calm=true):iR X (.builtin "max") (jQ X.K pA):=by
 intro pins s σ H vs us Q I rv h;obtain⟨S,α,ds,z,S',hs,r,hg,k⟩:=h;unfold pA at hg;split at hg
 .cases hg;obtain⟨v,u,rfl,r1,r2⟩:=r.inv2;cases r1;cases r2;exact zlm hc pins s σ H _ us Q I rv ⟨_,_,rfl,k.same hs (.int _)⟩
 .obtain⟨v,rfl,r0⟩:=r.inv1;cases r0 with
  |@ref n a ha =>
   split at hg
   .rename_i e;simp only[bC,aX] at hg;obtain⟨ns,e1,m,e2,e3⟩:=hg;cases e3;obtain⟨ws,q,r⟩:=nP hs ha (.inl e);obtain⟨u,rfl,ru⟩:=pX rv;cases ru;obtain⟨its,rr,pl,hz⟩:=I.list q;have hi:=vK r rr e1;have hne:0<ns.length:=by
     cases ns with
     |nil=>cases e2
     |cons _ _=>simp
    obtain⟨xs,hxs⟩:=hi.allInts.items;have hn:=hi.numsOf;have hnn:numsOf (intItems xs).toList=ns:=by rw[<-hxs];simpa using hn
    rw[nums_intItems] at hnn;have hsz:0<xs.size:=by have:=congrArg List.length hnn;simp at this;omega
    have hl':s.heap.IsList a (intItems xs):=by rw[<-hxs];exact pl.isList
    refine max_intList (I.ok.hd hc) hl' hsz λv h' tk hv hk=>?_;obtain⟨t,rfl⟩:=intItems_at hv;obtain⟨h1,h2⟩:=argBest_gt (numAt xs) (xs.size - 1);have hm:iM ns=some (numAt xs (argBest (λi j=>decide (numAt xs i>numAt xs j)) (xs.size - 1))):=by
     refine Fd ?_ λb hb=>?_
     .rw[<-hnn,numAt_eq];exact getD_mem (by rw[cW,Array.length_toList];omega)
     .rw[<-hnn] at hb;obtain⟨j,hj,rfl⟩:=mem_getD hb;rw[cW,Array.length_toList] at hj;rw[<-numAt_eq];exact h2 j (by omega)
    rw[e2] at hm;cases hm;exact⟨.int _,H,I.kept hk,⟨t,rfl⟩,k.same hs (.int _)⟩
   .cases hg
 .cases hg
theorem zmQ:iR X (.type "tuple") (jQ X.K lX):=by
 intro pins s σ H vs us Q I rv h;obtain⟨S,α,ds,z,S',hs,r,hg,k⟩:=h;unfold lX at hg;split at hg
 .cases hg;obtain⟨v,rfl,r0⟩:=r.inv1;cases r0 with
  |tup h r1=>exact Wq pins s σ H _ us Q I rv ⟨_,_,rfl,.inr ⟨h,k.same hs (.tup h r1)⟩⟩
 .obtain⟨v,rfl,r0⟩:=r.inv1;cases r0 with
  |@ref n a ha =>
   have core:∀xs,(∃vs,dI X.K H a vs/\aG X.K H α xs vs)->some (D.tup xs,S)=some (z,S')->wpAny (model X.prog X.w) X.A (call (.type "tuple") us) (EP X pins σ Q) X.xe s:=λxs ⟨vs,q,r⟩ e=>by cases e;exact Wq pins s σ H _ us Q I rv ⟨_,_,rfl,.inl ⟨q,λp hp=>k.new hs (mz hp) (.tup (dM.of fY) (r.mono (Same.ext (mz hp))))⟩⟩
   split at hg
   .rename_i e;exact core _ (nP hs ha (.inl e)) hg
   .rename_i e;exact core _ (nP hs ha (.inr e)) hg
   .cases hg
 .cases hg
theorem zpj:iR X (.type "list") (jQ X.K qM):=by
 intro pins s σ H vs us Q I rv h;obtain⟨S,α,ds,z,S',hs,r,hg,k⟩:=h;have fin:∀(xs:List D) (vs:List V) (p:Addr),aG X.K H α xs vs->H p=none->some (D.ref S.length,S++[O.lst xs])=some (z,S')->Q (.ref p) (upd H p (.lst vs)):=λxs vs p r hp e=>by
  cases e;obtain⟨s2,x2⟩:=hs.snoc (p:=p) (o := .lst xs) (u := .lst vs) hp λα'' e=>⟨_,fY,r.mono e⟩
  exact k _ _ _ s2 x2 (.ref (by rw[<-hs.len];simp))
 unfold qM at hg;split at hg
 .obtain⟨v,rfl,r0⟩:=r.inv1;cases r0 with
  |tup h r1=>exact V7 pins s σ H _ us Q I rv ⟨_,_,rfl,.inr h,λp hp=>fin _ _ p r1 hp hg⟩
 .obtain⟨v,rfl,r0⟩:=r.inv1;cases r0 with
  |@ref n a ha =>
   have core:∀xs,(∃vs,dI X.K H a vs/\aG X.K H α xs vs)->some (D.ref S.length,S++[O.lst xs])=some (z,S')->wpAny (model X.prog X.w) X.A (call (.type "list") us) (EP X pins σ Q) X.xe s:=λxs ⟨vs,q,r⟩ e =>
    V7 pins s σ H _ us Q I rv ⟨_,_,rfl,.inl q,λp hp=>fin _ _ p r hp e⟩
   split at hg
   .rename_i e;exact core _ (nP hs ha (.inl e)) hg
   .rename_i e;exact core _ (nP hs ha (.inr e)) hg
   .cases hg
 .cases hg
end
noncomputable def wz(a b:String):Option Bool:=PySem.W.kitOne default (.type a) (.type b)
def R5{a b:String}:PySem.W.kitOne K (.type a) (.type b)=wz a b:=by unfold wz PySem.W.kitOne PySem.W.kitCls PySem.W.subIn;rfl
noncomputable def N7:D->So->Option String
 |.non,_=>some "NoneType"
 |.bl _,_=>some "bool"
 |.int _,_=>some "int"
 |.str _,_=>some "str"
 |.tup _,_=>some "tuple"
 |.ref n,S=>match S[n]? with
  |some (.lst _)=>some "list"
  |_=>none
 |_,_=>none
noncomputable def wM:GN
 |[d,.ty T],S=>(N7 d S).bind λt=>(wz t T).map λb=>(.bl b,S)
 |_,_=>none
theorem Z2{v:V}{t:String}(hs:aA K H α S)(r:Rep K H α d v)(e:N7 d S=some t):(∃b vs,v = .ref b/\dM K H b vs/\t = "tuple")\/mJ K H v (.type t):=by
 cases r with
 |non=>cases e;exact .inr .non
 |bl b=>cases e;exact .inr (.bl b)
 |int i=>cases e;exact .inr (.int i)
 |str x=>cases e;exact .inr (.str x)
 |tup h r=>cases e;exact .inl ⟨_,_,rfl,h,rfl⟩
 |@ref n a ha =>
  simp only[N7] at e;split at e
  .rename_i q;cases e;obtain⟨vs,h,_⟩:=hs.obj _ _ _ q ha;exact .inr (.lst h)
  .cases e
 |ty n=>cases e
 |adr a=>cases e
 |obj _ _ _ _ _=>cases e
theorem XQ:iR X (.builtin "isinstance") (jQ X.K wM):=by
 intro pins s σ H vs us Q I rv h;obtain⟨S,α,ds,z,S',hs,r,hg,k⟩:=h;unfold wM at hg;split at hg
 .simp only[bC,aX] at hg;obtain⟨t,e1,b,e2,e3⟩:=hg;cases e3;obtain⟨v,u,rfl,r1,r2⟩:=r.inv2;cases r2 with
  |ty T =>
   obtain⟨u1,u2,rfl,q1,q2⟩:=HW rv;cases q2;rcases Z2 hs r1 e1 with⟨a,ws,rfl,h,rfl⟩|ty
   .cases q1;obtain⟨its,_,⟨o,h1,h2,_⟩,_⟩:=I.tuple h;exact PySem.W.kia_one PySem.W.kitx_tuple I.kIn ⟨o,h1,h2⟩ (by rw[R5];exact e2) (λz=>nomatch z) λtk=>⟨.bl b,H,I.tok _,rfl,k.same hs (.bl _)⟩
   .exact zkH I q1 ty (by rw[R5];exact e2) λtk=>⟨.bl b,H,I.tok _,rfl,k.same hs (.bl _)⟩
 .cases hg
noncomputable abbrev PF:=Sg->So->Option (Option Int×So)
noncomputable def kY:PF:=λ_ S=>some (none,S)
noncomputable def jP(fe:EF):PF:=λσ S=>(fe σ S).bind λr=>match r.1 with
 |.int i=>some (some i,r.2)
 |_=>none
noncomputable def jU(xs:List D)(lo hi:Option Int):List D:=(xs.drop (HT.sIx xs.length 0 lo)).take (HT.sIx xs.length xs.length hi - HT.sIx xs.length 0 lo)
noncomputable def uz:D->Option Int->Option Int->So->Option (D×So)
 |.tup xs,lo,hi,S=>if ¬(HT.sIx xs.length 0 lo=0/\HT.sIx xs.length xs.length hi=xs.length) then some (.tup (jU xs lo hi),S) else some (.tup xs,S)
 |.ref n,lo,hi,S=>match S[n]? with
  |some (.lst xs)=>some (.ref S.length,S++[.lst (jU xs lo hi)])
  |some (.frz xs)=>some (.ref S.length,S++[.lst (jU xs lo hi)])
  |_=>none
 |_,_,_,_=>none
noncomputable def jR(fe:EF)(fl fh:PF):EF:=λσ S=>(fe σ S).bind λr=>(fl σ r.2).bind λl=>(fh σ l.2).bind λh=>uz r.1 l.1 h.1 h.2
noncomputable def rdP(K:FgA)(f:PF):TO:=λσ H Q=>∃σd S α p S',bH K H α σd σ/\aA K H α S/\f σd S=some (p,S')/\∀H' α',aA K H' α' S'->Ext K H α H' α'->Q p H'
def Dl(X:Cx)(e:Option Expr)(f:PF):Prop:=PO X e (rdP X.K f)
theorem Ud{lo hi:Option Int}(r:aG K H α ds vs):aG K H α (jU ds lo hi) (qH vs lo hi):=by unfold jU qH;rw[r.length];exact(r.drop _).take _
theorem zjJ{t sl:Addr}{items:Array Value}{vl vu:Value}{lo hi:Option Int}(ht:IsTup s.heap t items)(hs:s.heap.IsSliceOf sl vl vu .none)(pl:IsPart vl lo)(pu:IsPart vu hi)(hw:HT.sIx items.size 0 lo=0/\HT.sIx items.size items.size hi=items.size)(h:Q (.ref t) s):wpAny (model prog w) A (getItem (.ref t) (.ref sl)) Q E s:=by
 obtain⟨os,hos,hcs,hds⟩:=id hs;have hTs:s.TypeIs (.ref sl) "slice" := ⟨os,hos,hcs⟩
 unfold getItem
 try with_reducible refine wpAny_holding ?_
 first|refine aL (bO ?_)|skip
 refine aL (wpAny_sequenceKey ht.typeIs (by decide) ?_);refine aL (wpAny_callSpecial?_slot (name:=Str.ofString "__getitem__") ht.typeIs PyProof.Rows.slot_tuple_getitem
  (wpAny_call_entry PyProof.Rows.slot_tuple_getitem ht.typeIs entry_tuple_getitem ?_ (args_tuple_getitem _ _)))
 show wpAny _ _ (Builtin.Tuple.tupleItemsOf (.ref t) >>= _) _ _ s;refine aL (tupleItemsOf_ ht ?_);refine aL (wpAny_typeOf hTs ?_);rw[if_pos (by decide)];refine aL (HT.zcW hs pl pu ?_);show wpAny _ _ (if(((HT.sIx items.size 0 lo:Nat):Int)==0&&(1:Int)==1&&(HT.sIx items.size items.size hi - HT.sIx items.size 0 lo)==items.size)=true then _ else _) _ _ s;rw[hw.1,hw.2,if_pos (by simp)];obtain⟨o,e1,e2,n,e3⟩:=id ht;have ex:∀{A:Around} {E:Value->Shared->Prop} {Q:Bool->Shared->Prop},Q true s->wpAny (model prog w) A (Builtin.Tuple.tupleIsExact (.ref t)) Q E s:=λ{A E Q} q=>by unfold Builtin.Tuple.tupleIsExact;refine aL (wpAny_typeOf ht.typeIs ?_);exact bO q
 refine aL (ex ?_);rw[if_pos rfl];exact aL (wpAny_rule (bO ⟨_,rfl,bO h⟩))
noncomputable def BX(K:FgA):V->Option Int->Option Int->Hp->VK->Prop:=λx lo hi H Q=>∃a xs,x = .ref a/\dM K H a xs/\(HT.sIx xs.length 0 lo=0/\HT.sIx xs.length xs.length hi=xs.length)/\Q (.ref a) H
theorem znP:qD X (BX X.K):=by
 intro pins s σ H x v vl vu lo hi sl Q I rx hs pl pu h;obtain⟨a,xs,rfl,hx,hw,q⟩:=h;cases rx;obtain⟨its,r,ht,hz⟩:=I.tuple hx;have hlen:its.toArray.size=xs.length:=by rw[d7];exact r.length.symm
 refine⟨"tuple",_,PyProof.Rows.slot_tuple_getitem.lookup,ht.typeIs,?_⟩;exact zjJ ht hs pl pu (by rw[hlen];exact hw) ⟨.ref a,H,I,rfl,q⟩
section
variable {X:Cx}{e:Expr}{fe:EF}{lo hi:Option Expr}{fl fh:PF}{pos p2:Pos}
def znM:Dl X none kY:=λpins s σ H Q I h=>zoc pins s σ H Q I (by
 obtain⟨σd,S,α,p,S',hv,hs,hf,k⟩:=h;cases hf;exact k _ _ hs Ext.refl)
theorem znK(he:SE X e fe):Dl X (some e) (jP fe):=λpins s σ H Q I h=>zob he pins s σ H Q I (by
 obtain⟨σd,S,α,p,S',hv,hs,hf,k⟩:=h;unfold jP at hf;simp only[bC] at hf;obtain⟨⟨d,S1⟩,e1,e2⟩:=hf;refine⟨σd,S,α,d,S1,hv,hs,e1,λv H1 α1 s1 x1 r1=>?_⟩;cases r1 with
 |int i=>cases e2;exact⟨i,rfl,k _ _ s1 x1⟩
 |_=>cases e2)
theorem zlU(he:SE X e fe)(hl:Dl X lo fl)(hh:Dl X hi fh):SE X (.Subscript e (.Slice lo hi none p2) pos) (jR fe fl fh):=by
 refine PE.imp (zmb (qD.or (qD.or zpW znP) znQ) he hl hh) λσ H Q h=>?_;obtain⟨σd,S,α,z,S',hv,hs,hf,k⟩:=h;unfold jR at hf;simp only[bC] at hf;obtain⟨⟨d,S1⟩,e1,⟨l,S2⟩,e2,⟨u,S3⟩,e3,e4⟩:=hf;refine⟨σd,S,α,d,S1,hv,hs,e1,λv H1 α1 s1 x1 r1=>⟨σd,S1,α1,l,S2,hv.mono x1,s1,e2,λH2 α2 s2 x2=>⟨σd,S2,α2,u,S3,(hv.mono x1).mono x2,s2,e3,λH3 α3 s3 x3=>?_⟩⟩⟩;have r3:=(r1.mono x2).mono x3;have k3:=k.trans ((x1.trans x2).trans x3);simp only at e4;cases r3 with
 |tup h r =>
  simp only[uz] at e4;split at e4
  .rename_i hc;cases e4;refine .inl (.inl ⟨_,_,rfl,h,by rw[<-r.length];exact hc,λp hp=>?_⟩);exact k3.new s3 (mz hp) (.tup (dM.of fY) ((Ud r).mono (Same.ext (mz hp))))
  .rename_i hc;cases e4;refine .inl (.inr ⟨_,_,rfl,h,by rw[<-r.length];exact Decidable.not_not.mp hc,?_⟩);exact k3 _ _ _ s3 Ext.refl (.tup h r)
 |@ref n a ha =>
  simp only[uz] at e4;have core:∀xs,(∃vs,dI X.K H3 a vs/\aG X.K H3 α3 xs vs)->some (D.ref S3.length,S3++[O.lst (jU xs l u)])=some (z,S')->(BZ X.K (.ref a) l u H3 Q\/BX X.K (.ref a) l u H3 Q)\/Ca X.K (.ref a) l u H3 Q:=λxs ⟨vs,q,r⟩ e=>by
   cases e;refine .inr ⟨_,_,rfl,q,λp hp=>?_⟩;obtain⟨s4,x4⟩:=s3.snoc (p:=p) (o := .lst (jU xs l u)) (u := .lst (qH vs l u)) hp λα'' e=>⟨_,fY,(Ud r).mono e⟩
   exact k3 _ _ _ s4 x4 (.ref (by rw[<-s3.len];simp))
  split at e4
  .rename_i q;exact core _ (nP s3 ha (.inl q)) e4
  .rename_i q;exact core _ (nP s3 ha (.inr q)) e4
  .cases e4
 |_=>cases e4
end
noncomputable abbrev GM:=D->List D->So->Option (D×So)
noncomputable def v7(K:FgA)(g:GM):V->List V->Hp->VK->Prop:=λv vs H Q=>∃S α d ds z S',aA K H α S/\Rep K H α d v/\aG K H α ds vs/\g d ds S=some (z,S')/\Kt K H α z S' Q
noncomputable def vo:GM
 |.ref n,[d],S=>match S[n]? with
  |some (.lst xs)=>if xs.length<sizeLine then some (.non,S.set n (.lst (xs++[d]))) else none
  |_=>none
 |_,_,_=>none
theorem zkr:sX X "list.append" (v7 X.K vo):=by
 intro pins s σ H v vs vv us Q I rv rs h;obtain⟨S,α,d,ds,z,S',hs,r,rr,hg,k⟩:=h;unfold vo at hg;split at hg
 .cases r with
  |ref ha =>
   split at hg
   .rename_i e;split at hg
    .rename_i hl;cases hg;obtain⟨w,rfl,fU⟩:=rr.inv1;obtain⟨ws,q,r⟩:=hs.obj _ _ _ e ha;refine zko pins s σ H _ _ _ us Q I rv rs ⟨_,_,_,rfl,rfl,q,by rw[<-r.length];exact hl,?_⟩;obtain⟨s2,x2⟩:=hs.put (o := .lst (_++[_])) (u := .lst (ws++[w])) e rfl rfl ha q (.inl ⟨_,rfl⟩) λx=>⟨_,fY,(r.append (.cons fU .nil)).mono x⟩
     exact k _ _ _ s2 x2 .non
    .cases hg
   .cases hg
 .cases hg
noncomputable def eM(g:GM)(fo:EF)(fa:AF):EF:=λσ S=>(fo σ S).bind λr=>match r.1 with
 |.ref n=>match r.2[n]? with
  |some (.lst _)=>(fa σ r.2).bind λq=>g r.1 q.1 q.2
  |_=>none
 |_=>none
theorem Xv{o:Expr}{fo:EF}{g:GM}{id:String}{apos:Pos}(slot:Slot "list" name id)(hty:typeOf (.builtin id)=pure (.type "method_descriptor"))(hm:sX X id (v7 X.K g))(ho:SE X o fo)(ha:SA X (e::es) fa)(hbase:attributeBase o name X.env (eval o X.env)=eval o X.env)(hfew:((backTo cpos (starEach (e::es) X.env)).all (λx => !x.1)&&(backToKw cpos (keywordEach [] X.env)).all (λx=>x.1.isSome)
  && decide ((e::es).length+([]:List Keyword).length+(if([]:List Keyword).isEmpty then 0 else 1)<30))=true)(hline:(apos.endLine==cpos.line)=true)(hst:starEach (e::es) X.env=(false,eval e X.env)::starEach es X.env)(hplain:(backTo cpos (starEach es X.env)).any (·.1)=false):
 SE X (.Call (.Attribute o name apos) (e::es) [] cpos) (eM g fo fa):=by
 refine PE.imp (Ys PySem.F.plainAttrs_list slot hty hm ho ha hbase hfew hline hst hplain) λσ H Q h=>?_;obtain⟨σd,S,α,z,S',hv,hs,hf,k⟩:=h;unfold eM at hf;simp only[bC] at hf;obtain⟨⟨d,S1⟩,e1,e2⟩:=hf;refine⟨σd,S,α,d,S1,hv,hs,e1,λv H1 α1 s1 x1 r1=>?_⟩;simp only at e2;split at e2
 .rename_i n;split at e2
  .rename_i xs q;simp only[bC] at e2;obtain⟨⟨ds,S2⟩,e3,e4⟩:=e2;cases r1 with
   |ref ha =>
    obtain⟨ws,hw,_⟩:=s1.obj _ _ _ q ha;refine⟨.inl ⟨rfl,_,dI.of hw⟩,σd,S1,α1,ds,S2,hv.mono x1,s1,e3,λvs H2 α2 s2 x2 r2=>?_⟩;exact⟨S2,α2,_,ds,z,S',s2,.ref (x2.pre _ _ ha),r2,e4,k.trans (x1.trans x2)⟩
  .cases e2
 .cases e2
noncomputable def zA:List D->Option (List Bool)
 |[]=>some []
 |.bl b::r=>(zA r).map (b::·)
 |_::_=>none
theorem V1{K:FgA}{H:Hp}{α:List Addr}:∀{ds:List D} {vs:List V} {us:List Value} {bs:List Bool},aG K H α ds vs->Vals vs us->zA ds=some bs->LSm.BoolsAre us bs
 |_,_,_,_,.nil,.nil,e=>by cases e;exact .nil
 |_,_,_,_,.cons r rr,.cons rv rvs,e=>by
  cases r with
  |bl b =>
   simp only[zA,aX] at e;obtain⟨ms,e1,rfl⟩:=e;cases rv;exact .cons _ (V1 rr rvs e1)
  |_=>cases e
noncomputable def nq:GN
 |[.ref n],S=>match S[n]? with
  |some (.lst xs)=>(zA xs).map λbs=>(.bl (bs.all id),S)
  |_=>none
 |_,_=>none
section
variable {X:Cx}
theorem zjC{vs:List Value}{bs:List Bool}(hh:A.handled=none)(hl:s.heap.IsList l vs.toArray)(hb:LSm.BoolsAre vs bs)(h:∀h' tk,(∀b x,s.heap.get? b=some x->h'.get? b=some x)->Q (.bool (bs.all id)) { s with heap:=h',toks:=tk }):wpAny (model prog w) A (call (.builtin "all") [.ref l]) Q E s:=by
 have hlt:l<s.heap.objs.size:=by obtain⟨_,e,_⟩:=hl;exact cJ e
 refine call_all_walk (wpAny_pyIter_list hl ?_);refine⟨s.heap.objs.size,[s.heap.objs.size,l],[s.heap.objs.size],vs.toArray.size,_,_,λi=>(bs[i]?).getD true,rfl,Walks.list (A:=A.in1) hh _ l (dJ hlt) vs.toArray,
  ⟨⟨_,gO _ rfl,rfl,rfl⟩,hl.push _⟩,λi v s' Q' E' hP hQ=>?_,λh' tk hk=>?_⟩
 .obtain⟨b,e,rfl⟩:=hb.get i v (by simpa using hP);simp only[e,Option.getD_some] at hQ;exact wpAny_truthy_bool hQ
 .have e:((List.range vs.toArray.size).all λi=>(bs[i]?).getD true)=bs.all id:=by rw[d7,hb.length];exact LSm.range_all bs
  rw[e];exact h h' tk (LSm.kept_iter hk)
theorem XM(hc:X.calm=true):iR X (.builtin "all") (jQ X.K nq):=by
 intro pins s σ H vs us Q I rv h;obtain⟨S,α,ds,z,S',hs,r,hg,k⟩:=h;unfold nq at hg;split at hg
 .obtain⟨v,rfl,r0⟩:=r.inv1;cases r0 with
  |@ref n a ha =>
   split at hg
   .rename_i e;simp only[aX] at hg;obtain⟨bs,e1,e2⟩:=hg;cases e2;obtain⟨ws,q,r⟩:=nP hs ha (.inl e);obtain⟨u,rfl,ru⟩:=pX rv;cases ru;obtain⟨its,rr,pl,hz⟩:=I.list q;exact zjC (I.ok.hd hc) pl.isList (V1 r rr e1) λh' tk hk=>⟨.bl _,H,I.kept hk,rfl,k.same hs (.bl _)⟩
   .cases hg
 .cases hg
theorem zji(hh:A.handled=none)(hl:s.heap.IsTuple l (intItems xs))(hne:0<xs.size)(h:∀v h' tk,(intItems xs)[argBest (λi j=>decide (numAt xs i<numAt xs j)) (xs.size - 1)]?=some v->(∀b o,s.heap.get? b=some o->h'.get? b=some o)->Q v { s with heap:=h',toks:=tk }):
 wpAny (model prog w) A (call (.builtin "min") [.ref l]) Q E s:=by
 have hlt:l<s.heap.objs.size:=by obtain⟨_,e,_⟩:=hl;exact cJ e
 refine call_min_walk (wpAny_pyIter_tuple hl ?_);refine⟨_,[s.heap.objs.size,l],[s.heap.objs.size],_,_,_,_,rfl,Walks.tuple (A:=A.in1) hh _ l (dJ hlt) (intItems xs),
  ⟨⟨_,gO _ rfl,rfl,rfl⟩,hl.push _⟩,λc hc=>?_,by simpa[intItems] using hne,CmpOf.ints_lt (numAt xs) (λ_ _=>intItems_at),λv h' tk hP hk=>?_⟩
 .show c<(s.heap.push _).objs.size;rw[Heap.size_push];rcases List.mem_cons.mp hc with rfl|hc
  .exact Nat.lt_succ_self _
  .rcases List.mem_cons.mp hc with rfl|hc
   .exact Nat.lt_succ_of_lt hlt
   .cases hc
 .exact h v h' tk (by simpa[intItems] using hP) (LSm.kept_iter hk)
theorem zjj(hh:A.handled=none)(hl:s.heap.IsTuple l (intItems xs))(hne:0<xs.size)(h:∀v h' tk,(intItems xs)[argBest (λi j=>decide (numAt xs i>numAt xs j)) (xs.size - 1)]?=some v->(∀b o,s.heap.get? b=some o->h'.get? b=some o)->Q v { s with heap:=h',toks:=tk }):
 wpAny (model prog w) A (call (.builtin "max") [.ref l]) Q E s:=by
 have hlt:l<s.heap.objs.size:=by obtain⟨_,e,_⟩:=hl;exact cJ e
 refine call_max_walk (wpAny_pyIter_tuple hl ?_);refine⟨_,[s.heap.objs.size,l],[s.heap.objs.size],_,_,_,_,rfl,Walks.tuple (A:=A.in1) hh _ l (dJ hlt) (intItems xs),
  ⟨⟨_,gO _ rfl,rfl,rfl⟩,hl.push _⟩,λc hc=>?_,by simpa[intItems] using hne,CmpOf.ints_gt (numAt xs) (λ_ _=>intItems_at),λv h' tk hP hk=>?_⟩
 .show c<(s.heap.push _).objs.size;rw[Heap.size_push];rcases List.mem_cons.mp hc with rfl|hc
  .exact Nat.lt_succ_self _
  .rcases List.mem_cons.mp hc with rfl|hc
   .exact Nat.lt_succ_of_lt hlt
   .cases hc
 .exact h v h' tk (by simpa[intItems] using hP) (LSm.kept_iter hk)
noncomputable def qN:GN
 |[.tup xs],S=>(mW xs).bind λns=>(jB ns).map λm=>(.int m,S)
 |ds,S=>sH ds S
noncomputable def lY:GN
 |[.tup xs],S=>(mW xs).bind λns=>(iM ns).map λm=>(.int m,S)
 |ds,S=>pA ds S
theorem Z9(hc:X.calm=true):iR X (.builtin "min") (jQ X.K qN):=by
 intro pins s σ H vs us Q I rv h;obtain⟨S,α,ds,z,S',hs,r,hg,k⟩:=h;unfold qN at hg;split at hg
 .obtain⟨v,rfl,r0⟩:=r.inv1;cases r0 with
  |@tup a ds vs q r1 =>
   simp only[bC,aX] at hg;obtain⟨ns,e1,m,e2,e3⟩:=hg;cases e3;obtain⟨u,rfl,ru⟩:=pX rv;cases ru;obtain⟨its,rr,pl,hz⟩:=I.tuple q;have hi:=vK r1 rr e1;have hne:0<ns.length:=by
    cases ns with
    |nil=>cases e2
    |cons _ _=>simp
   obtain⟨xs,hxs⟩:=hi.allInts.items;have hn:=hi.numsOf;have hnn:numsOf (intItems xs).toList=ns:=by rw[<-hxs];simpa using hn
   rw[nums_intItems] at hnn;have hsz:0<xs.size:=by have:=congrArg List.length hnn;simp at this;omega
   have hl':s.heap.IsTuple a (intItems xs):=by rw[<-hxs];exact pl
   refine zji (I.ok.hd hc) hl' hsz λv h' tk hv hk=>?_;obtain⟨t,rfl⟩:=intItems_at hv;obtain⟨h1,h2⟩:=argBest_lt (numAt xs) (xs.size - 1);have hm:jB ns=some (numAt xs (argBest (λi j=>decide (numAt xs i<numAt xs j)) (xs.size - 1))):=by
    refine RN ?_ λb hb=>?_
    .rw[<-hnn,numAt_eq];exact getD_mem (by rw[cW,Array.length_toList];omega)
    .rw[<-hnn] at hb;obtain⟨j,hj,rfl⟩:=mem_getD hb;rw[cW,Array.length_toList] at hj;rw[<-numAt_eq];exact h2 j (by omega)
   rw[e2] at hm;cases hm;exact⟨.int _,H,I.kept hk,⟨t,rfl⟩,k.same hs (.int _)⟩
 .exact X3 hc pins s σ H vs us Q I rv ⟨S,α,_,z,S',hs,r,hg,k⟩
theorem Z8(hc:X.calm=true):iR X (.builtin "max") (jQ X.K lY):=by
 intro pins s σ H vs us Q I rv h;obtain⟨S,α,ds,z,S',hs,r,hg,k⟩:=h;unfold lY at hg;split at hg
 .obtain⟨v,rfl,r0⟩:=r.inv1;cases r0 with
  |@tup a ds vs q r1 =>
   simp only[bC,aX] at hg;obtain⟨ns,e1,m,e2,e3⟩:=hg;cases e3;obtain⟨u,rfl,ru⟩:=pX rv;cases ru;obtain⟨its,rr,pl,hz⟩:=I.tuple q;have hi:=vK r1 rr e1;have hne:0<ns.length:=by
    cases ns with
    |nil=>cases e2
    |cons _ _=>simp
   obtain⟨xs,hxs⟩:=hi.allInts.items;have hn:=hi.numsOf;have hnn:numsOf (intItems xs).toList=ns:=by rw[<-hxs];simpa using hn
   rw[nums_intItems] at hnn;have hsz:0<xs.size:=by have:=congrArg List.length hnn;simp at this;omega
   have hl':s.heap.IsTuple a (intItems xs):=by rw[<-hxs];exact pl
   refine zjj (I.ok.hd hc) hl' hsz λv h' tk hv hk=>?_;obtain⟨t,rfl⟩:=intItems_at hv;obtain⟨h1,h2⟩:=argBest_gt (numAt xs) (xs.size - 1);have hm:iM ns=some (numAt xs (argBest (λi j=>decide (numAt xs i>numAt xs j)) (xs.size - 1))):=by
    refine Fd ?_ λb hb=>?_
    .rw[<-hnn,numAt_eq];exact getD_mem (by rw[cW,Array.length_toList];omega)
    .rw[<-hnn] at hb;obtain⟨j,hj,rfl⟩:=mem_getD hb;rw[cW,Array.length_toList] at hj;rw[<-numAt_eq];exact h2 j (by omega)
   rw[e2] at hm;cases hm;exact⟨.int _,H,I.kept hk,⟨t,rfl⟩,k.same hs (.int _)⟩
 .exact XS hc pins s σ H vs us Q I rv ⟨S,α,_,z,S',hs,r,hg,k⟩
end
theorem zjw(l:Addr)(items:Array Value)(n:Nat)(b:Addr)(items2:Array Value)(n2:Nat)(dd:Option Addr)(sl:Array (Option Value))(hs0:¬(!items.isEmpty&&Builtin.List.listTooLong (items.size+items2.size))=true)(hs1:items.size<=sizeLine)(hs2:items.size+items2.size<=sizeLine+1):
 Meets (Builtin.«list.extend» ⟨[.ref l,.ref b],[]⟩) (λ_ R s=>s.heap.get? l=some { cls := .type "list",dict:=none,data := .seq items n,slots:=#[] }/\s.heap.get? b=some { cls := .type "tuple",dict:=dd,data := .seq items2 n2,slots:=sl }/\R (.ok (.ret Value.none)) { s with heap:=s.heap.update l (Obj.mapSeq λx=>x++items2),toks:=s.toks }) :=
 .of_wp λprog w A R s h=>by
  obtain⟨hp,g,d,tk,os⟩:=s;obtain⟨hl,hb,h⟩:=h;have f1:=AutoSeq1.idx_int;have f2:=AutoSeq1.sub_tuple_tuple;have f3:=AutoSeq1.sub_list_list;have f4:=AutoSeq1.sub_tuple_list;have f5:=AutoSeq1.sub_list_tuple;have hz':(items++items2).size<=sizeLine+1:=by rw[Array.size_append];exact hs2
  wp_walk using (wpAny_updateSeq hl rfl (hz:=hs1) (_hz':=hz')),AutoSeq1.wpAny_loadPart' hl,AutoSeq1.wpAny_loadPart' hb;exact⟨_,rfl,h⟩
noncomputable def xX:GM
 |.ref n,[.ref m],S=>match S[n]?,S[m]? with
  |some (.lst xs),some (.lst ys)=>if xs.length+ys.length<=sizeLine then some (.non,S.set n (.lst (xs++ys))) else none
  |_,_=>none
 |.ref n,[.tup ys],S=>match S[n]? with
  |some (.lst xs)=>if xs.length+ys.length<=sizeLine then some (.non,S.set n (.lst (xs++ys))) else none
  |_=>none
 |_,_,_=>none
def aG.eraseIdx{K:FgA}{H:Hp}{α:List Addr}:∀{ds:List D} {vs:List V} (i:Nat),aG K H α ds vs->aG K H α (ds.eraseIdx i) (vs.eraseIdx i)
 |_,_,_,.nil => .nil
 |_,_,0,.cons _ t=>t
 |_,_,i+1,.cons r t => .cons r (aG.eraseIdx i t)
theorem aG.dropLast{K:FgA}{H:Hp}{α:List Addr}{ds:List D}{vs:List V}(r:aG K H α ds vs):aG K H α ds.dropLast vs.dropLast:=by rw[List.dropLast_eq_take,List.dropLast_eq_take,r.length];exact r.take _
theorem zkq:sX X "list.extend" (v7 X.K xX):=by
 intro pins s σ H v vs vv us Q I rv rs h;obtain⟨S,α,d,ds,z,S',hs,r,rr,hg,k⟩:=h;unfold xX at hg;split at hg
 .cases r with
  |ref ha =>
   split at hg
   .rename_i e1 e2;split at hg
    .rename_i hl;cases hg;obtain⟨w,rfl,fU⟩:=rr.inv1;cases fU with
     |ref hb =>
      obtain⟨ws,q,r⟩:=hs.obj _ _ _ e1 ha;obtain⟨ws2,q2,r2⟩:=hs.obj _ _ _ e2 hb;refine zkn pins s σ H _ _ _ us Q I rv rs ⟨_,_,_,_,rfl,rfl,q,q2,by rw[<-r.length,<-r2.length];exact hl,?_⟩;obtain⟨s2,x2⟩:=hs.put (o := .lst (_++_)) (u := .lst (ws++ws2)) e1 rfl rfl ha q (.inl ⟨_,rfl⟩) λx=>⟨_,fY,(r.append r2).mono x⟩
      exact k _ _ _ s2 x2 .non
    .cases hg
   .cases hg
 .cases r with
  |ref ha =>
   split at hg
   .rename_i xs e1;split at hg
    .rename_i hl;cases hg;obtain⟨w,rfl,fU⟩:=rr.inv1;cases fU with
     |tup hb r2 =>
      obtain⟨ws,q,r⟩:=hs.obj _ _ _ e1 ha;cases rv;obtain⟨u,rfl,ru⟩:=rs.one;cases ru;obtain⟨hz,its,n0,vZ,hli,ho⟩:=I.lstM q;obtain⟨its2,uh,⟨⟨c2,dd2,dt2,sl2⟩,ho2,hc2,n2,hd2⟩,hz2⟩:=I.tuple hb;simp only at hc2 hd2;subst hc2 hd2;have e3:its.length=xs.length:=by rw[<-hli,r.length]
      have e4:=uh.length;rw[<-r2.length] at e4;have hsz:its.toArray.size+its2.toArray.size<=sizeLine:=by rw[d7,d7,e3,<-e4];exact hl
      have o8:¬(!its.toArray.isEmpty&&Builtin.List.listTooLong (its.toArray.size+its2.toArray.size))=true:=by rw[Qy hsz,Bool.and_false];exact gM
      refine call_meets F.slot_list_extend ⟨_,ho,rfl⟩ F.entry_list_extend (F.args_list_extend_2 _ _)
       (zjw _ its.toArray n0 _ its2.toArray n2 dd2 sl2 o8 (by omega) (by omega)) ⟨ho,ho2,?_⟩
      obtain⟨s2,x2⟩:=hs.put (o := .lst (xs++_)) (u := .lst (ws++_)) e1 rfl rfl ha q (.inl ⟨_,rfl⟩) λx=>⟨_,fY,(r.append r2).mono x⟩
      refine⟨.non,_,I.lset (its':=its++its2) q ho (by simp) (vZ.append uh) ?_,rfl,k _ _ _ s2 x2 .non⟩;rw[lz,<-r.length,<-r2.length];exact hl
    .cases hg
   .cases hg
 .cases hg
noncomputable def nj:GM
 |.ref n,[],S=>match S[n]? with
  |some (.lst xs)=>(xs[xs.length - 1]?).map λd=>(d,S.set n (.lst xs.dropLast))
  |_=>none
 |.ref n,[.int i],S=>match S[n]? with
  |some (.lst xs)=>if -(2 ^ 63)<=i/\i<2 ^ 63 then(seqIndex? i xs.length).bind λk=>(xs[k]?).map λd=>(d,S.set n (.lst (xs.eraseIdx k))) else none
  |_=>none
 |_,_,_=>none
theorem Zh:sX X "list.pop" (v7 X.K nj):=by
 intro pins s σ H v vs vv us Q I rv rs h;obtain⟨S,α,d,ds,z,S',hs,r,rr,hg,k⟩:=h;unfold nj at hg;split at hg
 .cases r with
  |ref ha =>
   split at hg
   .rename_i xs e;simp only[aX] at hg;obtain⟨d,e1,e2⟩:=hg;cases e2;cases rr;obtain⟨ws,q,r⟩:=hs.obj _ _ _ e ha;obtain⟨w,ew,fU⟩:=r.get e1;refine Zi pins s σ H _ _ _ us Q I rv rs ⟨_,_,w,rfl,rfl,q,by rw[<-r.length];exact ew,?_⟩;obtain⟨s2,x2⟩:=hs.put (o := .lst xs.dropLast) (u := .lst ws.dropLast) e rfl rfl ha q (.inl ⟨_,rfl⟩) λx=>⟨_,fY,r.dropLast.mono x⟩
    exact k _ _ _ s2 x2 (fU.mono x2)
   .cases hg
 .cases r with
  |ref ha =>
   split at hg
   .rename_i xs e;split at hg
    .rename_i hb;simp only[bC,aX] at hg;obtain⟨kk,e0,d,e1,e2⟩:=hg;cases e2;obtain⟨w0,rfl,r0⟩:=rr.inv1;cases r0;obtain⟨ws,q,r⟩:=hs.obj _ _ _ e ha;obtain⟨w,ew,fU⟩:=r.get e1;refine zmi pins s σ H _ _ _ us Q I rv rs ⟨_,_,_,kk,w,rfl,rfl,q,hb.1,hb.2,by rw[<-r.length];exact e0,ew,?_⟩;obtain⟨s2,x2⟩:=hs.put (o := .lst (xs.eraseIdx kk)) (u := .lst (ws.eraseIdx kk)) e rfl rfl ha q (.inl ⟨_,rfl⟩) λx=>⟨_,fY,(r.eraseIdx kk).mono x⟩
     exact k _ _ _ s2 x2 (fU.mono x2)
    .cases hg
   .cases hg
 .cases hg
noncomputable def Dj(g:GM)(fo:EF):EF:=λσ S=>(fo σ S).bind λr=>match r.1 with
 |.ref n=>match r.2[n]? with
  |some (.lst _)=>g r.1 [] r.2
  |_=>none
 |_=>none
theorem Za{o:Expr}{fo:EF}{g:GM}{id:String}{apos:Pos}(slot:Slot "list" name id)(hty:typeOf (.builtin id)=pure (.type "method_descriptor"))(hm:sX X id (v7 X.K g))(ho:SE X o fo)(hbase:attributeBase o name X.env (eval o X.env)=eval o X.env)(hline:(apos.endLine==cpos.line)=true):
 SE X (.Call (.Attribute o name apos) [] [] cpos) (Dj g fo):=by
 refine PE.imp (Zw PySem.F.plainAttrs_list slot hty hm ho hbase hline) λσ H Q h=>?_;obtain⟨σd,S,α,z,S',hv,hs,hf,k⟩:=h;unfold Dj at hf;simp only[bC] at hf;obtain⟨⟨d,S1⟩,e1,e2⟩:=hf;refine⟨σd,S,α,d,S1,hv,hs,e1,λv H1 α1 s1 x1 r1=>?_⟩;simp only at e2;split at e2
 .rename_i n;split at e2
  .rename_i xs q;cases r1 with
   |ref ha =>
    obtain⟨ws,hw,_⟩:=s1.obj _ _ _ q ha;exact⟨.inl ⟨rfl,_,dI.of hw⟩,S1,α1,_,[],z,S',s1,.ref ha,.nil,e2,k.trans x1⟩
  .cases e2
 .cases e2
end MX
end
section
namespace MX
open PySem PySem.Spec PySem.W PyProof.Rows L2
noncomputable def wY(P:Program)(w:World)(K:FgA)(mg:Str->Option Value)(base:Heap)(N:List Str)(qual:Str)(scope:Scope)(f:Addr)(cd:Value)(cl:List (Str×Addr))(A:Around)(outer:List Env)(s:Shared)(H:Hp)(E:XK):Cx where
 prog:=P
 w:=w
 K:=K
 mg:=mg
 base:=base
 A:=A.deeper (envX qual scope s.heap.objs.size f cd cl)
 N:=N
 s₀:=s
 H₀:=H
 env:=envX qual scope s.heap.objs.size f cd cl
 outer:=outer
 stack:=envX qual scope s.heap.objs.size f cd cl::outer
 ex:=[]
 calm:=true
 fn:=λ_=>false
 pn:=[]
 xe:=λe s'=>wpAny (model P w) (A.deeper (envX qual scope s.heap.objs.size f cd cl)) (leaving (envX qual scope s.heap.objs.size f cd cl) e) (λ_ s''=>iW outer H s E e s'') (λe' s''=>iW outer H s E e' s'') s'
structure pI(p:Str)(scope:Scope)(cl:List (Str×Addr)):Prop where
 kind:scope.kind = .function
 co:scope.isCoroutine=false
 gen:scope.isGenerator=false
 par:scope.names.lookup p=some .local
 nocell:∀x∈scope.names,x.2 ≠ .cell
 has:∀x,scope.names.lookup x=some .free->∃c,cl.lookup x=some c
 inj:∀x y c,cl.lookup x=some c->cl.lookup y=some c->x=y
def zoJ(h:∀x∈scope.names,x.2≠NameKind.cell)(x:Str):scope.names.lookup x≠some .cell:=λe=>h _ (iJ e) rfl
theorem nF{R:Result->Shared->Prop}{args:Args}{body:Expr}{q:Str}(hroom:A.depth<recursionLimit)(ho:s.heap.get? a=some o)(hd':o.data = .func fd)(hco:fd.scope.isCoroutine=false)(hgen:fd.scope.isGenerator=false)(hbody:fd.body = .expr body)(hcd:s.heap.CodeRec fd.code q)(h:wpAny (model prog w) A.in1 (bindArgs fd args) (λbinds s₁ =>
  wpAny (model prog w) A.in1 (newFunctionEnv fd.scope fd.globals fd.closure binds (q ++ ".<locals>.") (some a) fd.code none fd.builtins)
   (λenv s₂=>s₂.heap.NoLimit/\codeAny (model prog w) A (.expr body env) R s₂) (λe s'=>R (.error e) s') s₁) (λe s'=>R (.error e) s') s):
 codeAny (model prog w) A (.call (.ref a) args) R s:=by
 refine codeAny_of_tree ?_;show wpAny _ A.in1 (callAny (.ref a) args) _ _ s;simp only[callAny];refine aL (wpAny_load ho ?_);obtain⟨c,oc,vs,tq,hc,hoc,hdc,hq⟩:=hcd;simp only[hd',callFunction,hco,hgen,hbody,hc];rw[hc] at h;refine aL (m:=field (.ref c) 1) (wpAny_field hoc hdc hq (aL (bO ?_)));exact aL (kh h (λbinds s₁ h₁=>aL (kh h₁ (λenv s₂ h₂=>aL (wpAny_enterFrame h₂.1 hroom
  (bO (And.intro rfl h₂.2)))) λ_ _ h'=>h')) λ_ _ h'=>h')
theorem Zd{P:Program}{base:Heap}{qual:Str}{body:Expr}{cl:List (Str×Addr)}{pm cdv ctv:Value}{p:Str}{cap:List Str}{gH:List V}{cus:List Value}{sp:Sp}{Pt:Addr}{bN:Pos}(ho:base.get? a=some o)(hod:o.data = .func (kla_fn name qual params body scope cl pm cdv ctv))(hcd:∀vs H Q E,sp vs H Q E->∃ps,H Pt=some (.tbl ps)/\codeAmong bN ps.toList=some cdv)(S:pI p scope cl)(hcells:∀x c,cl.lookup x=some c->∃v,base.IsCell c v)(hcap:∀(i:Nat) x v,cap[i]?=some x->gH[i]?=some v->scope.names.lookup x=some .free/\∃c u,cl.lookup x=some c/\base.IsCell c (some u)/\RelV v u)(hlen:cap.length=gH.length)(len:∀vs H Q E,sp vs H Q E->vs.length=1)(hbody:∀(qual:Str) (A:Around) (outer:List Env) (s:Shared) (H:Hp) (v:V) (Q:VK) (E:XK),bK k (A.deeper (envX qual scope s.heap.objs.size a cdv cl))->sp [v] H Q E ->
  ∃t,PE (wY P w K mg base (p::cap) qual scope a cdv cl A outer s H E).nox body t/\t (some v::gH.map some) H Q):
 cY P w K mg base iW (k+1) a (kla_fn name qual params body scope cl pm cdv ctv) [p] sp:=by
 refine⟨len,λA outer s H args us vs Q E hr e0 hb r hsp=>?_⟩;have hl:=len _ _ _ _ hsp;obtain⟨v,rfl⟩:∃v,vs=[v]:=by
  match vs,hl with
  |[v],_=>exact⟨v,rfl⟩
 obtain⟨u,rfl,rv⟩:∃u,us=[u]/\RelV v u:=by
  cases r with
  |cons h1 h2=>cases h2;exact⟨_,rfl,h1⟩
 have bk:∀b o,base.get? b=some o->s.heap.get? b=some o:=λb o e=>(e0.bs b o e).1;have lim:s.heap.NoLimit:=e0.mod.nolimit.keeps bk;obtain⟨ps,hps,ham⟩:=hcd _ _ _ _ hsp;obtain⟨_,_,hcp⟩:=e0.hok Pt _ hps;obtain⟨cc,q,oc,vs,tq,hc1,_,hc2,hc3,hc4⟩:=hcp bN cdv ham;have cr:s.heap.CodeRec cdv q:=⟨cc,oc,vs,tq,hc1,hc2,hc3,hc4⟩
 obtain⟨t,ht,hq⟩:=hbody q A outer s H v Q E (hr.deeper _) hsp;refine nF hr.depth (bk _ _ ho) hod S.co S.gen rfl cr (hb _ _ _ _ ?_);have hloc:∀y∈[p].zip [u],scope.names.lookup y.1=some .local:=λy hy=>by
  have:y=(p,u):=by simpa using hy
  subst this;exact S.par
 refine wpAny_newFunctionEnv S.nocell hloc (λh₁ hns hsb=>⟨lim.fresh _ hsb,?_⟩) S.kind;show codeAny _ _ (.expr body (envX q scope s.heap.objs.size a cdv cl)) _ _;have hk₁:∀b o,s.heap.get? b=some o->h₁.get? b=some o:=λb o e=>hsb.extBut b o (dJ (cJ e)) (di _ e);have cellK:∀c v,base.IsCell c v->h₁.IsCell c v:=λc v ⟨o,e,d⟩=>⟨o,hk₁ _ _ (bk _ _ e),d⟩
 have rY:∀b:Addr,b∉(wY P w K mg base (p::cap) q scope a cdv cl A outer s H E).ex:=λb z=>absurd (show b∈([]:List Addr) from z) (by simp);have I:Inv (wY P w K mg base (p::cap) q scope a cdv cl A outer s H E) [] (some v::gH.map some) H { s with heap:=h₁,toks:=s.toks+([p].zip [u]).length }:=by
  refine⟨⟨e0.mod,S.kind,rfl,rfl,bZ _,S.inj,λy hy=>?_,λy c hf _=>(nomatch hf),λ_=>hr.hd,Around.frames_deeper e0.frames,.inr ⟨rfl,rfl⟩,λb z=>absurd z (rY b),e0.bs,e0.bsz,λb _ _=>rY b,λb z=>absurd z (rY b),e0.funs,e0.frf⟩,
   rfl,e0.bare,Un.kept hk₁,⟨_,hns,λi y z h1 h2 h3=>?_⟩,λy c h=>?_,e0.hok.fresh (bZ _),λy c h=>?_,λq hq=>absurd (show q∈([]:List (Addr×Obj)) from hq) (by simp),e0.hok.kept hk₁,?_⟩
  .rcases hy with hy|hy
   .exact absurd hy (zoJ S.nocell y)
   .exact S.has y hy
  .cases i with
   |zero =>
    have e1:p=y:=by simpa[wY] using h1
    have e2:v=z:=by simpa using h2
    subst e1 e2;exact⟨u,rv,.inl ⟨S.par,by simp⟩⟩
   |succ i =>
    have e1:cap[i]?=some y:=by simpa[wY] using h1
    have e2:gH[i]?=some z:=by
     rw[List.getElem?_cons_succ,iY] at h2;cases q:gH[i]? with
     |none=>rw[q] at h2;cases h2
     |some x=>rw[q] at h2;cases h2;rfl
    obtain⟨k1,c,u',k2,k3,k4⟩:=hcap i y z e1 e2;exact⟨u',k4,.inr ⟨.inr k1,c,k2,cellK _ _ k3⟩⟩
  .obtain⟨v',hv⟩:=hcells y c h;exact⟨v',cellK _ _ hv⟩
  .obtain⟨v',o',ho',_⟩:=hcells y c h;exact(e0.bs _ _ ho').2
  .show _=(p::cap).length;simp[hlen]
 refine kla_codeExpr (kh (ht.nox [] _ _ H Q I hq) (λu' s' hs=>?_) λe s' hs=>hs);obtain⟨v',H',J,rv',q⟩:=hs;exact⟨v',H',J.os,J.bare,J.base,J.hok,rv',q⟩
section
variable {X:Cx}{x:Str}{p pos:Pos}{e:Expr}{es:List Expr}{t:TA}
structure gk(H H':Hp):Prop where
 tups:∀b xs,H b=some (.tup xs)->H' b=some (.tup xs)
 tbls:∀b ps,H b=some (.tbl ps)->∃more,H' b=some (.tbl (ps++more))
 frzs:∀b o u,H b=some (.frz o u)->H' b=some (.frz o u)
end
def BM(h:Heap)(mg:Str->Option Value):Prop:=∃bm o,mg "__builtins__" = some (.ref bm)/\bm≠builtinsNs/\h.get? bm=some o/\o.cls = .type "module" /\ o.dict=some builtinsNs/\o.data = .plain
def jz(H H':Hp):Prop:=(∀b o,H b=some o->(∀ps,o ≠ .tbl ps)->H' b=some o)/\∀b ps,H b=some (.tbl ps)->∃qs,H' b=some (.tbl qs)
theorem zjB{cv:Value}:∀(l more:List Value),codeAmong pos l=some cv->codeAmong pos (l++more)=some cv:=λl more=>by
 fun_induction codeAmong pos l with
 |case1 line a col b c rest hc =>
  intro e;simp only[List.cons_append,codeAmong];rw[if_pos hc];exact e
 |case2 line a col b c rest hc ih =>
  intro e;simp only[List.cons_append,codeAmong];rw[if_neg hc];exact ih e
 |case3=>intro e;cases e
theorem zjA{pos':Pos}{c cv:Value}:∀l:List Value,TriplesOk l->codeAmong pos (l++[rawInt pos'.line,rawInt pos'.col,c])=some cv->codeAmong pos l=some cv\/cv=c:=λl h=>by
 fun_induction TriplesOk l with
 |case1 =>
  intro e;simp only[uP,codeAmong,rawInt] at e;split at e
  .cases e;exact .inr rfl
  .cases e
 |case2 a' t b' u x rest ih =>
  intro e;simp only[List.cons_append,codeAmong] at e ⊢;split at e
  .rename_i hc;rw[if_pos hc];exact .inl e
  .rename_i hc;rw[if_neg hc];exact ih h e
 |case3 l h1 h2=>exact h.elim
section
variable {X:Cx}{pins:List (Addr×Obj)}{σ:L2.St}{H:Hp}{s:Shared}
theorem Tf(I:Inv X pins σ H s){t':Nat}(k:∀b o,s.heap.get? b=some o->h'.get? b=some o):Inv X pins σ H { s with heap:=h',toks:=t' } :=
 I.step (h':=h') (g':=s.gens) (d':=s.drawn) (ch:=[]) (λ_ z=>nomatch z) (λb o _ _ _ e _=>k b o e) (λb o _ _ _ e _=>⟨o.slots,k b o e⟩) (λb o _ _ n=>n) (λb o _ e=>⟨o,k b o e⟩) (λ_ _ q=>q) (λ_ _ _ q=>q) (λ_ ps q=>⟨#[],by rw[q];simp⟩)
  (λm ⟨o,es,ep,e,r⟩=>⟨o,es,ep,k _ _ e,r⟩) (I.hok.kept k) I.bare
theorem zkL(I:Inv X pins σ H s){P c':Addr}{ps:Array Value}{t':Nat}{bN:Pos}{q:Str}(hT:H P=some (.tbl ps))(hx:Heap.ExtBut P s.heap h')(hge:s.heap.objs.size<=c')(hrec:h'.CodeRec (.ref c') q)(hP:h'.get? P=some (tabObj (ps++#[rawInt bN.line,rawInt bN.col,.ref c']))):
 Inv X pins σ (upd (upd H P (.tbl (ps++#[rawInt bN.line,rawInt bN.col,.ref c']))) c' (.own P)) { s with heap:=h',toks:=t' }:=by
 have hc:H c'=none:=I.hok.fresh hge;have hPc:P≠c':=λz=>by rw[z,hc] at hT;cases hT
 have G6:∀b,H b=none->b≠P:=λb n z=>by rw[z,hT] at n;cases n
 have uo:∀b o,s.heap.get? b=some o->b≠c':=λb o e z=>absurd (dN (cJ e) (z ▸ hge)) (gZ _);have old:∀b,b≠P->b≠c'->upd (upd H P (.tbl (ps++#[rawInt bN.line,rawInt bN.col,.ref c']))) c' (.own P) b=H b:=λb h1 h2=>by rw[cu h2,cu h1]
 have oldS:∀b o,H b=some o->b≠P->upd (upd H P (.tbl (ps++#[rawInt bN.line,rawInt bN.col,.ref c']))) c' (.own P) b=some o:=λb o e h1=>by rw[old b h1 (gR e hc)];exact e
 obtain⟨eP,tP,cP⟩:=I.hok P _ hT;refine I.step (h':=h') (g':=s.gens) (d':=s.drawn) (ch:=[]) (λ_ z=>nomatch z) (λb o _ _ _ e n=>hx b o (G6 b n) e) (λb o _ _ _ e n=>⟨o.slots,hx b o (G6 b n) e⟩) (λb o _ e n=>by rw[old b (G6 b n) (uo b o e)];exact n) (λb o _ e=>?_)
  (λb xs q=>oldS b _ q λz=>by rw[z,hT] at q;cases q) (λb o u q=>oldS b _ q λz=>by rw[z,hT] at q;cases q) (λb qs e=>?_) (λm hm=>hm.extBut hx (G6 _ I.free)) (λb o e=>?_) I.bare
 .by_cases hb:b=P
  .subst hb;exact⟨_,hP⟩
  .exact⟨o,hx b o hb e⟩
 .by_cases hb:b=P
  .subst hb;rw[hT] at e;cases e;exact⟨_,by rw[cu hPc,fY]⟩
  .exact⟨#[],by rw[oldS b _ e hb];simp⟩
 .obtain⟨c2,oc,vs,t,ec,hoc,hod,hv⟩:=hrec;cases ec;by_cases h1:b=c'
  .subst h1;rw[fY] at e;cases e;exact⟨_,hoc⟩
  .rw[cu h1] at e;by_cases h2:b=P
   .subst h2;rw[fY] at e;cases e;refine⟨hP,by rw[Array.toList_append];exact TriplesOk_snoc _ _ _ _ tP,λpos cv q=>?_⟩;rw[Array.toList_append] at q;rcases zjA _ tP q with q|q
    .obtain⟨c3,q3,oc3,vs3,t3,e1,e2,e3,e4⟩:=cP pos cv q;have n3:c3≠b:=λz=>by rw[z,hT] at e2;cases e2
     exact⟨c3,q3,oc3,vs3,t3,e1,oldS _ _ e2 n3,hx _ _ n3 e3,e4⟩
    .exact⟨c',_,oc,vs,t,q,fY,hoc,hod,hv⟩
   .rw[cu h2] at e;refine(I.hok b o e).stay (λx u hxb g=>hx x u ?_ g) (λx g=>oldS x _ g λz=>by rw[z,hT] at g;cases g) λx xs g=>oldS x _ g λz=>by rw[z,hT] at g;cases g
    rcases hxb with z|z
    .rw[z];exact h2
    .intro y;rw[y,hT] at z;cases z
end
section
variable {X:Cx}{pins:List (Addr×Obj)}{σ:L2.St}{H:Hp}{s:Shared}{params:Arguments}{body:Expr}{scope:Scope}{bN:Pos}{clos:List (Str×Addr)}{c P:Addr}{ps:Array Value}{R:Value->Shared->Prop}
structure Made(X:Cx)(pins:List (Addr×Obj))(σ:L2.St)(H:Hp)(s:Shared)(params:Arguments)(body:Expr)(scope:Scope)(clos:List (Str×Addr))(P:Addr)(bN:Pos)(a:Addr)(s':Shared)(H':Hp):Prop where
 inv:Inv X pins σ H' s'
 same:jz H H'
 keep:∀b o,s.heap.get? b=some o->H b=none->s'.heap.get? b=some o/\H' b=none
 no:H' a=none
 new:s.heap.objs.size<=a
 obj:∃pm cdv ctv,s'.heap.get? a=some { cls := .type "function",data := .func (kla_fn "<lambda>" (X.env.qual ++ "<lambda>") params body scope clos pm cdv ctv) }/\∃ps,H' P=some (.tbl ps)/\codeAmong bN ps.toList=some cdv
theorem zmq(I:Inv X pins σ H s)(hT:H P=some (.tbl ps))(hcode:X.env.code = .ref c)(C:CodeHd X.base c P)(B:BM X.base X.mg)(hcl:closureFor scope X.env=pure clos)(hdef:defaultsOf params X.env=([],[]))(h:∀a s' H',Made X pins σ H s params body scope clos P bN a s' H'->R (.ref a) s'):wpAny (model X.prog X.w) X.A (eval (.Lambda params body scope bN) X.env) R X.xe s:=by
 refine kla_eval hdef ?_;obtain⟨eP,tP,cP⟩:=I.hok P _ hT;have hg:s.heap.Ns mainGlobals X.mg:=I.mod.glob.keeps I.bk;have hgP:mainGlobals≠P:=λz=>by obtain⟨o,es,ep,e,hd,_⟩:=I.mod.glob;have:=(I.bs _ _ e).2;rw[z,hT] at this;cases this
 obtain⟨bm,ob,b1,b2,b3,b4,b5,b6⟩:=B;have hbP:bm≠P:=λz=>by have:=(I.bs _ _ b3).2;rw[z,hT] at this;cases this
 have hbG:bm≠mainGlobals:=λz=>by obtain⟨o,es,ep,e,hd,_⟩:=I.mod.glob;rw[z,e] at b3;cases b3;rw[hd] at b6;cases b6
 have hb:s.heap.BuiltinsAt X.mg P:=⟨bm,ob,b1,b2,hbG,hbP,I.bk _ _ b3,b4,b5,b6⟩
 have fnew:∀{h':Heap} {o:Obj} {b:Addr},H b=none->True:=λ_=>trivial;cases hn:codeAmong bN ps.toList with
 |none =>
  refine kla_makeFunction (mg:=X.mg) hcl I.ok.glob hg hcode (C.keeps I.bk) eP tP hn hgP hb λc' ctv h' tk hx hge hlt hrec htb=>?_;have I1:=zkL I (t':=tk) hT hx hge hrec htb;have I2:=Tf I1 (h':=h'.push (kla_obj "<lambda>" (X.env.qual ++ "<lambda>") params body scope clos ((X.mg "__name__").getD .none) c' ctv)) (t':=tk) λb o e=>di _ e;have hc:H c'=none:=I.hok.fresh hge;refine h h'.objs.size _ _ ⟨I2,⟨λb o e ne=>?_,λb qs e=>?_⟩,λb o e n=>⟨di _ (hx b o (λz=>by rw[z,hT] at n;cases n) e),?_⟩,?_,?_,?_⟩
  .rw[cu (gR e hc),cu (λz=>ne ps (by rw[z,hT] at e;cases e;rfl))];exact e
  .rw[cu (gR e hc)];by_cases hb:b=P
   .subst hb;exact⟨_,fY⟩
   .rw[cu hb];exact⟨_,e⟩
  .have hlt':=cJ e;rw[cu (dJ (dN hlt' hge)),cu (λz=>by rw[z,hT] at n;cases n)];exact n
  .rw[cu (Nat.ne_of_gt hlt),cu (λz=>by
    have:=cJ htb;rw[<-z] at this;exact absurd this (gZ _))]
   refine I.hok.fresh (uR (zm hge hlt))
  .exact uR (zm hge hlt)
  .exact⟨_,_,ctv,gO _ rfl,_,by rw[cu (gR hT hc),fY],by rw[Array.toList_append];exact codeAmong_snoc _ tP hn⟩
 |some cv =>
  obtain⟨c',q,oc,vs,t,rfl,e2,e3,e4,e5⟩:=cP bN cv hn;refine kla_makeFunctionHit (mg:=X.mg) hcl I.ok.glob hg hcode (C.keeps I.bk) eP tP hn hb λctv h' tk hk hsz=>?_;have I2:=Tf I (h':=h'.push { cls := .type "function",data := .func (kla_fn "<lambda>" (X.env.qual ++ "<lambda>") params body scope clos ((X.mg "__name__").getD .none) (.ref c') ctv) }) (t':=tk) λb o e=>di _ (hk b o e);refine h h'.objs.size _ _ ⟨I2,⟨λb o e _=>e,λb qs e=>⟨qs,e⟩⟩,λb o e n=>⟨di _ (hk b o e),n⟩,I.hok.fresh hsz,hsz,?_⟩;exact⟨_,_,ctv,gO _ rfl,ps,hT,hn⟩
end
noncomputable def qL(env:Env)(y:Str×NameKind):Option (Str×Addr):=if(y.2==NameKind.free)=true then(env.cells.lookup y.1).map λc=>(y.1,c) else none
noncomputable def oF(env:Env)(names:List (Str×NameKind)):List (Str×Addr):=(names.filterMap (qL env)).reverse
theorem V2{env:Env}:∀(names:List (Str×NameKind)) (acc:List (Str×Addr)),(∀y∈names,y.2 = .free->∃c,env.cells.lookup y.1=some c) ->
 (forIn names acc (fun(x:Str×NameKind) (cs:List (Str×Addr))=>do if(x.2==NameKind.free)=true then let c <-cellOf env x.1;pure (ForInStep.yield ((x.1,c)::cs)) else pure (ForInStep.yield cs)):Sem (List (Str×Addr)))
  = pure (oF env names++acc)
 |[],acc,_=>by simp[oF]
 |y::r,acc,h=>by
  have ih:=V2 (env:=env) r;rw[List.forIn_cons];unfold oF at *
  rw[List.filterMap_cons];by_cases hk:(y.2==NameKind.free)=true
  .obtain⟨c,hc⟩:=h y (fL ..) (by simpa using hk);have hcell:cellOf env y.1=pure c:=by unfold cellOf;rw[hc]
   have hG:qL env y=some (y.1,c):=by unfold qL;rw[if_pos hk,hc];rfl
   simp only[if_pos hk,hcell,pure_bind];rw[ih _ (λz hz=>h z (cM _ hz)),hG];simp
  .have hG:qL env y=none:=by unfold qL;rw[if_neg hk]
   simp only[if_neg hk,pure_bind];rw[ih _ (λz hz=>h z (cM _ hz)),hG]
theorem zjy(h:∀y∈scope.names,y.2 = .free->∃c,env.cells.lookup y.1=some c):
 closureFor scope env=pure (oF env scope.names):=by
 unfold closureFor;have:=V2 (env:=env) scope.names [] h;rw[List.append_nil] at this;simpa using this
theorem zjz{y:Str×NameKind}{q:Str×Addr}(e:qL env y=some q):y.2 = .free/\q.1=y.1/\env.cells.lookup y.1=some q.2:=by
 unfold qL at e;split at e
 .rename_i hk;simp only[aX] at e;obtain⟨c,h1,rfl⟩:=e;exact⟨by simpa using hk,rfl,h1⟩
 .cases e
def Uu{q:Str×Addr}:q∈oF env names↔∃y∈names,qL env y=some q:=by unfold oF;rw[List.mem_reverse,List.mem_filterMap]
theorem zjm{α:Type}{l:List (Str×α)}{v:α}(h:(x,v)∈l):∃u,l.lookup x=some u:=by
 induction l with
 |nil=>cases h
 |cons q r ih =>
  obtain⟨k,w⟩:=q;by_cases hk:x=k
  .subst hk;exact⟨w,by simp[List.lookup]⟩
  .rcases List.mem_cons.mp h with e|e
   .cases e;exact absurd rfl hk
   .obtain⟨u,hu⟩:=ih e;refine⟨u,?_⟩;rw[jL];have:(x==k)=false:=by simpa using hk
    rw[this];exact hu
theorem Ar(h:(oF env names).lookup x=some c):env.cells.lookup x=some c/\(x,NameKind.free)∈names:=by obtain⟨y,hy,e⟩:=Uu.mp (iJ h);obtain⟨h1,h2,h3⟩:=zjz e;obtain⟨y1,y2⟩:=y;simp only at h1 h2 h3;subst h1 h2;exact⟨h3,hy⟩
theorem Ut(h:(x,NameKind.free)∈names)(hc:env.cells.lookup x=some c):(oF env names).lookup x=some c:=by have:(x,c)∈oF env names:=Uu.mpr ⟨_,h,by unfold qL;simp[hc]⟩;obtain⟨u,hu⟩:=zjm this;have:=(Ar hu).1;rw[hc] at this;rw[hu,<-this]
noncomputable def nM(h:Heap)(H:Hp)(l:List Env):Heap:=hideAll h (yS h H++frs l)
theorem KH{l:List Env}{b:Addr}(e:h.get? b=some o)(n:H b=none)(hf:b∉frs l):(nM h H l).get? b=some o :=
 hideAll_get _ e λhm=>by
  rcases mH.mp hm with z|z
  .have q:(H b).isSome=true:=(List.mem_filter.mp z).2;rw[n] at q;simp at q
  .exact hf z
theorem Vi{l:List Env}{b:Addr}(e:(nM h H l).get? b=some o):h.get? b=some o/\H b=none:=by
 have e':h.get? b=some o:=of_hideAll _ e;refine⟨e',?_⟩;cases q:H b with
 |none=>rfl
 |some x =>
  have hm:b∈yS h H++frs l:=List.mem_append_left _ (List.mem_filter.mpr ⟨List.mem_range.mpr (cJ e'),by simp[q]⟩);have z:(nM h H l).get? b=none:=hideAll_none _ hm;rw[z] at e;cases e
theorem zdt{h base base':Heap}:∀{l:List Env},h.FunFrames base l->(∀b∈frs l,base'.get? b=none)->h.FunFrames base' l
 |[],_,_=>trivial
 |env::r,hl,hb=>by
  obtain⟨h1,⟨L,o,h2,_,h3,h4⟩,h5⟩:=hl;refine⟨h1,⟨L,o,h2,hb L ?_,h3,h4⟩,zdt h5 λb q=>hb b ?_⟩
  .unfold frs;rw[List.filterMap_cons,h2];exact fL ..
  .unfold frs at *;rw[List.filterMap_cons,h2];exact cM _ q
def zkp{base base':Heap}(M:Mod K mg base)(k:∀b o,base.get? b=some o->base'.get? b=some o):Mod K mg base' :=
 ⟨M.kin.keeps k,M.glob.keeps k,let ⟨mb,h1,h2⟩:=M.blt;⟨mb,h1.keeps k,h2⟩,M.nolimit.keeps k⟩
theorem zlc{pins:List (Addr×Obj)}{σ:L2.St}(I:Inv X pins σ H s):jK X.prog X.w X.K X.mg (nM s.heap H X.stack) X.A X.stack s H/\∀b o,X.base.get? b=some o->(nM s.heap H X.stack).get? b=some o:=by
 have kb:∀b o,X.base.get? b=some o->(nM s.heap H X.stack).get? b=some o:=λb o e =>
  KH (I.bs b o e).1 (I.bs b o e).2 λz=>by have:=(I.stack.mem z).1;rw[e] at this;cases this
 refine⟨⟨I.ok.frames,zkp I.mod kb,λb o e=>Vi e,by unfold nM;rw[hideAll_size];exact bZ _,zdt I.stack λb hb=>hideAll_none _ (List.mem_append_right _ hb),I.stkFree,I.hok,I.bare⟩,kb⟩
structure Xo(base:Heap)(qual:Str)(params:Arguments)(body:Expr)(scope:Scope)(clos:List (Str×Addr))(cap:List Str)(gH:List V)(a:Addr)(cdv:Value):Prop where
 obj:∃pm ctv,base.get? a=some { cls := .type "function",data := .func (kla_fn "<lambda>" (qual ++ "<lambda>") params body scope clos pm cdv ctv) }
 has:∀y,(y,NameKind.free)∈scope.names->∃c,clos.lookup y=some c
 inj:∀y z c,clos.lookup y=some c->clos.lookup z=some c->y=z
 cells:∀y c,clos.lookup y=some c->∃v,base.IsCell c v
 cap:∀(i:Nat) y v,cap[i]?=some y->gH[i]?=some v->(y,NameKind.free)∈scope.names/\∃c u,clos.lookup y=some c/\base.IsCell c (some u)/\RelV v u
section
variable {K:FgA}{H H':Hp}{α:List Addr}
mutual
def D.no:D->Bool
 |.tup xs=>wj xs
 |.obj _ _ _=>false
 |.ref _=>false
 |_=>true
def wj:List D->Bool
 |[]=>true
 |d::ds=>D.no d&&wj ds
end
mutual
theorem Rep.monoT{H H':Hp}{α α':List Addr}(t:gk H H'):∀{d:D} {v:V},Rep K H α d v->D.no d=true->Rep K H' α' d v
 |_,_,.non,_ => .non
 |_,_,.bl b,_ => .bl b
 |_,_,.int i,_ => .int i
 |_,_,.str x,_ => .str x
 |_,_,.tup h r,b => .tup (by
  rcases h with(h|⟨o,h⟩)|h
  .exact .inl (.inl (t.tups _ _ h))
  .exact .inl (.inr ⟨o,t.frzs _ _ _ h⟩)
  .exact .inr h) (aG.monoT t r (by rw[D.no] at b;exact b))
 |_,_,.ref h,b=>by rw[D.no] at b;cases b
 |_,_,.ty n,_ => .ty n
 |_,_,.adr a,_ => .adr a
 |_,_,.obj _ _ _ _ _,b=>by rw[D.no] at b;cases b
theorem aG.monoT{H H':Hp}{α α':List Addr}(t:gk H H'):∀{ds:List D} {vs:List V},aG K H α ds vs->wj ds=true->aG K H' α' ds vs
 |_,_,.nil,_ => .nil
 |_,_,.cons h r,b=>by rw[wj,dh] at b;exact .cons (Rep.monoT t h b.1) (aG.monoT t r b.2)
end
def gk.refl:gk H H:=⟨λ_ _ h=>h,λ_ _ h=>⟨#[],by rw[h];simp⟩,λ_ _ _ h=>h⟩
theorem jz.ext(t:jz H H'):Ext K H α H' α:=⟨λa vs h=>by
 rcases h with(h|⟨o,h⟩)|h
 .exact .inl (.inl (t.1 _ _ h λ_ z=>by cases z))
 .exact .inl (.inr ⟨o,t.1 _ _ h λ_ z=>by cases z⟩)
 .exact .inr h,λ_ _ q=>q,λ_ _ _ _ _ q=>t.1 _ _ q λ_ z=>by cases z⟩
theorem jz.store(t:jz H H')(s:aA K H α S):aA K H' α S:=⟨s.len,s.nd,λn o a h1 h2=>by
 have ob:=s.obj n o a h1 h2;cases o with
 |lst ds=>obtain⟨vs,e,r⟩:=ob;exact⟨vs,t.1 _ _ e (λ_ z=>by cases z),r.mono t.ext⟩
 |frz ds =>
  obtain⟨vs,e,r⟩:=ob;refine⟨vs,?_,r.mono t.ext⟩;rcases e with⟨ob,e⟩|e
  .exact .inl ⟨ob,t.1 _ _ e λ_ z=>by cases z⟩
  .exact .inr e
 |ins C fs=>obtain⟨dx,gs,e,h,r⟩:=ob;exact⟨dx,gs,t.1 _ _ e (λ_ z=>by cases z),h,r.mono t.ext⟩
 |dct xs=>obtain⟨ys,e,r⟩:=ob;exact⟨ys,t.1 _ _ e (λ_ z=>by cases z),r.mono (jz.ext (α:=α) t).tups⟩
 |tbl x=>obtain⟨h0,ps,e⟩:=ob;obtain⟨qs,e'⟩:=t.2 _ _ e;exact⟨h0,qs,e'⟩⟩
end
noncomputable def Ed(P:Program)(w:World)(K:FgA)(mg:Str->Option Value)(base:Heap)(k:Nat)(a:Addr)(R:Hp->Prop)(ψ:GN):Prop :=
 ∃fd q sp,cY P w K mg base iW k a fd [q] sp/\base.get? a=some { cls := .type "function",data := .func fd }/\(∀(s:Shared) (u:Value),BindsTo s fd ⟨[u],[]⟩ [(q,u)])/\∀vs H Q,R H->vs.length=1->jQ K ψ vs H Q->sp vs H Q E0
def Dp(X:Cx)(a:Addr)(ψ:GN):Prop:=∃R k,Ed X.prog X.w X.K X.mg X.base k a R ψ/\bK k X.A/\∀H,gk X.H₀ H->R H
noncomputable def spH(K:FgA)(R:Hp->Prop)(a:Addr)(ψ:GN)(G:Addr->GN->GN):Sp:=λvs H Q _=>∃v1,vs=[v1,.ref a]/\R H/\∃S α d1 z S',aA K H α S/\Rep K H α d1 v1/\G a ψ [d1,.adr a] S=some (z,S')/\Kt K H α z S' Q
noncomputable def Ds(P:Program)(w:World)(K:FgA)(mg:Str->Option Value)(base:Heap)(k:Nat)(f:Addr)(fd:FuncData)(ps:List Str)(G:Addr->GN->GN):Prop :=
 ∀(a:Addr) (R:Hp->Prop) (ψ:GN),(∀H H',gk H H'->R H->R H')->Ed P w K mg base k a R ψ->cY P w K mg base iW (k+1) f fd ps (spH K R a ψ G)
noncomputable def pG:List Nat->Sg->Option (List D)
 |[],_=>some []
 |j::r,σ=>match σ[j]? with
  |some (some d)=>(pG r σ).map λds=>d::ds
  |_=>none
noncomputable def tG(fb:EF)(iG:List D):GN:=λds S=>match ds with
 |[d]=>fb (some d::iG.map some) S
 |_=>none
theorem T8{K:FgA}{H:Hp}{α:List Addr}{σd:Sg}{σ:L2.St}(hv:bH K H α σd σ):∀{src:List Nat} {iG:List D},pG src σd=some iG->∃gH:List V,aG K H α iG gH/\src.length=gH.length/\∀(i j:Nat),src[i]?=some j->∃v,σ[j]?=some (some v)/\gH[i]?=some v
 |[],iG,e=>by cases e;exact⟨[],.nil,rfl,λi j h=>by simp at h⟩
 |j::r,iG,e=>by
  unfold pG at e;split at e
  .rename_i d ed;simp only[aX] at e;obtain⟨ds,e1,rfl⟩:=e;obtain⟨gH,h1,h2,h3⟩:=T8 hv e1;obtain⟨v,k1,k2⟩:=hv.2 j d ed;refine⟨v::gH,.cons k2 h1,by simp[h2],λi j' hi=>?_⟩;cases i with
   |zero=>simp at hi;subst hi;exact⟨v,k1,rfl⟩
   |succ i=>simpa using h3 i j' (by simpa using hi)
  .cases e
structure Ef(X:Cx)(P c:Addr):Prop where
 fn:∀y,X.fn y=true
 tab:∃ps,X.H₀ P=some (.tbl ps)
 code:X.env.code = .ref c
 hd:CodeHd X.base c P
 bm:BM X.base X.mg
section
variable {X:Cx}{pins:List (Addr×Obj)}{σ:L2.St}{H1 H':Hp}{s1 s':Shared}{params:Arguments}{body:Expr}{scope:Scope}{bN:Pos}{P:Addr}{cap:List Str}{gH:List V}{a:Addr}
theorem zmm(I1:Inv X pins σ H1 s1)(M:Made X pins σ H1 s1 params body scope (oF X.env scope.names) P bN a s' H')(hcap:∀y∈cap,(y,NameKind.free)∈scope.names)(hfree:∀y∈scope.names,y.2 = .free->X.env.kindOf y.1=some .cell)(hfn:∀y,X.fn y=true)(hsl:∀(i:Nat) y,cap[i]?=some y->∃(j:Nat) (v:V),X.N[j]?=some y/\σ[j]?=some (some v)/\gH[i]?=some v):
 ∃cdv,Xo (nM s'.heap H' X.stack) X.env.qual params body scope (oF X.env scope.names) cap gH a cdv/\∃ps,H' P=some (.tbl ps)/\codeAmong bN ps.toList=some cdv:=by
 obtain⟨pm,cdv,ctv,ho,Pr⟩:=M.obj;have I2:=M.inv;have hcells:∀y∈scope.names,y.2 = .free->∃c,X.env.cells.lookup y.1=some c:=λy hy e=>I1.ok.has y.1 (.inl (hfree y hy e));have Ck:∀b,s1.heap.objs.size<=b->b∉frs X.stack:=λb hb z=>by obtain⟨_,o,ho,_⟩:=I1.stack.mem z;exact absurd (dN (cJ ho) hb) (gZ _)
 have wZ:∀y c,X.env.cells.lookup y=some c->c∉frs X.stack:=λy c ec z=>by
  rcases List.mem_cons.mp (I2.stkSub c z) with q|q
  .exact I2.cne y c ec q
  .obtain⟨_,o,ho,_⟩:=I2.ok.funs.mem q;exact absurd (dN (cJ ho) (I2.ok.cab y c (hfn y) ec)) (gZ _)
 have uG:∀y c v,X.env.cells.lookup y=some c->s'.heap.IsCell c v->(nM s'.heap H' X.stack).IsCell c v:=λy c v ec ⟨o,h1,h2⟩=>⟨o,KH h1 (I2.freeC y c ec) (wZ y c ec),h2⟩
 refine⟨cdv,⟨⟨pm,ctv,KH ho M.no (Ck a M.new)⟩,λy hy=>?_,λy z c h1 h2=>I2.ok.inj y z c (Ar h1).1 (Ar h2).1,λy c h1=>?_,λi y v h1 h2=>?_⟩,Pr⟩
 .obtain⟨c,hc⟩:=hcells _ hy rfl;exact⟨c,Ut hy hc⟩
 .obtain⟨v,hv⟩:=I2.cell y c (Ar h1).1;exact⟨v,uG y c v (Ar h1).1 hv⟩
 .have hy:=hcap y (List.mem_of_getElem? h1);obtain⟨j,v',k1,k2,k3⟩:=hsl i y h1;rw[h2] at k3;cases k3;have hkind:=hfree _ hy rfl;obtain⟨m,_,hloc⟩:=I2.loc;obtain⟨u,ru,l⟩:=hloc j y v k1 k2 (.inr (.inl hkind));refine⟨hy,?_⟩;rcases l with⟨l1,_⟩|⟨_,c,l2,l3⟩
  .have l1':X.env.kindOf y=some .local:=l1;have hk':X.env.kindOf y=some .cell:=hkind;rw[hk'] at l1';cases l1'
  .exact⟨c,u,Ut hy l2,uG y c _ l2 l3,ru⟩
end
end MX
end
section
namespace MX
open PySem PySem.W PyProof.Rows
section
variable {n:Nat}{lt:Nat->Nat->Bool}{α β:Type}
noncomputable def yV(lt:Nat->Nat->Bool):KasT α->α
 |.ret a=>a
 |.ask i j k=>yV lt (k (lt i j))
noncomputable def fK(n:Nat)(lt:Nat->Nat->Bool)(R:α->Prop):KasT α->Prop
 |.ret a=>R a
 |.ask i j k=>i<n/\j<n/\fK n lt R (k (lt i j))
def fK.bind{R:β->Prop}{f:α->KasT β}:∀{t:KasT α},fK n lt (λa=>fK n lt R (f a)) t->fK n lt R (t.bind f)
 |.ret _,h=>h
 |.ask _ _ _,h=>⟨h.1,h.2.1,fK.bind h.2.2⟩
def fK.mono{R R':α->Prop}(k:∀a,R a->R' a):∀{t:KasT α},fK n lt R t->fK n lt R' t
 |.ret _,h=>k _ h
 |.ask _ _ _,h=>⟨h.1,h.2.1,fK.mono k h.2.2⟩
def fK.ev{R:α->Prop}:∀{t:KasT α},fK n lt R t->R (yV lt t)
 |.ret _,h=>h
 |.ask i j k,h=>fK.ev (t:=k (lt i j)) h.2.2
def fK.wp{R:α->Prop}{cmp:Nat->Nat->(Bool->Shared->Prop)->Shared->Prop}{s:Shared}{Q:α->Shared->Prop}(hc:∀i j C,i<n->j<n->C (lt i j) s->cmp i j C s):∀{t:KasT α},fK n lt R t->Q (yV lt t) s->t.kasWp cmp Q s
 |.ret _,_,q=>q
 |.ask _ _ _,h,q=>hc _ _ _ h.1 h.2.1 (fK.wp hc h.2.2 q)
structure je(n:Nat)(lt:Nat->Nat->Bool):Prop where
 tr:∀i j k,lt j i=false->lt k j=false->lt k i=false
 asy:∀i j,lt i j=true->lt j i=false
 tot:∀i j,i<n->j<n->lt i j=false->lt j i=false->i=j
noncomputable abbrev cD(p:Array Nat)(i:Nat):Nat:=p.getD i 0
def iH(n:Nat)(p:Array Nat):Prop:=p.toList.Perm (List.range n)
def lK(lt:Nat->Nat->Bool)(p:Array Nat)(k:Nat):Prop:=∀i j,i<=j->j<k->lt (cD p j) (cD p i)=false
def uO(lt:Nat->Nat->Bool)(p:Array Nat)(k:Nat):Prop:=∀i j,i<j->j<k->lt (cD p j) (cD p i)=true
variable {p:Array Nat}{k:Nat}
def iH.size(h:iH n p):p.size=n:=by have:=List.Perm.length_eq h;simpa using this
theorem iH.bel(h:iH n p)(h1:1<=n)(i:Nat):cD p i<n:=by
 unfold cD;by_cases hi:i<p.size
 .have:=(List.Perm.mem_iff h).mp (show p[i]∈p.toList by simp);simpa[Array.getD,hi] using this
 .simp[Array.getD,hi];omega
def iH.rev(h:iH n p)(i j:Nat):iH n (kas_rev p i j):=List.Perm.trans (Array.perm_iff_toList_perm.mp (mirror_perm _ _ _ _)) h
def iH.bub(h:iH n p)(i j:Nat):iH n (bubble p i j):=List.Perm.trans (Array.perm_iff_toList_perm.mp (bubble_perm _ _ _)) h
theorem iH.inj(h:iH n p)(hi:i<n)(hj:j<n)(e:cD p i=cD p j):i=j:=by
 have hs:=h.size;have hi':i<p.toList.length:=by simp;omega
 have hj':j<p.toList.length:=by simp;omega
 have nd:p.toList.Nodup:=(List.Perm.nodup_iff h).mpr List.nodup_range;refine(List.getElem_inj (h₀:=hi') (h₁:=hj') nd).mp ?_;simpa[cD,Array.getD,show i<p.size by omega,show j<p.size by omega] using e
def Fg{p q:Array Nat}(h:p[i]?=q[j]?):cD p i=cD q j:=by unfold cD;rw[Array.getD_eq_getD_getElem?,Array.getD_eq_getD_getElem?,h]
def su(T:je n lt)(i:Nat):lt i i=false:=by
 cases q:lt i i with
 |false=>rfl
 |true=>have:=T.asy _ _ q;rw[q] at this;cases this
theorem lK.next(T:je n lt)(h:lK lt p k)(h1:1<=k)(e:lt (cD p k) (cD p (k - 1))=false):lK lt p (k+1):=λi j hij hj=>by
 by_cases hk:j=k
 .subst hk;by_cases hi:i=j
  .subst hi;exact su T _
  .exact T.tr _ _ _ (h i (j - 1) (by omega) (by omega)) e
 .exact h i j hij (by omega)
def N5(T:je n lt):lK lt p 1:=λi j hij hj=>by
 obtain⟨rfl,rfl⟩:i=0/\j=0:=by omega
 exact su T _
theorem uO.next(T:je n lt)(h:uO lt p k)(h1:1<=k)(e:lt (cD p k) (cD p (k - 1))=true):uO lt p (k+1):=λi j hij hj=>by
 by_cases hk:j=k
 .subst hk;by_cases hi:i=j - 1
  .rw[hi];exact e
  .have a:=h i (j - 1) (by omega) (by omega);cases q:lt (cD p j) (cD p i) with
   |true=>rfl
   |false=>rw[T.tr _ _ _ (T.asy _ _ a) q] at e;cases e
 .exact h i j hij (by omega)
theorem uO.rev(T:je n lt)(hz:k<=p.size)(h:uO lt p k):lK lt (kas_rev p 0 k) k:=λi j hij hj=>by
 have e:∀m,m<k->cD (kas_rev p 0 k) m=cD p (k - 1 - m):=λm hm=>Fg (by
  unfold kas_rev;rw[getElem?_mirror_all hz,if_pos (by omega)];congr 1;omega)
 rw[e i (by omega),e j hj];by_cases hi:i=j
 .subst hi;exact su T _
 .exact T.asy _ _ (h _ _ (by omega) (by omega))
theorem Ja(h1:1<=n)(hp:iH n p):∀(f a:Nat),1<=a->(je n lt->lK lt p a)->fK n lt (λm=>a<=m/\m<=a+f/\(je n lt->lK lt p m)/\(m=a+f\/lt (cD p m) (cD p (m - 1))=true)) (kas_asc p f a)
 |0,a,_,h=>⟨bZ _,bZ _,h,.inl rfl⟩
 |f+1,a,ha,h=>⟨hp.bel h1 _,hp.bel h1 _,by
  show fK n lt _ (if lt (cD p a) (cD p (a - 1))=true then _ else _);cases e:lt (cD p a) (cD p (a - 1)) with
  |true =>
   rw[if_pos rfl];exact⟨bZ _,by omega,h,.inr e⟩
  |false =>
   rw[if_neg (by simp)];exact(Ja h1 hp f (a+1) (by omega) λT=>(h T).next T ha e).mono λm q=>⟨by omega,by omega,q.2.2.1,q.2.2.2.imp (by omega) id⟩⟩
theorem Ft(h1:1<=n):∀(f:Nat) (p:Array Nat) (a q:Nat),1<=a->a+f<=n->iH n p->(je n lt->q=0/\uO lt p a) ->
 fK n lt (λr=>iH n r.1/\a<=r.2.1/\r.2.1<=a+f/\(je n lt->r.2.2=0/\uO lt r.1 r.2.1)) (kas_desc f p a q)
 |0,p,a,q,_,_,hp,h=>⟨hp,bZ _,bZ _,h⟩
 |f+1,p,a,q,ha,hn,hp,h=>⟨hp.bel h1 _,hp.bel h1 _,by
  show fK n lt _ (if lt (cD p a) (cD p (a - 1))=true then _ else _);cases e:lt (cD p a) (cD p (a - 1)) with
  |true =>
   rw[if_pos rfl];split
   .rename_i hq;exact(Ft h1 f _ (a+1) 0 (by omega) (by omega) (hp.rev _ _) λT=>absurd (h T).1 (by omega)).mono λr z=>⟨z.1,by omega,by omega,z.2.2.2⟩
   .exact(Ft h1 f _ (a+1) 0 (by omega) (by omega) hp λT=>⟨rfl,(h T).2.next T ha e⟩).mono λr z=>⟨z.1,by omega,by omega,z.2.2.2⟩
  |false =>
   rw[if_neg (by simp)];refine⟨hp.bel h1 _,hp.bel h1 _,?_⟩;show fK n lt _ (if lt (cD p (a - 1)) (cD p a)=true then _ else _);cases e2:lt (cD p (a - 1)) (cD p a) with
   |true=>rw[if_pos rfl];exact⟨hp,bZ _,by show a<=_;omega,h⟩
   |false =>
    rw[if_neg (by simp)];exact(Ft h1 f _ (a+1) (q+1) (by omega) (by omega) hp λT=>absurd (hp.inj (by omega) (by omega) (T.tot _ _ (hp.bel h1 _) (hp.bel h1 _) e e2)) (by omega)).mono λr z=>⟨z.1,by omega,by omega,z.2.2.2⟩⟩
def Qs(n:Nat)(lt:Nat->Nat->Bool)(r:Nat×Array Nat):Prop:=1<=r.1/\r.1<=n/\iH n r.2/\(je n lt->lK lt r.2 r.1)
theorem R4(h1:1<=k)(hn:k<=n)(hp:iH n p)(h:je n lt->lK lt (kas_rev p 0 k) k):fK n lt (Qs n lt) (kas_tail3 k n p) :=
 fK.bind ((Ja (by omega) (hp.rev 0 k) (n - k) k h1 h).mono λm q=>⟨by show 1<=m;omega,by show m<=n;omega,hp.rev 0 k,q.2.2.1⟩)
theorem R3(hn:k+1<=n)(hp:iH n p)(h:je n lt->uO lt p (k+1)):fK n lt (Qs n lt) (kas_descPart k n p):=by
 refine fK.bind ((Ft (by omega) (n - (k+1)) p (k+1) 0 (by omega) (by omega) hp λT=>⟨rfl,h T⟩).mono λr q=>?_);obtain⟨q1,q2,q3,q4⟩:=q;split
 .exact R4 (by omega) (by omega) (q1.rev _ _) λT=>absurd (q4 T).1 (by omega)
 .exact R4 (by omega) (by omega) q1 λT=>(q4 T).2.rev T (by rw[q1.size];omega)
theorem zmw(h1:1<=n)(hp:iH n p):fK n lt (Qs n lt) (kas_count n p):=by
 refine fK.bind ((Ja h1 hp (n - 1) 1 (bZ _) λT=>N5 T).mono λm q=>?_);obtain⟨q1,q2,q3,q4⟩:=q;split
 .exact⟨q1,by show m<=n;omega,hp,q3⟩
 .rename_i hm;have hm':m≠n:=by simpa using hm
  have e:lt (cD p m) (cD p (m - 1))=true:=q4.resolve_left (by omega);split
  .refine⟨hp.bel h1 _,hp.bel h1 _,?_⟩;show fK n lt _ (if lt (cD p 0) (cD p (m - 1))=true then _ else _);cases e2:lt (cD p 0) (cD p (m - 1)) with
   |true=>rw[if_pos rfl];exact⟨q1,by show m<=n;omega,hp,q3⟩
   |false =>
    rw[if_neg (by simp)];exact R3 (by omega) (hp.rev _ _) λT=>absurd (hp.inj (by omega) (by omega) (T.tot _ _ (hp.bel h1 _) (hp.bel h1 _) e2 (q3 T 0 (m - 1) (by omega) (by omega)))) (by omega)
  .obtain rfl:m=1:=by omega
   exact R3 (by omega) hp λT i j hij hj=>by
    obtain⟨rfl,rfl⟩:i=0/\j=1:=by omega
    exact e
theorem JM(h1:1<=n)(hp:iH n p):∀(f l r:Nat),l<=r->r<=k->r - l<=f->(je n lt->(∀i,i<l->lt (cD p k) (cD p i)=false)/\∀i,r<=i->i<k->lt (cD p k) (cD p i)=true)->(je n lt->lK lt p k) ->
 fK n lt (λm=>m<=k/\(je n lt->(∀i,i<m->lt (cD p k) (cD p i)=false)/\∀i,m<=i->i<k->lt (cD p k) (cD p i)=true)) (kas_place p k f l r)
 |0,l,r,a,b,c,h,_=>by
  obtain rfl:l=r:=by omega
  exact⟨b,h⟩
 |f+1,l,r,a,b,c,h,u=>by
  unfold kas_place;split
  .obtain rfl:l=r:=by omega
   exact⟨b,h⟩
  .refine⟨hp.bel h1 _,hp.bel h1 _,?_⟩;show fK n lt _ (if lt (cD p k) (cD p ((l+r) / 2))=true then _ else _);cases e:lt (cD p k) (cD p ((l+r) / 2)) with
   |true =>
    rw[if_pos rfl];refine JM h1 hp f l ((l+r) / 2) (by omega) (by omega) (by omega) (λT=>⟨(h T).1,λi hi hk=>?_⟩) u;cases q:lt (cD p k) (cD p i) with
    |true=>rfl
    |false=>rw[T.tr _ _ _ (u T ((l+r) / 2) i hi hk) q] at e;cases e
   |false =>
    rw[if_neg (by simp)];exact JM h1 hp f ((l+r) / 2+1) r (by omega) b (by omega) (λT=>⟨λi hi=>T.tr _ _ _ (u T i ((l+r) / 2) (by omega) (by omega)) e,(h T).2⟩) u
theorem Z4{l:Nat}(T:je n lt)(hp:iH n p)(hk:k<n)(hl:l<=k)(u:lK lt p k)(h1:∀i,i<l->lt (cD p k) (cD p i)=false)(h2:∀i,l<=i->i<k->lt (cD p k) (cD p i)=true):lK lt (bubble p k (k - l)) (k+1):=λi j hij hj=>by
 have e:∀m,cD (bubble p k (k - l)) m=if m=l then cD p k else if l<m/\m<=k then cD p (m - 1) else cD p m:=λm=>by
  have z:=getElem?_bubble (xs:=p) (src:=k) (by rw[hp.size];exact hk) (k - l) (by omega) m;rw[show k - (k - l)=l by omega] at z;split
  .rename_i hm;rw[if_pos hm] at z;exact Fg z
  .rename_i hm;rw[if_neg hm] at z;split
   .rename_i hm2;rw[if_pos hm2] at z;exact Fg z
   .rename_i hm2;rw[if_neg hm2] at z;exact Fg z
 rw[e i,e j]
 repeat' split
 all_goals first
  |exact su T _
  |exact u _ _ (by omega) (by omega)
  |exact h1 _ (by omega)
  |exact T.asy _ _ (h2 _ (by omega) (by omega))
  |omega
theorem Ra(h1:1<=n):∀(f:Nat) (p:Array Nat) (k:Nat),k+f<=n->iH n p->(je n lt->lK lt p k)->fK n lt (λq=>iH n q/\(je n lt->lK lt q (k+f))) (kas_bin f p k)
 |0,p,k,_,hp,h=>⟨hp,h⟩
 |f+1,p,k,hk,hp,h=>by refine fK.bind ((JM h1 hp k 0 k (Nat.zero_le _) (bZ _) (by omega) (λT=>⟨λi hi=>by omega,λi a b=>by omega⟩) h).mono λl q=>?_);exact(Ra h1 f _ (k+1) (by omega) (hp.bub _ _) λT=>Z4 T hp (by omega) q.1 (h T) (q.2 T).1 (q.2 T).2).mono λz y=>⟨y.1,λT=>by rw[show k+(f+1)=k+1+f by omega];exact y.2 T⟩
theorem Jo(h1:1<=n):fK n lt (λq=>iH n q/\(je n lt->lK lt q n)) (kas_sort n):=by
 refine fK.bind ((zmw (lt:=lt) h1 (p:=List.toArray (List.range n)) (List.Perm.refl _)).mono λr q=>?_);obtain⟨q1,q2,q3,q4⟩:=q;split
 .rw[show max r.1 1=r.1 by omega];exact(Ra h1 (n - r.1) r.2 r.1 (by omega) q3 q4).mono λz y=>⟨y.1,λT=>by have:=y.2 T;rwa [show r.1+(n - r.1)=n by omega] at this⟩
 .exact⟨q3,λT=>by have:=q4 T;rwa [show r.1=n by omega] at this⟩
end
noncomputable def vg(lt:Nat->Nat->Bool)(n:Nat):List Nat:=if n<2 then List.range n else(yV lt (kas_sort n)).toList
def zi6(lt:Nat->Nat->Bool)(n:Nat):(vg lt n).Perm (List.range n):=by
 unfold vg;split
 .exact List.Perm.refl _
 .exact(Jo (lt:=lt) (by omega)).ev.1
theorem zlQ{lt:Nat->Nat->Bool}(T:je n lt):(vg lt n).Pairwise λi j=>lt j i=false:=by
 unfold vg;split
 .rename_i h
  match n,h with
  |0,_=>simp
  |1,_=>simp
 .have h:=(Jo (n:=n) (lt:=lt) (by omega)).ev;have hs:=iH.size h.1;rw[List.pairwise_iff_getElem];intro i j hi hj hij;have hi':i<(yV lt (kas_sort n)).size:=by simpa using hi
  have hj':j<(yV lt (kas_sort n)).size:=by simpa using hj
  have:=h.2 T i j (by omega) (by omega);simpa[cD,Array.getD,hi',hj'] using this
end MX
end
section
namespace MX
open PySem PySem.Spec PySem.W PyProof.Rows L2
noncomputable def nY:D->Int
 |.int i=>i
 |_=>0
noncomputable def jh:D->Int×Int
 |.tup xs=>(nY (xs.getD 0 .non),nY (xs.getD 1 .non))
 |d=>(nY d,0)
noncomputable def lV(a b:Int×Int):Bool:=if a.1=b.1 then decide (a.2<b.2) else decide (a.1<b.1)
noncomputable def nG:D->Bool
 |.int _=>true
 |_=>false
noncomputable def mK:D->Bool
 |.tup xs=>xs.length==2&&xs.all nG
 |_=>false
noncomputable def tB(ks:List D)(i j:Nat):Bool:=lV (jh (ks.getD i .non)) (jh (ks.getD j .non))
noncomputable def iD(ks:List D):List Nat:=vg (tB ks) ks.length
def Ao(ks:List D):(iD ks).Perm (List.range ks.length):=zi6 _ _
def vz(h:nG d=true):d = .int (nY d):=by cases d<;>first|rfl|cases h
theorem zom(h:mK d=true):d = .tup [.int (jh d).1,.int (jh d).2]:=by
 cases d with
 |tup xs =>
  unfold mK at h;rw[dh,beq_iff_eq] at h;obtain⟨a,ys,rfl⟩:=List.exists_cons_of_length_eq_add_one h.1;obtain⟨b,rfl⟩:=List.length_eq_one_iff.mp (by simpa using h.1);have h2:=h.2;simp only[lO,List.all_nil,Bool.and_true,dh] at h2;rw[vz h2.1,vz h2.2];rfl
 |_=>cases h
section
variable {X:Cx}{pins:List (Addr×Obj)}{σ:L2.St}{H:Hp}{α:List Addr}{s:Shared}{A:Around}{E:Value->Shared->Prop}{kz:List D}{ws:List V}{us:List Value}
theorem Em(r:aG X.K H α kz ws)(v:Vals ws us)(hi:i<kz.length):∃w,Rep X.K H α (kz.getD i .non) w/\RelV w (us.getD i .none):=by
 obtain⟨w,h1,h2⟩:=r.get (f9 hi);obtain⟨u,h3,h4⟩:=v.get h1;refine⟨w,?_,?_⟩
 .rw[List.getD_eq_getElem?_getD,f9 hi];exact h2
 .rw[List.getD_eq_getElem?_getD,h3];exact h4
theorem U0:∀{kz:List D} {ws:List V} {us:List Value},aG X.K H α kz ws->Vals ws us->kz.all nG=true->IntsAre us (kz.map nY)
 |_,_,_,.nil,.nil,_ => .nil
 |_,_,_,.cons r rs,.cons v vs,h=>by rw[lO,dh] at h;rw[vz h.1] at r;cases r;obtain⟨t,rfl⟩:=v;exact .cons _ t (U0 rs vs h.2)
theorem Jx(I:Inv X pins σ H s){w:V}{u:Value}(hd:mK d=true)(r:Rep X.K H α d w)(v:RelV w u):∃a o items n t1 t2,u = .ref a/\s.heap.get? a=some o/\o.cls = .type "tuple" /\ o.data = .seq items n/\items.toList=[.int (jh d).1 t1,.int (jh d).2 t2]:=by
 rw[zom hd] at r;cases r with
 |tup h rs =>
  cases v;obtain⟨o,items,n,h1,h2,h3,h4⟩:=zlI I h;cases rs with
  |cons r1 rs =>
   cases rs with
   |cons r2 rs =>
    cases rs;cases r1;cases r2;obtain⟨u1,u2,e,⟨t1,rfl⟩,⟨t2,rfl⟩⟩:=h4.two;exact⟨_,o,items,n,t1,t2,rfl,h1,h2,h3,e⟩
theorem U3(I:Inv X pins σ H s):∀{kz:List D} {ws:List V} {us:List Value},aG X.K H α kz ws->Vals ws us->kz.all mK=true->∃fs,KatTups s.heap us fs/\fs.length=us.length/\∀v∈fs,∃n t,v = .int n t
 |_,_,_,.nil,.nil,_=>⟨[],.nil,rfl,λv hv=>nomatch hv⟩
 |_,_,_,.cons r rs,.cons v vs,h=>by
  rw[lO,dh] at h;obtain⟨a,o,items,n,t1,t2,rfl,h1,h2,h3,h4⟩:=Jx I h.1 r v;obtain⟨fs,k1,k2,k3⟩:=U3 I rs vs h.2;refine⟨_::fs,.cons h1 h2 h3 (show items[0]?=some _ by rw[<-Array.getElem?_toList,h4];rfl) k1,by simp[k2],λv hv=>?_⟩;rcases List.mem_cons.mp hv with rfl|hv
  .exact⟨_,_,rfl⟩
  .exact k3 v hv
theorem zkE(I:Inv X pins σ H s)(r:aG X.K H α kz ws)(v:Vals ws us)(h2:2<=us.length)(hk:(kz.all nG||kz.all mK)=true){Q:SortKind->Shared->Prop}(h:∀κ,(∀i j C,i<kz.length->j<kz.length->C (tB kz i j) s->kas_ask X.prog X.w A κ us i j C s)->Q κ s):wpAny (model X.prog X.w) A (keyKind' us.toArray) Q E s:=by
 rcases mG _ _ ▸ hk with hk|hk
 .rw[ksk_kind (kz:=kz.map nY) (by simpa using U0 r v hk) (by simpa using h2)];refine bO (h _ λi j C hi hj c=>?_);obtain⟨w1,a1,b1⟩:=Em r v hi;obtain⟨w2,a2,b2⟩:=Em r v hj;have ok:∀i,i<kz.length->nG (kz.getD i .non)=true:=λi hi=>by rw[List.getD_eq_getElem?_getD,f9 hi];exact List.all_eq_true.mp hk _ (List.getElem_mem hi)
  unfold kas_ask;have e:tB kz i j=decide (nY (kz.getD i .non)<nY (kz.getD j .non)):=by
   unfold tB;rw[vz (ok i hi),vz (ok j hj)];show(if _=_ then decide ((0:Int)<0) else _)=_;split
   .rename_i q;exact(decide_eq_false (by have:nY (kz.getD i .non)=nY (kz.getD j .non):=q;show ¬nY (kz.getD i .non)<nY (kz.getD j .non);omega)).symm ▸ rfl
   .rfl
  rw[vz (ok i hi)] at a1;rw[vz (ok j hj)] at a2;cases a1;cases a2;obtain⟨t1,e1⟩:=b1;obtain⟨t2,e2⟩:=b2;rw[e1,e2];exact kat_lt_int (e ▸ c)
 .obtain⟨fs,f1,f2,f3⟩:=U3 I r v hk;refine kat_kind (T := .type "int") f1 (by omega) (λx hx=>by
   obtain⟨n,t,rfl⟩:=f3 x hx;exact Looks.of_pure rfl) rfl (h _ λi j C hi hj c=>?_)
  have ok:∀i,i<kz.length->mK (kz.getD i .non)=true:=λi hi=>by rw[List.getD_eq_getElem?_getD,f9 hi];exact List.all_eq_true.mp hk _ (List.getElem_mem hi)
  obtain⟨w1,a1,b1⟩:=Em r v hi;obtain⟨w2,a2,b2⟩:=Em r v hj;obtain⟨x,ox,xs,n,t1,t2,e1,q1,_,q2,q3⟩:=Jx I (ok i hi) a1 b1;obtain⟨y,oy,ys,m,t3,t4,e2,q4,_,q5,q6⟩:=Jx I (ok j hj) a2 b2;unfold kas_ask;rw[e1,e2];refine kat_lt q1 q2 q4 q5 ?_;rw[q3,q6];unfold tB lV at c;refine kat_cons (wpAny_eqBool_int ?_);by_cases hq:(jh (kz.getD i .non)).1=(jh (kz.getD j .non)).1
  .rw[if_pos hq] at c;rw[show((jh (kz.getD i .non)).1==(jh (kz.getD j .non)).1)=true by rw[hq];exact beq_self_eq_true _];refine kat_yes (kat_cons (wpAny_eqBool_int ?_));by_cases hq2:(jh (kz.getD i .non)).2=(jh (kz.getD j .non)).2
   .rw[show((jh (kz.getD i .non)).2==(jh (kz.getD j .non)).2)=true by rw[hq2];exact beq_self_eq_true _];refine kat_yes (kat_nil ?_);rw[show decide (xs.size<ys.size)=decide ((jh (kz.getD i .non)).2<(jh (kz.getD j .non)).2) by
     rw[<-Array.length_toList,<-Array.length_toList,q3,q6,hq2];simp]
    exact c
   .rw[show((jh (kz.getD i .non)).2==(jh (kz.getD j .non)).2)=false by simpa using hq2];exact kat_no (kat_one _ _ (lt_int c))
  .rw[if_neg hq] at c;rw[show((jh (kz.getD i .non)).1==(jh (kz.getD j .non)).1)=false by simpa using hq];exact kat_no (oneLt_int c)
end
structure N0(X:Cx)(pins:List (Addr×Obj))(base:Heap)(n0:Nat):Prop where
 s0:X.s₀.heap.objs.size<=n0
 loc:X.env.locals<n0
 cel:∀x c,X.env.cells.lookup x=some c->c<n0
 pin:∀p∈X.pn++pins,p.1<n0
 fr:∀b∈frs X.stack,b<n0
 bse:base.objs.size<=n0
 frb:∀b∈frs X.stack,base.get? b=none
structure SJ(X:Cx)(pins:List (Addr×Obj))(σ:L2.St)(S:So)(H₀:Hp)(α₀:List Addr)(base:Heap)(n0:Nat)(own:List (Addr×Obj))(s:Shared)(H:Hp)(α:List Addr):Prop where
 inv:Inv X pins σ H s
 st:aA X.K H α S
 ext:Ext X.K H₀ α₀ H α
 tu:gk H₀ H
 sz:n0<=s.heap.objs.size
 bs:∀b o,base.get? b=some o->s.heap.get? b=some o/\H b=none
 own:∀p∈own,s.heap.get? p.1=some p.2/\H p.1=none/\n0<=p.1
section
variable {X:Cx}{pins:List (Addr×Obj)}{σ:L2.St}{S:So}{H₀ H:Hp}{α₀ α:List Addr}{base:Heap}{n0:Nat}{own:List (Addr×Obj)}{s:Shared}
theorem N0.of(I:Inv X pins σ H s):N0 X pins (nM s.heap H X.stack) s.heap.objs.size where
 s0:=I.sz
 loc:=I.lt
 cel:=λx c e=>by obtain⟨v,o,ho,_⟩:=I.cell x c e;exact cJ ho
 pin:=λp hp=>cJ (I.pin p hp).1
 fr:=λb hb=>by obtain⟨_,o,ho,_⟩:=I.stack.mem hb;exact cJ ho
 bse:=by unfold nM;rw[hideAll_size];exact bZ _
 frb:=λb hb=>hideAll_none _ (List.mem_append_right _ hb)
theorem gk.trans{H1 H2 H3:Hp}(a:gk H1 H2)(b:gk H2 H3):gk H1 H3:=⟨λc xs h=>b.tups c xs (a.tups c xs h),λc ps h=>by
 obtain⟨m1,e1⟩:=a.tbls c ps h;obtain⟨m2,e2⟩:=b.tbls c _ e1;exact⟨m1++m2,by rw[e2,Array.append_assoc]⟩,λc o u h=>b.frzs c o u (a.frzs c o u h)⟩
theorem SJ.laid(J:SJ X pins σ S H₀ α₀ base n0 own s H α){t':Nat}(k:∀b u,s.heap.get? b=some u->h'.get? b=some u)(ha:s.heap.objs.size<=a)(new:h'.get? a=some o):
 SJ X pins σ S H₀ α₀ base n0 (own++[(a,o)]) { s with heap:=h',toks:=t' } H α where
 inv:=J.inv.kept k
 st:=J.st
 ext:=J.ext
 tu:=J.tu
 sz:=Nat.le_trans J.sz (Nat.le_trans ha (uR (cJ new)))
 bs:=λb o e=>⟨k _ _ (J.bs b o e).1,(J.bs b o e).2⟩
 own:=λp hp=>by
  rcases mH.mp hp with hp|hp
  .obtain⟨h1,h2,h3⟩:=J.own p hp;exact⟨k _ _ h1,h2,h3⟩
  .rw[List.mem_singleton.mp hp];exact⟨new,J.inv.hok.fresh ha,Nat.le_trans J.sz ha⟩
def SJ.fewer(J:SJ X pins σ S H₀ α₀ base n0 own s H α){own':List (Addr×Obj)}(h:∀p∈own',p∈own):SJ X pins σ S H₀ α₀ base n0 own' s H α:={ J with own:=λp hp=>J.own p (h p hp) }
theorem SJ.chg(N:N0 X pins base n0)(J:SJ X pins σ S H₀ α₀ base n0 own s H α){xs:Array Value}(ha:(a,seqObj "list" xs n)∈own)(g:Array Value->Array Value){t':Nat}:
 ∃c,∀own',(∀p∈own',p=(a,seqObj "list" (g xs) c)\/(p∈own/\p.1≠a))->SJ X pins σ S H₀ α₀ base n0 own' { s with heap:=s.heap.update a (Obj.mapSeq g),toks:=t' } H α:=by
 obtain⟨e,hn,h0⟩:=J.own _ ha;have sb:=Heap.SameBut.update s.heap a (Obj.mapSeq g);have k:∀b o,b≠a->s.heap.get? b=some o->(s.heap.update a (Obj.mapSeq g)).get? b=some o:=λb o hb q=>(sb.2 b hb).trans q;obtain⟨c,e2⟩:∃c,(s.heap.update a (Obj.mapSeq g)).get? a=some (seqObj "list" (g xs) c):=⟨_,get?_update_seq e g⟩
 refine⟨c,λown' ho=>⟨J.inv.turned k hn (Nat.ne_of_gt (dN N.loc h0)) (.inr (Nat.le_trans N.s0 h0)) (λx c q=>dJ (dN (N.cel x c q) h0)) (λp hp=>dJ (dN (N.pin p hp) h0)),
  J.st,J.ext,J.tu,?_,λb o q=>⟨k b o (dJ (dN (dN (cJ q) N.bse) h0)) (J.bs b o q).1,(J.bs b o q).2⟩,λp hp=>?_⟩⟩
 .show n0<=(s.heap.update a (Obj.mapSeq g)).objs.size;rw[Heap.size_update];exact J.sz
 .rcases ho p hp with rfl|⟨h1,h2⟩
  .exact⟨e2,hn,h0⟩
  .obtain⟨q1,q2,q3⟩:=J.own p h1;exact⟨k _ _ h2 q1,q2,q3⟩
theorem SJ.call(N:N0 X pins base n0)(M:Mod X.K X.mg base)(J:SJ X pins σ S H₀ α₀ base n0 own s H α){A:Around}{a:Addr}{R:Hp->Prop}{ψ:GN}{k:Nat}(hA:A.frames=X.A.frames)(hr:bK k A)(C:Ed X.prog X.w X.K X.mg base k a R ψ)(hT:∀H H',gk H H'->R H->R H')(hR:R H₀){p0:Addr×Obj}(hne:p0∈own){d:D}{v:V}{u:Value}{kk:D}(rd:Rep X.K H α d v)(ru:RelV v u)(hψ:ψ [d] S=some (kk,S)):
 wpAny (model X.prog X.w) A (call (.ref a) [u]) (λr s'=>∃w H' α',Rep X.K H' α' kk w/\RelV w r/\Ext X.K H α H' α'/\SJ X pins σ S H₀ α₀ base n0 own s' H' α') (λ_ _=>False) s:=by
 obtain⟨fd,q,sp,F,hob,hb,hsp⟩:=C;have I:=J.inv;have e0:jK X.prog X.w X.K X.mg base A X.stack s H:=⟨by rw[hA];exact I.ok.frames,M,J.bs,Nat.le_trans N.bse J.sz,zdt I.stack N.frb,I.stkFree,I.hok,I.bare⟩
 have h1:sp [v] H (λw H'=>∃α',aA X.K H' α' S/\Ext X.K H α H' α'/\Rep X.K H' α' kk w) E0 :=
  hsp _ _ _ (hT _ _ J.tu hR) rfl ⟨S,α,[d],kk,S,J.st,.cons rd .nil,hψ,λw H' α' h1 h2 h3=>⟨α',h1,h2,h3⟩⟩
 refine wpAny_call (codeAny_mono (F.run A X.stack s H ⟨[u],[]⟩ [u] [v] _ E0 hr e0 (hb s u) (.cons ru .nil) h1) λr s' hq=>?_);cases r with
 |error e=>exact hq.elim
 |ok fl =>
  cases fl with
  |ret u =>
   obtain⟨w,H',os,bare,un,hok,fU,α',s1,x1,r1⟩:=id hq;obtain⟨_,_,I',_,_⟩:=I.after (show CE X.stack X.prog X.w H s (λw2 H2=>w2=w/\H2=H') u s' from⟨w,H',os,bare,un,hok,fU,rfl,rfl⟩);rename_i w2 H2 _ z;obtain⟨rfl,rfl⟩:=z;have W9:∀b,n0<=b->b∉frs X.stack:=λb hb z=>absurd (dN (N.fr b z) hb) (gZ _);refine⟨w2,H2,α',r1,fU,x1,I',s1,J.ext.trans x1,J.tu.trans ⟨un.tups,un.tbls,un.frzs⟩,?_,λb o e=>?_,λp hp=>?_⟩
   .obtain⟨q1,q2,q3⟩:=J.own _ hne;exact Nat.le_trans q3 (uR (cJ (un.keep _ _ q1 q2 (W9 _ q3) (by simp))))
   .obtain⟨q1,q2⟩:=J.bs b o e;exact⟨un.keep b o q1 q2 (λz=>by rw[N.frb b z] at e;cases e) (by simp),un.free b o q1 q2 (by simp)⟩
   .obtain⟨q1,q2,q3⟩:=J.own p hp;exact⟨un.keep _ _ q1 q2 (W9 _ q3) (by simp),un.free _ _ q1 q2 (by simp),q3⟩
  |next=>exact False.elim hq
  |brk=>exact False.elim hq
  |cont=>exact False.elim hq
end
section
variable {X:Cx}{pins:List (Addr×Obj)}{σ:L2.St}{S:So}{H₀ H:Hp}{α₀ α:List Addr}{base:Heap}{n0:Nat}{s:Shared}{A:Around}{E:Value->Shared->Prop}{a D kS:Addr}{vs:List Value}{kz:List MX.D}{keys:Array Value}{e e1:Nat}{P:PySem.Fin->Shared->Prop}
theorem Te{st:SortSt}(N:N0 X pins base n0)(J:SJ X pins σ S H₀ α₀ base n0 [(D,seqObj "list" #[] e1),(kS,seqObj "list" keys e)] s H α)(hka:D≠kS)(hkz:keys.size<=64)(hfl:failedOf st=none)(ho:((arrOf st).map (·.2)).toList=out)(h64:out.length<=64)(h:∀c tk h',SJ X pins σ S H₀ α₀ base n0 [(D,seqObj "list" out.toArray c)] { s with heap:=h',toks:=tk } H α->P (.done (.ret .none)) { s with heap:=h',toks:=tk }):
 wpAny (model X.prog X.w) A (ksk_tail D false e1 (.ref kS) st) P E s:=by
 have ho2:(arrOf st).map (·.2)=out.toArray:=by rw[<-ho]
 unfold ksk_tail
 try dsimp only
 have nk:=J.own (kS,seqObj "list" keys e) (by simp);obtain⟨c1,J1⟩:=J.chg N (a:=kS) (xs:=keys) (n:=e) (by simp) (λ_=>(#[]:Array Value)) (t':=s.toks);have J1:=J1 [(D,seqObj "list" #[] e1)] (λp hp=>by
  rw[List.mem_singleton.mp hp];exact .inr ⟨by simp,hka⟩)
 have na:=J1.own (D,seqObj "list" #[] e1) (by simp);refine aL (listUpdate_at nk.1 rfl ?_ (by rw[sizeLine_eq];omega) (Nat.zero_le _));refine aL (wpAny_letGo ?_);refine aL (seqEpoch_at na.1 rfl ?_);rw[ho2];refine aL (listUpdate_at na.1 rfl ?_ (Nat.zero_le _) (by simp only[Bool.false_eq_true,if_false,d7];rw[sizeLine_eq];omega));rw[hfl];simp only[bne_self_eq_false,Bool.false_eq_true,if_false];obtain⟨c2,J2⟩:=J1.chg N (a:=D) (xs:=#[]) (n:=e1) (by simp) (λ_=>out.toArray) (t':=s.toks);exact bO (h c2 _ _ (J2 _ λp hp=>by
  rw[List.mem_singleton.mp hp];exact .inl rfl))
theorem zpX(N:N0 X pins base n0)(J:SJ X pins σ S H₀ α₀ base n0 [(D,seqObj "list" #[] e1),(kS,seqObj "list" keys e)] s H α)(hka:D≠kS){ws:List V}(hk:aG X.K H α kz ws)(hv:Vals ws keys.toList)(hlen:kz.length=vs.length)(hko:(kz.all nG||kz.all mK)=true)(h64:vs.length<64)(h:∀c tk h',SJ X pins σ S H₀ α₀ base n0 [(D,seqObj "list" ((iD kz).map λi=>vs.getD i .none).toArray c)] { s with heap:=h',toks:=tk } H α->P (.done (.ret .none)) { s with heap:=h',toks:=tk }):
 wpAny (model X.prog X.w) A (ksk_end D false vs.toArray e1 (.ref kS) keys) P E s:=by
 have hsz:keys.toList.length=vs.length:=by rw[<-hv.length,<-hk.length,hlen]
 have hol:((iD kz).map λi=>vs.getD i Value.none).length<=64:=by rw[cW,(Ao kz).length_eq,List.length_range];omega
 have hks:keys=keys.toList.toArray:=by simp
 unfold ksk_end;simp only[Bool.false_eq_true,if_false];by_cases h2:vs.toArray.size<2
 .rw[if_pos h2,if_pos h2];refine aL (bO ?_);rw[StateT.run_pure];refine aL (bO ?_)
  try dsimp only
  rw[d7] at h2;refine Te (st:=SortSt.mk' general' (keys.zip vs.toArray) #[] 7 none) N J hka (by rw[<-Array.length_toList];omega) rfl ?_ hol h;unfold iD vg;rw[if_pos (by omega),hlen];show((keys.zip vs.toArray).map (·.2)).toList=_;rw[hks];simp only[List.zip_toArray,List.map_toArray,List.map_snd_zip (Nat.le_of_eq hsz.symm)];exact(List.ext_getElem (by simp) λi h1 h2=>by simp[h1])
 .rw[if_neg h2,if_neg h2];rw[d7] at h2;rw[hks];refine aL (zkE J.inv hk hv (by omega) hko λκ ask=>?_);refine aL (kh (kat_run (G:=λp s'=>s'=s/\p.toList=iD kz) (Q:=λst' s'=>s'=s/\failedOf st'=none/\((arrOf st').map (·.2)).toList=(iD kz).map λi=>vs.getD i .none) hsz (by omega) h64 (λp st' s' _ a2 a3 a4=>⟨a4.1,a3,by rw[kat_snds hsz a2];show p.toList.map _=_;rw[a4.2]⟩)
   (fK.wp (lt:=tB kz) (λi j C hi hj c=>ask i j C (by omega) (by omega) c) (Jo (n:=vs.length) (by omega)) ⟨rfl,?_⟩)) ?_ λ_ _ e=>e)
  .unfold iD vg;rw[if_neg (by omega),hlen]
  .rintro⟨⟨⟩,st'⟩ s' ⟨rfl,hf,ho⟩
   try dsimp only
   exact Te N J hka (by rw[<-Array.length_toList];omega) hf ho hol h
theorem znS{f:Value}(N:N0 X pins base n0)(J:SJ X pins σ S H₀ α₀ base n0 [(D,seqObj "list" #[] e1),(kS,seqObj "list" #[] 0)] s H α)(hka:D≠kS)(hlen:kz.length=vs.length)(hko:(kz.all nG||kz.all mK)=true)(h64:vs.length<64)(turn:∀(i:Nat) (v:Value) (k:MX.D),vs[i]?=some v->kz[i]?=some k->∀own p0,p0∈own->∀s H α,SJ X pins σ S H₀ α₀ base n0 own s H α->wpAny (model X.prog X.w) A (call f [v]) (λr s'=>∃w H' α',Rep X.K H' α' k w/\RelV w r/\Ext X.K H α H' α'/\SJ X pins σ S H₀ α₀ base n0 own s' H' α') (λ_ _=>False) s)(h:∀c s' H' α',SJ X pins σ S H₀ α₀ base n0 [(D,seqObj "list" ((iD kz).map λi=>vs.getD i .none).toArray c)] s' H' α'->P (.done (.ret .none)) s'):
 wpAny (model X.prog X.w) A (ksk_rest D f false vs.toArray e1 (.ref kS)) P E s:=by
 unfold ksk_rest;refine aL (wpAny_rule ?_)
 first
  |rw[List.forIn_toArray]
  | (rw[<-Array.forIn_toList];simp only[List.toList_toArray])
  |rw[<-Array.forIn_toList]
 refine aL (ksk_fold (λi s'=>∃H α kA e,SJ X pins σ S H₀ α₀ base n0 [(D,seqObj "list" #[] e1),(kS,seqObj "list" kA e)] s' H α/\∃ws,aG X.K H α (kz.take i) ws/\Vals ws kA.toList) vs 0 s
  ⟨H,α,#[],0,J,[],.nil,.nil⟩ ?step ?done)
 case step =>
  rintro j x s' hx ⟨H',α',kA,e,J',ws,hk,hv⟩
  simp only[Nat.zero_add] at hk ⊢;have hj:j<vs.length:=(fO.mp hx).1;obtain⟨k,hkj⟩:∃k,kz[j]?=some k:=⟨_,f9 (by omega)⟩
  have hz:kA.size<=vs.length:=by
   have h1:min j kz.length=kA.size:=by simpa using hk.length.trans hv.length
   omega
  refine aL (wpAny_attempt (kh (turn j x k hx hkj _ _ (fL ..) s' H' α' J') (λv s'' he=>?_) λ_ _ hF=>hF.elim));obtain⟨w2,H2,α2,r2,v2,x2,J2⟩:=he
  try dsimp only
  have nk:=J2.own (kS,seqObj "list" kA e) (by simp);obtain⟨c2,J3⟩:=J2.chg N (a:=kS) (xs:=kA) (n:=e) (by simp) (·.push v) (t':=s''.toks);have ek:kz.take (j+1)=kz.take j++[k]:=by rw[List.take_add_one,hkj];simp
  have ea:(kA.push v).toList=kA.toList++[v]:=by simp
  refine aL (listUpdate_at nk.1 rfl ?_ (by rw[sizeLine_eq];omega) (Nat.le_trans (Nat.le_of_eq (Array.size_push ..)) (by rw[sizeLine_eq];omega)));refine bO ⟨rfl,H2,α2,kA.push v,c2,J3 _ λp hp=>?_,ws++[w2],by rw[ek];exact(hk.mono x2).append (.cons r2 .nil),by rw[ea];exact hv.append (.cons v2 .nil)⟩;rcases List.mem_cons.mp hp with rfl|hp
  .exact .inr ⟨by simp,hka⟩
  .rw[List.mem_singleton.mp hp];exact .inl rfl
 case done =>
  rintro s' ⟨H',α',kA,e,J',ws,hk,hv⟩
  rw[List.take_of_length_le (by omega)] at hk;have nk:=J'.own (kS,seqObj "list" kA e) (by simp)
  try dsimp only
  refine aL (listItems_at nk.1 rfl ?_);exact zpX N J' hka hk hv hlen hko h64 λc tk h' J2=>h c _ _ _ J2
theorem znR{f:Value}(N:N0 X pins base n0)(J:SJ X pins σ S H₀ α₀ base n0 [(D,seqObj "list" vs.toArray n)] s H α)(hlen:kz.length=vs.length)(hko:(kz.all nG||kz.all mK)=true)(h64:vs.length<64)(turn:∀(i:Nat) (v:Value) (k:MX.D),vs[i]?=some v->kz[i]?=some k->∀own p0,p0∈own->∀s H α,SJ X pins σ S H₀ α₀ base n0 own s H α->wpAny (model X.prog X.w) A (call f [v]) (λr s'=>∃w H' α',Rep X.K H' α' k w/\RelV w r/\Ext X.K H α H' α'/\SJ X pins σ S H₀ α₀ base n0 own s' H' α') (λ_ _=>False) s)(h:∀c s' H' α',SJ X pins σ S H₀ α₀ base n0 [(D,seqObj "list" ((iD kz).map λi=>vs.getD i .none).toArray c)] s' H' α'->P (.done (.ret .none)) s'):
 wpAny (model X.prog X.w) A (ksk_tree D f false) P E s:=by
 have ho:=(J.own _ (List.mem_singleton.mpr rfl)).1;have ha:D<s.heap.objs.size:=cJ ho;obtain⟨e1,J1⟩:=J.chg N (a:=D) (xs:=vs.toArray) (n:=n) (by simp) (λ_=>(#[]:Array Value)) (t':=s.toks);have J1:=J1 [(D,seqObj "list" #[] e1)] λp hp=>by rw[List.mem_singleton.mp hp];exact .inl rfl
 have ho1:=(J1.own _ (List.mem_singleton.mpr rfl)).1;have J2:=J1.laid (h':=(s.heap.update D (Obj.mapSeq λ_=>(#[]:Array Value))).push (seqObj "tuple" vs.toArray 0)) (t':=s.toks) (λb u q=>di _ q) (bZ _) (gO _ rfl);have J2:=J2.fewer (own':=[(D,seqObj "list" #[] e1)]) λp hp=>List.mem_append_left _ hp;have J3:=J2.laid (h':=((s.heap.update D (Obj.mapSeq λ_=>(#[]:Array Value))).push (seqObj "tuple" vs.toArray 0)).push (seqObj "list" #[] 0)) (t':=s.toks) (λb u q=>di _ q) (bZ _) (gO _ rfl);unfold ksk_tree;refine aL (listItems_at ho rfl ?_);refine aL (listUpdate_at ho rfl ?_ (by rw[d7,sizeLine_eq];omega) (Nat.zero_le _));refine aL (seqEpoch_at ho1 rfl ?_);refine aL (wpAny_newTuple ?_ (by show vs.length<=_;rw[sizeLine_eq];omega));refine aL (wpAny_newList ?_ (Nat.zero_le _));refine wpAny_holding ?_;refine znS N J3 ?_ hlen hko h64 turn h;have:D<((s.heap.update D (Obj.mapSeq λ_=>(#[]:Array Value))).push (seqObj "tuple" vs.toArray 0)).objs.size:=by rw[size_push',Heap.size_update];exact Nat.lt_succ_of_lt ha
 exact dJ this
end
section
variable {X:Cx}{pins:List (Addr×Obj)}{σ:L2.St}{S:So}{H₀ H:Hp}{α₀ α:List Addr}{base:Heap}{n0:Nat}{s:Shared}{A:Around}{E:Value->Shared->Prop}{a l:Addr}{vs:List Value}{kz:List MX.D}{Q:Value->Shared->Prop}
theorem zj2(N:N0 X pins base n0)(J:SJ X pins σ S H₀ α₀ base n0 [] s H α)(hl:s.heap.IsList l vs.toArray)(hlen:kz.length=vs.length)(hko:(kz.all nG||kz.all mK)=true)(h64:vs.length<64)(turn:∀(i:Nat) (v:Value) (k:MX.D),vs[i]?=some v->kz[i]?=some k->∀own p0,p0∈own->∀s H α,SJ X pins σ S H₀ α₀ base n0 own s H α->wpAny (model X.prog X.w) A.in1.in1 (call (.ref a) [v]) (λr s'=>∃w H' α',Rep X.K H' α' k w/\RelV w r/\Ext X.K H α H' α'/\SJ X pins σ S H₀ α₀ base n0 own s' H' α') (λ_ _=>False) s)(h:∀D c s' H' α',SJ X pins σ S H₀ α₀ base n0 [(D,seqObj "list" ((iD kz).map λi=>vs.getD i .none).toArray c)] s' H' α'->Q (.ref D) s'):
 wpAny (model X.prog X.w) A (call (.builtin "sorted") [.ref l] [(Str.ofString "key",.ref a)]) Q E s:=by
 refine call_function_entry_kw kind_sorted plain_sorted entry_sorted (ksk_s1 _ _) ?_;unfold Builtin.«sorted»;refine aL (m:=checkCount "sorted" 1 1 _) (bO ?_);refine aL (collect_list hl ?_ (by rw[sizeLine_eq];omega));refine aL (wpAny_newList ?_ (by rw[sizeLine_eq];omega));have hsz:((s.heap.push (seqObj "list" #[] 0)).update s.heap.objs.size (Obj.mapSeq (·++vs.toArray))).objs.size=s.heap.objs.size+1:=by rw[Heap.size_update,size_push']
 have hoL:(((s.heap.push (seqObj "list" #[] 0)).update s.heap.objs.size (Obj.mapSeq (·++vs.toArray))).push (seqObj "list" vs.toArray 0)).get? (s.heap.objs.size+1)=some (seqObj "list" vs.toArray 0):=by rw[<-hsz];exact gO _ rfl
 have keep:∀b o,s.heap.get? b=some o->(((s.heap.push (seqObj "list" #[] 0)).update s.heap.objs.size (Obj.mapSeq (·++vs.toArray))).push (seqObj "list" vs.toArray 0)).get? b=some o:=λb o q=>by have hlt:b<s.heap.objs.size:=cJ q;rw[Heap.get?_push_ne _ _ _ (by rw[hsz];exact dJ (Nat.lt_succ_of_lt hlt)),Heap.get?_update_ne _ _ _ _ (dJ hlt),Heap.get?_push_ne _ _ _ (dJ hlt)];exact q
 have J1:=J.laid (h':=((s.heap.push (seqObj "list" #[] 0)).update s.heap.objs.size (Obj.mapSeq (·++vs.toArray))).push (seqObj "list" vs.toArray 0)) (t':=s.toks) keep (Nat.le_succ _) hoL;show wpAny _ _ _ _ _ { s with heap:=((s.heap.push (seqObj "list" #[] 0)).update s.heap.objs.size (Obj.mapSeq (·++vs.toArray))).push (seqObj "list" vs.toArray 0) };rw[hsz];refine aL (wpAny_holding (wpAny_call_entry_kw slot_list_sort ⟨_,hoL,rfl⟩ entry_list_sort ?body (ksk_l1 _ _)))
 case body =>
  show wpAny (model X.prog X.w) A.in1.in1 (Builtin.«list.sort» ⟨[.ref (s.heap.objs.size+1)],[(Str.ofString "key",.ref a)]⟩) _ _ _;rw[ksk_t1];refine znR N J1 hlen hko h64 turn λc s' H' α' J'=>⟨_,rfl,?_⟩
  exact bO ⟨_,rfl,h _ _ _ _ _ J'⟩
theorem SJ.adopt{D:Addr}{c:Nat}{ws:List V}(N:N0 X pins base n0)(J:SJ X pins σ S H₀ α₀ base n0 [(D,seqObj "list" out.toArray c)] s H α)(hv:Vals ws out)(hz:ws.length<=sizeLine):Inv X pins σ (upd H D (.lst ws)) s:=by
 obtain⟨e,hn,h0⟩:=J.own _ (List.mem_singleton.mpr rfl);have I:=J.inv;refine I.step (h':=s.heap) (g':=s.gens) (d':=s.drawn) (t':=s.toks) (ch:=[D]) (λb hb=>?_) (λb o _ _ _ q _=>q) (λb o _ _ _ q _=>⟨o.slots,q⟩) (λb o hb q n=>?_) (λb o _ q=>⟨o,q⟩) (λb xs q=>?_) (λb o u q=>?_) (λb ps q=>?_) (λm q=>q) (λb o q=>?_) I.bare
 .rw[List.mem_singleton.mp hb];exact⟨.inr (Nat.le_trans N.s0 h0),Nat.ne_of_gt (dN N.loc h0),λx c q=>dJ (dN (N.cel x c q) h0),λp hp=>dJ (dN (N.pin p hp) h0)⟩
 .rw[cu (λz=>hb (by simp[z]))];exact n
 .rw[cu (gR q hn)];exact q
 .rw[cu (gR q hn)];exact q
 .exact⟨#[],by rw[cu (gR q hn),q];simp⟩
 .by_cases hb:b=D
  .subst hb;rw[fY] at q;cases q;exact⟨hz,out,c,hv,e⟩
  .rw[cu hb] at q;exact(I.hok b o q).stay (λ_ _ _ r=>r) (λx r=>by rw[cu (gR r hn)];exact r) λx xs r=>by rw[cu (gR r hn)];exact r
end
section
variable {X:Cx}{pins:List (Addr×Obj)}{σ:L2.St}{H1 H':Hp}{s1 s':Shared}{params:Arguments}{body:Expr}{scope:Scope}{bN:Pos}{P Pt:Addr}{cap:List Str}{gH:List V}{a:Addr}{q:Str}{fb:EF}{k:Nat}{clos:List (Str×Addr)}{iG:List D}{cdv:Value}{base:Heap}
theorem X7(hsc:scope.kind = .function/\scope.isCoroutine=false/\scope.isGenerator=false/\scope.names.lookup q=some .local/\∀y∈scope.names,y.2 ≠ .cell)(hu:∀y∈scope.names,scope.names.lookup y.1=some y.2)(hbind:∀(pm cdv ctv:Value) (clos:List (Str×Addr)) (qual:Str) (u:Value),bindArgs (kla_fn "<lambda>" qual params body scope clos pm cdv ctv) ⟨[u],[]⟩=pure [(q,u)])(hbody:∀(a:Addr) (cdv:Value) (clos:List (Str×Addr)) (qual:Str) (A:Around) (outer:List Env) (s:Shared) (H:Hp) (E:XK),bK k (A.deeper (envX qual scope s.heap.objs.size a cdv clos)) ->
  SE (wY X.prog X.w X.K X.mg base (q::cap) qual scope a cdv clos A outer s H E).nox body fb)(hlo:wj iG=true)(hl:cap.length=gH.length)(C:Xo base X.env.qual params body scope clos cap gH a cdv):
 Ed X.prog X.w X.K X.mg base (k+1) a (λH=>aG X.K H [] iG gH/\∃ps,H Pt=some (.tbl ps)/\codeAmong bN ps.toList=some cdv) (tG fb iG):=by
 obtain⟨pm,ctv,ho⟩:=C.obj;have lam:=Zd (P:=X.prog) (w:=X.w) (K:=X.K) (mg:=X.mg) (k:=k) (Pt:=Pt) (bN:=bN) (p:=q) (cap:=cap) (gH:=gH) (cus:=[])
  (sp:=λvs H Q E=>vs.length=1/\(aG X.K H [] iG gH/\∃ps,H Pt=some (.tbl ps)/\codeAmong bN ps.toList=some cdv)/\jQ X.K (tG fb iG) vs H Q)
  ho rfl (λvs H Q E h=>h.2.1.2) ⟨hsc.1,hsc.2.1,hsc.2.2.1,hsc.2.2.2.1,hsc.2.2.2.2,λy hy=>C.has y (iJ hy),C.inj⟩ C.cells
  (λi y v h1 h2=>⟨hu _ (C.cap i y v h1 h2).1,(C.cap i y v h1 h2).2⟩) hl (λvs H Q E h=>h.1)
  (λqual A outer s H v Q E hr h=>⟨_,hbody a cdv clos qual A outer s H E hr,?_⟩)
 .exact⟨_,q,_,lam,ho,λs u => .of_eq (hbind pm cdv ctv clos _ u),λvs H Q hR h1 h2=>⟨h1,hR,h2⟩⟩
 .obtain⟨_,⟨hrep,_⟩,S,α,ds,z,S',hs,hrs,hf,kk⟩:=h;unfold tG at hf;split at hf
  .rename_i d;cases hrs with
   |cons r1 r2 =>
    cases r2;refine⟨some d::iG.map some,S,α,z,S',⟨by simp[hrep.length],λi d' e'=>?_⟩,hs,hf,kk⟩;cases i with
    |zero =>
     simp at e';subst e';exact⟨v,rfl,r1⟩
    |succ i =>
     rw[List.getElem?_cons_succ,iY] at e';cases qd:iG[i]? with
     |none=>rw[qd] at e';cases e'
     |some d2 =>
      rw[qd] at e';cases e';obtain⟨v2,k1,k2⟩:=(hrep.monoT (α':=α) gk.refl hlo).get qd;exact⟨v2,by rw[List.getElem?_cons_succ,iY,k1];rfl,k2⟩
  .cases hf
end
open Classical in
noncomputable def pR(ψ:GN)(S:So):List D->Option (List D)
 |[]=>some []
 |d::r=>match ψ [d] S with
  |some (k,S')=>if S'=S then(pR ψ S r).map λl=>k::l else none
  |_=>none
theorem zjq{ψ:GN}{r:List D}{k:D}{l:List D}(h:ψ [d] S=some (k,S))(hr:pR ψ S r=some l):pR ψ S (d::r)=some (k::l):=by unfold pR;rw[h];simp[hr]
theorem UW{ψ:GN}{S:So}:∀{xs:List D} {kz:List D},pR ψ S xs=some kz->kz.length=xs.length/\∀(i:Nat) d k,xs[i]?=some d->kz[i]?=some k->ψ [d] S=some (k,S)
 |[],kz,h=>by cases h;exact⟨rfl,λi d k e=>by simp at e⟩
 |x::r,kz,h=>by
  unfold pR at h;split at h
  .rename_i k0 S0 e0;split at h
   .rename_i hS;subst hS;simp only[aX] at h;obtain⟨l,e1,rfl⟩:=h;obtain⟨h1,h2⟩:=UW e1;refine⟨by simp[h1],λi d k e3 e4=>?_⟩;cases i with
    |zero=>simp at e3 e4;subst e3 e4;exact e0
    |succ i=>exact h2 i d k (by simpa using e3) (by simpa using e4)
   .cases h
  .cases h
noncomputable def wV(fe:EF)(src:List Nat)(fb:EF):EF:=λσ S=>(fe σ S).bind λr=>(pG src σ).bind λiG=>if wj iG=true then match r.1 with
 |.ref n=>match r.2[n]? with
  |some (.lst xs)=>if xs.length<64 then(pR (tG fb iG) r.2 xs).bind λkz=>if(kz.all nG||kz.all mK)=true then some (.ref r.2.length,r.2++[.lst ((iD kz).map λi=>xs.getD i .non)]) else none else none
  |_=>none
 |_=>none
 else none
theorem Vm{K:FgA}{H:Hp}{α:List Addr}{xs:List D}{ws:List V}(r:aG K H α xs ws):∀l:List Nat,aG K H α (l.map λi=>xs.getD i .non) (l.map λi=>ws.getD i .non)
 |[] => .nil
 |i::l=>by
  refine .cons (show Rep K H α (xs.getD i .non) (ws.getD i .non) from ?_) (Vm r l);by_cases hi:i<xs.length
  .obtain⟨v,h1,h2⟩:=r.get (f9 hi);rw[List.getD_eq_getElem?_getD,List.getD_eq_getElem?_getD,f9 hi,h1];exact h2
  .have hi':¬i<ws.length:=by rw[<-r.length];exact hi
   rw[List.getD_eq_getElem?_getD,List.getD_eq_getElem?_getD,j9 (by omega),j9 (by omega)];exact .non
theorem Vc{ws:List V}{us:List Value}(r:Vals ws us):∀l:List Nat,Vals (l.map λi=>ws.getD i .non) (l.map λi=>us.getD i .none)
 |[] => .nil
 |i::l=>by
  refine .cons (show RelV (ws.getD i .non) (us.getD i .none) from ?_) (Vc r l);by_cases hi:i<ws.length
  .obtain⟨v,h1,h2⟩:=r.get (f9 hi);rw[List.getD_eq_getElem?_getD,List.getD_eq_getElem?_getD,f9 hi,h1];exact h2
  .have hi':¬i<us.length:=by rw[<-r.length];exact hi
   rw[List.getD_eq_getElem?_getD,List.getD_eq_getElem?_getD,j9 (by omega),j9 (by omega)];exact rfl
section
variable {X:Cx}{p pos bN kp:Pos}{e:Expr}{fe fb:EF}{params:Arguments}{body:Expr}{scope:Scope}{q:Str}{cap:List Str}{src:List Nat}{k:Nat}{Pt ct:Addr}
theorem Xy(L:Ef X Pt ct)(hsc:scope.kind = .function/\scope.isCoroutine=false/\scope.isGenerator=false/\scope.names.lookup q=some .local/\∀y∈scope.names,y.2 ≠ .cell)(hu:∀y∈scope.names,scope.names.lookup y.1=some y.2)(hcap:∀y∈cap,(y,NameKind.free)∈scope.names)(hfree:∀y∈scope.names,y.2 = .free->X.env.kindOf y.1=some .cell)(gW:∀(i:Nat) y,cap[i]?=some y->∃j,src[i]?=some j/\X.N[j]?=some y)(hlen:cap.length=src.length)(hdef:defaultsOf params X.env=([],[]))(hbind:∀(pm cdv ctv:Value) (clos:List (Str×Addr)) (qual:Str) (u:Value),bindArgs (kla_fn "<lambda>" qual params body scope clos pm cdv ctv) ⟨[u],[]⟩=pure [(q,u)])(hbody:∀(base:Heap),Mod X.K X.mg base->∀(a:Addr) (cdv:Value) (clos:List (Str×Addr)) (qual:Str) (A:Around) (outer:List Env) (s:Shared) (H:Hp) (E:XK),bK k (A.deeper (envX qual scope s.heap.objs.size a cdv clos)) ->
  SE (wY X.prog X.w X.K X.mg base (q::cap) qual scope a cdv clos A outer s H E).nox body fb)(hr:bK (k+3) X.A)(hg:Gl X "sorted")(hm:X.mg "sorted" = none)(ha:SE X e fe)(he:starEach [e] X.env=[(false,eval e X.env)]):
 SE X (.Call (.Name "sorted" p) [e] [⟨some "key",.Lambda params body scope bN,kp⟩] pos) (wV fe src fb):=by
 intro pins s σ H Q I h;obtain⟨σd,S,α,z,S',hv,hs,hf,kk⟩:=h;unfold wV at hf;simp only[bC] at hf;obtain⟨⟨d1,S1⟩,e1,iG,e2,e3⟩:=hf;split at e3
 .rename_i hlo;split at e3
  .rename_i n en;simp only at en;subst en;split at e3
   .rename_i xs ex;split at e3
    .rename_i h64;simp only[bC] at e3;obtain⟨kz,ek,e4⟩:=e3;rw[Option.ite_none_right_eq_some] at e4;obtain⟨hko,e4⟩:=e4;cases e4;obtain⟨hkl,hkg⟩:=UW ek;obtain⟨gH,c1,c2,c3⟩:=T8 hv e2;refine wpAny_Call_Name_kw (q9 I hg hm (show bootBuiltins "sorted" = some (.builtin "sorted") by decide +kernel) ?_ (by decide) (by decide));have hst:backTo pos (starEach [e] X.env)=(false,eval e X.env)::backTo pos (starEach [] X.env):=by rw[he];rfl
     refine callWith_kw ?_ hst (by rw[hst];rfl) rfl rfl;rw[hst];refine Calls.spliced_cons (bR (ha pins s σ H (λv H1=>∃α1,aA X.K H1 α1 S1/\Ext X.K H α H1 α1/\Rep X.K H1 α1 (.ref n) v) I ⟨σd,S,α,.ref n,S1,hv,hs,e1,λw H1 α1 s1 x1 r1=>⟨α1,s1,x1,r1⟩⟩) λu1 s1 ⟨v1,H1,I1,r1,α1,st1,x1,BL⟩=>?_);refine Calls.spliced_nil ?_;cases BL with
     |@ref _ l hl =>
      cases r1;obtain⟨ws,hw,rws⟩:=st1.obj _ _ _ ex hl;have hcells:∀y∈scope.names,y.2 = .free->∃c,X.env.cells.lookup y.1=some c:=λy hy e=>I1.ok.has y.1 (.inl (hfree y hy e));obtain⟨ps0,Pq⟩:=L.tab;obtain⟨more,hps⟩:=I1.base.tbls Pt ps0 Pq;refine kws_cons (zmq I1 hps L.code L.hd L.bm (zjy hcells) hdef λa s2 H2 M=>kws_nil ?_);obtain⟨cdv,C,Pz⟩:=zmm I1 M hcap hfree L.fn (gH:=gH) (λi y hi=>by
       obtain⟨j,k1,k2⟩:=gW i y hi;obtain⟨v,k3,k4⟩:=c3 i j k1;exact⟨j,v,k2,k3,k4⟩)
      have I2:=M.inv;obtain⟨e0,kb⟩:=zlc I2;have N:=N0.of I2;have hw2:H2 l=some (.lst ws):=M.same.1 _ _ hw λ_ z=>by cases z
      have J:SJ X pins σ S1 H2 α1 (nM s2.heap H2 X.stack) s2.heap.objs.size [] s2 H2 α1:=⟨I2,M.same.store st1,Ext.refl,gk.refl,bZ _,λb o e=>Vi e,λp hp=>(nomatch hp)⟩
      obtain⟨hz,its,en,rv,hits,ho⟩:=I2.lstM hw2;have hil:s2.heap.IsList l its.toArray:=⟨_,ho,rfl,en,rfl⟩
      have clo:=X7 (X:=X) (Pt:=Pt) (bN:=bN) (k:=k) hsc hu hbind (hbody _ e0.mod) hlo (by rw[hlen,c2]) C;have hR:aG X.K H2 [] iG gH/\∃ps,H2 Pt=some (.tbl ps)/\codeAmong bN ps.toList=some cdv:=⟨(c1.mono (x1.trans M.same.ext)).monoT gk.refl hlo,Pz⟩
      have BK:=rws.mono (M.same.ext (α:=α1));refine zj2 (kz:=kz) N J hil (by rw[hkl,rws.length];exact hits) hko (by rw[<-hits,<-rws.length];exact h64) (λi u kv hu hk own p0 hp0 s3 H3 α3 J3=>?_) λDd c s3 H3 α3 J3=>?_
      .obtain⟨w,hw3,rw3⟩:∃w,ws[i]?=some w/\RelV w u:=by
        have hi:i<ws.length:=by rw[hits];exact(fO.mp hu).1
        obtain⟨u',hu',r'⟩:=rv.get (f9 hi);rw[hu] at hu';cases hu';exact⟨_,f9 hi,r'⟩
       obtain⟨d,hd,rd⟩:=BK.getV hw3;refine SJ.call N e0.mod J3 (A:=X.A.in1.in1) rfl hr.in1.in1 clo (λHa Hb t hR=>⟨hR.1.monoT t hlo,?_⟩) hR hp0 (rd.mono J3.ext) rw3 (hkg i d kv hd hk);obtain⟨ps,h1,h2⟩:=hR.2;obtain⟨more,h3⟩:=t.tbls _ _ h1;exact⟨_,h3,by rw[Array.toList_append];exact zjB _ _ h2⟩
      .have CG:((iD kz).map λi=>ws.getD i V.non).length<=sizeLine:=by rw[cW,(Ao kz).length_eq,List.length_range,sizeLine_eq];omega
       have I3:=J3.adopt N (Vc rv (iD kz)) CG;have hnD:=(J3.own _ (List.mem_singleton.mpr rfl)).2.1;obtain⟨s4,x4⟩:=J3.st.snoc (p:=Dd) (o := .lst ((iD kz).map λi=>xs.getD i .non)) (u := .lst ((iD kz).map λi=>ws.getD i V.non)) hnD λα' x=>⟨_,fY,(Vm (BK.mono J3.ext) (iD kz)).mono x⟩
       refine⟨.ref Dd,_,I3,rfl,kk _ _ _ s4 ((x1.trans (M.same.ext (α:=α1))).trans (J3.ext.trans x4)) (.ref ?_)⟩;rw[<-J3.st.len];simp
    .cases e3
   .cases e3
  .cases e3
 .cases e3
end
section
variable {prog:Program}{w:World}{A:Around}{R:Result->Shared->Prop}{it S:Addr}{fp wr:List Addr}{n:Nat}{P:Nat->Value->Prop}{St:Nat->Heap->Prop}{bt:Nat->Nat->Bool}{d:Value}
noncomputable abbrev Cp(b:Array Value)(c:Nat):Obj:={ cls := .type "list",dict:=none,data := .seq b c,slots:=#[] }
theorem zoK(W:Walks prog w A.in1 it fp wr n P St)(hc:CmpOf prog w A.in1 .Gt P bt)(hS:S∉fp):∀(k j:Nat) (s:Shared) (b:Array Value) (c:Nat),n - j=k->j<=n->St j s.heap ->
 ((j=0/\b=#[])\/∃v i,j=i+1/\b=#[v,v]/\P (argBest bt i) v)->s.heap.get? S=some (Cp b c) ->
 (∀v h' tk,(n=0/\v=d)\/(0<n/\P (argBest bt (n - 1)) v)->(∀a o,a∉wr->a≠S->s.heap.get? a=some o->h'.get? a=some o)->R (.ok (.ret v)) { s with heap:=h',toks:=tk }) ->
 codeAny (model prog w) A (.builtin "max.loop" ⟨[.ref it,.none,.ref S],[("default",d)]⟩) R s:=by
 have nm:(toString "max" ++ toString ".loop" : String) = "max.loop" := by decide
 have nw:S∉wr:=λz=>hS (W.sub _ z);intro k
 induction k with
 |zero =>
  intro j s b c e1 e2 st hb gS hR;have ej:j=n:=by omega
  subst ej;refine codeAny_builtin PySem.F.entry_max_loop ?_;rw[Around.under_plainId PySem.F.plain_max_loop _];show wpAny _ A.in1 (seqItems? (.ref S) >>= _) _ _ s;refine aL (wpAny_seqItems gS rfl ?_);show wpAny _ A.in1 (tryCatch (pyNext (.ref it)) _ >>= _) _ _ s;refine aL (wpAny_tryCatch (W.done s _ _ st λh' tk kp=>?_));rcases hb with⟨h0,rfl⟩|⟨v,i,h0,rfl,hv⟩
  .refine aL (wpAny_rule (bO ?_));exact hR d h' tk (.inl ⟨h0,rfl⟩) λa o a1 _ e=>kp a o a1 e
  .have wK:=kp S _ nw gS;show wpAny _ A.in1 (updateSeq S (λ_=>#[]) >>= _) _ _ _;refine aL ?_;refine wpAny_updateSeq wK rfl (aL (wpAny_letGo (bO ?_)));exact hR v _ tk (.inr ⟨by omega,by rw[h0];exact hv⟩) λa o a1 a2 e=>(zf _ _ (Ne.symm a2)).trans (kp a o a1 e)
 |succ k ih =>
  intro j s b c e1 e2 st hb gS hR;have hj:j<n:=by omega
  refine codeAny_builtin PySem.F.entry_max_loop ?_;rw[Around.under_plainId PySem.F.plain_max_loop _];show wpAny _ A.in1 (seqItems? (.ref S) >>= _) _ _ s;refine aL (wpAny_seqItems gS rfl ?_);show wpAny _ A.in1 (tryCatch (pyNext (.ref it)) _ >>= _) _ _ s;refine aL (wpAny_tryCatch (W.item j s _ _ hj st λv h' tk hv st2 kp=>?_));have wK:=kp S _ nw gS;have up:∀a∈fp,∀o,h'.get? a=some o->(h'.update S (Obj.mapSeq λ_=>#[v,v])).get? a=some o:=λa ha o e=>(zf _ _ (λz:S=a=>hS (z ▸ ha))).trans e;rcases hb with⟨h0,rfl⟩|⟨u,i,h0,rfl,hu⟩
  .subst h0;show wpAny _ A.in1 (updateSeq S (λ_=>#[v,v]) >>= _) _ _ _;refine aL ?_;refine wpAny_updateSeq wK rfl ?_;rw[nm];refine bO ⟨plainId_quiet PySem.F.plain_max_loop _,ih 1 _ _ _ (by omega) hj (W.frame _ _ _ st2 up) (.inr ⟨v,0,rfl,rfl,hv⟩) (Dv _ wK rfl) λv2 h2 tk2 q Cu=>?_⟩;exact hR v2 h2 tk2 q λa o a1 a2 e=>Cu a o a1 a2 ((zf _ _ (Ne.symm a2)).trans (kp a o a1 e))
  .subst h0;show wpAny _ A.in1 (tryCatch (holding [v,v] (richCompare .Gt v u >>= _)) _ >>= _) _ _ _;refine aL (wpAny_tryCatch (wpAny_holding (aL (hc (i+1) (argBest bt i) v u _ _ _ hv hu ?_))));refine aL (wpAny_holding (wpAny_truthy_bool ?_));refine aL (wpAny_letGo (bO ?_));cases hb:bt (i+1) (argBest bt i) with
   |true =>
    simp only[if_true];refine aL ?_;refine wpAny_updateSeq wK rfl (aL (wpAny_letGo ?_));rw[nm];refine bO ⟨plainId_quiet PySem.F.plain_max_loop _,ih (i+1+1) _ _ _ (by omega) hj (W.frame _ _ _ st2 up) (.inr ⟨v,i+1,rfl,rfl,by unfold argBest;rw[if_pos hb];exact hv⟩) (Dv _ wK rfl) λv2 h2 tk2 q Cu=>?_⟩;exact hR v2 h2 tk2 q λa o a1 a2 e=>Cu a o a1 a2 ((zf _ _ (Ne.symm a2)).trans (kp a o a1 e))
   |false =>
    simp only[Bool.false_eq_true,if_false];refine aL (wpAny_letGo ?_);rw[nm];refine bO ⟨plainId_quiet PySem.F.plain_max_loop _,ih (i+1+1) _ _ c (by omega) hj st2 (.inr ⟨u,i+1,rfl,rfl,by unfold argBest;rw[if_neg (by rw[hb];simp)];exact hu⟩) wK λv2 h2 tk2 q Cu=>?_⟩;exact hR v2 h2 tk2 q λa o a1 a2 e=>Cu a o a1 a2 (kp a o a1 e)
end
def zoM(a v:Value):argsOk "max" ⟨[a],[("default",v)]⟩:=by unfold argsOk;kernel_rfl
theorem zoL{d:Value}(hh:A.handled=none)(hl:s.heap.IsList l (intItems xs))(h:∀v h' tk,(xs.size=0/\v=d)\/(0<xs.size/\(intItems xs)[argBest (λi j=>decide (numAt xs i>numAt xs j)) (xs.size - 1)]?=some v)->(∀b o,s.heap.get? b=some o->h'.get? b=some o)->Q v { s with heap:=h',toks:=tk }):
 wpAny (model prog w) A (call (.builtin "max") [.ref l] [("default",d)]) Q E s:=by
 have nm:(toString "max" ++ toString ".loop" : String) = "max.loop" := by decide
 refine kmk_tree PySem.F.kind_max PySem.F.plain_max PySem.F.entry_max (zoM _ _) ?_;show wpAny _ A.in1 (Builtin.Builtins.bindParams "max" ["key", "default"] 0 ⟨[],[("default",d)]⟩ >>= _) _ _ s;refine aL (wpAny_of_eq (show Builtin.Builtins.bindParams "max" ["key", "default"] 0 ⟨[],[("default",d)]⟩=pure [none,some d] from rfl) ?_);refine aL (bO ?_);refine aL (iter_intList hl λs2 e st hfp hlI=>?_);subst e;refine aL (wpAny_newObj_type ?_);have W:=Walks.list (prog:=prog) (w:=w) (A:=A.in1) hh _ l hlI (intItems xs);have hz:(intItems xs).size=xs.size:=by simp[intItems]
 rw[nm];refine bO ⟨plainId_quiet PySem.F.plain_max_loop _,zoK W (CmpOf.ints_gt (numAt xs) (λ_ _=>intItems_at)) (λz=>gZ _ (hfp _ z)) _ 0 _ _ _ rfl (Nat.zero_le _) (W.frame _ _ _ st λb _ o e=>di _ e) (.inl ⟨rfl,rfl⟩) (gO _ rfl) λv h' tk q kp=>?_⟩;refine h v h' tk (by rw[hz] at q;exact q) λb o e=>?_;have hb:=cJ e;refine kp b o (λz=>?_) (dJ (by rw[size_push'];exact Nat.lt_succ_of_lt hb)) (di _ (di _ e));rw[List.mem_singleton.mp z] at hb;exact gZ _ hb
noncomputable def uU(fe fd:EF):EF:=λσ S=>(fe σ S).bind λr=>(fd σ r.2).bind λq=>match r.1 with
 |.ref n=>match q.2[n]? with
  |some (.lst xs)=>(mW xs).bind λns=>if ns=[] then some q else(iM ns).map λm=>(.int m,q.2)
  |_=>none
 |_=>none
theorem zp9{kp:Pos}{d:Expr}{fd:EF}(hc:X.calm=true)(hg:Gl X "max")(hm:X.mg "max" = none)(ha:SE X e fe)(hd:SE X d fd)(he:starEach [e] X.env=[(false,eval e X.env)]):
 SE X (.Call (.Name "max" p) [e] [⟨some "default",d,kp⟩] pos) (uU fe fd):=by
 intro pins s σ H Q I h;obtain⟨σd,S,α,z,S',hv,hs,hf,kk⟩:=h;unfold uU at hf;simp only[bC] at hf;obtain⟨⟨d1,S1⟩,e1,⟨d2,S2⟩,e2,e3⟩:=hf;split at e3
 .rename_i n en;simp only at en;subst en;split at e3
  .rename_i xs ex;simp only[bC] at e3;obtain⟨ns,en,e3⟩:=e3;refine wpAny_Call_Name_kw (q9 I hg hm (show bootBuiltins "max" = some (.builtin "max") by decide +kernel) ?_ (by decide) (by decide));have hst:backTo pos (starEach [e] X.env)=(false,eval e X.env)::backTo pos (starEach [] X.env):=by rw[he];rfl
   refine callWith_kw ?_ hst (by rw[hst];rfl) rfl rfl;rw[hst];refine Calls.spliced_cons (bR (ha pins s σ H (λv H1=>∃α1,aA X.K H1 α1 S1/\Ext X.K H α H1 α1/\Rep X.K H1 α1 (.ref n) v) I ⟨σd,S,α,.ref n,S1,hv,hs,e1,λw H1 α1 s1 x1 r1=>⟨α1,s1,x1,r1⟩⟩) λu1 s1 ⟨v1,H1,I1,r1,α1,st1,x1,BL⟩=>?_);refine Calls.spliced_nil (kws_cons (bR (hd pins s1 σ H1 (λv H2=>∃α2,aA X.K H2 α2 S2/\Ext X.K H1 α1 H2 α2/\Rep X.K H2 α2 d2 v) I1 ⟨σd,S1,α1,d2,S2,hv.mono x1,st1,e2,λw H2 α2 s2 x2 r2=>⟨α2,s2,x2,r2⟩⟩) λu2 s2 ⟨v2,H2,I2,r2,α2,st2,x2,rp2⟩=>kws_nil ?_));cases BL.mono x2 with
   |@ref _ l hl =>
    cases r1;obtain⟨ws,q,r⟩:=nP st2 hl (.inl ex);obtain⟨its,rr,pl,hz⟩:=I2.list q;have hi:=vK r rr en;obtain⟨xs,hxs⟩:=hi.allInts.items;have hnn:numsOf (intItems xs).toList=ns:=by rw[<-hxs];simpa using hi.numsOf
    rw[nums_intItems] at hnn;have hll:xs.size=ns.length:=by have:=congrArg List.length hnn;simpa using this
    refine zoL (I2.ok.hd hc) (by rw[<-hxs];exact pl.isList) λv h' tk hv' hk=>?_;rcases hv' with⟨h0,rfl⟩|⟨h0,hv'⟩
    .rw[if_pos (List.length_eq_zero_iff.mp (by omega))] at e3;cases e3;exact⟨v2,H2,I2.kept hk,r2,kk _ _ _ st2 (x1.trans x2) rp2⟩
    .rw[if_neg (λz=>by rw[z] at hll;rw[hll] at h0;exact gZ _ h0)] at e3;simp only[aX] at e3;obtain⟨m,e4,e5⟩:=e3;cases e5;obtain⟨t,rfl⟩:=intItems_at hv';obtain⟨h1,h2⟩:=argBest_gt (numAt xs) (xs.size - 1);have hm:iM ns=some (numAt xs (argBest (λi j=>decide (numAt xs i>numAt xs j)) (xs.size - 1))):=by
      refine Fd ?_ λb hb=>?_
      .rw[<-hnn,numAt_eq];exact getD_mem (by rw[cW,Array.length_toList];omega)
      .rw[<-hnn] at hb;obtain⟨j,hj,rfl⟩:=mem_getD hb;rw[cW,Array.length_toList] at hj;rw[<-numAt_eq];exact h2 j (by omega)
     rw[e4] at hm;cases hm;exact⟨.int _,H2,I2.kept hk,⟨t,rfl⟩,kk _ _ _ st2 (x1.trans x2) (.int _)⟩
  .cases e3
 .cases e3
end MX
end
section
namespace MX
open PySem PySem.Spec PyProof.Rows L2
noncomputable def uX(f:Str)(v:D):List (Str×D)->List (Str×D)
 |[]=>[(f,v)]
 | (g,x)::r=>if g=f then(g,v)::r else(g,x)::uX f v r
section
variable {K:FgA}{H:Hp}{α:List Addr}
inductive cN(K:FgA)(H:Hp)(α:List Addr):List (Str×D)->List (Str×V)->Prop
 |nil:cN K H α [] []
 |cons {f:Str} {d:D} {v:V} {fs:List (Str×D)} {gs:List (Str×V)} (h:Rep K H α d v) (r:cN K H α fs gs):cN K H α ((f,d)::fs) ((f,v)::gs)
theorem cN.of:∀{fs:List (Str×D)} {gs:List (Str×V)},fs.map (·.1)=gs.map (·.1)->aG K H α (fs.map (·.2)) (gs.map (·.2))->cN K H α fs gs
 |[],[],_,_ => .nil
 |[],_::_,e,_=>by cases e
 |_::_,[],e,_=>by cases e
 | (f,d)::fs,(g,v)::gs,e,r=>by
   injection e with e1 e2;cases e1;cases r with
   |cons a b=>exact .cons a (cN.of e2 b)
def cN.keys:∀{fs:List (Str×D)} {gs:List (Str×V)},cN K H α fs gs->fs.map (·.1)=gs.map (·.1)
 |_,_,.nil=>rfl
 |_,_,.cons _ r=>by simp only[jd,r.keys]
def cN.reps:∀{fs:List (Str×D)} {gs:List (Str×V)},cN K H α fs gs->aG K H α (fs.map (·.2)) (gs.map (·.2))
 |_,_,.nil => .nil
 |_,_,.cons h r => .cons h r.reps
theorem cN.look{f:Str}{d:D}:∀{fs:List (Str×D)} {gs:List (Str×V)},cN K H α fs gs->fs.lookup f=some d->∃v,gs.lookup f=some v/\Rep K H α d v
 |_,_,.nil,h=>by cases h
 |_,_,@cN.cons _ _ _ g d' v' fs gs h r,e=>by
  rw[jL] at e ⊢;by_cases q:(f==g)=true
  .rw[q] at e ⊢;simp only at e ⊢;cases e;exact⟨_,rfl,h⟩
  .have q:(f==g)=false:=by simpa using q
   rw[q] at e ⊢;exact r.look e
theorem cN.lookN{f:Str}:∀{fs:List (Str×D)} {gs:List (Str×V)},cN K H α fs gs->fs.lookup f=none->gs.lookup f=none
 |_,_,.nil,h=>rfl
 |_,_,@cN.cons _ _ _ g d' v' fs gs h r,e=>by
  rw[jL] at e ⊢;by_cases q:(f==g)=true
  .rw[q] at e;cases e
  .have q:(f==g)=false:=by simpa using q
   rw[q] at e ⊢;exact r.lookN e
theorem cN.put{f:Str}{d:D}{v:V}(h0:Rep K H α d v):∀{fs:List (Str×D)} {gs:List (Str×V)},cN K H α fs gs->cN K H α (uX f d fs) (jC f v gs)
 |_,_,.nil => .cons h0 .nil
 |_,_,@cN.cons _ _ _ g d' v' fs gs h r=>by
  unfold uX jC;by_cases q:g=f
  .rw[if_pos q,if_pos q];exact .cons h0 r
  .rw[if_neg q,if_neg q];exact .cons h (r.put h0)
def cN.len{fs:List (Str×D)}{gs:List (Str×V)}(r:cN K H α fs gs):fs.length=gs.length:=by have:=congrArg List.length r.keys;simpa using this
end
noncomputable def ig(C f:Str)(fe:EF):EF:=λσ S=>(fe σ S).bind λr=>match r.1 with
 |.ref n=>match r.2[n]? with
  |some (.ins C' fs)=>if C'=C then(fs.lookup f).map λd=>(d,r.2) else none
  |_=>none
 |.obj C' ks xs=>if C'=C/\ks.length=xs.length then((ks.zip xs).lookup f).map λd=>(d,r.2) else none
 |_=>none
noncomputable def oJ(C f:Str)(fo fv:EF):SF:=λσ S=>(fv σ S).bind λr=>(fo σ r.2).bind λq=>match q.1 with
 |.ref n=>match q.2[n]? with
  |some (.ins C' fs)=>if C'=C/\fs.length<3 then some (.nx,σ,q.2.set n (.ins C (uX f r.1 fs))) else none
  |_=>none
 |_=>none
noncomputable def jV(C m:Str)(n:Nat)(φ:GN)(fo:EF)(fa:AF):EF:=λσ S=>(fo σ S).bind λr=>match r.1 with
 |.ref j=>match r.2[j]? with
  |some (.ins C' fs)=>if C'=C/\fs.lookup m=none then(fa σ r.2).bind λq=>aR n φ (.ref j::q.1) q.2 else none
  |_=>none
 |_=>none
noncomputable def nu(C:Str)(n:Nat)(S:So):D×So:=match S[n]? with
 |some (.ins C' fs)=>if C'=C/\3<=fs.length/\S.length=n+1/\cV n (fs.map (·.2))=true/\(S.take n).all (O.lo n)=true then(.obj C (fs.map (·.1)) (fs.map (·.2)),S.take n) else(.ref n,S)
 |_=>(.ref n,S)
noncomputable def nZ(C:Str)(n:Nat)(φ:GN)(fa:AF):EF:=λσ S=>(fa σ S).bind λr=>(aR n φ (.ref r.2.length::r.1) (r.2++[.ins C []])).bind λq=>match q.1 with
 |.non=>some (nu C r.2.length q.2)
 |_=>none
structure HX(X:Cx)(C f:Str):Prop where
 cls:jZ X.K (cU X.K C)
 no:eV X.K (cU X.K C) f
def Ia(X:Cx)(C m:Str)(n:Nat)(φ:GN):Prop:=∃f fd ps k,jZ X.K (cU X.K C)/\Meth X.K (cU X.K C) m f/\Binds X.K fd ps []/\cY X.prog X.w X.K X.mg X.base iW k f fd ps (tK X.K n φ)/\bK k X.A
def uK(X:Cx)(C:Str)(n:Nat)(φ:GN):Prop:=∃f fd ps k,X.mg C=some (.ref (cU X.K C))/\Mk X.K (cU X.K C) f/\Binds X.K fd ps []/\cY X.prog X.w X.K X.mg X.base iW k f fd ps (tK X.K n φ)/\bK (k+1) X.A
section
variable {X:Cx}{C f m:Str}{e o:Expr}{es:List Expr}{fe fo fv:EF}{fa:AF}{n:Nat}{φ:GN}{pos pos' apos p:Pos}
theorem Y7(ok:HX X C f)(he:SE X e fe)(hb:attributeBase e f X.env (eval e X.env)=eval e X.env):SE X (.Attribute e f pos) (ig C f fe):=by
 refine PE.imp (Zx he hb) λσ H Q h=>?_;obtain⟨σd,S,α,z,S',hv,hs,hf,k⟩:=h;unfold ig at hf;simp only[bC] at hf;obtain⟨⟨d,S1⟩,e1,e2⟩:=hf;refine⟨σd,S,α,d,S1,hv,hs,e1,λv H1 α1 s1 x1 r1=>?_⟩;simp only at e2;split at e2
 .rename_i j;split at e2
  .rename_i C' fs q;split at e2
   .rename_i hC;subst hC;simp only[aX] at e2;obtain⟨d',l,e3⟩:=e2;cases e3;cases r1 with
    |ref ha =>
     obtain⟨dx,gs,h1,h2,h3⟩:=s1.obj _ _ _ q ha;obtain⟨w,lw,fU⟩:=(cN.of h2 h3).look l;exact⟨_,_,dx,gs,w,rfl,h1,ok.cls,ok.no,lw,(k.trans x1).same s1 fU⟩
   .cases e2
  .cases e2
 .rename_i C' ks xs;split at e2
  .rename_i hC;obtain⟨rfl,hl⟩:=hC;simp only[aX] at e2;obtain⟨d',l,e3⟩:=e2;cases e3;cases r1 with
   |@obj a C dx gs ks ds vs h1 h2 h3 h4 h5 =>
    have z1:(ks.zip xs).map (·.1)=gs.map (·.1):=by rw[List.map_fst_zip (Nat.le_of_eq hl),h3]
    have z2:aG X.K H1 α1 ((ks.zip xs).map (·.2)) (gs.map (·.2)):=by rw[List.map_snd_zip (Nat.le_of_eq hl.symm),h4];exact h5
    obtain⟨w,lw,fU⟩:=(cN.of z1 z2).look l;exact⟨_,_,dx,gs,w,rfl,h1,ok.cls,ok.no,lw,(k.trans x1).same s1 fU⟩
  .cases e2
 .cases e2
theorem zpQ(ok:HX X C f)(ho:SE X o fo)(hv:SE X e fv)(hs:swapsWith e (some (.Attribute o f pos')) pos.line X.env=pure false):SS X (.Assign [.Attribute o f pos'] e pos) (oJ C f fo fv):=by
 refine PS.imp (YL ho hv hs) λD σ H h=>?_;obtain⟨σd,S,α,fl,σd',S',Pk,hss,hf,k⟩:=h;unfold oJ at hf;simp only[bC] at hf;obtain⟨⟨d,S1⟩,e1,⟨d2,S2⟩,e2,e3⟩:=hf;refine⟨σd,S,α,d,S1,Pk,hss,e1,λv H1 α1 s1 x1 r1=>⟨σd,S1,α1,d2,S2,Pk.mono x1,s1,e2,λv2 H2 α2 s2 x2 r2=>?_⟩⟩;simp only at e3;split at e3
 .split at e3
  .rename_i C' fs q;split at e3
   .rename_i hC;obtain⟨rfl,hl⟩:=hC;cases e3;cases r2 with
    |ref ha =>
     obtain⟨dx,gs,h1,h2,h3⟩:=s2.obj _ _ _ q ha;have R:=cN.of h2 h3;refine⟨_,_,dx,gs,rfl,h1,ok.cls,ok.no,by rw[<-R.len];exact Nat.lt_trans hl (by decide),?_⟩;obtain⟨s3,x3⟩:=s2.put' (o := .ins C' (uX f d fs)) (u := .ins (cU X.K C') dx (jC f v gs)) q rfl rfl ha h1 (λ_ z=>by cases z) (λ_ _ z=>by cases z) (λc dy hs l z=>by cases z;rw[<-R.len] at l;omega) λx=>by
      have R2:=(cN.put (f:=f) (r1.mono x2) R)
      exact⟨dx,_,fY,R2.keys,R2.reps.mono x⟩
     exact k _ _ _ (((Pk.mono x1).mono x2).mono x3) s3 ((x1.trans x2).trans x3)
   .cases e3
  .cases e3
 .cases e3
theorem Vg{args:List Expr}(hbase:attributeBase o m env (eval o env)=eval o env)(hfew:((backTo pos (starEach args env)).all (λx => !x.1)&&(backToKw pos (keywordEach [] env)).all (λx=>x.1.isSome)&&decide (args.length+([]:List Keyword).length+(if([]:List Keyword).isEmpty then 0 else 1)<30))=true)(hline:(apos.endLine==pos.line)=true):eval (.Call (.Attribute o m apos) args [] pos) env=(do
  let ov <-eval o env
  standAt apos.atName
  let (f,first) <-holding [ov] (getMethod ov m (do return(<-importBound o env).getD true))
  callWith pos f first (backTo pos (starEach args env)) (backToKw pos (keywordEach [] env))):=by
 have hform:methodCallForm (args.length+([]:List Keyword).length) (backTo pos (starEach args env)) (backToKw pos (keywordEach [] env))=true:=by have h:=hfew;rw[<-h];rfl
 have hpos:methodCallPos true o env apos pos=pure pos:=by unfold methodCallPos;simp[hline]
 rw[arm_eval_Call,hbase];unfold methodCall;rw[hform,hpos];rfl
theorem Zb(R:Ia X C m n φ)(ho:SE X o fo)(ha:SA X (e::es) fa)(hbase:attributeBase o m X.env (eval o X.env)=eval o X.env)(hfew:((backTo pos (starEach (e::es) X.env)).all (λx => !x.1)&&(backToKw pos (keywordEach [] X.env)).all (λx=>x.1.isSome)&&decide ((e::es).length+([]:List Keyword).length+(if([]:List Keyword).isEmpty then 0 else 1)<30))=true)(hline:(apos.endLine==pos.line)=true)(hst:starEach (e::es) X.env=(false,eval e X.env)::starEach es X.env)(hpl:(backTo pos (starEach es X.env)).any (·.1)=false):
 SE X (.Call (.Attribute o m apos) (e::es) [] pos) (jV C m n φ fo fa):=by
 obtain⟨f,fd,ps,kk,c,hm,hb,F,hr⟩:=R;refine PE.imp (zoh ho c hm F hr hb .nil DW ha hst hpl (Vg hbase hfew hline)) λσ H Q h=>?_;obtain⟨σd,S,α,z,S',hv,hs,hf,k⟩:=h;unfold jV at hf;simp only[bC] at hf;obtain⟨⟨d,S1⟩,e1,e2⟩:=hf;refine⟨σd,S,α,d,S1,hv,hs,e1,λv H1 α1 s1 x1 r1=>?_⟩;simp only at e2;split at e2
 .split at e2
  .rename_i C' fs q;split at e2
   .rename_i hC;obtain⟨rfl,hl⟩:=hC;simp only[bC] at e2;obtain⟨⟨ds,S2⟩,e3,e4⟩:=e2;unfold aR at e4;split at e4
    .rename_i hn;cases r1 with
     |ref ha =>
      obtain⟨dx,gs,h1,h2,h3⟩:=s1.obj _ _ _ q ha;refine⟨_,dx,gs,rfl,h1,(cN.of h2 h3).lookN hl,σd,S1,α1,ds,S2,hv.mono x1,s1,e3,λvs H2 α2 s2 x2 r2=>?_⟩;show tK _ _ _ (_::(vs++[])) _ _ _;rw[List.append_nil];exact⟨by rw[<-hn,jM,jM,r2.length],S2,α2,_,z,S',s2,.cons (.ref (x2.pre _ _ ha)) r2,e4,k.trans (x1.trans x2)⟩
    .cases e4
   .cases e2
  .cases e2
 .cases e2
theorem znZ(R:Ia X C m n φ)(ho:SE X o fo)(hbase:attributeBase o m X.env (eval o X.env)=eval o X.env)(hline:(apos.endLine==pos.line)=true):
 SE X (.Call (.Attribute o m apos) [] [] pos) (jV C m n φ fo aB):=by
 obtain⟨f,fd,ps,kk,c,hm,hb,F,hr⟩:=R;refine PE.imp (zmc ho c hm F hr hb .nil DW (Vg hbase rfl hline)) λσ H Q h=>?_;obtain⟨σd,S,α,z,S',hv,hs,hf,k⟩:=h;unfold jV at hf;simp only[bC] at hf;obtain⟨⟨d,S1⟩,e1,e2⟩:=hf;refine⟨σd,S,α,d,S1,hv,hs,e1,λv H1 α1 s1 x1 r1=>?_⟩;simp only at e2;split at e2
 .split at e2
  .rename_i C' fs q;split at e2
   .rename_i hC;obtain⟨rfl,hl⟩:=hC;simp only[bC] at e2;obtain⟨⟨ds,S2⟩,e3,e4⟩:=e2;cases e3;unfold aR at e4;split at e4
    .rename_i hn;cases r1 with
     |ref ha =>
      obtain⟨dx,gs,h1,h2,h3⟩:=s1.obj _ _ _ q ha;refine⟨_,dx,gs,rfl,h1,(cN.of h2 h3).lookN hl,?_⟩;exact⟨by rw[<-hn];rfl,_,α1,_,z,S',s1,.cons (.ref ha) .nil,e4,k.trans x1⟩
    .cases e4
   .cases e2
  .cases e2
 .cases e2
theorem Xu(R:uK X C n φ)(hg:Gl X C)(ha:SA X (e::es) fa)(hdb:(C==("__debug__" : Str))=false)(hst:starEach (e::es) X.env=(false,eval e X.env)::starEach es X.env)(hpl:(backTo pos (starEach es X.env)).any (·.1)=false):
 SE X (.Call (.Name C p) (e::es) [] pos) (nZ C n φ fa):=by
 obtain⟨f,fd,ps,kk,hm,M,hb,F,hr⟩:=R;refine PE.imp (zoi M F hr hg hm hb .nil DW ha hdb hst hpl) λσ H Q h=>?_;obtain⟨σd,S,α,z,S',hv,hs,hf,k⟩:=h;unfold nZ at hf;simp only[bC] at hf;obtain⟨⟨ds,S1⟩,e1,⟨d2,S2⟩,e2,e3⟩:=hf;refine⟨σd,S,α,ds,S1,hv,hs,e1,λvs H1 α1 s1 x1 r1=>λx dx hx hdx hne=>?_⟩;simp only at e2 e3;split at e3
 .have e4:=Option.some.inj e3;unfold aR at e2;split at e2
  .rename_i hn;have sa:Same H1 (upd H1 dx (.own x)):=mz hdx;have hx2:upd H1 dx (.own x) x=none:=by rw[cu (Ne.symm hne)];exact hx
   obtain⟨s2,x2⟩:=(s1.mono sa).snoc (p:=x) (o := .ins C []) (u := .ins (cU X.K C) dx []) hx2 λα' e=>⟨dx,[],fY,rfl,.nil⟩
   have lx:(α1++[x])[S1.length]?=some x:=by rw[<-s1.len];simp
   have x12:Ext X.K H1 α1 (upd (upd H1 dx (.own x)) x (.ins (cU X.K C) dx [])) (α1++[x]):=(Same.ext sa).trans x2;rw[List.append_nil];refine⟨by rw[<-hn,jM,jM,r1.length],_,α1++[x],_,.non,_,s2,.cons (.ref lx) (r1.mono x12),e2,λw H3 α3 s3 x3 r3=>?_⟩;cases r3;refine⟨rfl,?_⟩;have l3:=x3.pre _ _ lx;have usual:(D.ref S1.length,S2)=(z,S')->Q (.ref x) H3:=λq=>by cases q;exact k _ _ _ s3 ((x1.trans x12).trans x3) (.ref l3)
   unfold nu at e4;split at e4
   .rename_i C' fs q;split at e4
    .rename_i hq;obtain⟨rfl,q1,q2,q3,q4⟩:=hq;cases e4;obtain⟨dx3,gs,g1,g2,g3⟩:=s3.obj _ _ _ q l3;have gl:3<=gs.length:=by have:=congrArg List.length g2;simp only[cW] at this;omega
     have s4:=s3.cut S1.length (λo ho=>List.all_eq_true.mp q4 o ho);have xx:=x12.trans x3;exact k _ _ _ s4 (x1.trans ⟨xx.tups,λi b q=>by
      have hi:=(fO.mp q).1;rw[s1.len] at hi;rw[List.getElem?_take_of_lt hi];exact xx.pre i b q,xx.insts⟩) (.obj g1 gl g2.symm rfl (g3.cut _ q3))
    .exact usual e4
   .exact usual e4
  .cases e2
 .cases e3
end
noncomputable def Ite(K:FgA)(a:Addr):It :=
 ⟨λi H=>∃vs v,dI K H a vs/\vs[i]?=some v,
  λi H x H'=>∃p v,x = .ref p/\H p=none/\H'=upd H p (.tup [.int (i:Nat),v])/\∀vs,dI K H a vs->vs[i]?=some v,
  λi H=>∃vs,dI K H a vs/\vs.length<=i⟩
theorem zoV(h:α[n]?=some a):za K H α (.enm n) (Ite K a):=λi H1 α1 S1 x1 s1=>by
 have h1:=x1.pre _ _ h;unfold dG;cases hm:S1[n]? with
 |none=>simp only[hm];exact⟨λe=>(nomatch e),λd e=>(nomatch e)⟩
 |some o =>
  have hob:=s1.obj _ _ _ hm h1;cases o with
  |lst ds =>
   simp only[hm];obtain⟨vs,q,r⟩:=hob;refine⟨λe=>?_,λd e=>?_⟩
   .have e':ds[i]?=none:=by simpa using e
    exact⟨vs,dI.of q,by rw[<-r.length];exact List.getElem?_eq_none_iff.mp e'⟩
   .have e':(ds[i]?).map (λx=>D.tup [.int (i:Nat),x])=some d:=by simpa using e
    simp only[aX] at e';obtain⟨x,e2,rfl⟩:=e';obtain⟨v,e1,rv⟩:=r.get e2;refine⟨⟨vs,v,dI.of q,e1⟩,λx H' y=>?_⟩;obtain⟨p,v',rfl,hp,rfl,hy⟩:=y;have:=hy vs (dI.of q);rw[e1] at this;cases this;exact⟨mz hp,.tup (dM.of fY) (.cons (.int _) (.cons (rv.mono (Same.ext (mz hp))) .nil))⟩
  |_=>simp only[hm];exact⟨λe=>(nomatch e),λd e=>(nomatch e)⟩
theorem zjI{P:Program}{tp:Pos}{e it:Addr}(hei:e≠it):
 u6 P w K (.Tuple es kk tp) (Ite K l) [e,it] e (λi h=>(∃old,IsEnum h e it (i:Nat) old)/\h.IsListIter it l i) where
 mem:=fL
 obj:=λi h ⟨⟨old,h1⟩,⟨o,h2,h3,h4⟩⟩ b hb=>by
  rcases List.mem_cons.mp hb with rfl|hb
  .exact⟨_,h1,λv z=>by cases z⟩
  .rw[List.mem_singleton.mp hb];exact⟨o,h2,λv z=>by rw[h4] at z;cases z⟩
 keep:=λi h h' ⟨⟨old,h1⟩,h2⟩ k=>⟨⟨old,k e (by simp) _ h1⟩,h2.at λo x=>k it (by simp) o x⟩
 item:=by
  intro X hP hw hK hc i pins s σ H E I hf st hg;subst hP hw hK;obtain⟨⟨old,he⟩,hit⟩:=st;obtain⟨vs,v,hS,hv⟩:=hg;obtain⟨its,rv,pl,hz⟩:=I.list hS;obtain⟨u,hu,ru⟩:=rv.get hv;refine wpAny_pyNext_enum_item he hit pl.isList (by simpa using hu) hei λh' ho hit' hT hsz hk=>?_;refine⟨_,rfl,wpAny_letOwnedTupleGo_enum (s:={ s with heap:=h',toks:=s.toks+1 }) ho λh'' he' hs'=>?_⟩;have helt:e<s.heap.objs.size:=cJ he;have hilt:it<s.heap.objs.size:=by obtain⟨_,x,_⟩:=hit;exact cJ x
  have kp:∀c o,c∉[e,it]->s.heap.get? c=some o->h''.get? c=some o:=λc o hc q=>by have c1:c≠e:=λz=>hc (by simp[z]);have c2:c≠it:=λz=>hc (by simp[z]);exact(hs'.2 c c1).trans (hk c o c1 c2 q)
  have hTe:s.heap.objs.size≠e:=Nat.ne_of_gt helt;have I1:Inv X pins σ (upd H s.heap.objs.size (.tup [.int (i:Nat),v])) { s with heap:=h'',toks:=s.toks+1 } :=
   MZ.Inv.turnedT (t':=s.toks+1) (jg:=[.int i s.toks,u]) I kp hf ((hs'.2 _ hTe).trans hT) (.cons ⟨_,rfl⟩ (.cons ru .nil)) (by show 2<=sizeLine;decide)
  refine⟨.ref s.heap.objs.size,_,I1,rfl,⟨s.heap.objs.size,v,rfl,I.hok.fresh (bZ _),rfl,λvs' h=>by rw[I.list_inj h hS];exact hv⟩,⟨⟨_,by simpa using he'⟩,hit'.at λo y=>(hs'.2 it hei.symm).trans y⟩,λb hb=>?_⟩;have hlt:b<s.heap.objs.size:=by
   rcases List.mem_cons.mp hb with rfl|hb
   .exact helt
   .rw[List.mem_singleton.mp hb];exact hilt
  rw[cu (dJ hlt)];exact(hf b hb).1
 done:=by
  intro X hP hw hK hc i pins s σ H E I hf st hg;subst hP hw hK;obtain⟨⟨old,he⟩,hit⟩:=st;obtain⟨vs,hS,hlen⟩:=hg;obtain⟨its,rv,pl,hz⟩:=I.list hS;refine wpAny_pyNext_enum_end (I.ok.hd hc) he hit pl.isList (by simp;rw[<-rv.length];exact hlen) λh' hx=>⟨rfl,?_⟩
  exact MZ.Inv.turnedN (t':=s.toks) (ch:=[e,it]) I (λc o hc q=>hx c o (λz=>hc (by simp[z])) q) hf
 self:=λ_ _ _ _ _ st h=>by obtain⟨⟨old,he⟩,_⟩:=st;exact wpAny_pyIter_enum he h
def zlp:bootBuiltins "enumerate" = some (.type "enumerate"):=by decide +kernel
section
variable {X:Cx}
noncomputable def o7(fe:EF):IF:=λσ S=>(fe σ S).bind λr=>match r.1 with
 |.ref n=>match r.2[n]? with
  |some (.lst _)=>some (.enm n,r.2)
  |_=>none
 |_=>none
theorem zp0{ts:List Expr}{tp:Pos}(hg:Gl X "enumerate")(hm:X.mg "enumerate" = none)(ha:SE X e fe)(hst:starEach [e] X.env=[(false,eval e X.env)]):
 SI X (.Tuple ts kk tp) (.Call (.Name "enumerate" p) [e] [] pos) (o7 fe):=by
 intro pins s σ H R I h;obtain⟨σd,S,α,j,S',hv,hs,hf,k⟩:=h;unfold o7 at hf;simp only[bC] at hf;obtain⟨⟨d,S1⟩,e1,e2⟩:=hf;simp only at e2;split at e2
 .rename_i n;split at e2
  .rename_i xs q;cases e2;have hst':starEach (e::[]) X.env=(false,eval e X.env)::starEach [] X.env:=hst;refine wpAny_Call_Name_kw (q9 I hg hm zlp ?_ (by decide) (by decide));refine PyProof.Rows.callWith_type1 ?_ hst' rfl;rw[hst'];refine Calls.spliced_cons (bR (ha pins s σ H (λv H1=>∃α1,aA X.K H1 α1 S'/\Ext X.K H α H1 α1/\Rep X.K H1 α1 (.ref n) v) I ⟨σd,S,α,.ref n,S',hv,hs,e1,λw H1 α1 s1 x1 r1=>⟨α1,s1,x1,r1⟩⟩) λu1 s1 ⟨v1,H1,I1,r1,α1,st1,x1,BL⟩=>?_);refine Calls.spliced_nil ?_;cases BL with
   |@ref _ l hl =>
    cases r1;obtain⟨ws,hw,rws⟩:=st1.obj _ _ _ q hl;obtain⟨its,rv,pl,hz⟩:=I1.list (dI.of (K:=X.K) hw);refine call_enumerate_list pl.isList λh' he hit hsz hk=>?_;have I2:Inv X pins σ H1 { s1 with heap:=h' }:=I1.kept (t':=s1.toks) hk;refine wpAny_pyIter_enum (s:={ s1 with heap:=h' }) he ?_;refine⟨_,_,_,_,H1,rfl,I2,zjI (K:=X.K) (l:=l) (e:=s1.heap.objs.size+1) (it:=s1.heap.objs.size) (Nat.succ_ne_self _),⟨⟨_,he⟩,hit⟩,λb hb=>?_,k _ _ _ st1 x1 (zoV hl)⟩;have hge:s1.heap.objs.size<=b:=by
     rcases List.mem_cons.mp hb with rfl|hb
     .omega
     .rw[List.mem_singleton.mp hb];exact bZ _
    exact I1.fpOk hge (I1.hok.fresh hge)
  .cases e2
 .cases e2
end
noncomputable def xY:GM
 |.ref n,[.int k],S=>match S[n]? with
  |some (.lst xs)=>(mW xs).bind λns=>if k∈ns then some (.int (ns.idxOf k:Nat),S) else none
  |_=>none
 |_,_,_=>none
theorem zhV{vs:List Value}{k:Int}{t:Tok}(hl:s.heap.IsList l vs.toArray)(hi:IntsAre vs ns)(hb:ns.length<=sizeLine)(hk:k∈ns)(h:Q (.int (ns.idxOf k:Nat) s.toks) { s with toks:=s.toks+1 }):
 wpAny (model prog w) A (call (.builtin "list.index") [.ref l,.int k t]) Q E s:=by
 obtain⟨⟨cls,dd,data,sl⟩,ho,hc,n,hd⟩:=id hl;simp only at hc hd;subst hc hd;have hlen:=hi.length;have hj:ns.idxOf k<ns.length:=List.idxOf_lt_length_iff.mpr hk;rw[sizeLine_eq] at hb;refine call_meets PySem.F.slot_list_index ⟨_,ho,rfl⟩ PySem.F.entry_list_index (PySem.F.args_list_index_2 _ _)
  (PySem.SeqAt.list_indexAt l vs.toArray n dd sl (.int k t) (isInt k) (ns.idxOf k) (by simpa[hlen] using hj) (by omega) ?_ ?_) ⟨ho,λy hy=>(eq_isInt k t hi y (by simpa using hy)).at _ _,h⟩
 .show isInt k vs[ns.idxOf k]=true;rw[isInt_at k hi _ (by omega) hj];simpa using List.getElem_idxOf hj
 .intro j hjs hlt;show isInt k vs[j]=false;rw[isInt_at k hi j (by simpa using hjs) (by omega)];exact ne_of_lt_idxOf hlt _
theorem zmj:sX X "list.index" (v7 X.K xY):=by
 intro pins s σ H v vs vv us Q I rv rs h;obtain⟨S,α,d,ds,z,S',hs,r,rr,hg,k⟩:=h;unfold xY at hg;split at hg
 .cases r with
  |ref ha =>
   split at hg
   .rename_i xs e;simp only[bC] at hg;obtain⟨ns,e1,e2⟩:=hg;split at e2
    .rename_i hk;cases e2;obtain⟨w,rfl,fU⟩:=rr.inv1;cases fU;cases rv;obtain⟨u,rfl,ru⟩:=rs.one;obtain⟨t,rfl⟩:=ru;obtain⟨ws,q,rws⟩:=hs.obj _ _ _ e ha;obtain⟨hz,its,n0,vZ,hl,ho⟩:=I.lstM q;have hi:=vK rws vZ e1;refine zhV (vs:=its) ⟨_,ho,rfl,n0,rfl⟩ hi (by rw[<-hi.length,<-hl];exact hz) hk ?_;exact⟨.int _,H,I.tok _,⟨_,rfl⟩,k.same hs (.int _)⟩
    .cases e2
   .cases hg
 .cases hg
section
variable {X:Cx}{e:Expr}{es:List Expr}{fa:AF}{x:Str}{apos cpos p:Pos}{j:Option String}
theorem zn0{t:Tok}(hg:Gl X x)(hm:X.mg x=some (.str y t))(hdb:(x==("__debug__" : Str))=false):SE X (.Name x p) (eC (.str y)):=by intro pins s σ H Q I h;obtain⟨σd,S,α,z,S',hv,hs,hf,k⟩:=h;cases hf;exact Js I hg hm ⟨.str y,H,I,⟨_,rfl⟩,k.same hs (.str _)⟩ hdb
end
structure Ctx where
 N:List Str
 names:List (Str×NameKind)
 sts:List Str
 fns:List (Str×Nat×GN)
 blt:List Str
 lf:Option (Str×Addr×GN):=none
 hof:List (Str×Str×(Addr->GN->GN)):=[]
 ext:Str->List Expr->Option EF:=λ_ _=>none
 kwx:Str->List Expr->List Keyword->Option EF:=λ_ _ _=>none
 gls:List (Str×Str):=[]
 flds:List (Str×Str):=[]
 mths:List (Str×Str×Nat×GN):=[]
 mks:List (Str×Nat×GN):=[]
noncomputable def FnAt(P:Program)(w:World)(K:FgA)(mg:Str->Option Value)(base:Heap)(k:Nat)(x:Str)(n:Nat)(φ:GN):Prop :=
 ∃f fd ps,mg x=some (.ref f)/\PySem.W.keepIn K (.ref f)=true/\Binds K fd ps []/\cY P w K mg base iW k f fd ps (tK K n φ)
noncomputable def zF(q:Str)(ap:Pos):Arguments:={ posonlyargs:=[],args:=[{ arg:=q,annotation:=none,pos:=ap }],vararg:=none,kwonlyargs:=[],kw_defaults:=[],kwarg:=none,defaults:=[] }
def zoH{q:Str}{ap:Pos}(env:Env):defaultsOf (zF q ap) env=([],[]):=rfl
noncomputable def xM(c:Ctx)(X:Cx)(x q:Str)(G:Addr->GN->GN):Prop:=∃f fd p1 p2 k Pt ct,Ef X Pt ct/\X.mg x=some (.ref f)/\PySem.W.keepIn X.K (.ref f)=true/\Binds X.K fd [p1,p2] []/\bK (k+2) X.A /\
 (∀(ap:Pos) (body:Expr) (scope:Scope) (pm cdv ctv:Value) (clos:List (Str×Addr)) (qual:Str) (u:Value),bindArgs (PySem.W.kla_fn "<lambda>" qual (zF q ap) body scope clos pm cdv ctv) ⟨[u],[]⟩=pure [(q,u)]) /\
 (∀base:Heap,Mod X.K X.mg base->(∀b o,X.base.get? b=some o->base.get? b=some o)->Ds X.prog X.w X.K X.mg base (k+1) f fd [p1,p2] G) /\
 ∀base:Heap,Mod X.K X.mg base->(∀b o,X.base.get? b=some o->base.get? b=some o)->∀y n ψ,c.fns.lookup y=some (n,ψ)->FnAt X.prog X.w X.K X.mg base k y n ψ
structure gB(c:Ctx)(X:Cx):Prop where
 N:X.N=c.N
 nd:c.N.Nodup
 names:X.env.scope.names=c.names
 kind:X.env.scope.kind = .function
 st:∀x∈c.sts,Loc X.env.scope x/\(X.fn x=true\/X.env.scope.names.lookup x=some .local)
 fns:∀x k φ,c.fns.lookup x=some (k,φ)->uM X x k φ
 blt:∀x∈c.blt,X.mg x=none
 calm:X.calm=true
 un:X.A.units+64<cLine
 lf:∀x a ψ,c.lf=some (x,a,ψ)->Dp X a ψ
 hof:∀x q G,c.hof.lookup x=some (q,G)->xM c X x q G
 ext:∀x es f p pos,c.ext x es=some f->SE X (.Call (.Name x p) es [] pos) f
 kwx:∀x es ks f p pos,c.kwx x es ks=some f->SE X (.Call (.Name x p) es ks pos) f
 gls:∀x y,c.gls.lookup x=some y->∃t,X.mg x=some (.str y t)
 flds:∀f C,c.flds.lookup f=some C->HX X C f
 mths:∀m C n φ,c.mths.lookup m=some (C,n,φ)->Ia X C m n φ
 mks:∀C n φ,c.mks.lookup C=some (n,φ)->uK X C n φ
noncomputable def lF:List Str->Str->Option Nat
 |[],_=>none
 |y::r,x=>if y=x then some 0 else(lF r x).map (·+1)
theorem vJ:∀{N:List Str} {x:Str} {i:Nat},lF N x=some i->N[i]?=some x
 |[],_,_,h=>by cases h
 |y::r,x,i,h=>by
  unfold lF at h;split at h
  .rename_i e;cases h;rw[e];rfl
  .simp only[aX] at h;obtain⟨j,h1,rfl⟩:=h;simpa using vJ h1
noncomputable def mV:Expr->Bool
 |.Starred _ _=>false
 |_=>true
theorem jW(h:mV e=true)(es:List Expr)(env:Env):starEach (e::es) env=(false,eval e env)::starEach es env:=by
 cases e with
 |Starred _ _=>cases h
 |_=>simp[starEach]
theorem vI(h:es.all mV=true)(pos:Pos)(env:Env):(backTo pos (starEach es env)).any (·.1)=false:=by
 induction es with
 |nil=>rfl
 |cons e r ih =>
  rw[lO,dh] at h;rw[jW h.1];show(false||(backTo pos (starEach r env)).any (·.1))=false;rw[ih h.2];rfl
theorem zlD(h:es.all mV=true)(pos:Pos)(env:Env):(backTo pos (starEach es env)).all (λx => !x.1)=true:=by
 induction es with
 |nil=>rfl
 |cons e r ih =>
  rw[lO,dh] at h;rw[jW h.1];show(!false&&(backTo pos (starEach r env)).all (λx => !x.1))=true;rw[ih h.2];rfl
noncomputable def Ei:Expr->Bool
 |.Slice _ _ _ _=>false
 |_=>true
def zja{b:Expr}(h:Ei b=true):H9 b:=by
 intro o i;cases b with
 |Slice _ _ _ _=>cases h
 |_=>rfl
noncomputable def QC:Expr->Bool
 |.Name _ _=>true
 |.Call _ _ _ _=>true
 |.Subscript _ _ _=>true
 |.Constant _ _ _=>true
 |.BinOp _ _ _ _=>true
 |.List _ _=>true
 |.Tuple _ _ _=>true
 |.Attribute _ _ _=>true
 |.ListComp _ _ _ _=>true
 |_=>false
theorem zkc{a:Expr}(h:QC a=true)(env:Env)(whole:Sem Value):isTrue a env whole=(do let v <-whole;standAt a.pos;holding [v] (truthy v)):=by
 cases a with
 |Name _ _=>rfl
 |Call _ _ _ _=>rfl
 |Subscript _ _ _=>rfl
 |Constant _ _ _=>rfl
 |BinOp _ _ _ _=>rfl
 |List _ _=>rfl
 |Tuple _ _ _=>rfl
 |Attribute _ _ _=>rfl
 |ListComp _ _ _ _=>rfl
 |_=>cases h
noncomputable def zE:Expr->Bool
 |.Set _ _ _=>false
 |_=>true
def Vh(h:zE e=true)(env:Env)(x:Value):foldedSetIterable e env x=pure x:=by
 cases e with
 |Set _ _ _=>cases h
 |_=>rfl
noncomputable def xZ:Expr->Bool
 |.ListComp _ _ _ _=>false
 |.SetComp _ _ _ _=>false
 |.DictComp _ _ _ _ _=>false
 |_=>true
theorem Ae(h:xZ e=true)(t:Option Expr)(l:Nat)(env:Env):swapsWith e t l env=pure false:=by
 cases e with
 |ListComp _ _ _ _=>cases h
 |SetComp _ _ _ _=>cases h
 |DictComp _ _ _ _ _=>cases h
 |_=>rfl
noncomputable def Ib:Expr->Bool
 |.Tuple _ _ _=>false
 |_=>true
noncomputable def wB:Expr->Bool
 |.Tuple _ _ _=>true
 |.List _ _=>true
 |_=>false
theorem zjh{t:Expr}(h:wB t=false)(e:Expr)(env:Env):swappedStores [t] e env=pure none:=by
 cases t with
 |Tuple _ _ _=>cases h
 |List _ _=>cases h
 |_=>rfl
theorem zjg(h:Ib e=true)(ts:List Expr)(k:Nat)(p:Pos)(env:Env):swappedStores [.Tuple ts k p] e env=pure none:=by
 cases e with
 |Tuple _ _ _=>cases h
 |_=>rfl
noncomputable def w6:List (Str×String):=[("int", "int"),("bool", "bool"),("str", "str"),("tuple", "tuple"),("list", "list")]
theorem zlo{T:String}(h:w6.lookup x=some T):bootBuiltins x=some (.type T):=by have hm:=iJ h;unfold w6 at hm;simp only[List.mem_cons,lN,or_false,Prod.mk.injEq] at hm;rcases hm with⟨rfl,rfl⟩|⟨rfl,rfl⟩|⟨rfl,rfl⟩|⟨rfl,rfl⟩|⟨rfl,rfl⟩<;>decide +kernel
noncomputable def pZ(x:Str):Bool:=(x==("__debug__" : Str))||(x==("__classdict__" : Str))||(x==("__name__" : Str))
def uW(h:pZ x=false):(x==("__debug__" : Str))=false:=by unfold pZ at h;rw[Bool.or_eq_false_iff,Bool.or_eq_false_iff] at h;exact h.1.1
def O5(h:pZ x=false):(x==("__classdict__" : Str))=false:=by unfold pZ at h;rw[Bool.or_eq_false_iff,Bool.or_eq_false_iff] at h;exact h.1.2
def wg(h:pZ x=false):x≠("__name__" : Str):=by unfold pZ at h;rw[Bool.or_eq_false_iff] at h;exact beq_eq_false_iff_ne.mp h.2
noncomputable def nmE(c:Ctx)(x:Str):Option EF:=if pZ x=true then none else match c.names.lookup x with
 |some .local=>(lF c.N x).map aj
 |some .cell=>(lF c.N x).map aj
 |some .free=>(lF c.N x).map aj
 |some .globalImplicit=>if x∈c.blt then(w6.lookup x).map λT=>eC (.ty T) else(c.gls.lookup x).map λy=>eC (.str y)
 |_=>none
noncomputable def Qv:Const->Option EF
 |.int i=>some (eC (.int i))
 |.bool b=>some (eC (.bl b))
 |.none=>some (eC .non)
 |.str x=>some (eC (.str x))
 |_=>none
section
variable {c:Ctx}{X:Cx}
theorem zi1(ok:gB c X)(h:nmE c x=some f):SE X (.Name x pos) f:=by
 unfold nmE at h;split at h
 .cases h
 .rename_i ho;have ho':pZ x=false:=by simpa using ho
  have loc:∀(v:Hl X.env.scope x),(lF c.N x).map aj=some f->SE X (.Name x pos) f:=λv e=>by simp only[aX] at e;obtain⟨i,e1,rfl⟩:=e;exact zp3 (by rw[ok.N];exact vJ e1) v (uW ho') (O5 ho')
  split at h
  .rename_i e;exact loc (.inl (by rw[ok.names];exact e)) h
  .rename_i e;exact loc (.inr (.inl (by rw[ok.names];exact e))) h
  .rename_i e;exact loc (.inr (.inr (by rw[ok.names];exact e))) h
  .rename_i e;split at h
   .rename_i hb;simp only[aX] at h;obtain⟨T,e1,rfl⟩:=h;exact oW (zol (show X.env.scope.names.lookup x=_ by rw[ok.names];exact e) (ok.blt x hb) (zlo e1) (v := .ty T) rfl (wg ho') (uW ho')) λ_ _ => .ty T
   .simp only[aX] at h;obtain⟨y,e1,rfl⟩:=h;obtain⟨t,ht⟩:=ok.gls x y e1;exact zn0 (show X.env.scope.names.lookup x=_ by rw[ok.names];exact e) ht (uW ho')
  .cases h
theorem zhG{k:Const}(h:Qv k=some f):SE X (.Constant k j pos) f:=by
 cases k with
 |int i=>cases h;exact Y8
 |bool b=>cases h;exact YB
 |none=>cases h;exact zp7
 |str x=>cases h;exact zp5
 |_=>cases h
end
noncomputable def BP(cn names:List (Str×NameKind)):List (Str×NameKind):=names.map fun(n,k)=>if(k==NameKind.free&&true&&cn.lookup n==some .cell) then(n,NameKind.cell) else(n,k)
noncomputable def tQ(names:List (Str×NameKind)):List Str:=(names.filter λy=>(y.2 == .local||y.2 == .cell)&&y.1 != (".0" : Str)).map (·.1)
noncomputable def zB(c:Ctx)(names:List (Str×NameKind)):List (Str×Nat):=names.filterMap λy=>if y.2==NameKind.free then(lF c.N y.1).map λi=>(y.1,i) else none
noncomputable def tO(c:Ctx)(names:List (Str×NameKind)):List Str:=tQ names++(zB c names).map (·.1)
noncomputable def xW(c:Ctx)(names:List (Str×NameKind)):List (Option Nat):=(tQ names).map (λ_=>none)++(zB c names).map λp=>some p.2
noncomputable def DN(c:Ctx)(names:List (Str×NameKind)):Ctx:={ N:=tO c names,names:=BP c.names names,sts:=tQ names,fns:=c.fns,blt:=c.blt,flds:=c.flds,mths:=c.mths,mks:=c.mks }
noncomputable def zq(c:Ctx)(scope:Scope):Bool:=decide (scope.kind = .function)&&scope.names.all (λy=>decide (scope.names.lookup y.1=some y.2)) &&
 scope.names.all (λy=>decide (y.2 = .free->(c.names.lookup y.1=some .cell\/c.names.lookup y.1=some .free)))&&decide (tO c scope.names).Nodup
section
variable {c:Ctx}{X:Cx}{scope:Scope}
theorem zmA{p:Str×Nat}(h:p∈zB c names):(p.1,NameKind.free)∈names/\lF c.N p.1=some p.2:=by
 unfold zB at h;obtain⟨y,hy,e⟩:=List.mem_filterMap.mp h;split at e
 .rename_i hk;simp only[aX] at e;obtain⟨i,e1,rfl⟩:=e;have:y.2=NameKind.free:=by simpa using hk
  refine⟨?_,e1⟩;rw[<-this];exact hy
 .cases e
theorem zoo(h:x∈tQ names):(x,NameKind.local)∈names\/(x,NameKind.cell)∈names:=by
 unfold tQ at h;obtain⟨y,hy,rfl⟩:=List.mem_map.mp h;obtain⟨h1,h2⟩:=List.mem_filter.mp hy;rw[dh,mG] at h2;obtain⟨y1,y2⟩:=y;rcases h2.1 with q|q
 .have:y2=NameKind.local:=by simpa using q
  subst this;exact .inl h1
 .have:y2=NameKind.cell:=by simpa using q
  subst this;exact .inr h1
theorem zpf(ok:gB c X)(h:zq c scope=true):qT X scope (tO c scope.names) (xW c scope.names):=by
 unfold zq at h;rw[dh,dh,dh] at h;obtain⟨⟨⟨h1,h2⟩,h3⟩,h4⟩:=h;rw[List.all_eq_true] at h2 h3;have u:∀y∈scope.names,scope.names.lookup y.1=some y.2:=λy hy=>of_decide_eq_true (h2 y hy);refine⟨of_decide_eq_true h1,u,λy hy e=>?_,by simp[xW,tO],λj i x e1 e2=>?_⟩
 .have:=of_decide_eq_true (h3 y hy) e;show X.env.scope.names.lookup y.1=_\/X.env.scope.names.lookup y.1=_;rw[ok.names];exact this
 .unfold tO at e1;unfold xW at e2;have hj:(tQ scope.names).length<=j:=by
   refine Nat.le_of_not_lt λhlt=>?_;rw[ou (by simpa using hlt),iY] at e2;cases q:(tQ scope.names)[j]? with
   |none=>rw[q] at e2;cases e2
   |some z=>rw[q] at e2;cases e2
  rw[zp (by simpa using hj),iY,cW] at e2;rw[zp hj,iY] at e1;cases q:(zB c scope.names)[j - (tQ scope.names).length]? with
  |none=>rw[q] at e2;cases e2
  |some p =>
   rw[q] at e1 e2;simp only[qG,Option.some.injEq] at e1 e2;obtain⟨m1,m2⟩:=zmA (List.mem_of_getElem? q);subst e1 e2;exact⟨by rw[ok.N];exact vJ m2,u _ m1⟩
theorem zmM(ok:gB c X)(h:zq c scope=true){Y:Cx}(hy:oK X scope (tO c scope.names) Y):gB (DN c scope.names) Y:=by
 have h0:=h;unfold zq at h;rw[dh,dh,dh] at h;obtain⟨⟨⟨h1,h2⟩,h3⟩,h4⟩:=h;rw[List.all_eq_true] at h2;have u:∀y∈scope.names,scope.names.lookup y.1=some y.2:=λy hy=>of_decide_eq_true (h2 y hy);have hn:Y.env.scope.names=BP c.names scope.names:=by
  rw[hy.sc];show List.map _ scope.names=List.map _ scope.names;refine List.map_congr_left λy _=>?_;obtain⟨n,k⟩:=y;have e1:(X.env.scope.kind == .function)=true:=by rw[ok.kind];rfl
  have e2:X.env.kindOf n=c.names.lookup n:=by show X.env.scope.names.lookup n=_;rw[ok.names]
  simp only[e1,e2]
 refine⟨hy.N,of_decide_eq_true h4,hn,by rw[hy.sc];exact of_decide_eq_true h1,λx hx=>?_,λx k φ e=>?_,λx hx=>by rw[hy.mg];exact ok.blt x hx,hy.calm.trans ok.calm,by rw[hy.A];exact ok.un,λ_ _ _ h=>(nomatch h),λ_ _ _ h=>(nomatch h),λ_ _ _ _ _ h=>(nomatch h),λ_ _ _ _ _ _ h=>(nomatch h),λ_ _ h=>(nomatch h),λf C e=>?_,λm C n φ e=>?_,λC n φ e=>?_⟩
 .have lk:∀k,k ≠ .free->scope.names.lookup x=some k->Y.env.scope.names.lookup x=some k:=λk hk e=>by
   rw[hy.sc];show(List.map _ scope.names).lookup x=_;rw[show(List.map _ scope.names).lookup x=_ from Mj,e];have hb:(k==NameKind.free)=false:=by simpa using hk
   show some (if(k==NameKind.free&&_&&_)=true then NameKind.cell else k)=some k;rw[hb];rfl
  rcases zoo hx with m|m
  .have e:=u _ m;exact⟨.inl (lk _ (by decide) e),.inr (lk _ (by decide) e)⟩
  .have e:=u _ m;exact⟨.inr (lk _ (by decide) e),.inl (hy.fn x e)⟩
 .obtain⟨f,fd,ps,kk,m1,m2,m3,m4,m5⟩:=ok.fns x k φ e;refine⟨f,fd,ps,kk,by rw[hy.mg];exact m1,by rw[hy.K];exact m2,by rw[hy.K];exact m3,?_,by rw[hy.A];exact m5⟩;rw[hy.prog,hy.w,hy.K,hy.mg,hy.base];exact m4
 .obtain⟨h1,h2⟩:=ok.flds f C e;exact⟨by rw[hy.K];exact h1,by rw[hy.K];exact h2⟩
 .obtain⟨f,fd,ps,kk,m1,m2,m3,m4,m5⟩:=ok.mths m C n φ e;refine⟨f,fd,ps,kk,by rw[hy.K];exact m1,by rw[hy.K];exact m2,by rw[hy.K];exact m3,?_,by rw[hy.A];exact m5⟩;rw[hy.prog,hy.w,hy.K,hy.mg,hy.base];exact m4
 .obtain⟨f,fd,ps,kk,m1,m2,m3,m4,m5⟩:=ok.mks C n φ e;refine⟨f,fd,ps,kk,by rw[hy.K,hy.mg];exact m1,by rw[hy.K];exact m2,by rw[hy.K];exact m3,?_,by rw[hy.A];exact m5⟩;rw[hy.prog,hy.w,hy.K,hy.mg,hy.base];exact m4
end
noncomputable def Ea(c:Ctx):Expr->Option GF
 |.Name x _=>if x∈c.sts then(lF c.N x).map aK else none
 |_=>none
noncomputable def Eb(c:Ctx):List Expr->Option n6
 |[]=>some jO
 |e::r=>(Ea c e).bind λf=>(Eb c r).map λfr=>dY f fr
noncomputable def xU(c:Ctx):Expr->Option GF
 |.Name x p=>Ea c (.Name x p)
 |.Tuple es _ _=>(Eb c es).map λfr=>jy es.length fr
 |_=>none
section
variable {c:Ctx}{X:Cx}
theorem Wh(ok:gB c X){f:GF}(h:Ea c e=some f):SG X e f:=by
 cases e with
 |Name x p =>
  simp only[Ea] at h;split at h
  .rename_i hx;simp only[aX] at h;obtain⟨i,e1,rfl⟩:=h;obtain⟨h1,h2⟩:=ok.st x hx;exact znV (by rw[ok.N];exact ok.nd) (by rw[ok.N];exact vJ e1) h1 h2
  .cases h
 |_=>cases h
theorem Wi(ok:gB c X):∀{es:List Expr} {f:n6},Eb c es=some f->Dm X es f/\(assignEach es X.env).length=es.length/\(assignEach es X.env).findIdx? (·.1)=none
 |[],f,h=>by cases h;exact⟨znU,rfl,rfl⟩
 |e::r,f,h=>by
  unfold Eb at h;simp only[bC,aX] at h;obtain⟨f1,e1,fr,e2,rfl⟩:=h;obtain⟨i1,i2,i3⟩:=Wi ok e2;have ea:assignEach (e::r) X.env=(false,assign e X.env)::assignEach r X.env:=by
   cases e with
   |Name x p=>rfl
   |_=>cases e1
  refine⟨zlR (Wh ok e1) i1 (by rw[ea];rfl),by rw[ea,jM,jM,i2],?_⟩;rw[ea,List.findIdx?_cons,i3];rfl
theorem Ab(ok:gB c X){f:GF}(h:xU c e=some f):SG X e f:=by
 cases e with
 |Name x p=>exact Wh ok h
 |Tuple es k p =>
  unfold xU at h;simp only[aX] at h;obtain⟨fr,e1,rfl⟩:=h;obtain⟨i1,i2,i3⟩:=Wi ok e1;exact zp2 ok.calm i1 i2 i3
 |_=>cases h
end
noncomputable def Qx:EF:=λ_ _=>none
def zlV:SE X e Qx:=λ_ _ _ _ _ _ h=>by obtain⟨_,_,_,_,_,_,_,hf,_⟩:=h;cases hf
section
variable (rE:Ctx->Expr->Option EF)(rT:Ctx->Expr->Option TF)
noncomputable def lQ(c:Ctx):List Expr->Option AF
 |[]=>some aB
 |e::r=>if mV e=true then(rE c e).bind λf=>(lQ c r).map λfr=>ak f fr else none
noncomputable def Eg(c:Ctx)(op:BoolOp):List Expr->Option EF
 |[]=>none
 |[a]=>rE c a
 |a::b::r=>(rE c a).bind λf=>(Eg c op (b::r)).map λg=>match op with
  |.And=>sZ f g
  |.Or=>yW f g
noncomputable def DK(c:Ctx)(op:BoolOp):List Expr->Option TF
 |[]=>none
 |[a]=>rT c a
 |a::b::r=>(rT c a).bind λf=>(DK c op (b::r)).map λg=>match op with
  |.And=>tR f g
  |.Or=>jD f g
noncomputable def DQ(c:Ctx):Option Expr->Option PF
 |none=>some kY
 |some e=>(rE c e).map jP
noncomputable def xj:List (Str×String×GN):=[("len", "len",jo),("abs", "abs",pM),("min", "min",qN),("max", "max",lY),("isinstance", "isinstance",wM),("all", "all",nq)]
noncomputable def xg:List (Str×String×GN):=[("tuple", "tuple",lX),("list", "list",qM)]
noncomputable def HF(params:Arguments):Option (Str×Pos):=match params.args with
 |[]=>none
 |a::r=>match r with
  |_::_=>none
  |[]=>if params.posonlyargs.isEmpty=true/\params.vararg.isNone=true/\params.kwonlyargs.isEmpty=true/\params.kw_defaults.isEmpty=true/\params.kwarg.isNone=true/\params.defaults.isEmpty=true/\a.annotation.isNone=true then some (a.arg,a.pos) else none
noncomputable def xT(names:List (Str×NameKind)):List Str:=(names.filter λy=>y.2==NameKind.free).map (·.1)
noncomputable def rM(c:Ctx):List Str->Option (List Nat)
 |[]=>some []
 |y::r=>(lF c.N y).bind λi=>(rM c r).map λl=>i::l
noncomputable def Cr(c:Ctx)(q:Str)(scope:Scope):Bool:=decide (scope.kind = .function) && !scope.isCoroutine && !scope.isGenerator&&decide (scope.names.lookup q=some .local)&&scope.names.all (λy=>decide (y.2 ≠ .cell)) &&
 scope.names.all (λy=>decide (scope.names.lookup y.1=some y.2))&&scope.names.all (λy=>decide (y.2 = .free->c.names.lookup y.1=some .cell))&&decide (q::xT scope.names).Nodup
noncomputable def Hv(c:Ctx)(x:Str)(es:List Expr):Option EF:=if pZ x=true then none else
 if c.names.lookup x=some .globalImplicit/\es.all mV=true/\es≠[] then
  match c.fns.lookup x with
  |some (k,φ)=>(lQ rE c es).map λfa=>eN (aR k φ) fa
  |none=>match c.mks.lookup x with
  |some (n,φ)=>(lQ rE c es).map λfa=>nZ x n φ fa
  |none=>if x∈c.blt then match xj.lookup x with
   |some (_,g)=>(lQ rE c es).map λfa=>eN g fa
   |none=>match xg.lookup x with
    |some (_,g)=>(lQ rE c es).map λfa=>eN g fa
    |none=>none
   else some Qx
 else none
noncomputable def Hu(c:Ctx)(x:Str)(es:List Expr):Option EF:=match c.ext x es with
 |some f=>some f
 |none=>Hv rE c x es
noncomputable def isTup:Expr->Bool
 |.Tuple _ _ _=>true
 |_=>false
noncomputable def Dh(c:Ctx)(es:List Expr):Option IF:=match es with
 |[]=>none
 |e::r=>match r with
  |[]=>(rE c e).map o7
  |_::_=>none
noncomputable def Hz(c:Ctx)(tg:Expr):Expr->Option IF
 |.Call (.Name x p) es [] pos=>if x = "zip" /\ c.names.lookup x=some .globalImplicit/\x∈c.blt/\es.all mV=true/\es≠[]/\isTup tg=true then(lQ rE c es).map qI else if x = "enumerate" /\ c.names.lookup x=some .globalImplicit/\x∈c.blt/\es.all mV=true/\isTup tg=true then Dh rE c es else if x = "range" /\ c.names.lookup x=some .globalImplicit/\x∈c.blt/\es.all mV=true then
  match es with
  |[_]=>(lQ rE c es).map lR
  |[_,_]=>(lQ rE c es).map wF
  |_=>none
  else(rE c (.Call (.Name x p) es [] pos)).map d9
 |e=>(rE c e).map d9
noncomputable abbrev DP(c:Ctx)(tg e:Expr):Option IF:=Hz rE c tg e
noncomputable def wD(c:Ctx):List Expr->Option TF
 |[]=>some cZ
 |[t]=>rT c t
 |_=>none
noncomputable def zu(c:Ctx)(elt:Expr)(g:Comprehension)(scope:Scope):Option EF :=
 if g.is_async=0/\zq c scope=true/\zE g.iter=true then
  (DP rE c g.target g.iter).bind λfi=>(xU (DN c scope.names) g.target).bind λfg=>(wD rT (DN c scope.names) g.ifs).bind λft=>(rE (DN c scope.names) elt).map λfe=>dD fi fg ft fe (xW c scope.names)
 else none
noncomputable def oZ:List (Str×String×GM):=[("append", "list.append",vo),("extend", "list.extend",xX),("pop", "list.pop",nj),("index", "list.index",xY)]
theorem zmk(hu:X.A.units+64<cLine){m:Str}{p:String×GM}(h:oZ.lookup m=some p):Slot "list" m p.1/\typeOf (.builtin p.1)=pure (.type "method_descriptor")/\sX X p.1 (v7 X.K p.2):=by
 have hm:=iJ h;unfold oZ at hm;simp only[List.mem_cons,lN,or_false,Prod.mk.injEq] at hm;rcases hm with⟨rfl,rfl⟩|⟨rfl,rfl⟩|⟨rfl,rfl⟩|⟨rfl,rfl⟩
 .exact⟨PySem.F.slot_list_append,PySem.F.type_list_append,zkr⟩
 .exact⟨PySem.F.slot_list_extend,PySem.F.type_list_extend,zkq⟩
 .exact⟨PySem.F.slot_list_pop,PySem.F.type_list_pop,Zh⟩
 .exact⟨PySem.F.slot_list_index,PySem.F.type_list_index,zmj⟩
noncomputable def HB(c:Ctx)(o:Expr)(m:Str)(apos:Pos)(es:List Expr)(cpos:Pos):Option EF :=
 if es.all mV=true/\es.length<20/\(apos.endLine==cpos.line)=true then
  match o with
  |.Name x p=>match c.mths.lookup m with
   |some (C,n,φ)=>match es with
    |[]=>(rE c (.Name x p)).map λfo=>jV C m n φ fo aB
    |e::r=>(rE c (.Name x p)).bind λfo=>(lQ rE c (e::r)).map λfa=>jV C m n φ fo fa
   |none=>match oZ.lookup m with
   |some (_,g)=>match es with
    |[]=>(rE c (.Name x p)).map λfo=>Dj g fo
    |e::r=>(rE c (.Name x p)).bind λfo=>(lQ rE c (e::r)).map λfa=>eM g fo fa
   |none=>none
  |_=>none
 else none
noncomputable def Ht(c:Ctx)(e:Expr)(f:Str):Option EF:=match e with
 |.Name x p=>match c.flds.lookup f with
  |some C=>(rE c (.Name x p)).map λfe=>ig C f fe
  |none=>none
 |_=>none
noncomputable def unE(c:Ctx)(op:UnaryOp)(a:Expr):Option EF:=match op with
 |.USub=>(rE c a).map (eU uV)
 |.Not=>(rE c a).map wW
 |_=>none
noncomputable def Qf(c:Ctx)(a:Expr)(ops:List CmpOp)(bs:List Expr):Option EF:=match ops with
 |[]=>none
 |op::r=>match r with
  |_::_=>none
  |[]=>match bs with
   |[]=>none
   |b::q=>match q with
    |_::_=>none
    |[]=>if op ≠ .In/\op ≠ .NotIn then(rE c a).bind λfa=>(rE c b).map λfb=>eB (aV op) fa fb else none
noncomputable def Ou(c:Ctx)(a:Expr)(lo hi st:Option Expr):Option EF:=match st with
 |none=>(rE c a).bind λfa=>(DQ rE c lo).bind λfl=>(DQ rE c hi).map λfh=>jR fa fl fh
 |some _=>none
noncomputable def Bw(c:Ctx)(a b:Expr):Option EF:=match b with
 |.Slice lo hi st _=>Ou rE c a lo hi st
 |_=>none
noncomputable def Ot(c:Ctx)(a b:Expr):Option EF:=if Ei b=true then(rE c a).bind λfa=>(rE c b).map λfb=>eB aH fa fb else Bw rE c a b
noncomputable def Qg(c:Ctx)(f:Expr)(es:List Expr)(ks:List Keyword)(pos:Pos):Option EF:=match ks with
 |[]=>match f with
  |.Name x _=>Hu rE c x es
  |.Attribute o m apos=>HB rE c o m apos es pos
  |_=>none
 |k::r=>match f with
  |.Name x _=>c.kwx x es (k::r)
  |_=>none
noncomputable def lcE(c:Ctx)(elt:Expr)(gs:List Comprehension)(scope:Scope):Option EF:=match gs with
 |[]=>none
 |g::r=>match r with
  |[]=>zu rE rT c elt g scope
  |_::_=>none
noncomputable def uf(c:Ctx)(e:Expr):Option EF:=match e with
 |.Name x _=>nmE c x
 |.Constant k _ _=>Qv k
 |.BinOp a op b _=>(rE c a).bind λfa=>(rE c b).map λfb=>eB (aN op) fa fb
 |.UnaryOp op a _=>unE rE c op a
 |.BoolOp op es _=>Eg rE c op es
 |.Compare a ops bs _=>Qf rE c a ops bs
 |.Tuple es _ _=>(lQ rE c es).map (eN bL)
 |.List es _=>(lQ rE c es).map (eN lB)
 |.Subscript a b _=>Ot rE c a b
 |.IfExp t a b _=>(rT c t).bind λft=>(rE c a).bind λfa=>(rE c b).map λfb=>uF ft fa fb
 |.Call f es ks pos=>Qg rE c f es ks pos
 |.Attribute e f _=>Ht rE c e f
 |.ListComp elt gs scope _=>lcE rE rT c elt gs scope
 |_=>none
noncomputable def HJ(c:Ctx):Expr->Option TF
 |.UnaryOp .Not a _=>(rT c a).map vh
 |.BoolOp op es _=>DK rT c op es
 |.Compare a [op] [b] _=>if op ≠ .In/\op ≠ .NotIn then(rE c a).bind λfa=>(rE c b).map λfb=>bI (eB (aV op) fa fb) else none
 |e=>if QC e=true then(rE c e).map kj else none
end
mutual
def cE:Nat->Ctx->Expr->Option EF
 |0,_,_=>none
 |n+1,c,e=>uf (cE n) (cT n) c e
def cT:Nat->Ctx->Expr->Option TF
 |0,_,_=>none
 |n+1,c,e=>HJ (cE n) (cT n) c e
end
def mD(rE:Ctx->Expr->Option EF):Prop:=∀c X e f,gB c X->rE c e=some f->SE X e f
def xJ(rT:Ctx->Expr->Option TF):Prop:=∀c X e f,gB c X->rT c e=some f->ST X e f
section
variable {rE:Ctx->Expr->Option EF}{rT:Ctx->Expr->Option TF}{c:Ctx}{X:Cx}
theorem nT(hE:mD rE)(ok:gB c X):∀{es:List Expr} {f:AF},lQ rE c es=some f->SA X es f/\es.all mV=true
 |[],f,h=>by cases h;exact⟨Y4,rfl⟩
 |e::r,f,h=>by
  unfold lQ at h;split at h
  .rename_i hn;simp only[bC,aX] at h;obtain⟨f1,e1,fr,e2,rfl⟩:=h;obtain⟨i1,i2⟩:=nT hE ok e2;exact⟨zn2 (hE c X e f1 ok e1) i1 (jW hn r X.env),by rw[lO,hn,i2];rfl⟩
  .cases h
theorem VF(hE:mD rE)(ok:gB c X){op:BoolOp}{pos:Pos}:∀{es:List Expr} {f:EF},Eg rE c op es=some f->SE X (.BoolOp op es pos) f
 |[],f,h=>by cases h
 |[a],f,h=>zlY (hE c X a f ok h)
 |a::b::r,f,h=>by
  unfold Eg at h;simp only[bC,aX] at h;obtain⟨f1,e1,fr,e2,rfl⟩:=h;have i:=VF hE ok (pos:=pos) e2;cases op with
  |And=>exact Y5 (hE c X a f1 ok e1) i
  |Or=>exact Xx (hE c X a f1 ok e1) i
theorem Wg(hT:xJ rT)(ok:gB c X){op:BoolOp}{pos:Pos}:∀{es:List Expr} {f:TF},DK rT c op es=some f->SW X (.BoolOp op es pos) f
 |[],f,h=>by cases h
 |[a],f,h=>by
  cases op with
  |And=>exact znA (hT c X a f ok h)
  |Or=>exact zpI (hT c X a f ok h)
 |a::b::r,f,h=>by
  unfold DK at h;simp only[bC,aX] at h;obtain⟨f1,e1,fr,e2,rfl⟩:=h;have i:=Wg hT ok (pos:=pos) e2;cases op with
  |And=>exact zpJ (hT c X a f1 ok e1) i
  |Or=>exact XC (hT c X a f1 ok e1) i
theorem VJ(hE:mD rE)(ok:gB c X){e:Option Expr}{f:PF}(h:DQ rE c e=some f):Dl X e f:=by
 cases e with
 |none=>cases h;exact znM
 |some e =>
  unfold DQ at h;simp only[aX] at h;obtain⟨f1,e1,rfl⟩:=h;exact znK (hE c X e f1 ok e1)
theorem zlr{p:String×GN}(h:xj.lookup x=some p)(hc:X.calm=true):bootBuiltins x=some (.builtin p.1)/\iR X (.builtin p.1) (jQ X.K p.2):=by
 have hm:=iJ h;unfold xj at hm;simp only[List.mem_cons,lN,or_false,Prod.mk.injEq] at hm;rcases hm with⟨rfl,rfl⟩|⟨rfl,rfl⟩|⟨rfl,rfl⟩|⟨rfl,rfl⟩|⟨rfl,rfl⟩|⟨rfl,rfl⟩
 .exact⟨by decide +kernel,XR⟩
 .exact⟨by decide +kernel,XJ⟩
 .exact⟨by decide +kernel,Z9 hc⟩
 .exact⟨by decide +kernel,Z8 hc⟩
 .exact⟨by decide +kernel,XQ⟩
 .exact⟨by decide +kernel,XM hc⟩
theorem zlq{p:String×GN}(h:xg.lookup x=some p):bootBuiltins x=some (.type p.1)/\iR X (.type p.1) (jQ X.K p.2):=by
 have hm:=iJ h;unfold xg at hm;simp only[List.mem_cons,lN,or_false,Prod.mk.injEq] at hm;rcases hm with⟨rfl,rfl⟩|⟨rfl,rfl⟩
 .exact⟨by decide +kernel,zmQ⟩
 .exact⟨by decide +kernel,zpj⟩
theorem zhH(hE:mD rE)(ok:gB c X)(h:Hv rE c x es=some f):SE X (.Call (.Name x p) es [] pos) f:=by
 unfold Hv at h;split at h
 .cases h
 .rename_i ho;have ho':pZ x=false:=by simpa using ho
  split at h
  .rename_i hc;obtain⟨h1,h2,h3⟩:=hc;have hg:Gl X x:=by show X.env.scope.names.lookup x=_;rw[ok.names];exact h1
   cases es with
   |nil=>exact absurd rfl h3
   |cons e r =>
    rw[lO,dh] at h2;split at h
    .rename_i k φ e1;simp only[aX] at h;obtain⟨fa,e2,rfl⟩:=h;exact zn1 hg (ok.fns x k φ e1) (nT hE ok e2).1 (uW ho') (jW h2.1 r X.env) (vI h2.2 pos X.env)
    split at h
    .rename_i n φ e1;simp only[aX] at h;obtain⟨fa,e2,rfl⟩:=h;exact Xu (ok.mks x n φ e1) hg (nT hE ok e2).1 (uW ho') (jW h2.1 r X.env) (vI h2.2 pos X.env)
    .split at h
     .rename_i hb;split at h
      .rename_i q g e1;simp only[aX] at h;obtain⟨fa,e2,rfl⟩:=h;obtain⟨b1,b2⟩:=zlr e1 ok.calm;exact zlX b2 hg (ok.blt x hb) b1 (nT hE ok e2).1 (wg ho') (uW ho') (jW h2.1 r X.env) (vI h2.2 pos X.env)
      .split at h
       .rename_i q g e1;simp only[aX] at h;obtain⟨fa,e2,rfl⟩:=h;obtain⟨b1,b2⟩:=zlq (X:=X) e1;exact zlW b2 hg (ok.blt x hb) b1 (nT hE ok e2).1 (wg ho') (uW ho') (jW h2.1 r X.env) (vI h2.2 pos X.env)
       .cases h
     .cases h;exact zlV
  .cases h
theorem zje{q:Str}{ap:Pos}(h:HF params=some (q,ap)):params=zF q ap:=by
 obtain⟨a1,a2,a3,a4,a5,a6,a7⟩:=params;unfold HF at h;simp only at h;split at h
 .cases h
 .rename_i a r;split at h
  .cases h
  .split at h
   .rename_i hc;obtain⟨h1,h2,h3,h4,h5,h6,h7⟩:=hc;cases h;obtain⟨b1,b2,b3⟩:=a;simp only[List.isEmpty_iff,Option.isNone_iff_eq_none] at h1 h2 h3 h4 h5 h6 h7;subst h1 h2 h3 h4 h5 h6 h7;rfl
   .cases h
theorem SQ{c:Ctx}:∀{cap:List Str} {src:List Nat},rM c cap=some src->cap.length=src.length/\∀(i:Nat) y,cap[i]?=some y->∃j,src[i]?=some j/\c.N[j]?=some y
 |[],src,h=>by cases h;exact⟨rfl,λi y e=>by simp at e⟩
 |y::r,src,h=>by
  unfold rM at h;simp only[bC,aX] at h;obtain⟨i0,e0,l,e1,rfl⟩:=h;obtain⟨h1,h2⟩:=SQ e1;refine⟨by simp[h1],λi z e=>?_⟩;cases i with
  |zero=>simp at e;subst e;exact⟨i0,rfl,vJ e0⟩
  |succ i=>simpa using h2 i z (by simpa using e)
theorem zpi(h:y∈xT names):(y,NameKind.free)∈names:=by
 unfold xT at h;obtain⟨z,hz,rfl⟩:=List.mem_map.mp h;obtain⟨h1,h2⟩:=List.mem_filter.mp hz;obtain⟨z1,z2⟩:=z;have:z2=NameKind.free:=by simpa using h2
 subst this;exact h1
theorem zi3(hE:mD rE)(ok:gB c X)(h:Hu rE c x es=some f):SE X (.Call (.Name x p) es [] pos) f:=by
 unfold Hu at h;split at h
 .rename_i f' ef;cases h;exact ok.ext x es f p pos ef
 .exact zhH hE ok h
theorem zhF(hE:mD rE)(ok:gB c X){tg:Expr}{f:IF}(h:Hz rE c tg e=some f):SI X tg e f:=by
 have dflt:∀{e:Expr},(rE c e).map d9=some f->SI X tg e f:=λ{e} q=>by simp only[aX] at q;obtain⟨f1,e1,rfl⟩:=q;exact zpZ (hE c X e f1 ok e1)
 unfold Hz at h;split at h
 .rename_i x p es pos;split at h
  .rename_i hc;obtain⟨rfl,h1,h2,h3,h4,h5⟩:=hc;have hg:Gl X "zip" := by show X.env.scope.names.lookup _=_;rw[ok.names];exact h1
   simp only[aX] at h;obtain⟨fa,e2,rfl⟩:=h;cases es with
   |nil=>exact absurd rfl h4
   |cons e r =>
    rw[lO,dh] at h3;cases tg with
    |Tuple ts kk tp=>exact zpY hg (ok.blt _ h2) (nT hE ok e2).1 (jW h3.1 r X.env) (vI h3.2 pos X.env)
    |_=>cases h5
  split at h
  .rename_i hc;obtain⟨rfl,h1,h2,h3,h5⟩:=hc;have hg:Gl X "enumerate" := by show X.env.scope.names.lookup _=_;rw[ok.names];exact h1
   unfold Dh at h;cases es with
   |nil=>cases h
   |cons e r =>
    cases r with
    |cons _ _=>cases h
    |nil =>
     simp only[aX] at h;obtain⟨fe,e2,rfl⟩:=h;rw[lO,dh] at h3;cases tg with
     |Tuple ts kk tp=>exact zp0 hg (ok.blt _ h2) (hE c X _ fe ok e2) (by rw[jW h3.1];rfl)
     |_=>cases h5
  split at h
  .rename_i hc;obtain⟨rfl,h1,h2,h3⟩:=hc;have hg:Gl X "range" := by show X.env.scope.names.lookup _=_;rw[ok.names];exact h1
   split at h
   .rename_i a;simp only[aX] at h;obtain⟨fa,e2,rfl⟩:=h;rw[lO,dh] at h3;exact zj4 hg (ok.blt _ h2) (nT hE ok e2).1 (by rw[jW h3.1];rfl)
   .rename_i a b;simp only[aX] at h;obtain⟨fa,e2,rfl⟩:=h;rw[lO,lO,dh,dh] at h3;exact zj3 hg (ok.blt _ h2) (nT hE ok e2).1 (by rw[jW h3.1,jW h3.2.1];rfl) (by rw[jW h3.2.1];rfl)
   .cases h
  .exact dflt h
 .exact dflt h
def VH(hE:mD rE)(ok:gB c X){tg:Expr}{f:IF}(h:DP rE c tg e=some f):SI X tg e f:=zhF hE ok h
theorem zjZ(hT:xJ rT)(ok:gB c X){ifs:List Expr}{f:TF}(h:wD rT c ifs=some f):uI X ifs f:=by
 unfold wD at h;split at h
 .cases h;exact znD
 .exact znC (hT c X _ f ok h)
 .cases h
theorem VG(hE:mD rE)(hT:xJ rT)(ok:gB c X){elt:Expr}{g:Comprehension}(h:zu rE rT c elt g scope=some f):
 ∃fi fg ft fe,f=dD fi fg ft fe (xW c scope.names)/\g=⟨g.target,g.iter,g.ifs,0⟩/\qT X scope (tO c scope.names) (xW c scope.names)/\SI X g.target g.iter fi /\
  (∀Y,oK X scope (tO c scope.names) Y->SG Y g.target fg/\uI Y g.ifs ft/\SE Y elt fe)/\∀x,foldedSetIterable g.iter X.env x=pure x:=by
 unfold zu at h;split at h
 .rename_i hc;obtain⟨h1,h2,h3⟩:=hc;simp only[bC,aX] at h;obtain⟨fi,e1,fg,e2,ft,e3,fe,e4,rfl⟩:=h;refine⟨fi,fg,ft,fe,rfl,?_,zpf ok h2,VH hE ok e1,λY hy=>?_,Vh h3 X.env⟩
  .obtain⟨a,b,d,z⟩:=g;have:z=0:=h1;subst this;rfl
  .have O4:=zmM ok h2 hy;exact⟨Ab O4 e2,zjZ hT O4 e3,hE _ Y elt fe O4 e4⟩
 .cases h
theorem Q7(h1:es.all mV=true)(h3:es.length<20):((backTo cpos (starEach es env)).all (λx => !x.1)&&(backToKw cpos (keywordEach [] env)).all (λx=>x.1.isSome)&&decide (es.length+([]:List Keyword).length+(if([]:List Keyword).isEmpty then 0 else 1)<30))=true:=by rw[zlD h1];show(true&&true&&_)=true;rw[dh];exact⟨rfl,decide_eq_true (by simp;omega)⟩
theorem zi2(hE:mD rE)(ok:gB c X){o:Expr}{m:Str}{apos:Pos}(h:HB rE c o m apos es cpos=some f):SE X (.Call (.Attribute o m apos) es [] cpos) f:=by
 unfold HB at h;split at h
 .rename_i hc;obtain⟨h1,h3,h4⟩:=hc;split at h
  .rename_i x p;split at h
   .rename_i C n φ e1;have R:=ok.mths m C n φ e1;cases es with
    |nil =>
     simp only[aX] at h;obtain⟨fo,e2,rfl⟩:=h;exact znZ R (hE c X _ fo ok e2) rfl h4
    |cons e r =>
     have h1':=h1;rw[lO,dh] at h1;simp only[bC,aX] at h;obtain⟨fo,e2,fa,e3,rfl⟩:=h;exact Zb R (hE c X _ fo ok e2) (nT hE ok e3).1 rfl (Q7 h1' h3) h4 (jW h1.1 r X.env) (vI h1.2 cpos X.env)
   split at h
   .rename_i q g e1;obtain⟨m1,m2,m3⟩:=zmk ok.un e1;cases es with
    |nil =>
     simp only[aX] at h;obtain⟨fo,e2,rfl⟩:=h;exact Za m1 m2 m3 (hE c X _ fo ok e2) rfl h4
    |cons e r =>
     have h1':=h1;rw[lO,dh] at h1;simp only[bC,aX] at h;obtain⟨fo,e2,fa,e3,rfl⟩:=h;exact Xv m1 m2 m3 (hE c X _ fo ok e2) (nT hE ok e3).1 rfl (Q7 h1' h3) h4 (jW h1.1 r X.env) (vI h1.2 cpos X.env)
   .cases h
  .cases h
 .cases h
theorem zi4(hE:mD rE)(ok:gB c X){g:Str}(h:Ht rE c e g=some f):SE X (.Attribute e g p) f:=by
 unfold Ht at h;cases e with
 |Name x q =>
  simp only at h;split at h
  .rename_i C e0;obtain⟨fe,e1,rfl⟩:=aX.mp h;exact Y7 (ok.flds g C e0) (hE c X _ fe ok e1) rfl
  .cases h
 |_=>cases h
theorem zhE(hE:mD rE)(hT:xJ rT):mD (uf rE rT):=by
 intro c X e f ok h;cases e with
 |Name x p=>exact zi1 ok h
 |Constant k a b=>exact zhG h
 |BinOp a op b p =>
  obtain⟨fa,e1,h⟩:=bC.mp h;obtain⟨fb,e2,rfl⟩:=aX.mp h;exact Xw (hE c X _ fa ok e1) (hE c X _ fb ok e2)
 |UnaryOp op a p =>
  cases op with
  |USub =>
   obtain⟨fa,e1,rfl⟩:=aX.mp h;exact zp8 (hE c X _ fa ok e1)
  |Not =>
   obtain⟨fa,e1,rfl⟩:=aX.mp h;exact zp6 (hE c X _ fa ok e1)
  |_=>exact nomatch (show(none:Option EF)=some f from h)
 |BoolOp op es p=>exact VF hE ok h
 |Compare a ops bs p =>
  cases ops with
  |nil=>exact nomatch (show(none:Option EF)=some f from h)
  |cons op r =>
   cases r with
   |cons _ _=>exact nomatch (show(none:Option EF)=some f from h)
   |nil =>
    cases bs with
    |nil=>exact nomatch (show(none:Option EF)=some f from h)
    |cons b q =>
     cases q with
     |cons _ _=>exact nomatch (show(none:Option EF)=some f from h)
     |nil =>
      change (if op ≠ .In/\op ≠ .NotIn then(rE c a).bind λfa=>(rE c b).map λfb=>eB (aV op) fa fb else none)=some f at h;by_cases hc:op ≠ .In/\op ≠ .NotIn
      .rw[if_pos hc] at h;obtain⟨fa,e1,h⟩:=bC.mp h;obtain⟨fb,e2,rfl⟩:=aX.mp h;exact Y6 ok.un hc.1 hc.2 (hE c X _ fa ok e1) (hE c X _ fb ok e2)
      .rw[if_neg hc] at h;cases h
 |Tuple es a b =>
  obtain⟨fa,e1,rfl⟩:=aX.mp h;exact zp4 (nT hE ok e1).1
 |List es a =>
  obtain⟨fa,e1,rfl⟩:=aX.mp h;exact Y9 (nT hE ok e1).1
 |Subscript a b p =>
  change (if Ei b=true then(rE c a).bind λfa=>(rE c b).map λfb=>eB aH fa fb else Bw rE c a b)=some f at h;by_cases hp:Ei b=true
  .rw[if_pos hp] at h;obtain⟨fa,e1,h⟩:=bC.mp h;obtain⟨fb,e2,rfl⟩:=aX.mp h;exact Xr (zja hp) (hE c X _ fa ok e1) (hE c X _ fb ok e2)
  .rw[if_neg hp] at h;cases b with
   |Slice lo hi st q =>
    cases st with
    |some _=>exact nomatch (show(none:Option EF)=some f from h)
    |none =>
     obtain⟨fa,e1,h⟩:=bC.mp h;obtain⟨fl,e2,h⟩:=bC.mp h;obtain⟨fh,e3,rfl⟩:=aX.mp h;exact zlU (hE c X _ fa ok e1) (VJ hE ok e2) (VJ hE ok e3)
   |_=>exact nomatch (show(none:Option EF)=some f from h)
 |IfExp t a b p =>
  obtain⟨ft,e0,h⟩:=bC.mp h;obtain⟨fa,e1,h⟩:=bC.mp h;obtain⟨fb,e2,rfl⟩:=aX.mp h;exact Xq (hT c X _ ft ok e0) (hE c X _ fa ok e1) (hE c X _ fb ok e2)
 |Call g es ks pos =>
  cases ks with
  |cons k r =>
   cases g with
   |Name x p=>exact ok.kwx x es (k::r) f p pos h
   |_=>exact nomatch (show(none:Option EF)=some f from h)
  |nil =>
   cases g with
   |Name x p=>exact zi3 hE ok h
   |Attribute o m p=>exact zi2 hE ok h
   |_=>exact nomatch (show(none:Option EF)=some f from h)
 |ListComp elt gs scope p =>
  cases gs with
  |nil=>exact nomatch (show(none:Option EF)=some f from h)
  |cons g r =>
   cases r with
   |cons _ _=>exact nomatch (show(none:Option EF)=some f from h)
   |nil =>
    obtain⟨fi,fg,ft,fe,rfl,eg,Hh,hi,hY,hfs⟩:=VG hE hT ok h;rw[eg];exact QF ok.calm Hh hi hY hfs
 |Attribute e g p=>exact zi4 hE ok h
 |_=>exact nomatch (show(none:Option EF)=some f from h)
theorem zhD(hE:mD rE)(hT:xJ rT):xJ (HJ rE rT):=by
 intro c X e f ok h;unfold HJ at h;split at h
 .simp only[aX] at h;obtain⟨fa,e1,rfl⟩:=h;exact zpL (hT c X _ fa ok e1)
 .exact PW.pt (Wg hT ok h)
 .split at h
  .rename_i hc;simp only[bC,aX] at h;obtain⟨fa,e1,fb,e2,rfl⟩:=h;exact zpM ok.un hc.1 hc.2 (hE c X _ fa ok e1) (hE c X _ fb ok e2)
  .cases h
 .split at h
  .rename_i hp;simp only[aX] at h;obtain⟨fa,e1,rfl⟩:=h;exact zpK (hE c X _ fa ok e1) (zkc hp X.env)
  .cases h
theorem nQ:∀n,mD (cE n)/\xJ (cT n)
 |0=>⟨λ_ _ _ _ _ h=>by simp[cE] at h,λ_ _ _ _ _ h=>by simp[cT] at h⟩
 |n+1=>by
  obtain⟨h1,h2⟩:=nQ n;refine⟨λc X e f ok h=>?_,λc X e f ok h=>?_⟩
  .rw[cE] at h;exact zhE h1 h2 c X e f ok h
  .rw[cT] at h;exact zhD h1 h2 c X e f ok h
end
noncomputable def DG:SF:=λ_ _=>none
def zlG:SS X st DG:=λ_ _ _ _ _ _ h=>by obtain⟨_,_,_,_,_,_,_,_,hf,_⟩:=h;cases hf
noncomputable def uH(c:Ctx)(x:Str)(e:Expr):Option SF:=match e with
 |.ListComp elt gs scope _=>match gs with
  |[]=>none
  |g::r=>match r with
   |_::_=>none
   |[]=>if x∈c.sts then(lF c.N x).bind λi=>(zu (cE 60) (cT 60) c elt g scope).map λf=>bB f (aK i) else none
 |_=>none
noncomputable def Dk(c:Ctx)(x:Str)(e:Expr):Option SF:=if x∈c.sts then(cE 60 c e).bind λfe=>(lF c.N x).map λi=>bB fe (aK i) else none
noncomputable def Dw(c:Ctx)(o:Expr)(f:Str)(e:Expr):Option SF:=match o with
 |.Name x p=>match c.flds.lookup f with
  |some C=>(cE 60 c e).bind λfe=>(cE 60 c (.Name x p)).map λfo=>oJ C f fo fe
  |none=>none
 |_=>none
noncomputable def HY(c:Ctx)(tg e:Expr):Option SF:=(cE 60 c e).bind λfe=>(xU c tg).map λfg=>bB fe fg
noncomputable def wC:Expr->Bool
 |.ListComp _ _ _ _=>true
 |_=>false
noncomputable def xr(c:Ctx)(tg e:Expr):Option SF :=
 if xZ e=true then
  if Ib e=true then match tg with
   |.Attribute o f _=>Dw c o f e
   |tg=>HY c tg e
  else match tg with
   |.Name x _=>Dk c x e
   |.Attribute o f _=>Dw c o f e
   |_=>none
 else match tg with
  |.Name x _=>uH c x e
  |.Tuple ts k p=>if wC e=true then HY c (.Tuple ts k p) e else none
  |_=>none
noncomputable def ux(e:Expr):Bool:=match e with
 |.Constant k _ _=>match k with
  |.str _=>true
  |_=>false
 |_=>false
noncomputable def wR(c:Ctx)(e:Expr):Option SF:=if ux e=true then some aQ else if xZ e=true then(cE 60 c e).map pU else none
mutual
def cS:Nat->Ctx->Stmt->Option SF
 |0,_,_=>none
 |n+1,c,st=>match st with
  |.Pass _=>some aQ
  |.Break _=>some BJ
  |.Continue _=>some oX
  |.Expr e _=>wR c e
  |.Return o _=>match o with
   |none=>some ug
   |some e=>(cE 60 c e).map bM
  |.Raise _ _ _=>some DG
  |.Assign Be e _=>match Be with
   |[]=>none
   |tg::r=>match r with
    |[]=>xr c tg e
    |_::_=>none
  |.If t a b _=>(cT 60 c t).bind λft=>(jH n c a).bind λfa=>(jH n c b).map λfb=>cX ft fa fb
  |.While t a o _=>match o with
   |[]=>(cT 60 c t).bind λft=>(jH n c a).map λfa=>jX ft fa
   |_::_=>none
  |.For tg it a o _=>match o with
   |[]=>if zE it=true then(DP (cE 60) c tg it).bind λfi=>(xU c tg).bind λfg=>(jH n c a).map λfa=>oA fi fg fa else none
   |_::_=>none
  |_=>none
def jH:Nat->Ctx->List Stmt->Option SF
 |0,_,_=>none
 |_+1,_,[]=>some aQ
 |n+1,c,st::r=>(cS n c st).bind λf=>(jH n c r).map λg=>aC f g
end
theorem zhI{c:Ctx}(ok:gB c X){px:Pos}{f:SF}(h:uH c x e=some f):SS X (.Assign [.Name x px] e spos) f:=by
 have hE:=(nQ 60).1;have hT:=(nQ 60).2;cases e with
 |ListComp elt gs scope p=>cases gs with
  |nil=>exact nomatch (show(none:Option SF)=some f from h)
  |cons g r=>cases r with
   |cons _ _=>exact nomatch (show(none:Option SF)=some f from h)
   |nil =>
    change (if x∈c.sts then(lF c.N x).bind λi=>(zu (cE 60) (cT 60) c elt g scope).map λf=>bB f (aK i) else none)=some f at h;by_cases hx:x∈c.sts
    .rw[if_pos hx] at h;obtain⟨i,e0,h⟩:=bC.mp h;obtain⟨f1,e1,rfl⟩:=aX.mp h;obtain⟨fi,fg,ft,fe,rfl,eg,Hh,hi,hY,hfs⟩:=VG hE hT ok e1;obtain⟨s1,s2⟩:=ok.st x hx;have nd:X.N.Nodup:=by rw[ok.N];exact ok.nd
     have sl:X.N[i]?=some x:=by rw[ok.N];exact vJ e0
     rw[eg];have key:swapsWith (.ListComp elt [⟨g.target,g.iter,g.ifs,0⟩] scope p) (some (.Name x px)) spos.line X.env=pure (X.env.blockKind==ScopeKind.function&&X.env.kindOf x==some NameKind.local&&px.line==p.line && !(scope.names.any λy=>y.1==x&&(y.2==NameKind.local||y.2==NameKind.cell))):=rfl;cases hb:(X.env.blockKind==ScopeKind.function&&X.env.kindOf x==some NameKind.local&&px.line==p.line && !(scope.names.any λy=>y.1==x&&(y.2==NameKind.local||y.2==NameKind.cell))) with
     |true =>
      rw[hb] at key;rw[dh,dh,dh] at hb;have hk:X.env.kindOf x=some .local:=by simpa using hb.1.1.2
      exact zlF nd sl hk key ok.calm Hh hi hY hfs
     |false =>
      rw[hb] at key;exact Ri nd sl s1 (QF ok.calm Hh hi hY hfs) key s2
    .rw[if_neg hx] at h;cases h
 |_=>exact nomatch (show(none:Option SF)=some f from h)
theorem Wa{c:Ctx}(ok:gB c X){o:Expr}{g:Str}{f:SF}(hc:xZ e=true)(h:Dw c o g e=some f):SS X (.Assign [.Attribute o g p] e spos) f:=by
 have hE:=(nQ 60).1;unfold Dw at h;cases o with
 |Name x q =>
  simp only at h;split at h
  .rename_i C e0;obtain⟨fe,e1,h⟩:=bC.mp h;obtain⟨fo,e2,rfl⟩:=aX.mp h;exact zpQ (ok.flds g C e0) (hE c X _ fo ok e2) (hE c X _ fe ok e1) (Ae hc _ _ _)
  .cases h
 |_=>cases h
theorem zi5{c:Ctx}(ok:gB c X){tg:Expr}{f:SF}(h:xr c tg e=some f):SS X (.Assign [tg] e spos) f:=by
 have hE:=(nQ 60).1;unfold xr at h;by_cases hc:xZ e=true
 .rw[if_pos hc] at h;by_cases ht:Ib e=true
  .rw[if_pos ht] at h;cases tg with
   |Attribute o g p=>exact Wa ok hc h
   |Name _ _ =>
    obtain⟨fe,e1,h⟩:=bC.mp h;obtain⟨fg,e2,rfl⟩:=aX.mp h;exact Je (hE c X _ fe ok e1) (Ab ok e2) (by unfold swapsWithSole;exact Ae hc _ _ _) (zjh rfl _ _) rfl
   |Tuple _ _ _ =>
    obtain⟨fe,e1,h⟩:=bC.mp h;obtain⟨fg,e2,rfl⟩:=aX.mp h;exact Je (hE c X _ fe ok e1) (Ab ok e2) (by unfold swapsWithSole;exact Ae hc _ _ _) (zjg ht _ _ _ _) rfl
   |_ =>
    obtain⟨fe,e1,h⟩:=bC.mp h;obtain⟨fg,e2,h⟩:=aX.mp h;cases e2
  .rw[if_neg ht] at h;cases tg with
   |Name x px =>
    change (if x∈c.sts then(cE 60 c e).bind λfe=>(lF c.N x).map λi=>bB fe (aK i) else none)=some f at h;by_cases hx:x∈c.sts
    .rw[if_pos hx] at h;obtain⟨fe,e1,h⟩:=bC.mp h;obtain⟨i,e2,rfl⟩:=aX.mp h;obtain⟨s1,s2⟩:=ok.st x hx;exact Ri (by rw[ok.N];exact ok.nd) (by rw[ok.N];exact vJ e2) s1 (hE c X _ fe ok e1) (Ae hc _ _ _) s2
    .rw[if_neg hx] at h;cases h
   |Attribute o g p=>exact Wa ok hc h
   |_=>exact nomatch (show(none:Option SF)=some f from h)
 .rw[if_neg hc] at h;cases tg with
  |Name x px=>exact zhI ok h
  |Tuple ts k0 p =>
   change (if wC e=true then HY c (.Tuple ts k0 p) e else none)=some f at h;by_cases hl:wC e=true
   .rw[if_pos hl] at h;obtain⟨fe,e1,h⟩:=bC.mp h;obtain⟨fg,e2,rfl⟩:=aX.mp h;cases e with
    |ListComp _ _ _ _=>exact Je (hE c X _ fe ok e1) (Ab ok e2) rfl rfl rfl
    |_=>cases hl
   .rw[if_neg hl] at h;cases h
  |_=>exact nomatch (show(none:Option SF)=some f from h)
theorem zj0{c:Ctx}(ok:gB c X){f:SF}(h:wR c e=some f):SS X (.Expr e p) f:=by
 have hE:=(nQ 60).1;unfold wR at h;by_cases hd:ux e=true
 .rw[if_pos hd] at h;cases h;cases e with
  |Constant k a b=>cases k with
   |str _=>exact zpR
   |_=>cases hd
  |_=>cases hd
 .rw[if_neg hd] at h;by_cases hc:xZ e=true
  .rw[if_pos hc] at h;obtain⟨fe,e1,rfl⟩:=aX.mp h;exact znI (hE c X _ fe ok e1) (Ae hc _ _ _)
  .rw[if_neg hc] at h;cases h
theorem Gb:∀n c X,gB c X->PassesOwn (model X.prog X.w) X.A X.env X.xe->(∀st f,cS n c st=some f->SS X st f)/\∀sts f,jH n c sts=some f->uJ X sts f
 |0,c,X,ok,hp=>⟨λ_ _ h=>by simp[cS] at h,λ_ _ h=>by simp[jH] at h⟩
 |n+1,c,X,ok,hp=>by
  obtain⟨ih1,ih2⟩:=Gb n c X ok hp;have hE:=(nQ 60).1;have hT:=(nQ 60).2;refine⟨λst f h=>?_,λsts f h=>?_⟩
  .unfold cS at h;cases st with
   |Pass _=>cases h;exact znH
   |Break _=>cases h;exact zpT
   |Continue _=>cases h;exact zpS
   |Expr e p=>exact zj0 ok h
   |Return o p=>cases o with
    |none=>cases h;exact znG
    |some e =>
     obtain⟨fe,e1,rfl⟩:=aX.mp h;exact zpN (hE c X _ fe ok e1)
   |Raise _ _ _=>cases h;exact zlG
   |Assign Be e p=>cases Be with
    |nil=>exact nomatch (show(none:Option SF)=some f from h)
    |cons tg r=>cases r with
     |nil=>exact zi5 ok h
     |cons _ _=>exact nomatch (show(none:Option SF)=some f from h)
   |If t a b p =>
    obtain⟨ft,e0,h⟩:=bC.mp h;obtain⟨fa,e1,h⟩:=bC.mp h;obtain⟨fb,e2,rfl⟩:=aX.mp h;exact Xz (hT c X _ ft ok e0) (ih2 _ fa e1) (ih2 _ fb e2)
   |While t a o p=>cases o with
    |cons _ _=>exact nomatch (show(none:Option SF)=some f from h)
    |nil =>
     obtain⟨ft,e0,h⟩:=bC.mp h;obtain⟨fa,e1,rfl⟩:=aX.mp h;exact zlE hp (hT c X _ ft ok e0) (ih2 _ fa e1)
   |For tg it a o p=>cases o with
    |cons _ _=>exact nomatch (show(none:Option SF)=some f from h)
    |nil =>
     change (if zE it=true then(DP (cE 60) c tg it).bind λfi=>(xU c tg).bind λfg=>(jH n c a).map λfa=>oA fi fg fa else none)=some f at h;by_cases hn:zE it=true
     .rw[if_pos hn] at h;obtain⟨fi,e0,h⟩:=bC.mp h;obtain⟨fg,e1,h⟩:=bC.mp h;obtain⟨fa,e2,rfl⟩:=aX.mp h;exact zpP hp ok.calm (VH hE ok e0) (Ab ok e1) (ih2 _ fa e2) (Vh hn X.env)
     .rw[if_neg hn] at h;cases h
   |_=>exact nomatch (show(none:Option SF)=some f from h)
  .cases sts with
   |nil=>rw[jH] at h;cases h;exact zpO
   |cons st r =>
    rw[jH] at h;simp only[bC,aX] at h;obtain⟨f1,e1,g1,e2,rfl⟩:=h;exact znJ (ih1 _ f1 e1) (ih2 _ g1 e2)
def FnAt.mono{P:Program}{w:World}{K:FgA}{mg:Str->Option Value}{base:Heap}{j k:Nat}{x:Str}{n:Nat}{φ:GN}(h:FnAt P w K mg base j x n φ)(hjk:j<=k):FnAt P w K mg base k x n φ :=
 let ⟨f,fd,ps,a,b,c,d⟩:=h
 ⟨f,fd,ps,a,b,c,d.mono hjk⟩
noncomputable def iI(names:List (Str×NameKind)):List Str:=(names.filter λy=>y.2 == .local||y.2 == .cell).map (·.1)
noncomputable def mkC(st:Stmt)(fns:List (Str×Nat×GN))(blt:List Str):Ctx:={ N:=iI (b7 st).names,names:=(b7 st).names,sts:=iI (b7 st).names,fns:=fns,blt:=blt }
noncomputable def pY(N:List Str)(ds:List D):Sg:=ds.map some++List.replicate (N.length - ds.length) none
theorem KY{N:List Str}(r:aG K H α ds vs):bH K H α (pY N ds) (start N vs):=by
 have hl:=r.length;refine⟨by simp[pY,L2.start,hl],λi d e=>?_⟩;have hi:i<ds.length:=by
  unfold pY at e;by_cases hi:i<ds.length
  .exact hi
  .rw[zp (by simpa using hi),List.getElem?_replicate] at e;split at e<;>cases e
 have ed:ds[i]?=some d:=by
  unfold pY at e;rw[ou (by simpa using hi),iY] at e;cases q:ds[i]? with
  |none=>rw[q] at e;cases e
  |some z=>rw[q] at e;cases e;rfl
 obtain⟨v,h1,h2⟩:=r.get ed;refine⟨v,?_,h2⟩;unfold L2.start;rw[ou (by rw[cW,<-hl];exact hi),iY,h1];rfl
def uN(r:Option (Fl×Sg×So))(z:D)(S S':So):Prop:=∃fl σ' gq,r=some (fl,σ',gq)/\(fl = .rt z\/(fl = .nx/\z = .non))/\S'=gq.take S'.length/\S.length<=S'.length/\D.lo S'.length z=true/\∀o∈S',O.lo S'.length o=true
theorem zjc(hu:∀y∈names,names.lookup y.1=some y.2)(h:x∈iI names):names.lookup x=some .local\/names.lookup x=some .cell:=by
 unfold iI at h;obtain⟨y,hy,rfl⟩:=List.mem_map.mp h;obtain⟨h1,h2⟩:=List.mem_filter.mp hy;rw[mG] at h2;have e:=hu y h1;rcases h2 with q|q
 .exact .inl (by rw[e];congr 1;simpa using q)
 .exact .inr (by rw[e];congr 1;simpa using q)
noncomputable def Bt(K:FgA)(n:Nat):Sp:=λvs H Q _=>∃(a:Addr) (ns:List Int),vs=[.ref a]/\qF K H a (ns.map V.int)/\ns.length<=n/\∀H',Q (.bl true) H'
end MX
end
section
namespace MX
open PySem L2
theorem FT{nx:Nat->So->Option (Option D)}{g:GF}{t:TF}{fe:EF}{S:So}{xs:List D}(T:Sg->Prop)(p:D->Bool)(h:D->D)(hnx:∀i:Nat,nx i S=some xs[i]?)(hstep:∀d∈xs,∀τ,T τ->∃τ',g d τ S=some (τ',S)/\T τ'/\t τ' S=some (p d,S)/\(p d=true->fe τ' S=some (h d,S))):
 ∀(n i:Nat) (τ:Sg) (acc:List D),T τ->i+n=xs.length->jx nx g t fe n i τ S acc=some (acc++((xs.drop i).filter p).map h,S)
 |0,i,τ,acc,hT,hl=>by unfold jx;rw[hnx,j9 (by omega),List.drop_of_length_le (by omega)];simp
 |n+1,i,τ,acc,hT,hl=>by
  have hi:i<xs.length:=by omega
  unfold jx;rw[hnx,f9 hi,List.drop_eq_getElem_cons hi];obtain⟨τ',h1,h2,h3,h4⟩:=hstep xs[i] (List.getElem_mem hi) τ hT;simp only[h1,b8,h3];cases hp:p xs[i] with
  |false =>
   simp only[Bool.false_eq_true,if_false];rw[FT T p h hnx hstep n (i+1) τ' acc h2 (by omega),List.filter_cons_of_neg (by simp[hp])]
  |true =>
   simp only[if_true,h4 hp,b8];rw[FT T p h hnx hstep n (i+1) τ' _ h2 (by omega),List.filter_cons_of_pos hp];simp
theorem FP{nx:Nat->So->Option (Option D)}{g:GF}{f:SF}{xs:List D}(P:Nat->Sg->So->Prop)(hnx:∀(i:Nat) σ S,P i σ S->nx i S=some xs[i]?)(hstep:∀(i:Nat) d σ S,xs[i]?=some d->P i σ S->∃σ1 S1 fl σ2 S2,g d σ S=some (σ1,S1)/\f σ1 S1=some (fl,σ2,S2)/\(fl = .nx\/fl = .ct)/\P (i+1) σ2 S2):
 ∀(n i:Nat) (σ:Sg) (S:So),P i σ S->i+n=xs.length->∃σ' S',jN nx g f n i σ S=some (.nx,σ',S')/\P xs.length σ' S'
 |0,i,σ,S,hP,hl=>by
  unfold jN;rw[hnx i σ S hP,j9 (by omega)];have:i=xs.length:=by omega
  subst this;exact⟨σ,S,rfl,hP⟩
 |n+1,i,σ,S,hP,hl=>by
  have hi:i<xs.length:=by omega
  unfold jN;rw[hnx i σ S hP,f9 hi];obtain⟨σ1,S1,fl,σ2,S2,h1,h2,h3,h4⟩:=hstep i xs[i] σ S (f9 hi) hP;obtain⟨σ',S',e1,e2⟩:=FP P hnx hstep n (i+1) σ2 S2 h4 (by omega);refine⟨σ',S',?_,e2⟩;simp only[h1,b8,h2];rcases h3 with rfl|rfl<;>exact e1
def Kr(ns:List Int):mW (ns.map D.int)=some ns:=by
 induction ns with
 |nil=>rfl
 |cons n r ih=>simp[mW,ih]
end MX
end
section
namespace MX
open PySem PySem.Spec PyProof.Rows L2
noncomputable def m6(n:Nat)(ds:List D):Sg:=ds.map some++List.replicate (n - ds.length) none
open Classical in
noncomputable def fnOf(n:Nat)(fb:SF):GN:=λds S=>match fb (m6 n ds) S with
 |some (.rt z,_,gq)=>if gq.take S.length=S/\D.lo S.length z=true then some (z,S) else if S.length<=gq.length/\D.lo gq.length z=true/\WF gq then some (z,gq) else none
 |some (.nx,_,gq)=>if gq.take S.length=S then some (.non,S) else if S.length<=gq.length/\WF gq then some (.non,gq) else none
 |_=>none
theorem Gg{N:List Str}(hn:N.length=n){z:D}(hS:WF S)(h:fnOf n fb ds S=some (z,S')):uN (fb (pY N ds) S) z S S':=by
 have e0:pY N ds=m6 n ds:=by unfold pY m6;rw[hn]
 rw[e0];unfold fnOf at h;split at h
 .rename_i z' σ' gq e;split at h
  .rename_i hc;cases h;exact⟨_,_,_,e,.inl rfl,hc.1.symm,bZ _,hc.2,hS⟩
  .split at h
   .rename_i hc;cases h;exact⟨_,_,_,e,.inl rfl,by simp,hc.1,hc.2.1,hc.2.2⟩
   .cases h
 .rename_i σ' gq e;split at h
  .rename_i hc;cases h;exact⟨_,_,_,e,.inr ⟨rfl,rfl⟩,hc.symm,bZ _,by simp[D.lo],hS⟩
  .split at h
   .rename_i hc;cases h;exact⟨_,_,_,e,.inr ⟨rfl,rfl⟩,by simp,hc.1,by simp[D.lo],hc.2⟩
   .cases h
 .cases h
theorem bQ{z:D}(h:fb (m6 n ds) S=some (.rt z,σ',S'))(hS:S'.take S.length=S)(hz:D.lo S.length z=true):fnOf n fb ds S=some (z,S):=by unfold fnOf;rw[h];simp only;rw[if_pos ⟨hS,hz⟩]
theorem Vv(h:fb (m6 n ds) S=some (.nx,σ',S'))(hS:S'.take S.length=S):fnOf n fb ds S=some (.non,S):=by unfold fnOf;rw[h];simp only;rw[if_pos hS]
theorem vC{z:D}(h:fb (m6 n ds) S=some (.rt z,σ',S'))(hne:¬(S'.take S.length=S/\D.lo S.length z=true))(hl:S.length<=S'.length)(hz:D.lo S'.length z=true)(hw:WF S'):fnOf n fb ds S=some (z,S'):=by unfold fnOf;rw[h];simp only;rw[if_neg hne,if_pos ⟨hl,hz,hw⟩]
def fu(K:FgA)(x:Str)(st:Stmt):Prop:=∃f fd,PySem.W.nsIn K mainGlobals x=some (some (.ref f))/\pJ K x x st f fd
def fu.mk'{f:Addr}{oc:Value}{od an:Option Addr}{osl:Array (Option Value)}{kV doc pm cdv ct:Value}(a:PySem.W.nsIn K mainGlobals x=some (some (.ref f)))(l:K.lookup f=some ⟨oc,od,.func (PySem.W.fnOf x x (mU st) (iQ st) (b7 st) .none kV doc pm an cdv ct),osl⟩)(c:PySem.W.codeIn K cdv x=true)(k:PySem.W.keepIn K (.ref f)=true):fu K x st:=⟨f,_,a,Q8 l c k⟩
def cG(P:Program)(w:World)(K:FgA)(mg:Str->Option Value)(base:Heap)(k:Nat)(fns:List (Str×Nat×GN)):Prop:=∀y n ψ,fns.lookup y=some (n,ψ)->FnAt P w K mg base k y n ψ
section
variable {P:Program}{w:World}{K:FgA}{mg:Str->Option Value}{base h:Heap}
def cG.nil:cG P w K mg base k []:=λ_ _ _ e=>by cases e
theorem cG.snoc{φ:GN}(hs:cG P w K mg base k fns)(h:FnAt P w K mg base (k+1) x n φ):cG P w K mg base (k+1) ((x,n,φ)::fns):=λy m ψ e=>by
 rw[jL] at e;split at e
 .rename_i q;cases e;have:y=x:=by simpa using q
  subst this;exact h
 .exact(hs y m ψ e).mono (Nat.le_succ _)
def pQ(x:Str)(st:Stmt)(ps:List Str):Prop:=∀(kV doc pm:Value) (an:Option Addr) (cdv ct:Value) (us:List Value),us.length=ps.length->bindArgs (PySem.W.fnOf x x (mU st) (iQ st) (b7 st) .none kV doc pm an cdv ct) ⟨us,[]⟩=pure (ps.zip us)
def zuF{p0:Str}(h:∀(kV doc pm:Value) (an:Option Addr) (cdv ct:Value) (u0:Value),bindArgs (PySem.W.fnOf x x (mU st) (iQ st) (b7 st) .none kV doc pm an cdv ct) ⟨[u0],[]⟩=pure ([p0].zip [u0])):pQ x st [p0]:=λkV doc pm an cdv ct us hl=>match us,hl with
 |[u0],_=>h kV doc pm an cdv ct u0
def bind2{p0 p1:Str}(h:∀(kV doc pm:Value) (an:Option Addr) (cdv ct:Value) (u0 u1:Value),bindArgs (PySem.W.fnOf x x (mU st) (iQ st) (b7 st) .none kV doc pm an cdv ct) ⟨[u0,u1],[]⟩=pure ([p0,p1].zip [u0,u1])):pQ x st [p0,p1]:=λkV doc pm an cdv ct us hl=>match us,hl with
 |[u0,u1],_=>h kV doc pm an cdv ct u0 u1
def bind3{p0 p1 p2:Str}(h:∀(kV doc pm:Value) (an:Option Addr) (cdv ct:Value) (u0 u1 u2:Value),bindArgs (PySem.W.fnOf x x (mU st) (iQ st) (b7 st) .none kV doc pm an cdv ct) ⟨[u0,u1,u2],[]⟩=pure ([p0,p1,p2].zip [u0,u1,u2])):pQ x st [p0,p1,p2]:=λkV doc pm an cdv ct us hl=>match us,hl with
 |[u0,u1,u2],_=>h kV doc pm an cdv ct u0 u1 u2
def bind4{p0 p1 p2 p3:Str}(h:∀(kV doc pm:Value) (an:Option Addr) (cdv ct:Value) (u0 u1 u2 u3:Value),bindArgs (PySem.W.fnOf x x (mU st) (iQ st) (b7 st) .none kV doc pm an cdv ct) ⟨[u0,u1,u2,u3],[]⟩=pure ([p0,p1,p2,p3].zip [u0,u1,u2,u3])):pQ x st [p0,p1,p2,p3]:=λkV doc pm an cdv ct us hl=>match us,hl with
 |[u0,u1,u2,u3],_=>h kV doc pm an cdv ct u0 u1 u2 u3
def tM(K:FgA)(x:Str)(st:Stmt)(c:Addr):Prop:=∃f fd,PySem.W.nsIn K mainGlobals x=some (some (.ref f))/\pJ K x x st f fd/\fd.code = .ref c
def zmV{blt:List Str}(KX:K.In h)(G:h.Ns mainGlobals mg)(hz:∀y∈blt,PySem.W.nsIn K mainGlobals y=some none):∀y∈blt,mg y=none:=λy hy=>PySem.W.mg_none_of KX G (hz y hy)
end
end MX
end
section
namespace MX
open PySem PySem.Spec PySem.W PyProof.Rows L2
theorem Vr:∀(os:List Obj) (b a:Nat) (o:Obj),(qQ os b).lookup a=some o->b<=a/\os[a - b]?=some o/\qP a o=true
 |[],_,_,_,e=>by cases e
 |o'::r,b,a,o,e=>by
  have low:(qQ r (Nat.succ b)).lookup a=some o->b<=a/\(o'::r)[a - b]?=some o/\qP a o=true:=λe=>by
   obtain⟨h1,h2,h3⟩:=Vr r (Nat.succ b) a o e;refine⟨by omega,?_,h3⟩;have:a - b=(a - Nat.succ b)+1:=by omega
   rw[this,List.getElem?_cons_succ];exact h2
  unfold qQ at e;cases q:qP b o' with
  |false=>rw[q] at e;exact low e
  |true =>
   rw[q] at e;simp only[cond_true,jL] at e;cases z:a==b with
   |false=>rw[z] at e;exact low e
   |true =>
    rw[z] at e;cases e;have z':a=b:=by simpa using z
    subst z';exact⟨bZ _,by rw[Nat.sub_self];rfl,q⟩
theorem zkW(h:Heap):(jf h).In h:=λa o e=>by obtain⟨_,h2,h3⟩:=Vr _ _ _ _ e;rw[Nat.sub_zero,Array.getElem?_toList] at h2;unfold Heap.get?;rw[h2];obtain⟨c,d,dt,sl⟩:=o;cases dt<;>first|rfl|(exact absurd h3 (by intro z;cases z))
def Ij(s:Stmt):dA s=mU s:=by cases s<;>rfl
def Ik(s:Stmt):dB s=iQ s:=by cases s<;>rfl
def Il(s:Stmt):dS s=b7 s:=by cases s<;>rfl
theorem fu.of_seen(h:zy K x=some (dA st,dB st,dS st,true)):fu K x st:=by
 rw[Ij,Ik,Il] at h;unfold zy at h;split at h
 .rename_i f a;split at h
  .rename_i oc od n q ps b sc g kV doc pm an cd ct bn osl l;simp only[Option.some.injEq,Prod.mk.injEq,dh,beq_iff_eq] at h;obtain⟨e1,e2,e3,e4,e5,e6,e7,e8,e9⟩:=h;have e6:=Nat.eq_of_beq_eq_true e6;have e7:=Nat.eq_of_beq_eq_true e7;subst e1 e2 e3 e4 e5 e6 e7;exact fu.mk' a l e8 e9
  .cases h
 .cases h
theorem zhL(D:fu K x st)(e:Eh K h x=(some (tabObj #[]),true)):
 ∃c Pt:Addr,tM K x st c/\codeHdIn K c Pt=true/\K.lookup Pt=none/\h.get? Pt=some (tabObj #[]):=by
 obtain⟨f,fd,a,F⟩:=D;unfold Eh at e;rw[a] at e;simp only at e;split at e
 .rename_i oc od F' osl l;split at e
  .rename_i c hc;split at e
   .rename_i c1 d1 vs s1 lc;split at e
    .rename_i Pt hv;simp only[Prod.mk.injEq,dh] at e;obtain⟨e1,e2,e3⟩:=e;refine⟨c,Pt,⟨f,fd,a,F,?_⟩,e2,?_,e1⟩
     .obtain⟨oc',od',kV,doc,pm,an,cdv,ct,osl',hfd,hl,_⟩:=F.ex;rw[l] at hl;cases hl;exact hc
     .cases q:K.lookup Pt with
      |none=>rfl
      |some o=>rw[q] at e3;cases e3
    .cases e
   .cases e
  .cases e
 .cases e
end MX
end
section
namespace MX
open PySem PySem.Spec PyProof.Rows L2
structure CE where
 flds:List (Str×Str):=[]
 mths:List (Str×Str×Nat×GN):=[]
 mks:List (Str×Nat×GN):=[]
 gls:List (Str×Str):=[]
noncomputable def Dn(P:Program)(w:World)(K:FgA)(mg:Str->Option Value)(base:Heap)(k:Nat)(C m:Str)(n:Nat)(φ:GN):Prop :=
 ∃f fd ps,jZ K (cU K C)/\Meth K (cU K C) m f/\Binds K fd ps []/\cY P w K mg base iW k f fd ps (tK K n φ)
noncomputable def Qn(P:Program)(w:World)(K:FgA)(mg:Str->Option Value)(base:Heap)(k:Nat)(C:Str)(n:Nat)(φ:GN):Prop :=
 ∃f fd ps j,j+1<=k/\mg C=some (.ref (cU K C))/\Mk K (cU K C) f/\Binds K fd ps []/\cY P w K mg base iW j f fd ps (tK K n φ)
structure gA(P:Program)(w:World)(K:FgA)(mg:Str->Option Value)(base:Heap)(k:Nat)(E:CE):Prop where
 flds:∀f C,E.flds.lookup f=some C->jZ K (cU K C)/\eV K (cU K C) f
 mths:∀m C n φ,E.mths.lookup m=some (C,n,φ)->Dn P w K mg base k C m n φ
 mks:∀C n φ,E.mks.lookup C=some (n,φ)->Qn P w K mg base k C n φ
 gls:∀x y,E.gls.lookup x=some y->∃t,mg x=some (.str y t)
section
variable {P:Program}{w:World}{K:FgA}{mg:Str->Option Value}{base h:Heap}
theorem gA.mono{j k:Nat}{E:CE}(e:gA P w K mg base j E)(hjk:j<=k):gA P w K mg base k E:=⟨e.flds,λm C n φ q=>by
 obtain⟨f,fd,ps,a,b,c,d⟩:=e.mths m C n φ q;exact⟨f,fd,ps,a,b,c,d.mono hjk⟩,λC n φ q=>by
 obtain⟨f,fd,ps,i,hi,a,b,c,d⟩:=e.mks C n φ q;exact⟨f,fd,ps,i,Nat.le_trans hi hjk,a,b,c,d⟩,e.gls⟩
noncomputable def pP(st:Stmt)(fns:List (Str×Nat×GN))(blt:List Str)(E:CE):Ctx:={ mkC st fns blt with flds:=E.flds,mths:=E.mths,mks:=E.mks,gls:=E.gls }
theorem JS{CX:pK}{qual:Str}{f:Addr}{blt:List Str}{E:CE}(S:oM (iI (b7 st).names) ps (b7 st))(hu:(b7 st).names.all (λy=>decide ((b7 st).names.lookup y.1=some y.2))=true)(wG:cG P w K mg base k fns)(gY:∀y∈blt,mg y=none)(hE:gA P w K mg base k E){cdv:Value}{outer:List Env}{E':XK}(hr:bK k (A.deeper (envOfC qual (b7 st) s.heap.objs.size f cdv))):
 gB (pP st fns blt E) (pL CX P w K mg base (iI (b7 st).names) qual (b7 st) f cdv A outer s H E')/\gB (pP st fns blt E) (pL CX P w K mg base (iI (b7 st).names) qual (b7 st) f cdv A outer s H E').nox:=by
 constructor
 all_goals
  refine⟨rfl,S.nd,rfl,S.kind,λy hy=>?_,λy n ψ q=>?_,gY,rfl,hr.units,λ_ _ _ h=>(nomatch h),λ_ _ _ h=>(nomatch h),λ_ _ _ _ _ h=>(nomatch h),λ_ _ _ _ _ _ h=>(nomatch h),hE.gls,λg C q=>⟨(hE.flds g C q).1,(hE.flds g C q).2⟩,λy C n ψ q=>?_,λC n ψ q=>?_⟩
  .rw[List.all_eq_true] at hu;exact⟨zjc (λz hz=>of_decide_eq_true (hu z hz)) hy,.inl rfl⟩
  .obtain⟨f',fd',ps',a,b,c,d⟩:=wG y n ψ q;exact⟨f',fd',ps',k,a,b,c,d,hr⟩
  .obtain⟨f',fd',ps',a,b,c,d⟩:=hE.mths y C n ψ q;exact⟨f',fd',ps',k,a,b,c,d,hr⟩
  .obtain⟨f',fd',ps',j,hj,a,b,c,d⟩:=hE.mks C n ψ q;exact⟨f',fd',ps',j,a,b,c,d,hr.mono hj⟩
theorem Kd{qual:Str}{f:Addr}{blt:List Str}{E:CE}{φ:GN}(F:pJ K x qual st f fd)(S:oM (iI (b7 st).names) ps (b7 st))(hu:(b7 st).names.all (λy=>decide ((b7 st).names.lookup y.1=some y.2))=true)(wG:∀y n ψ,fns.lookup y=some (n,ψ)->FnAt P w K mg base k y n ψ)(gY:∀y∈blt,mg y=none)(hE:gA P w K mg base k E)(hb:jH m (pP st fns blt E) (iQ st)=some fb)(hφ:∀ds S₀ z S',WF S₀->ds.length=ps.length->φ ds S₀=some (z,S')->uN (fb (pY (iI (b7 st).names) ds) S₀) z S₀ S'):
 cY P w K mg base iW (k+1) f fd ps (tK K ps.length φ):=by
 refine F.ok S (λvs H Q E h=>h.1) (λcdv A outer s H vs Q E' hr h=>?_);obtain⟨hlen,S₀,α,ds,z,S',hs,r,e,kk⟩:=h;have ok:=(JS (CX:=iW) (P:=P) (w:=w) (qual:=qual) (f:=f) (cdv:=cdv) (outer:=outer) (H:=H) (E':=E') S hu wG gY hE hr).2;refine⟨BV K fb,(Gb m _ _ ok PassesOwn.never).2 _ fb hb,?_⟩;obtain⟨fl,σ',gq,e1,e2,e3,e4,e5,e6⟩:=hφ ds S₀ z S' hs.wf (by rw[r.length];exact hlen) e;refine⟨_,S₀,α,fl,σ',gq,KY r,hs,e1,λσ2 H2 α2 v2 s2 x2=>?_⟩;have s3:aA K H2 (α2.take S'.length) S':=by have:=s2.cut S'.length (by rw[<-e3];exact e6);rw[<-e3] at this;exact this
 have x3:Ext K H α H2 (α2.take S'.length):=⟨x2.tups,λn a q=>by
  have hn:n<S'.length:=by have:=(fO.mp q).1;rw[hs.len] at this;omega
  rw[List.getElem?_take_of_lt hn];exact x2.pre n a q,x2.insts⟩
 rcases e2 with rfl|⟨rfl,rfl⟩
 .exact λv rv=>kk v H2 _ s3 x3 (rv.cut _ e5)
 .exact kk .non H2 _ s3 x3 .non
def iy(K:FgA)(C m:Str)(st:Stmt):Prop:=∃f fd,Meth K (cU K C) m f/\pJ K m (C ++ "." ++ m) st f fd
def Du(C m:Str)(st:Stmt)(ps:List Str):Prop:=∀(kV doc pm:Value) (an:Option Addr) (cdv ct:Value) (us:List Value),us.length=ps.length->bindArgs (PySem.W.fnOf m (C ++ "." ++ m) (mU st) (iQ st) (b7 st) .none kV doc pm an cdv ct) ⟨us,[]⟩=pure (ps.zip us)
theorem zmC{blt:List Str}{E:CE}(hs:cG P w K mg base k fns)(hE:gA P w K mg base k E)(KX:K.In h)(G:h.Ns mainGlobals mg)(gY:∀y∈blt,mg y=none)(hD:fu K x st)(hb0:pQ x st ps)(S:oM (iI (b7 st).names) ps (b7 st))(hu:(b7 st).names.all (λy=>decide ((b7 st).names.lookup y.1=some y.2))=true)(hn:(iI (b7 st).names).length=n)(hb:jH m (pP st fns blt E) (iQ st)=some fb):cG P w K mg base (k+1) ((x,ps.length,fnOf n fb)::fns):=by obtain⟨f,fd,a,F⟩:=hD;exact hs.snoc ⟨f,fd,ps,PySem.W.mg_of KX G a,F.kp,F.binds hb0,Kd F S hu hs gY hE hb λds S₀ z S' hw _ e=>Gg hn hw e⟩
theorem Kv{C:Str}{blt:List Str}{E:CE}(hs:cG P w K mg base k fns)(hE:gA P w K mg base k E)(hc:jZ K (cU K C))(gY:∀y∈blt,mg y=none)(hD:iy K C x st)(hb0:Du C x st ps)(S:oM (iI (b7 st).names) ps (b7 st))(hu:(b7 st).names.all (λy=>decide ((b7 st).names.lookup y.1=some y.2))=true)(hn:(iI (b7 st).names).length=n)(hb:jH m (pP st fns blt E) (iQ st)=some fb):gA P w K mg base (k+1) { E with mths:=(x,C,ps.length,fnOf n fb)::E.mths }:=by
 obtain⟨f,fd,a,F⟩:=hD;have e2:=hE.mono (Nat.le_succ k);refine⟨e2.flds,λy C' j ψ e=>?_,e2.mks,e2.gls⟩;have e:((x,C,ps.length,fnOf n fb)::E.mths).lookup y=some (C',j,ψ):=e;rw[jL] at e;split at e
 .rename_i q;cases e;have:y=x:=by simpa using q
  subst this;exact⟨f,fd,ps,hc,a,F.binds hb0,Kd F S hu hs gY hE hb λds S₀ z S' hw _ e=>Gg hn hw e⟩
 .exact e2.mths y C' j ψ e
theorem Tj{C:Str}{blt:List Str}{E:CE}(hs:cG P w K mg base k fns)(hE:gA P w K mg base k E)(gY:∀y∈blt,mg y=none)(hm:mg C=some (.ref (cU K C)))(hD:∃f fd,Mk K (cU K C) f/\pJ K "__init__" (C ++ ".__init__") st f fd)(hb0:∀(kV doc pm:Value) (an:Option Addr) (cdv ct:Value) (us:List Value),us.length=ps.length->bindArgs (PySem.W.fnOf "__init__" (C ++ ".__init__") (mU st) (iQ st) (b7 st) .none kV doc pm an cdv ct) ⟨us,[]⟩=pure (ps.zip us))(S:oM (iI (b7 st).names) ps (b7 st))(hu:(b7 st).names.all (λy=>decide ((b7 st).names.lookup y.1=some y.2))=true)(hn:(iI (b7 st).names).length=n)(hb:jH m (pP st fns blt E) (iQ st)=some fb):gA P w K mg base (k+2) { E with mks:=(C,ps.length,fnOf n fb)::E.mks }:=by
 obtain⟨f,fd,a,F⟩:=hD;have e2:=hE.mono (Nat.le_add_right k 2);refine⟨e2.flds,e2.mths,λy j ψ e=>?_,e2.gls⟩;have e:((C,ps.length,fnOf n fb)::E.mks).lookup y=some (j,ψ):=e;rw[jL] at e;split at e
 .rename_i q;cases e;have:y=C:=by simpa using q
  subst this;exact⟨f,fd,ps,k+1,bZ _,hm,a,F.binds hb0,Kd F S hu hs gY hE hb λds S₀ z S' hw _ e=>Gg hn hw e⟩
 .exact e2.mks y j ψ e
def cG.mono{j k:Nat}{fns:List (Str×Nat×GN)}(hs:cG P w K mg base j fns)(h:j<=k):cG P w K mg base k fns:=λy n ψ e=>(hs y n ψ e).mono h
end
end MX
end
section
namespace MX
open PySem PySem.Spec PySem.W PyProof.Rows L2
noncomputable def Cq(c:Ctx)(q:Str)(names:List (Str×NameKind)):Ctx:={ N:=q::xT names,names:=names,sts:=[],fns:=[],blt:=[],flds:=c.flds }
noncomputable def WM(m:Nat)(c:Ctx)(q0:Str)(e value:Expr):Option EF:=match value with
 |.Lambda params body scope _=>match HF params with
  |none=>none
  |some (q,_)=>if q=q0/\Cr c q scope=true then(cE m c e).bind λfe=>(rM c (xT scope.names)).bind λsrc=>(cE m (Cq c q scope.names) body).map λfb=>wV fe src fb else none
 |_=>none
noncomputable def HD:List Expr->List Keyword->Option (Expr×Option Str×Expr)
 |[e],[k]=>if mV e=true then some (e,k.arg,k.value) else none
 |_,_=>none
theorem zjf{v:Expr}{a:Option Str}(h:HD es ks=some (e,a,v)):es=[e]/\mV e=true/\∃kp,ks=[⟨a,v,kp⟩]:=by
 unfold HD at h;split at h
 .rename_i e' k;split at h
  .rename_i hs;obtain⟨a',v',kp⟩:=k;cases h;exact⟨rfl,hs,kp,rfl⟩
  .cases h
 .cases h
noncomputable def Pb(m:Nat)(c:Ctx)(q0 x:Str)(es:List Expr)(ks:List Keyword):Option EF:=(HD es ks).bind λr =>
 if c.names.lookup x=some .globalImplicit/\x∈c.blt then
  if x = "max" /\ r.2.1=some "default" then(cE m c r.1).bind λfe=>(cE m c r.2.2).map λfd=>uU fe fd
  else if x = "sorted" /\ r.2.1=some "key" then WM m c q0 r.1 r.2.2 else none
 else none
section
variable {c:Ctx}{X:Cx}
theorem zlP{q0:Str}{Pt ct:Addr}(ok:gB c X)(L:Ef X Pt ct)(hr:bK (k+3) X.A)(hbind:∀(ap:Pos) (body:Expr) (scope:Scope) (pm cdv ctv:Value) (clos:List (Str×Addr)) (qual:Str) (u:Value),bindArgs (kla_fn "<lambda>" qual (zF q0 ap) body scope clos pm cdv ctv) ⟨[u],[]⟩=pure [(q0,u)])(h:Pb m c q0 x es ks=some f):SE X (.Call (.Name x p) es ks pos) f:=by
 unfold Pb at h;rw[bC] at h;obtain⟨⟨e,a,v⟩,e0,h⟩:=h;obtain⟨rfl,hk2,kp,rfl⟩:=zjf e0;dsimp only at h;split at h
 .rename_i hc;obtain⟨h1,h2⟩:=hc;have Xe:X.env.scope.names.lookup x=some .globalImplicit:=by rw[ok.names];exact h1
  split at h
  .rename_i hc;obtain⟨rfl,rfl⟩:=hc;simp only[bC,aX] at h;obtain⟨fe,e1,fd,e2,rfl⟩:=h;exact zp9 ok.calm Xe (ok.blt _ h2) ((nQ m).1 c X e fe ok e1) ((nQ m).1 c X v fd ok e2) (by rw[jW hk2];rfl)
  .split at h
   .rename_i hc;obtain⟨rfl,rfl⟩:=hc;unfold WM at h;cases v with
    |Lambda params body scope bN =>
     simp only at h;split at h
     .cases h
     .rename_i q' ap eo;have eo:=zje eo;split at h
      .rename_i hc;obtain⟨rfl,h3⟩:=hc;simp only[bC,aX] at h;obtain⟨fe,e1,src,e2,fb,e3,rfl⟩:=h;subst eo;unfold Cr at h3;simp only[dh,uQ,Bool.not_eq_true',List.all_eq_true] at h3;obtain⟨⟨⟨⟨⟨⟨⟨k1,k2⟩,k3⟩,k4⟩,k5⟩,k6⟩,k7⟩,k8⟩:=h3;obtain⟨s1,s2⟩:=SQ e2;refine Xy (q:=q') (cap:=xT scope.names) (k:=k) L ⟨k1,k2,k3,k4,k5⟩ k6 (λy hy=>zpi hy) (λy hy hf=>?_) (λi y hi=>?_) s1 (zoH _) (λpm cdv ctv clos qual u=>hbind ap body scope pm cdv ctv clos qual u) (λbase M a cdv clos qual A outer s H E hrm=>?_) hr Xe (ok.blt _ h2) ((nQ m).1 c X e fe ok e1) (by rw[jW hk2];rfl)
       .show X.env.scope.names.lookup y.1=_;rw[ok.names];exact k7 y hy hf
       .obtain⟨j,j1,j2⟩:=s2 i y hi;exact⟨j,j1,by rw[ok.N];exact j2⟩
       .exact(nQ m).1 (Cq c q' scope.names) _ body fb ⟨rfl,k8,rfl,k1,λy hy=>(nomatch hy),λ_ _ _ h=>(nomatch h),λy hy=>(nomatch hy),rfl,hrm.units,λ_ _ _ h=>(nomatch h),λ_ _ _ h=>(nomatch h),λ_ _ _ _ _ h=>(nomatch h),λ_ _ _ _ _ _ h=>(nomatch h),λ_ _ h=>(nomatch h),λg C q=>⟨(ok.flds g C q).cls,(ok.flds g C q).no⟩,λ_ _ _ _ h=>(nomatch h),λ_ _ _ h=>(nomatch h)⟩ e3
      .cases h
    |_=>cases h
   .cases h
 .cases h
end
noncomputable def O.isT(x:Str):O->Bool
 |.tbl y=>decide (y=x)
 |_=>false
noncomputable def gQ(x:Str)(S:So):Bool:=S.any (O.isT x)
theorem zo1(hs:aA K H α S)(h:gQ x S=true):∃ps,H (iZ K x)=some (.tbl ps):=by
 unfold gQ at h;rw[List.any_eq_true] at h;obtain⟨o,ho,e⟩:=h;obtain⟨n,hn,rfl⟩:=List.mem_iff_getElem.mp ho;have hn':n<α.length:=by rw[hs.len];exact hn
 have ob:=hs.obj n S[n] α[n] (f9 hn) (f9 hn');cases q:S[n] with
 |tbl y =>
  rw[q] at e ob;have e:y=x:=of_decide_eq_true e;subst e;obtain⟨h0,ps,h1⟩:=ob;exact⟨ps,by rw[<-h0];exact h1⟩
 |_=>rw[q] at e;cases e
noncomputable def rZ(m:Nat)(st:Stmt)(fns:List (Str×Nat×GN))(blt:List Str)(E:CE)(q0:Str):Ctx:={ pP st fns blt E with kwx:=Pb m (pP st fns blt E) q0 }
noncomputable def oG(x:Str)(n:Nat)(fb:SF):GN:=λds S=>if gQ x S=true then fnOf n fb ds S else none
section
variable {P:Program}{w:World}{K:FgA}{mg:Str->Option Value}{base h:Heap}
theorem Uj{q0:Str}{blt:List Str}{E:CE}(hs:cG P w K mg base k fns)(hE:gA P w K mg base k E)(KX:K.In h)(G:h.Ns mainGlobals mg)(gY:∀y∈blt,mg y=none)(hD:tM K x st c)(hC:CodeHd base c (iZ K x))(hB:BM base mg)(hb0:pQ x st ps)(S:oM (iI (b7 st).names) ps (b7 st))(hu:(b7 st).names.all (λy=>decide ((b7 st).names.lookup y.1=some y.2))=true)(hbind:∀(ap:Pos) (body:Expr) (scope:Scope) (pm cdv ctv:Value) (clos:List (Str×Addr)) (qual:Str) (u:Value),bindArgs (kla_fn "<lambda>" qual (zF q0 ap) body scope clos pm cdv ctv) ⟨[u],[]⟩=pure [(q0,u)])(hn:(iI (b7 st).names).length=n)(hb:jH m (rZ m st fns blt E q0) (iQ st)=some fb):cG P w K mg base (k+4) ((x,ps.length,oG x n fb)::fns):=by
 obtain⟨f,fd,a,F,hcode⟩:=hD;refine(hs.mono (Nat.le_add_right k 3)).snoc ⟨f,fd,ps,PySem.W.mg_of KX G a,F.kp,F.binds hb0,?_⟩;obtain⟨oc,od,kV,doc,pm,an,pF,ct,osl,rfl,lk,o9⟩:=F.ex;refine Io lk o9 S (λvs H Q E h=>h.1) (λA outer s H vs Q E' hr h=>?_);obtain⟨hlen,S₀,α,ds,z,S',hst,r,e,kk⟩:=h;unfold oG at e;split at e
 .rename_i hT;have ok0:=(JS (CX:=iW) (P:=P) (w:=w) (K:=K) (mg:=mg) (base:=base) (qual:=x) (f:=f) (E':=E') (outer:=outer) (H:=H) (cdv:=pF) S hu hs gY hE (hr.mono (Nat.le_add_right k 3))).2;have L:Ef (pL iW P w K mg base (iI (b7 st).names) x (b7 st) f pF A outer s H E').nox (iZ K x) c:=⟨λ_=>rfl,zo1 hst hT,hcode,hC,hB⟩
  have ok:gB (rZ m st fns blt E q0) (pL iW P w K mg base (iI (b7 st).names) x (b7 st) f pF A outer s H E').nox :=
   ⟨ok0.N,ok0.nd,ok0.names,ok0.kind,ok0.st,ok0.fns,ok0.blt,ok0.calm,ok0.un,ok0.lf,λ_ _ _ h=>(nomatch h),ok0.ext,λy es ks g p pos q=>zlP ok0 L hr hbind q,ok0.gls,ok0.flds,ok0.mths,ok0.mks⟩
  refine⟨BV K fb,((Gb m _ _ ok PassesOwn.never).2 _ fb hb).nox,?_⟩;obtain⟨fl,σ',gq,e1,e2,e3,e4,e5,e6⟩:=Gg hn hst.wf e;refine⟨_,S₀,α,fl,σ',gq,KY r,hst,e1,λσ2 H2 α2 v2 s2 x2=>?_⟩;have s3:aA K H2 (α2.take S'.length) S':=by have:=s2.cut S'.length (by rw[<-e3];exact e6);rw[<-e3] at this;exact this
  have x3:Ext K H α H2 (α2.take S'.length):=⟨x2.tups,λn a q=>by
   have hn:n<S'.length:=by have:=(fO.mp q).1;rw[hst.len] at this;omega
   rw[List.getElem?_take_of_lt hn];exact x2.pre n a q,x2.insts⟩
  rcases e2 with rfl|⟨rfl,rfl⟩
  .exact λv rv=>kk v H2 _ s3 x3 (rv.cut _ e5)
  .exact kk .non H2 _ s3 x3 .non
 .cases e
theorem zmB(hs:cG P w K mg base k fns)(KX:K.In h)(G:h.Ns mainGlobals mg)(hD:fu K x st)(hb0:pQ x st ps):cG P w K mg base k ((x,ps.length,λ_ _=>none)::fns):=by
 obtain⟨f,fd,a,F⟩:=hD;intro y n ψ e;rw[jL] at e;split at e
 .rename_i q;cases e;have:y=x:=by simpa using q
  subst this;refine⟨f,fd,ps,PySem.W.mg_of KX G a,F.kp,F.binds hb0,⟨λvs H Q E h=>?_,λA outer s H args us vs Q E _ _ _ _ h=>?_⟩⟩
  .obtain⟨_,S,α,ds,z,S',_,_,e,_⟩:=h;cases e
  .obtain⟨_,S,α,ds,z,S',_,_,e,_⟩:=h;cases e
 .exact hs y n ψ e
end
theorem V9:∀(os:List Obj) (b a:Nat) (o:Obj),b<=a->os[a - b]?=some o->qP a o=true->(qQ os b).lookup a=some o
 |[],_,_,_,_,e,_=>by simp at e
 |o'::r,b,a,o,hb,e,hk=>by
  unfold qQ;by_cases hab:a=b
  .subst hab;rw[Nat.sub_self] at e;have:o'=o:=by simpa using e
   subst this;rw[hk];simp[List.lookup]
  .have e':(qQ r (Nat.succ b)).lookup a=some o:=by
    refine V9 r (Nat.succ b) a o (by omega) ?_ hk;have:a - b=(a - Nat.succ b)+1:=by omega
    rw[this,List.getElem?_cons_succ] at e;exact e
   cases qP b o' with
   |false=>exact e'
   |true =>
    simp only[cond_true,jL];have:(a==b)=false:=by simpa using hab
    rw[this];exact e'
theorem Vw(e:h.objs.toList[a]?=some o)(hk:qP a o=true):(jf h).lookup a=some o:=V9 _ 0 a o (Nat.zero_le _) (by rw[Nat.sub_zero];exact e) hk
theorem zmN{cd:Value}(e:Hw h.objs.toList cd x=true):codeIn (jf h) cd x=true:=by
 unfold Hw at e;split at e
 .rename_i c;split at e
  .rename_i o ho;obtain⟨oc,od,dt,sl⟩:=o;simp only at e;split at e
   .rename_i vs;split at e
    .cases e
    .rename_i hc;have l:(jf h).lookup c=some ⟨oc,od,.fields vs,sl⟩:=Vw ho (by
      unfold qP;cases oc<;>first | rfl | exact absurd rfl hc)
     show(match(jf h).lookup c with|some ⟨_,_,.fields vs,_⟩=>(match vs.toList with|_ :: .str n _::_=>n==x|_=>false)|_=>false)=true;rw[l];exact e
   .cases e
  .cases e
 .cases e
theorem fu.of_seenH(e:Ie (jf h) h.objs.toList x=some (dA st,dB st,dS st,true)):fu (jf h) x st:=by
 rw[Ij,Ik,Il] at e;unfold Ie at e;split at e
 .rename_i f a;split at e
  .rename_i o ho;obtain⟨oc,od,dt,osl⟩:=o;simp only at e;split at e
   .rename_i n q ps b sc g kV doc pm an cd ct bn;split at e
    .cases e
    .rename_i hc;simp only[Option.some.injEq,Prod.mk.injEq,dh,beq_iff_eq] at e;obtain⟨e1,e2,e3,e4,e5,e6,e7,e8⟩:=e;have e6:=Nat.eq_of_beq_eq_true e6;have e7:=Nat.eq_of_beq_eq_true e7;subst e1 e2 e3 e4 e5 e6 e7;have l:=Vw ho (by
      unfold qP;cases oc<;>first | rfl | exact absurd rfl hc)
     exact fu.mk' a l (zmN e8) (by
      show(match(jf h).lookup f with|some ⟨_,_,.func _,_⟩=>true|some ⟨_,_,.cls _,_⟩=>specialIn (jf h) (.ref f) "__call__" == some (some (.builtin "type.__call__"))|_=>false)=true;rw[l])
   .cases e
  .cases e
 .cases e
theorem iy.of_seen{C m:Str}(h:Ig K C m=some (dA st,dB st,dS st,true)):iy K C m st:=by
 rw[Ij,Ik,Il] at h;unfold Ig at h;split at h
 .rename_i f a;split at h
  .rename_i oc od n q ps b sc g kV doc pm an cd ct bn osl l;simp only[Option.some.injEq,Prod.mk.injEq,dh,beq_iff_eq] at h;obtain⟨e1,e2,e3,e4,e5,e6,e7,e8,e9,e10⟩:=h;have e6:=Nat.eq_of_beq_eq_true e6;have e7:=Nat.eq_of_beq_eq_true e7;subst e1 e2 e3 e4 e5 e6 e7;exact⟨f,_,⟨a,e10,e9⟩,Q8 l e8 e9⟩
  .cases h
 .cases h
theorem zlC{Pt:Addr}(D:tM K x st c)(e:codeHdIn K c Pt=true):Pt=iZ K x:=by
 obtain⟨f,fd,a,F,hc⟩:=D;obtain⟨oc,od,kV,doc,pm,an,cdv,ct,osl,rfl,l,_⟩:=F.ex;have hc':cdv = .ref c:=hc;subst hc';unfold iZ;rw[a];simp only[l];unfold codeHdIn at e;split at e
 .rename_i od2 vs osl2 hk;simp only[dh] at e;obtain⟨⟨⟨⟨⟨e1,e2⟩,e3⟩,e4⟩,e5⟩,e6⟩:=e;split at e1
  .rename_i P' h11;have hP:P'=Pt:=beq_iff_eq.mp e1;subst hP;show P'=match K.lookup c with|some ⟨_,_,.fields vs,_⟩=>(match(vs[11]?:Option Value) with|some (.ref P)=>P|_=>0)|_=>0
   rw[hk];simp only[h11]
  .cases e1
 .cases e
section
variable {P:Program}{w:World}{K:FgA}{mg:Str->Option Value}{base h:Heap}{C:Str}{fs:List Str}
theorem yw(e:sY K C fs=true):jZ K (cU K C)/\makesIn K (cU K C)=true/\keepIn K (.ref (cU K C))=true/\nsIn K mainGlobals C=some (some (.ref (cU K C)))/\∀f∈fs,eV K (cU K C) f:=by unfold sY at e;simp only[dh,beq_iff_eq,List.all_eq_true] at e;obtain⟨⟨a,b,c,d⟩,⟨x,y,z⟩,f⟩:=e;exact⟨⟨a,b,c,d⟩,x,y,z,f⟩
def J9(e:sY K C fs=true):jZ K (cU K C):=(yw e).1
def RB(KX:K.In h)(G:h.Ns mainGlobals mg)(e:sY K C fs=true):mg C=some (.ref (cU K C)):=mg_of KX G (yw e).2.2.2.1
theorem QH(M:iy K C "__init__" st)(e:sY K C fs=true)(hq:C ++ "." ++ "__init__" = C ++ ".__init__"):∃f fd,Mk K (cU K C) f/\pJ K "__init__" (C ++ ".__init__") st f fd:=by obtain⟨f,fd,m,F⟩:=M;rw[hq] at F;exact⟨f,fd,⟨(yw e).2.1,m.at_,m.fn,(yw e).2.2.1⟩,F⟩
theorem znE(KX:K.In h)(G:h.Ns mainGlobals mg)(e:vW K x y=true):∃t,mg x=some (.str y t):=by
 unfold vW at e;split at e
 .rename_i z t q;have:z=y:=by simpa using e
  subst this;exact⟨t,mg_of KX G q⟩
 .cases e
theorem X4{fl:List (Str×Str)}{gl:List (Str×Str)}(KX:K.In h)(G:h.Ns mainGlobals mg)(hf:∀y∈fl,∃fs,sY K y.2 fs=true/\y.1∈fs)(hg:∀y∈gl,vW K y.1 y.2=true):gA P w K mg base 0 { flds:=fl,gls:=gl } :=
 ⟨λf C e=>by
  obtain⟨fs,h1,h2⟩:=hf _ (iJ e);exact⟨(yw h1).1,(yw h1).2.2.2.2 _ h2⟩,λ_ _ _ _ h=>(nomatch h),λ_ _ _ h=>(nomatch h),λx y e=>znE KX G (hg _ (iJ e))⟩
end
theorem zmy{l:PySem.W.OpenLaw}{loose:List Str}{d:DefRec}{H:Hook}{N:Nat}(Bx:l.wellSaid=true)(left:LeftO l.prog q loose (λ_=>true) H.obs H.val N)(hdef:defOf q l.name=some (d,[]))(hp:l.prog.theDef l.name=some (d.params,d.body,d.scope))(hk:kwWritten? d.params.kwonlyargs d.params.kw_defaults=some [])(ok:(chainsOk q&&opensWell l.prog&&(frees l.row.toRowW&&l.row.within.isEmpty))=true)(hb:l.prog.bare)(hw:l.row.toRowW.promised)(call:PySem.W.WalkO q loose (λ_ _=>True) H.says l.row.toRowW d [] λf vs=>PySem.call f vs):l.Holds:=by
 refine holds_law Bx λsaid=>?_;refine holds_open (r:=l.row) (Xt:=λ_=>true) (XP:=λ_ _=>True) left H.of H.keeps ?_ ?_ hdef hp hk ?_ ?_ said ok hb hw call
 .exact λ_ _=>trivial
 .exact λ_ _ _ _ _=>trivial
 .exact λs _=>recFacts_of (R:=[]) rfl
 .show(!l.row.writes||true)=true;exact Bool.or_true _
noncomputable def Ej(K:FgA)(n:Nat)(Ps:List Addr):Sp:=λvs H Q E=>(∀Pt∈Ps,∃ps,H Pt=some (.tbl ps))/\Bt K n vs H Q E
section
variable {P:Program}{w:World}{K:FgA}{mg mb:Str->Option Value}
theorem zjo{fa:Addr}{s₁:Shared}{vs:List Value}{Ps:List Addr}(KX:K.In s₁.heap)(hns:s₁.heap.Ns mainGlobals mg)(hb:s₁.heap.Ns builtinsNs mb)(hbb:∀x:Str,x ≠ "__name__" -> mb x=bootBuiltins x)(hlim:s₁.heap.NoLimit)(hg:s₁.gens=#[])(ha:s₁.heap.get? a=some { cls := .type "list",data := .seq vs.toArray })(hi:IntsAre vs ns)(hl:ns.length<=63)(hr:bK k callerA)(hP:∀Pt∈Ps,s₁.heap.get? Pt=some (tabObj #[]))(hKP:∀Pt∈Ps,K.lookup Pt=none)(C:∀Pt∈Ps,∃c,CodeHd s₁.heap c Pt)(hbm:BM s₁.heap mg)(F:∀base:Heap,Mod K mg base->BM base mg->cY P w K mg base iW k fa fd [x] (Ej K 63 Ps))(hbind:∀(s:Shared) (u:Value),BindsTo s fd ⟨[u],[]⟩ [(x,u)]):
 codeAny (model P w) callerA (.call (.ref fa) ⟨[.ref a],[]⟩) (λr s'=>r = .ok (.ret (.bool true))/\OldK s₁.heap s'.heap/\s'.os=s₁.os/\AllBare s'.gens) s₁:=by
 have rv:=Vb hi;have lenV:=hi.length;have hPa:a∉Ps:=λz=>by have:=hP a z;rw[ha] at this;cases this
 have hl':ns.length<=sizeLine:=Nat.le_trans hl (by rw[sizeLine_eq];decide);have core:∀H:Hp,qF K H a (ns.map V.int)->gK P w H s₁.heap->(∀Pt∈Ps,H Pt=some (.tbl #[]))->(∀b,b∉Ps->H b=none\/(b=a/\K.lookup a=none/\∃o xs,H b=some (.frz o (.lst xs)))) ->
  codeAny (model P w) callerA (.call (.ref fa) ⟨[.ref a],[]⟩) (λr s'=>r = .ok (.ret (.bool true))/\OldK s₁.heap s'.heap/\s'.os=s₁.os/\AllBare s'.gens) s₁:=by
  intro H hS hok hT hO;have jJ:∀{b:Addr} {o:Obj},s₁.heap.get? b=some o->H b=none->(pN s₁.heap H).get? b=some o:=λe n=>zmx e n;have none_of:∀{b:Addr} {o:Obj},s₁.heap.get? b=some o->o≠tabObj #[]->o≠{ cls := .type "list",data := .seq vs.toArray }->H b=none:=λ{b o} e n1 n2=>by
   by_cases hb:b∈Ps
   .have:=hP b hb;rw[e] at this;cases this;exact absurd rfl n1
   .rcases hO b hb with z|⟨z,_⟩
    .exact z
    .subst z;rw[ha] at e;cases e;exact absurd rfl n2
  have rY:∀{b:Addr} {o:Obj} {es:Array DictEntry} {ep:Nat},s₁.heap.get? b=some o->o.data = .dict es ep->H b=none:=λ{b o es ep} e d =>
   none_of e (λz=>by rw[z] at d;cases d) (λz=>by rw[z] at d;cases d)
  have O9:∀{b:Addr} {m:Str->Option Value},s₁.heap.Ns b m->(pN s₁.heap H).Ns b m:=λ{b m} ⟨o,es,ep,e,d,r⟩=>⟨o,es,ep,jJ e (rY e d),d,r⟩
  have hKb:K.In (pN s₁.heap H):=λb o e=>jJ (KX b o e) (by
   by_cases hb:b∈Ps
   .have:=hKP b hb;rw[e] at this;cases this
   .rcases hO b hb with z|⟨z,z2,_⟩
    .exact z
    .subst z;rw[z2] at e;cases e)
  have hM:Mod K mg (pN s₁.heap H):=⟨hKb,O9 hns,⟨mb,O9 hb,hbb⟩,let ⟨mc,h1,h2⟩:=hlim;⟨mc,O9 h1,h2⟩⟩
  have e0:jK P w K mg (pN s₁.heap H) callerA [] s₁ H:=⟨rfl,hM,λb o e=>zoI e,Nat.le_of_eq (zkR _ _),trivial,λb hb=>absurd (show b∈([]:List Addr) from hb) (by simp),hok,.of_eq hg⟩
  have hB:BM (pN s₁.heap H) mg:=by obtain⟨bm,o,h1,h2,h3,h4,h5,h6⟩:=hbm;exact⟨bm,o,h1,h2,jJ h3 (none_of h3 (λz=>by rw[z] at h4;cases h4) (λz=>by rw[z] at h4;exact absurd (Value.type.inj h4) (by decide))),h4,h5,h6⟩
  have hsp:Ej K 63 Ps [.ref a] H (λv _=>v = .bl true) λ_ _ _=>False:=⟨λPt h=>⟨_,hT Pt h⟩,a,ns,rfl,hS,hl,λ_=>rfl⟩
  refine codeAny_mono ((F _ hM hB).run callerA [] s₁ H ⟨[.ref a],[]⟩ [.ref a] [.ref a] _ _ hr e0 (hbind s₁ (.ref a)) (.cons rfl .nil) hsp) λr s' h=>?_;cases r with
  |error e=>exact h.elim
  |ok fl =>
   cases fl with
   |next=>exact False.elim h
   |brk=>exact False.elim h
   |cont=>exact False.elim h
   |ret u =>
    obtain⟨v,H',os,bare,un,hok',r',q⟩:=h;have q':v = .bl true:=q;subst q';obtain rfl:u=Value.bool true:=r';have kept:∀b o,b∉Ps->s₁.heap.get? b=some o->s'.heap.get? b=some o:=λb o hb e=>by
     rcases hO b hb with z|⟨_,_,ob,xs,z⟩
     .exact un.keep b o e z (by intro z;exact absurd (show b∈([]:List Addr) from z) (by simp)) (by simp)
     .have z2:=un.frzs b ob _ z;obtain⟨e1,_⟩:=hok b _ z;obtain⟨e2,_⟩:=hok' b _ z2;rw[e] at e1;cases e1;exact e2
    have tb:∀Pt∈Ps,∃more,s'.heap.get? Pt=some { cls := .none,data := .fields (#[]++more) }:=λPt h=>by obtain⟨more,hm⟩:=un.tbls Pt _ (hT Pt h);obtain⟨em,_⟩:=hok' Pt _ hm;exact⟨more,em⟩
    refine⟨rfl,⟨λb o e=>?_,λb o e=>?_⟩,os,bare⟩
    .by_cases hb:b∈Ps
     .obtain⟨more,em⟩:=tb b hb;have hp:=hP b hb;rw[hp] at e;cases e;obtain⟨c,hc⟩:=C b hb;exact .inr (.inl ⟨(hc.tab hp).isCodeTable,rfl,#[],more,rfl,em⟩)
     .exact .inl (kept b o hb e)
    .by_cases hb:b∈Ps
     .obtain⟨more,em⟩:=tb b hb;exact⟨_,em⟩
     .exact⟨o,kept b o hb e⟩
 have uc:∀(H:Hp) (Pt:Addr),Pt∈Ps->bY P w H s₁.heap Pt (.tbl #[]):=λH Pt h=>⟨hP Pt h,trivial,λpos cv q=>by simp[codeAmong] at q⟩
 cases hk:K.lookup a with
 |some o =>
  have e:=KX a o hk;rw[ha] at e;cases e;refine core (λb=>if b∈Ps then some (.tbl #[]) else none) (.inr ⟨_,vs.toArray,_,hk,rfl,rfl,rfl,by rw[d7,lenV];exact hl',by simpa using rv⟩) (λb u z=>?_) (λPt h=>if_pos h) (λb hb => .inl (if_neg hb));by_cases hb:b∈Ps
  .have z':=(if_pos hb).symm.trans z;cases z';exact uc _ b hb
  .have z':=(if_neg hb).symm.trans z;cases z'
 |none =>
  refine core (λb=>if b∈Ps then some (.tbl #[]) else if b=a then some (.frz { cls := .type "list",data := .seq vs.toArray } (.lst (ns.map V.int))) else none) (.inl ⟨{ cls := .type "list",data := .seq vs.toArray },(if_neg hPa).trans (if_pos rfl)⟩) (λb u z=>?_) (λPt h=>if_pos h) (λb hb=>?_)
  .by_cases hb:b∈Ps
   .have z':=(if_pos hb).symm.trans z;cases z';exact uc _ b hb
   .have z1:=(if_neg hb).symm.trans z;by_cases hba:b=a
    .have z':=(if_pos hba).symm.trans z1;cases z';subst hba;exact⟨ha,by rw[cW];exact hl',vs,_,rv,ha⟩
    .have z':=(if_neg hba).symm.trans z1;cases z'
  .by_cases hba:b=a
   .exact .inr ⟨hba,hk,_,_,(if_neg hb).trans (if_pos hba)⟩
   .exact .inl ((if_neg hb).trans (if_neg hba))
theorem znF{ys:List Str}(hd:(ys.map (iZ K)).Nodup)(hz:qF K H a (ns.map V.int))(ht:∀Pt∈ys.map (iZ K),∃ps,H Pt=some (.tbl ps)):
 aA K H (a::ys.map (iZ K)) (.frz (ns.map D.int)::ys.map O.tbl):=by
 refine⟨by simp,λi j o o' b h1 h2 w1 w2 h3 h4=>?_,λi o b h1 h2=>?_⟩
 .rcases i with _|i
  .cases h1;cases w1
  .rcases j with _|j
   .cases h2;cases w2
   .rw[List.getElem?_cons_succ] at h3 h4;rw[(List.getElem?_inj (fO.mp h3).1 hd).mp (h3.trans h4.symm)]
 .rcases i with _|i
  .cases h1;cases h2;exact⟨_,hz,Vl ns⟩
  .rw[List.getElem?_cons_succ,iY] at h1 h2;cases q:ys[i]? with
   |none=>rw[q] at h1;cases h1
   |some y =>
    rw[q] at h1 h2;cases h1;cases h2;exact⟨rfl,ht _ (List.mem_map_of_mem (List.mem_of_getElem? q))⟩
end
noncomputable def zsT(xb:FgA->Bool)(ms:List (Str×Str×Stmt))(ds:List (Str×Stmt))(blt:List Str)(ts:List (Str×Stmt)):Hook where
 α:=(List xK×List (Option (Option Value)))×List (xK×(Option Obj×Bool))×(List xK×Bool)
 obs:=λs=>(tH ds blt s,zx (ts.map (·.1)) s,rW xb ms s)
 val:=λ_=>(tL ds blt,Ec ts,vQ ms)
 says:=λ_ h=>∃K:FgA,K.In h/\(((∀y∈ds,fu K y.1 y.2)/\∀y∈blt,nsIn K mainGlobals y=some none)/\(∀y∈ms,iy K y.1 y.2.1 y.2.2)/\xb K=true)/\∀y∈ts,∃c Pt:Addr,tM K y.1 y.2 c/\codeHdIn K c Pt=true/\K.lookup Pt=none/\h.get? Pt=some (tabObj #[])
 of:=λ_ s e=>⟨jf s.heap,zkW _,⟨⟨λy hy=>fu.of_seenH (List.map_inj_left.mp (Prod.mk.inj (Prod.mk.inj e).1).1 y hy),List.map_inj_left.mp (Prod.mk.inj (Prod.mk.inj e).1).2⟩,
  λy hy=>iy.of_seen (List.map_inj_left.mp (Prod.mk.inj (Prod.mk.inj (Prod.mk.inj e).2).2).1 y hy),(Prod.mk.inj (Prod.mk.inj (Prod.mk.inj e).2).2).2⟩,λy hy=>by
   have e2:=(Prod.mk.inj (Prod.mk.inj e).2).1;unfold zx Ec at e2;rw[List.map_map] at e2;have e3:=List.map_inj_left.mp e2 y hy;exact zhL (fu.of_seen (Prod.mk.inj e3).1) (Prod.mk.inj e3).2⟩
 keeps:=λ_ _ _ ⟨K,a,b,c⟩ k=>⟨K,a.keeps k,b,λy hy=>let ⟨c,Pt,z1,z2,z3,z4⟩:=c y hy;⟨c,Pt,z1,z2,z3,k _ _ z4⟩⟩
theorem left5{p:Program}{loose:List Str}{xb:FgA->Bool}{ms:List (Str×Str×Stmt)}{d1 d2:List (Str×Stmt)}{blt:List Str}{ts:List (Str×Stmt)}{N:Nat}(a:LeftO p q loose (λ_=>true) (λ_=>()) (λ_=>()) N)(b1:∀w,(openEnds treeTable p w N).map (tH d1 blt)=some (tL d1 blt))(b2:∀w,(openEnds treeTable p w N).map (tH d2 [])=some (tL d2 []))(c1:∀w,(openEnds treeTable p w N).map (zx (ts.map (·.1)))=some (Ec ts))(c2:∀w,(openEnds treeTable p w N).map (rW xb ms)=some (vQ ms)):
 LeftO p q loose (λ_=>true) (zsT xb ms (d1++d2) blt ts).obs (zsT xb ms (d1++d2) blt ts).val N:=by
 intro w;obtain⟨s,e,h1⟩:=aX.mp (a w);obtain⟨s2,e2,h2⟩:=aX.mp (b1 w);obtain⟨s3,e3,h3⟩:=aX.mp (b2 w);obtain⟨s4,e4,h4⟩:=aX.mp (c1 w);obtain⟨s5,e5,h5⟩:=aX.mp (c2 w);rw[e] at e2 e3 e4 e5;cases e2;cases e3;cases e4;cases e5;rw[e];have g1:=(Prod.mk.inj h1).1;have g2:=Prod.mk.inj h2;have g3:=Prod.mk.inj h3;have g:tH (d1++d2) blt s=tL (d1++d2) blt:=by unfold tH tL;rw[uY,uY,g2.1,g3.1,g2.2]
 show some (_,(tH (d1++d2) blt s,zx (ts.map (·.1)) s,rW xb ms s))=_;rw[g1,g,h4,h5];rfl
theorem ziV{xb:FgA->Bool}{ms:List (Str×Str×Stmt)}{l:PySem.W.OpenLaw}{loose:List Str}{XP:(Str->Option Value)->Heap->Prop}{d:DefRec}{ds:List (Str×Stmt)}{blt:List Str}{ts:List (Str×Stmt)}(hn:l.most=some 63)(hdf:d.params.defaults=[])(hr:bK k callerA)(F:∀(w:World) (mg:Str->Option Value) (fa:Addr) (h:Heap) (K:FgA),K.In h->h.Ns mainGlobals mg->mg d.name=some (.ref fa)->(∀y∈ds,fu K y.1 y.2)->(∀y∈blt,nsIn K mainGlobals y=some none)->(∀y∈ms,iy K y.1 y.2.1 y.2.2)->xb K=true ->
  (∀y∈ts,∃c,tM K y.1 y.2 c/\∀h:Heap,K.In h->CodeHd h c (iZ K y.1)) ->
  ∃(fd:FuncData),(∀(s:Shared) (u:Value),BindsTo s fd ⟨[u],[]⟩ [(x,u)])/\∀base:Heap,Mod K mg base->BM base mg->cY l.prog w K mg base iW k fa fd [x] (Ej K 63 ((ts.map (·.1)).map (iZ K)))):
 PySem.W.WalkO q loose XP (zsT xb ms ds blt ts).says l.row.toRowW d [] (λf vs=>PySem.call f vs):=by
 refine Xp.zh8 hn hdf λw s₀ s₁ mg mb fa o pm cd doc a vs ns G Y ho hd hcd hmg hobj hints hlen hg=>?_;obtain⟨K,KX,⟨⟨hD,hB⟩,hM,hX⟩,hT⟩:=Y;have hT':∀y∈ts,∃c,tM K y.1 y.2 c/\codeHdIn K c (iZ K y.1)=true/\K.lookup (iZ K y.1)=none/\s₁.heap.get? (iZ K y.1)=some (tabObj #[]):=λy hy=>by obtain⟨c,Pt,z1,z2,z3,z4⟩:=hT y hy;have ePt:=zlC z1 z2;subst ePt;exact⟨c,z1,z2,z3,z4⟩
 obtain⟨fd,hb,hF⟩:=F w mg fa _ K KX G.T.g hmg hD hB hM hX λy hy=>by obtain⟨c,z1,z2,_⟩:=hT' y hy;exact⟨c,z1,λh X=>codeHd_of_K X z2⟩
 have hbm:BM s₁.heap mg:=by obtain⟨bm,ob,b1,b2,b3,b4,b5,b6⟩:=G.T.bmain;exact⟨bm,ob,b1,b2,b3,b4,b5,b6⟩
 have at_:∀Pt∈(ts.map (·.1)).map (iZ K),∃y∈ts,Pt=iZ K y.1:=λPt h=>by rw[List.map_map] at h;obtain⟨y,hy,rfl⟩:=List.mem_map.mp h;exact⟨y,hy,rfl⟩
 refine zjo KX G.T.g G.T.b G.T.builtins G.T.nolimit hg hobj hints hlen hr (λPt h=>?_) (λPt h=>?_) (λPt h=>?_) hbm hF hb
 .obtain⟨y,hy,rfl⟩:=at_ Pt h;obtain⟨c,z1,z2,z3,z4⟩:=hT' y hy;exact z4
 .obtain⟨y,hy,rfl⟩:=at_ Pt h;obtain⟨c,z1,z2,z3,z4⟩:=hT' y hy;exact z3
 .obtain⟨y,hy,rfl⟩:=at_ Pt h;obtain⟨c,z1,z2,z3,z4⟩:=hT' y hy;exact⟨c,codeHd_of_K KX z2⟩
end MX
end
section
namespace MX
open PySem PySem.Spec PySem.W PySem.Calls PyProof.Rows L2
theorem zjp{P:Program}{p:Str}{blt:List Str}{E:CE}{fa:Addr}{ys:List Str}(KX:K.In h)(G:h.Ns mainGlobals mg)(gY:∀y∈blt,mg y=none)(hfa:mg x=some (.ref fa))(hD:fu K x st)(hnd:(ys.map (iZ K)).Nodup)(hb0:pQ x st [p])(S:oM (iI (b7 st).names) [p] (b7 st))(hu:(b7 st).names.all (λy=>decide ((b7 st).names.lookup y.1=some y.2))=true)(hn:(iI (b7 st).names).length=n)(hb:jH m (pP st fns blt E) (iQ st)=some fb)(hs:∀base:Heap,Mod K mg base->BM base mg->cG P w K mg base k fns/\gA P w K mg base k E)(hφ:∀ns:List Int,ns.length<=63->∃σ' gq,fb (m6 n [.ref 0]) (.frz (ns.map D.int)::ys.map O.tbl)=some (.rt (.bl true),σ',gq)):
 ∃(fd:FuncData),(∀(s:Shared) (v:Value),BindsTo s fd ⟨[v],[]⟩ [(p,v)])/\∀base:Heap,Mod K mg base->BM base mg->cY P w K mg base iW (k+1) fa fd [p] (Ej K 63 (ys.map (iZ K))):=by
 obtain⟨f,fd,ha,F⟩:=hD;have e:=hfa.symm.trans (PySem.W.mg_of KX G ha);cases e;obtain⟨oc,od,kV,doc,pm,an,pF,ct,osl,rfl,lk,o9⟩:=F.ex;refine⟨_,λs v => .of_eq (hb0 kV doc pm an pF ct [v] rfl),λbase M B=>?_⟩;refine Io lk o9 S (λvs H Q E h=>?_) (λA outer s H vs Q E' hr h=>?_)
 .obtain⟨_,a,ns,rfl,_⟩:=h;rfl
 obtain⟨htab,a,ns,rfl,hz,hl,kk⟩:=h;obtain⟨f1,f2⟩:=hs base M B;refine⟨BV K fb,((Gb m _ _ (JS (CX:=iW) S hu f1 gY f2 hr).2 PassesOwn.never).2 _ fb hb).nox,?_⟩;obtain⟨σ',gq,e⟩:=hφ ns hl;have e0:pY (iI (b7 st).names) [D.ref 0]=m6 n [D.ref 0]:=by unfold pY m6;rw[hn]
 rw[<-e0] at e;refine⟨_,_,_,_,σ',gq,KY (K:=K) (α:=a::ys.map (iZ K)) (.cons (.ref rfl) .nil),znF (K:=K) (H:=H) hnd hz htab,e,λσ2 H2 α2 v2 s2 x2 v rv=>?_⟩;cases rv;exact kk H2
end MX
end
end
section
namespace MX.P
open PySem L2 MX
noncomputable def V5:SF:=aC (bM (dD (d9 (aj 0)) (aK 0) cZ (eB aH (aj 0) (aj 1)) [none,some 1])) aQ
noncomputable def Gw:GN:=fnOf 2 V5
noncomputable def Wc:SF:=aC (bB (dD (lR (ak (eC (.int 3)) aB)) (aK 0) cZ (eN qN (ak (eN (aR 2 Gw) (ak (aj 1) (ak (aj 0) aB))) aB)) [none,some 0]) (aK 1)) (aC (bB (dD (lR (ak (eC (.int 3)) aB)) (aK 0) cZ (eN lY (ak (eN (aR 2 Gw) (ak (aj 1) (ak (aj 0) aB))) aB)) [none,some 0]) (aK 2)) (aC (bM (eN bL (ak (eN lX (ak (aj 1) aB)) (ak (eN lX (ak (aj 2) aB)) aB)))) aQ))
noncomputable def yJ:GN:=fnOf 3 Wc
noncomputable def Wj:SF:=aC (bM (eN nq (ak (dD (qI (ak (aj 0) (ak (aj 1) aB))) (jy 2 (dY (aK 0) (dY (aK 1) jO))) cZ (eB (aV .LtE) (aj 0) (aj 1)) [none,none]) aB))) aQ
noncomputable def Mh:GN:=fnOf 2 Wj
noncomputable def KD:SF:=aC (cX (bI (eB (aV .Eq) (jR (aj 0) kY (jP (eC (.int 1)))) (eN bL (ak (eC (.str "box")) aB)))) (aC (bM (sZ (eB (aV .Eq) (eN jo (ak (aj 0) aB)) (eC (.int 3))) (eN (aR 2 Mh) (ak (eB aH (aj 0) (eC (.int 1))) (ak (eB aH (aj 0) (eC (.int 2))) aB))))) aQ) aQ) (aC (bM (sZ (eB (aV .Eq) (jR (aj 0) kY (jP (eC (.int 1)))) (eN bL (ak (eC (.str "triangle")) aB))) (eB (aV .Eq) (eN jo (ak (aj 0) aB)) (eC (.int 4))))) aQ)
noncomputable def yL:GN:=fnOf 1 KD
noncomputable def Wt:SF:=aC (cX (vh (kj (eN (aR 1 yL) (ak (aj 0) aB)))) (aC DG aQ) aQ) aQ
noncomputable def Nm:GN:=fnOf 1 Wt
noncomputable def T7:SF:=aC (pU (eN (aR 1 Nm) (ak (aj 0) aB))) (aC (bM (eN (aR 1 yJ) (ak (eN qM (ak (jR (aj 0) (jP (eC (.int 1))) kY) aB)) aB))) aQ)
noncomputable def vG:GN:=fnOf 1 T7
noncomputable def Lh:SF:=aC (cX (bI (eB (aV .Eq) (aj 0) (eN lB aB))) (aC (bM (eB (aN .Mult) (aj 1) (eC (.int 7919)))) aQ) aQ) (aC (bM (eB (aN .Add) (eB aH (aj 0) (eB (aN .Mod) (aj 1) (eN jo (ak (aj 0) aB)))) (eB (aN .Mult) (eB (aN .FloorDiv) (aj 1) (eN jo (ak (aj 0) aB))) (eC (.int 104729))))) aQ)
noncomputable def qj:GN:=fnOf 2 Lh
noncomputable def Lb:SF:=aC (bB (eB (aN .Mod) (eB (aN .Add) (eB (aN .Mult) (aj 0) (eC (.int 6364136223846793005))) (eB (aN .Mult) (eB (aN .Add) (aj 1) (eC (.int 1))) (eC (.int 1442695040888963407)))) (eC (.int 340282366920938463463374607431768211507))) (aK 2)) (aC (bM (eB (aN .Mod) (eB (aN .Mult) (aj 2) (aj 2)) (eC (.int 340282366920938463463374607431768211297)))) aQ)
noncomputable def Av:GN:=fnOf 3 Lb
noncomputable def Wr:SF:=aC (jX (bI (eB (aV .NotEq) (aj 1) (eC (.int 0)))) (aC (bB (eB (aN .Mod) (aj 0) (aj 1)) (aK 2)) (aC (bB (aj 1) (aK 0)) (aC (bB (aj 2) (aK 1)) aQ)))) (aC (bM (eN pM (ak (aj 0) aB))) aQ)
noncomputable def GD:GN:=fnOf 3 Wr
noncomputable def Wk:SF:=aC (bB (eN (aR 2 GD) (ak (eB aH (aj 0) (eC (.int 0))) (ak (eB aH (aj 0) (eC (.int 1))) aB))) (aK 1)) (aC (bM (eN bL (ak (eB (aN .FloorDiv) (eB aH (aj 0) (eC (.int 0))) (aj 1)) (ak (eB (aN .FloorDiv) (eB aH (aj 0) (eC (.int 1))) (aj 1)) aB)))) aQ)
noncomputable def t6:GN:=fnOf 2 Wk
noncomputable def Kw:SF:=aC (bM (eB (aV .Lt) (eB (aN .Mult) (eB aH (aj 0) (eC (.int 0))) (eB aH (aj 1) (eC (.int 1)))) (eB (aN .Mult) (eB aH (aj 1) (eC (.int 0))) (eB aH (aj 0) (eC (.int 1)))))) aQ
noncomputable def tY:GN:=fnOf 2 Kw
noncomputable def Mw:SF:=aC (bM (eN bL (ak (eB (aN .Sub) (eB aH (aj 1) (eC (.int 0))) (eB aH (aj 0) (eC (.int 0)))) (ak (eB (aN .Sub) (eB aH (aj 1) (eC (.int 1))) (eB aH (aj 0) (eC (.int 1)))) (ak (eB (aN .Sub) (eB aH (aj 1) (eC (.int 2))) (eB aH (aj 0) (eC (.int 2)))) aB))))) aQ
noncomputable def fD:GN:=fnOf 2 Mw
noncomputable def Ii:SF:=aC (bM (eB (aN .Add) (eB (aN .Add) (eB (aN .Mult) (eB aH (aj 0) (eC (.int 0))) (eB aH (aj 1) (eC (.int 0)))) (eB (aN .Mult) (eB aH (aj 0) (eC (.int 1))) (eB aH (aj 1) (eC (.int 1))))) (eB (aN .Mult) (eB aH (aj 0) (eC (.int 2))) (eB aH (aj 1) (eC (.int 2)))))) aQ
noncomputable def gj:GN:=fnOf 2 Ii
noncomputable def Jk:SF:=aC (bM (eN bL (ak (eB (aN .Sub) (eB (aN .Mult) (eB aH (aj 0) (eC (.int 1))) (eB aH (aj 1) (eC (.int 2)))) (eB (aN .Mult) (eB aH (aj 0) (eC (.int 2))) (eB aH (aj 1) (eC (.int 1))))) (ak (eB (aN .Sub) (eB (aN .Mult) (eB aH (aj 0) (eC (.int 2))) (eB aH (aj 1) (eC (.int 0)))) (eB (aN .Mult) (eB aH (aj 0) (eC (.int 0))) (eB aH (aj 1) (eC (.int 2))))) (ak (eB (aN .Sub) (eB (aN .Mult) (eB aH (aj 0) (eC (.int 0))) (eB aH (aj 1) (eC (.int 1)))) (eB (aN .Mult) (eB aH (aj 0) (eC (.int 1))) (eB aH (aj 1) (eC (.int 0))))) aB))))) aQ
noncomputable def jF:GN:=fnOf 2 Jk
noncomputable def Nv:SF:=aC (cX (bI (eB (aV .Gt) (aj 1) (eC (.int 0)))) (aC (bM (eN bL (ak (eN bL (ak (eB (aN .Sub) (aj 2) (aj 0)) (ak (aj 1) aB))) (ak (eN bL (ak (eB (aN .Sub) (aj 3) (aj 0)) (ak (aj 1) aB))) aB)))) aQ) aQ) (aC (bM (eN bL (ak (eN bL (ak (eB (aN .Sub) (aj 0) (aj 3)) (ak (eU uV (aj 1)) aB))) (ak (eN bL (ak (eB (aN .Sub) (aj 0) (aj 2)) (ak (eU uV (aj 1)) aB))) aB)))) aQ)
noncomputable def M7:GN:=fnOf 4 Nv
noncomputable def K6:SF:=bB (eN bL (ak (eC (.int 0)) (ak (eC (.int 1)) aB))) (aK 2)
noncomputable def K7:SF:=bB (eC .non) (aK 3)
noncomputable def Aj:SF:=cX (bI (eB (aV .Eq) (aj 5) (eC (.int 0)))) (aC (cX (jD (bI (eB (aV .Lt) (aj 4) (aj 6))) (bI (eB (aV .Gt) (aj 4) (aj 7)))) (aC (bM (eC .non)) aQ) aQ) (aC oX aQ)) aQ
noncomputable def LR:SF:=bB (eN (aR 4 M7) (ak (aj 4) (ak (aj 5) (ak (aj 6) (ak (aj 7) aB))))) (aK 8)
noncomputable def Ma:SF:=cX (kj (eN (aR 2 tY) (ak (aj 2) (ak (eB aH (aj 8) (eC (.int 0))) aB)))) (aC (bB (eB aH (aj 8) (eC (.int 0))) (aK 2)) aQ) aQ
noncomputable def Mf:SF:=cX (jD (bI (eB (aV .Is) (aj 3) (eC .non))) (kj (eN (aR 2 tY) (ak (eB aH (aj 8) (eC (.int 1))) (ak (aj 3) aB))))) (aC (bB (eB aH (aj 8) (eC (.int 1))) (aK 3)) aQ) aQ
noncomputable def ql:SF:=aC Aj (aC LR (aC Ma (aC Mf aQ)))
noncomputable def K8:SF:=oA (qI (ak (eB aH (aj 0) (eC (.int 0))) (ak (eB aH (aj 0) (eC (.int 1))) (ak (eB aH (aj 1) (eC (.int 0))) (ak (eB aH (aj 1) (eC (.int 1))) aB))))) (jy 4 (dY (aK 4) (dY (aK 5) (dY (aK 6) (dY (aK 7) jO))))) ql
noncomputable def Aw:SF:=cX (kj (eN (aR 2 tY) (ak (aj 3) (ak (aj 2) aB)))) (aC (bM (eC .non)) aQ) aQ
noncomputable def Vn:SF:=bM (eN bL (ak (aj 2) (ak (aj 3) aB)))
noncomputable def Gm:SF:=aC K6 (aC K7 (aC K8 (aC Aw (aC Vn aQ))))
noncomputable def vN:GN:=fnOf 9 Gm
noncomputable def Lw:SF:=aC (bB (eN (aR 2 vN) (ak (aj 0) (ak (aj 1) aB))) (aK 2)) (aC (cX (bI (eB (aV .Is) (aj 2) (eC .non))) (aC (bM (eC .non)) aQ) aQ) (aC (bM (eN (aR 1 t6) (ak (eB aH (aj 2) (eC (.int 0))) aB))) aQ))
noncomputable def K9:GN:=fnOf 3 Lw
noncomputable def KC:SF:=aC (bM (eN lB (ak (eN bL (ak (eB aH (aj 0) (eC (.int 0))) (ak (eB aH (aj 0) (eC (.int 1))) aB))) (ak (eN bL (ak (eB aH (aj 0) (eC (.int 1))) (ak (eB aH (aj 0) (eC (.int 2))) aB))) (ak (eN bL (ak (eB aH (aj 0) (eC (.int 2))) (ak (eB aH (aj 0) (eC (.int 0))) aB))) aB))))) aQ
noncomputable def vL:GN:=fnOf 1 KC
noncomputable def GJ:SF:=aC (bB (eB aH (aj 0) (eC (.int 1))) (aK 3)) (aC (bB (eN (aR 2 fD) (ak (eB aH (aj 0) (eC (.int 0))) (ak (aj 1) aB))) (aK 4)) (aC (cX (bI (eB (aV .NotEq) (eN (aR 2 jF) (ak (aj 4) (ak (aj 3) aB))) (eN bL (ak (eC (.int 0)) (ak (eC (.int 0)) (ak (eC (.int 0)) aB)))))) (aC (bM (eC .non)) aQ) aQ) (aC (bB (eN bL (ak (eN (aR 2 gj) (ak (aj 4) (ak (aj 3) aB))) (ak (eN (aR 2 gj) (ak (eN (aR 2 fD) (ak (eB aH (aj 0) (eC (.int 0))) (ak (aj 2) aB))) (ak (aj 3) aB))) aB))) (aK 5)) (aC (cX (bI (eB (aV .Lt) (eN lY (ak (aj 5) aB)) (eC (.int 0)))) (aC (bM (eC .non)) aQ) aQ) (aC (bM (eN (aR 1 t6) (ak (eN bL (ak (eN lY (ak (eN qN (ak (aj 5) aB)) (ak (eC (.int 0)) aB))) (ak (eN (aR 2 gj) (ak (aj 3) (ak (aj 3) aB))) aB))) aB))) aQ)))))
noncomputable def Mz:GN:=fnOf 6 GJ
noncomputable def vO:SF:=aC (bB (eB aH (aj 0) (eC (.int 1))) (aK 3)) (aC (bB (eN (aR 2 fD) (ak (aj 1) (ak (aj 2) aB))) (aK 4)) (aC (bB (eN (aR 2 jF) (ak (aj 3) (ak (aj 4) aB))) (aK 5)) (aC (cX (bI (eB (aV .Eq) (aj 5) (eN bL (ak (eC (.int 0)) (ak (eC (.int 0)) (ak (eC (.int 0)) aB)))))) (aC (bM (eN (aR 3 Mz) (ak (aj 0) (ak (aj 1) (ak (aj 2) aB))))) aQ) aQ) (aC (bB (eN (aR 2 fD) (ak (eB aH (aj 0) (eC (.int 0))) (ak (aj 1) aB))) (aK 6)) (aC (cX (bI (eB (aV .NotEq) (eN (aR 2 gj) (ak (aj 6) (ak (aj 5) aB))) (eC (.int 0)))) (aC (bM (eC .non)) aQ) aQ) (aC (bB (eN (aR 2 gj) (ak (aj 5) (ak (aj 5) aB))) (aK 7)) (aC (bB (eN (aR 2 gj) (ak (eN (aR 2 jF) (ak (aj 6) (ak (aj 4) aB))) (ak (aj 5) aB))) (aK 8)) (aC (bB (eN (aR 2 gj) (ak (eN (aR 2 jF) (ak (aj 6) (ak (aj 3) aB))) (ak (aj 5) aB))) (aK 9)) (aC (cX (jD (bI (eB (aV .Lt) (aj 8) (eC (.int 0)))) (jD (bI (eB (aV .Lt) (aj 9) (eC (.int 0)))) (bI (eB (aV .Gt) (aj 9) (aj 7))))) (aC (bM (eC .non)) aQ) aQ) (aC (bM (eN (aR 1 t6) (ak (eN bL (ak (aj 8) (ak (aj 7) aB))) aB))) aQ))))))))))
noncomputable def Nx:GN:=fnOf 10 vO
noncomputable def Wv:SF:=bB (eC .non) (aK 2)
noncomputable def MT:SF:=bB (eN (aR 3 Nx) (ak (aj 0) (ak (aj 3) (ak (aj 4) aB)))) (aK 5)
noncomputable def rF:SF:=cX (tR (bI (eB (aV .IsNot) (aj 5) (eC .non))) (jD (bI (eB (aV .Is) (aj 2) (eC .non))) (kj (eN (aR 2 tY) (ak (aj 5) (ak (aj 2) aB)))))) (aC (bB (aj 5) (aK 2)) aQ) aQ
noncomputable def Ng:SF:=aC MT (aC rF aQ)
noncomputable def Nu:SF:=oA (d9 (eN (aR 1 vL) (ak (aj 1) aB))) (jy 2 (dY (aK 3) (dY (aK 4) jO))) Ng
noncomputable def Ww:SF:=bM (aj 2)
noncomputable def Wo:SF:=aC Wv (aC Nu (aC Ww aQ))
noncomputable def yK:GN:=fnOf 6 Wo
noncomputable def Lz:SF:=aC (bB (dD (d9 (aj 2)) (aK 0) cZ (eN (aR 2 fD) (ak (aj 1) (ak (aj 0) aB))) [none,some 0]) (aK 3)) (aC (bB (dD (d9 (eN (aR 1 vL) (ak (aj 3) aB))) (jy 2 (dY (aK 0) (dY (aK 1) jO))) cZ (eN (aR 2 gj) (ak (aj 2) (ak (eN (aR 2 jF) (ak (aj 0) (ak (aj 1) aB))) aB))) [none,none,some 1]) (aK 4)) (aC (bM (yW (eB (aV .GtE) (eN qN (ak (aj 4) aB)) (eC (.int 0))) (eB (aV .LtE) (eN lY (ak (aj 4) aB)) (eC (.int 0))))) aQ))
noncomputable def qt:GN:=fnOf 5 Lz
noncomputable def M5:SF:=aC (cX (kj (eN (aR 3 qt) (ak (eB aH (aj 0) (eC (.int 0))) (ak (aj 2) (ak (aj 1) aB))))) (aC (bM (eN bL (ak (eC (.int 0)) (ak (eC (.int 1)) aB)))) aQ) aQ) (aC (bM (eN (aR 2 yK) (ak (aj 0) (ak (aj 1) aB)))) aQ)
noncomputable def yQ:GN:=fnOf 3 M5
noncomputable def qi:SF:=aC (bB (eN (aR 2 jF) (ak (eN (aR 2 fD) (ak (eB aH (aj 1) (eC (.int 0))) (ak (eB aH (aj 1) (eC (.int 1))) aB))) (ak (eN (aR 2 fD) (ak (eB aH (aj 1) (eC (.int 0))) (ak (eB aH (aj 1) (eC (.int 2))) aB))) aB))) (aK 2)) (aC (cX (bI (eB (aV .Eq) (aj 2) (eN bL (ak (eC (.int 0)) (ak (eC (.int 0)) (ak (eC (.int 0)) aB)))))) (aC (bM (eN (aR 2 yK) (ak (aj 0) (ak (aj 1) aB)))) aQ) aQ) (aC (bB (eN (aR 2 gj) (ak (eN (aR 2 fD) (ak (eB aH (aj 0) (eC (.int 0))) (ak (eB aH (aj 1) (eC (.int 0))) aB))) (ak (aj 2) aB))) (aK 3)) (aC (bB (eN (aR 2 gj) (ak (eB aH (aj 0) (eC (.int 1))) (ak (aj 2) aB))) (aK 4)) (aC (cX (bI (eB (aV .Eq) (aj 4) (eC (.int 0)))) (aC (bM (uF (bI (eB (aV .Eq) (aj 3) (eC (.int 0)))) (eN (aR 3 yQ) (ak (aj 0) (ak (aj 1) (ak (aj 2) aB)))) (eC .non))) aQ) aQ) (aC (cX (bI (eB (aV .Lt) (aj 4) (eC (.int 0)))) (aC (bB (eU uV (aj 3)) (aK 3)) (aC (bB (eU uV (aj 4)) (aK 4)) aQ)) aQ) (aC (cX (jD (bI (eB (aV .Lt) (aj 3) (eC (.int 0)))) (vh (kj (eN (aR 3 qt) (ak (eB aH (aj 0) (eC (.int 0))) (ak (eB aH (aj 0) (eC (.int 1))) (ak (aj 1) aB))))))) (aC (bM (eC .non)) aQ) aQ) (aC (bM (eN (aR 1 t6) (ak (eN bL (ak (aj 3) (ak (aj 4) aB))) aB))) aQ)))))))
noncomputable def nR:GN:=fnOf 5 qi
noncomputable def Wu:SF:=aC (cX (bI (eB (aV .Eq) (eB aH (aj 0) (eC (.int 1))) (eN bL (ak (eC (.int 0)) (ak (eC (.int 0)) (ak (eC (.int 0)) aB)))))) (aC DG aQ) aQ) aQ
noncomputable def MN:GN:=fnOf 1 Wu
noncomputable def Kh:SF:=aC (cX (bI (eB (aV .Eq) (eB aH (aj 1) (eC (.int 0))) (eC (.str "box")))) (aC (bM (eN (aR 2 K9) (ak (aj 0) (ak (jR (aj 1) (jP (eC (.int 1))) kY) aB)))) aQ) aQ) (aC (bM (eN (aR 2 nR) (ak (aj 0) (ak (jR (aj 1) (jP (eC (.int 1))) kY) aB)))) aQ)
noncomputable def Ag:GN:=fnOf 2 Kh
noncomputable def Le:SF:=aC (bB (eN pM (ak (aj 0) aB)) (aK 2)) (aC (bB (eN pM (ak (aj 1) aB)) (aK 3)) (aC (jX (bI (eB (aV .NotEq) (aj 3) (eC (.int 0)))) (aC (bB (eB (aN .Sub) (aj 2) (eB (aN .Mult) (eB (aN .FloorDiv) (aj 2) (aj 3)) (aj 3))) (aK 4)) (aC (bB (aj 3) (aK 2)) (aC (bB (aj 4) (aK 3)) aQ)))) (aC (cX (bI (eB (aV .Lt) (aj 1) (eC (.int 0)))) (aC (bB (eB (aN .Sub) (eC (.int 0)) (aj 2)) (aK 2)) aQ) aQ) (aC (bM (eN bL (ak (eB (aN .FloorDiv) (aj 0) (aj 2)) (ak (eB (aN .FloorDiv) (aj 1) (aj 2)) aB)))) aQ))))
noncomputable def Gv:GN:=fnOf 5 Le
noncomputable def VR:SF:=aC (bM (eN bL (ak (eB (aN .Sub) (eB (aN .Mod) (aj 0) (eC (.int 9))) (eC (.int 4))) (ak (eB (aN .Sub) (eB (aN .Mod) (eB (aN .FloorDiv) (aj 0) (eC (.int 9))) (eC (.int 9))) (eC (.int 4))) (ak (eB (aN .Sub) (eB (aN .Mod) (eB (aN .FloorDiv) (aj 0) (eC (.int 81))) (eC (.int 9))) (eC (.int 4))) aB))))) aQ
noncomputable def t7:GN:=fnOf 1 VR
noncomputable def Mv:SF:=aC (cX (bI (eB (aV .Eq) (eB (aN .Mod) (aj 1) (eC (.int 3))) (eC (.int 0)))) (aC (bM (aj 0)) aQ) aQ) (aC (bB (eB (aN .Add) (eC (.int 1)) (eB (aN .Mod) (aj 1) (eB (aN .LShift) (eC (.int 1)) (eC (.int 50))))) (aK 2)) (aC (bM (eN bL (ak (eB (aN .Add) (eB (aN .Mult) (eB aH (aj 0) (eC (.int 0))) (aj 2)) (eB (aN .Mod) (aj 1) (eC (.int 1000003)))) (ak (eB (aN .Sub) (eB (aN .Mult) (eB aH (aj 0) (eC (.int 1))) (aj 2)) (eB (aN .Mod) (aj 1) (eC (.int 997)))) (ak (eB (aN .Add) (eB (aN .Mult) (eB aH (aj 0) (eC (.int 2))) (aj 2)) (eC (.int 5))) aB))))) aQ))
noncomputable def Ai:GN:=fnOf 3 Mv
noncomputable def Nf:SF:=aC (oJ "Tree" "box" (aj 0) (aj 1)) (aC (oJ "Tree" "number" (aj 0) (aj 2)) (aC (oJ "Tree" "halves" (aj 0) (aj 3)) aQ))
noncomputable def yN:GN:=fnOf 4 Nf
noncomputable def Wl:SF:=aC (bB (dD (qI (ak (eB aH (aj 0) (eC (.int 0))) (ak (eB aH (aj 0) (eC (.int 1))) aB))) (jy 2 (dY (aK 0) (dY (aK 1) jO))) cZ (eB (aN .Sub) (aj 1) (aj 0)) [none,none]) (aK 1)) (aC (bM (eM xY (aj 1) (ak (eN lY (ak (aj 1) aB)) aB))) aQ)
noncomputable def Mi:GN:=fnOf 2 Wl
noncomputable def nU(φ:GN):SF:=aC (cX (bI (eB (aV .Eq) (eN jo (ak (aj 0) aB)) (eC (.int 1)))) (aC (bM (eB aH (aj 0) (eC (.int 0)))) aQ) aQ) (aC (bB (eN (aR 1 yJ) (ak (eB (aN .Add) (dD (d9 (aj 0)) (aK 0) cZ (eB aH (ig "Tree" "box" (aj 0)) (eC (.int 0))) [none]) (dD (d9 (aj 0)) (aK 0) cZ (eB aH (ig "Tree" "box" (aj 0)) (eC (.int 1))) [none])) aB)) (aK 1)) (aC (bB (eN (aR 1 Mi) (ak (aj 1) aB)) (aK 4)) (aC (bB (wV (aj 0) [4] (eB (aN .Add) (eB aH (eB aH (ig "Tree" "box" (aj 0)) (eC (.int 0))) (aj 1)) (eB aH (eB aH (ig "Tree" "box" (aj 0)) (eC (.int 1))) (aj 1)))) (aK 2)) (aC (bB (eB (aN .FloorDiv) (eN jo (ak (aj 2) aB)) (eC (.int 2))) (aK 3)) (aC (bM (nZ "Tree" 4 yN (ak (aj 1) (ak (eC .non) (ak (eN bL (ak (eN (aR 1 φ) (ak (jR (aj 2) kY (jP (aj 3))) aB)) (ak (eN (aR 1 φ) (ak (jR (aj 2) (jP (aj 3)) kY) aB)) aB))) aB))))) aQ)))))
noncomputable def jE:Nat->GN
 |0=>λ_ _=>none
 |k+1=>oG "tree_over" 5 (nU (jE k))
noncomputable def zhZ:GN:=jE 6
noncomputable def Mg:SF:=bB (dD (o7 (aj 0)) (jy 2 (dY (aK 0) (dY (aK 1) jO))) cZ (nZ "Tree" 4 yN (ak (aj 1) (ak (aj 0) (ak (eN bL aB) aB)))) [none,none]) (aK 1)
noncomputable def Ak:SF:=bM (uF (bI (eB (aV .Eq) (eN jo (ak (aj 1) aB)) (eC (.int 0)))) (eC .non) (eN (aR 1 zhZ) (ak (aj 1) aB)))
noncomputable def MF:SF:=aC Mg (aC Ak aQ)
noncomputable def Gx:GN:=fnOf 2 MF
noncomputable def Nh:SF:=aC (oJ "Scene" "kept" (aj 0) (eN qM (ak (aj 1) aB))) (aC (oJ "Scene" "tree" (aj 0) (eN (aR 1 Gx) (ak (dD (d9 (ig "Scene" "kept" (aj 0))) (aK 0) cZ (eN (aR 1 vG) (ak (aj 0) aB)) [none]) aB))) aQ)
noncomputable def Bc:GN:=fnOf 2 Nh
noncomputable def Ld:SF:=aC (bB (eB (aN .Sub) (aj 1) (eB (aN .Mult) (eB (aN .Mod) (aj 1) (eC (.int 3))) (eB (aN .Mod) (eN (aR 2 qj) (ak (aj 0) (ak (eC (.int 0)) aB))) (eC (.int 2))))) (aK 2)) (aC (bB (eN (aR 2 Av) (ak (eN (aR 2 qj) (ak (aj 0) (ak (eB (aN .Add) (aj 2) (eC (.int 1))) aB))) (ak (aj 2) aB))) (aK 3)) (aC (bB (eN (aR 1 t7) (ak (aj 3) aB)) (aK 4)) (aC (cX (bI (eB (aV .Eq) (eB (aN .Mod) (eB (aN .FloorDiv) (aj 3) (eC (.int 729))) (eC (.int 2))) (eC (.int 0)))) (aC (bB (eN (aR 1 t7) (ak (eB (aN .FloorDiv) (aj 3) (eC (.int 1458))) aB)) (aK 5)) (aC (bM (eN bL (ak (eC (.str "box")) (ak (aj 4) (ak (eN bL (ak (eB (aN .Add) (eB aH (aj 4) (eC (.int 0))) (eN pM (ak (eB aH (aj 5) (eC (.int 0))) aB))) (ak (eB (aN .Add) (eB aH (aj 4) (eC (.int 1))) (eB (aN .FloorDiv) (eN pM (ak (eB aH (aj 5) (eC (.int 1))) aB)) (eC (.int 2)))) (ak (eB (aN .Add) (eB aH (aj 4) (eC (.int 2))) (eB (aN .Mod) (eN pM (ak (eB aH (aj 5) (eC (.int 2))) aB)) (eC (.int 3)))) aB)))) aB))))) aQ)) aQ) (aC (bM (eN bL (ak (eC (.str "triangle")) (ak (aj 4) (ak (eN (aR 1 t7) (ak (eB (aN .FloorDiv) (aj 3) (eC (.int 1458))) aB)) (ak (eN (aR 1 t7) (ak (eB (aN .FloorDiv) (aj 3) (eC (.int 1062882))) aB)) aB)))))) aQ))))
noncomputable def MJ:GN:=fnOf 6 Ld
noncomputable def Wb:SF:=aC (bB (eN (aR 2 MJ) (ak (aj 0) (ak (aj 1) aB))) (aK 2)) (aC (bM (eB (aN .Add) (eN bL (ak (eB aH (aj 2) (eC (.int 0))) aB)) (eN lX (ak (dD (d9 (jR (aj 2) (jP (eC (.int 1))) kY)) (aK 0) cZ (eN (aR 2 Ai) (ak (aj 0) (ak (eN (aR 2 qj) (ak (aj 1) (ak (eC (.int 0)) aB))) aB))) [none,some 0]) aB)))) aQ)
noncomputable def vP:GN:=fnOf 3 Wb
noncomputable def Ms:SF:=bB (eN (aR 2 Av) (ak (eN (aR 2 qj) (ak (aj 0) (ak (aj 1) aB))) (ak (aj 1) aB))) (aK 2)
noncomputable def Mt:SF:=bB (eN (aR 1 t7) (ak (aj 2) aB)) (aK 3)
noncomputable def Np:SF:=bB (eN (aR 1 t7) (ak (eB (aN .FloorDiv) (aj 2) (eC (.int 729))) aB)) (aK 4)
noncomputable def Gz:SF:=cX (jD (bI (eB (aV .Eq) (eB (aN .Mod) (eB (aN .FloorDiv) (aj 2) (eC (.int 531441))) (eC (.int 3))) (eC (.int 0)))) (bI (eB (aV .Eq) (aj 4) (eN bL (ak (eC (.int 0)) (ak (eC (.int 0)) (ak (eC (.int 0)) aB))))))) (aC (bB (eB aH (eN lB (ak (eN bL (ak (eC (.int 1)) (ak (eC (.int 0)) (ak (eC (.int 0)) aB)))) (ak (eN bL (ak (eC (.int 0)) (ak (eB (aN .Sub) (eC (.int 0)) (eC (.int 2))) (ak (eC (.int 0)) aB)))) (ak (eN bL (ak (eC (.int 0)) (ak (eC (.int 0)) (ak (eC (.int 3)) aB)))) (ak (eN bL (ak (eC (.int 1)) (ak (eC (.int 1)) (ak (eC (.int 0)) aB)))) (ak (eN bL (ak (eC (.int 0)) (ak (eC (.int 1)) (ak (eB (aN .Sub) (eC (.int 0)) (eC (.int 1))) aB)))) (ak (eN bL (ak (eB (aN .Sub) (eC (.int 0)) (eC (.int 1))) (ak (eC (.int 0)) (ak (eC (.int 0)) aB)))) aB))))))) (eB (aN .Mod) (eB (aN .FloorDiv) (aj 2) (eC (.int 1594323))) (eC (.int 6)))) (aK 4)) aQ) aQ
noncomputable def Nq:SF:=bB (eB (aN .Mod) (eB (aN .FloorDiv) (aj 2) (eC (.int 9565938))) (eC (.int 4))) (aK 5)
noncomputable def Nr:SF:=bB (eN lX (ak (dD (lR (ak (eC (.int 3)) aB)) (aK 0) cZ (eB (aN .Sub) (eB aH (aj 2) (aj 0)) (eB (aN .Mult) (aj 1) (eB aH (aj 3) (aj 0)))) [none,some 5,some 3,some 4]) aB)) (aK 3)
noncomputable def Nt:SF:=bM (eN bL (ak (eN (aR 2 Ai) (ak (aj 3) (ak (eN (aR 2 qj) (ak (aj 0) (ak (eC (.int 0)) aB))) aB))) (ak (aj 4) aB)))
noncomputable def Wn:SF:=aC Ms (aC Mt (aC Np (aC Gz (aC Nq (aC Nr (aC Nt aQ))))))
noncomputable def Mx:GN:=fnOf 6 Wn
noncomputable def Ni:SF:=bB (eN lB aB) (aK 2)
noncomputable def Nj:SF:=bB (uF (bI (eB (aV .Is) (aj 0) (eC .non))) (eN lB aB) (eN lB (ak (aj 0) aB))) (aK 3)
noncomputable def M6:SF:=bB (Dj nj (aj 3)) (aK 4)
noncomputable def yP:SF:=cX (bI (eB (aV .Is) (eN (aR 2 vN) (ak (aj 1) (ak (ig "Tree" "box" (aj 4)) aB))) (eC .non))) (aC oX aQ) aQ
noncomputable def Ba:SF:=cX (bI (eB (aV .Is) (ig "Tree" "number" (aj 4)) (eC .non))) (aC (pU (eM xX (aj 3) (ak (ig "Tree" "halves" (aj 4)) aB))) aQ) (aC (pU (eM vo (aj 2) (ak (ig "Tree" "number" (aj 4)) aB))) aQ)
noncomputable def tZ:SF:=aC M6 (aC yP (aC Ba aQ))
noncomputable def Ws:SF:=jX (bI (eB (aV .Gt) (eN jo (ak (aj 3) aB)) (eC (.int 0)))) tZ
noncomputable def Nk:SF:=bM (aj 2)
noncomputable def Wx:SF:=aC Ni (aC Nj (aC Ws (aC Nk aQ)))
noncomputable def GC:GN:=fnOf 5 Wx
noncomputable def Ml:SF:=pU (eN (aR 1 MN) (ak (aj 1) aB))
noncomputable def Mp:SF:=bB (eN lB aB) (aK 2)
noncomputable def MP:SF:=bB (eN (aR 2 Ag) (ak (aj 1) (ak (eB aH (ig "Scene" "kept" (aj 0)) (aj 3)) aB))) (aK 4)
noncomputable def Ay:SF:=cX (bI (eB (aV .IsNot) (aj 4) (eC .non))) (aC (pU (eM vo (aj 2) (ak (eN bL (ak (aj 4) (ak (aj 3) aB))) aB))) aQ) aQ
noncomputable def yM:SF:=aC MP (aC Ay aQ)
noncomputable def Mq:SF:=oA (d9 (eN (aR 2 GC) (ak (ig "Scene" "tree" (aj 0)) (ak (aj 1) aB)))) (aK 3) yM
noncomputable def Mr:SF:=bM (aj 2)
noncomputable def Mu:SF:=aC Ml (aC Mp (aC Mq (aC Mr aQ)))
noncomputable def Ah:GN:=fnOf 5 Mu
noncomputable def V0:SF:=aC (cX (kj (eN (aR 2 tY) (ak (eB aH (aj 0) (eC (.int 0))) (ak (eB aH (aj 1) (eC (.int 0))) aB)))) (aC (bM (eC (.bl true))) aQ) aQ) (aC (bM (sZ (eB (aV .Eq) (eB aH (aj 0) (eC (.int 0))) (eB aH (aj 1) (eC (.int 0)))) (eB (aV .Lt) (eB aH (aj 0) (eC (.int 1))) (eB aH (aj 1) (eC (.int 1)))))) aQ)
noncomputable def Gy:GN:=fnOf 2 V0
noncomputable def M8:SF:=bB (eC .non) (aK 2)
noncomputable def M4:SF:=cX (jD (bI (eB (aV .Is) (aj 2) (eC .non))) (kj (eN (aR 2 Gy) (ak (aj 3) (ak (aj 2) aB))))) (aC (bB (aj 3) (aK 2)) aQ) aQ
noncomputable def yO:SF:=aC M4 aQ
noncomputable def M9:SF:=oA (d9 (jV "Scene" "hits" 2 Ah (aj 0) (ak (aj 1) aB))) (aK 3) yO
noncomputable def Nb:SF:=bM (aj 2)
noncomputable def Ly:SF:=aC M8 (aC M9 (aC Nb aQ))
noncomputable def Am:GN:=fnOf 4 Ly
noncomputable def Ge:SF:=aC (bB (uU (dD (d9 (aj 0)) (aK 0) cZ (eB aH (eB aH (aj 0) (eC (.int 0))) (eC (.int 1))) [none]) (eC (.int 1))) (aK 1)) (aC (bB (eB (aN .Mult) (aj 1) (aj 1)) (aK 2)) (aC (bM (wV (aj 0) [2] (eN bL (ak (eB (aN .FloorDiv) (eB (aN .Mult) (eB aH (eB aH (aj 0) (eC (.int 0))) (eC (.int 0))) (aj 1)) (eB aH (eB aH (aj 0) (eC (.int 0))) (eC (.int 1)))) (ak (eB aH (aj 0) (eC (.int 1))) aB))))) aQ))
noncomputable def Gf:GN:=oG "in_order" 3 Ge
noncomputable def GK:SF:=aC (bM (eN (aR 1 Gf) (ak (jV "Scene" "hits" 2 Ah (aj 0) (ak (aj 1) aB)) aB))) aQ
noncomputable def Al:GN:=fnOf 2 GK
noncomputable def yR:SF:=aC (bB (aj 0) (jy 3 (dY (aK 4) (dY (aK 5) (dY (aK 6) jO))))) (aC (cX (bI (eB (aV .Eq) (aj 1) (eC (.int 0)))) (aC (bB (eB (aN .Mult) (aj 3) (eB (aN .Add) (eC (.int 1)) (eB (aN .Mod) (aj 2) (eB (aN .LShift) (eC (.int 1)) (eC (.int 90)))))) (aK 7)) (aC (bM (eN bL (ak (eB (aN .Add) (aj 4) (aj 7)) (ak (eB (aN .Sub) (aj 5) (eB (aN .Mult) (eC (.int 3)) (aj 7))) (ak (eB (aN .Add) (aj 6) (eB (aN .Mult) (aj 3) (eB (aN .Mod) (aj 2) (eC (.int 1009))))) aB))))) aQ)) aQ) (aC (cX (bI (eB (aV .Eq) (aj 1) (eC (.int 1)))) (aC (bB (eB (aN .Add) (eC (.int 1)) (eB (aN .Mod) (aj 2) (eC (.int 1000000007)))) (aK 8)) (aC (bM (eN bL (ak (eB (aN .Mult) (aj 8) (aj 4)) (ak (eB (aN .Mult) (aj 8) (aj 5)) (ak (eB (aN .Mult) (aj 8) (aj 6)) aB))))) aQ)) aQ) (aC (cX (bI (eB (aV .Eq) (aj 1) (eC (.int 2)))) (aC (bM (eN bL (ak (aj 5) (ak (aj 6) (ak (aj 4) aB))))) aQ) aQ) (aC (cX (bI (eB (aV .Eq) (aj 1) (eC (.int 3)))) (aC (bM (eN bL (ak (eB (aN .Sub) (eC (.int 0)) (aj 4)) (ak (aj 5) (ak (aj 6) aB))))) aQ) aQ) (aC (bM (eN bL (ak (aj 4) (ak (aj 5) (ak (aj 6) aB))))) aQ)))))
noncomputable def oR:GN:=fnOf 9 yR
noncomputable def Az:SF:=aC (bB (dD (d9 (jR (aj 0) (jP (eC (.int 1))) kY)) (aK 0) cZ (eN (aR 4 oR) (ak (aj 0) (ak (aj 2) (ak (aj 1) (ak (eC (.int 1)) aB))))) [none,some 2,some 1]) (aK 3)) (aC (cX (tR (bI (eB (aV .Eq) (eB aH (aj 0) (eC (.int 0))) (eC (.str "box")))) (bI (eB (aV .Eq) (aj 1) (eC (.int 3))))) (aC (bB (eN lB (ak (eN bL (ak (eB aH (eB aH (aj 3) (eC (.int 1))) (eC (.int 0))) (ak (eB aH (eB aH (aj 3) (eC (.int 0))) (eC (.int 1))) (ak (eB aH (eB aH (aj 3) (eC (.int 0))) (eC (.int 2))) aB)))) (ak (eN bL (ak (eB aH (eB aH (aj 3) (eC (.int 0))) (eC (.int 0))) (ak (eB aH (eB aH (aj 3) (eC (.int 1))) (eC (.int 1))) (ak (eB aH (eB aH (aj 3) (eC (.int 1))) (eC (.int 2))) aB)))) aB))) (aK 3)) aQ) aQ) (aC (cX (tR (bI (eB (aV .Eq) (eB aH (aj 0) (eC (.int 0))) (eC (.str "triangle")))) (bI (eB (aV .Eq) (aj 1) (eC (.int 4))))) (aC (bB (eN lB (ak (eB aH (aj 3) (eC (.int 2))) (ak (eB aH (aj 3) (eC (.int 1))) (ak (eB aH (aj 3) (eC (.int 0))) aB)))) (aK 3)) aQ) aQ) (aC (bM (eB (aN .Add) (eN bL (ak (eB aH (aj 0) (eC (.int 0))) aB)) (eN lX (ak (aj 3) aB)))) aQ)))
noncomputable def GQ:GN:=fnOf 4 Az
noncomputable def Li:SF:=bB (eN (aR 2 Av) (ak (eN (aR 2 qj) (ak (aj 0) (ak (eC (.int 1)) aB))) (ak (eC (.int 61)) aB))) (aK 1)
noncomputable def Lj:SF:=bB (dD (lR (ak (eB (aN .Mod) (aj 1) (eC (.int 9))) aB)) (aK 0) cZ (eN (aR 2 vP) (ak (aj 1) (ak (aj 0) aB))) [none,some 0]) (aK 2)
noncomputable def Lk:SF:=bB (eN (aR 2 Mx) (ak (aj 0) (ak (eC (.int 40)) aB))) (jy 2 (dY (aK 3) (dY (aK 4) jO)))
noncomputable def zib:SF:=bB (nZ "Scene" 2 Bc (ak (aj 2) aB)) (aK 5)
noncomputable def Ln:SF:=bB (jV "Scene" "first" 2 Am (aj 5) (ak (eN bL (ak (aj 3) (ak (aj 4) aB))) aB)) (aK 6)
noncomputable def Lp:SF:=bB (jV "Scene" "every" 2 Al (aj 5) (ak (eN bL (ak (aj 3) (ak (aj 4) aB))) aB)) (aK 7)
noncomputable def Lq:SF:=bB (eN (aR 2 qj) (ak (aj 0) (ak (eC (.int 2)) aB))) (aK 8)
noncomputable def LC:SF:=bB (nZ "Scene" 2 Bc (ak (dD (d9 (aj 2)) (aK 0) cZ (eN (aR 3 GQ) (ak (aj 0) (ak (aj 2) (ak (aj 1) aB)))) [none,some 8,some 9]) aB)) (aK 10)
noncomputable def LK:SF:=bB (eN bL (ak (eN (aR 4 oR) (ak (aj 3) (ak (aj 9) (ak (aj 8) (ak (eC (.int 1)) aB))))) (ak (eN (aR 4 oR) (ak (aj 4) (ak (aj 9) (ak (aj 8) (ak (eC (.int 0)) aB))))) aB))) (aK 11)
noncomputable def LQ:SF:=cX (jD (bI (eB (aV .NotEq) (jV "Scene" "first" 2 Am (aj 10) (ak (aj 11) aB)) (aj 6))) (bI (eB (aV .NotEq) (jV "Scene" "every" 2 Al (aj 10) (ak (aj 11) aB)) (aj 7)))) (aC (bM (eC (.bl false))) aQ) aQ
noncomputable def Gu:SF:=aC LC (aC LK (aC LQ aQ))
noncomputable def Lr:SF:=oA (lR (ak (eC (.int 5)) aB)) (aK 9) Gu
noncomputable def Ls:SF:=bB (eB (aN .Add) (eC (.int 1)) (eB (aN .Mod) (eB (aN .FloorDiv) (aj 1) (eC (.int 9))) (eC (.int 1000)))) (aK 12)
noncomputable def Gq:SF:=bB (eN bL (ak (aj 3) (ak (eN lX (ak (dD (d9 (aj 4)) (aK 0) cZ (eB (aN .Mult) (aj 1) (aj 0)) [none,some 12]) aB)) aB))) (aK 11)
noncomputable def Gs:SF:=cX (bI (eB (aV .NotEq) (jV "Scene" "every" 2 Al (aj 5) (ak (aj 11) aB)) (dD (d9 (aj 7)) (jy 2 (dY (aK 0) (dY (aK 1) jO))) cZ (eN bL (ak (eN (aR 2 Gv) (ak (eB aH (aj 0) (eC (.int 0))) (ak (eB (aN .Mult) (eB aH (aj 0) (eC (.int 1))) (aj 2)) aB))) (ak (aj 1) aB))) [none,none,some 12]))) (aC (bM (eC (.bl false))) aQ) aQ
noncomputable def V4:SF:=cX (jD (bI (eB (aV .Is) (aj 6) (eC .non))) (bI (eB (aV .Lt) (eB aH (eB aH (aj 6) (eC (.int 0))) (eC (.int 0))) (eB aH (eB aH (aj 6) (eC (.int 0))) (eC (.int 1)))))) (aC (bM (eC (.bl true))) aQ) aQ
noncomputable def Aq:SF:=bB (eN bL (ak (eN lX (ak (dD (lR (ak (eC (.int 3)) aB)) (aK 0) cZ (eB (aN .Add) (eB aH (aj 1) (aj 0)) (eB aH (aj 2) (aj 0))) [none,some 3,some 4]) aB)) (ak (aj 4) aB))) (aK 11)
noncomputable def Lg:SF:=bM (eB (aV .Eq) (jV "Scene" "first" 2 Am (aj 5) (ak (aj 11) aB)) (eN bL (ak (eN bL (ak (eB (aN .Sub) (eB aH (eB aH (aj 6) (eC (.int 0))) (eC (.int 0))) (eB aH (eB aH (aj 6) (eC (.int 0))) (eC (.int 1)))) (ak (eB aH (eB aH (aj 6) (eC (.int 0))) (eC (.int 1))) aB))) (ak (eB aH (aj 6) (eC (.int 1))) aB))))
noncomputable def Kg:SF:=aC Li (aC Lj (aC Lk (aC zib (aC Ln (aC Lp (aC Lq (aC Lr (aC Ls (aC Gq (aC Gs (aC V4 (aC Aq (aC Lg aQ)))))))))))))
end MX.P
end
section
namespace MX
open PySem L2
def mj{p:Prop}{i:Decidable p}(h:p):@decide p i=true:=decide_eq_true h
def lZ{p:Prop}{i:Decidable p}(h:¬p):@decide p i=false:=decide_eq_false h
section
variable {σ σ1:Sg}{S S1 S2:So}{x y z d:D}{xs ds:List D}{fa fb fe fo:EF}{aa:AF}
theorem aW{g:G2}{r:Option (D×So)}(h1:fa σ S=some (x,S1))(h2:fb σ S1=some (y,S2))(h3:g x y S2=r):eB g fa fb σ S=r:=by unfold eB;rw[h1];simp only[b8];rw[h2];simp only[b8];exact h3
def Yd{g:D->So->Option (D×So)}{r:Option (D×So)}(h1:fa σ S=some (x,S1))(h3:g x S1=r):eU g fa σ S=r:=by unfold eU;rw[h1];simp only[b8];exact h3
def bG{g:GN}{r:Option (D×So)}(h1:aa σ S=some (ds,S1))(h2:g ds S1=r):eN g aa σ S=r:=by unfold eN;rw[h1];simp only[b8];exact h2
def aO{fr:AF}(h1:fa σ S=some (x,S1))(h2:fr σ S1=some (xs,S2)):ak fa fr σ S=some (x::xs,S2):=by unfold ak;rw[h1];simp only[b8];rw[h2];rfl
def bD:aB σ S=some ([],S):=rfl
def bA:eC d σ S=some (d,S):=rfl
def aJ{i:Nat}(h:σ[i]?=some (some d)):aj i σ S=some (d,S):=by unfold aj;rw[h]
def eE{n:Nat}{φ:GN}{r:Option (D×So)}(h1:ds.length=n)(h2:φ ds S=r):aR n φ ds S=r:=by unfold aR;rw[if_pos h1];exact h2
noncomputable def pO{α:Type}(b:Bool)(x y:α):α:=if b=true then x else y
def gG{α:Type}{b:Bool}{x y r:α}(h:b=true)(hx:x=r):pO b x y=r:=by unfold pO;rw[if_pos h];exact hx
def fG{α:Type}{b:Bool}{x y r:α}(h:b=false)(hx:y=r):pO b x y=r:=by unfold pO;rw[if_neg (by rw[h];exact gM)];exact hx
theorem zM{t:TF}{b:Bool}{r:Option (D×So)}(h1:t σ S=some (b,S1))(h2:pO b (fa σ S1) (fb σ S1)=r):uF t fa fb σ S=r:=by unfold uF;rw[h1];simp only[b8];exact h2
theorem Sw{b:Bool}{r:Option (D×So)}(h1:fa σ S=some (.bl b,S1))(h2:pO b (fb σ S1) (some (.bl false,S1))=r):sZ fa fb σ S=r:=by unfold sZ;rw[h1];simp only[b8];cases b<;>exact h2
theorem Jb{b:Bool}{r:Option (D×So)}(h1:fa σ S=some (.bl b,S1))(h2:pO b (some (.bl true,S1)) (fb σ S1)=r):yW fa fb σ S=r:=by unfold yW;rw[h1];simp only[b8];cases b<;>exact h2
def fP{b:Bool}(h1:fa σ S=some (.bl b,S1)):bI fa σ S=some (b,S1):=by unfold bI;rw[h1];rfl
def JL{b:Bool}(h1:fa σ S=some (x,S1))(h2:rJ x S1=some b):kj fa σ S=some (b,S1):=by unfold kj;rw[h1];simp only[b8];rw[h2];rfl
def zo5{t:TF}{b:Bool}(h1:t σ S=some (b,S1)):vh t σ S=some (!b,S1):=by unfold vh;rw[h1];rfl
theorem rA{t u:TF}{b:Bool}{r:Option (Bool×So)}(h1:t σ S=some (b,S1))(h2:pO b (u σ S1) (some (false,S1))=r):tR t u σ S=r:=by unfold tR;rw[h1];simp only[b8];exact h2
theorem q8{t u:TF}{b:Bool}{r:Option (Bool×So)}(h1:t σ S=some (b,S1))(h2:pO b (some (true,S1)) (u σ S1)=r):jD t u σ S=r:=by unfold jD;rw[h1];simp only[b8];exact h2
def vB:cZ σ S=some (true,S):=rfl
noncomputable abbrev SR:=Option (Fl×Sg×So)
noncomputable def rN(fl:Fl)(g:SF)(σ:Sg)(S:So):SR:=match fl with
 |.nx=>g σ S
 |fl=>some (fl,σ,S)
def aU{g:SF}{r:SR}(h:g σ S=r):rN .nx g σ S=r:=h
def dW{g:SF}:rN (.rt z) g σ S=some (.rt z,σ,S):=rfl
def Jy{g:SF}:rN .ct g σ S=some (.ct,σ,S):=rfl
def aM{f g:SF}{fl:Fl}{r:SR}(h1:f σ S=some (fl,σ1,S1))(h2:rN fl g σ1 S1=r):aC f g σ S=r:=by unfold aC;rw[h1];simp only[b8];cases fl<;>exact h2
def eX:aQ σ S=some (.nx,σ,S):=rfl
def Sy:oX σ S=some (.ct,σ,S):=rfl
def fX(h:fe σ S=some (x,S1)):bM fe σ S=some (.rt x,σ,S1):=by unfold bM;rw[h];rfl
def yC(h:fe σ S=some (x,S1)):pU fe σ S=some (.nx,σ,S1):=by unfold pU;rw[h];rfl
def c7{g:GF}(h1:fe σ S=some (x,S1))(h2:g x σ S1=some (σ1,S2)):bB fe g σ S=some (.nx,σ1,S2):=by unfold bB;rw[h1];simp only[b8];rw[h2];rfl
def eZ{t:TF}{f g:SF}{b:Bool}{r:SR}(h1:t σ S=some (b,S1))(h2:pO b (f σ S1) (g σ S1)=r):cX t f g σ S=r:=by unfold cX;rw[h1];simp only[b8];exact h2
def cO{i:Nat}(h:σ.set i (some d)=σ1):aK i d σ S=some (σ1,S):=by unfold aK;rw[h]
def Eu{n:Nat}{fr:n6}{r:Option (Sg×So)}(h1:ds.length=n)(h2:fr ds σ S=r):jy n fr (.tup ds) σ S=r:=by unfold jy;simp only;rw[if_pos h1];exact h2
def FJ:jO [] σ S=some (σ,S):=rfl
def vM{f:GF}{fr:n6}{r:Option (Sg×So)}(h1:f d σ S=some (σ1,S1))(h2:fr ds σ1 S1=r):dY f fr (d::ds) σ S=r:=by unfold dY;simp only;rw[h1];exact h2
def zL{i j:Int}:aN .Add (.int i) (.int j) S=some (.int (i+j),S):=rfl
theorem zpb{n m:Nat}{xs ys:List D}(h1:S[n]?=some (.lst xs))(h2:S[m]?=some (.lst ys))(h:xs.length+ys.length<=sizeLine):aN .Add (.ref n) (.ref m) S=some (.ref S.length,S++[.lst (xs++ys)]):=by unfold aN pB;simp only;rw[h1,h2];simp only;rw[if_pos h]
theorem JD{xs ys:List D}(h0:xs≠[])(h:xs.length+ys.length<=sizeLine):aN .Add (.tup xs) (.tup ys) S=some (.tup (xs++ys),S):=by unfold aN pB;simp only;rw[if_pos ⟨h0,h⟩]
def Q5{i j:Int}:aN .Sub (.int i) (.int j) S=some (.int (i - j),S):=rfl
def yc{i j:Int}(h:cQ i j=true):aN .Mult (.int i) (.int j) S=some (.int (i*j),S):=by unfold aN sE;simp only;rw[if_pos h]
def p7{i j:Int}(h:dF j=true):aN .FloorDiv (.int i) (.int j) S=some (.int (i.fdiv j),S):=by unfold aN sI;simp only;rw[if_pos h]
def yh{i j:Int}(h:j≠0):aN .Mod (.int i) (.int j) S=some (.int (i.fmod j),S):=by unfold aN sG;simp only;rw[if_pos h]
def Im{i j:Int}:aV .Lt (.int i) (.int j) S=some (.bl (decide (i<j)),S):=rfl
def Yg{i j:Int}:aV .LtE (.int i) (.int j) S=some (.bl (decide (i<=j)),S):=rfl
def QD{i j:Int}:aV .Gt (.int i) (.int j) S=some (.bl (decide (j<i)),S):=rfl
def Ye{i j:Int}:aV .GtE (.int i) (.int j) S=some (.bl (decide (j<=i)),S):=rfl
def zJ{i j:Int}:aV .Eq (.int i) (.int j) S=some (.bl (decide (i=j)),S):=rfl
def Yh{i j:Int}:aV .NotEq (.int i) (.int j) S=some (.bl (!decide (i=j)),S):=rfl
def p6:aV .Is x .non S=some (.bl (oH x),S):=by cases x<;>rfl
def Ka:aV .IsNot x .non S=some (.bl (!oH x),S):=by cases x<;>rfl
def ZK{i:Int}:uV (.int i) S=some (.int (-i),S):=rfl
def dX{i:Int}(h:gJ xs i=some z):aH (.tup xs) (.int i) S=some (z,S):=by unfold aH;simp only;rw[h];rfl
def qZ{n:Nat}{i:Int}(h1:S[n]?=some (.lst xs))(h:gJ xs i=some z):aH (.ref n) (.int i) S=some (z,S):=by unfold aH;simp only;rw[h1];simp only;rw[h];rfl
def QZ{n:Nat}{i:Int}(h1:S[n]?=some (.frz xs))(h:gJ xs i=some z):aH (.ref n) (.int i) S=some (z,S):=by unfold aH;simp only;rw[h1];simp only;rw[h];rfl
def jb(h:ds.length<=sizeLine):bL ds S=some (.tup ds,S):=by unfold bL;rw[if_pos h]
def vy(h:ds.length<=sizeLine):lB ds S=some (.ref S.length,S++[.lst ds]):=by unfold lB;rw[if_pos h]
def zo8:jo [.tup xs] S=some (.int xs.length,S):=rfl
def rz{n:Nat}(h1:S[n]?=some (.lst xs)):jo [.ref n] S=some (.int xs.length,S):=by unfold jo;simp only;rw[h1]
def JH{n:Nat}(h1:S[n]?=some (.frz xs)):jo [.ref n] S=some (.int xs.length,S):=by unfold jo;simp only;rw[h1]
def yF{n:Nat}(h1:S[n]?=some (.lst xs)):lX [.ref n] S=some (.tup xs,S):=by unfold lX;simp only;rw[h1]
def Ue{n:Nat}(h1:S[n]?=some (.lst xs)):qM [.ref n] S=some (.ref S.length,S++[.lst xs]):=by unfold qM;simp only;rw[h1]
def Ug:qM [.tup xs] S=some (.ref S.length,S++[.lst xs]):=rfl
def zo6{i j:Int}:lY [.int i,.int j] S=some (.int (if j>i then j else i),S):=rfl
def QW{i:Int}:pM [.int i] S=some (.int (if i<0 then -i else i),S):=rfl
theorem JK{n:Nat}{ns:List Int}{m:Int}(h1:S[n]?=some (.lst (ns.map .int)))(h:jB ns=some m):qN [.ref n] S=some (.int m,S):=by unfold qN sH;simp only;rw[h1];simp only;rw[Kr];simp only[b8];rw[h];rfl
theorem Sx{n:Nat}{ns:List Int}{m:Int}(h1:S[n]?=some (.lst (ns.map .int)))(h:iM ns=some m):lY [.ref n] S=some (.int m,S):=by unfold lY pA;simp only;rw[h1];simp only;rw[Kr];simp only[b8];rw[h];rfl
theorem zpa{n:Nat}{bs:List Bool}(h1:S[n]?=some (.lst xs))(h2:zA xs=some bs):nq [.ref n] S=some (.bl (bs.all id),S):=by unfold nq;simp only;rw[h1];simp only;rw[h2];rfl
theorem Uh{n:Nat}{ns:List Int}{m:Int}(h1:S[n]?=some (.lst xs))(h2:mW xs=some ns)(h:iM ns=some m):lY [.ref n] S=some (.int m,S):=by unfold lY pA;simp only;rw[h1];simp only;rw[h2];simp only[b8];rw[h];rfl
def zmF{i j:Int}:qN [.tup [.int i,.int j]] S=some (.int (if j<i then j else i),S):=rfl
def zmG{i j:Int}:lY [.tup [.int i,.int j]] S=some (.int (if j>i then j else i),S):=rfl
theorem Ux{n:Nat}(h1:S[n]?=some (.lst xs))(h:xs.length<sizeLine){S3:So}(h3:S.set n (.lst (xs++[d]))=S3):vo (.ref n) [d] S=some (.non,S3):=by unfold vo;simp only;rw[h1];simp only;rw[if_pos h,h3]
theorem El{g:GM}{n:Nat}{r:Option (D×So)}(h1:fo σ S=some (.ref n,S1))(h2:S1[n]?=some (.lst xs))(h3:aa σ S1=some (ds,S2))(h4:g (.ref n) ds S2=r):eM g fo aa σ S=r:=by unfold eM;rw[h1];simp only[b8];rw[h2];simp only;rw[h3];exact h4
theorem yg{fl fh:PF}{l h:Option Int}{S3:So}{r:Option (D×So)}(h1:fe σ S=some (x,S1))(h2:fl σ S1=some (l,S2))(h3:fh σ S2=some (h,S3))(h4:uz x l h S3=r):jR fe fl fh σ S=r:=by unfold jR;rw[h1];simp only[b8];rw[h2];simp only[b8];rw[h3];exact h4
def zZ:kY σ S=some (none,S):=rfl
def z7{i:Int}(h:fe σ S=some (.int i,S1)):jP fe σ S=some (some i,S1):=by unfold jP;rw[h];rfl
theorem Ew{l h:Option Int}{ys:List D}(hc:¬(HT.sIx xs.length 0 l=0/\HT.sIx xs.length xs.length h=xs.length))(e:jU xs l h=ys):uz (.tup xs) l h S=some (.tup ys,S):=by unfold uz;simp only;rw[if_pos hc,e]
theorem Jc{n:Nat}{l h:Option Int}{ys:List D}(h1:S[n]?=some (.lst xs))(e:jU xs l h=ys):uz (.ref n) l h S=some (.ref S.length,S++[.lst ys]):=by unfold uz;simp only;rw[h1];simp only;rw[e]
theorem Aa:jU (x::xs) (some 1) none=xs:=by
 unfold jU;have h1:HT.sIx (x::xs).length 0 (some 1)=1:=by
  unfold HT.sIx;simp
  try omega
 have h2:HT.sIx (x::xs).length (x::xs).length none=(x::xs).length:=rfl;rw[h1,h2];simp
theorem Uc:jU (x::xs) none (some 1)=[x]:=by
 unfold jU;have h1:HT.sIx (x::xs).length (x::xs).length (some 1)=1:=by
  unfold HT.sIx;simp
  try omega
 have h2:HT.sIx (x::xs).length 0 none=0:=rfl;rw[h1,h2];simp
theorem Fj{j:Int}(h1:aa σ S=some ([.int j],S1))(hb : -(2 ^ 62)<=j/\j<2 ^ 62):lR aa σ S=some (.fix (jt 0 j.toNat),S1):=by unfold lR;rw[h1];simp only[b8];rw[if_pos hb]
def FN(h1:fe σ S=some (.tup xs,S1)):d9 fe σ S=some (.fix xs,S1):=by unfold d9;rw[h1];rfl
def oN{n:Nat}(h1:fe σ S=some (.ref n,S1))(h2:S1[n]?=some (.lst xs)):d9 fe σ S=some (.lst n,S1):=by unfold d9;rw[h1];simp only[b8];rw[h2]
theorem zo9{xss:List (List D)}(h1:aa σ S=some (ds,S1))(h2:2<=ds.length/\ds.length<=4)(h3:pW S1 ds=some xss):qI aa σ S=some (.zip ds,S1):=by unfold qI;rw[h1];simp only[b8];rw[if_pos h2,h3];rfl
theorem qX{fi:IF}{g:GF}{t:TF}{src:List (Option Nat)}{j:zb}{n:Nat}{ys:List D}(h1:fi σ S=some (j,S1))(h2:uT j S1=some n)(hn:n<=sizeLine)(hτ:nH src σ=σ1)(h3:jx (dG j) g t fe n 0 σ1 S1 []=some (ys,S2)):dD fi g t fe src σ S=some (.ref S2.length,S2++[.lst ys]):=by subst hτ;unfold dD G8;rw[h1];simp only[b8];rw[h2];simp only[b8];rw[if_pos hn,h3];rfl
def zN{nx:Nat->So->Option (Option D)}{g:GF}{t:TF}{i:Nat}{acc:List D}(h:nx i S=some none):jx nx g t fe 0 i σ S acc=some (acc,S):=by unfold jx;rw[h]
theorem vq{nx:Nat->So->Option (Option D)}{g:GF}{t:TF}{k i:Nat}{acc acc':List D}{r:Option (List D×So)}{S3:So}(h:nx i S=some (some d))(h1:g d σ S=some (σ1,S1))(h2:t σ1 S1=some (true,S2))(h3:fe σ1 S2=some (x,S3))(ha:acc++[x]=acc')(h4:jx nx g t fe k (i+1) σ1 S3 acc'=r):jx nx g t fe (k+1) i σ S acc=r:=by unfold jx;rw[h];simp only;rw[h1];simp only[b8];rw[h2];simp only[b8,if_true];rw[h3];rw[<-ha] at h4;exact h4
theorem qY{fi:IF}{g:GF}{f:SF}{j:zb}{n:Nat}{r:SR}(h1:fi σ S=some (j,S1))(h2:uT j S1=some n)(h3:jN (dG j) g f n 0 σ S1=r):oA fi g f σ S=r:=by unfold oA;rw[h1];simp only[b8];rw[h2];exact h3
def JG{nx:Nat->So->Option (Option D)}{g:GF}{f:SF}{i:Nat}(h:nx i S=some none):jN nx g f 0 i σ S=some (.nx,σ,S):=by unfold jN;rw[h]
noncomputable def wQ(fl:Fl)(nx:Nat->So->Option (Option D))(g:GF)(f:SF)(k i:Nat)(σ:Sg)(S:So):SR:=match fl with
 |.nx=>jN nx g f k i σ S
 |.ct=>jN nx g f k i σ S
 |.bk=>some (.nx,σ,S)
 |.rt d=>some (.rt d,σ,S)
theorem mY{nx:Nat->So->Option (Option D)}{g:GF}{f:SF}{k i:Nat}{fl:Fl}{σ2:Sg}{r:SR}(h:nx i S=some (some d))(h1:g d σ S=some (σ1,S1))(h2:f σ1 S1=some (fl,σ2,S2))(h3:wQ fl nx g f k (i+1) σ2 S2=r):jN nx g f (k+1) i σ S=r:=by unfold jN;rw[h];simp only;rw[h1];simp only[b8];rw[h2];simp only[b8];cases fl<;>exact h3
def Fo{nx:Nat->So->Option (Option D)}{g:GF}{f:SF}{k i:Nat}{r:SR}(h:jN nx g f k i σ S=r):wQ .nx nx g f k i σ S=r:=h
def Fp{nx:Nat->So->Option (Option D)}{g:GF}{f:SF}{k i:Nat}:wQ (.rt z) nx g f k i σ S=some (.rt z,σ,S):=rfl
def Zk{i:Nat}(h:xs[i]?=some d):dG (.fix xs) i S=some (some d):=by show some xs[i]?=_;rw[h]
def vA{n i:Nat}(h1:S[n]?=some (.lst xs))(h:xs[i]?=some d):dG (.lst n) i S=some (some d):=by unfold dG;simp only;rw[h1];simp only;rw[h]
def Yk{n i:Nat}{lo:Int}{z:Int}(h:i<n)(hz:lo+(i:Nat)=z):dG (.fix (jt lo n)) i S=some (some (.int z)):=by unfold dG;simp only;rw[KN,if_pos h,hz]
def cI{o:O}:(S++[o])[S.length]?=some o:=by simp
def fQ{o p:O}{n:Nat}(h:S[n]?=some o):(S++[p])[n]?=some o:=by rw[ou (fO.mp h).1];exact h
end
noncomputable def eY:Nat->D->Bool
 |_,.non=>true
 |_,.int _=>true
 |_,.str x=>PyData.strOk x
 |n+1,.tup xs=>xs.all (eY n)
 |_,_=>false
noncomputable def lJ:Nat->D->PyData
 |_,.int i => .int i
 |_,.str x => .str x
 |n+1,.tup xs => .tuple (xs.map (lJ n))
 |_,_ => .none
theorem Fw{f:D->Option PyData}{g:D->PyData}:∀{xs:List D},(∀d∈xs,f d=some (g d))->nJ f xs=some (xs.map g)
 |[],_=>rfl
 |d::r,h=>by unfold nJ;rw[h d fL,Fw (xs:=r) λe he=>h e (cM _ he)];rfl
theorem zW{S:So}:∀{n:Nat} {d:D},eY n d=true->eH S (n+1) d=some (lJ n d)
 |n,.obj _ _ _,h=>by cases n<;>cases h
 |n,.non,_=>by simp[eH];cases n<;>rfl
 |n,.int i,_=>by simp[eH];cases n<;>rfl
 |n,.str x,_=>by simp[eH];cases n<;>rfl
 |n+1,.tup xs,h=>by unfold eY at h;rw[List.all_eq_true] at h;unfold eH;rw[Fw λd hd=>zW (h d hd)];rfl
 |0,.tup xs,h=>by simp[eY] at h
 |_,.bl _,h=>by simp[eY] at h
 |_,.ref _,h=>by simp[eY] at h
 |_,.ty _,h=>by simp[eY] at h
 |_,.adr _,h=>by simp[eY] at h
theorem z9{S:So}:∀{n m:Nat} {d:D} {p:PyData},eH S n d=some p->n<=m->eH S m d=some p
 |0,_,_,_,h,_=>by simp[eH] at h
 |n+1,0,_,_,_,hm=>by omega
 |n+1,m+1,d,p,h,hm=>by
  have aux:∀{xs:List D} {ps:List PyData},nJ (eH S n) xs=some ps->nJ (eH S m) xs=some ps:=λ{xs}=>by
   induction xs with
   |nil=>intro ps e;exact e
   |cons x r ih =>
    intro ps e;simp only[nJ,bC,aX] at e ⊢;obtain⟨q,e1,qs,e2,e3⟩:=e;exact⟨q,z9 e1 (by omega),qs,ih e2,e3⟩
  cases d with
  |tup xs =>
   simp only[eH,aX] at h ⊢;obtain⟨ps,e1,e2⟩:=h;exact⟨ps,aux e1,e2⟩
  |ref k =>
   simp only[eH] at h ⊢;split at h
   .rename_i q;simp only[aX] at h ⊢;obtain⟨ps,e1,e2⟩:=h;exact⟨ps,aux e1,e2⟩
   .rename_i q;simp only[aX] at h ⊢;obtain⟨ps,e1,e2⟩:=h;exact⟨ps,aux e1,e2⟩
   .cases h
  |non=>simpa[eH] using h
  |bl b=>simpa[eH] using h
  |int i=>simpa[eH] using h
  |str x=>simpa[eH] using h
  |obj _ _ _=>simp[eH] at h
  |ty x=>simp[eH] at h
  |adr x=>simp[eH] at h
theorem Qu{ps:List PyData}(h:∀p∈ps,PyData.canLay0 p=true):PyData.canLayAll0 ps=true:=by
 induction ps with
 |nil=>rfl
 |cons p r ih=>unfold PyData.canLayAll0;rw[h p fL,ih λq hq=>h q (cM _ hq)];rfl
theorem Qw{ps:List PyData}{n:Nat}(h:∀p∈ps,PyData.depth p<=n):PyData.depthAll ps<=n:=by
 induction ps with
 |nil=>exact Nat.zero_le _
 |cons p r ih=>unfold PyData.depthAll;exact Nat.max_le.mpr ⟨h p fL,ih λq hq=>h q (cM _ hq)⟩
theorem zP:∀{n:Nat} {d:D},eY n d=true->PyData.canLay0 (lJ n d)=true/\PyData.depth (lJ n d)<=n
 |n,.obj _ _ _,h=>by cases n<;>cases h
 |n,.non,_=>by cases n<;>exact⟨rfl,Nat.zero_le _⟩
 |n,.int i,_=>by cases n<;>exact⟨rfl,Nat.zero_le _⟩
 |n,.str x,h=>by
  have h':PyData.strOk x=true:=by cases n<;>simpa[eY] using h
  cases n<;>exact⟨h',Nat.zero_le _⟩
 |n+1,.tup xs,h=>by
  unfold eY at h;rw[List.all_eq_true] at h;constructor
  .show PyData.canLayAll0 (xs.map (lJ n))=true;refine Qu λp hp=>?_;obtain⟨d,hd,rfl⟩:=List.mem_map.mp hp;exact(zP (h d hd)).1
  .show PyData.depthAll (xs.map (lJ n))+1<=n+1;refine Nat.succ_le_succ (Qw λp hp=>?_);obtain⟨d,hd,rfl⟩:=List.mem_map.mp hp;exact(zP (h d hd)).2
 |0,.tup xs,h=>by simp[eY] at h
 |_,.bl _,h=>by simp[eY] at h
 |_,.ref _,h=>by simp[eY] at h
 |_,.ty _,h=>by simp[eY] at h
 |_,.adr _,h=>by simp[eY] at h
theorem VB{n:Nat}{d:D}(h:eY n d=true)(hn:n<=64):SeqAt.shaped (lJ n d)=true:=by unfold SeqAt.shaped;obtain⟨a,b⟩:=zP h;rw[a,Bool.true_and];exact decide_eq_true (by omega)
theorem Ss{f:D->PyData}{xs:List D}:∀{ys:List D},(∀x∈xs,∀y∈ys,(PyData.eqv (f x) (f y)=true↔x=y))->(PyData.eqvAll (xs.map f) (ys.map f)=true↔xs=ys):=by
 induction xs with
 |nil=>intro ys h;cases ys<;>simp[PyData.eqvAll]
 |cons x r ih =>
  intro ys h;cases ys with
  |nil=>simp[PyData.eqvAll]
  |cons y s =>
   simp only[jd,PyData.eqvAll,dh,List.cons.injEq];rw[h x fL y fL,ih λa ha b hb=>h a (cM _ ha) b (cM _ hb)]
theorem Sv:∀{n:Nat} {x y:D},eY n x=true->eY n y=true->(PyData.eqv (lJ n x) (lJ n y)=true↔x=y):=by
 intro n
 induction n with
 |zero =>
  intro x y hx hy;cases x<;>cases y<;>simp_all [eY,lJ,PyData.eqv]
 |succ n ih =>
  intro x y hx hy;cases x<;>cases y<;>simp_all [eY,lJ,PyData.eqv];exact Ss λa ha b hb=>ih (hx a ha) (hy b hb)
open Classical in
theorem RM{S:So}{x y:D}(n:Nat)(hx:eY n x=true)(hy:eY n y=true)(hn:n<=23:=by decide):mC S x y=some (decide (x=y)):=by unfold mC;rw[z9 (zW hx) (by omega),z9 (zW hy) (by omega)];simp only[b8];rw[if_pos ⟨VB hx (by omega),VB hy (by omega)⟩];congr 1;rw[Bool.eq_iff_iff,Sv hx hy,uQ]
open Classical in
theorem RL{S:So}{n m:Nat}{xs ys:List D}(k:Nat)(h1:S[n]?=some (.lst xs)\/S[n]?=some (.frz xs))(h2:S[m]?=some (.lst ys)\/S[m]?=some (.frz ys))(hx:∀x∈xs,eY k x=true)(hy:∀y∈ys,eY k y=true)(hk:k<=20:=by decide):
 mC S (.ref n) (.ref m)=some (decide (xs=ys)):=by
 have e1:eH S (k+2) (.ref n)=some (.list (xs.map (lJ k))):=by unfold eH;rcases h1 with h1|h1<;>(rw[h1];simp only;rw[Fw λd hd=>zW (hx d hd)];rfl)
 have e2:eH S (k+2) (.ref m)=some (.list (ys.map (lJ k))):=by unfold eH;rcases h2 with h2|h2<;>(rw[h2];simp only;rw[Fw λd hd=>zW (hy d hd)];rfl)
 have sh:∀zs:List D,(∀z∈zs,eY k z=true)->SeqAt.shaped (.list (zs.map (lJ k)))=true:=λzs hz=>by
  unfold SeqAt.shaped;rw[dh];constructor
  .show PyData.canLayAll0 _=true;refine Qu λp hp=>?_;obtain⟨d,hd,rfl⟩:=List.mem_map.mp hp;exact(zP (hz d hd)).1
  .refine decide_eq_true ?_;show PyData.depthAll _+1<=64;have:PyData.depthAll (zs.map (lJ k))<=k:=Qw λp hp=>by obtain⟨d,hd,rfl⟩:=List.mem_map.mp hp;exact(zP (hz d hd)).2
   omega
 unfold mC;rw[z9 e1 (by omega),z9 e2 (by omega)];simp only[b8];rw[if_pos ⟨sh xs hx,sh ys hy⟩];congr 1;rw[Bool.eq_iff_iff,uQ];show PyData.eqvAll _ _=true↔_;exact Ss λa ha b hb=>Sv (hx a ha) (hy b hb)
section
variable {S:So}{x y:D}
noncomputable def Cm:D->D->Bool
 |.int _,.int _=>false
 |_,_=>true
open Classical in
theorem p8(h:Cm x y=true)(n:Nat)(hx:eY n x=true)(hy:eY n y=true)(hn:n<=23):aV .Eq x y S=some (.bl (decide (x=y)),S):=by
 have e:aV .Eq x y S=(mC S x y).map λb=>(.bl b,S):=by cases x<;>cases y<;>first|rfl|cases h
 rw[e,RM n hx hy hn];rfl
open Classical in
theorem Q0(h:Cm x y=true)(n:Nat)(hx:eY n x=true)(hy:eY n y=true)(hn:n<=23):aV .NotEq x y S=some (.bl (!decide (x=y)),S):=by
 have e:aV .NotEq x y S=(mC S x y).map λb=>(.bl (!b),S):=by cases x<;>cases y<;>first|rfl|cases h
 rw[e,RM n hx hy hn];rfl
open Classical in
theorem Yc{n m:Nat}{xs ys:List D}(k:Nat)(h1:S[n]?=some (.lst xs)\/S[n]?=some (.frz xs))(h2:S[m]?=some (.lst ys)\/S[m]?=some (.frz ys))(hx:∀x∈xs,eY k x=true)(hy:∀y∈ys,eY k y=true)(hk:k<=20):
 aV .Eq (.ref n) (.ref m) S=some (.bl (decide (xs=ys)),S):=by
 show(mC S (.ref n) (.ref m)).map _=_;rw[RL k h1 h2 hx hy hk];rfl
open Classical in
theorem ZJ{n m:Nat}{xs ys:List D}(k:Nat)(h1:S[n]?=some (.lst xs)\/S[n]?=some (.frz xs))(h2:S[m]?=some (.lst ys)\/S[m]?=some (.frz ys))(hx:∀x∈xs,eY k x=true)(hy:∀y∈ys,eY k y=true)(hk:k<=20):
 aV .NotEq (.ref n) (.ref m) S=some (.bl (!decide (xs=ys)),S):=by
 show(mC S (.ref n) (.ref m)).map _=_;rw[RL k h1 h2 hx hy hk];rfl
end
end MX
end
section
namespace MX
open PySem L2
open Builtin.Int (intBits)
def Bd(k:Nat)(x:Int):Prop:=x.natAbs<2 ^ k
def Bd.le{k l:Nat}{x:Int}(h:Bd k x)(hl:k<=l):Bd l x:=dN h (Nat.pow_le_pow_right (by decide) hl)
theorem Bd.add{k l:Nat}{x y:Int}(h:Bd k x)(g:Bd l y):Bd (max k l+1) (x+y):=by
 have h1:=h.le (Nat.le_max_left k l);have h2:=g.le (Nat.le_max_right k l);unfold Bd at *
 rw[Nat.pow_succ];have:=Int.natAbs_add_le x y;omega
def Bd.neg{k:Nat}{x:Int}(h:Bd k x):Bd k (-x):=by unfold Bd at *;rw[Int.natAbs_neg];exact h
def Bd.sub{k l:Nat}{x y:Int}(h:Bd k x)(g:Bd l y):Bd (max k l+1) (x - y):=by rw[Int.sub_eq_add_neg];exact h.add g.neg
def Bd.mul{k l:Nat}{x y:Int}(h:Bd k x)(g:Bd l y):Bd (k+l) (x*y):=by
 unfold Bd at *
 rw[Int.natAbs_mul,Nat.pow_add];exact Nat.mul_lt_mul'' h g
def Bd.lit(x:Int):Bd (intBits x) x:=by
 unfold Bd intBits;split
 .rename_i h;have:x=0:=by simpa using h
  subst this;decide
 .exact Nat.lt_log2_self
def Bd.fmod{m x:Int}(h:0<m):Bd (intBits m) (x.fmod m):=by
 have h1:=oh x h;have h2:=tE x h;have h3:=Bd.lit m;unfold Bd at *
 omega
def zmE{x y:Int}(hy:0<y):(x.fdiv y).natAbs<=x.natAbs:=by rw[Int.fdiv_eq_ediv_of_nonneg _ (by omega)];exact Int.natAbs_ediv_le_natAbs x y
def Bd.fdiv{k:Nat}{x y:Int}(h:Bd k x)(hy:0<y):Bd k (x.fdiv y):=zm (zmE hy) h
theorem ZL{i j:Int}{S:So}(h:0<=j/\j<=1000000/\i.natAbs<2 ^ 64):aN .LShift (.int i) (.int j) S=some (.int (i*2 ^ j.toNat),S):=by unfold aN sy;simp only;rw[if_pos h]
theorem Bd.bits{k:Nat}{x:Int}(h:Bd k x):intBits x<=k:=by
 unfold Bd at h;unfold intBits;split
 .exact Nat.zero_le _
 .rename_i hn;have hx:x.natAbs≠0:=λe=>hn (by have:=Int.natAbs_eq_zero.mp e;subst this;rfl);exact(Nat.log2_lt hx).mpr h
theorem qg{k l:Nat}{x y:Int}(h:Bd k x)(g:Bd l y)(hl:k+l<=134217728):cQ x y=true:=by unfold cQ;have h1:=h.bits;have h2:=g.bits;rw[mG];exact .inr (decide_eq_true (by omega))
def RP{x y:Int}(h:intBits y<=64):cQ x y=true:=by unfold cQ;rw[mG,mG];exact .inl (.inr (decide_eq_true h))
theorem yx{k:Nat}{y:Int}(h:Bd k y)(h0:y≠0)(hl:k<=8000):dF y=true:=by unfold dF;have:=h.bits;rw[dh];exact⟨decide_eq_true h0,decide_eq_true (by omega)⟩
noncomputable abbrev P3(x y z:Int):D := .tup [.int x,.int y,.int z]
noncomputable abbrev R2(x y:Int):D := .tup [.int x,.int y]
end MX
namespace MX
open PySem L2
theorem D.lo_mono:∀{d:D} {n m:Nat},n<=m->D.lo n d=true->D.lo m d=true:=by
 have key:∀(k:Nat) (d:D) (n m:Nat),sizeOf d<=k->n<=m->D.lo n d=true->D.lo m d=true:=by
  intro k
  induction k with
  |zero=>intro d n m hk;cases d<;>simp at hk
  |succ k ih =>
   intro d n m hk hm h;cases d with
   |tup xs =>
    rw[D.lo] at h ⊢;have aux:∀ys:List D,sizeOf ys<=k->cV n ys=true->cV m ys=true:=by
     intro ys
     induction ys with
     |nil=>intro _ _;simp[cV]
     |cons y r ihr =>
      intro hs hl;rw[cV,dh] at hl ⊢;simp at hs;exact⟨ih y n m (by omega) hm hl.1,ihr (by omega) hl.2⟩
    exact aux xs (by simp at hk;omega) h
   |obj _ _ xs =>
    rw[D.lo] at h ⊢;have aux:∀ys:List D,sizeOf ys<=k->cV n ys=true->cV m ys=true:=by
     intro ys
     induction ys with
     |nil=>intro _ _;simp[cV]
     |cons y r ihr =>
      intro hs hl;rw[cV,dh] at hl ⊢;simp at hs;exact⟨ih y n m (by omega) hm hl.1,ihr (by omega) hl.2⟩
    exact aux xs (by simp at hk;omega) h
   |ref j=>rw[D.lo] at h ⊢;exact decide_eq_true (dN (of_decide_eq_true h) hm)
   |_=>simp[D.lo]
 exact λ{d n m} hm h=>key (sizeOf d) d n m (bZ _) hm h
def mq{n:Nat}:∀{xs:List D},cV n xs=true↔∀x∈xs,D.lo n x=true
 |[]=>by simp[cV]
 |x::r=>by rw[cV,dh,mq (xs:=r)];simp
def JQ{n m:Nat}{xs:List D}(hm:n<=m)(h:cV n xs=true):cV m xs=true:=mq.mpr λx hx=>D.lo_mono hm (mq.mp h x hx)
theorem O.lo_mono{n m:Nat}{o:O}(hm:n<=m)(h:O.lo n o=true):O.lo m o=true:=by
 cases o with
 |lst xs=>exact JQ hm h
 |frz xs=>exact JQ hm h
 |ins C fs=>exact JQ hm h
 |dct xs=>rfl
 |tbl x=>rfl
theorem WF.snoc{S:So}{o:O}(h:WF S)(ho:O.lo S.length o=true):WF (S++[o]):=λp hp=>by
 rw[lz,List.length_singleton];rcases mH.mp hp with hp|hp
 .exact O.lo_mono (Nat.le_succ _) (h p hp)
 .rw[List.mem_singleton.mp hp];exact O.lo_mono (Nat.le_succ _) ho
def zU(n:Nat)(ns:List Int):O.lo n (.lst (ns.map .int))=true:=mq.mpr λx hx=>by obtain⟨i,_,rfl⟩:=List.mem_map.mp hx;simp[D.lo]
end MX
namespace MX.P
open PySem L2 MX
noncomputable abbrev Pt:=Int×Int×Int
noncomputable abbrev pD(p:Pt):D:=P3 p.1 p.2.1 p.2.2
def lo_pts(n:Nat)(pts:List Pt):O.lo n (.lst (pts.map pD))=true:=mq.mpr λx hx=>by obtain⟨i,_,rfl⟩:=List.mem_map.mp hx;simp[D.lo,cV]
theorem Rh{fe:EF}{S:So}{m:Nat}{rest:Sg}(h:Nat->D)(hstep:∀k:Nat,k<m->fe (some (.int (k:Nat))::rest) S=some (h k,S)):
 jx (dG (.fix (jt 0 m))) (aK 0) cZ fe m 0 (none::rest) S []=some ((List.range m).map h,S):=by
 have hl:(jt 0 m).length=m:=by simp[jt]
 have:=FT (nx:=dG (.fix (jt 0 m))) (g:=aK 0) (t:=cZ) (fe:=fe) (S:=S) (xs:=jt 0 m) (λτ=>∃v,τ=v::rest) (λ_=>true) (λd=>match d with|.int i=>h i.toNat|_ => .non)
  (λi=>rfl) (λd hd τ hT=>?_) m 0 (none::rest) [] ⟨none,rfl⟩ (by rw[hl];omega)
 .rw[this,uP,List.drop_zero,List.filter_eq_self.mpr (λ_ _=>rfl)];congr 2;unfold jt;rw[List.map_map];refine List.map_congr_left λk _=>?_;show h ((0:Int)+(k:Nat)).toNat=h k;congr 1;omega
 .obtain⟨v,rfl⟩:=hT;unfold jt at hd;obtain⟨k,hk,rfl⟩:=List.mem_map.mp hd;refine⟨some (.int ((0:Int)+(k:Nat)))::rest,rfl,⟨_,rfl⟩,rfl,λ_=>?_⟩;have e:((0:Int)+(k:Nat))=(k:Nat):=by omega
  rw[e,hstep k (List.mem_range.mp hk)];congr
end MX.P
end
open MX
local macro_rules | `(tactic| wtm_at "?p") => `(tactic| first | rfl | assumption | exact mj (by first | assumption | rfl | omega) | exact lZ (by first | assumption | omega) | (simp only [Bool.not_eq_true', Bool.not_eq_false', Bool.not_true, Bool.not_false, uQ, decide_eq_false_iff_not, oH]; first | assumption | omega))
local macro_rules | `(tactic| wtm_at "?e") => `(tactic| first | assumption | exact cI | (apply fQ; wtm_at "?e"))
local macro_rules | `(tactic| wtm_at "?f") => `(tactic| first | assumption | ((with_reducible apply Bd.mul); (·wtm_at "?f"); (·wtm_at "?f")) | ((with_reducible apply Bd.add); (·wtm_at "?f"); (·wtm_at "?f")) | ((with_reducible apply Bd.sub); (·wtm_at "?f"); (·wtm_at "?f")) | ((with_reducible apply Bd.neg); wtm_at "?f") | ((with_reducible apply Bd.fmod); decide) | ((with_reducible apply Bd.fmodV); (focus first | assumption | decide); (·wtm_at "?f")) | ((with_reducible apply Bd.fdiv); (·wtm_at "?f"); (focus first | decide | assumption | omega)) | exact Bd.lit _)
local macro_rules | `(tactic| wtm_at "?u") => `(tactic| (apply Bd.le; (·wtm_at "?f"); (focus first | decide | (simp only [Nat.reduceAdd, Nat.reduceMax, Nat.max_self]; omega))))
local macro_rules | `(tactic| wtm_at "?k") => `(tactic| first | assumption | rfl | wtm_at "?e" | (refine RP (by decide)) | (refine mulOk_l (by decide)) | (apply qg; (·wtm_at "?f"); (·wtm_at "?f"); (focus first | decide | omega)) | wtm_at "?u" | decide | omega)
local macro_rules | `(tactic| wtm_at "?l") => `(tactic| first | assumption | ((with_reducible apply WF.snoc); (·wtm_at "?l"); (focus first | exact zU _ _ | assumption | rfl)))
local macro_rules | `(tactic| wtm_at "?g") => `(tactic| first
 | (with_reducible first|exact zL|exact Q5|exact Im|exact Yg|exact QD|exact Ye|exact zJ|exact Yh|exact p6|exact Ka|exact ZK)
 | ((with_reducible apply yc);wtm_at "?k")|((with_reducible apply yh);wtm_at "?k")|((with_reducible apply p7);first|decide|wtm_at "?k")|((with_reducible apply ZL);decide)
 | ((with_reducible apply dX);first|(with_reducible assumption)|rfl)|((with_reducible apply qZ);(·wtm_at "?e");(focus first|(with_reducible assumption)|rfl))|((with_reducible apply QZ);(·wtm_at "?e");(focus first|(with_reducible assumption)|rfl))
 | (refine p8 ?_ 8 ?_ ?_ ?_<;>first | decide +kernel | rfl | decide) | (refine Q0 ?_ 8 ?_ ?_ ?_<;>first | decide +kernel | rfl | decide))
local macro_rules | `(tactic| wtm_at "?m") => `(tactic| first
 | ((with_reducible apply jb);exact xQ rfl)|((with_reducible apply vy);exact xQ rfl)|(with_reducible first|exact zo8|exact zmF|exact zmG|exact ev_min2|exact zo6|exact QW|exact Ug)
 | ((with_reducible apply rz);wtm_at "?e")|((with_reducible apply JH);wtm_at "?e")|((with_reducible apply yF);wtm_at "?e")|((with_reducible apply Ue);wtm_at "?e")
 | ((with_reducible apply zpa);(·wtm_at "?e");(·rfl))|((with_reducible apply ev_minL');(·wtm_at "?e");(·rfl);(·rfl))|((with_reducible apply Uh);(·wtm_at "?e");(·rfl);(·rfl))|((with_reducible apply ev_minT');(·rfl);(·rfl))|((with_reducible apply ev_maxT');(·rfl);(·rfl))
 | ((with_reducible apply eE);(·rfl);(·wtm_at "?d")))
local macro_rules | `(tactic| wtm_at "?q") => `(tactic| first | rfl | (with_reducible assumption) | exact mj (by with_reducible assumption) | exact lZ (by with_reducible assumption) | exact mj rfl)
local macro_rules | `(tactic| wtm_at "?i") => `(tactic| first | (apply gG; (·wtm_at "?q"); wtm_at "?a") | (apply fG; (·wtm_at "?q"); wtm_at "?a") | (apply gG; (·wtm_at "?p"); wtm_at "?a") | (apply fG; (·wtm_at "?p"); wtm_at "?a"))
local macro_rules | `(tactic| wtm_at "?v") => `(tactic| first | (simp only [List.set_cons_zero, List.set_cons_succ, List.set]; done) | (simp only [List.set_cons_zero, List.set_cons_succ, List.set]; rfl) | rfl)
local macro_rules | `(tactic| wtm_at "?h") => `(tactic| first
 | ((with_reducible apply cO);wtm_at "?v")
 | ((with_reducible apply Eu);(·rfl);(·wtm_at "?h"))
 | ((with_reducible apply vM);(·wtm_at "?h");(·wtm_at "?h"))
 | (with_reducible exact FJ))
local macro_rules | `(tactic| wtm_at "?a") => `(tactic| first
 | (with_reducible exact bA)|((with_reducible apply aJ);rfl)
 | ((with_reducible apply aW);(·wtm_at "?a");(·wtm_at "?a");(·wtm_at "?g"))
 | ((with_reducible apply bG);(·wtm_at "?a");(·wtm_at "?m"))
 | ((with_reducible apply aO);(·wtm_at "?a");(·wtm_at "?a"))|(with_reducible exact bD)
 | ((with_reducible apply aM);(·wtm_at "?a");(·wtm_at "?n"))
 | ((with_reducible apply fX);wtm_at "?a")|(with_reducible first|exact eX|exact ev_sRetN|exact Sy|exact ev_sBrk)
 | ((with_reducible apply c7);(·wtm_at "?a");(·wtm_at "?h"))
 | ((with_reducible apply eZ);(·wtm_at "?a");(·wtm_at "?i"))
 | ((with_reducible apply yC);wtm_at "?a")
 | ((with_reducible apply fP);wtm_at "?a")|((with_reducible apply zo5);wtm_at "?a")
 | ((with_reducible apply rA);(·wtm_at "?a");(·wtm_at "?i"))|((with_reducible apply q8);(·wtm_at "?a");(·wtm_at "?i"))
 | ((with_reducible apply JL);(·wtm_at "?a");(·rfl))
 | ((with_reducible apply Yd);(·wtm_at "?a");(·wtm_at "?g"))
 | ((with_reducible apply ev_eNot);wtm_at "?a")
 | ((with_reducible apply Sw);(·wtm_at "?a");(·wtm_at "?i"))|((with_reducible apply Jb);(·wtm_at "?a");(·wtm_at "?i"))
 | ((with_reducible apply zM);(·wtm_at "?a");(·wtm_at "?i"))
 | ((with_reducible apply yg);(·wtm_at "?a");(·wtm_at "?a");(·wtm_at "?a");(·wtm_at "?w"))|(with_reducible exact zZ)|((with_reducible apply z7);wtm_at "?a")
 | ((with_reducible apply qX);(·wtm_at "?j");(·rfl);(focus exact xQ rfl);(focus simp only[nH,jd,List.map_nil,b8,Option.bind_none,List.getElem?_cons_zero,List.getElem?_cons_succ,Option.join_some];rfl);(·wtm_at "?r"))
 | ((with_reducible apply qY);(·wtm_at "?j");(·rfl);(·wtm_at "?o"))
 | (with_reducible exact vB)
 |exact rfl)
local macro_rules | `(tactic| wtm_at "?j") => `(tactic| first | ((with_reducible apply Fj); (·wtm_at "?a"); (focus decide)) | ((with_reducible apply FN); wtm_at "?a") | ((with_reducible apply zo9); (·wtm_at "?a"); (focus exact ⟨xQ rfl, xQ rfl⟩); (·rfl)) | ((with_reducible apply oN); (·wtm_at "?a"); (·wtm_at "?e")))
local macro_rules | `(tactic| wtm_at "?r") => `(tactic| first | (apply vq; (·wtm_at "?s"); (·wtm_at "?h"); (·wtm_at "?a"); (·wtm_at "?a"); (focus simp only [uP, List.cons_append]; rfl); (·wtm_at "?r")) | (apply zN; rfl))
local macro_rules | `(tactic| wtm_at "?t") => `(tactic| first | (simp only [List.getElem?_cons_zero, List.getElem?_cons_succ]; done) | (simp only [List.getElem?_cons_zero, List.getElem?_cons_succ]; rfl) | rfl)
local macro_rules | `(tactic| wtm_at "?s") => `(tactic| first | ((with_reducible apply Yk); (focus decide); (focus first | (simp; rfl) | rfl)) | ((with_reducible apply Zk); wtm_at "?t") | ((with_reducible apply vA); (·wtm_at "?e"); (·wtm_at "?t")) | rfl)
local macro_rules | `(tactic| wtm_at "?o") => `(tactic| first | (apply mY; (·wtm_at "?s"); (·wtm_at "?h"); (·wtm_at "?a"); (·wtm_at "?x")) | (apply JG; rfl))
local macro_rules | `(tactic| wtm_at "?x") => `(tactic| first | (with_reducible first | exact Fp | exact forK_bk) | ((with_reducible apply Fo); wtm_at "?o") | ((with_reducible apply forK_ct); wtm_at "?o"))
local macro_rules | `(tactic| wtm_at "?w") => `(tactic| first | ((with_reducible apply Ew); (focus exact of_decide_eq_false rfl); (focus first | exact Aa | exact Uc)) | ((with_reducible apply Jc); (·wtm_at "?e"); (focus first | exact Aa | exact Uc | rfl)))
local macro_rules | `(tactic| wtm_at "?n") => `(tactic| first | exact dW | ((with_reducible apply aU); wtm_at "?a") | (with_reducible first | exact seqK_bk | exact Jy))
local macro_rules | `(tactic| wtm_at "?b") => `(tactic| simp only [m6, jd, List.map_nil, jM, zj, Nat.reduceAdd, Nat.reduceSub, Nat.zero_add, Nat.sub_self, List.replicate, List.cons_append, uP, List.append_nil])
local macro_rules | `(tactic| wtm_at "?c") => `(tactic| first | exact xO | simp [List.take_append])
local macro_rules | `(tactic| wtm_at "?y") => `(tactic| first | assumption | (apply Gr.refl; wtm_at "?l") | ((with_reducible apply Gr.snoc); (·wtm_at "?y"); (focus first | exact zU _ _ | exact MX.P.lo_pts _ _ | rfl | assumption)))
section
namespace MX.P
open PySem L2 MX
theorem zfD(a b c d e f:Int)(S:So):fD [P3 a b c,P3 d e f] S=some (P3 (d - a) (e - b) (f - c),S):=by refine bQ (σ':=[some (P3 a b c),some (P3 d e f)]) (S':=S) ?_ (by simp) rfl;show Mw [some (P3 a b c),some (P3 d e f)] S=_;unfold Mw;wtm_at "?a"
theorem zpV{k l:Nat}{a b c d e f:Int}(ha:Bd k a)(hb:Bd k b)(hc:Bd k c)(hd:Bd l d)(he:Bd l e)(hf:Bd l f)(hk:k+l<=134217728)(S:So):gj [P3 a b c,P3 d e f] S=some (.int (a*d+b*e+c*f),S):=by refine bQ (σ':=[some (P3 a b c),some (P3 d e f)]) (S':=S) ?_ (by simp) rfl;show Ii [some (P3 a b c),some (P3 d e f)] S=_;unfold Ii;wtm_at "?a"
theorem zlL{k l:Nat}{a b c d e f:Int}(ha:Bd k a)(hb:Bd k b)(hc:Bd k c)(hd:Bd l d)(he:Bd l e)(hf:Bd l f)(hk:k+l<=134217728)(S:So):jF [P3 a b c,P3 d e f] S=some (P3 (b*f - c*e) (c*d - a*f) (a*e - b*d),S):=by refine bQ (σ':=[some (P3 a b c),some (P3 d e f)]) (S':=S) ?_ (by simp) rfl;show Jk [some (P3 a b c),some (P3 d e f)] S=_;unfold Jk;wtm_at "?a"
theorem sp_is_less{k l:Nat}{a b c d:Int}(ha:Bd k a)(hb:Bd k b)(hc:Bd l c)(hd:Bd l d)(hk:k+l<=134217728)(S:So):tY [R2 a b,R2 c d] S=some (.bl (decide (a*d<c*b)),S):=by refine bQ (σ':=[some (R2 a b),some (R2 c d)]) (S':=S) ?_ (by simp) rfl;show Kw [some (R2 a b),some (R2 c d)] S=_;unfold Kw;wtm_at "?a"
noncomputable def Dz(c k:Int):Int:=(((c*6364136223846793005+(k+1)*1442695040888963407).fmod 340282366920938463463374607431768211507)*((c*6364136223846793005+(k+1)*1442695040888963407).fmod 340282366920938463463374607431768211507)).fmod 340282366920938463463374607431768211297
theorem sp_drawn(c k:Int)(S:So):Av [.int c,.int k] S=some (.int (Dz c k),S):=by refine bQ (σ':=[some (.int c),some (.int k),some (.int ((c*6364136223846793005+(k+1)*1442695040888963407).fmod 340282366920938463463374607431768211507))]) (S':=S) ?_ (by simp) rfl;show Lb [some (.int c),some (.int k),none] S=_;unfold Lb;wtm_at "?a"
end MX.P
end
section
local macro_rules | `(tactic| wtm_at "?d") => `(tactic| exact MX.P.sp_drawn _ _ _)
namespace MX.P
open PySem L2 MX
noncomputable def ju(ns:List Int)(k:Int):Int:=if ns=[] then k*7919 else(ns[(k.fmod ns.length).toNat]?.getD 0)+k.fdiv ns.length*104729
def rR(k:Nat)(ns:List Int):∀x∈ns.map D.int,eY k x=true:=λx hx=>by obtain⟨n,_,rfl⟩:=List.mem_map.mp hx;cases k<;>rfl
theorem rB{ns:List Int}(hn:ns.length<=63)(k:Int){S:So}(h:S[0]?=some (.frz (ns.map .int))):qj [.ref 0,.int k] S=some (.int (ju ns k),S):=by
 have e1:bI (eB (aV .Eq) (aj 0) (eN lB aB)) [some (.ref 0),some (.int k)] S=some (decide (ns.map D.int=[]),S++[.lst []]):=by
  apply fP;apply aW
  .wtm_at "?a"
  .wtm_at "?a"
  .rw[Yc 0 (.inr (fQ h)) (.inl cI) (rR 0 ns) (by simp) (by decide)]
 by_cases hz:ns=[]
 .apply bQ
  .wtm_at "?b"
   unfold Lh;apply aM
   .apply eZ
    .exact e1
    .apply gG
     .simp[hz]
     .wtm_at "?a"
   .have:ju ns k=k*7919:=by unfold ju;rw[if_pos hz]
    rw[this];wtm_at "?n"
  .simp
  .rfl
 .have hl:0<ns.length:=List.length_pos_iff.mpr hz;have hl':(0:Int)<((ns.map D.int).length:Int):=by simp;omega
  have h1:=oh k hl';have h2:=tE k hl';have hb:Bd 7 ((ns.map D.int).length:Int):=by unfold Bd;simp;omega
  have e2:gJ (ns.map D.int) (k.fmod ((ns.map D.int).length:Int))=some (.int (ns[(k.fmod ns.length).toNat]?.getD 0)):=by
   unfold gJ uw;rw[if_pos h1,if_pos h2];simp only[cW] at h2 h1 ⊢;simp only[b8,iY];have:(k.fmod (ns.length:Int)).toNat<ns.length:=by omega
   rw[f9 this];rfl
  apply bQ
  .wtm_at "?b"
   unfold Lh;apply aM
   .apply eZ
    .exact e1
    .apply fG
     .simp[hz]
     .wtm_at "?a"
   .apply aU;apply aM
    .apply fX;apply aW
     .apply aW
      .wtm_at "?a"
      .apply aW
       .wtm_at "?a"
       .apply bG
        .wtm_at "?a"
        .exact JH (fQ h)
       .exact yh (by omega)
      .exact QZ (fQ h) e2
     .apply aW
      .apply aW
       .wtm_at "?a"
       .apply bG
        .wtm_at "?a"
        .exact JH (fQ h)
       .exact p7 (yx hb (by omega) (by decide))
      .wtm_at "?a"
      .exact yc (RP (by decide))
     .exact zL
    .have:ju ns k=(ns[(k.fmod ns.length).toNat]?.getD 0)+k.fdiv ((ns.map D.int).length:Int)*104729:=by unfold ju;rw[if_neg hz,cW]
     rw[this];exact dW
  .simp
  .rfl
end MX.P
end
section
namespace MX.P
open PySem L2 MX
noncomputable def co(k:Int)(p:Pt):Int:=if k=0 then p.1 else if k=1 then p.2.1 else p.2.2
theorem vp{k:Int}(h0:0<=k)(h2:k<=2)(p:Pt):gJ [D.int p.1,.int p.2.1,.int p.2.2] k=some (.int (co k p)):=by
 have:k=0\/k=1\/k=2:=by omega
 rcases this with rfl|rfl|rfl<;>rfl
theorem zoQ{σ:Sg}{S:So}{i j n:Nat}{k:Int}{pts:List Pt}(hi:σ[i]?=some (some (.ref n)))(hj:σ[j]?=some (some (.int k)))(hn:S[n]?=some (.lst (pts.map pD)))(hl:pts.length<=1000)(h0:0<=k)(h2:k<=2):
 dD (d9 (aj i)) (aK 0) cZ (eB aH (aj 0) (aj 1)) [none,some j] σ S=some (.ref S.length,S++[.lst ((pts.map (co k)).map .int)]):=by
 have key:jx (dG (.lst n)) (aK 0) cZ (eB aH (aj 0) (aj 1)) (pts.map pD).length 0 [none,some (.int k)] S []=some ((pts.map (co k)).map .int,S):=by
  have:=FT (nx:=dG (.lst n)) (g:=aK 0) (t:=cZ) (fe:=eB aH (aj 0) (aj 1)) (S:=S) (xs:=pts.map pD) (λτ=>∃v,τ=[v,some (.int k)]) (λ_=>true) (λd=>match d with|.tup xs=>(gJ xs k).getD .non|_ => .non)
   (λi=>by unfold dG;simp only;rw[hn]) (λd hd τ hT=>?_) (pts.map pD).length 0 [none,some (.int k)] [] ⟨none,rfl⟩ (by simp)
  .rw[this];congr 2;rw[uP,List.drop_zero,List.filter_eq_self.mpr (λ_ _=>rfl),List.map_map,List.map_map];refine List.map_congr_left λp _=>?_;show(gJ [D.int p.1,.int p.2.1,.int p.2.2] k).getD .non=_;rw[vp h0 h2];rfl
  .obtain⟨v,rfl⟩:=hT;obtain⟨p,_,rfl⟩:=List.mem_map.mp hd;refine⟨[some (pD p),some (.int k)],rfl,⟨_,rfl⟩,rfl,λ_=>?_⟩;apply aW
   .wtm_at "?a"
   .wtm_at "?a"
   .show aH (.tup [D.int p.1,.int p.2.1,.int p.2.2]) (.int k) S=_;rw[dX (vp h0 h2 p)];show _=some ((gJ [D.int p.1,.int p.2.1,.int p.2.2] k).getD .non,S);rw[vp h0 h2];rfl
 apply qX
 .exact oN (aJ hi) hn
 .show(match S[n]? with|some (.lst xs)=>some xs.length|some (.frz xs)=>some xs.length|_=>none)=_;rw[hn]
 .rw[sizeLine_eq,cW];omega
 .simp only[nH,jd,List.map_nil,b8,Option.bind_none,hj,Option.join_some];rfl
 .exact key
theorem sp_numbers_at{S:So}{n:Nat}{k:Int}{pts:List Pt}(hS:WF S)(hn:S[n]?=some (.lst (pts.map pD)))(hl:pts.length<=1000)(h0:0<=k)(h2:k<=2):
 Gw [.ref n,.int k] S=some (.ref S.length,S++[.lst ((pts.map (co k)).map .int)]):=by
 apply vC
 .wtm_at "?b"
  unfold V5;apply aM
  .apply fX;exact zoQ rfl rfl hn hl h0 h2
  .exact dW
 .intro h;simp[D.lo] at h
 .simp
 .simp[D.lo]
 .exact hS.snoc (zU _ _)
def IV{ns:List Int}(h:ns≠[]):∃m,jB ns=some m:=by cases ns with|nil=>exact absurd rfl h|cons _ _=>exact⟨_,rfl⟩
def Er{ns:List Int}(h:ns≠[]):∃m,iM ns=some m:=by cases ns with|nil=>exact absurd rfl h|cons _ _=>exact⟨_,rfl⟩
end MX.P
local macro_rules | `(tactic| wtm_at "?d") => `(tactic| (apply MX.P.sp_numbers_at; (·wtm_at "?l"); (·wtm_at "?e"); (·assumption); (focus decide); (focus decide)))
local macro_rules | `(tactic| wtm_at "?m") => `(tactic| first | ((with_reducible apply JK); (·wtm_at "?e"); (·assumption)) | ((with_reducible apply Sx); (·wtm_at "?e"); (·assumption)))
namespace MX.P
theorem zge{S:So}{n:Nat}{pts:List Pt}{a0 a1 a2 b0 b1 b2:Int}(hS:WF S)(hn:S[n]?=some (.lst (pts.map pD)))(hl:pts.length<=1000)(h0:jB (pts.map (co 0))=some a0)(h1:jB (pts.map (co 1))=some a1)(h2:jB (pts.map (co 2))=some a2)(g0:iM (pts.map (co 0))=some b0)(g1:iM (pts.map (co 1))=some b1)(g2:iM (pts.map (co 2))=some b2):
 yJ [.ref n] S=some (.tup [P3 a0 a1 a2,P3 b0 b1 b2],S):=by
 apply bQ
 .wtm_at "?b"
  unfold Wc;wtm_at "?a"
 .wtm_at "?c"
 .rfl
theorem sp_are_in_order{S:So}{a b c d e f:Int}:Mh [P3 a b c,P3 d e f] S=some (.bl ([decide (a<=d),decide (b<=e),decide (c<=f)].all id),S):=by
 apply bQ
 .wtm_at "?b"
  unfold Wj;wtm_at "?a"
 .wtm_at "?c"
 .rfl
theorem VP:¬(D.tup [.str "triangle"]=D.tup [.str "box"]):=by intro h;simp only[D.tup.injEq,List.cons.injEq,D.str.injEq,and_true] at h;exact absurd h (by decide +kernel)
end MX.P
local macro_rules | `(tactic| wtm_at "?d") => `(tactic| exact MX.P.sp_are_in_order)
namespace MX.P
theorem zeZ{S:So}{a b c:D}:yL [.tup [.str "triangle",a,b,c]] S=some (.bl true,S):=by
 have:=VP;apply bQ
 .wtm_at "?b"
  unfold KD;wtm_at "?a"
 .wtm_at "?c"
 .rfl
theorem ze0{S:So}{a b c d e f:Int}(h1:a<=d)(h2:b<=e)(h3:c<=f):yL [.tup [.str "box",P3 a b c,P3 d e f]] S=some (.bl true,S):=by
 have h:[decide (a<=d),decide (b<=e),decide (c<=f)].all id=true:=by simp[h1,h2,h3]
 apply bQ
 .wtm_at "?b"
  unfold KD;rw[<-h];wtm_at "?a"
 .wtm_at "?c"
 .rfl
end MX.P
end
section
local macro_rules | `(tactic| wtm_at "?d") => `(tactic| (with_reducible assumption))
namespace MX.P
open PySem L2 MX
def zdN{S:So}{sh:D}(h:yL [sh] S=some (.bl true,S)):Nm [sh] S=some (.non,S):=by
 apply Vv
 .wtm_at "?b"
  unfold Wt;wtm_at "?a"
 .wtm_at "?c"
structure mF(pts:List Pt)(lo hi:Pt):Prop where
 h0:jB (pts.map (co 0))=some lo.1
 h1:jB (pts.map (co 1))=some lo.2.1
 h2:jB (pts.map (co 2))=some lo.2.2
 g0:iM (pts.map (co 0))=some hi.1
 g1:iM (pts.map (co 1))=some hi.2.1
 g2:iM (pts.map (co 2))=some hi.2.2
theorem QS{pts:List Pt}(h:pts≠[]):∃lo hi,mF pts lo hi:=by have hk:∀k,pts.map (co k)≠[]:=λk e=>h (List.map_eq_nil_iff.mp e);obtain⟨a,ha⟩:=IV (hk 0);obtain⟨b,hb⟩:=IV (hk 1);obtain⟨c,hc⟩:=IV (hk 2);obtain⟨d,hd⟩:=Er (hk 0);obtain⟨e,he⟩:=Er (hk 1);obtain⟨f,hf⟩:=Er (hk 2);exact⟨(a,b,c),(d,e,f),⟨ha,hb,hc,hd,he,hf⟩⟩
def Rw{S:So}{n:Nat}{pts:List Pt}{lo hi:Pt}(hS:WF S)(hn:S[n]?=some (.lst (pts.map pD)))(hl:pts.length<=1000)(B:mF pts lo hi):yJ [.ref n] S=some (.tup [pD lo,pD hi],S) :=
 zge hS hn hl B.h0 B.h1 B.h2 B.g0 B.g1 B.g2
theorem U9{S:So}{nm:Str}{pts:List Pt}{lo hi:Pt}(hS:WF S)(hl:pts.length<=1000)(hp:pts≠[])(B:mF pts lo hi)(h:yL [.tup (.str nm::pts.map pD)] S=some (.bl true,S)):vG [.tup (.str nm::pts.map pD)] S=some (.tup [pD lo,pD hi],S):=by
 have h1:=zdN h;apply bQ
 .wtm_at "?b"
  unfold T7;apply aM
  .apply yC;apply bG
   .wtm_at "?a"
   .exact eE rfl h1
  .apply aU;apply aM
   .apply fX;apply bG
    .apply aO
     .apply bG
      .apply aO
       .apply yg
        .wtm_at "?a"
        .wtm_at "?a"
        .wtm_at "?a"
        .refine Ew (ys:=pts.map pD) ?_ Aa
         rintro⟨e1,e2⟩
         have:HT.sIx (D.str nm::pts.map pD).length 0 (some 1)=1:=by unfold HT.sIx;simp
         omega
       .wtm_at "?a"
      .exact Ug
     .wtm_at "?a"
    .exact eE rfl (Rw (hS.snoc (lo_pts _ _)) cI hl B)
   .exact dW
 .wtm_at "?c"
 .rfl
noncomputable def cR(a b:Int):Int×Int:=((Rat.divInt a b).num,((Rat.divInt a b).den:Int))
def yr{a b c d:Int}(hb:b≠0)(hd:d≠0)(h:a*d=c*b):cR a b=cR c d:=by unfold cR;rw[(Rat.divInt_eq_divInt_iff hb hd).mpr h]
theorem vH{a b:Int}(hb:0<b):cR a b=(a / ((Nat.gcd a.natAbs b.natAbs:Nat):Int),b / ((Nat.gcd a.natAbs b.natAbs:Nat):Int)):=by
 unfold cR;rw[Rat.num_divInt,Rat.den_divInt,if_neg (by omega),Int.sign_eq_one_of_pos hb,Int.one_mul,Int.gcd_eq_natAbs_gcd_natAbs,Nat.gcd_comm];congr 1;have:(b.natAbs:Int)=b:=by omega
 rw[Int.natCast_ediv,this]
def R0{a b:Int}(hb:b≠0):0<Nat.gcd a.natAbs b.natAbs:=Nat.gcd_pos_of_pos_right _ (by omega)
def zkV(a b:Int):((Nat.gcd a.natAbs b.natAbs:Nat):Int) ∣ a:=by exact Int.ofNat_dvd_left.mpr (Nat.gcd_dvd_left _ _)
def zkU(a b:Int):((Nat.gcd a.natAbs b.natAbs:Nat):Int) ∣ b:=by exact Int.ofNat_dvd_left.mpr (Nat.gcd_dvd_right _ _)
def qm(a b:Int):0<(cR a b).2:=by unfold cR;have:=(Rat.divInt a b).den_pos;simp only;omega
theorem Af{a b:Int}(hb:b≠0):(cR a b).1*b=a*(cR a b).2:=by unfold cR;have h:=(Rat.divInt a b).num_divInt_den;have:=(Rat.divInt_eq_divInt_iff (by have:=(Rat.divInt a b).den_pos;omega) hb).mp h;exact this
def Gi(a b:Int):cR (cR a b).1 (cR a b).2=cR a b:=by unfold cR;simp only[Rat.num_divInt_den]
def yI{a b:Int}(ha:0<=a)(hb:0<b):0<=(cR a b).1:=by rw[vH hb];exact Int.ediv_nonneg ha (by omega)
def Bd.of_le{k:Nat}{x y:Int}(h:Bd k y)(hx:x.natAbs<=y.natAbs):Bd k x:=zm hx h
theorem Ff{k:Nat}{a b:Int}(ha:Bd k a)(hb:Bd k b)(h:0<b):Bd k (cR a b).1/\Bd k (cR a b).2:=by rw[vH h];exact⟨Bd.of_le ha (Int.natAbs_ediv_le_natAbs _ _),Bd.of_le hb (Int.natAbs_ediv_le_natAbs _ _)⟩
theorem Q9{k:Nat}{a b:Int}(hb:Bd k b)(h:b≠0):Bd k ((Nat.gcd a.natAbs b.natAbs:Nat):Int):=by refine Bd.of_le hb ?_;show Nat.gcd a.natAbs b.natAbs<=b.natAbs;exact Nat.le_of_dvd (by omega) (Nat.gcd_dvd_right _ _)
theorem QK:∀(N:Nat) (m n:Nat) (r:Option D) (S:So),n<=N->∃r',jX (bI (eB (aV .NotEq) (aj 1) (eC (.int 0)))) (aC (bB (eB (aN .Mod) (aj 0) (aj 1)) (aK 2)) (aC (bB (aj 1) (aK 0)) (aC (bB (aj 2) (aK 1)) aQ)))
 [some (.int (m:Nat)),some (.int (n:Nat)),r] S=some (.nx,[some (.int (Nat.gcd m n:Nat)),some (.int 0),r'],S)
 |N,m,0,r,S,_=>by
  refine⟨r,?_⟩;rw[Nat.gcd_zero_right];apply Fi;apply fP;apply aW
  .wtm_at "?a"
  .wtm_at "?a"
  .rfl
 |0,_,n+1,_,_,h=>by omega
 |N+1,m,n+1,r,S,h=>by
  obtain⟨r',e⟩:=QK N (n+1) (m % (n+1)) (some (.int ((m % (n+1):Nat):Int))) S (by have:=Nat.mod_lt m (show 0<n+1 by omega);omega);refine⟨r',?_⟩;have hg:Nat.gcd m (n+1)=Nat.gcd (n+1) (m % (n+1)):=by rw[Nat.gcd_comm m,Nat.gcd_rec,Nat.gcd_comm]
  rw[hg];have hm:((m:Nat):Int).fmod ((n+1:Nat):Int)=((m % (n+1):Nat):Int):=by rw[Int.fmod_eq_emod_of_nonneg _ (by omega)];rfl
  refine JW (σ1:=[]) (fl := .nx) (S1:=S) (S2:=S) ?_ ?_ (.inl rfl) e
  .apply fP;have:D.bl true = .bl (!decide (((n+1:Nat):Int)=0)):=by rw[lZ (by omega)];rfl
   rw[this];apply aW
   .wtm_at "?a"
   .wtm_at "?a"
   .wtm_at "?g"
  .rw[<-hm];have h0:((n+1:Nat):Int)≠0:=by omega
   wtm_at "?a"
theorem zeb(m n:Nat)(S:So):GD [.int (m:Nat),.int (n:Nat)] S=some (.int (Nat.gcd m n:Nat),S):=by
 obtain⟨r',e⟩:=QK n m n none S (bZ _);apply bQ
 .wtm_at "?b"
  unfold Wr;apply aM
  .exact e
  .apply aU;apply aM
   .apply fX;apply bG
    .wtm_at "?a"
    .exact QW
   .have:(if((Nat.gcd m n:Nat):Int)<0 then -((Nat.gcd m n:Nat):Int) else((Nat.gcd m n:Nat):Int))=((Nat.gcd m n:Nat):Int):=if_neg (by omega);rw[this];exact dW
 .wtm_at "?c"
 .rfl
noncomputable abbrev rD(p:Int×Int):D:=R2 p.1 p.2
theorem Bb{k:Nat}{a b:Int}(ha:0<=a)(hb:0<b)(hk:Bd k b)(h8:k<=8000)(S:So):t6 [R2 a b] S=some (rD (cR a b),S):=by
 have e:GD [.int a,.int b] S=some (.int ((Nat.gcd a.natAbs b.natAbs:Nat):Int),S):=by
  have:=zeb a.natAbs b.natAbs S;have h1:(a.natAbs:Int)=a:=by omega
  have h2:(b.natAbs:Int)=b:=by omega
  rw[h1,h2] at this;exact this
 have hg:=R0 (a:=a) (show b≠0 by omega);have hd:dF ((Nat.gcd a.natAbs b.natAbs:Nat):Int)=true:=yx (Q9 hk (by omega)) (by omega) h8;apply bQ
 .wtm_at "?b"
  unfold Wk;rw[vH hb];rw[<-Int.fdiv_eq_ediv_of_nonneg a (show(0:Int)<=((Nat.gcd a.natAbs b.natAbs:Nat):Int) by omega),<-Int.fdiv_eq_ediv_of_nonneg b (show(0:Int)<=((Nat.gcd a.natAbs b.natAbs:Nat):Int) by omega)];wtm_at "?a"
 .wtm_at "?c"
 .rfl
theorem QL{k:Nat}(hk:k<=8000):∀(N:Nat) (m n:Nat) (x y:D) (r:Option D) (S:So),n<=N->Bd k (m:Int)->Bd k (n:Int)->∃r',jX (bI (eB (aV .NotEq) (aj 3) (eC (.int 0)))) (aC (bB (eB (aN .Sub) (aj 2) (eB (aN .Mult) (eB (aN .FloorDiv) (aj 2) (aj 3)) (aj 3))) (aK 4)) (aC (bB (aj 3) (aK 2)) (aC (bB (aj 4) (aK 3)) aQ)))
 [some x,some y,some (.int (m:Nat)),some (.int (n:Nat)),r] S=some (.nx,[some x,some y,some (.int (Nat.gcd m n:Nat)),some (.int 0),r'],S)
 |N,m,0,x,y,r,S,_,_,_=>by
  refine⟨r,?_⟩;rw[Nat.gcd_zero_right];apply Fi;apply fP;apply aW
  .wtm_at "?a"
  .wtm_at "?a"
  .rfl
 |0,_,n+1,_,_,_,_,h,_,_=>by omega
 |N+1,m,n+1,x,y,r,S,h,bm,bn=>by
  have hlt:=Nat.mod_lt m (show 0<n+1 by omega);obtain⟨r',e⟩:=QL hk N (n+1) (m % (n+1)) x y (some (.int ((m % (n+1):Nat):Int))) S (by omega) bn (Bd.of_le bn (show m % (n+1)<=n+1 by omega));refine⟨r',?_⟩;have hg:Nat.gcd m (n+1)=Nat.gcd (n+1) (m % (n+1)):=by rw[Nat.gcd_comm m,Nat.gcd_rec,Nat.gcd_comm]
  rw[hg];have hm:((m:Nat):Int) - ((m:Nat):Int).fdiv ((n+1:Nat):Int)*((n+1:Nat):Int)=((m % (n+1):Nat):Int):=by rw[Int.fdiv_eq_ediv_of_nonneg _ (by omega)];have:=Int.mul_ediv_add_emod (m:Int) ((n+1:Nat):Int);rw[Int.mul_comm] at this;have e2:((m % (n+1):Nat):Int)=(m:Int) % ((n+1:Nat):Int):=rfl;rw[e2];omega
  have hdv:dF ((n+1:Nat):Int)=true:=yx bn (by omega) hk;have hmu:cQ (((m:Nat):Int).fdiv ((n+1:Nat):Int)) ((n+1:Nat):Int)=true:=qg (Bd.fdiv bm (by omega)) bn (by omega);refine JW (σ1:=[]) (fl := .nx) (S1:=S) (S2:=S) ?_ ?_ (.inl rfl) e
  .apply fP;have:D.bl true = .bl (!decide (((n+1:Nat):Int)=0)):=by rw[lZ (by omega)];rfl
   rw[this];apply aW
   .wtm_at "?a"
   .wtm_at "?a"
   .wtm_at "?g"
  .rw[<-hm];wtm_at "?a"
theorem Ui{x g:Int}(h:g ∣ x)(hg:0<g):x.fdiv (0 - g) = -x / g:=by
 obtain⟨c,rfl⟩:=h;have h1 : -(g*c) / g = -c:=by rw[<-Int.mul_neg,Int.mul_ediv_cancel_left _ (by omega)]
 have h2:(g*c).fdiv (0 - g) = -c:=by
  have:g*c=(0 - g)*(-c):=by grind
  rw[this,Int.mul_fdiv_cancel_left _ (by omega)]
 rw[h1,h2]
theorem zl0{a b:Int}(hb:b<0):cR a b=(-a / ((Nat.gcd a.natAbs b.natAbs:Nat):Int),-b / ((Nat.gcd a.natAbs b.natAbs:Nat):Int)):=by have:=yr (a:=a) (b:=b) (c := -a) (d := -b) (by omega) (by omega) (by grind);rw[this,vH (by omega),Int.natAbs_neg,Int.natAbs_neg]
theorem zgT{k:Nat}{a b:Int}(hb:b≠0)(ba:Bd k a)(bb:Bd k b)(h8:k<=8000)(S:So):Gv [.int a,.int b] S=some (rD (cR a b),S):=by
 have ea:(if a<0 then -a else a)=((a.natAbs:Nat):Int):=by split<;>omega
 have eb:(if b<0 then -b else b)=((b.natAbs:Nat):Int):=by split<;>omega
 obtain⟨r',e⟩:=QL (k:=k) h8 b.natAbs a.natAbs b.natAbs (.int a) (.int b) none S (bZ _) (by unfold Bd at *;simpa using ba) (by unfold Bd at *;simpa using bb);have hg:=R0 (a:=a) hb;have hgb:=Q9 (a:=a) bb hb;have hd:dF ((Nat.gcd a.natAbs b.natAbs:Nat):Int)=true:=yx hgb (by omega) h8;have hd':dF (0 - ((Nat.gcd a.natAbs b.natAbs:Nat):Int))=true:=yx (k:=k) (by rw[Int.zero_sub];exact hgb.neg) (by omega) h8;by_cases hn:b<0
 .apply bQ
  .wtm_at "?b"
   unfold Le;apply aM
   .wtm_at "?a"
   .apply aU;apply aM
    .wtm_at "?a"
    .apply aU;rw[ea,eb];apply aM
     .exact e
     .apply aU;rw[zl0 hn,<-Ui (zkV a b) (by omega),<-Ui (zkU a b) (by omega)];wtm_at "?a"
  .wtm_at "?c"
  .rfl
 .apply bQ
  .wtm_at "?b"
   unfold Le;apply aM
   .wtm_at "?a"
   .apply aU;apply aM
    .wtm_at "?a"
    .apply aU;rw[ea,eb];apply aM
     .exact e
     .apply aU;rw[vH (by omega),<-Int.fdiv_eq_ediv_of_nonneg a (show(0:Int)<=((Nat.gcd a.natAbs b.natAbs:Nat):Int) by omega),<-Int.fdiv_eq_ediv_of_nonneg b (show(0:Int)<=((Nat.gcd a.natAbs b.natAbs:Nat):Int) by omega)];wtm_at "?a"
  .wtm_at "?c"
  .rfl
end MX.P
end
section
local macro_rules | `(tactic| wtm_at "?d") => `(tactic| first | (with_reducible assumption) | ((with_reducible apply MX.P.sp_is_less); (focus with_reducible assumption); (focus with_reducible assumption); (focus with_reducible assumption); (focus with_reducible assumption); (·omega)))
namespace MX.P
open PySem L2 MX
noncomputable def jc(s w lo hi:Int):Int×Int:=if 0<w then(lo - s,w) else(s - hi,-w)
noncomputable def jG(s w lo hi:Int):Int×Int:=if 0<w then(hi - s,w) else(s - lo,-w)
theorem zeC(s w lo hi:Int)(S:So):M7 [.int s,.int w,.int lo,.int hi] S=some (.tup [rD (jc s w lo hi),rD (jG s w lo hi)],S):=by
 by_cases h:0<w
 .have e1:jc s w lo hi=(lo - s,w):=if_pos h;have e2:jG s w lo hi=(hi - s,w):=if_pos h;rw[e1,e2];apply bQ
  .wtm_at "?b"
   unfold Nv;wtm_at "?a"
  .wtm_at "?c"
  .rfl
 .have e1:jc s w lo hi=(s - hi,-w):=if_neg h;have e2:jG s w lo hi=(s - lo,-w):=if_neg h;rw[e1,e2];apply bQ
  .wtm_at "?b"
   unfold Nv;wtm_at "?a"
  .wtm_at "?c"
  .rfl
def dj(a b:Int×Int):Prop:=a.1*b.2<b.1*a.2
instance (a b:Int×Int):Decidable (dj a b):=by unfold dj;infer_instance
noncomputable def lD:Option (Int×Int)->D
 |none => .non
 |some p=>rD p
noncomputable def qz(w:Int)(a e:Int×Int):Int×Int:=if dj a e then e else a
noncomputable def sS(a:Option (Int×Int))(l:Int×Int):Int×Int:=match a with
 |none=>l
 |some m=>if dj l m then l else m
theorem zi0{σ0 σ1:D}{f:Int×Int}{l:D}{s lo hi:Int}{t:Option D}{S:So}(h1:lo<=s)(h2:s<=hi):
 ql [some σ0,some σ1,some (rD f),some l,some (.int s),some (.int 0),some (.int lo),some (.int hi),t] S=some (.ct,[some σ0,some σ1,some (rD f),some l,some (.int s),some (.int 0),some (.int lo),some (.int hi),t],S):=by
 unfold ql Aj;wtm_at "?a"
theorem ziY{σ0 σ1:D}{f:Int×Int}{l:D}{s lo hi:Int}{t:Option D}{S:So}(h:s<lo\/hi<s):
 ql [some σ0,some σ1,some (rD f),some l,some (.int s),some (.int 0),some (.int lo),some (.int hi),t] S=some (.rt .non,[some σ0,some σ1,some (rD f),some l,some (.int s),some (.int 0),some (.int lo),some (.int hi),t],S):=by
 unfold ql Aj;by_cases h1:s<lo
 .wtm_at "?a"
 .have h2:hi<s:=by omega
  wtm_at "?a"
theorem QM{k:Nat}{s w lo hi:Int}(hs:Bd k s)(hw:Bd k w)(hl:Bd k lo)(hh:Bd k hi):Bd (k+1) (jc s w lo hi).1/\Bd (k+1) (jc s w lo hi).2/\Bd (k+1) (jG s w lo hi).1/\Bd (k+1) (jG s w lo hi).2:=by
 unfold jc jG;have a1:=(hl.sub hs).le (show max k k+1<=k+1 by omega);have a2:=(hh.sub hs).le (show max k k+1<=k+1 by omega);have a3:=(hs.sub hh).le (show max k k+1<=k+1 by omega);have a4:=(hs.sub hl).le (show max k k+1<=k+1 by omega);have a5:=hw.le (show k<=k+1 by omega);split
 .exact⟨a1,a5,a2,a5⟩
 .exact⟨a3,a5.neg,a4,a5.neg⟩
def Gn(w:Int)(a e:Int×Int):qz w a e=a\/qz w a e=e:=by unfold qz;split<;>simp
theorem Kl(a:Option (Int×Int))(l:Int×Int):sS a l=l\/∃m,a=some m/\sS a l=m:=by
 unfold sS;split
 .exact .inl rfl
 .split
  .exact .inl rfl
  .exact .inr ⟨_,rfl,rfl⟩
theorem ziZ{k:Nat}{σ0 σ1:D}{f:Int×Int}{l:Option (Int×Int)}{s w lo hi:Int}{t:Option D}{S:So}(hw:w≠0)(bs:Bd k s)(bw:Bd k w)(bl:Bd k lo)(bh:Bd k hi)(hk:k<=10000)(f1:Bd (k+1) f.1)(f2:Bd (k+1) f.2)(l1:∀m,l=some m->Bd (k+1) m.1/\Bd (k+1) m.2):
 ∃t',ql [some σ0,some σ1,some (rD f),some (lD l),some (.int s),some (.int w),some (.int lo),some (.int hi),t] S
  = some (.nx,[some σ0,some σ1,some (rD (qz w f (jc s w lo hi))),some (rD (sS l (jG s w lo hi))),some (.int s),some (.int w),some (.int lo),some (.int hi),t'],S):=by
 obtain⟨b1,b2,b3,b4⟩:=QM bs bw bl bh;have tb:=zeC s w lo hi S;generalize jc s w lo hi=e at *
 generalize jG s w lo hi=g at *
 obtain⟨e1,e2⟩:=e;obtain⟨g1,g2⟩:=g;obtain⟨p1,p2⟩:=f;simp only at b1 b2 b3 b4 f1 f2;refine⟨some (.tup [R2 e1 e2,R2 g1 g2]),?_⟩;have s1:∀q:D,Aj [some σ0,some σ1,some (rD (p1,p2)),some q,some (.int s),some (.int w),some (.int lo),some (.int hi),t] S=some (.nx,[some σ0,some σ1,some (rD (p1,p2)),some q,some (.int s),some (.int w),some (.int lo),some (.int hi),t],S):=λq=>by unfold Aj;wtm_at "?a"
 have s2:∀q:D,LR [some σ0,some σ1,some (rD (p1,p2)),some q,some (.int s),some (.int w),some (.int lo),some (.int hi),t] S=some (.nx,[some σ0,some σ1,some (rD (p1,p2)),some q,some (.int s),some (.int w),some (.int lo),some (.int hi),some (.tup [R2 e1 e2,R2 g1 g2])],S):=λq=>by unfold LR;wtm_at "?a"
 have s3:∀q:D,Ma [some σ0,some σ1,some (rD (p1,p2)),some q,some (.int s),some (.int w),some (.int lo),some (.int hi),some (.tup [R2 e1 e2,R2 g1 g2])] S=some (.nx,[some σ0,some σ1,some (rD (qz w (p1,p2) (e1,e2))),some q,some (.int s),some (.int w),some (.int lo),some (.int hi),some (.tup [R2 e1 e2,R2 g1 g2])],S):=λq=>by
  unfold Ma qz;by_cases hc:p1*e2<e1*p2
  .rw[if_pos (show dj (p1,p2) (e1,e2) from hc)];wtm_at "?a"
  .rw[if_neg (show ¬dj (p1,p2) (e1,e2) from hc)];wtm_at "?a"
 have s4:∀q:Int×Int,Mf [some σ0,some σ1,some (rD q),some (lD l),some (.int s),some (.int w),some (.int lo),some (.int hi),some (.tup [R2 e1 e2,R2 g1 g2])] S=some (.nx,[some σ0,some σ1,some (rD q),some (rD (sS l (g1,g2))),some (.int s),some (.int w),some (.int lo),some (.int hi),some (.tup [R2 e1 e2,R2 g1 g2])],S):=λq=>by
  unfold Mf sS;cases l with
  |none =>
   show cX _ _ _ [some σ0,some σ1,some (rD q),some D.non,some (.int s),some (.int w),some (.int lo),some (.int hi),some (.tup [R2 e1 e2,R2 g1 g2])] S=_;wtm_at "?a"
  |some m =>
   obtain⟨m1,m2⟩:=m;obtain⟨c1,c2⟩:=l1 _ rfl;simp only at c1 c2;show cX _ _ _ [some σ0,some σ1,some (rD q),some (R2 m1 m2),some (.int s),some (.int w),some (.int lo),some (.int hi),some (.tup [R2 e1 e2,R2 g1 g2])] S=_;by_cases hc:g1*m2<m1*g2
   .simp only;rw[if_pos (show dj (g1,g2) (m1,m2) from hc)];wtm_at "?a"
   .simp only;rw[if_neg (show ¬dj (g1,g2) (m1,m2) from hc)];wtm_at "?a"
 unfold ql;exact aM (s1 _) (aU (aM (s2 _) (aU (aM (s3 _) (aU (aM (s4 _) (aU eX)))))))
noncomputable abbrev Ax:=(Int×Int)×Option (Int×Int)
noncomputable def d8(a:Ax)(s w lo hi:Int):Option Ax:=if w=0 then(if s<lo\/hi<s then none else some a) else some (qz w a.1 (jc s w lo hi),some (sS a.2 (jG s w lo hi)))
def zc(k:Nat)(a:Ax):Prop:=Bd k a.1.1/\Bd k a.1.2/\∀m,a.2=some m->Bd k m.1/\Bd k m.2
theorem yj{k:Nat}{a a':Ax}{s w lo hi:Int}(hs:Bd k s)(hw:Bd k w)(hl:Bd k lo)(hh:Bd k hi)(h:zc (k+1) a)(e:d8 a s w lo hi=some a'):zc (k+1) a':=by
 obtain⟨b1,b2,b3,b4⟩:=QM hs hw hl hh;unfold d8 at e;split at e
 .split at e
  .cases e
  .cases e;exact h
 .cases e;refine⟨?_,?_,λm hm=>?_⟩
  .rcases Gn w a.1 (jc s w lo hi) with q|q<;>simp only[q]
   .exact h.1
   .exact b1
  .rcases Gn w a.1 (jc s w lo hi) with q|q<;>simp only[q]
   .exact h.2.1
   .exact b2
  .cases hm;rcases Kl a.2 (jG s w lo hi) with q|⟨m,q1,q⟩<;>simp only[q]
   .exact⟨b3,b4⟩
   .exact h.2.2 m q1
def sV(ray box:D)(a:Ax)(σ:Sg):Prop:=∃j4 j5 j6 j7 j8:Option D,σ=[some ray,some box,some (rD a.1),some (lD a.2),j4,j5,j6,j7,j8]
noncomputable abbrev CZ:GF:=jy 4 (dY (aK 4) (dY (aK 5) (dY (aK 6) (dY (aK 7) jO))))
theorem KR{k:Nat}{ray box:D}{a:Ax}{σ:Sg}{s w lo hi:Int}{S:So}(hs:Bd k s)(hw:Bd k w)(hl:Bd k lo)(hh:Bd k hi)(hk:k<=10000)(hb:zc (k+1) a)(h:sV ray box a σ):
 ∃σ1,CZ (.tup [.int s,.int w,.int lo,.int hi]) σ S=some (σ1,S) /\
  match d8 a s w lo hi with
  |none=>∃σ2,ql σ1 S=some (.rt .non,σ2,S)
  |some a'=>∃fl σ2,ql σ1 S=some (fl,σ2,S)/\(fl = .nx\/fl = .ct)/\sV ray box a' σ2:=by
 obtain⟨j4,j5,j6,j7,j8,rfl⟩:=h;refine⟨[some ray,some box,some (rD a.1),some (lD a.2),some (.int s),some (.int w),some (.int lo),some (.int hi),j8],rfl,?_⟩;unfold d8;by_cases h0:w=0
 .subst h0;rw[if_pos rfl];by_cases hc:s<lo\/hi<s
  .rw[if_pos hc];exact⟨_,ziY hc⟩
  .rw[if_neg hc];exact⟨_,_,zi0 (by omega) (by omega),.inr rfl,_,_,_,_,_,rfl⟩
 .rw[if_neg h0];obtain⟨t',e⟩:=ziZ (σ0:=ray) (σ1:=box) (t:=j8) (S:=S) h0 hs hw hl hh hk hb.1 hb.2.1 hb.2.2;exact⟨_,_,e,.inl rfl,_,_,_,_,_,rfl⟩
noncomputable def iu(o d lo hi:Pt):Option ((Int×Int)×(Int×Int)) :=
 (d8 ((0,1),none) o.1 d.1 lo.1 hi.1).bind λa=>(d8 a o.2.1 d.2.1 lo.2.1 hi.2.1).bind λb=>(d8 b o.2.2 d.2.2 lo.2.2 hi.2.2).bind λc=>match c.2 with
  |none=>none
  |some l=>if dj l c.1 then none else some (c.1,l)
noncomputable def DY:Option ((Int×Int)×(Int×Int))->D
 |none => .non
 |some p => .tup [rD p.1,rD p.2]
def aP(k:Nat)(p:Pt):Prop:=Bd k p.1/\Bd k p.2.1/\Bd k p.2.2
def aP.le{k l:Nat}{p:Pt}(h:aP k p)(hl:k<=l):aP l p:=⟨h.1.le hl,h.2.1.le hl,h.2.2.le hl⟩
theorem nW{a b:Ax}{s w lo hi:Int}(e:d8 a s w lo hi=some b)(h:a.2≠none\/w≠0):b.2≠none:=by
 unfold d8 at e;split at e
 .split at e
  .cases e
  .cases e;rcases h with h|h
   .exact h
   .rename_i q _;exact absurd q h
 .cases e;simp
theorem VL{k:Nat}{o d lo hi:Pt}(ho:aP k o)(hd:aP k d)(hl:aP k lo)(hh:aP k hi)(h0:d≠(0,0,0))(hk:k<=10000)(S:So):
 vN [.tup [pD o,pD d],.tup [pD lo,pD hi]] S=some (DY (iu o d lo hi),S):=by
 have s1:K6 [some (.tup [pD o,pD d]),some (.tup [pD lo,pD hi]),none,none,none,none,none,none,none] S=some (.nx,[some (.tup [pD o,pD d]),some (.tup [pD lo,pD hi]),some (R2 0 1),none,none,none,none,none,none],S):=by unfold K6;wtm_at "?a"
 have s2:K7 [some (.tup [pD o,pD d]),some (.tup [pD lo,pD hi]),some (R2 0 1),none,none,none,none,none,none] S=some (.nx,[some (.tup [pD o,pD d]),some (.tup [pD lo,pD hi]),some (R2 0 1),some .non,none,none,none,none,none],S):=by unfold K7;wtm_at "?a"
 have b0:zc (k+1) ((0,1),none):=by
  refine⟨?_,?_,λm hm=>by cases hm⟩
  .unfold Bd;simp;exact Nat.pos_of_ne_zero (by simp)
  .unfold Bd;simp;
 have st0:sV (.tup [pD o,pD d]) (.tup [pD lo,pD hi]) ((0,1),none) [some (.tup [pD o,pD d]),some (.tup [pD lo,pD hi]),some (R2 0 1),some .non,none,none,none,none,none]:=⟨_,_,_,_,_,rfl⟩
 have it:qI (ak (eB aH (aj 0) (eC (.int 0))) (ak (eB aH (aj 0) (eC (.int 1))) (ak (eB aH (aj 1) (eC (.int 0))) (ak (eB aH (aj 1) (eC (.int 1))) aB)))) [some (.tup [pD o,pD d]),some (.tup [pD lo,pD hi]),some (R2 0 1),some .non,none,none,none,none,none] S=some (.zip [pD o,pD d,pD lo,pD hi],S):=by wtm_at "?j"
 have n0:dG (.zip [pD o,pD d,pD lo,pD hi]) 0 S=some (some (.tup [.int o.1,.int d.1,.int lo.1,.int hi.1])):=rfl;have n1:dG (.zip [pD o,pD d,pD lo,pD hi]) (0+1) S=some (some (.tup [.int o.2.1,.int d.2.1,.int lo.2.1,.int hi.2.1])):=rfl;have n2:dG (.zip [pD o,pD d,pD lo,pD hi]) (0+1+1) S=some (some (.tup [.int o.2.2,.int d.2.2,.int lo.2.2,.int hi.2.2])):=rfl;have n3:dG (.zip [pD o,pD d,pD lo,pD hi]) (0+1+1+1) S=some none:=rfl;obtain⟨σ1,g1,t1⟩:=KR (S:=S) ho.1 hd.1 hl.1 hh.1 hk b0 st0;have loop:match(d8 ((0,1),none) o.1 d.1 lo.1 hi.1).bind λa=>(d8 a o.2.1 d.2.1 lo.2.1 hi.2.1).bind λb=>d8 b o.2.2 d.2.2 lo.2.2 hi.2.2 with
  |none=>∃σ',K8 [some (.tup [pD o,pD d]),some (.tup [pD lo,pD hi]),some (R2 0 1),some .non,none,none,none,none,none] S=some (.rt .non,σ',S)
  |some c=>∃σ',K8 [some (.tup [pD o,pD d]),some (.tup [pD lo,pD hi]),some (R2 0 1),some .non,none,none,none,none,none] S=some (.nx,σ',S)/\sV (.tup [pD o,pD d]) (.tup [pD lo,pD hi]) c σ'/\zc (k+1) c/\c.2≠none:=by
  cases e1:d8 ((0,1),none) o.1 d.1 lo.1 hi.1 with
  |none =>
   rw[e1] at t1;obtain⟨σ2,t1⟩:=t1;exact⟨σ2,qY it rfl (mY n0 g1 t1 Fp)⟩
  |some a =>
   rw[e1] at t1;obtain⟨fl,σ2,t1,hfl,st1⟩:=t1;have b1:=yj ho.1 hd.1 hl.1 hh.1 b0 e1;obtain⟨σ3,g2,t2⟩:=KR (S:=S) ho.2.1 hd.2.1 hl.2.1 hh.2.1 hk b1 st1;simp only[b8];cases e2:d8 a o.2.1 d.2.1 lo.2.1 hi.2.1 with
   |none =>
    rw[e2] at t2;obtain⟨σ4,t2⟩:=t2;refine⟨σ4,qY it rfl (mY n0 g1 t1 ?_)⟩;rcases hfl with rfl|rfl<;>exact mY n1 g2 t2 Fp
   |some b =>
    rw[e2] at t2;obtain⟨fl2,σ4,t2,CN,st2⟩:=t2;have b2:=yj ho.2.1 hd.2.1 hl.2.1 hh.2.1 b1 e2;obtain⟨σ5,g3,t3⟩:=KR (S:=S) ho.2.2 hd.2.2 hl.2.2 hh.2.2 hk b2 st2;simp only[b8];cases e3:d8 b o.2.2 d.2.2 lo.2.2 hi.2.2 with
    |none =>
     rw[e3] at t3;obtain⟨σ6,t3⟩:=t3;refine⟨σ6,qY it rfl (mY n0 g1 t1 ?_)⟩;rcases hfl with rfl|rfl<;>refine mY n1 g2 t2 ?_<;>rcases CN with rfl|rfl<;>exact mY n2 g3 t3 Fp
    |some c =>
     rw[e3] at t3;obtain⟨PX,σ6,t3,Py,st3⟩:=t3;refine⟨σ6,qY it rfl (mY n0 g1 t1 ?_),st3,yj ho.2.2 hd.2.2 hl.2.2 hh.2.2 b2 e3,?_⟩
     .rcases hfl with rfl|rfl<;>refine mY n1 g2 t2 ?_<;>rcases CN with rfl|rfl<;>refine mY n2 g3 t3 ?_<;>rcases Py with rfl|rfl<;>exact JG (g:=CZ) (f:=ql) n3
     .by_cases q1:d.1=0
      .by_cases q2:d.2.1=0
       .have q3:d.2.2≠0:=λq3=>h0 (by show(d.1,d.2.1,d.2.2)=_;rw[q1,q2,q3]);exact nW e3 (.inr q3)
       .exact nW e3 (.inl (nW e2 (.inr q2)))
      .exact nW e3 (.inl (nW e2 (.inl (nW e1 (.inr q1)))))
 unfold iu;have eb:((d8 ((0,1),none) o.1 d.1 lo.1 hi.1).bind λa=>(d8 a o.2.1 d.2.1 lo.2.1 hi.2.1).bind λb=>(d8 b o.2.2 d.2.2 lo.2.2 hi.2.2).bind λc=>(match c.2 with
  |none=>none
  |some l=>if dj l c.1 then none else some (c.1,l):Option ((Int×Int)×(Int×Int))))=((d8 ((0,1),none) o.1 d.1 lo.1 hi.1).bind λa=>(d8 a o.2.1 d.2.1 lo.2.1 hi.2.1).bind λb=>d8 b o.2.2 d.2.2 lo.2.2 hi.2.2).bind λc=>(match c.2 with
  |none=>none
  |some l=>if dj l c.1 then none else some (c.1,l)):=by
  simp only[Option.bind_assoc]
 rw[eb];cases e:(d8 ((0,1),none) o.1 d.1 lo.1 hi.1).bind λa=>(d8 a o.2.1 d.2.1 lo.2.1 hi.2.1).bind λb=>d8 b o.2.2 d.2.2 lo.2.2 hi.2.2 with
 |none =>
  rw[e] at loop;obtain⟨σ',loop⟩:=loop;apply bQ
  .wtm_at "?b"
   unfold Gm;exact aM s1 (aU (aM s2 (aU (aM loop dW))))
  .wtm_at "?c"
  .rfl
 |some c =>
  rw[e] at loop;obtain⟨σ',loop,⟨j4,j5,j6,j7,j8,rfl⟩,hb,hn⟩:=loop;obtain⟨⟨f1,f2⟩,l⟩:=c;cases l with
  |none=>exact absurd rfl hn
  |some l =>
   obtain⟨l1,l2⟩:=l;obtain⟨c1,c2,c3⟩:=hb;obtain⟨c3,c4⟩:=c3 _ rfl;simp only at c1 c2 c3 c4;simp only[b8];by_cases hc:l1*f2<f1*l2
   .rw[if_pos (show dj (l1,l2) (f1,f2) from hc)];apply bQ
    .wtm_at "?b"
     unfold Gm;refine aM s1 (aU (aM s2 (aU (aM loop (aU (aM (fl := .rt .non) (S1:=S) (σ1:=[some (.tup [pD o,pD d]),some (.tup [pD lo,pD hi]),some (R2 f1 f2),some (R2 l1 l2),j4,j5,j6,j7,j8]) ?_ dW))))));show Aw [some (.tup [pD o,pD d]),some (.tup [pD lo,pD hi]),some (R2 f1 f2),some (R2 l1 l2),j4,j5,j6,j7,j8] S=_;unfold Aw;wtm_at "?a"
    .wtm_at "?c"
    .rfl
   .rw[if_neg (show ¬dj (l1,l2) (f1,f2) from hc)];apply bQ
    .wtm_at "?b"
     unfold Gm;refine aM s1 (aU (aM s2 (aU (aM loop (aU (aM (fl := .nx) (S1:=S) (σ1:=[some (.tup [pD o,pD d]),some (.tup [pD lo,pD hi]),some (R2 f1 f2),some (R2 l1 l2),j4,j5,j6,j7,j8]) ?_ (aU (aM (fl := .rt (.tup [R2 f1 f2,R2 l1 l2])) (S1:=S) (σ1:=[some (.tup [pD o,pD d]),some (.tup [pD lo,pD hi]),some (R2 f1 f2),some (R2 l1 l2),j4,j5,j6,j7,j8]) ?_ dW))))))))
     .show Aw [some (.tup [pD o,pD d]),some (.tup [pD lo,pD hi]),some (R2 f1 f2),some (R2 l1 l2),j4,j5,j6,j7,j8] S=_;unfold Aw;wtm_at "?a"
     .unfold Vn;wtm_at "?a"
    .wtm_at "?c"
    .rfl
end MX.P
end
section
local macro_rules | `(tactic| wtm_at "?d") => `(tactic| (with_reducible assumption))
namespace MX.P
open PySem L2 MX
structure xG(k:Nat)(p:(Int×Int)×(Int×Int)):Prop where
 f0:0<=p.1.1
 f2:0<p.1.2
 l0:0<=p.2.1
 l2:0<p.2.2
 b1:Bd k p.1.1
 b2:Bd k p.1.2
 b3:Bd k p.2.1
 b4:Bd k p.2.2
def S6{s w lo hi:Int}(h:w≠0):0<(jc s w lo hi).2/\0<(jG s w lo hi).2:=by unfold jc jG;split<;>simp<;>omega
def Hs(a:Ax):Prop:=0<=a.1.1/\0<a.1.2/\∀m,a.2=some m->0<m.2
theorem Fy{a a':Ax}{s w lo hi:Int}(h:Hs a)(e:d8 a s w lo hi=some a'):Hs a':=by
 unfold d8 at e;split at e
 .split at e
  .cases e
  .cases e;exact h
 .rename_i hw;cases e;obtain⟨p1,p2⟩:=S6 (s:=s) (lo:=lo) (hi:=hi) hw;refine⟨?_,?_,λm hm=>?_⟩
  .simp only;unfold qz;split
   .rename_i hc;unfold dj at hc;have:=h.1;have h2:=h.2.1;have h3:0<=a.1.1*(jc s w lo hi).2:=Int.mul_nonneg this (by omega);have h4:0<(jc s w lo hi).1*a.1.2:=by omega
    exact Int.le_of_lt (Int.pos_of_mul_pos_left h4 h2)
   .exact h.1
  .rcases Gn w a.1 (jc s w lo hi) with q|q<;>simp only[q]
   .exact h.2.1
   .exact p1
  .cases hm;rcases Kl a.2 (jG s w lo hi) with q|⟨m,q1,q⟩<;>simp only[q]
   .exact p2
   .exact h.2.2 m q1
def leQ(a b:Int×Int):Prop:=a.1*b.2<=b.1*a.2
def mX{a b:Int×Int}(h:¬dj b a):leQ a b:=by unfold dj at h;unfold leQ;omega
def Tw{a b:Int×Int}(h:leQ a b):¬dj b a:=by unfold leQ at h;unfold dj;omega
def zmn(a:Int×Int):leQ a a:=Int.le_refl _
theorem yG{a b c:Int×Int}(ha:0<a.2)(hb:0<b.2)(hc:0<c.2)(h1:leQ a b)(h2:leQ b c):leQ a c:=by
 unfold leQ at *
 have e1:=Int.mul_le_mul_of_nonneg_right h1 (Int.le_of_lt hc);have e2:=Int.mul_le_mul_of_nonneg_right h2 (Int.le_of_lt ha);refine Int.le_of_mul_le_mul_right (a:=b.2) ?_ hb;have i1:a.1*c.2*b.2=a.1*b.2*c.2:=by grind
 have i2:c.1*a.2*b.2=c.1*b.2*a.2:=by grind
 have i3:b.1*a.2*c.2=b.1*c.2*a.2:=by grind
 omega
def zi8{a b:Int×Int}(ha:0<a.2)(hb:0<b.2)(h1:leQ a b)(h2:leQ b a):cR a.1 a.2=cR b.1 b.2:=by
 unfold leQ at *
 exact yr (by omega) (by omega) (by omega)
def zoP{a:Int×Int}(ha:0<a.2):leQ a (cR a.1 a.2)/\leQ (cR a.1 a.2) a:=by have:=Af (a:=a.1) (b:=a.2) (by omega);unfold leQ;omega
theorem T4{k:Nat}{o d lo hi:Pt}{p:(Int×Int)×(Int×Int)}(ho:aP k o)(hd:aP k d)(hl:aP k lo)(hh:aP k hi)(e:iu o d lo hi=some p):xG (k+1) p:=by
 unfold iu at e;simp only[bC] at e;obtain⟨a,e1,b,e2,c,e3,e4⟩:=e;have b0:zc (k+1) ((0,1),none):=by
  refine⟨?_,?_,λm hm=>by cases hm⟩
  .unfold Bd;simp;exact Nat.pos_of_ne_zero (by simp)
  .unfold Bd;simp
 have p0:Hs ((0,1),none):=⟨by simp,by simp,λm hm=>by cases hm⟩
 have b3:=yj ho.2.2 hd.2.2 hl.2.2 hh.2.2 (yj ho.2.1 hd.2.1 hl.2.1 hh.2.1 (yj ho.1 hd.1 hl.1 hh.1 b0 e1) e2) e3;have p3:=Fy (Fy (Fy p0 e1) e2) e3;split at e4
 .cases e4
 .rename_i l hl';split at e4
  .cases e4
  .rename_i hc;cases e4;obtain⟨q1,q2⟩:=b3.2.2 _ hl';have q3:=p3.2.2 _ hl';have hle:=mX hc;refine⟨p3.1,p3.2.1,?_,q3,b3.1,b3.2.1,q1,q2⟩;unfold leQ at hle;have h1:0<=c.1.1*l.2:=Int.mul_nonneg p3.1 (by omega);have h2:0<=l.1*c.1.2:=by omega
   refine Int.le_of_mul_le_mul_right (a:=c.1.2) ?_ p3.2.1;simpa using h2
noncomputable def Pa:Option ((Int×Int)×(Int×Int))->D
 |none => .non
 |some p=>rD (cR p.1.1 p.1.2)
theorem zgS{k:Nat}{o d lo hi:Pt}(ho:aP k o)(hd:aP k d)(hl:aP k lo)(hh:aP k hi)(h0:d≠(0,0,0))(hk:k<=7000)(S:So):
 K9 [.tup [pD o,pD d],.tup [pD lo,pD hi]] S=some (Pa (iu o d lo hi),S):=by
 have hs:=VL ho hd hl hh h0 (by omega) S;cases e:iu o d lo hi with
 |none =>
  rw[e] at hs;have hs:vN [.tup [pD o,pD d],.tup [pD lo,pD hi]] S=some (.non,S):=hs;apply bQ
  .wtm_at "?b"
   unfold Lw;wtm_at "?a"
  .wtm_at "?c"
  .rfl
 |some p =>
  rw[e] at hs;have ok:=T4 ho hd hl hh e;obtain⟨⟨f1,f2⟩,⟨l1,l2⟩⟩:=p;have hs:vN [.tup [pD o,pD d],.tup [pD lo,pD hi]] S=some (.tup [R2 f1 f2,R2 l1 l2],S):=hs;have t1:=Bb ok.f0 ok.f2 ok.b2 (show k+1<=8000 by omega) S;simp only at t1;apply bQ
  .wtm_at "?b"
   unfold Lw;wtm_at "?a"
  .wtm_at "?c"
  .rfl
theorem Yq{d:Pt}(h:d≠(0,0,0)):¬(pD d=P3 0 0 0):=λe=>by simp only[D.tup.injEq,List.cons.injEq,D.int.injEq,and_true] at e;exact h (by show(d.1,d.2.1,d.2.2)=_;rw[e.1,e.2.1,e.2.2])
theorem zdM{o d:Pt}(h0:d≠(0,0,0))(S:So):MN [.tup [pD o,pD d]] S=some (.non,S):=by
 have hne:=Yq h0;apply Vv
 .wtm_at "?b"
  unfold Wu;wtm_at "?a"
 .wtm_at "?c"
theorem zfF{k:Nat}{o d lo hi:Pt}(ho:aP k o)(hd:aP k d)(hl:aP k lo)(hh:aP k hi)(h0:d≠(0,0,0))(hk:k<=7000)(S:So):
 Ag [.tup [pD o,pD d],.tup [.str "box",pD lo,pD hi]] S=some (Pa (iu o d lo hi),S):=by
 have hm:=zgS ho hd hl hh h0 hk S;apply bQ
 .wtm_at "?b"
  unfold Kh;wtm_at "?a"
 .wtm_at "?c"
 .cases iu o d lo hi<;>rfl
end MX.P
end
section
namespace MX.P
open PySem L2 MX
noncomputable def wb(a b:Pt):Pt:=(b.1 - a.1,b.2.1 - a.2.1,b.2.2 - a.2.2)
noncomputable def au(a b:Pt):Int:=a.1*b.1+a.2.1*b.2.1+a.2.2*b.2.2
noncomputable def aq(a b:Pt):Pt:=(a.2.1*b.2.2 - a.2.2*b.2.1,a.2.2*b.1 - a.1*b.2.2,a.1*b.2.1 - a.2.1*b.1)
theorem aP.wb{k l:Nat}{a b:Pt}(ha:aP k a)(hb:aP l b):aP (max k l+1) (wb a b) :=
 ⟨(hb.1.sub ha.1).le (by omega),(hb.2.1.sub ha.2.1).le (by omega),(hb.2.2.sub ha.2.2).le (by omega)⟩
theorem aP.cross{k l:Nat}{a b:Pt}(ha:aP k a)(hb:aP l b):aP (k+l+1) (aq a b) :=
 ⟨((ha.2.1.mul hb.2.2).sub (ha.2.2.mul hb.2.1)).le (by omega),((ha.2.2.mul hb.1).sub (ha.1.mul hb.2.2)).le (by omega),((ha.1.mul hb.2.1).sub (ha.2.1.mul hb.1)).le (by omega)⟩
theorem aP.dot{k l:Nat}{a b:Pt}(ha:aP k a)(hb:aP l b):Bd (k+l+2) (au a b) :=
 (((ha.1.mul hb.1).add (ha.2.1.mul hb.2.1)).add (ha.2.2.mul hb.2.2)).le (by omega)
def sp_wb(a b:Pt)(S:So):fD [pD a,pD b] S=some (pD (wb a b),S):=zfD _ _ _ _ _ _ _
def sp_vdot{k l:Nat}{a b:Pt}(ha:aP k a)(hb:aP l b)(h:k+l<=134217728)(S:So):gj [pD a,pD b] S=some (.int (au a b),S):=zpV ha.1 ha.2.1 ha.2.2 hb.1 hb.2.1 hb.2.2 h S
def sp_vcross{k l:Nat}{a b:Pt}(ha:aP k a)(hb:aP l b)(h:k+l<=134217728)(S:So):jF [pD a,pD b] S=some (pD (aq a b),S):=zlL ha.1 ha.2.1 ha.2.2 hb.1 hb.2.1 hb.2.2 h S
theorem Yp{a b:Pt}:pD a=pD b↔a=b:=by
 constructor
 .intro h;simp only[D.tup.injEq,List.cons.injEq,D.int.injEq,and_true] at h;exact Prod.ext h.1 (Prod.ext h.2.1 h.2.2)
 .intro h;rw[h]
def yq{a:Pt}:pD a=P3 0 0 0↔a=(0,0,0):=Yp (b:=(0,0,0))
noncomputable def iB(a b:Int):Int:=if b>a then b else a
noncomputable def kO(a b:Int):Int:=if b<a then b else a
noncomputable abbrev Tq:=Option (Int×Int)
noncomputable def N8:Tq->D
 |none => .non
 |some p=>rD (cR p.1 p.2)
noncomputable def vd(o d a b:Pt):Tq :=
 if aq (wb o a) d=(0,0,0) then
  if iB (au (wb o a) d) (au (wb o b) d)<0 then none else some (iB (kO (au (wb o a) d) (au (wb o b) d)) 0,au d d)
 else none
noncomputable def mO(o d a b:Pt):Tq :=
 if aq d (wb a b)=(0,0,0) then vd o d a b
 else if au (wb o a) (aq d (wb a b))=0 then
  if au (aq (wb o a) (wb a b)) (aq d (wb a b))<0\/au (aq (wb o a) d) (aq d (wb a b))<0\/au (aq d (wb a b)) (aq d (wb a b))<au (aq (wb o a) d) (aq d (wb a b)) then none
  else some (au (aq (wb o a) (wb a b)) (aq d (wb a b)),au (aq d (wb a b)) (aq d (wb a b)))
 else none
theorem Gk(x:Int):0<=x*x:=by
 by_cases h:0<=x
 .exact Int.mul_nonneg h h
 .have:=Int.mul_nonneg (show 0 <= -x by omega) (show 0 <= -x by omega)
  rwa [Int.neg_mul_neg] at this
def Jd{x:Int}(h:x≠0):0<x*x:=by
 have h1:=Gk x;have:x*x≠0:=λe=>by rcases Int.mul_eq_zero.mp e with e|e<;>exact h e
 omega
theorem qp{a:Pt}(h:a≠(0,0,0)):0<au a a:=by
 unfold au;have h1:=Gk a.1;have h2:=Gk a.2.1;have h3:=Gk a.2.2;by_cases q1:a.1=0
 .by_cases q2:a.2.1=0
  .have q3:a.2.2≠0:=λq3=>h (by show(a.1,a.2.1,a.2.2)=_;rw[q1,q2,q3]);have:=Jd q3;omega
  .have:=Jd q2;omega
 .have:=Jd q1;omega
end MX.P
local macro_rules | `(tactic| wtm_at "?d") => `(tactic| first | (with_reducible exact MX.P.sp_wb _ _ _) | ((with_reducible apply MX.P.sp_vdot); (focus with_reducible assumption); (focus with_reducible assumption); (·omega)) | ((with_reducible apply MX.P.sp_vcross); (focus with_reducible assumption); (focus with_reducible assumption); (·omega)) | (with_reducible assumption))
namespace MX.P
open PySem L2 MX
theorem zfG{k:Nat}{o d a b:Pt}(ho:aP k o)(hd:aP k d)(ha:aP k a)(hb:aP k b)(h0:d≠(0,0,0))(hk:k<=1500)(S:So):
 Mz [.tup [pD o,pD d],pD a,pD b] S=some (N8 (vd o d a b),S):=by
 have w1:=(ho.wb ha).le (show max k k+1<=k+1 by omega);have w2:=(ho.wb hb).le (show max k k+1<=k+1 by omega);have hdd:=hd.dot hd;have hpos:=qp h0;unfold vd;by_cases hc:aq (wb o a) d=(0,0,0)
 .rw[if_pos hc];have hc':pD (aq (wb o a) d)=P3 0 0 0:=yq.mpr hc;by_cases hm:iB (au (wb o a) d) (au (wb o b) d)<0
  .rw[if_pos hm];unfold iB at hm;apply bQ
   .wtm_at "?b"
    unfold GJ;wtm_at "?a"
   .wtm_at "?c"
   .rfl
  .rw[if_neg hm];have hnn:0<=iB (kO (au (wb o a) d) (au (wb o b) d)) 0:=by unfold iB;split<;>omega
   have hl:=Bb hnn hpos hdd (show k+k+2<=8000 by omega) S;unfold iB kO at hl;unfold iB at hm;apply bQ
   .wtm_at "?b"
    unfold GJ;wtm_at "?a"
   .wtm_at "?c"
   .rfl
 .rw[if_neg hc];have hc':¬pD (aq (wb o a) d)=P3 0 0 0:=λe=>hc (yq.mp e);apply bQ
  .wtm_at "?b"
   unfold GJ;wtm_at "?a"
  .wtm_at "?c"
  .rfl
end MX.P
end
section
local macro_rules | `(tactic| wtm_at "?d") => `(tactic| first | (with_reducible exact MX.P.sp_wb _ _ _) | ((with_reducible apply MX.P.sp_vdot); (focus with_reducible assumption); (focus with_reducible assumption); (·omega)) | ((with_reducible apply MX.P.sp_vcross); (focus with_reducible assumption); (focus with_reducible assumption); (·omega)) | (with_reducible assumption))
namespace MX.P
open PySem L2 MX
theorem zeE{k:Nat}{o d a b:Pt}(ho:aP k o)(hd:aP k d)(ha:aP k a)(hb:aP k b)(h0:d≠(0,0,0))(hk:k<=1500)(S:So):
 Nx [.tup [pD o,pD d],pD a,pD b] S=some (N8 (mO o d a b),S):=by
 have w1:=(ho.wb ha).le (show max k k+1<=k+1 by omega);have w2:=(ha.wb hb).le (show max k k+1<=k+1 by omega);have w3:=hd.cross w2;have w4:=w1.cross w2;have w5:=w1.cross hd;have hdd:=w3.dot w3;have hal:=zfG ho hd ha hb h0 hk S;unfold mO;by_cases hc:aq d (wb a b)=(0,0,0)
 .rw[if_pos hc];have hc':pD (aq d (wb a b))=P3 0 0 0:=yq.mpr hc;apply bQ
  .wtm_at "?b"
   unfold vO;wtm_at "?a"
  .wtm_at "?c"
  .cases vd o d a b<;>rfl
 .rw[if_neg hc];have hpos:=qp hc;have hc':¬pD (aq d (wb a b))=P3 0 0 0:=λe=>hc (yq.mp e);by_cases hq:au (wb o a) (aq d (wb a b))=0
  .rw[if_pos hq];by_cases p1:au (aq (wb o a) (wb a b)) (aq d (wb a b))<0
   .rw[if_pos (.inl p1)];apply bQ
    .wtm_at "?b"
     unfold vO;wtm_at "?a"
    .wtm_at "?c"
    .rfl
   .by_cases p2:au (aq (wb o a) d) (aq d (wb a b))<0
    .rw[if_pos (.inr (.inl p2))];apply bQ
     .wtm_at "?b"
      unfold vO;wtm_at "?a"
     .wtm_at "?c"
     .rfl
    .by_cases p3:au (aq d (wb a b)) (aq d (wb a b))<au (aq (wb o a) d) (aq d (wb a b))
     .rw[if_pos (.inr (.inr p3))];apply bQ
      .wtm_at "?b"
       unfold vO;wtm_at "?a"
      .wtm_at "?c"
      .rfl
     .rw[if_neg (by rintro(q|q|q);exact p1 q;exact p2 q;exact p3 q)];have hl:=Bb (show 0<=au (aq (wb o a) (wb a b)) (aq d (wb a b)) by omega) hpos hdd (show k+(k+1)+1+(k+(k+1)+1)+2<=8000 by omega) S;apply bQ
      .wtm_at "?b"
       unfold vO;wtm_at "?a"
      .wtm_at "?c"
      .rfl
  .rw[if_neg hq];apply bQ
   .wtm_at "?b"
    unfold vO;wtm_at "?a"
   .wtm_at "?c"
   .rfl
def oU(k:Nat)(t:Tq):Prop:=∀p,t=some p->0<=p.1/\0<p.2/\Bd k p.1/\Bd k p.2
theorem yu{k:Nat}{o d a b:Pt}(ho:aP k o)(hd:aP k d)(ha:aP k a)(hb:aP k b)(h0:d≠(0,0,0)):oU (4*k+10) (mO o d a b):=by
 have w1:=(ho.wb ha).le (show max k k+1<=k+1 by omega);have w0:=(ho.wb hb).le (show max k k+1<=k+1 by omega);have w2:=(ha.wb hb).le (show max k k+1<=k+1 by omega);have w3:=hd.cross w2;have w4:=w1.cross w2;have hdd:=w3.dot w3;have h1:=qp h0;intro p hp;unfold mO at hp;split at hp
 .unfold vd at hp;split at hp
  .split at hp
   .cases hp
   .cases hp;have a1:=w1.dot hd;have a2:=w0.dot hd;refine⟨?_,h1,?_,(hd.dot hd).le (by omega)⟩
    .simp only;unfold iB;split<;>omega
    .simp only;have hz:Bd (4*k+10) 0:=(Bd.lit 0).le (Nat.zero_le _);have e1:=a1.le (show k+1+k+2<=4*k+10 by omega);have e2:=a2.le (show k+1+k+2<=4*k+10 by omega);unfold iB kO;split<;>split<;>assumption
  .cases hp
 .rename_i hc;have hpos:=qp hc;split at hp
  .split at hp
   .cases hp
   .rename_i hn;cases hp;refine⟨?_,hpos,(w4.dot w3).le (by omega),hdd.le (by omega)⟩;simp only;exact Int.not_lt.mp λq=>hn (.inl q)
  .cases hp
noncomputable def lW(t:Tq):Tq:=t.map λp=>cR p.1 p.2
noncomputable def tD(t:Tq):D:=match t with
 |none => .non
 |some p=>rD p
def zpE(t:Tq):N8 t=tD (lW t):=by cases t<;>rfl
noncomputable def pick(best new:Tq):Tq:=match new with
 |none=>best
 |some t=>match best with
  |none=>some t
  |some b=>if dj t b then some t else some b
noncomputable def nO(o d a b c:Pt):Tq:=pick (pick (pick none (lW (mO o d a b))) (lW (mO o d b c))) (lW (mO o d c a))
theorem yt{k:Nat}{t:Tq}(h:oU k t):oU k (lW t):=λp hp=>by
 unfold lW at hp;cases t with
 |none=>cases hp
 |some q =>
  cases hp;obtain⟨h1,h2,h3,h4⟩:=h q rfl;obtain⟨b1,b2⟩:=Ff h3 h4 h2;exact⟨yI h1 h2,qm _ _,b1,b2⟩
def zX{k:Nat}{s t:Tq}(h:oU k s)(g:oU k t):oU k (pick s t):=by
 unfold pick;split
 .exact h
 .split
  .exact g
  .split
   .exact g
   .exact h
noncomputable abbrev eL(a b c:Pt):O := .lst [.tup [pD a,pD b],.tup [pD b,pD c],.tup [pD c,pD a]]
theorem RD{n:Nat}{xs:List D}{S:So}(h:S[n]?=some (.lst xs)):uT (.lst n) S=some xs.length:=by show(match S[n]? with|some (.lst xs)=>some xs.length|some (.frz xs)=>some xs.length|_=>none)=_;rw[h]
def RT{n i:Nat}{xs:List D}{S:So}(h:S[n]?=some (.lst xs))(hi:xs[i]?=none):dG (.lst n) i S=some none:=by unfold dG;simp only;rw[h];simp only;rw[hi]
theorem zhC{a b c:Pt}{S:So}(hS:WF S):vL [.tup [pD a,pD b,pD c]] S=some (.ref S.length,S++[eL a b c]):=by
 apply vC
 .wtm_at "?b"
  unfold KC;wtm_at "?a"
 .intro h;simp[D.lo] at h
 .simp
 .simp[D.lo]
 .exact hS.snoc rfl
theorem zgU{a b c:Pt}{n:Nat}{S:So}(hS:WF S)(hn:S[n]?=some (.lst [pD a,pD b,pD c])):vL [.ref n] S=some (.ref S.length,S++[eL a b c]):=by
 apply vC
 .wtm_at "?b"
  unfold KC;wtm_at "?a"
 .intro h;simp[D.lo] at h
 .simp
 .simp[D.lo]
 .exact hS.snoc rfl
theorem Ko{k:Nat}{o d p q:Pt}{tr:D}{best:Tq}{x5:Option D}(ho:aP k o)(hd:aP k d)(hp:aP k p)(hq:aP k q)(h0:d≠(0,0,0))(hk:k<=1500)(hb:oU (4*k+10) best)(S:So):
 ∃y,Ng [some (.tup [pD o,pD d]),some tr,some (tD best),some (pD p),some (pD q),x5] S=some (.nx,[some (.tup [pD o,pD d]),some tr,some (tD (pick best (lW (mO o d p q)))),some (pD p),some (pD q),y],S):=by
 have hs:=zeE ho hd hp hq h0 hk S;rw[zpE] at hs;have hb':=yt (yu ho hd hp hq h0);generalize lW (mO o d p q)=t at *
 have s1:MT [some (.tup [pD o,pD d]),some tr,some (tD best),some (pD p),some (pD q),x5] S=some (.nx,[some (.tup [pD o,pD d]),some tr,some (tD best),some (pD p),some (pD q),some (tD t)],S):=by unfold MT;wtm_at "?a"
 refine⟨some (tD t),?_⟩;unfold Ng;refine aM s1 (aU (aM ?_ (aU eX)));unfold pick;cases t with
 |none =>
  show rF [some (.tup [pD o,pD d]),some tr,some (tD best),some (pD p),some (pD q),some .non] S=some (_,[some (.tup [pD o,pD d]),some tr,some (tD best),some (pD p),some (pD q),some .non],_);unfold rF;wtm_at "?a"
 |some t =>
  obtain⟨t1,t2⟩:=t;obtain⟨_,_,b1,b2⟩:=hb' _ rfl;cases best with
  |none =>
   show rF [some (.tup [pD o,pD d]),some tr,some .non,some (pD p),some (pD q),some (R2 t1 t2)] S=some (_,[some (.tup [pD o,pD d]),some tr,some (R2 t1 t2),some (pD p),some (pD q),some (R2 t1 t2)],_);unfold rF;wtm_at "?a"
  |some m =>
   obtain⟨m1,m2⟩:=m;obtain⟨_,_,c1,c2⟩:=hb _ rfl;have hless:=sp_is_less b1 b2 c1 c2 (show 4*k+10+(4*k+10)<=134217728 by omega) S;simp only at hless;by_cases hc:t1*m2<m1*t2
   .simp only;rw[if_pos (show dj (t1,t2) (m1,m2) from hc)];show rF [some (.tup [pD o,pD d]),some tr,some (R2 m1 m2),some (pD p),some (pD q),some (R2 t1 t2)] S=some (_,[some (.tup [pD o,pD d]),some tr,some (R2 t1 t2),some (pD p),some (pD q),some (R2 t1 t2)],_);unfold rF;wtm_at "?a"
   .simp only;rw[if_neg (show ¬dj (t1,t2) (m1,m2) from hc)];show rF [some (.tup [pD o,pD d]),some tr,some (R2 m1 m2),some (pD p),some (pD q),some (R2 t1 t2)] S=some (_,[some (.tup [pD o,pD d]),some tr,some (R2 m1 m2),some (pD p),some (pD q),some (R2 t1 t2)],_);unfold rF;wtm_at "?a"
theorem Wm{k:Nat}{o d a b c:Pt}(ho:aP k o)(hd:aP k d)(ha:aP k a)(hb:aP k b)(hc:aP k c)(h0:d≠(0,0,0))(hk:k<=1500)(S:So)(hS:WF S):
 yK [.tup [pD o,pD d],.tup [pD a,pD b,pD c]] S=some (tD (nO o d a b c),S):=by
 have n0:oU (4*k+10) none:=λp hp=>by cases hp
 have n1:=zX n0 (yt (yu ho hd ha hb h0));have n2:=zX n1 (yt (yu ho hd hb hc h0));obtain⟨y1,e1⟩:=Ko (tr := .tup [pD a,pD b,pD c]) (x5:=none) ho hd ha hb h0 hk n0 (S++[eL a b c]);obtain⟨y2,e2⟩:=Ko (tr := .tup [pD a,pD b,pD c]) (x5:=y1) ho hd hb hc h0 hk n1 (S++[eL a b c]);obtain⟨y3,e3⟩:=Ko (tr := .tup [pD a,pD b,pD c]) (x5:=y2) ho hd hc ha h0 hk n2 (S++[eL a b c]);have hz:D.lo S.length (tD (nO o d a b c))=true:=by cases nO o d a b c<;>rfl
 have hn:(S++[eL a b c])[S.length]?=some (eL a b c):=cI;have ed:=zhC (a:=a) (b:=b) (c:=c) hS;have it:d9 (eN (aR 1 vL) (ak (aj 1) aB)) [some (.tup [pD o,pD d]),some (.tup [pD a,pD b,pD c]),some .non,none,none,none] S=some (.lst S.length,S++[eL a b c]):=by wtm_at "?j"
 have s2:Nu [some (.tup [pD o,pD d]),some (.tup [pD a,pD b,pD c]),some .non,none,none,none] S=some (.nx,[some (.tup [pD o,pD d]),some (.tup [pD a,pD b,pD c]),some (tD (nO o d a b c)),some (pD c),some (pD a),y3],S++[eL a b c]):=by unfold Nu;refine qY it (n:=3) (RD hn) ?_;exact mY (d := .tup [pD a,pD b]) (vA hn rfl) rfl e1 (Fo (mY (d := .tup [pD b,pD c]) (vA hn rfl) rfl e2 (Fo (mY (d := .tup [pD c,pD a]) (vA hn rfl) rfl e3 (Fo (JG (RT hn rfl)))))))
 refine bQ (σ':=[some (.tup [pD o,pD d]),some (.tup [pD a,pD b,pD c]),some (tD (nO o d a b c)),some (pD c),some (pD a),y3]) (S':=S++[eL a b c]) ?_ (by simp) hz;wtm_at "?b"
 unfold Wo Wv Ww;exact aM (c7 bA rfl) (aU (aM s2 (aU (aM (fX (aJ rfl)) dW))))
noncomputable def cH(o w p q:Pt):Int:=au w (aq (wb o p) (wb o q))
noncomputable def bW(o w a b c:Pt):Bool:=(decide (0<=cH o w a b)&&decide (0<=cH o w b c)&&decide (0<=cH o w c a))||(decide (cH o w a b<=0)&&decide (cH o w b c<=0)&&decide (cH o w c a<=0))
theorem Wy{k l:Nat}{o w a b c:Pt}(ho:aP k o)(hw:aP l w)(ha:aP k a)(hb:aP k b)(hc:aP k c)(hk:k<=10000)(hl:l<=30000)(S:So)(hS:WF S):
 qt [pD o,pD w,.tup [pD a,pD b,pD c]] S=some (.bl (bW o w a b c),S):=by
 have w1:=(ho.wb ha).le (show max k k+1<=k+1 by omega);have w2:=(ho.wb hb).le (show max k k+1<=k+1 by omega);have w3:=(ho.wb hc).le (show max k k+1<=k+1 by omega);have c1:=w1.cross w2;have c2:=w2.cross w3;have c3:=w3.cross w1;have em:jB [cH o w a b,cH o w b c,cH o w c a]=some (if cH o w c a<(if cH o w b c<cH o w a b then cH o w b c else cH o w a b) then cH o w c a else(if cH o w b c<cH o w a b then cH o w b c else cH o w a b)):=rfl;have eM:iM [cH o w a b,cH o w b c,cH o w c a]=some (if cH o w c a>(if cH o w b c>cH o w a b then cH o w b c else cH o w a b) then cH o w c a else(if cH o w b c>cH o w a b then cH o w b c else cH o w a b)):=rfl;generalize hx:(if cH o w c a<(if cH o w b c<cH o w a b then cH o w b c else cH o w a b) then cH o w c a else(if cH o w b c<cH o w a b then cH o w b c else cH o w a b))=x at em;generalize hy:(if cH o w c a>(if cH o w b c>cH o w a b then cH o w b c else cH o w a b) then cH o w c a else(if cH o w b c>cH o w a b then cH o w b c else cH o w a b))=y at eM;have e1:bW o w a b c=(decide (0<=x)||decide (y<=0)):=by unfold bW;rw[Bool.eq_iff_iff];simp only[mG,dh,uQ];subst hx hy;split<;>split<;>split<;>split<;>omega
 unfold cH at em eM;have gone:∃S1,dD (d9 (aj 2)) (aK 0) cZ (eN (aR 2 fD) (ak (aj 1) (ak (aj 0) aB))) [none,some 0] [some (pD o),some (pD w),some (.tup [pD a,pD b,pD c]),none,none] S=some (.ref S.length,S1)/\S1=S++[.lst [pD (wb o a),pD (wb o b),pD (wb o c)]]:=by refine⟨_,?_,rfl⟩;wtm_at "?a"
 obtain⟨S1,g1,g2⟩:=gone;have hS1:S1[S.length]?=some (.lst [pD (wb o a),pD (wb o b),pD (wb o c)]):=by rw[g2];exact cI
 have hW1:WF S1:=by rw[g2];exact hS.snoc rfl
 have ed:=zgU hW1 hS1;have hn2:(S1++[eL (wb o a) (wb o b) (wb o c)])[S1.length]?=some (eL (wb o a) (wb o b) (wb o c)):=cI;have sides:dD (d9 (eN (aR 1 vL) (ak (aj 3) aB))) (jy 2 (dY (aK 0) (dY (aK 1) jO))) cZ (eN (aR 2 gj) (ak (aj 2) (ak (eN (aR 2 jF) (ak (aj 0) (ak (aj 1) aB))) aB))) [none,none,some 1]
  [some (pD o),some (pD w),some (.tup [pD a,pD b,pD c]),some (.ref S.length),none] S1=some (.ref (S1++[eL (wb o a) (wb o b) (wb o c)]).length,S1++[eL (wb o a) (wb o b) (wb o c)]++[.lst ([au w (aq (wb o a) (wb o b)),au w (aq (wb o b) (wb o c)),au w (aq (wb o c) (wb o a))].map D.int)]):=by
  refine qX (j := .lst S1.length) (n:=3) (S1:=S1++[eL (wb o a) (wb o b) (wb o c)]) ?_ (RD hn2) (xQ rfl) rfl ?_
  .exact oN (bG (aO (aJ rfl) bD) (eE rfl ed)) hn2
  .have one:∀(x y:Pt),aP (k+1) x->aP (k+1) y->eN (aR 2 gj) (ak (aj 2) (ak (eN (aR 2 jF) (ak (aj 0) (ak (aj 1) aB))) aB)) [some (pD x),some (pD y),some (pD w)] (S1++[eL (wb o a) (wb o b) (wb o c)])=some (.int (au w (aq x y)),S1++[eL (wb o a) (wb o b) (wb o c)]):=λx y hx hy=>by have hxy:=hx.cross hy;wtm_at "?a"
   refine vq (vA hn2 rfl) rfl vB (one _ _ w1 w2) rfl ?_;refine vq (vA hn2 rfl) rfl vB (one _ _ w2 w3) rfl ?_;refine vq (vA hn2 rfl) rfl vB (one _ _ w3 w1) rfl ?_;exact zN (RT hn2 rfl)
 rw[e1];have iV:∀o1 o2:O,(S1++[o1]++[o2]).take S.length=S:=λo1 o2=>by rw[g2];simp
 by_cases hxx:0<=x
 .rw[mj hxx,Bool.true_or];apply bQ
  .wtm_at "?b"
   unfold Lz;apply aM
   .exact c7 g1 rfl
   .apply aU;apply aM
    .exact c7 sides rfl
    .apply aU;apply aM
     .apply fX;apply Jb
      .apply aW
       .apply bG
        .wtm_at "?a"
        .exact JK cI em
       .wtm_at "?a"
       .wtm_at "?g"
      .apply gG
       .exact mj hxx
       .rfl
     .exact dW
  .exact iV _ _
  .rfl
 .rw[lZ hxx,Bool.false_or];apply bQ
  .wtm_at "?b"
   unfold Lz;apply aM
   .exact c7 g1 rfl
   .apply aU;apply aM
    .exact c7 sides rfl
    .apply aU;apply aM
     .apply fX;apply Jb
      .apply aW
       .apply bG
        .wtm_at "?a"
        .exact JK cI em
       .wtm_at "?a"
       .wtm_at "?g"
      .apply fG
       .exact lZ hxx
       .apply aW
        .apply bG
         .wtm_at "?a"
         .exact Sx cI eM
        .wtm_at "?a"
        .wtm_at "?g"
     .exact dW
  .exact iV _ _
  .rfl
noncomputable def vm(o d a b c up:Pt):Tq:=if bW o up a b c=true then some (0,1) else nO o d a b c
theorem zlw{o d t up:D}{S:So}(hg:qt [o,up,t] S=some (.bl true,S)):yQ [.tup [o,d],t,up] S=some (R2 0 1,S):=by
 apply bQ
 .wtm_at "?b"
  unfold M5;wtm_at "?a"
 .wtm_at "?c"
 .rfl
theorem zlx{o d t up r:D}{S:So}(hg:qt [o,up,t] S=some (.bl false,S))(he:yK [.tup [o,d],t] S=some (r,S))(hr:D.lo S.length r=true):yQ [.tup [o,d],t,up] S=some (r,S):=by
 apply bQ
 .wtm_at "?b"
  unfold M5;apply aM
  .apply eZ
   .wtm_at "?a"
   .apply fG
    .rfl
    .wtm_at "?a"
  .apply aU;apply aM
   .wtm_at "?a"
   .wtm_at "?n"
 .wtm_at "?c"
 .exact hr
def zH(n:Nat)(t:Tq):D.lo n (tD t)=true:=by cases t<;>rfl
theorem zeY{k l:Nat}{o d a b c up:Pt}(ho:aP k o)(hd:aP k d)(ha:aP k a)(hb:aP k b)(hc:aP k c)(hu:aP l up)(h0:d≠(0,0,0))(hk:k<=1500)(hl:l<=30000)(S:So)(hS:WF S):
 yQ [.tup [pD o,pD d],.tup [pD a,pD b,pD c],pD up] S=some (tD (vm o d a b c up),S):=by
 have hg:=Wy ho hu ha hb hc (by omega) hl S hS;have he:=Wm ho hd ha hb hc h0 hk S hS;unfold vm;by_cases q:bW o up a b c=true
 .rw[if_pos q];rw[q] at hg;exact zlw hg
 .rw[if_neg q];have q':bW o up a b c=false:=by simpa using q
  rw[q'] at hg;exact zlx hg he (zH _ _)
noncomputable def mR(o d a b c:Pt):Tq :=
 if aq (wb a b) (wb a c)=(0,0,0) then nO o d a b c
 else if au d (aq (wb a b) (wb a c))=0 then
  if au (wb o a) (aq (wb a b) (wb a c))=0 then vm o d a b c (aq (wb a b) (wb a c)) else none
 else if au d (aq (wb a b) (wb a c))<0 then
  if -au (wb o a) (aq (wb a b) (wb a c))<0\/bW o d a b c=false then none else some (cR (-au (wb o a) (aq (wb a b) (wb a c))) (-au d (aq (wb a b) (wb a c))))
 else if au (wb o a) (aq (wb a b) (wb a c))<0\/bW o d a b c=false then none else some (cR (au (wb o a) (aq (wb a b) (wb a c))) (au d (aq (wb a b) (wb a c))))
theorem zlB{o d a b c up:Pt}{r:D}{S:So}(hup:up=aq (wb a b) (wb a c))(hz:up=(0,0,0)){k:Nat}(w1:aP k (wb a b))(w2:aP k (wb a c))(hk:k<=10000)(he:yK [.tup [pD o,pD d],.tup [pD a,pD b,pD c]] S=some (r,S))(hr:D.lo S.length r=true):
 nR [.tup [pD o,pD d],.tup [pD a,pD b,pD c]] S=some (r,S):=by
 have hz':pD (aq (wb a b) (wb a c))=P3 0 0 0:=yq.mpr (hup ▸ hz);apply bQ
 .wtm_at "?b"
  unfold qi;wtm_at "?a"
 .wtm_at "?c"
 .exact hr
end MX.P
end
section
local macro_rules | `(tactic| wtm_at "?d") => `(tactic| (with_reducible assumption))
namespace MX.P
open PySem L2 MX
section
variable {o d a b c e1 e2 q r:D}{u:Pt}{U V:Int}{S:So}
theorem zpC(h1:fD [a,b] S=some (e1,S))(h2:fD [a,c] S=some (e2,S))(h3:jF [e1,e2] S=some (pD u,S))(hu:¬pD u=P3 0 0 0)(h4:fD [o,a] S=some (q,S))(h5:gj [q,pD u] S=some (.int U,S))(h6:gj [d,pD u] S=some (.int V,S))(hV:V=0)(hU:U=0)(hr:yQ [.tup [o,d],.tup [a,b,c],pD u] S=some (r,S))(hl:D.lo S.length r=true):nR [.tup [o,d],.tup [a,b,c]] S=some (r,S):=by
 apply bQ
 .wtm_at "?b"
  unfold qi;wtm_at "?a"
 .wtm_at "?c"
 .exact hl
theorem znw(h1:fD [a,b] S=some (e1,S))(h2:fD [a,c] S=some (e2,S))(h3:jF [e1,e2] S=some (pD u,S))(hu:¬pD u=P3 0 0 0)(h4:fD [o,a] S=some (q,S))(h5:gj [q,pD u] S=some (.int U,S))(h6:gj [d,pD u] S=some (.int V,S))(hV:V=0)(hU:¬U=0):nR [.tup [o,d],.tup [a,b,c]] S=some (.non,S):=by
 apply bQ
 .wtm_at "?b"
  unfold qi;wtm_at "?a"
 .wtm_at "?c"
 .rfl
theorem zpB(h1:fD [a,b] S=some (e1,S))(h2:fD [a,c] S=some (e2,S))(h3:jF [e1,e2] S=some (pD u,S))(hu:¬pD u=P3 0 0 0)(h4:fD [o,a] S=some (q,S))(h5:gj [q,pD u] S=some (.int U,S))(h6:gj [d,pD u] S=some (.int V,S))(CV:¬V=0)(hV:V<0)(hU : -U<0):nR [.tup [o,d],.tup [a,b,c]] S=some (.non,S):=by
 apply bQ
 .wtm_at "?b"
  unfold qi;wtm_at "?a"
 .wtm_at "?c"
 .rfl
theorem ZV(h1:fD [a,b] S=some (e1,S))(h2:fD [a,c] S=some (e2,S))(h3:jF [e1,e2] S=some (pD u,S))(hu:¬pD u=P3 0 0 0)(h4:fD [o,a] S=some (q,S))(h5:gj [q,pD u] S=some (.int U,S))(h6:gj [d,pD u] S=some (.int V,S))(CV:¬V=0)(hV:V<0)(hU:¬-U<0)(hg:qt [o,d,.tup [a,b,c]] S=some (.bl false,S)):nR [.tup [o,d],.tup [a,b,c]] S=some (.non,S):=by
 apply bQ
 .wtm_at "?b"
  unfold qi;wtm_at "?a"
 .wtm_at "?c"
 .rfl
theorem zpA(h1:fD [a,b] S=some (e1,S))(h2:fD [a,c] S=some (e2,S))(h3:jF [e1,e2] S=some (pD u,S))(hu:¬pD u=P3 0 0 0)(h4:fD [o,a] S=some (q,S))(h5:gj [q,pD u] S=some (.int U,S))(h6:gj [d,pD u] S=some (.int V,S))(CV:¬V=0)(hV:V<0)(hU:¬-U<0)(hg:qt [o,d,.tup [a,b,c]] S=some (.bl true,S))(hq:t6 [.tup [.int (-U),.int (-V)]] S=some (r,S))(hl:D.lo S.length r=true):nR [.tup [o,d],.tup [a,b,c]] S=some (r,S):=by
 apply bQ
 .wtm_at "?b"
  unfold qi;wtm_at "?a"
 .wtm_at "?c"
 .exact hl
theorem ZW(h1:fD [a,b] S=some (e1,S))(h2:fD [a,c] S=some (e2,S))(h3:jF [e1,e2] S=some (pD u,S))(hu:¬pD u=P3 0 0 0)(h4:fD [o,a] S=some (q,S))(h5:gj [q,pD u] S=some (.int U,S))(h6:gj [d,pD u] S=some (.int V,S))(CV:¬V=0)(hV:¬V<0)(hU:U<0):nR [.tup [o,d],.tup [a,b,c]] S=some (.non,S):=by
 apply bQ
 .wtm_at "?b"
  unfold qi;wtm_at "?a"
 .wtm_at "?c"
 .rfl
theorem Z0(h1:fD [a,b] S=some (e1,S))(h2:fD [a,c] S=some (e2,S))(h3:jF [e1,e2] S=some (pD u,S))(hu:¬pD u=P3 0 0 0)(h4:fD [o,a] S=some (q,S))(h5:gj [q,pD u] S=some (.int U,S))(h6:gj [d,pD u] S=some (.int V,S))(CV:¬V=0)(hV:¬V<0)(hU:¬U<0)(hg:qt [o,d,.tup [a,b,c]] S=some (.bl false,S)):nR [.tup [o,d],.tup [a,b,c]] S=some (.non,S):=by
 apply bQ
 .wtm_at "?b"
  unfold qi;wtm_at "?a"
 .wtm_at "?c"
 .rfl
theorem ZX(h1:fD [a,b] S=some (e1,S))(h2:fD [a,c] S=some (e2,S))(h3:jF [e1,e2] S=some (pD u,S))(hu:¬pD u=P3 0 0 0)(h4:fD [o,a] S=some (q,S))(h5:gj [q,pD u] S=some (.int U,S))(h6:gj [d,pD u] S=some (.int V,S))(CV:¬V=0)(hV:¬V<0)(hU:¬U<0)(hg:qt [o,d,.tup [a,b,c]] S=some (.bl true,S))(hq:t6 [.tup [.int U,.int V]] S=some (r,S))(hl:D.lo S.length r=true):nR [.tup [o,d],.tup [a,b,c]] S=some (r,S):=by
 apply bQ
 .wtm_at "?b"
  unfold qi;wtm_at "?a"
 .wtm_at "?c"
 .exact hl
end
theorem zea{k:Nat}{o d a b c:Pt}(ho:aP k o)(hd:aP k d)(ha:aP k a)(hb:aP k b)(hc:aP k c)(h0:d≠(0,0,0))(hk:k<=1500)(S:So)(hS:WF S):
 nR [.tup [pD o,pD d],.tup [pD a,pD b,pD c]] S=some (tD (mR o d a b c),S):=by
 have w1:=ha.wb hb;have w2:=ha.wb hc;have w3:=ho.wb ha;have wu:=w1.cross w2;have bU:=w3.dot wu;have bV:=hd.dot wu;have h1:=sp_wb a b S;have h2:=sp_wb a c S;have h3:=sp_vcross w1 w2 (by omega) S;have h4:=sp_wb o a S;have h5:=sp_vdot w3 wu (by omega) S;have h6:=sp_vdot hd wu (by omega) S;have hg:=Wy ho hd ha hb hc (by omega) (by omega) S hS;have he:=Wm ho hd ha hb hc h0 hk S hS;have hw:=zeY ho hd ha hb hc wu h0 hk (by omega) S hS;unfold mR;generalize hu:aq (wb a b) (wb a c)=u at *
 by_cases q0:u=(0,0,0)
 .rw[if_pos q0];exact zlB hu.symm q0 w1 w2 (by omega) he (zH _ _)
 .rw[if_neg q0];have hne:¬pD u=P3 0 0 0:=λh=>q0 (yq.mp h);generalize au (wb o a) u=U at *
  generalize au d u=V at *
  by_cases v0:V=0
  .rw[if_pos v0];by_cases u0:U=0
   .rw[if_pos u0];exact zpC h1 h2 h3 hne h4 h5 h6 v0 u0 hw (zH _ _)
   .rw[if_neg u0];exact znw h1 h2 h3 hne h4 h5 h6 v0 u0
  .rw[if_neg v0];by_cases vn:V<0
   .rw[if_pos vn];by_cases un : -U<0
    .rw[if_pos (Or.inl un)];exact zpB h1 h2 h3 hne h4 h5 h6 v0 vn un
    .by_cases gg:bW o d a b c=false
     .rw[if_pos (Or.inr gg)];rw[gg] at hg;exact ZV h1 h2 h3 hne h4 h5 h6 v0 vn un hg
     .rw[if_neg (λh=>h.elim un gg)];have PK:bW o d a b c=true:=by simpa using gg
      rw[PK] at hg;exact zpA h1 h2 h3 hne h4 h5 h6 v0 vn un hg (Bb (by omega) (by omega) bV.neg (by omega) S) (zH S.length (some (cR (-U) (-V))))
   .rw[if_neg vn];by_cases un:U<0
    .rw[if_pos (Or.inl un)];exact ZW h1 h2 h3 hne h4 h5 h6 v0 vn un
    .by_cases gg:bW o d a b c=false
     .rw[if_pos (Or.inr gg)];rw[gg] at hg;exact Z0 h1 h2 h3 hne h4 h5 h6 v0 vn un hg
     .rw[if_neg (λh=>h.elim un gg)];have PK:bW o d a b c=true:=by simpa using gg
      rw[PK] at hg;exact ZX h1 h2 h3 hne h4 h5 h6 v0 vn un hg (Bb (by omega) (by omega) bV (by omega) S) (zH S.length (some (cR U V)))
theorem zmJ{k:Nat}{o d a b c:Pt}(ho:aP k o)(hd:aP k d)(ha:aP k a)(hb:aP k b)(hc:aP k c)(h0:d≠(0,0,0)):oU (4*k+10) (nO o d a b c) :=
 zX (zX (zX (λp hp=>by cases hp) (yt (yu ho hd ha hb h0))) (yt (yu ho hd hb hc h0))) (yt (yu ho hd hc ha h0))
theorem zpD{k:Nat}{o d a b c:Pt}(ho:aP k o)(hd:aP k d)(ha:aP k a)(hb:aP k b)(hc:aP k c)(h0:d≠(0,0,0)):oU (4*k+10) (mR o d a b c):=by
 have eb:=zmJ ho hd ha hb hc h0;have w1:=(ha.wb hb).le (show max k k+1<=k+1 by omega);have w2:=(ha.wb hc).le (show max k k+1<=k+1 by omega);have w3:=(ho.wb ha).le (show max k k+1<=k+1 by omega);have wu:=w1.cross w2;have bU:=(w3.dot wu).le (show k+1+(k+1+(k+1)+1)+2<=4*k+10 by omega);have bV:=(hd.dot wu).le (show k+(k+1+(k+1)+1)+2<=4*k+10 by omega);unfold mR vm;intro p hp;split at hp
 .exact eb p hp
 .split at hp
  .split at hp
   .split at hp
    .cases hp;exact⟨by decide,by decide,(Bd.lit 0).le (Nat.zero_le _),(Bd.lit 1).le (show 1<=4*k+10 by omega)⟩
    .exact eb p hp
   .cases hp
  .rename_i hV;split at hp
   .rename_i hn;split at hp
    .cases hp
    .rename_i hb;cases hp;obtain⟨b1,b2⟩:=Ff bU.neg bV.neg (by omega);exact⟨yI (Int.not_lt.mp λq=>hb (.inl q)) (by omega),qm _ _,b1,b2⟩
   .rename_i hn;split at hp
    .cases hp
    .rename_i hb;cases hp;obtain⟨b1,b2⟩:=Ff bU bV (by omega);exact⟨yI (Int.not_lt.mp λq=>hb (.inl q)) (by omega),qm _ _,b1,b2⟩
theorem zfE{k:Nat}{o d a b c:Pt}(ho:aP k o)(hd:aP k d)(ha:aP k a)(hb:aP k b)(hc:aP k c)(h0:d≠(0,0,0))(hk:k<=1500)(S:So)(hS:WF S):
 Ag [.tup [pD o,pD d],.tup [.str "triangle",pD a,pD b,pD c]] S=some (tD (mR o d a b c),S):=by
 have hm:=zea ho hd ha hb hc h0 hk S hS;apply bQ
 .wtm_at "?b"
  unfold Kh;have t:bI (eB (aV .Eq) (eB aH (aj 1) (eC (.int 0))) (eC (.str "box"))) [some (.tup [pD o,pD d]),some (.tup [.str "triangle",pD a,pD b,pD c])] S=some (false,S):=by have h:=fP (aW (fa:=eB aH (aj 1) (eC (.int 0))) (fb:=eC (.str "box")) (σ:=[some (.tup [pD o,pD d]),some (.tup [.str "triangle",pD a,pD b,pD c])]) (S:=S) (aW (aJ rfl) bA (dX rfl)) bA (p8 (x := .str "triangle") (y := .str "box") rfl 1 (by decide +kernel) (by decide +kernel) (by decide)));rw[h,lZ (λe=>by simp only[D.str.injEq] at e;exact absurd e (by decide +kernel))]
  refine aM (eZ t (fG rfl eX)) (aU ?_);wtm_at "?a"
 .wtm_at "?c"
 .cases mR o d a b c<;>rfl
inductive Sh where
 |box (lo hi:Pt)
 |tri (a b c:Pt)
noncomputable def bJ:Sh->D
 |.box lo hi => .tup [.str "box",pD lo,pD hi]
 |.tri a b c => .tup [.str "triangle",pD a,pD b,pD c]
noncomputable def Sh.pts:Sh->List Pt
 |.box lo hi=>[lo,hi]
 |.tri a b c=>[a,b,c]
structure kI(k:Nat)(s:Sh):Prop where
 bd:∀p∈s.pts,aP k p
 ord:∀lo hi,s = .box lo hi->lo.1<=hi.1/\lo.2.1<=hi.2.1/\lo.2.2<=hi.2.2
noncomputable def fj(o d:Pt):Sh->Tq
 |.box lo hi=>(iu o d lo hi).map λp=>cR p.1.1 p.1.2
 |.tri a b c=>mR o d a b c
def Yj(t:Option ((Int×Int)×(Int×Int))):Pa t=tD (t.map λp=>cR p.1.1 p.1.2):=by cases t<;>rfl
theorem zjX{k:Nat}{o d:Pt}{s:Sh}(ho:aP k o)(hd:aP k d)(hs:kI k s)(h0:d≠(0,0,0))(hk:k<=1500)(S:So)(hS:WF S):
 Ag [.tup [pD o,pD d],bJ s] S=some (tD (fj o d s),S):=by
 cases s with
 |box lo hi =>
  have:=zfF ho hd (hs.bd lo (by simp[Sh.pts])) (hs.bd hi (by simp[Sh.pts])) h0 (by omega) S;rw[Yj] at this;exact this
 |tri a b c=>exact zfE ho hd (hs.bd a (by simp[Sh.pts])) (hs.bd b (by simp[Sh.pts])) (hs.bd c (by simp[Sh.pts])) h0 hk S hS
theorem XD{k:Nat}{o d:Pt}{s:Sh}(ho:aP k o)(hd:aP k d)(hs:kI k s)(h0:d≠(0,0,0)):oU (4*k+10) (fj o d s):=by
 cases s with
 |box lo hi =>
  intro p hp;simp only[fj,aX] at hp;obtain⟨q,e,rfl⟩:=hp;have ok:=T4 ho hd (hs.bd lo (by simp[Sh.pts])) (hs.bd hi (by simp[Sh.pts])) e;have b:=Ff (k:=4*k+10) (ok.b1.le (by omega)) (ok.b2.le (by omega)) ok.f2;exact⟨yI ok.f0 ok.f2,qm _ _,b.1,b.2⟩
 |tri a b c=>exact zpD ho hd (hs.bd a (by simp[Sh.pts])) (hs.bd b (by simp[Sh.pts])) (hs.bd c (by simp[Sh.pts])) h0
theorem JR:∀{ns:List Int} {m:Int},jB ns=some m->m∈ns:=by
 intro ns m h;cases ns with
 |nil=>cases h
 |cons a r =>
  have h':r.foldl (λx y=>if y<x then y else x) a=m:=by simpa[jB] using h
  clear h
  induction r generalizing a with
  |nil=>simp at h';subst h';simp
  |cons b r ih =>
   rw[List.foldl_cons] at h';have:=ih _ h';rcases List.mem_cons.mp this with e|e
   .rw[e];split<;>simp
   .exact cM _ (cM _ e)
theorem FZ:∀{ns:List Int} {m:Int},iM ns=some m->m∈ns:=by
 intro ns m h;cases ns with
 |nil=>cases h
 |cons a r =>
  have h':r.foldl (λx y=>if y>x then y else x) a=m:=by simpa[iM] using h
  clear h
  induction r generalizing a with
  |nil=>simp at h';subst h';simp
  |cons b r ih =>
   rw[List.foldl_cons] at h';have:=ih _ h';rcases List.mem_cons.mp this with e|e
   .rw[e];split<;>simp
   .exact cM _ (cM _ e)
theorem mF.bd{k:Nat}{pts:List Pt}{lo hi:Pt}(B:mF pts lo hi)(h:∀p∈pts,aP k p):aP k lo/\aP k hi:=by
 have m:∀{j:Int} {x:Int},(0<=j/\j<=2)->x∈pts.map (co j)->Bd k x:=λ{j x} hj hx=>by
  obtain⟨p,hp,rfl⟩:=List.mem_map.mp hx;have:=h p hp;unfold co;split
  .exact this.1
  .split
   .exact this.2.1
   .exact this.2.2
 exact⟨⟨m (by decide) (JR B.h0),m (by decide) (JR B.h1),m (by decide) (JR B.h2)⟩,⟨m (by decide) (FZ B.g0),m (by decide) (FZ B.g1),m (by decide) (FZ B.g2)⟩⟩
theorem znN{k:Nat}{s:Sh}(hs:kI k s):∃lo hi,mF s.pts lo hi/\aP k lo/\aP k hi/\∀S,WF S->vG [bJ s] S=some (.tup [pD lo,pD hi],S):=by
 obtain⟨lo,hi,B⟩:=QS (pts:=s.pts) (by cases s<;>simp[Sh.pts]);refine⟨lo,hi,B,(B.bd hs.bd).1,(B.bd hs.bd).2,λS hS=>?_⟩;cases s with
 |box l h =>
  obtain⟨o1,o2,o3⟩:=hs.ord l h rfl;exact U9 (nm := "box") (pts:=[l,h]) hS (by simp) (by simp) B (ze0 o1 o2 o3)
 |tri a b c=>exact U9 (nm := "triangle") (pts:=[a,b,c]) hS (by simp) (by simp) B zeZ
inductive Tr where
 |lf (lo hi:Pt) (i:Nat)
 |nd (lo hi:Pt) (l r:Tr)
noncomputable abbrev HS(b x h:D):D := .obj "Tree" ["box", "number", "halves"] [b,x,h]
noncomputable def bF:Tr->D
 |.lf lo hi i=>HS (.tup [pD lo,pD hi]) (.int (i:Nat)) (.tup [])
 |.nd lo hi l r=>HS (.tup [pD lo,pD hi]) .non (.tup [bF l,bF r])
noncomputable def Tr.lo:Tr->Pt
 |.lf lo _ _=>lo
 |.nd lo _ _ _=>lo
noncomputable def Tr.hi:Tr->Pt
 |.lf _ hi _=>hi
 |.nd _ hi _ _=>hi
def qW(n:Nat):∀t:Tr,D.lo n (bF t)=true
 |.lf lo hi i=>by simp[bF,D.lo,cV]
 |.nd lo hi l r=>by simp[bF,D.lo,cV,qW n l,qW n r]
section
variable {σ σ1:Sg}{S S1 S2:So}{fe fo fv:EF}{d x:D}{C f:Str}{n:Nat}{ds:List D}{fa:AF}{φ:GN}
theorem rm{ks:List Str}{xs:List D}(h1:fe σ S=some (.obj C ks xs,S1))(hl:ks.length=xs.length)(h2:(ks.zip xs).lookup f=some d):ig C f fe σ S=some (d,S1):=by unfold ig;rw[h1];simp only[b8];rw[if_pos ⟨trivial,hl⟩,h2];rfl
theorem JF{fs:List (Str×D)}(h1:fe σ S=some (.ref n,S1))(h2:S1[n]?=some (.ins C fs))(h3:fs.lookup f=some d):ig C f fe σ S=some (d,S1):=by unfold ig;rw[h1];simp only[b8];rw[h2];simp only[if_true];rw[h3];rfl
theorem zR{fs:List (Str×D)}{S3:So}(h1:fv σ S=some (d,S1))(h2:fo σ S1=some (.ref n,S2))(h3:S2[n]?=some (.ins C fs))(h4:fs.length<3)(h5:S2.set n (.ins C (uX f d fs))=S3):oJ C f fo fv σ S=some (.nx,σ,S3):=by unfold oJ;rw[h1];simp only[b8];rw[h2];simp only[b8];rw[h3];simp only;rw[if_pos ⟨trivial,h4⟩,h5]
theorem QX(h1:fa σ S=some (ds,S1))(hn:ds.length+1=n)(h2:φ (.ref S1.length::ds) (S1++[.ins C []])=some (.non,S2)):nZ C n φ fa σ S=some (nu C S1.length S2):=by unfold nZ;rw[h1];simp only[b8];unfold aR;rw[if_pos (by simpa using hn),h2];rfl
theorem tX{fs:List (Str×D)}{m:Str}{r:Option (D×So)}{ds:List D}{k:Nat}(h1:fo σ S=some (.ref k,S1))(h2:S1[k]?=some (.ins C fs))(h3:fs.lookup m=none)(h4:fa σ S1=some (ds,S2))(hn:ds.length+1=n)(h5:φ (.ref k::ds) S2=r):jV C m n φ fo fa σ S=r:=by unfold jV;rw[h1];simp only[b8];rw[h2];simp only;rw[if_pos ⟨trivial,h3⟩,h4];simp only[b8];unfold aR;rw[if_pos (by simpa using hn),h5]
theorem RZ{k:Nat}{fb:SF}{S':So}{σ':Sg}(h:fb (m6 k ds) S=some (.nx,σ',S'))(hne:¬S'.take S.length=S)(hl:S.length<=S'.length)(hw:WF S'):fnOf k fb ds S=some (.non,S'):=by unfold fnOf;rw[h];simp only;rw[if_neg hne,if_pos ⟨hl,hw⟩]
end
def JZ{S:So}{a b:O}:(S++[a]).set S.length b=S++[b]:=by simp
theorem znO{S:So}{b x h:D}(hS:WF S)(hlo:cV S.length [b,x,h]=true):yN [.ref S.length,b,x,h] (S++[.ins "Tree" []])=some (.non,S++[.ins "Tree" [("box",b),("number",x),("halves",h)]]):=by
 apply RZ
 .wtm_at "?b"
  unfold Nf;refine aM (zR (aJ rfl) (aJ rfl) cI (show(0:Nat)<3 by decide) JZ) (aU ?_);refine aM (zR (aJ rfl) (aJ rfl) cI (show(1:Nat)<3 by decide) JZ) (aU ?_);refine aM (zR (aJ rfl) (aJ rfl) cI (show(2:Nat)<3 by decide) JZ) (aU ?_);rfl
 .intro e;have:=congrArg (λl=>l[S.length]?) e;simp at this
 .simp
 .exact hS.snoc (by
   simpa[O.lo,uX] using hlo)
theorem Uy{σ:Sg}{S S1:So}{fa:AF}{b x h:D}(h1:fa σ S=some ([b,x,h],S1))(hS:WF S1)(hlo:cV S1.length [b,x,h]=true):nZ "Tree" 4 yN fa σ S=some (HS b x h,S1):=by
 rw[QX (n:=4) h1 rfl (znO hS hlo)];unfold nu;rw[cI];simp only;rw[if_pos]
 .simp
 .refine⟨trivial,by simp,by simp,by simpa using hlo,?_⟩;rw[List.all_eq_true];intro o ho;have ho':o∈S1:=by simpa using ho
  exact hS o ho'
def zo0{a b c m:Int}(h:m∈[a,b,c]):[a,b,c].idxOf m<=2:=by have:=List.idxOf_lt_length_iff.mpr h;simp only[jM,zj] at this;omega
theorem zmH{S:So}{n:Nat}{xs:List D}{ns:List Int}{m:Int}(h1:S[n]?=some (.lst xs))(h2:mW xs=some ns)(h:m∈ns):xY (.ref n) [.int m] S=some (.int (ns.idxOf m:Nat),S):=by unfold xY;simp only;rw[h1];simp only;rw[h2];simp only[b8];rw[if_pos h]
theorem zjV(lo hi:Pt):∃j:Nat,j<=2/\∀S,Mi [.tup [pD lo,pD hi]] S=some (.int (j:Nat),S):=by
 obtain⟨m,hm⟩:=Er (ns:=[hi.1 - lo.1,hi.2.1 - lo.2.1,hi.2.2 - lo.2.2]) (by simp);have mem:=FZ hm;refine⟨_,zo0 mem,λS=>?_⟩;apply bQ
 .wtm_at "?b"
  unfold Wl;apply aM
  .apply c7
   .wtm_at "?a"
   .wtm_at "?h"
  .apply aU;apply aM
   .apply fX;apply El
    .wtm_at "?a"
    .exact cI
    .apply aO
     .apply bG
      .wtm_at "?a"
      .exact Uh cI rfl hm
     .exact bD
    .exact zmH cI rfl mem
   .exact dW
 .wtm_at "?c"
 .rfl
end MX.P
end
section
variable {A B C d o p:MX.P.Pt}{K how i k n:Nat}{S S1:MX.So}{X Y:Int×Int->Prop}{a b t:Int×Int}{fe:MX.EF}{l:List Nat}{m u w:Int}{ns:List Int}{rest σ:MX.Sg}{s:MX.P.Sh}{shs:List MX.P.Sh}{src:List (Option Nat)}{xs:List MX.D}
section
namespace MX.P
open PySem L2 MX
end MX.P
local macro_rules | `(tactic| wtm_at "?d") => `(tactic| first | (with_reducible first | exact MX.P.sp_drawn _ _ _ | exact MX.P.sp_pt _ _ _) | (with_reducible assumption))
namespace MX.P
open PySem L2 MX
def co0(p:Pt):co 0 p=p.1:=rfl
def co1(p:Pt):co 1 p=p.2.1:=rfl
def co2(p:Pt):co 2 p=p.2.2:=rfl
end MX.P
local macro_rules | `(tactic| wtm_at "?d") => `(tactic| ((with_reducible apply MX.P.sp_near); (·assumption); (·assumption); (focus decide); (focus decide)))
namespace MX.P
end MX.P
end
section
local macro_rules | `(tactic| wtm_at "?d") => `(tactic| (with_reducible assumption))
namespace MX.P
open PySem L2 MX
def fC(s w lo hi:Int)(t:Int×Int):Prop:=lo*t.2<=s*t.2+w*t.1/\s*t.2+w*t.1<=hi*t.2
def inB(o d lo hi:Pt)(t:Int×Int):Prop:=fC o.1 d.1 lo.1 hi.1 t/\fC o.2.1 d.2.1 lo.2.1 hi.2.1 t/\fC o.2.2 d.2.2 lo.2.2 hi.2.2 t
instance (s w lo hi:Int) (t:Int×Int):Decidable (fC s w lo hi t):=by unfold fC;infer_instance
instance (o d lo hi:Pt) (t:Int×Int):Decidable (inB o d lo hi t):=by unfold inB;infer_instance
noncomputable def sO(j:Int)(o d lo hi:Pt):List (Int×Int):=if co j d=0 then[] else[cR (co j lo - co j o) (co j d),cR (co j hi - co j o) (co j d)]
def W7(o d lo hi:Pt)(t:Int×Int):Prop:=0<=t.1/\inB o d lo hi t
instance (o d lo hi:Pt) (t:Int×Int):Decidable (W7 o d lo hi t):=by unfold W7;infer_instance
noncomputable abbrev cj(o d:Pt):D := .tup [pD o,pD d]
theorem zmv{s lo hi:Int}(hw:w≠0):fC s w lo hi t↔leQ (jc s w lo hi) t/\leQ t (jG s w lo hi):=by
 unfold fC leQ jc jG;obtain⟨t1,t2⟩:=t;split
 .simp only;constructor
  .rintro⟨h1,h2⟩;constructor<;>grind
  .rintro⟨h1,h2⟩;constructor<;>grind
 .simp only;constructor
  .rintro⟨h1,h2⟩;constructor<;>grind
  .rintro⟨h1,h2⟩;constructor<;>grind
theorem UJ{s lo hi:Int}(ht:0<t.2):fC s 0 lo hi t↔lo<=s/\s<=hi:=by unfold fC;simp only[Int.zero_mul,Int.add_zero];rw[Int.mul_le_mul_right ht,Int.mul_le_mul_right ht]
theorem Z7{e:Int×Int}(ha:0<a.2)(he:0<e.2)(ht:0<t.2):leQ (qz w a e) t↔leQ a t/\leQ e t:=by
 unfold qz;split
 .rename_i h;have:leQ a e:=by unfold dj at h;unfold leQ;omega
  exact⟨λq=>⟨yG ha he ht this q,q⟩,λq=>q.2⟩
 .rename_i h;exact⟨λq=>⟨q,yG he ha ht (mX h) q⟩,λq=>q.1⟩
theorem Ry{a:Option (Int×Int)}{l:Int×Int}(ha:∀m,a=some m->0<m.2)(hl:0<l.2)(ht:0<t.2):leQ t (sS a l)↔leQ t l/\∀m,a=some m->leQ t m:=by
 unfold sS;split
 .exact⟨λq=>⟨q,λm hm=>by cases hm⟩,λq=>q.1⟩
 .rename_i m;have hm:=ha m rfl;split
  .rename_i h;have:leQ l m:=by unfold dj at h;unfold leQ;omega
   exact⟨λq=>⟨q,λn hn=>by cases hn;exact yG ht hl hm q this⟩,λq=>q.1⟩
  .rename_i h;exact⟨λq=>⟨yG ht hm hl q (mX h),λn hn=>by cases hn;exact q⟩,λq=>q.2 m rfl⟩
structure Qt(C:Int×Int->Prop)(cs:List (Int×Int))(a:Ax):Prop where
 pos:Hs a
 iff:∀t:Int×Int,0<=t.1->0<t.2->(C t↔leQ a.1 t/\∀l,a.2=some l->leQ t l)
 fm:cR a.1.1 a.1.2∈cs
 lm:∀l,a.2=some l->cR l.1 l.2∈cs
theorem zmO{j:Int}{lo hi:Pt}(hw:co j d≠0):cR (jc (co j o) (co j d) (co j lo) (co j hi)).1 (jc (co j o) (co j d) (co j lo) (co j hi)).2∈sO j o d lo hi/\cR (jG (co j o) (co j d) (co j lo) (co j hi)).1 (jG (co j o) (co j d) (co j lo) (co j hi)).2∈sO j o d lo hi:=by
 unfold sO jc jG;rw[if_neg hw];split
 .simp
 .rename_i hn;simp only;rw[yr (a:=co j o - co j hi) (b := -co j d) (c:=co j hi - co j o) (d:=co j d) (by omega) hw (by grind),yr (a:=co j o - co j lo) (b := -co j d) (c:=co j lo - co j o) (d:=co j d) (by omega) hw (by grind)];simp
theorem J7{C:Int×Int->Prop}{cs:List (Int×Int)}{a:Ax}{j:Int}{lo hi:Pt}(h:Qt C cs a):
 match d8 a (co j o) (co j d) (co j lo) (co j hi) with
 |none=>∀t:Int×Int,0<=t.1->0<t.2->¬(C t/\fC (co j o) (co j d) (co j lo) (co j hi) t)
 |some b=>Qt (λt=>C t/\fC (co j o) (co j d) (co j lo) (co j hi) t) (cs++sO j o d lo hi) b:=by
 cases e:d8 a (co j o) (co j d) (co j lo) (co j hi) with
 |none =>
  simp only;intro t h0 ht hc;unfold d8 at e;split at e
  .rename_i hw;split at e
   .rename_i hx;have:=hc.2;rw[hw,UJ ht] at this;omega
   .cases e
  .cases e
 |some b =>
  simp only;have hp:=Fy h.pos e;unfold d8 at e;split at e
  .rename_i hw;split at e
   .cases e
   .rename_i hx;cases e;refine⟨h.pos,λt h0 ht=>?_,List.mem_append_left _ h.fm,λl hl=>List.mem_append_left _ (h.lm l hl)⟩;rw[<-h.iff t h0 ht,hw,UJ ht];exact⟨λq=>q.1,λq=>⟨q,by omega,by omega⟩⟩
  .rename_i hw;cases e;obtain⟨p1,p2⟩:=S6 (s:=co j o) (lo:=co j lo) (hi:=co j hi) hw;obtain⟨m1,m2⟩:=zmO (o:=o) (lo:=lo) (hi:=hi) hw;refine⟨hp,λt h0 ht=>?_,?_,λl hl=>?_⟩
   .simp only;rw[zmv hw,h.iff t h0 ht,Z7 h.pos.2.1 p1 ht];constructor
    .rintro⟨⟨q1,q2⟩,q3,q4⟩
     exact⟨⟨q1,q3⟩,λl hl=>by cases hl;exact(Ry h.pos.2.2 p2 ht).mpr ⟨q4,q2⟩⟩
    .rintro⟨⟨q1,q3⟩,q⟩
     have:=(Ry h.pos.2.2 p2 ht).mp (q _ rfl);exact⟨⟨q1,this.2⟩,q3,this.1⟩
   .simp only;rcases Gn (co j d) a.1 (jc (co j o) (co j d) (co j lo) (co j hi)) with q|q<;>rw[q]
    .exact List.mem_append_left _ h.fm
    .exact List.mem_append_right _ m1
   .cases hl;rcases Kl a.2 (jG (co j o) (co j d) (co j lo) (co j hi)) with q|⟨m,q1,q⟩<;>rw[q]
    .exact List.mem_append_right _ m2
    .exact List.mem_append_left _ (h.lm m q1)
end MX.P
end
section
namespace MX.P
def gw(k:Int)(d:Pt)(q u v w:Int)(A B C:Pt):Prop:=k*d.1=q*(u*A.1+v*B.1+w*C.1)/\k*d.2.1=q*(u*A.2.1+v*B.2.1+w*C.2.1)/\k*d.2.2=q*(u*A.2.2+v*B.2.2+w*C.2.2)
def eO(d A B C:Pt)(t:Int×Int):Prop:=∃u v w:Int,0<=u/\0<=v/\0<=w/\0<u+v+w/\gw ((u+v+w)*t.1) d t.2 u v w A B C
def iU(d A B:Pt)(t:Int×Int):Prop:=∃u v:Int,0<=u/\0<=v/\0<u+v/\gw ((u+v)*t.1) d t.2 u v 0 A B A
theorem gw.dot{k q v:Int}(h:gw k d q u v w A B C)(n:Pt):k*au d n=q*(u*au A n+v*au B n+w*au C n):=by
 obtain⟨h1,h2,h3⟩:=h;have e:k*au d n=(k*d.1)*n.1+(k*d.2.1)*n.2.1+(k*d.2.2)*n.2.2:=by unfold au;grind
 rw[e,h1,h2,h3];unfold au;grind
def Dy{k x y:Int}(hk:0<k)(h:k*x=k*y):x=y:=Int.eq_of_mul_eq_mul_left (by omega) h
def qR{k x:Int}(hk:0<k)(h:0=k*x):x=0:=by
 rcases Int.mul_eq_zero.mp h.symm with e|e
 .omega
 .exact e
def Inv(X:Int×Int->Prop):Prop:=∀t r:Int×Int,0<t.2->0<r.2->t.1*r.2=r.1*t.2->X t->X r
theorem Ua{s q v:Int}{r:Int×Int}(ht:0<t.2)(e:t.1*r.2=r.1*t.2)(h:gw (s*t.1) d t.2 u v w A B C):gw (s*r.1) d r.2 u v w A B C:=by
 obtain⟨h1,h2,h3⟩:=h;have f:∀x y:Int,s*t.1*x=t.2*y->s*r.1*x=r.2*y:=λx y h=>by
  refine Dy ht ?_;have e1:t.2*(s*r.1*x)=s*x*(r.1*t.2):=by grind
  have e2:t.2*(r.2*y)=r.2*(t.2*y):=by grind
  rw[e1,e2,<-e,<-h];grind
 exact⟨f _ _ h1,f _ _ h2,f _ _ h3⟩
def zT(d A B C:Pt):Inv (eO d A B C):=λt r ht _ e ⟨u,v,w,h1,h2,h3,h4,h⟩=>⟨u,v,w,h1,h2,h3,h4,Ua (q:=0) ht e h⟩
def Ez(d A B:Pt):Inv (iU d A B):=λt r ht _ e ⟨u,v,h1,h2,h4,h⟩=>⟨u,v,h1,h2,h4,Ua (q:=0) ht e h⟩
def Rb(h:iU d A B t):eO d A B C t:=by obtain⟨u,v,h1,h2,h4,c1,c2,c3⟩:=h;refine⟨u,v,0,h1,h2,by omega,by omega,?_,?_,?_⟩<;>grind
def Rc(h:iU d B C t):eO d A B C t:=by obtain⟨u,v,h1,h2,h4,c1,c2,c3⟩:=h;refine⟨0,u,v,by omega,h1,h2,by omega,?_,?_,?_⟩<;>grind
def Rf(h:iU d C A t):eO d A B C t:=by obtain⟨u,v,h1,h2,h4,c1,c2,c3⟩:=h;refine⟨v,0,u,h2,by omega,h1,by omega,?_,?_,?_⟩<;>grind
def fZ(m:Tq)(X:Int×Int->Prop):Prop:=match m with
 |none=>∀t:Int×Int,0<=t.1->0<t.2->¬X t
 |some r=>0<=r.1/\0<r.2/\X r/\∀t:Int×Int,0<=t.1->0<t.2->X t->leQ r t
theorem fZ.congr{m:Tq}(h:fZ m X)(e:∀t:Int×Int,0<=t.1->0<t.2->(X t↔Y t)):fZ m Y:=by
 unfold fZ at *
 cases m with
 |none=>exact λt h1 h2 hy=>h t h1 h2 ((e t h1 h2).mpr hy)
 |some r=>exact⟨h.1,h.2.1,(e r h.1 h.2.1).mp h.2.2.1,λt h1 h2 hy=>h.2.2.2 t h1 h2 ((e t h1 h2).mpr hy)⟩
theorem zO{c:Int×Int}(ha:0<a.2)(hb:0<b.2)(hc:0<c.2)(h1:leQ a b)(h2:leQ b c):leQ a c:=by
 unfold leQ at *
 have h3:=Int.mul_le_mul_of_nonneg_right h1 (show 0<=c.2 by omega);have h4:=Int.mul_le_mul_of_nonneg_right h2 (show 0<=a.2 by omega);have e1:a.1*b.2*c.2=b.2*(a.1*c.2):=by grind
 have e2:c.1*b.2*a.2=b.2*(c.1*a.2):=by grind
 have e3:b.1*a.2*c.2=b.1*c.2*a.2:=by grind
 refine Int.le_of_mul_le_mul_left (a:=b.2) ?_ hb;omega
theorem fZ.pick{m n:Tq}{X Y:Int×Int->Prop}(hm:fZ m X)(hn:fZ n Y):fZ (pick m n) (λt=>X t\/Y t):=by
 unfold MX.P.pick;cases n with
 |none =>
  refine hm.congr λt h1 h2=>⟨.inl,λh=>h.elim id λh=>absurd h (hn t h1 h2)⟩
 |some t =>
  cases m with
  |none =>
   refine hn.congr λt h1 h2=>⟨.inr,λh=>h.elim (λh=>absurd h (hm t h1 h2)) id⟩
  |some b =>
   simp only;split
   .rename_i hl;refine⟨hn.1,hn.2.1,.inr hn.2.2.1,λs h1 h2 h=>h.elim (λh=>?_) (hn.2.2.2 s h1 h2)⟩;refine zO hn.2.1 hm.2.1 h2 ?_ (hm.2.2.2 s h1 h2 h);unfold dj at hl;unfold leQ;omega
   .rename_i hl;refine⟨hm.1,hm.2.1,.inl hm.2.2.1,λs h1 h2 h=>h.elim (hm.2.2.2 s h1 h2) (λh=>?_)⟩;refine zO hm.2.1 hn.2.1 h2 ?_ (hn.2.2.2 s h1 h2 h);unfold dj at hl;unfold leQ;omega
theorem fZ.red{m:Tq}(hi:Inv X)(hm:fZ m X):fZ (lW m) X:=by
 cases m with
 |none=>exact hm
 |some r =>
  obtain⟨h1,h2,h3,h4⟩:=hm;have hp:=qm r.1 r.2;have hc:=Af (a:=r.1) (b:=r.2) (by omega);refine⟨yI h1 h2,hp,hi r _ h2 hp hc.symm h3,λt g1 g2 g3=>zO hp h2 g2 ?_ (h4 t g1 g2 g3)⟩;unfold leQ;show(cR r.1 r.2).1*r.2<=r.1*(cR r.1 r.2).2;omega
def qO(m:Tq):Prop:=∀r,m=some r->cR r.1 r.2=r
theorem fZ.uniq{m n:Tq}(hm:fZ m X)(hn:fZ n X)(r1:qO m)(r2:qO n):m=n:=by
 cases m with
 |none =>
  cases n with
  |none=>rfl
  |some r=>exact absurd hn.2.2.1 (hm r hn.1 hn.2.1)
 |some s =>
  cases n with
  |none=>exact absurd hm.2.2.1 (hn s hm.1 hm.2.1)
  |some r =>
   have a1:=hm.2.2.2 r hn.1 hn.2.1 hn.2.2.1;have a2:=hn.2.2.2 s hm.1 hm.2.1 hm.2.2.1;have p1:=hm.2.1;have p2:=hn.2.1;have e:=yr (a:=s.1) (b:=s.2) (c:=r.1) (d:=r.2) (by omega) (by omega) (by unfold leQ at a1 a2;omega);rw[r1 s rfl,r2 r rfl] at e;rw[e]
def Ga(m:Tq):qO (lW m):=λr hr=>by
 cases m with
 |none=>cases hr
 |some p=>cases hr;exact Gi _ _
def JT{m n:Tq}(hm:qO m)(hn:qO n):qO (pick m n):=by
 unfold pick;split
 .exact hm
 .split
  .exact hn
  .split
   .exact hn
   .exact hm
def Jm{a b:Pt}(h1:a.1=b.1)(h2:a.2.1=b.2.1)(h3:a.2.2=b.2.2):a=b:=Prod.ext h1 (Prod.ext h2 h3)
theorem lag(x d e:Pt):au (aq d e) (aq d e)*x.1=au (aq x e) (aq d e)*d.1 - au (aq x d) (aq d e)*e.1+au x (aq d e)*(aq d e).1
 /\ au (aq d e) (aq d e)*x.2.1=au (aq x e) (aq d e)*d.2.1 - au (aq x d) (aq d e)*e.2.1+au x (aq d e)*(aq d e).2.1
 /\ au (aq d e) (aq d e)*x.2.2=au (aq x e) (aq d e)*d.2.2 - au (aq x d) (aq d e)*e.2.2+au x (aq d e)*(aq d e).2.2:=by
 simp only[au,aq];refine⟨?_,?_,?_⟩<;>grind
def XF(o a b:Pt):wb a b=((wb o b).1 - (wb o a).1,(wb o b).2.1 - (wb o a).2.1,(wb o b).2.2 - (wb o a).2.2):=by refine Jm ?_ ?_ ?_<;>simp only[wb]<;>omega
noncomputable def aF(b a:Pt):Pt:=(b.1 - a.1,b.2.1 - a.2.1,b.2.2 - a.2.2)
def ye(o a b:Pt):wb a b=aF (wb o b) (wb o a):=XF o a b
theorem K4(hq:0<t.2)(h:iU d A B t):
 au A (aq d (aF B A))=0/\∃u v:Int,0<=u/\0<=v/\0<u+v/\t.1*au (aq d (aF B A)) (aq d (aF B A))=t.2*au (aq A (aF B A)) (aq d (aF B A))
  /\ (u+v)*au (aq A d) (aq d (aF B A))=v*au (aq d (aF B A)) (aq d (aF B A)):=by
 obtain⟨u,v,h1,h2,h3,c⟩:=h;have c1:=c.dot (aq d (aF B A));have c2:=c.dot (aq (aF B A) (aq d (aF B A)));have c3:=c.dot (aq d (aq d (aF B A)));have z1:au d (aq d (aF B A))=0:=by simp only[au,aq,aF];grind
 have z2:au B (aq d (aF B A))=au A (aq d (aF B A)):=by simp only[au,aq,aF];grind
 have y1:au d (aq (aF B A) (aq d (aF B A)))=au (aq d (aF B A)) (aq d (aF B A)):=by simp only[au,aq,aF];grind
 have y2:au A (aq (aF B A) (aq d (aF B A)))=au (aq A (aF B A)) (aq d (aF B A)):=by simp only[au,aq,aF];grind
 have y3:au B (aq (aF B A) (aq d (aF B A)))=au (aq A (aF B A)) (aq d (aF B A)):=by simp only[au,aq,aF];grind
 have x1:au d (aq d (aq d (aF B A)))=0:=by simp only[au,aq,aF];grind
 have x2:au A (aq d (aq d (aF B A)))=au (aq A d) (aq d (aF B A)):=by simp only[au,aq,aF];grind
 have x3:au B (aq d (aq d (aF B A)))=au (aq A d) (aq d (aF B A)) - au (aq d (aF B A)) (aq d (aF B A)):=by simp only[au,aq,aF];grind
 rw[z1,z2] at c1;rw[y1,y2,y3] at c2;rw[x1,x2,x3] at c3;generalize au (aq d (aF B A)) (aq d (aF B A))=N at *
 generalize au (aq A (aF B A)) (aq d (aF B A))=T at *
 generalize au (aq A d) (aq d (aF B A))=Sh at *
 generalize au A (aq d (aF B A))=Z at *
 refine⟨?_,u,v,h1,h2,h3,?_,?_⟩
 .have:0=t.2*((u+v)*Z):=by grind
  exact qR h3 (qR hq this).symm
 .refine Dy h3 ?_;grind
 .have:0=t.2*((u+v)*Sh - v*N):=by grind
  have:=qR hq this;omega
theorem Ru(hz:au A (aq d (aF B A))=0)(h1:0<=au (aq A d) (aq d (aF B A)))(h2:au (aq A d) (aq d (aF B A))<=au (aq d (aF B A)) (aq d (aF B A)))(h3:0<au (aq d (aF B A)) (aq d (aF B A))):
 iU d A B (au (aq A (aF B A)) (aq d (aF B A)),au (aq d (aF B A)) (aq d (aF B A))):=by
 obtain⟨l1,l2,l3⟩:=lag A d (aF B A);rw[hz] at l1 l2 l3;generalize au (aq d (aF B A)) (aq d (aF B A))=N at *
 generalize au (aq A (aF B A)) (aq d (aF B A))=T at *
 generalize au (aq A d) (aq d (aF B A))=Sh at *
 refine⟨N - Sh,Sh,by omega,h1,by omega,?_,?_,?_⟩<;>simp only[aF] at * <;> grind
theorem Vp(hq:0<t.2)(hp:aq d (aF B A)=(0,0,0))(h:iU d A B t):aq A d=(0,0,0)/\∃u v:Int,0<=u/\0<=v/\0<u+v/\(u+v)*t.1*au d d=t.2*(u*au A d+v*au B d):=by
 obtain⟨u,v,h1,h2,h3,c⟩:=h;have p1:(aq d (aF B A)).1=0:=by rw[hp]
 have p2:(aq d (aF B A)).2.1=0:=by rw[hp]
 have p3:(aq d (aF B A)).2.2=0:=by rw[hp]
 have f:∀E:Pt,au (aq A d) E=0:=λE=>by
  have c1:=c.dot (aq d E);have z1:au d (aq d E)=0:=by simp only[au,aq];grind
  have z2:au A (aq d E)=au (aq A d) E:=by simp only[au,aq];grind
  have z3:au B (aq d E)=au (aq A d) E:=by simp only[au,aq,aF] at *;grind
  rw[z1,z2,z3] at c1;generalize au (aq A d) E=Z at *
  have:0=t.2*((u+v)*Z):=by grind
  exact qR h3 (qR hq this).symm
 refine⟨Jm ?_ ?_ ?_,u,v,h1,h2,h3,?_⟩
 .have:=f (1,0,0);simp only[au] at this;show _=(0:Int);omega
 .have:=f (0,1,0);simp only[au] at this;show _=(0:Int);omega
 .have:=f (0,0,1);simp only[au] at this;show _=(0:Int);omega
 .have:=c.dot d;grind
theorem Fe{x:Pt}(h:aq x d=(0,0,0)):au d d*x.1=au x d*d.1/\au d d*x.2.1=au x d*d.2.1/\au d d*x.2.2=au x d*d.2.2:=by
 have p1:(aq x d).1=0:=by rw[h]
 have p2:(aq x d).2.1=0:=by rw[h]
 have p3:(aq x d).2.2=0:=by rw[h]
 simp only[aq,au] at *
 refine⟨?_,?_,?_⟩<;>grind
theorem RG(hp:aq d (aF B A)=(0,0,0))(h:aq A d=(0,0,0)):aq B d=(0,0,0):=by
 have p1:(aq d (aF B A)).1=0:=by rw[hp]
 have p2:(aq d (aF B A)).2.1=0:=by rw[hp]
 have p3:(aq d (aF B A)).2.2=0:=by rw[hp]
 have q1:(aq A d).1=0:=by rw[h]
 have q2:(aq A d).2.1=0:=by rw[h]
 have q3:(aq A d).2.2=0:=by rw[h]
 simp only[aq,aF] at *
 refine Jm ?_ ?_ ?_<;>grind
theorem K5{a b:Pt}(h0:d≠(0,0,0)):fZ (mO o d a b) (iU d (wb o a) (wb o b)):=by
 have hD:=qp h0;unfold mO vd;rw[ye o a b];generalize wb o a=A;generalize wb o b=B;split
 .rename_i hp;split
  .rename_i hc;have la:=Fe hc;have lb:=Fe (RG hp hc);have key:∀t:Int×Int,0<t.2->iU d A B t->∃u v:Int,0<=u/\0<=v/\0<u+v/\(u+v)*t.1*au d d=t.2*(u*au A d+v*au B d):=λt hq h=>(Vp hq hp h).2;generalize au d d=N at *
   generalize au A d=x at *
   generalize au B d=y at *
   split
   .rename_i hm;intro t h1 h2 h;obtain⟨u,v,u0,v0,uv,e⟩:=key t h2 h;have hx:x<0/\y<0:=by unfold iB at hm;split at hm<;>omega
    have e1:0<=(u+v)*t.1*N:=Int.mul_nonneg (Int.mul_nonneg (by omega) h1) (by omega);have e2:u*x+v*y<0:=by
     rcases Int.lt_or_eq_of_le u0 with q|q
     .have:=Int.mul_neg_of_pos_of_neg q hx.1;have:=Int.mul_nonpos_of_nonneg_of_nonpos v0 (show y<=0 by omega);omega
     .subst q;have:=Int.mul_neg_of_pos_of_neg (show 0<v by omega) hx.2;omega
    have:=Int.mul_neg_of_pos_of_neg h2 e2;omega
   .rename_i hm;have hm':0<=x\/0<=y:=by unfold iB at hm;split at hm<;>omega
    have hmn:(iB (kO x y) 0=x/\0<=x/\x<=y)\/(iB (kO x y) 0=y/\0<=y/\y<=x)\/(iB (kO x y) 0=0/\x<0/\0<=y)\/(iB (kO x y) 0=0/\y<0/\0<=x):=by unfold iB kO;split<;>split<;>omega
    have hge:0<=iB (kO x y) 0:=by rcases hmn with h|h|h|h<;>omega
    refine⟨hge,hD,?_,λt h1 h2 h=>?_⟩
    .obtain⟨a1,a2,a3⟩:=la;obtain⟨b1,b2,b3⟩:=lb;rcases hmn with⟨e,_⟩|⟨e,_⟩|⟨e,_⟩|⟨e,_⟩<;>rw[e]
     .exact⟨1,0,by omega,by omega,by omega,by simp only;grind,by simp only;grind,by simp only;grind⟩
     .exact⟨0,1,by omega,by omega,by omega,by simp only;grind,by simp only;grind,by simp only;grind⟩
     .exact⟨y,-x,by omega,by omega,by omega,by simp only;grind,by simp only;grind,by simp only;grind⟩
     .exact⟨-y,x,by omega,by omega,by omega,by simp only;grind,by simp only;grind,by simp only;grind⟩
    .obtain⟨u,v,u0,v0,uv,e⟩:=key t h2 h;unfold leQ;simp only;have low:∀m:Int,m<=x->m<=y->m*t.2<=t.1*N:=λm m1 m2=>by
      refine Int.le_of_mul_le_mul_left (a:=u+v) ?_ uv;have g1:=Int.mul_le_mul_of_nonneg_left m1 u0;have g2:=Int.mul_le_mul_of_nonneg_left m2 v0;have g3:=Int.mul_le_mul_of_nonneg_left (show u*m+v*m<=u*x+v*y by omega) (show 0<=t.2 by omega);have e1:(u+v)*(m*t.2)=t.2*(u*m+v*m):=by grind
      have e2:(u+v)*(t.1*N)=(u+v)*t.1*N:=by grind
      omega
     rcases hmn with⟨e,_⟩|⟨e,_⟩|⟨e,_⟩|⟨e,_⟩<;>rw[e]
     .exact low _ (by omega) (by omega)
     .exact low _ (by omega) (by omega)
     .have:=Int.mul_nonneg h1 (show 0<=N by omega);omega
     .have:=Int.mul_nonneg h1 (show 0<=N by omega);omega
  .rename_i hc;exact λt h1 h2 h=>hc (Vp h2 hp h).1
 .rename_i hp;have hN:=qp hp;split
  .rename_i hz;split
   .rename_i hb;intro t h1 h2 h;obtain⟨_,u,v,u0,v0,uv,e1,e2⟩:=K4 h2 h;generalize au (aq d (aF B A)) (aq d (aF B A))=N at *
    generalize au (aq A (aF B A)) (aq d (aF B A))=T at *
    generalize au (aq A d) (aq d (aF B A))=Sh at *
    rcases hb with q|q|q
    .have:=Int.mul_neg_of_pos_of_neg h2 q;have:=Int.mul_nonneg h1 (show 0<=N by omega);omega
    .have:=Int.mul_neg_of_pos_of_neg uv q;have:=Int.mul_nonneg v0 (show 0<=N by omega);omega
    .have g1:=Int.mul_lt_mul_of_pos_left q uv;have g2:=Int.mul_nonneg u0 (show 0<=N by omega);have g3:(u+v)*N=u*N+v*N:=by grind
     omega
   .rename_i hb;refine⟨Int.not_lt.mp λq=>hb (.inl q),hN,Ru hz (Int.not_lt.mp λq=>hb (.inr (.inl q))) (Int.not_lt.mp λq=>hb (.inr (.inr q))) hN,λt h1 h2 h=>?_⟩;obtain⟨_,u,v,u0,v0,uv,e1,e2⟩:=K4 h2 h;unfold leQ;simp only;rw[Int.mul_comm,<-e1];omega
  .rename_i hz;exact λt h1 h2 h=>hz (K4 h2 h).1
theorem zh6{a b c:Pt}(h0:d≠(0,0,0)):fZ (nO o d a b c) (λt=>iU d (wb o a) (wb o b) t\/iU d (wb o b) (wb o c) t\/iU d (wb o c) (wb o a) t):=by
 have n0:fZ none (λ_=>False):=λ_ _ _ h=>h;have h1:=(K5 (o:=o) (a:=a) (b:=b) h0).red (Ez _ _ _);have h2:=(K5 (o:=o) (a:=b) (b:=c) h0).red (Ez _ _ _);have h3:=(K5 (o:=o) (a:=c) (b:=a) h0).red (Ez _ _ _);unfold nO;refine(((n0.pick h1).pick h2).pick h3).congr λt _ _=>?_;constructor
 .rintro(((h|h)|h)|h)
  .exact h.elim
  .exact .inl h
  .exact .inr (.inl h)
  .exact .inr (.inr h)
 .rintro(h|h|h)
  .exact .inl (.inl (.inr h))
  .exact .inl (.inr h)
  .exact .inr h
def Uw(o d a b c:Pt):qO (nO o d a b c):=JT (JT (JT (λ_ h=>by cases h) (Ga _)) (Ga _)) (Ga _)
def RK(h:iU d A B t\/iU d B C t\/iU d C A t):eO d A B C t:=by
 rcases h with h|h|h
 .exact Rb h
 .exact Rc h
 .exact Rf h
def Mid(A B C:Pt):Prop:=∃i j:Int,0<=i/\0<=j/\0<i+j/\(i+j)*C.1=i*A.1+j*B.1/\(i+j)*C.2.1=i*A.2.1+j*B.2.1/\(i+j)*C.2.2=i*A.2.2+j*B.2.2
theorem IK(m:Mid A B C)(h:eO d A B C t):iU d A B t:=by
 obtain⟨i,j,i0,j0,ij,m1,m2,m3⟩:=m;obtain⟨u,v,w,u0,v0,w0,uvw,c1,c2,c3⟩:=h;have g1:=Int.mul_nonneg (show 0<=i+j by omega) u0;have g2:=Int.mul_nonneg (show 0<=i+j by omega) v0;have g3:=Int.mul_nonneg i0 w0;have g4:=Int.mul_nonneg j0 w0;have g5:=Int.mul_pos ij uvw;have f:∀x a b c:Int,(i+j)*c=i*a+j*b->(u+v+w)*t.1*x=t.2*(u*a+v*b+w*c)->((i+j)*u+i*w+((i+j)*v+j*w))*t.1*x=t.2*(((i+j)*u+i*w)*a+((i+j)*v+j*w)*b+0*a):=λx a b c e1 e2=>by
  have e3:((i+j)*u+i*w+((i+j)*v+j*w))*t.1*x=(i+j)*((u+v+w)*t.1*x):=by grind
  rw[e3,e2];have e4:(i+j)*(t.2*(u*a+v*b+w*c))=t.2*((i+j)*u*a+(i+j)*v*b+w*((i+j)*c)):=by grind
  rw[e4,e1];grind
 refine⟨(i+j)*u+i*w,(i+j)*v+j*w,by omega,by omega,?_,f _ _ _ _ m1 c1,f _ _ _ _ m2 c2,f _ _ _ _ m3 c3⟩;have:(i+j)*u+i*w+((i+j)*v+j*w)=(i+j)*(u+v+w):=by grind
 omega
theorem Jv(x y z:Int)(hne:¬(x=y/\y=z))(e1:(y - x)*C.1+(z - y)*A.1+(x - z)*B.1=0)(e2:(y - x)*C.2.1+(z - y)*A.2.1+(x - z)*B.2.1=0)(e3:(y - x)*C.2.2+(z - y)*A.2.2+(x - z)*B.2.2=0):Mid A B C\/Mid B C A\/Mid C A B:=by
 by_cases h1:x<=z/\z<=y
 .exact .inl ⟨y - z,z - x,by omega,by omega,by omega,by grind,by grind,by grind⟩
 .by_cases h2:y<=z/\z<=x
  .exact .inl ⟨z - y,x - z,by omega,by omega,by omega,by grind,by grind,by grind⟩
  .by_cases h3:y<=x/\x<=z
   .exact .inr (.inl ⟨z - x,x - y,by omega,by omega,by omega,by grind,by grind,by grind⟩)
   .by_cases h4:z<=x/\x<=y
    .exact .inr (.inl ⟨x - z,y - x,by omega,by omega,by omega,by grind,by grind,by grind⟩)
    .by_cases h5:z<=y/\y<=x
     .exact .inr (.inr ⟨x - y,y - z,by omega,by omega,by omega,by grind,by grind,by grind⟩)
     .exact .inr (.inr ⟨y - x,z - y,by omega,by omega,by omega,by grind,by grind,by grind⟩)
theorem zmD(h:aq (aF B A) (aF C A)=(0,0,0)):Mid A B C\/Mid B C A\/Mid C A B:=by
 have p1:(aq (aF B A) (aF C A)).1=0:=by rw[h]
 have p2:(aq (aF B A) (aF C A)).2.1=0:=by rw[h]
 have p3:(aq (aF B A) (aF C A)).2.2=0:=by rw[h]
 simp only[aq,aF] at p1 p2 p3;by_cases h1:A.1=B.1/\B.1=C.1
 .by_cases h2:A.2.1=B.2.1/\B.2.1=C.2.1
  .by_cases h3:A.2.2=B.2.2/\B.2.2=C.2.2
   .exact .inl ⟨1,0,by omega,by omega,by omega,by omega,by omega,by omega⟩
   .exact Jv A.2.2 B.2.2 C.2.2 h3 (by grind) (by grind) (by grind)
  .exact Jv A.2.1 B.2.1 C.2.1 h2 (by grind) (by grind) (by grind)
 .exact Jv A.1 B.1 C.1 h1 (by grind) (by grind) (by grind)
theorem Jq(h:eO d A B C t):eO d B C A t:=by obtain⟨u,v,w,h1,h2,h3,h4,c1,c2,c3⟩:=h;refine⟨v,w,u,h2,h3,h1,by omega,?_,?_,?_⟩<;>grind
theorem zkZ(hf:aq (aF B A) (aF C A)=(0,0,0))(h:eO d A B C t):iU d A B t\/iU d B C t\/iU d C A t:=by
 rcases zmD hf with m|m|m
 .exact .inl (IK m h)
 .exact .inr (.inl (IK m (Jq h)))
 .exact .inr (.inr (IK m (Jq (Jq h))))
noncomputable def aff(f:Int×Int)(t:Int×Int):Int:=f.1*t.2+f.2*t.1
theorem Vo{f r s:Int×Int}(hr:0<r.2)(hs:0<s.2)(ht:0<t.2)(h1:leQ r s)(h2:leQ s t)(f1:0<=aff f r)(f2:0<=aff f t):0<=aff f s:=by
 unfold leQ aff at *
 by_cases hb:0<=f.2
 .have g1:=Int.mul_nonneg f1 (show 0<=s.2 by omega);have g2:=Int.mul_le_mul_of_nonneg_left h1 hb;have e:(f.1*r.2+f.2*r.1)*s.2=r.2*(f.1*s.2)+f.2*(r.1*s.2):=by grind
  have e2:r.2*(f.1*s.2+f.2*s.1)=r.2*(f.1*s.2)+f.2*(s.1*r.2):=by grind
  refine Int.le_of_mul_le_mul_left (a:=r.2) ?_ hr;omega
 .have g1:=Int.mul_nonneg f2 (show 0<=s.2 by omega);have g2:=Int.mul_le_mul_of_nonpos_left (show f.2<=0 by omega) h2;have e:(f.1*t.2+f.2*t.1)*s.2=t.2*(f.1*s.2)+f.2*(t.1*s.2):=by grind
  have e2:t.2*(f.1*s.2+f.2*s.1)=t.2*(f.1*s.2)+f.2*(s.1*t.2):=by grind
  refine Int.le_of_mul_le_mul_left (a:=t.2) ?_ ht;omega
theorem Vu{t:Int×Int}(ht0:0<=t.1)(ht:0<t.2):∀L:List (Int×Int),(∀f∈L,0<=aff f t)->(∃f∈L,f.1<0)->∃r:Int×Int,0<=r.1/\0<r.2/\leQ r t/\(∀f∈L,0<=aff f r)/\∃f∈L,f.1<0/\aff f r=0
 |[],_,h=>by obtain⟨_,h,_⟩:=h;cases h
 |f::L,ha,hn=>by
  have hf:=ha f (fL ..);have hL:∀g∈L,0<=aff g t:=λg hg=>ha g (cM _ hg);by_cases hneg:∃g∈L,g.1<0
  .obtain⟨r,r0,r1,r2,r3,g,g1,g2,g3⟩:=Vu ht0 ht L hL hneg;by_cases hr:0<=aff f r
   .exact⟨r,r0,r1,r2,λx hx=>by rcases List.mem_cons.mp hx with e|e;exact e ▸ hr;exact r3 x e,g,cM _ g1,g2,g3⟩
   .have hb:0<f.2:=by
     refine Int.not_le.mp λq=>hr ?_;unfold aff leQ at *
     have g1:=Int.mul_nonneg hf (show 0<=r.2 by omega);have g2:=Int.mul_le_mul_of_nonpos_left q r2;refine Int.le_of_mul_le_mul_left (a:=t.2) ?_ ht;have e:(f.1*t.2+f.2*t.1)*r.2=t.2*(f.1*r.2)+f.2*(t.1*r.2):=by grind
     have e2:t.2*(f.1*r.2+f.2*r.1)=t.2*(f.1*r.2)+f.2*(r.1*t.2):=by grind
     omega
    have hfr:f.1*r.2<0:=by unfold aff at hr;have:=Int.mul_nonneg (show 0<=f.2 by omega) r0;omega
    have G9:f.1<0:=by refine Int.not_le.mp λq=>?_;have:=Int.mul_nonneg q (show 0<=r.2 by omega);omega
    have l1:leQ r (-f.1,f.2):=by
     unfold leQ aff at *
     simp only;have e1:r.1*f.2=f.2*r.1:=by grind
     have e2 : -f.1*r.2 = -(f.1*r.2):=by grind
     omega
    have l2:leQ (-f.1,f.2) t:=by
     unfold leQ aff at *
     simp only;have e1:t.1*f.2=f.2*t.1:=by grind
     have e2 : -f.1*t.2 = -(f.1*t.2):=by grind
     omega
    have z:aff f (-f.1,f.2)=0:=by unfold aff;simp only;grind
    refine⟨(-f.1,f.2),by simp only;omega,hb,l2,λx hx=>?_,f,fL ..,G9,z⟩;rcases List.mem_cons.mp hx with e|e
    .rw[e,z];omega
    .exact Vo r1 hb ht l1 l2 (r3 x e) (hL x e)
  .have G9:f.1<0:=by
    obtain⟨g,g1,g2⟩:=hn;rcases List.mem_cons.mp g1 with e|e
    .exact e ▸ g2
    .exact absurd ⟨g,e,g2⟩ hneg
   have hft:f.1*t.2<0:=Int.mul_neg_of_neg_of_pos G9 ht;have hb:0<f.2:=by refine Int.not_le.mp λq=>?_;have:=Int.mul_nonpos_of_nonpos_of_nonneg q ht0;unfold aff at hf;omega
   have l2:leQ (-f.1,f.2) t:=by
    unfold leQ aff at *
    simp only;have e1:t.1*f.2=f.2*t.1:=by grind
    have e2 : -f.1*t.2 = -(f.1*t.2):=by grind
    omega
   have l1:leQ (0,1) (-f.1,f.2):=by unfold leQ;simp only;omega
   have z:aff f (-f.1,f.2)=0:=by unfold aff;simp only;grind
   refine⟨(-f.1,f.2),by simp only;omega,hb,l2,λx hx=>?_,f,fL ..,G9,z⟩;rcases List.mem_cons.mp hx with e|e
   .rw[e,z];omega
   .refine Vo (r:=(0,1)) (by decide) hb ht l1 l2 ?_ (hL x e);have:¬x.1<0:=λq=>hneg ⟨x,e,q⟩;unfold aff;simp only;omega
theorem fZ.widen{m:Tq}(h:fZ m X)(sub:∀t,X t->Y t)(dom:∀t:Int×Int,0<=t.1->0<t.2->Y t->∃r:Int×Int,0<=r.1/\0<r.2/\X r/\leQ r t):fZ m Y:=by
 cases m with
 |none =>
  intro t h1 h2 hy;obtain⟨r,r1,r2,r3,_⟩:=dom t h1 h2 hy;exact h r r1 r2 r3
 |some s =>
  obtain⟨a1,a2,a3,a4⟩:=h;refine⟨a1,a2,sub _ a3,λt h1 h2 hy=>?_⟩;obtain⟨r,r1,r2,r3,r4⟩:=dom t h1 h2 hy;exact zO a2 r2 h2 (a4 r r1 r2 r3) r4
def rC(d A B C:Pt):au d (aq A B)+au d (aq B C)+au d (aq C A)=au d (aq (aF B A) (aF C A)):=by simp only[au,aq,aF];grind
theorem Gj(n A B C:Pt):au n (aq B C)*A.1+au n (aq C A)*B.1+au n (aq A B)*C.1=au A (aq (aF B A) (aF C A))*n.1
 /\ au n (aq B C)*A.2.1+au n (aq C A)*B.2.1+au n (aq A B)*C.2.1=au A (aq (aF B A) (aF C A))*n.2.1
 /\ au n (aq B C)*A.2.2+au n (aq C A)*B.2.2+au n (aq A B)*C.2.2=au A (aq (aF B A) (aF C A))*n.2.2:=by
 simp only[au,aq,aF];refine⟨?_,?_,?_⟩<;>grind
theorem K1(hq:0<t.2)(h:eO d A B C t):∃u v w:Int,0<=u/\0<=v/\0<=w/\0<u+v+w
 /\ t.1*au d (aq (aF B A) (aF C A))=t.2*au A (aq (aF B A) (aF C A))
 /\ (u+v+w)*au d (aq B C)=u*au d (aq (aF B A) (aF C A))
 /\ (u+v+w)*au d (aq C A)=v*au d (aq (aF B A) (aF C A))
 /\ (u+v+w)*au d (aq A B)=w*au d (aq (aF B A) (aF C A)):=by
 obtain⟨u,v,w,u0,v0,w0,hs,c⟩:=h;refine⟨u,v,w,u0,v0,w0,hs,?_⟩;have c0:=c.dot (aq (aF B A) (aF C A));have b0:au B (aq (aF B A) (aF C A))=au A (aq (aF B A) (aF C A)):=by simp only[au,aq,aF];grind
 have d0:au C (aq (aF B A) (aF C A))=au A (aq (aF B A) (aF C A)):=by simp only[au,aq,aF];grind
 rw[b0,d0] at c0;have cA:=c.dot (aq A d);have cB:=c.dot (aq B d);have cC:=c.dot (aq C d);have z:∀X:Pt,au d (aq X d)=0:=λX=>by simp only[au,aq];grind
 have y:∀X:Pt,au X (aq X d)=0:=λX=>by simp only[au,aq];grind
 have x:∀X Y:Pt,au X (aq Y d)=au d (aq X Y):=λX Y=>by simp only[au,aq];grind
 have s:∀X Y:Pt,au d (aq X Y) = - au d (aq Y X):=λX Y=>by simp only[au,aq];grind
 rw[z,y,x B A,x C A,s B A] at cA;rw[z,y,x A B,x C B,s C B] at cB;rw[z,y,x A C,x B C,s A C] at cC;have e:=rC d A B C;generalize au d (aq (aF B A) (aF C A))=V at *
 generalize au A (aq (aF B A) (aF C A))=U at *
 generalize au d (aq A B)=s1 at *
 generalize au d (aq B C)=s2 at *
 generalize au d (aq C A)=s3 at *
 have kA:w*s3 - v*s1=0:=qR hq (by grind);have kB:u*s1 - w*s2=0:=qR hq (by grind);have kC:v*s2 - u*s3=0:=qR hq (by grind);refine⟨?_,?_,?_,?_⟩
 .refine Dy hs ?_;grind
 .subst e;grind
 .subst e;grind
 .subst e;grind
theorem Rk(h1:0<=au d (aq A B))(h2:0<=au d (aq B C))(h3:0<=au d (aq C A))(hV:0<au d (aq (aF B A) (aF C A))):eO d A B C (au A (aq (aF B A) (aF C A)),au d (aq (aF B A) (aF C A))):=by
 obtain⟨m1,m2,m3⟩:=Gj d A B C;have e:=rC d A B C;generalize au d (aq (aF B A) (aF C A))=V at *
 generalize au A (aq (aF B A) (aF C A))=U at *
 generalize au d (aq A B)=s1 at *
 generalize au d (aq B C)=s2 at *
 generalize au d (aq C A)=s3 at *
 refine⟨s2,s3,s1,h2,h3,h1,by omega,?_,?_,?_⟩<;>simp only<;>grind
theorem S8(h1:au d (aq A B)<=0)(h2:au d (aq B C)<=0)(h3:au d (aq C A)<=0)(hV:au d (aq (aF B A) (aF C A))<0):eO d A B C (-au A (aq (aF B A) (aF C A)),-au d (aq (aF B A) (aF C A))):=by
 obtain⟨m1,m2,m3⟩:=Gj d A B C;have e:=rC d A B C;generalize au d (aq (aF B A) (aF C A))=V at *
 generalize au A (aq (aF B A) (aF C A))=U at *
 generalize au d (aq A B)=s1 at *
 generalize au d (aq B C)=s2 at *
 generalize au d (aq C A)=s3 at *
 refine⟨-s2,-s3,-s1,by omega,by omega,by omega,by omega,?_,?_,?_⟩<;>simp only<;>grind
section
variable {d A B C:Pt}
noncomputable abbrev bT(A B C:Pt):Pt:=aq (aF B A) (aF C A)
noncomputable def f1(d A B C:Pt):Int×Int:=(au (bT A B C) (aq A B),au (bT A B C) (aq (aF B A) d))
noncomputable def f2(d A B C:Pt):Int×Int:=(au (bT A B C) (aq B C),au (bT A B C) (aq (aF C B) d))
noncomputable def f3(d A B C:Pt):Int×Int:=(au (bT A B C) (aq C A),au (bT A B C) (aq (aF A C) d))
theorem Yi(d A B C:Pt):(f1 d A B C).1+(f2 d A B C).1+(f3 d A B C).1=au (bT A B C) (bT A B C)/\(f1 d A B C).2+(f2 d A B C).2+(f3 d A B C).2=0:=by refine⟨rC (bT A B C) A B C,?_⟩;simp only[f1,f2,f3];generalize bT A B C=n;simp only[au,aq,aF];grind
theorem K3{n X Y Z:Pt}{N v p q:Int}(c:gw ((u+v+w)*p) d q u v w X Y Z)(hN:au n (aq X Y)+au n (aq Y Z)+au n (aq Z X)=N):
 (u+v+w)*(au n (aq Y Z)*q+au n (aq (aF Z Y) d)*p)=q*u*N:=by
 have c0:=c.dot (aq (aF Z Y) n);have b0:au d (aq (aF Z Y) n) = - au n (aq (aF Z Y) d):=by simp only[au,aq,aF];grind
 have b1:au X (aq (aF Z Y) n) = - au n (aq Z X) - au n (aq X Y):=by simp only[au,aq,aF];grind
 have b2:au Y (aq (aF Z Y) n)=au n (aq Y Z):=by simp only[au,aq,aF];grind
 have b3:au Z (aq (aF Z Y) n)=au n (aq Y Z):=by simp only[au,aq,aF];grind
 rw[b0,b1,b2,b3] at c0;generalize au n (aq X Y)=s1 at *
 generalize au n (aq Y Z)=s2 at *
 generalize au n (aq Z X)=s3 at *
 generalize au n (aq (aF Z Y) d)=s4 at *
 subst hN;grind
def Ub{k q v:Int}(c:gw k d q u v w A B C):gw k d q v w u B C A:=by obtain⟨c1,c2,c3⟩:=c;refine⟨?_,?_,?_⟩<;>grind
def yH{s x y:Int}(hs:0<s)(h:s*x=y)(hy:0<=y):0<=x:=by refine Int.le_of_mul_le_mul_left (a:=s) ?_ hs;omega
theorem zl8(hN:0<au (bT A B C) (bT A B C))(hq:0<t.2)(h:eO d A B C t):0<=aff (f1 d A B C) t/\0<=aff (f2 d A B C) t/\0<=aff (f3 d A B C) t:=by obtain⟨u,v,w,u0,v0,w0,hs,c⟩:=h;have e:au (bT A B C) (aq A B)+au (bT A B C) (aq B C)+au (bT A B C) (aq C A)=au (bT A B C) (bT A B C):=rC (bT A B C) A B C;have c':=Ub c;have c'':=Ub c';rw[show u+v+w=v+w+u by omega] at c';rw[show u+v+w=w+u+v by omega] at c'';have p2:=K3 c e;have p3:=K3 c' (N:=au (bT A B C) (bT A B C)) (n:=bT A B C) (by omega);have p1:=K3 c'' (N:=au (bT A B C) (bT A B C)) (n:=bT A B C) (by omega);have g:∀x:Int,0<=x->0<=t.2*x*au (bT A B C) (bT A B C):=λx hx=>Int.mul_nonneg (Int.mul_nonneg (by omega) hx) (by omega);exact⟨yH (by omega) p1 (g w w0),yH (by omega) p2 (g u u0),yH (by omega) p3 (g v v0)⟩
theorem TJ(hN:0<au (bT A B C) (bT A B C))(hV:au d (bT A B C)=0)(hU:au A (bT A B C)=0)(hq:0<t.2):
 gw ((aff (f2 d A B C) t+aff (f3 d A B C) t+aff (f1 d A B C) t)*t.1) d t.2 (aff (f2 d A B C) t) (aff (f3 d A B C) t) (aff (f1 d A B C) t) A B C/\0<aff (f2 d A B C) t+aff (f3 d A B C) t+aff (f1 d A B C) t:=by
 obtain⟨m1,m2,m3⟩:=Gj (bT A B C) A B C;obtain⟨l1,l2,l3⟩:=lag d (aF B A) (aF C A);obtain⟨s1,s2⟩:=Yi d A B C;have sum:aff (f2 d A B C) t+aff (f3 d A B C) t+aff (f1 d A B C) t=au (bT A B C) (bT A B C)*t.2:=by
  unfold aff;rw[<-s1];have:((f1 d A B C).2+(f2 d A B C).2+(f3 d A B C).2)*t.1=0:=by rw[s2];grind
  grind
 rw[hU] at m1 m2 m3;rw[hV] at l1 l2 l3;have k1:au (aq d (aF C A)) (bT A B C)=(f3 d A B C).2:=by simp only[f3];generalize bT A B C=n;simp only[au,aq,aF];grind
 have k2 : - au (aq d (aF B A)) (bT A B C)=(f1 d A B C).2:=by simp only[f1];generalize bT A B C=n;simp only[au,aq,aF];grind
 rw[k1] at l1 l2 l3;have k2':au (aq d (aF B A)) (bT A B C) = -(f1 d A B C).2:=by omega
 rw[k2'] at l1 l2 l3;refine⟨?_,by rw[sum];exact Int.mul_pos hN hq⟩;rw[sum];have j1:au (bT A B C) (aq B C)=(f2 d A B C).1:=rfl;have j2:au (bT A B C) (aq C A)=(f3 d A B C).1:=rfl;have j3:au (bT A B C) (aq A B)=(f1 d A B C).1:=rfl;rw[j1,j2,j3] at m1 m2 m3;unfold aff;generalize au (bT A B C) (bT A B C)=N at *
 generalize f1 d A B C=g1 at *
 generalize f2 d A B C=g2 at *
 generalize f3 d A B C=g3 at *
 obtain⟨x1,y1⟩:=g1;obtain⟨x2,y2⟩:=g2;obtain⟨x3,y3⟩:=g3;simp only[aF] at *
 have hy:y2 = - y1 - y3:=by omega
 subst hy;have gen:∀D a b c n1 n2:Int,x2*a+x3*b+x1*c=0*n1->N*D=y3*(b - a) - -y1*(c - a)+0*n2->N*t.2*t.1*D=t.2*((x2*t.2+(-y1 - y3)*t.1)*a+(x3*t.2+y3*t.1)*b+(x1*t.2+y1*t.1)*c):=λD a b c n1 n2 e1 e2=>by
  have e3:N*t.2*t.1*D=t.2*t.1*(N*D):=by grind
  rw[e3,e2];have e4:t.2*((x2*t.2+(-y1 - y3)*t.1)*a+(x3*t.2+y3*t.1)*b+(x1*t.2+y1*t.1)*c)=t.2*(t.2*(x2*a+x3*b+x1*c)+t.1*((-y1 - y3)*a+y3*b+y1*c)):=by grind
  rw[e4,e1];grind
 exact⟨gen _ _ _ _ _ _ m1 l1,gen _ _ _ _ _ _ m2 l2,gen _ _ _ _ _ _ m3 l3⟩
end
theorem zi9(hN:0<au (bT A B C) (bT A B C))(hV:au d (bT A B C)=0)(hU:au A (bT A B C)=0)(hout:au (bT A B C) (aq A B)<0\/au (bT A B C) (aq B C)<0\/au (bT A B C) (aq C A)<0)(hp:0<=t.1)(hq:0<t.2)(h:eO d A B C t):
 ∃r:Int×Int,0<=r.1/\0<r.2/\(iU d A B r\/iU d B C r\/iU d C A r)/\leQ r t:=by
 obtain⟨a1,a2,a3⟩:=zl8 hN hq h;obtain⟨r,r0,r1,r2,r3,f,hf,_,hz⟩:=Vu hp hq [f1 d A B C,f2 d A B C,f3 d A B C] (by
  intro f hf;simp only[List.mem_cons,lN,or_false] at hf;rcases hf with e|e|e<;>subst e<;>assumption) (by
  rcases hout with q|q|q
  .exact⟨f1 d A B C,by simp,q⟩
  .exact⟨f2 d A B C,by simp,q⟩
  .exact⟨f3 d A B C,by simp,q⟩)
 refine⟨r,r0,r1,?_,r2⟩;have n1:=r3 (f1 d A B C) (by simp);have n2:=r3 (f2 d A B C) (by simp);have n3:=r3 (f3 d A B C) (by simp);obtain⟨⟨c1,c2,c3⟩,hs⟩:=TJ (t:=r) hN hV hU r1;simp only[List.mem_cons,lN,or_false] at hf;rcases hf with e|e|e<;>subst e
 .left;rw[hz] at c1 c2 c3 hs;generalize aff (f2 d A B C) r=x2 at *
  generalize aff (f3 d A B C) r=x3 at *
  refine⟨x2,x3,n2,n3,by omega,?_,?_,?_⟩<;>grind
 .right;left;rw[hz] at c1 c2 c3 hs;generalize aff (f1 d A B C) r=x1 at *
  generalize aff (f3 d A B C) r=x3 at *
  refine⟨x3,x1,n3,n1,by omega,?_,?_,?_⟩<;>grind
 .right;right;rw[hz] at c1 c2 c3 hs;generalize aff (f1 d A B C) r=x1 at *
  generalize aff (f2 d A B C) r=x2 at *
  refine⟨x1,x2,n1,n2,by omega,?_,?_,?_⟩<;>grind
theorem FQ(o w a b c:Pt):bW o w a b c=true↔(0<=cH o w a b/\0<=cH o w b c/\0<=cH o w c a)\/(cH o w a b<=0/\cH o w b c<=0/\cH o w c a<=0):=by unfold bW;simp only[mG,dh,uQ,and_assoc]
theorem zjK{a b c:Pt}(h0:d≠(0,0,0)):fZ (mR o d a b c) (eO d (wb o a) (wb o b) (wb o c)):=by
 have ef:=zh6 (o:=o) (a:=a) (b:=b) (c:=c) h0;have gd:=FQ o d a b c;have gn:=FQ o (bT (wb o a) (wb o b) (wb o c)) a b c;unfold mR vm;unfold cH at gd gn;rw[ye o a b,ye o a c];generalize wb o a=A at *
 generalize wb o b=B at *
 generalize wb o c=C at *
 split
 .rename_i hf;exact ef.congr λt h1 h2=>⟨RK,zkZ hf⟩
 .rename_i hf;have hN:0<au (bT A B C) (bT A B C):=qp hf;split
  .rename_i hV;split
   .rename_i hU;have sn:au (bT A B C) (aq A B)+au (bT A B C) (aq B C)+au (bT A B C) (aq C A)=au (bT A B C) (bT A B C):=rC (bT A B C) A B C;split
    .rename_i hg;refine⟨Int.le_refl _,by decide,?_,λt h1 h2 _=>by unfold leQ;simp only;omega⟩;obtain⟨c,hs⟩:=TJ (d:=d) (t:=(0,1)) hN hV hU (by decide);have e1:aff (f1 d A B C) (0,1)=au (bT A B C) (aq A B):=by unfold aff f1;simp only;omega
     have e2:aff (f2 d A B C) (0,1)=au (bT A B C) (aq B C):=by unfold aff f2;simp only;omega
     have e3:aff (f3 d A B C) (0,1)=au (bT A B C) (aq C A):=by unfold aff f3;simp only;omega
     rcases gn.mp hg with g|g
     .exact⟨_,_,_,by omega,by omega,by omega,hs,c⟩
     .omega
    .rename_i hg;refine ef.widen (λt=>RK) λt h1 h2 h=>zi9 hN hV hU ?_ h1 h2 h;refine Classical.byContradiction λq=>hg (gn.mpr (.inl ?_));omega
   .rename_i hU;intro t h1 h2 h;obtain⟨_,_,_,_,_,_,_,e,_⟩:=K1 h2 h;rw[hV] at e;exact hU (qR h2 (by omega))
  .rename_i hV;have sn:=rC d A B C;split
   .rename_i CT;have key:∀t:Int×Int,0<=t.1->0<t.2->eO d A B C t->t.1*au d (aq (aF B A) (aF C A))=t.2*au A (aq (aF B A) (aF C A))/\bW o d a b c=true:=λt h1 h2 h=>by
     obtain⟨u,v,w,u0,v0,w0,hs,e,e2,e3,e1⟩:=K1 h2 h;refine⟨e,gd.mpr (.inr ⟨?_,?_,?_⟩)⟩
     .have:=Int.mul_nonpos_of_nonneg_of_nonpos w0 (show au d (aq (aF B A) (aF C A))<=0 by omega);exact Int.le_of_mul_le_mul_left (a:=u+v+w) (by omega) hs
     .have:=Int.mul_nonpos_of_nonneg_of_nonpos u0 (show au d (aq (aF B A) (aF C A))<=0 by omega);exact Int.le_of_mul_le_mul_left (a:=u+v+w) (by omega) hs
     .have:=Int.mul_nonpos_of_nonneg_of_nonpos v0 (show au d (aq (aF B A) (aF C A))<=0 by omega);exact Int.le_of_mul_le_mul_left (a:=u+v+w) (by omega) hs
    split
    .rename_i hb;intro t h1 h2 h;obtain⟨e,g⟩:=key t h1 h2 h;rcases hb with q|q
     .have g1:=Int.mul_nonpos_of_nonneg_of_nonpos h1 (show au d (aq (aF B A) (aF C A))<=0 by omega);have g2:=Int.mul_pos h2 (show 0<au A (aq (aF B A) (aF C A)) by omega);omega
     .rw[q] at g;cases g
    .rename_i hb;have hg:bW o d a b c=true:=by
      rcases Bool.eq_false_or_eq_true (bW o d a b c) with q|q
      .exact q
      .exact absurd (.inr q) hb
     refine fZ.red (m:=some (_,_)) (zT _ _ _ _) ⟨Int.not_lt.mp λq=>hb (.inl q),by simp only;omega,?_,λt h1 h2 h=>?_⟩
     .rcases gd.mp hg with g|g
      .omega
      .exact S8 g.1 g.2.1 g.2.2 CT
     .obtain⟨e,_⟩:=key t h1 h2 h;unfold leQ;simp only;rw[Int.mul_neg,Int.neg_mul];have:=Int.mul_comm t.2 (au A (aq (aF B A) (aF C A)));omega
   .rename_i CT;have CQ:0<au d (aq (aF B A) (aF C A)):=by omega
    have key:∀t:Int×Int,0<=t.1->0<t.2->eO d A B C t->t.1*au d (aq (aF B A) (aF C A))=t.2*au A (aq (aF B A) (aF C A))/\bW o d a b c=true:=λt h1 h2 h=>by
     obtain⟨u,v,w,u0,v0,w0,hs,e,e2,e3,e1⟩:=K1 h2 h;refine⟨e,gd.mpr (.inl ⟨?_,?_,?_⟩)⟩
     .exact yH hs e1 (Int.mul_nonneg w0 (show 0<=au d (aq (aF B A) (aF C A)) by omega))
     .exact yH hs e2 (Int.mul_nonneg u0 (show 0<=au d (aq (aF B A) (aF C A)) by omega))
     .exact yH hs e3 (Int.mul_nonneg v0 (show 0<=au d (aq (aF B A) (aF C A)) by omega))
    split
    .rename_i hb;intro t h1 h2 h;obtain⟨e,g⟩:=key t h1 h2 h;rcases hb with q|q
     .have g1:=Int.mul_nonneg h1 (show 0<=au d (aq (aF B A) (aF C A)) by omega);have g2:=Int.mul_neg_of_pos_of_neg h2 q;omega
     .rw[q] at g;cases g
    .rename_i hb;have hg:bW o d a b c=true:=by
      rcases Bool.eq_false_or_eq_true (bW o d a b c) with q|q
      .exact q
      .exact absurd (.inr q) hb
     refine fZ.red (m:=some (_,_)) (zT _ _ _ _) ⟨Int.not_lt.mp λq=>hb (.inl q),CQ,?_,λt h1 h2 h=>?_⟩
     .rcases gd.mp hg with g|g
      .exact Rk g.1 g.2.1 g.2.2 CQ
      .omega
     .obtain⟨e,_⟩:=key t h1 h2 h;show au A (aq (aF B A) (aF C A))*t.2<=t.1*au d (aq (aF B A) (aF C A));have:=Int.mul_comm t.2 (au A (aq (aF B A) (aF C A)));omega
theorem znv(o d a b c:Pt):qO (mR o d a b c):=by
 unfold mR vm;intro r hr;split at hr
 .exact Uw _ _ _ _ _ r hr
 .split at hr
  .split at hr
   .split at hr
    .cases hr;decide
    .exact Uw _ _ _ _ _ r hr
   .cases hr
  .split at hr
   .split at hr
    .cases hr
    .cases hr;exact Gi _ _
   .split at hr
    .cases hr
    .cases hr;exact Gi _ _
theorem Ju{v s p q x dx l h a b c:Int}(u0:0<=u)(v0:0<=v)(w0:0<=w)(hs:0<u+v+w)(hq:0<q)(e:(u+v+w)*p*dx=q*(u*(a - x)+v*(b - x)+w*(c - x)))(ha:l<=a/\a<=h)(hb:l<=b/\b<=h)(hc:l<=c/\c<=h):l*q<=x*q+dx*p/\x*q+dx*p<=h*q:=by
 have e1:(u+v+w)*(x*q+dx*p)=q*(u*a+v*b+w*c):=by grind
 have g1:=Int.mul_le_mul_of_nonneg_left ha.1 u0;have g2:=Int.mul_le_mul_of_nonneg_left hb.1 v0;have g3:=Int.mul_le_mul_of_nonneg_left hc.1 w0;have g4:=Int.mul_le_mul_of_nonneg_left ha.2 u0;have g5:=Int.mul_le_mul_of_nonneg_left hb.2 v0;have g6:=Int.mul_le_mul_of_nonneg_left hc.2 w0;have g7:=Int.mul_le_mul_of_nonneg_left (show u*l+v*l+w*l<=u*a+v*b+w*c by omega) (show 0<=q by omega);have g8:=Int.mul_le_mul_of_nonneg_left (show u*a+v*b+w*c<=u*h+v*h+w*h by omega) (show 0<=q by omega);constructor
 .refine Int.le_of_mul_le_mul_left (a:=u+v+w) ?_ hs;have:(u+v+w)*(l*q)=q*(u*l+v*l+w*l):=by grind
  omega
 .refine Int.le_of_mul_le_mul_left (a:=u+v+w) ?_ hs;have:(u+v+w)*(h*q)=q*(u*h+v*h+w*h):=by grind
  omega
end MX.P
end
section
namespace MX.P
open PySem L2 MX
theorem Gp{lo hi:Pt}(h0:d≠(0,0,0)):fZ ((iu o d lo hi).map (·.1)) (inB o d lo hi):=by
 have i0:Qt (λ_=>True) [(0,1)] ((0,1),none):=by
  refine⟨⟨by simp,by simp,λm hm=>by cases hm⟩,λt h1 h2=>?_,?_,λl hl=>by cases hl⟩
  .simp only[true_iff];refine⟨?_,λl hl=>by cases hl⟩;unfold leQ;simp;omega
  .rw[vH (by decide)];decide
 have j1:=J7 (j:=0) (o:=o) (d:=d) (lo:=lo) (hi:=hi) i0;unfold iu;cases e1:d8 ((0,1),none) o.1 d.1 lo.1 hi.1 with
 |none =>
  rw[show d8 ((0,1),none) (co 0 o) (co 0 d) (co 0 lo) (co 0 hi)=none from e1] at j1;exact λt q1 q2 q=>j1 t q1 q2 ⟨trivial,q.1⟩
 |some a =>
  rw[show d8 ((0,1),none) (co 0 o) (co 0 d) (co 0 lo) (co 0 hi)=some a from e1] at j1;have j2:=J7 (j:=1) (o:=o) (d:=d) (lo:=lo) (hi:=hi) j1;simp only[b8];cases e2:d8 a o.2.1 d.2.1 lo.2.1 hi.2.1 with
  |none =>
   rw[show d8 a (co 1 o) (co 1 d) (co 1 lo) (co 1 hi)=none from e2] at j2;exact λt q1 q2 q=>j2 t q1 q2 ⟨⟨trivial,q.1⟩,q.2.1⟩
  |some b =>
   rw[show d8 a (co 1 o) (co 1 d) (co 1 lo) (co 1 hi)=some b from e2] at j2;have j3:=J7 (j:=2) (o:=o) (d:=d) (lo:=lo) (hi:=hi) j2;simp only[b8];cases e3:d8 b o.2.2 d.2.2 lo.2.2 hi.2.2 with
   |none =>
    rw[show d8 b (co 2 o) (co 2 d) (co 2 lo) (co 2 hi)=none from e3] at j3;exact λt q1 q2 q=>j3 t q1 q2 ⟨⟨⟨trivial,q.1⟩,q.2.1⟩,q.2.2⟩
   |some c =>
    rw[show d8 b (co 2 o) (co 2 d) (co 2 lo) (co 2 hi)=some c from e3] at j3;simp only[b8];have hn:c.2≠none:=by
     by_cases q1:d.1=0
     .by_cases q2:d.2.1=0
      .have q3:d.2.2≠0:=λq3=>h0 (by show(d.1,d.2.1,d.2.2)=_;rw[q1,q2,q3]);exact nW e3 (.inr q3)
      .exact nW e3 (.inl (nW e2 (.inr q2)))
     .exact nW e3 (.inl (nW e2 (.inl (nW e1 (.inr q1)))))
    have hB:∀t:Int×Int,0<=t.1->0<t.2->(inB o d lo hi t↔leQ c.1 t/\∀l,c.2=some l->leQ t l):=λt q1 q2=>by rw[<-j3.iff t q1 q2];exact⟨λq=>⟨⟨⟨trivial,q.1⟩,q.2.1⟩,q.2.2⟩,λq=>⟨q.1.1.2,q.1.2,q.2⟩⟩
    cases hl:c.2 with
    |none=>exact absurd hl hn
    |some l =>
     simp only;have bN:=j3.pos.2.2 l hl;have wN:=j3.pos.2.1;have f0:=j3.pos.1;by_cases hc:dj l c.1
     .rw[if_pos hc];intro t q1 q2 q;have:=(hB t q1 q2).mp q;exact Tw (yG wN q2 bN this.1 (this.2 l hl)) hc
     .rw[if_neg hc];have hfl:=mX hc;exact⟨f0,wN,(hB _ f0 wN).mpr ⟨zmn _,λl' hl'=>by rw[hl] at hl';cases hl';exact hfl⟩,λt q1 q2 q=>((hB t q1 q2).mp q).1⟩
theorem Jp(o d lo hi:Pt):Inv (inB o d lo hi):=λt r ht hr e h=>by
 have f:∀s w l u:Int,fC s w l u t->fC s w l u r:=λs w l u ⟨h1,h2⟩=>by
  have k:t.2*(s*r.2+w*r.1)=r.2*(s*t.2+w*t.1):=by
   have:t.2*(s*r.2+w*r.1)=s*(t.2*r.2)+w*(r.1*t.2):=by grind
   rw[this,<-e];grind
  have g1:=Int.mul_le_mul_of_nonneg_left h1 (show 0<=r.2 by omega);have g2:=Int.mul_le_mul_of_nonneg_left h2 (show 0<=r.2 by omega);have k1:t.2*(l*r.2)=r.2*(l*t.2):=by grind
  have k2:t.2*(u*r.2)=r.2*(u*t.2):=by grind
  exact⟨Int.le_of_mul_le_mul_left (a:=t.2) (by omega) ht,Int.le_of_mul_le_mul_left (a:=t.2) (by omega) ht⟩
 exact⟨f _ _ _ _ h.1,f _ _ _ _ h.2.1,f _ _ _ _ h.2.2⟩
end MX.P
end
section
namespace MX.P
def jl(m:Tq)(X:Int×Int->Prop):Prop:=∀r,m=some r->0<=r.1/\0<r.2/\X r
theorem jl.pick{m n:Tq}{X:Int×Int->Prop}(hm:jl m X)(hn:jl n X):jl (pick m n) X:=by
 intro r h;unfold P.pick at h;cases n with
 |none=>exact hm r h
 |some t =>
  cases m with
  |none=>exact hn r h
  |some b =>
   simp only at h;split at h
   .exact hn r h
   .exact hm r h
theorem jl.red{m:Tq}(hi:Inv X)(hm:jl m X):jl (lW m) X:=by intro r h;obtain⟨p,e,rfl⟩:=aX.mp h;obtain⟨h1,h2,h3⟩:=hm p e;have:=zoP (a:=p) h2;unfold leQ at this;exact⟨yI h1 h2,qm _ _,hi p _ h2 (qm _ _) (by omega) h3⟩
def jl.sub{m:Tq}(hm:jl m X)(h:∀t,X t->Y t):jl m Y:=λr e=>⟨(hm r e).1,(hm r e).2.1,h _ (hm r e).2.2⟩
theorem znY{a b:Pt}(h0:d≠(0,0,0)):jl (mO o d a b) (iU d (wb o a) (wb o b)):=by
 have hD:=qp h0;intro r h;unfold mO vd at h;rw[ye o a b] at h;generalize wb o a=A at *
 generalize wb o b=B at *
 split at h
 .rename_i hp;split at h
  .rename_i hc;have la:=Fe hc;have lb:=Fe (RG hp hc);generalize au d d=N at *
   generalize au A d=x at *
   generalize au B d=y at *
   split at h
   .cases h
   .rename_i hm;cases h;have hm':0<=x\/0<=y:=by unfold iB at hm;split at hm<;>omega
    have hmn:(iB (kO x y) 0=x/\0<=x/\x<=y)\/(iB (kO x y) 0=y/\0<=y/\y<=x)\/(iB (kO x y) 0=0/\x<0/\0<=y)\/(iB (kO x y) 0=0/\y<0/\0<=x):=by unfold iB kO;split<;>split<;>omega
    have hge:0<=iB (kO x y) 0:=by rcases hmn with h|h|h|h<;>omega
    refine⟨hge,hD,?_⟩;obtain⟨a1,a2,a3⟩:=la;obtain⟨b1,b2,b3⟩:=lb;rcases hmn with⟨e,_⟩|⟨e,_⟩|⟨e,_⟩|⟨e,_⟩<;>rw[e]
    .exact⟨1,0,by omega,by omega,by omega,by simp only;grind,by simp only;grind,by simp only;grind⟩
    .exact⟨0,1,by omega,by omega,by omega,by simp only;grind,by simp only;grind,by simp only;grind⟩
    .exact⟨y,-x,by omega,by omega,by omega,by simp only;grind,by simp only;grind,by simp only;grind⟩
    .exact⟨-y,x,by omega,by omega,by omega,by simp only;grind,by simp only;grind,by simp only;grind⟩
  .cases h
 .rename_i hp;have hU:=qp hp;split at h
  .rename_i hz;split at h
   .cases h
   .rename_i hb;cases h;exact⟨by simp only;omega,hU,Ru hz (by omega) (by omega) hU⟩
  .cases h
theorem zld{a b c:Pt}(h0:d≠(0,0,0)):jl (nO o d a b c) (eO d (wb o a) (wb o b) (wb o c)):=by have s:=λx y:Pt=>jl.red (Ez d (wb o x) (wb o y)) (znY (o:=o) (a:=x) (b:=y) h0);exact jl.pick (jl.pick (jl.pick (λr h=>by cases h) ((s a b).sub λt=>Rb)) ((s b c).sub λt=>Rc)) ((s c a).sub λt=>Rf)
theorem znu{a b c:Pt}(h0:d≠(0,0,0)):jl (mR o d a b c) (eO d (wb o a) (wb o b) (wb o c)):=by
 have ef:=zld (o:=o) (a:=a) (b:=b) (c:=c) h0;have gd:=FQ o d a b c;have gn:=FQ o (bT (wb o a) (wb o b) (wb o c)) a b c;intro r h;unfold mR vm at h;unfold cH at gd gn;rw[ye o a b,ye o a c] at h;generalize wb o a=A at *
 generalize wb o b=B at *
 generalize wb o c=C at *
 split at h
 .exact ef r h
 .rename_i hf;have hN:0<au (bT A B C) (bT A B C):=qp hf;split at h
  .split at h
   .rename_i hU;have sn:au (bT A B C) (aq A B)+au (bT A B C) (aq B C)+au (bT A B C) (aq C A)=au (bT A B C) (bT A B C):=rC (bT A B C) A B C;split at h
    .rename_i hg;cases h;refine⟨Int.le_refl _,by decide,?_⟩;obtain⟨m1,m2,m3⟩:=Gj (bT A B C) A B C;rw[show au A (aq (aF B A) (aF C A))=0 from hU] at m1 m2 m3;rcases gn.mp hg with g|g
     .exact⟨_,_,_,g.2.1,g.2.2,g.1,by omega,by simp only;grind,by simp only;grind,by simp only;grind⟩
     .omega
    .exact ef r h
   .cases h
  .rename_i hV;have sn:=rC d A B C;have go:∀P:Prop,¬(P\/bW o d a b c=false)->bW o d a b c=true:=λP hb=>by
    rcases Bool.eq_false_or_eq_true (bW o d a b c) with q|q
    .exact q
    .exact absurd (.inr q) hb
   split at h
   .rename_i CT;split at h
    .cases h
    .rename_i hb;refine jl.red (m:=some (_,_)) (zT _ _ _ _) (λp hp=>?_) r h;cases hp;refine⟨Int.not_lt.mp λq=>hb (.inl q),by simp only;omega,?_⟩;rcases gd.mp (go _ hb) with g|g
     .omega
     .exact S8 g.1 g.2.1 g.2.2 CT
   .rename_i CT;split at h
    .cases h
    .rename_i hb;have CQ:0<au d (aq (aF B A) (aF C A)):=by omega
     refine jl.red (m:=some (_,_)) (zT _ _ _ _) (λp hp=>?_) r h;cases hp;refine⟨Int.not_lt.mp λq=>hb (.inl q),CQ,?_⟩;rcases gd.mp (go _ hb) with g|g
     .exact Rk g.1 g.2.1 g.2.2 CQ
     .omega
end MX.P
end
section
namespace MX.P
open PySem L2 MX
def qy(a b:Pt):Prop:=a.1<=b.1/\a.2.1<=b.2.1/\a.2.2<=b.2.2
theorem Kf:∀(r:List Int) (a:Int),r.foldl (λx y=>if y<x then y else x) a<=a/\∀x∈r,r.foldl (λx y=>if y<x then y else x) a<=x
 |[],a=>⟨Int.le_refl _,λ_ h=>by cases h⟩
 |b::r,a=>by
  obtain⟨h1,h2⟩:=Kf r (if b<a then b else a);rw[List.foldl_cons];have k:(if b<a then b else a)<=a/\(if b<a then b else a)<=b:=by split<;>omega
  refine⟨Int.le_trans h1 k.1,λx hx=>?_⟩;rcases List.mem_cons.mp hx with rfl|hx
  .exact Int.le_trans h1 k.2
  .exact h2 x hx
theorem Ke:∀(r:List Int) (a:Int),a<=r.foldl (λx y=>if y>x then y else x) a/\∀x∈r,x<=r.foldl (λx y=>if y>x then y else x) a
 |[],a=>⟨Int.le_refl _,λ_ h=>by cases h⟩
 |b::r,a=>by
  obtain⟨h1,h2⟩:=Ke r (if b>a then b else a);rw[List.foldl_cons];have k:a<=(if b>a then b else a)/\b<=(if b>a then b else a):=by split<;>omega
  refine⟨Int.le_trans k.1 h1,λx hx=>?_⟩;rcases List.mem_cons.mp hx with rfl|hx
  .exact Int.le_trans k.2 h1
  .exact h2 x hx
theorem Jw(h:jB ns=some m):∀x∈ns,m<=x:=by
 cases ns with
 |nil=>cases h
 |cons a r =>
  have h':r.foldl (λx y=>if y<x then y else x) a=m:=by simpa[jB] using h
  subst h';intro x hx;rcases List.mem_cons.mp hx with rfl|hx
  .exact(Kf r _).1
  .exact(Kf r _).2 x hx
theorem Jt(h:iM ns=some m):∀x∈ns,x<=m:=by
 cases ns with
 |nil=>cases h
 |cons a r =>
  have h':r.foldl (λx y=>if y>x then y else x) a=m:=by simpa[iM] using h
  subst h';intro x hx;rcases List.mem_cons.mp hx with rfl|hx
  .exact(Ke r _).1
  .exact(Ke r _).2 x hx
def mF.has{pts:List Pt}{lo hi:Pt}(B:mF pts lo hi)(hp:p∈pts):qy lo p/\qy p hi :=
 ⟨⟨Jw B.h0 (co 0 p) (List.mem_map_of_mem hp),Jw B.h1 (co 1 p) (List.mem_map_of_mem hp),Jw B.h2 (co 2 p) (List.mem_map_of_mem hp)⟩,
  ⟨Jt B.g0 (co 0 p) (List.mem_map_of_mem hp),Jt B.g1 (co 1 p) (List.mem_map_of_mem hp),Jt B.g2 (co 2 p) (List.mem_map_of_mem hp)⟩⟩
theorem Uk{lo hi lo' hi':Pt}(hq:0<t.2)(h1:qy lo lo')(h2:qy hi' hi)(h:inB o d lo' hi' t):inB o d lo hi t:=by
 have f:∀s w l u l' u':Int,l<=l'->u'<=u->fC s w l' u' t->fC s w l u t:=λs w l u l' u' a b ⟨h1,h2⟩ =>
  ⟨Int.le_trans (Int.mul_le_mul_of_nonneg_right a (by omega)) h1,Int.le_trans h2 (Int.mul_le_mul_of_nonneg_right b (by omega))⟩
 exact⟨f _ _ _ _ _ _ h1.1 h2.1 h.1,f _ _ _ _ _ _ h1.2.1 h2.2.1 h.2.1,f _ _ _ _ _ _ h1.2.2 h2.2.2 h.2.2⟩
theorem Va{lo hi:Pt}(h0:d≠(0,0,0))(h1:0<=t.1)(h2:0<t.2)(h:inB o d lo hi t):iu o d lo hi≠none:=λe=>by have f:=Gp (o:=o) (lo:=lo) (hi:=hi) h0;rw[e] at f;exact f t h1 h2 h
theorem zjU{lo hi lo' hi':Pt}(h0:d≠(0,0,0))(h1:qy lo lo')(h2:qy hi' hi)(e:iu o d lo hi=none):iu o d lo' hi'=none:=by
 cases e':iu o d lo' hi' with
 |none=>rfl
 |some p =>
  have f:=Gp (o:=o) (lo:=lo') (hi:=hi') h0;rw[e'] at f;exact absurd e (Va h0 f.1 f.2.1 (Uk f.2.1 h1 h2 f.2.2.1))
noncomputable def lU(o d:Pt):Sh->Int×Int->Prop
 |.box lo hi=>inB o d lo hi
 |.tri a b c=>eO d (wb o a) (wb o b) (wb o c)
def Jf(o d lo hi:Pt):fj o d (.box lo hi)=lW ((iu o d lo hi).map (·.1)):=by show(iu o d lo hi).map (λp=>cR p.1.1 p.1.2)=_;cases iu o d lo hi<;>rfl
theorem yE(h0:d≠(0,0,0))(s:Sh):fZ (fj o d s) (lU o d s):=by
 cases s with
 |box lo hi=>rw[Jf];exact fZ.red (Jp o d lo hi) (Gp h0)
 |tri a b c=>exact zjK h0
theorem Rj(h0:d≠(0,0,0))(s:Sh):jl (fj o d s) (lU o d s):=by
 cases s with
 |box lo hi =>
  rw[Jf];refine jl.red (Jp o d lo hi) λr e=>?_;have f:=Gp (o:=o) (lo:=lo) (hi:=hi) h0;rw[e] at f;exact⟨f.1,f.2.1,f.2.2.1⟩
 |tri a b c=>exact znu h0
def yd(o d:Pt)(s:Sh):qO (fj o d s):=by
 cases s with
 |box lo hi=>rw[Jf];exact Ga _
 |tri a b c=>exact znv o d a b c
theorem zp1{lo hi:Pt}(B:mF s.pts lo hi)(hq:0<t.2)(h:lU o d s t):inB o d lo hi t:=by
 cases s with
 |box l u=>exact Uk hq (B.has (p:=l) (by simp[Sh.pts])).1 (B.has (p:=u) (by simp[Sh.pts])).2 h
 |tri a b c =>
  obtain⟨a1,a2⟩:=B.has (p:=a) (by simp[Sh.pts]);obtain⟨b1,b2⟩:=B.has (p:=b) (by simp[Sh.pts]);obtain⟨c1,c2⟩:=B.has (p:=c) (by simp[Sh.pts]);obtain⟨u,v,w,u0,v0,w0,hs,e1,e2,e3⟩:=h;exact⟨Ju (s:=0) u0 v0 w0 hs hq e1 ⟨a1.1,a2.1⟩ ⟨b1.1,b2.1⟩ ⟨c1.1,c2.1⟩,Ju (s:=0) u0 v0 w0 hs hq e2 ⟨a1.2.1,a2.2.1⟩ ⟨b1.2.1,b2.2.1⟩ ⟨c1.2.1,c2.2.1⟩,Ju (s:=0) u0 v0 w0 hs hq e3 ⟨a1.2.2,a2.2.2⟩ ⟨b1.2.2,b2.2.2⟩ ⟨c1.2.2,c2.2.2⟩⟩
theorem znT{lo hi:Pt}(h0:d≠(0,0,0))(B:mF s.pts lo hi)(h:fj o d s≠none):iu o d lo hi≠none:=by
 cases e:fj o d s with
 |none=>exact absurd e h
 |some p =>
  obtain⟨f1,f2,f3⟩:=Rj h0 s p e;exact Va h0 f1 f2 (zp1 B f2 f3)
end MX.P
end
section
local macro_rules | `(tactic| wtm_at "?d") => `(tactic| (with_reducible assumption))
namespace MX.P
open PySem L2 MX
theorem Jr{α:Type}{nx:Nat->So->Option (Option D)}{fe:EF}{S:So}{rest:Sg}(qs:List α)(enc g:α->D)(hnx:∀i:Nat,nx i S=some ((qs.map enc)[i]?))(hstep:∀q∈qs,fe (some (enc q)::rest) S=some (g q,S)):
 ∀(n i:Nat) (v:Option D) (acc:List D),i+n=qs.length->jx nx (aK 0) cZ fe n i (v::rest) S acc=some (acc++(qs.drop i).map g,S)
 |0,i,v,acc,h=>by rw[zN (by rw[hnx,j9 (by simp;omega)]),List.drop_of_length_le (by omega)];simp
 |n+1,i,v,acc,h=>by
  have hi:i<qs.length:=by omega
  have e:(qs.map enc)[i]?=some (enc qs[i]):=by simp[hi]
  refine(vq (by rw[hnx,e]) (cO rfl) vB (hstep _ (List.getElem_mem hi)) rfl (Jr qs enc g hnx hstep n (i+1) (some (enc qs[i])) (acc++[g qs[i]]) (by omega))).trans ?_;rw[List.drop_eq_getElem_cons hi,jd,fB];rfl
theorem zY{α:Type}{fi:IF}(qs:List α)(enc g:α->D)(h1:fi σ S=some (.lst n,S1))(hn:S1[n]?=some (.lst (qs.map enc)))(hl:qs.length<=1000)(hτ:nH src σ=none::rest)(hstep:∀q∈qs,fe (some (enc q)::rest) S1=some (g q,S1)):dD fi (aK 0) cZ fe src σ S=some (.ref S1.length,S1++[.lst (qs.map g)]):=by
 have key:=Jr (nx:=dG (.lst n)) (S:=S1) (rest:=rest) (fe:=fe) qs enc g (λi=>by unfold dG;simp only;rw[hn]) hstep qs.length 0 none [] (by omega);refine qX (n:=qs.length) h1 ?_ (by rw[sizeLine_eq];omega) hτ ?_
 .show(match S1[n]? with|some (.lst xs)=>some xs.length|some (.frz xs)=>some xs.length|_=>none)=_;rw[hn];simp
 .rw[key];simp
noncomputable abbrev Lf:=Pt×Pt×Nat
noncomputable def dZ(q:Lf):Tr := .lf q.1 q.2.1 q.2.2
noncomputable def Tr.leaves:Tr->List Lf
 |.lf lo hi i=>[(lo,hi,i)]
 |.nd _ _ l r=>l.leaves++r.leaves
noncomputable def sU(k:Nat):Tr->Prop
 |.lf lo hi _=>aP k lo/\aP k hi
 |.nd lo hi l r=>(aP k lo/\aP k hi)/\sU k l/\sU k r/\∀q∈l.leaves++r.leaves,qy lo q.1/\qy q.2.1 hi
def X8{h:Nat}(hl:h<=xs.length):jU xs none (some (h:Nat))=xs.take h:=by unfold jU;rw[HT.zj7,HT.zii];simp[Nat.min_eq_left hl]
theorem zmL{h:Nat}(hl:h<=xs.length):jU xs (some (h:Nat)) none=xs.drop h:=by unfold jU;rw[HT.zj7,HT.zii,Nat.min_eq_left hl];rw[List.take_of_length_le (by simp)]
def jw{x:Str}{G:So}(h:gQ x S=true):gQ x (S++G)=true:=by
 unfold gQ at *
 rw[List.any_append,h];rfl
theorem QJ{fb:EF}{src:List Nat}{iG kz:List D}(h1:fe σ S=some (.ref n,S1))(h2:pG src σ=some iG)(h3:wj iG=true)(hn:S1[n]?=some (.lst xs))(hl:xs.length<64)(hk:pR (tG fb iG) S1 xs=some kz)(ho:(kz.all nG||kz.all mK)=true):
 wV fe src fb σ S=some (.ref S1.length,S1++[.lst ((iD kz).map λi=>xs.getD i .non)]):=by
 unfold wV;rw[h1];simp only[b8];rw[h2];simp only[b8];rw[if_pos h3,hn];simp only;rw[if_pos hl,hk];simp only[b8];rw[if_pos ho]
def JN{α:Type}{ψ:GN}{S:So}{enc g:α->D}:∀{qs:List α},(∀q∈qs,ψ [enc q] S=some (g q,S))->pR ψ S (qs.map enc)=some (qs.map g)
 |[],_=>rfl
 |q::r,h=>zjq (h q (fL ..)) (JN λy hy=>h y (cM _ hy))
theorem Vj{α:Type}(a0:α)(qs:List α)(h:l.Perm (List.range qs.length)):(l.map λi=>qs.getD i a0).Perm qs:=by
 have h1:=h.map λi=>qs.getD i a0;have h2:(List.range qs.length).map (λi=>qs.getD i a0)=qs:=by
  apply List.ext_getElem?;intro i;by_cases hi:i<qs.length
  .simp[hi]
  .rw[j9 (by simp;omega),j9 (by omega)]
 rw[h2] at h1;exact h1
theorem Tz{α:Type}{enc:α->D}(a0:α)(qs:List α)(h:∀i∈l,i<qs.length):(l.map λi=>(qs.map enc).getD i .non)=(l.map λi=>qs.getD i a0).map enc:=by rw[List.map_map];refine List.map_congr_left λi hi=>?_;have:=h i hi;simp[List.getD_eq_getElem?_getD,this]
theorem zmU{q:Lf}{j:Nat}(hj:j<=2)(S:So):tG (eB (aN .Add) (eB aH (eB aH (ig "Tree" "box" (aj 0)) (eC (.int 0))) (aj 1)) (eB aH (eB aH (ig "Tree" "box" (aj 0)) (eC (.int 1))) (aj 1))) [.int (j:Nat)] [bF (dZ q)] S=some (.int (co j q.1+co j q.2.1),S):=by show eB _ _ _ [some (bF (dZ q)),some (.int (j:Nat))] S=_;refine aW (aW (aW (rm (d := .tup [pD q.1,pD q.2.1]) (aJ rfl) rfl rfl) bA (dX (z:=pD q.1) rfl)) (aJ rfl) (dX (vp (by omega) (by omega) q.1))) (aW (aW (rm (d := .tup [pD q.1,pD q.2.1]) (aJ rfl) rfl rfl) bA (dX (z:=pD q.2.1) rfl)) (aJ rfl) (dX (vp (by omega) (by omega) q.2.1))) zL
theorem Eo(n:Nat)(qs:List Lf):O.lo n (.lst (qs.map λq=>bF (dZ q)))=true:=by show cV n _=true;rw[mq];intro x hx;obtain⟨q,_,rfl⟩:=List.mem_map.mp hx;exact qW n _
theorem En{α:Type}(n:Nat)(qs:List α)(f:α->Pt):cV n (qs.map λq=>pD (f q))=true:=by rw[mq];intro x hx;obtain⟨p,_,rfl⟩:=List.mem_map.mp hx;simp[D.lo,cV]
theorem zoN{ys:List D}(h1:cV n xs=true)(h2:cV n ys=true):cV n (xs++ys)=true:=by
 rw[mq] at *
 intro x hx;rcases mH.mp hx with h|h
 .exact h1 x h
 .exact h2 x h
theorem znL:∀(k:Nat) (qs:List Lf) (n:Nat) (S:So),WF S->gQ "tree_over" S=true->S[n]?=some (.lst (qs.map λq=>bF (dZ q)))->1<=qs.length->qs.length<=2 ^ k->qs.length<=60->(∀q∈qs,aP K q.1/\aP K q.2.1) ->
 ∃t,jE (k+1) [.ref n] S=some (bF t,S)/\sU K t/\t.leaves.Perm qs:=by
 intro k
 induction k with
 |zero =>
  intro qs n S hS hT hn h1 h2 h60 hb;obtain⟨q,rfl⟩:=List.length_eq_one_iff.mp (show qs.length=1 by have:qs.length<=1:=h2;omega);refine⟨dZ q,?_,hb q (by simp),List.Perm.refl _⟩;show oG "tree_over" 5 (nU (jE 0)) _ S=_;unfold oG;rw[if_pos hT];apply bQ
  .wtm_at "?b"
   unfold nU;refine aM (eZ (b:=true) (fP ?_) (gG rfl (aM (fX (aW (aJ rfl) bA (qZ hn (z:=bF (dZ q)) rfl))) dW))) dW;exact aW (bG (aO (aJ rfl) bD) (rz hn)) bA rfl
  .exact xO
  .exact qW _ _
 |succ k ih =>
  intro qs n S hS hT hn h1 h2 h60 hb;show ∃t,oG "tree_over" 5 (nU (jE (k+1))) _ S=_/\_;unfold oG;rw[if_pos hT];by_cases hL:qs.length=1
  .obtain⟨q,rfl⟩:=List.length_eq_one_iff.mp hL;refine⟨dZ q,?_,hb q (by simp),List.Perm.refl _⟩;apply bQ
   .wtm_at "?b"
    unfold nU;refine aM (eZ (b:=true) (fP ?_) (gG rfl (aM (fX (aW (aJ rfl) bA (qZ hn (z:=bF (dZ q)) rfl))) dW))) dW;exact aW (bG (aO (aJ rfl) bD) (rz hn)) bA rfl
   .exact xO
   .exact qW _ _
  .obtain⟨lo,hi,B⟩:=QS (pts:=qs.map (·.1)++qs.map (·.2.1)) (by
    intro e;have:=congrArg List.length e;rw[lz,cW,cW,zj] at this;omega)
   have bb:aP K lo/\aP K hi:=B.bd λp hp=>by
    rcases mH.mp hp with hp|hp
    .obtain⟨q,hq,rfl⟩:=List.mem_map.mp hp;exact(hb q hq).1
    .obtain⟨q,hq,rfl⟩:=List.mem_map.mp hp;exact(hb q hq).2
   obtain⟨j,hj,hw⟩:=zjV lo hi;have hm:qs.map (λq=>pD q.1)++qs.map (λq=>pD q.2.1)=(qs.map (·.1)++qs.map (·.2.1)).map pD:=by rw[uY,List.map_map,List.map_map];rfl
   have W1:WF (S++[.lst (qs.map λq=>pD q.1)]):=hS.snoc (En _ _ _);have W2:WF (S++[.lst (qs.map λq=>pD q.1)]++[.lst (qs.map λq=>pD q.2.1)]):=W1.snoc (En _ _ _);have W3:WF (S++[.lst (qs.map λq=>pD q.1)]++[.lst (qs.map λq=>pD q.2.1)]++[.lst (qs.map (λq=>pD q.1)++qs.map λq=>pD q.2.1)]):=W2.snoc (zoN (En _ _ _) (En _ _ _));have Di:eN (aR 1 yJ) (ak (eB (aN .Add) (dD (d9 (aj 0)) (aK 0) cZ (eB aH (ig "Tree" "box" (aj 0)) (eC (.int 0))) [none]) (dD (d9 (aj 0)) (aK 0) cZ (eB aH (ig "Tree" "box" (aj 0)) (eC (.int 1))) [none])) aB) [some (.ref n),none,none,none,none] S=some (.tup [pD lo,pD hi],S++[.lst (qs.map λq=>pD q.1)]++[.lst (qs.map λq=>pD q.2.1)]++[.lst (qs.map (λq=>pD q.1)++qs.map λq=>pD q.2.1)]):=by
    refine bG (aO (aW (zY qs (λq=>bF (dZ q)) (λq=>pD q.1) (oN (aJ rfl) hn) hn (by omega) rfl λq _=>?_) (zY qs (λq=>bF (dZ q)) (λq=>pD q.2.1) (oN (aJ rfl) (fQ hn)) (fQ hn) (by omega) rfl λq _=>?_) (zpb (fQ cI) cI ?_)) bD) (eE rfl (Rw (pts:=qs.map (·.1)++qs.map (·.2.1)) W3 ?_ ?_ B))
    .exact aW (rm (d := .tup [pD q.1,pD q.2.1]) (aJ rfl) rfl rfl) bA (dX rfl)
    .exact aW (rm (d := .tup [pD q.1,pD q.2.1]) (aJ rfl) rfl rfl) bA (dX rfl)
    .simp only[cW];rw[sizeLine_eq];omega
    .rw[<-hm];exact cI
    .simp only[lz,cW];omega
   have Dg:bI (eB (aV .Eq) (eN jo (ak (aj 0) aB)) (eC (.int 1))) [some (.ref n),none,none,none,none] S=some (false,S):=by have:=fP (aW (bG (aO (aJ (σ:=[some (.ref n),none,none,none,none]) (i:=0) rfl) bD) (rz hn)) (bA (d := .int 1)) zJ);rw[this,lZ];rw[cW];omega
   generalize uy:S++[.lst (qs.map λq=>pD q.1)]++[.lst (qs.map λq=>pD q.2.1)]++[.lst (qs.map (λq=>pD q.1)++qs.map λq=>pD q.2.1)]=S3 at W3 Di;have n3:S3[n]?=some (.lst (qs.map λq=>bF (dZ q))):=by rw[<-uy];exact fQ (fQ (fQ hn))
   have T3:gQ "tree_over" S3=true:=by rw[<-uy,fB,fB];exact jw hT
   have tk3:S3.take S.length=S:=by rw[<-uy,fB,fB];simp
   have l3:S.length<=S3.length:=by rw[<-uy];simp
   have kp:=Ao (qs.map λq=>D.int (co j q.1+co j q.2.1));rw[cW] at kp;have hlt:∀i∈iD (qs.map λq=>D.int (co j q.1+co j q.2.1)),i<qs.length:=λi hi=>List.mem_range.mp (kp.mem_iff.mp hi);have pp:=Vj ((0,0,0),(0,0,0),0) qs kp;have pe:=Tz (enc:=λq=>bF (dZ q)) ((0,0,0),(0,0,0),0) qs hlt;generalize hrow:(iD (qs.map λq=>D.int (co j q.1+co j q.2.1))).map (λi=>qs.getD i ((0,0,0),(0,0,0),0))=row at pp pe;have rl:row.length=qs.length:=pp.length_eq;have b4:∀q∈row,aP K q.1/\aP K q.2.1:=λq hq=>hb q (pp.mem_iff.mp hq);have W4:WF (S3++[.lst (row.map λq=>bF (dZ q))]):=W3.snoc (Eo _ _);have W5:WF (S3++[.lst (row.map λq=>bF (dZ q))]++[.lst ((row.take (qs.length / 2)).map λq=>bF (dZ q))]):=W4.snoc (Eo _ _);have W6:WF (S3++[.lst (row.map λq=>bF (dZ q))]++[.lst ((row.take (qs.length / 2)).map λq=>bF (dZ q))]++[.lst ((row.drop (qs.length / 2)).map λq=>bF (dZ q))]):=W5.snoc (Eo _ _);have hp2:2 ^ (k+1)=2 ^ k+2 ^ k:=by rw[Nat.pow_succ];omega
   obtain⟨t1,e1,o1,p1⟩:=ih (row.take (qs.length / 2)) _ _ W5 (by rw[fB];exact jw T3) cI (by simp;omega) (by simp;omega) (by simp;omega) (λq hq=>b4 q (List.mem_of_mem_take hq));obtain⟨t2,e2,o2,p2⟩:=ih (row.drop (qs.length / 2)) _ _ W6 (by rw[fB,fB];exact jw T3) cI (by simp;omega) (by simp;omega) (by simp;omega) (λq hq=>b4 q (List.mem_of_mem_drop hq));have pq:(t1.leaves++t2.leaves).Perm qs:=((p1.append p2).trans (by rw[List.take_append_drop])).trans pp;refine⟨.nd lo hi t1 t2,?_,⟨bb,o1,o2,λq hq=>?_⟩,pq⟩
   .apply bQ (S':=S3++[.lst (row.map λq=>bF (dZ q))]++[.lst ((row.take (qs.length / 2)).map λq=>bF (dZ q))]++[.lst ((row.drop (qs.length / 2)).map λq=>bF (dZ q))])
    .wtm_at "?b"
     unfold nU;refine aM (eZ Dg (fG rfl eX)) (aU ?_);refine aM (c7 Di (cO rfl)) (aU ?_);refine aM (c7 (bG (aO (aJ rfl) bD) (eE rfl (hw S3))) (cO rfl)) (aU ?_);refine aM (c7 (QJ (iG:=[.int (j:Nat)]) (aJ rfl) rfl rfl n3 (by simp;omega) (JN (g:=λq:Lf=>D.int (co j q.1+co j q.2.1)) λq _=>zmU hj S3) (by rw[mG];exact .inl (List.all_eq_true.mpr λx hx=>by obtain⟨q,_,rfl⟩:=List.mem_map.mp hx;rfl))) (cO rfl)) (aU ?_);rw[pe];have hfd:((qs.length:Int)).fdiv 2=((qs.length / 2:Nat):Int):=by rw[Int.fdiv_eq_ediv_of_nonneg _ (by decide)];rfl
     refine aM (c7 (aW (bG (aO (aJ rfl) bD) (rz cI)) bA (p7 (by decide))) (cO rfl)) (aU ?_);simp only[cW,rl,hfd];have c1:eN (aR 1 (jE (k+1))) (ak (jR (aj 2) kY (jP (aj 3))) aB) [some (.ref n),some (.tup [pD lo,pD hi]),some (.ref S3.length),some (.int ((qs.length / 2:Nat):Int)),some (.int (j:Nat))] (S3++[.lst (row.map λq=>bF (dZ q))])=some (bF t1,S3++[.lst (row.map λq=>bF (dZ q))]++[.lst ((row.take (qs.length / 2)).map λq=>bF (dZ q))]):=by refine bG (aO (yg (aJ rfl) zZ (z7 (aJ rfl)) (Jc cI ?_)) bD) (eE rfl e1);rw[X8 (by simp[rl];omega),List.map_take]
     have c2:eN (aR 1 (jE (k+1))) (ak (jR (aj 2) (jP (aj 3)) kY) aB) [some (.ref n),some (.tup [pD lo,pD hi]),some (.ref S3.length),some (.int ((qs.length / 2:Nat):Int)),some (.int (j:Nat))] (S3++[.lst (row.map λq=>bF (dZ q))]++[.lst ((row.take (qs.length / 2)).map λq=>bF (dZ q))])=some (bF t2,S3++[.lst (row.map λq=>bF (dZ q))]++[.lst ((row.take (qs.length / 2)).map λq=>bF (dZ q))]++[.lst ((row.drop (qs.length / 2)).map λq=>bF (dZ q))]):=by refine bG (aO (yg (aJ rfl) (z7 (aJ rfl)) zZ (Jc (fQ cI) ?_)) bD) (eE rfl e2);rw[zmL (by simp[rl];omega),List.map_drop]
     exact aM (fX (Uy (aO (aJ rfl) (aO bA (aO (bG (aO c1 (aO c2 bD)) (jb (by show 2<=sizeLine;decide))) bD))) W6 (by simp[cV,D.lo,qW]))) dW
    .rw[fB,fB,List.take_append_of_le_length l3];exact tk3
    .exact qW _ (.nd lo hi t1 t2)
   .have hq':=pq.mem_iff.mp hq;exact⟨(B.has (List.mem_append_left _ (List.mem_map_of_mem hq'))).1,(B.has (List.mem_append_right _ (List.mem_map_of_mem hq'))).2⟩
noncomputable abbrev jY(b:Pt×Pt):D := .tup [pD b.1,pD b.2]
noncomputable def iC(bs:List (Pt×Pt)):List Lf:=bs.zipIdx.map λp=>(p.1.1,p.1.2,p.2)
def mZ(bs:List (Pt×Pt)):(iC bs).length=bs.length:=by simp[iC]
def Gh{bs:List (Pt×Pt)}(h:i<bs.length):(iC bs)[i]?=some (bs[i].1,bs[i].2,i):=by simp[iC,h]
theorem Vf{bs:List (Pt×Pt)}{q:Lf}(h:q∈iC bs):q.2.2<bs.length/\(q.1,q.2.1)∈bs:=by obtain⟨i,hi,e⟩:=List.mem_iff_getElem.mp h;rw[mZ] at hi;have:=Gh hi;rw[f9 (by rw[mZ];exact hi),e] at this;cases this;exact⟨hi,List.getElem_mem hi⟩
theorem R8{S:So}{n:Nat}{bs:List (Pt×Pt)}(hS:WF S)(hn:S[n]?=some (.lst (bs.map jY))):∀(m i:Nat) (τ:Sg) (acc:List D),τ.length=2->i+m=bs.length ->
 jx (dG (.enm n)) (jy 2 (dY (aK 0) (dY (aK 1) jO))) cZ (nZ "Tree" 4 yN (ak (aj 1) (ak (aj 0) (ak (eN bL aB) aB)))) m i τ S acc=some (acc++((iC bs).drop i).map (λq=>bF (dZ q)),S)
 |0,i,τ,acc,hτ,h=>by rw[zN (by unfold dG;simp only;rw[hn];simp;omega),List.drop_of_length_le (by rw[mZ];omega)];simp
 |m+1,i,τ,acc,hτ,h=>by
  have hi:i<bs.length:=by omega
  obtain⟨a,b,rfl⟩:∃a b,τ=[a,b]:=by
   match τ,hτ with
   |[a,b],_=>exact⟨a,b,rfl⟩
  have hq:(iC bs)[i]?=some (bs[i].1,bs[i].2,i):=Gh hi;have nx:dG (.enm n) i S=some (some (.tup [.int (i:Nat),jY bs[i]])):=by unfold dG;simp only;rw[hn];simp[hi]
  refine(vq nx (Eu rfl (vM (cO rfl) (vM (cO rfl) FJ))) vB (Uy (aO (aJ rfl) (aO (aJ rfl) (aO (bG bD (jb (by show 0<=sizeLine;exact Nat.zero_le _))) bD))) hS (by simp[cV,D.lo])) rfl (R8 hS hn m (i+1) _ _ rfl (by omega))).trans ?_;rw[List.drop_eq_getElem_cons (l:=iC bs) (i:=i) (by rw[mZ];exact hi),jd,fB];have e2:(iC bs)[i]'(by rw[mZ];exact hi)=(bs[i].1,bs[i].2,i):=by rw[f9 (by rw[mZ];exact hi)] at hq;exact Option.some.inj hq
  rw[e2];rfl
noncomputable def gF:Option Tr->D
 |none => .non
 |some t=>bF t
noncomputable def yU:Option Tr->List Lf
 |none=>[]
 |some t=>t.leaves
def Zg(n:Nat)(t:Option Tr):D.lo n (gF t)=true:=by
 cases t with
 |none=>simp[gF,D.lo]
 |some t=>exact qW n t
theorem zlN{bs:List (Pt×Pt)}(hS:WF S)(hT:gQ "tree_over" S=true)(hn:S[n]?=some (.lst (bs.map jY)))(hl:bs.length<=32)(hb:∀b∈bs,aP K b.1/\aP K b.2):
 ∃t,Gx [.ref n] S=some (gF t,S)/\(∀t',t=some t'->sU K t')/\(yU t).Perm (iC bs):=by
 have e1:Mg [some (.ref n),none] S=some (.nx,[some (.ref n),some (.ref S.length)],S++[.lst ((iC bs).map λq=>bF (dZ q))]):=by
  unfold Mg;refine c7 (qX (j := .enm n) (n:=bs.length) (σ1:=[none,none]) ?_ ?_ (by rw[sizeLine_eq];omega) rfl ((R8 hS hn bs.length 0 [none,none] [] rfl (by omega)).trans (by simp))) (cO rfl)
  .unfold o7;rw[aJ (d := .ref n) rfl];simp only[b8];rw[hn]
  .show(match S[n]? with|some (.lst xs)=>some xs.length|_=>none)=_;rw[hn];simp
 have W1:WF (S++[.lst ((iC bs).map λq=>bF (dZ q))]):=hS.snoc (Eo _ _);have WD:∀b:Bool,b=decide (bs.length=0)->bI (eB (aV .Eq) (eN jo (ak (aj 1) aB)) (eC (.int 0))) [some (.ref n),some (.ref S.length)] (S++[.lst ((iC bs).map λq=>bF (dZ q))])=some (b,S++[.lst ((iC bs).map λq=>bF (dZ q))]):=λb hb=>by have:=fP (aW (bG (aO (aJ (σ:=[some (.ref n),some (.ref S.length)]) (i:=1) rfl) bD) (rz (cI (S:=S) (o := .lst ((iC bs).map λq=>bF (dZ q)))))) (bA (d := .int 0)) zJ);rw[this,hb];congr 2;rw[cW,mZ];simp
 by_cases h0:bs.length=0
 .refine⟨none,?_,λt' e=>(by cases e),by rw[List.eq_nil_of_length_eq_zero h0];exact List.Perm.refl _⟩;apply bQ
  .wtm_at "?b"
   unfold MF;have e3:Ak [some (.ref n),some (.ref S.length)] (S++[.lst ((iC bs).map λq=>bF (dZ q))])=some (.rt (gF none),[some (.ref n),some (.ref S.length)],S++[.lst ((iC bs).map λq=>bF (dZ q))]):=by unfold Ak;exact fX (zM (WD true (by simp[h0])) (gG rfl bA))
   exact aM e1 (aU (aM e3 dW))
  .wtm_at "?c"
  .rfl
 .obtain⟨t,e2,o2,p2⟩:=znL (K:=K) 5 (iC bs) S.length (S++[.lst ((iC bs).map λq=>bF (dZ q))]) W1 (jw hT) cI (by rw[mZ];omega) (by rw[mZ];omega) (by rw[mZ];omega) (λq hq=>hb _ (Vf hq).2);refine⟨some t,?_,λt' e=>(by cases e;exact o2),p2⟩;apply bQ
  .wtm_at "?b"
   unfold MF;have e3:Ak [some (.ref n),some (.ref S.length)] (S++[.lst ((iC bs).map λq=>bF (dZ q))])=some (.rt (gF (some t)),[some (.ref n),some (.ref S.length)],S++[.lst ((iC bs).map λq=>bF (dZ q))]):=by unfold Ak;exact fX (zM (WD false (by simp[h0])) (fG rfl (bG (aO (aJ rfl) bD) (eE rfl e2))))
   exact aM e1 (aU (aM e3 dW))
  .wtm_at "?c"
  .exact qW _ _
noncomputable def Tr.size:Tr->Nat
 |.lf _ _ _=>1
 |.nd _ _ l r=>1+l.size+r.size
noncomputable def kZ(ws:List Tr):Nat:=(ws.map Tr.size).sum
def TY:∀t:Tr,1<=t.size
 |.lf _ _ _=>bZ _
 |.nd _ _ _ _=>by simp[Tr.size];omega
def U8(a b:List Tr):kZ (a++b)=kZ a+kZ b:=by simp[kZ]
theorem U5(ws:List Tr):ws.length<=kZ ws:=by
 induction ws with
 |nil=>simp[kZ]
 |cons t r ih =>
  have:=TY t;simp only[kZ,jd,List.sum_cons,jM] at *
  omega
noncomputable def aZ(i:Nat):D := .int (i:Nat)
section
variable {K:Nat}{o d:Pt}(ho:aP K o)(hd:aP K d)(h0:d≠(0,0,0))(hK:K<=10000)
theorem zl6{x:D}{S3:So}(h:S[n]?=some (.lst (xs++[x])))(h3:S.set n (.lst xs)=S3):nj (.ref n) [] S=some (x,S3):=by unfold nj;simp only;rw[h];simp[h3]
def Rv{a b c:O}(hn:n=S.length+1):(S++[a]++[b]).set n c=S++[a]++[c]:=by subst hn;rw[show S.length+1=(S++[a]).length by simp];simp
def Jz{a b c:O}(hn:n=S.length):(S++[a]++[b]).set n c=S++[c]++[b]:=by subst hn;simp
noncomputable def DX(o d:Pt)(q:Lf):Bool:=(iu o d q.1 q.2.1).isSome
noncomputable def lG(o d:Pt)(l:List Lf):List Nat:=(l.filter (DX o d)).map (·.2.2)
theorem zpF:∀{t:Tr},sU K t->∀q∈t.leaves,qy t.lo q.1/\qy q.2.1 t.hi
 |.lf lo hi i,_,q,hq=>by rw[List.mem_singleton.mp hq];exact⟨⟨Int.le_refl _,Int.le_refl _,Int.le_refl _⟩,Int.le_refl _,Int.le_refl _,Int.le_refl _⟩
 |.nd lo hi l r,h,q,hq=>h.2.2.2 q hq
include h0 in
theorem zlS{t:Tr}(ht:sU K t)(e:iu o d t.lo t.hi=none):lG o d t.leaves=[]:=by unfold lG;rw[List.filter_eq_nil_iff.mpr λq hq=>?_,List.map_nil];have k:=zpF ht q hq;unfold DX;rw[zjU h0 k.1 k.2 e];simp
def TX(a b:List Lf):lG o d (a++b)=lG o d a++lG o d b:=by simp[lG]
def Tv{m:Option ((Int×Int)×(Int×Int))}{b:Bool}(h:oH (DY m)=b):m.isSome = !b:=by cases m<;>cases b<;>first|rfl|cases h
noncomputable abbrev G7:TF:=bI (eB (aV .Gt) (eN jo (ak (aj 3) aB)) (eC (.int 0)))
include ho hd h0 hK in
theorem zly:∀(N:Nat) (ws:List Tr) (fs:List Nat),kZ ws<=N->N+fs.length<=1000->(∀t∈ws,sU K t) ->
 ∃fs':List Nat,fs'.Perm (fs++lG o d (ws.flatMap Tr.leaves))/\fs'.length<=fs.length+N/\∀(S:So) (x0 p:Option D),∃p',jX G7 tZ [x0,some (.tup [pD o,pD d]),some (.ref S.length),some (.ref (S.length+1)),p] (S++[.lst (fs.map aZ)]++[.lst (ws.map bF)]) =
  some (.nx,[x0,some (.tup [pD o,pD d]),some (.ref S.length),some (.ref (S.length+1)),p'],S++[.lst (fs'.map aZ)]++[.lst []]):=by
 intro N
 induction N with
 |zero =>
  intro ws fs h1 h2 h3;have hw:ws=[]:=by have:=U5 ws;exact List.eq_nil_of_length_eq_zero (by omega)
  subst hw;refine⟨fs,by simp[lG],by omega,λS x0 p=>⟨p,?_⟩⟩;have l2:(S++[O.lst (fs.map aZ)]++[O.lst []])[S.length+1]?=some (.lst []):=by rw[show S.length+1=(S++[O.lst (fs.map aZ)]).length by simp];exact cI
  exact Fi (fP (aW (bG (aO (aJ rfl) bD) (rz l2)) bA rfl))
 |succ N ih =>
  intro ws fs h1 h2 h3;rcases List.eq_nil_or_concat ws with rfl|⟨ws',t,rfl⟩
  .refine⟨fs,by simp[lG],by omega,λS x0 p=>⟨p,?_⟩⟩;have l2:(S++[O.lst (fs.map aZ)]++[O.lst []])[S.length+1]?=some (.lst []):=by rw[show S.length+1=(S++[O.lst (fs.map aZ)]).length by simp];exact cI
   exact Fi (fP (aW (bG (aO (aJ rfl) bD) (rz l2)) bA rfl))
  .rw[List.concat_eq_append] at *
   have hsz:=U8 ws' [t];have hpt:=TY t;have ht:kZ [t]=t.size:=by simp[kZ]
   have hto:=h3 t (by simp);have htl:aP K t.lo/\aP K t.hi:=by
    cases t with
    |lf lo hi i=>exact hto
    |nd lo hi l r=>exact hto.1
   have fb:∀fx:EF,∀(σ:Sg) (S:So),fx σ S=some (bF t,S)->ig "Tree" "box" fx σ S=some (.tup [pD t.lo,pD t.hi],S):=λfx σ S h=>by cases t<;>exact rm h rfl rfl
   have turn:∀(S:So) (x0 p:Option D) (r:Fl×Sg×So) (fl:Fl) (σ2:Sg) (S2:So),tZ [x0,some (.tup [pD o,pD d]),some (.ref S.length),some (.ref (S.length+1)),p] (S++[.lst (fs.map aZ)]++[.lst ((ws'++[t]).map bF)])=some (fl,σ2,S2)->(fl = .nx\/fl = .ct)->jX G7 tZ σ2 S2=some r ->
    jX G7 tZ [x0,some (.tup [pD o,pD d]),some (.ref S.length),some (.ref (S.length+1)),p] (S++[.lst (fs.map aZ)]++[.lst ((ws'++[t]).map bF)])=some r:=λS x0 p r fl σ2 S2 e hf hr=>by
    have l2:(S++[O.lst (fs.map aZ)]++[O.lst ((ws'++[t]).map bF)])[S.length+1]?=some (.lst ((ws'++[t]).map bF)):=by rw[show S.length+1=(S++[O.lst (fs.map aZ)]).length by simp];exact cI
    refine JW (σ1:=[]) ?_ e hf hr;have:=fP (aW (bG (aO (aJ (σ:=[x0,some (.tup [pD o,pD d]),some (.ref S.length),some (.ref (S.length+1)),p]) (i:=3) rfl) bD) (rz l2)) (bA (d := .int 0)) QD);rw[show G7=bI (eB (aV .Gt) (eN jo (ak (aj 3) aB)) (eC (.int 0))) from rfl,this,mj];simp
   have st1:∀(S:So) (x0 p:Option D),M6 [x0,some (.tup [pD o,pD d]),some (.ref S.length),some (.ref (S.length+1)),p] (S++[.lst (fs.map aZ)]++[.lst ((ws'++[t]).map bF)])=some (.nx,[x0,some (.tup [pD o,pD d]),some (.ref S.length),some (.ref (S.length+1)),some (bF t)],S++[.lst (fs.map aZ)]++[.lst (ws'.map bF)]):=λS x0 p=>by
    have l2:(S++[O.lst (fs.map aZ)]++[O.lst ((ws'++[t]).map bF)])[S.length+1]?=some (.lst ((ws'++[t]).map bF)):=by rw[show S.length+1=(S++[O.lst (fs.map aZ)]).length by simp];exact cI
    unfold M6;refine c7 (x:=bF t) (S1:=S++[.lst (fs.map aZ)]++[.lst (ws'.map bF)]) ?_ (cO rfl);unfold Dj;rw[aJ (d := .ref (S.length+1)) rfl];simp only[b8];rw[l2];simp only;exact zl6 (by rw[l2,uY];rfl) (Rv rfl)
   have sp:=λS=>VL (lo:=t.lo) (hi:=t.hi) ho hd htl.1 htl.2 h0 hK S;have st2:∀(S:So) (x0:Option D) (b:Bool),oH (DY (iu o d t.lo t.hi))=b->bI (eB (aV .Is) (eN (aR 2 vN) (ak (aj 1) (ak (ig "Tree" "box" (aj 4)) aB))) (eC .non)) [x0,some (.tup [pD o,pD d]),some (.ref S.length),some (.ref (S.length+1)),some (bF t)] (S++[.lst (fs.map aZ)]++[.lst (ws'.map bF)])=some (b,S++[.lst (fs.map aZ)]++[.lst (ws'.map bF)]):=λS x0 b hb=>by rw[<-hb];exact fP (aW (bG (aO (aJ rfl) (aO (fb _ _ _ (aJ rfl)) bD)) (eE rfl (sp _))) bA p6)
   cases hsp:oH (DY (iu o d t.lo t.hi)) with
   |true =>
    obtain⟨fs',p1,p2,p3⟩:=ih ws' fs (by omega) (by omega) (λt' h=>h3 t' (by simp[h]));refine⟨fs',?_,by omega,λS x0 p=>?_⟩
    .have hn:iu o d t.lo t.hi=none:=by have:=Tv hsp;cases q:iu o d t.lo t.hi with|none=>rfl|some _=>rw[q] at this;cases this
     rw[List.flatMap_append,TX,List.flatMap_singleton,zlS h0 hto hn,List.append_nil];exact p1
    .obtain⟨p',e⟩:=p3 S x0 (some (bF t));refine⟨p',turn S x0 p _ .ct _ _ ?_ (.inr rfl) e⟩;unfold tZ;refine aM (st1 S x0 p) (aU (aM (fl := .ct) ?_ Jy));unfold yP;exact eZ (st2 S x0 true hsp) (gG rfl (aM Sy Jy))
   |false =>
    cases t with
    |lf lo hi i =>
     obtain⟨fs',p1,p2,p3⟩:=ih ws' (fs++[i]) (by omega) (by simp;omega) (λt' h=>h3 t' (by simp[h]));refine⟨fs',?_,by simp at p2;omega,λS x0 p=>?_⟩
     .have hs:lG o d (Tr.leaves (.lf lo hi i))=[i]:=by have:DX o d (lo,hi,i)=true:=Tv hsp;unfold lG Tr.leaves;rw[List.filter_cons_of_pos this];rfl
      rw[List.flatMap_append,TX,List.flatMap_singleton,hs];rw[fB] at p1;exact p1.trans (List.Perm.append_left _ List.perm_append_comm)
     .obtain⟨p',e⟩:=p3 S x0 (some (bF (.lf lo hi i)));refine⟨p',turn S x0 p _ .nx _ _ ?_ (.inl rfl) e⟩;unfold tZ;have s2:yP [x0,some (.tup [pD o,pD d]),some (.ref S.length),some (.ref (S.length+1)),some (bF (.lf lo hi i))] (S++[.lst (fs.map aZ)]++[.lst (ws'.map bF)])=some (.nx,[x0,some (.tup [pD o,pD d]),some (.ref S.length),some (.ref (S.length+1)),some (bF (.lf lo hi i))],S++[.lst (fs.map aZ)]++[.lst (ws'.map bF)]):=by unfold yP;exact eZ (st2 S x0 false hsp) (fG rfl eX)
      have s3:Ba [x0,some (.tup [pD o,pD d]),some (.ref S.length),some (.ref (S.length+1)),some (bF (.lf lo hi i))] (S++[.lst (fs.map aZ)]++[.lst (ws'.map bF)])=some (.nx,[x0,some (.tup [pD o,pD d]),some (.ref S.length),some (.ref (S.length+1)),some (bF (.lf lo hi i))],S++[.lst ((fs++[i]).map aZ)]++[.lst (ws'.map bF)]):=by unfold Ba;have l1:(S++[O.lst (fs.map aZ)]++[O.lst (ws'.map bF)])[S.length]?=some (.lst (fs.map aZ)):=fQ cI;rw[uY];exact eZ (b:=false) (fP (aW (rm (d:=aZ i) (aJ rfl) rfl rfl) bA p6)) (fG rfl (aM (yC (El (aJ rfl) l1 (aO (rm (d:=aZ i) (aJ rfl) rfl rfl) bD) (Ux l1 (by rw[cW,sizeLine_eq];omega) (Jz rfl)))) (aU eX)))
      exact aM (st1 S x0 p) (aU (aM s2 (aU (aM s3 (aU eX)))))
    |nd lo hi l r =>
     have hsl:kZ (ws'++[l,r])<=N:=by
      have e1:=U8 ws' [l,r];have e2:kZ [l,r]=l.size+r.size:=by simp[kZ]
      have e3:(Tr.nd lo hi l r).size=1+l.size+r.size:=rfl;omega
     obtain⟨fs',p1,p2,p3⟩:=ih (ws'++[l,r]) fs hsl (by omega) (λt' h=>by
      rcases mH.mp h with h|h
      .exact h3 t' (by simp[h])
      .rcases List.mem_cons.mp h with rfl|h
       .exact hto.2.1
       .rw[List.mem_singleton.mp h];exact hto.2.2.1)
     refine⟨fs',?_,by omega,λS x0 p=>?_⟩
     .have hl:(ws'++[l,r]).flatMap Tr.leaves=(ws'++[Tr.nd lo hi l r]).flatMap Tr.leaves:=by simp[Tr.leaves]
      rw[<-hl];exact p1
     .obtain⟨p',e⟩:=p3 S x0 (some (bF (.nd lo hi l r)));refine⟨p',turn S x0 p _ .nx _ _ ?_ (.inl rfl) e⟩;unfold tZ;have s2:yP [x0,some (.tup [pD o,pD d]),some (.ref S.length),some (.ref (S.length+1)),some (bF (.nd lo hi l r))] (S++[.lst (fs.map aZ)]++[.lst (ws'.map bF)])=some (.nx,[x0,some (.tup [pD o,pD d]),some (.ref S.length),some (.ref (S.length+1)),some (bF (.nd lo hi l r))],S++[.lst (fs.map aZ)]++[.lst (ws'.map bF)]):=by unfold yP;exact eZ (st2 S x0 false hsp) (fG rfl eX)
      have s3:Ba [x0,some (.tup [pD o,pD d]),some (.ref S.length),some (.ref (S.length+1)),some (bF (.nd lo hi l r))] (S++[.lst (fs.map aZ)]++[.lst (ws'.map bF)])=some (.nx,[x0,some (.tup [pD o,pD d]),some (.ref S.length),some (.ref (S.length+1)),some (bF (.nd lo hi l r))],S++[.lst (fs.map aZ)]++[.lst ((ws'++[l,r]).map bF)]):=by
       unfold Ba;have l2:(S++[O.lst (fs.map aZ)]++[O.lst (ws'.map bF)])[S.length+1]?=some (.lst (ws'.map bF)):=by rw[show S.length+1=(S++[O.lst (fs.map aZ)]).length by simp];exact cI
       have hx:xX (.ref (S.length+1)) [.tup [bF l,bF r]] (S++[.lst (fs.map aZ)]++[.lst (ws'.map bF)])=some (.non,S++[.lst (fs.map aZ)]++[.lst ((ws'++[l,r]).map bF)]):=by have hlw:=U5 ws';unfold xX;simp only;rw[l2];simp only;rw[if_pos (by rw[cW,sizeLine_eq];simp;omega),Rv rfl,uY];rfl
       exact eZ (b:=true) (fP (aW (rm (d := .non) (aJ rfl) rfl rfl) bA p6)) (gG rfl (aM (yC (El (aJ rfl) l2 (aO (rm (d := .tup [bF l,bF r]) (aJ rfl) rfl rfl) bD) hx)) (aU eX)))
      exact aM (st1 S x0 p) (aU (aM s2 (aU (aM s3 (aU eX)))))
end
def La:∀t:Tr,t.size+1=2*t.leaves.length
 |.lf _ _ _=>rfl
 |.nd _ _ l r=>by have h1:=La l;have h2:=La r;simp only[Tr.size,Tr.leaves,lz];omega
theorem Fb(n:Nat)(fs:List Nat):O.lo n (.lst (fs.map aZ))=true:=by show cV n _=true;rw[mq];intro x hx;obtain⟨i,_,rfl⟩:=List.mem_map.mp hx;simp[aZ,D.lo]
section
variable {K:Nat}{o d:Pt}(ho:aP K o)(hd:aP K d)(h0:d≠(0,0,0))
include ho hd h0 in
theorem zlM(hK:K<=10000){t:Option Tr}(ht:∀t',t=some t'->sU K t'/\t'.leaves.length<=40):
 ∃fs:List Nat,fs.Perm (lG o d (yU t))/\fs.length<=100/\∀S,WF S->GC [gF t,cj o d] S=some (.ref S.length,S++[.lst (fs.map aZ)]++[.lst []]):=by
 have hsz:kZ t.toList<=100:=by
  cases t with
  |none=>simp[kZ]
  |some t' =>
   have h1:=La t';have h2:=(ht t' rfl).2;simp[kZ];omega
 obtain⟨fs,p1,p2,p3⟩:=zly ho hd h0 hK 100 t.toList [] hsz (by simp) (λt' h=>by
  cases t with
  |none=>simp at h
  |some t2 =>
   have:t'=t2:=by simpa using h
   subst this;exact(ht t' rfl).1)
 refine⟨fs,?_,by simpa using p2,λS hS=>?_⟩
 .have e:(t.toList.flatMap Tr.leaves)=yU t:=by cases t<;>simp[yU]
  rw[uP,e] at p1;exact p1
 .obtain⟨p',e⟩:=p3 S (some (gF t)) none;have a1:Ni [some (gF t),some (cj o d),none,none,none] S=some (.nx,[some (gF t),some (cj o d),some (.ref S.length),none,none],S++[.lst []]):=by unfold Ni;exact c7 (bG bD (vy (Nat.zero_le _))) (cO rfl)
  have a2:Nj [some (gF t),some (cj o d),some (.ref S.length),none,none] (S++[.lst []])=some (.nx,[some (gF t),some (cj o d),some (.ref S.length),some (.ref (S.length+1)),none],S++[.lst []]++[.lst (t.toList.map bF)]):=by
   unfold Nj;have hlen:(S++[O.lst []]).length=S.length+1:=by simp
   rw[<-hlen];cases t with
   |none=>exact c7 (zM (b:=true) (fP (aW (aJ rfl) bA p6)) (gG rfl (bG bD (vy (Nat.zero_le _))))) (cO rfl)
   |some t' =>
    have hn:oH (gF (some t'))=false:=by cases t'<;>rfl
    refine c7 (zM (b:=false) (fP ?_) (fG rfl (bG (aO (aJ rfl) bD) (vy (by show 1<=sizeLine;decide))))) (cO rfl);rw[<-hn];exact aW (aJ rfl) bA p6
  have a3:Ws [some (gF t),some (cj o d),some (.ref S.length),some (.ref (S.length+1)),none] (S++[.lst []]++[.lst (t.toList.map bF)])=some (.nx,[some (gF t),some (cj o d),some (.ref S.length),some (.ref (S.length+1)),p'],S++[.lst (fs.map aZ)]++[.lst []]):=e;have a4:Nk [some (gF t),some (cj o d),some (.ref S.length),some (.ref (S.length+1)),p'] (S++[.lst (fs.map aZ)]++[.lst []])=some (.rt (.ref S.length),[some (gF t),some (cj o d),some (.ref S.length),some (.ref (S.length+1)),p'],S++[.lst (fs.map aZ)]++[.lst []]):=by unfold Nk;exact fX (aJ rfl)
  refine vC (σ':=[some (gF t),some (cj o d),some (.ref S.length),some (.ref (S.length+1)),p']) ?_ ?_ (by simp) (by simp[D.lo]) ((hS.snoc (Fb _ _)).snoc rfl)
  .wtm_at "?b"
   unfold Wx;exact aM a1 (aU (aM a2 (aU (aM a3 (aU (aM a4 dW))))))
  .intro h;simp[D.lo] at h
structure jm(S:So)(c:Nat)(shs:List Sh)(t:Option Tr):Prop where
 ins:S[c]?=some (.ins "Scene" [("kept",.ref (c+1)),("tree",gF t)])
 kept:S[c+1]?=some (.lst (shs.map bJ))
structure u5(K:Nat)(shs:List Sh)(t:Option Tr):Prop where
 sh:∀s∈shs,kI K s
 tree:∀t',t=some t'->sU K t'/\t'.leaves.length<=40
 lf:∃g:Sh->Pt×Pt,(∀s∈shs,mF s.pts (g s).1 (g s).2)/\(yU t).Perm (iC (shs.map g))
theorem jm.app{c:Nat}{t:Option Tr}(h:jm S c shs t)(G:So):jm (S++G) c shs t:=by
 have g:∀{n:Nat} {o:O},S[n]?=some o->(S++G)[n]?=some o:=λ{n o} e=>by rw[ou (fO.mp e).1];exact e
 exact⟨g h.ins,g h.kept⟩
noncomputable abbrev cg:=(Int×Int)×Nat
noncomputable def aY(h:cg):D := .tup [rD h.1,aZ h.2]
noncomputable def cL(o d:Pt)(shs:List Sh)(i:Nat):Option cg:=(shs[i]?).bind λs=>(fj o d s).map λp=>(p,i)
noncomputable def lA(o d:Pt)(shs:List Sh):List cg:=(List.range shs.length).filterMap (cL o d shs)
theorem zky(bs:List (Pt×Pt)):(iC bs).map (·.2.2)=List.range bs.length:=by
 apply List.ext_getElem?;intro i;by_cases h:i<bs.length
 .rw[iY,Gh h,List.getElem?_range h];rfl
 .rw[j9 (by rw[cW,mZ];omega),j9 (by rw[List.length_range];omega)]
theorem RX{α β:Type}{p:α->Bool}{f:α->Nat}{h:Nat->Option β}:∀l:List α,(∀q∈l,p q=false->h (f q)=none)->((l.filter p).map f).filterMap h=(l.map f).filterMap h
 |[],_=>rfl
 |q::r,k=>by
  have ih:=RX r λx hx=>k x (cM _ hx);cases e:p q with
  |true=>rw[List.filter_cons_of_pos e,jd,jd,List.filterMap_cons,List.filterMap_cons,ih]
  |false=>rw[List.filter_cons_of_neg (by simp[e]),jd,List.filterMap_cons,k q (fL ..) e,ih]
include h0 in
theorem zlT{g:Sh->Pt×Pt}(hg:∀s∈shs,mF s.pts (g s).1 (g s).2):(lG o d (iC (shs.map g))).filterMap (cL o d shs)=lA o d shs:=by
 unfold lG lA;rw[RX,zky,cW];intro q hq e;obtain⟨i,hi,rfl⟩:=List.getElem_of_mem hq;have hi':i<(shs.map g).length:=by rw[<-mZ];exact hi
 have hi2:i<shs.length:=by simpa using hi'
 have e2:=Gh hi';rw[f9 hi] at e2;have e3:=Option.some.inj e2;rw[e3] at e ⊢;simp only[List.getElem_map] at e;unfold cL;rw[f9 hi2];have:fj o d shs[i]=none:=Classical.byContradiction λc=>by
  have:=znT h0 (hg _ (List.getElem_mem hi2)) c;unfold DX at e;simp only at e;cases q:iu o d (g shs[i]).1 (g shs[i]).2 with
  |none=>exact this q
  |some _=>rw[q] at e;cases e
 show(fj o d shs[i]).map _=none;rw[this];rfl
theorem yp(n:Nat)(hs:List cg):O.lo n (.lst (hs.map aY))=true:=by show cV n _=true;rw[mq];intro x hx;obtain⟨i,_,rfl⟩:=List.mem_map.mp hx;simp[aY,aZ,D.lo,cV]
include ho hd h0 in
theorem SM(hK:K<=1500){t:Option Tr}(ok:u5 K shs t):
 ∃fs:List Nat,(fs.filterMap (cL o d shs)).Perm (lA o d shs)/\fs.length<=100/\∀S c,WF S->jm S c shs t->Ah [.ref c,cj o d] S=some (.ref S.length,S++[.lst ((fs.filterMap (cL o d shs)).map aY)]++[.lst (fs.map aZ)]++[.lst []]):=by
 obtain⟨fs,p1,p2,p3⟩:=zlM ho hd h0 (by omega) ok.tree;obtain⟨g,hg,hlf⟩:=ok.lf;have p4:fs.Perm (lG o d (iC (shs.map g))):=p1.trans ((hlf.filter _).map _);have hfs:∀i∈fs,i<shs.length:=λi hi=>by obtain⟨q,hq,rfl⟩:=List.mem_map.mp (p4.mem_iff.mp hi);have:=(Vf (List.mem_filter.mp hq).1).1;simpa using this
 refine⟨fs,by rw[<-zlT h0 hg];exact p4.filterMap _,p2,λS c hS sc=>?_⟩;have hrs:=zdM (o:=o) h0 S;have a1:Ml [some (.ref c),some (cj o d),none,none,none] S=some (.nx,[some (.ref c),some (cj o d),none,none,none],S):=by unfold Ml;exact yC (bG (aO (aJ rfl) bD) (eE rfl hrs))
 have a2:Mp [some (.ref c),some (cj o d),none,none,none] S=some (.nx,[some (.ref c),some (cj o d),some (.ref S.length),none,none],S++[.lst []]):=by unfold Mp;exact c7 (bG bD (vy (Nat.zero_le _))) (cO rfl)
 have W1:WF (S++[.lst []]):=hS.snoc rfl;have rO:=sc.app [.lst []];have it:d9 (eN (aR 2 GC) (ak (ig "Scene" "tree" (aj 0)) (ak (aj 1) aB))) [some (.ref c),some (cj o d),some (.ref S.length),none,none] (S++[.lst []])=some (.lst (S.length+1),S++[.lst []]++[.lst (fs.map aZ)]++[.lst []]):=by
  have hlen:(S++[O.lst []]).length=S.length+1:=by simp
  rw[<-hlen];exact oN (bG (aO (JF (aJ rfl) rO.ins rfl) (aO (aJ rfl) bD)) (eE rfl (p3 _ W1))) (fQ cI)
 have inv:=FP (nx:=dG (.lst (S.length+1))) (g:=aK 3) (f:=yM) (xs:=fs.map aZ)
  (λi σ S'=>∃a b,σ=[some (.ref c),some (cj o d),some (.ref S.length),a,b]/\S'=S++[.lst (((fs.take i).filterMap (cL o d shs)).map aY)]++[.lst (fs.map aZ)]++[.lst []])
  (λi σ S' ⟨a,b,_,e⟩=>by
   subst e;have l:(S++[O.lst (((fs.take i).filterMap (cL o d shs)).map aY)]++[O.lst (fs.map aZ)]++[O.lst []])[S.length+1]?=some (.lst (fs.map aZ)):=by rw[show S.length+1=(S++[O.lst (((fs.take i).filterMap (cL o d shs)).map aY)]).length by simp];exact fQ cI
   unfold dG;simp only;rw[l])
  (λi dd σ S' hi ⟨a,b,e1,e2⟩=>?_) fs.length 0 [some (.ref c),some (cj o d),some (.ref S.length),none,none] (S++[.lst []]++[.lst (fs.map aZ)]++[.lst []]) ⟨none,none,rfl,rfl⟩ (by simp)
 .obtain⟨σ',S',e,a,b,rfl,rfl⟩:=inv;rw[cW,xO] at e;have a3:Mq [some (.ref c),some (cj o d),some (.ref S.length),none,none] (S++[.lst []])=some (.nx,[some (.ref c),some (cj o d),some (.ref S.length),a,b],S++[.lst ((fs.filterMap (cL o d shs)).map aY)]++[.lst (fs.map aZ)]++[.lst []]):=by
   unfold Mq;refine qY it (n:=fs.length) ?_ e;have l:(S++[O.lst []]++[O.lst (fs.map aZ)]++[O.lst []])[S.length+1]?=some (.lst (fs.map aZ)):=by rw[show S.length+1=(S++[O.lst []]).length by simp];exact fQ cI
   unfold uT;simp only;rw[l];simp
  have a4:Mr [some (.ref c),some (cj o d),some (.ref S.length),a,b] (S++[.lst ((fs.filterMap (cL o d shs)).map aY)]++[.lst (fs.map aZ)]++[.lst []])=some (.rt (.ref S.length),[some (.ref c),some (cj o d),some (.ref S.length),a,b],S++[.lst ((fs.filterMap (cL o d shs)).map aY)]++[.lst (fs.map aZ)]++[.lst []]):=by unfold Mr;exact fX (aJ rfl)
  refine vC (σ':=[some (.ref c),some (cj o d),some (.ref S.length),a,b]) ?_ ?_ (by simp) (by simp[D.lo]) (((hS.snoc (yp _ _)).snoc (Fb _ _)).snoc rfl)
  .wtm_at "?b"
   unfold Mu;exact aM a1 (aU (aM a2 (aU (aM a3 (aU (aM a4 dW))))))
  .intro h;simp[D.lo] at h
 .subst e1 e2;have hi':i<fs.length:=by have:=(fO.mp hi).1;simpa using this
  have hd':dd=aZ fs[i]:=by rw[iY,f9 hi'] at hi;exact(Option.some.inj hi).symm
  subst hd';have hj:=hfs fs[i] (List.getElem_mem hi');have hWS:WF (S++[.lst (((fs.take i).filterMap (cL o d shs)).map aY)]++[.lst (fs.map aZ)]++[.lst []]):=((hS.snoc (yp _ _)).snoc (Fb _ _)).snoc rfl;have Bv:jm (S++[.lst (((fs.take i).filterMap (cL o d shs)).map aY)]++[.lst (fs.map aZ)]++[.lst []]) c shs t:=by rw[fB,fB];exact sc.app _
  have tm:=zjX ho hd (ok.sh _ (List.getElem_mem hj)) h0 hK _ hWS;have hix:gJ (shs.map bJ) ((fs[i]:Nat):Int)=some (bJ shs[fs[i]]):=zQ (by simp[hj]);have b1:MP [some (.ref c),some (cj o d),some (.ref S.length),some (aZ fs[i]),b] (S++[.lst (((fs.take i).filterMap (cL o d shs)).map aY)]++[.lst (fs.map aZ)]++[.lst []])=some (.nx,[some (.ref c),some (cj o d),some (.ref S.length),some (aZ fs[i]),some (tD (fj o d shs[fs[i]]))],S++[.lst (((fs.take i).filterMap (cL o d shs)).map aY)]++[.lst (fs.map aZ)]++[.lst []]):=by unfold MP;exact c7 (bG (aO (aJ rfl) (aO (aW (JF (aJ rfl) Bv.ins rfl) (aJ rfl) (qZ Bv.kept hix)) bD)) (eE rfl tm)) (cO rfl)
  have tk:fs.take (i+1)=fs.take i++[fs[i]]:=by rw[List.take_add_one,f9 hi'];rfl
  have hat:cL o d shs fs[i]=(fj o d shs[fs[i]]).map λp=>(p,fs[i]):=by unfold cL;rw[f9 hj];rfl
  cases ht:fj o d shs[fs[i]] with
  |none =>
   rw[ht] at b1 hat
   have b2:Ay [some (.ref c),some (cj o d),some (.ref S.length),some (aZ fs[i]),some (tD none)] (S++[.lst (((fs.take i).filterMap (cL o d shs)).map aY)]++[.lst (fs.map aZ)]++[.lst []])=some (.nx,[some (.ref c),some (cj o d),some (.ref S.length),some (aZ fs[i]),some (tD none)],S++[.lst (((fs.take i).filterMap (cL o d shs)).map aY)]++[.lst (fs.map aZ)]++[.lst []]):=by unfold Ay;exact eZ (b:=false) (fP (aW (aJ rfl) bA Ka)) (fG rfl eX)
   have b3:yM [some (.ref c),some (cj o d),some (.ref S.length),some (aZ fs[i]),b] (S++[.lst (((fs.take i).filterMap (cL o d shs)).map aY)]++[.lst (fs.map aZ)]++[.lst []])=some (.nx,[some (.ref c),some (cj o d),some (.ref S.length),some (aZ fs[i]),some (tD none)],S++[.lst (((fs.take i).filterMap (cL o d shs)).map aY)]++[.lst (fs.map aZ)]++[.lst []]):=by unfold yM;exact aM b1 (aU (aM b2 (aU eX)))
   refine⟨_,_,.nx,_,_,cO rfl,b3,.inl rfl,some (aZ fs[i]),some (tD none),rfl,?_⟩
   .rw[tk,List.filterMap_append];simp[hat]
  |some p =>
   rw[ht] at b1 hat
   have b2:Ay [some (.ref c),some (cj o d),some (.ref S.length),some (aZ fs[i]),some (tD (some p))] (S++[.lst (((fs.take i).filterMap (cL o d shs)).map aY)]++[.lst (fs.map aZ)]++[.lst []])=some (.nx,[some (.ref c),some (cj o d),some (.ref S.length),some (aZ fs[i]),some (tD (some p))],S++[.lst (((fs.take i).filterMap (cL o d shs)).map aY++[aY (p,fs[i])])]++[.lst (fs.map aZ)]++[.lst []]):=by
    unfold Ay;have l1:(S++[O.lst (((fs.take i).filterMap (cL o d shs)).map aY)]++[O.lst (fs.map aZ)]++[O.lst []])[S.length]?=some (.lst (((fs.take i).filterMap (cL o d shs)).map aY)):=fQ (fQ cI);refine eZ (b:=true) (fP (aW (aJ rfl) bA Ka)) (gG rfl (aM (yC (El (aJ rfl) l1 (aO (bG (aO (aJ rfl) (aO (aJ rfl) bD)) (jb (by show 2<=sizeLine;decide))) bD) (Ux l1 ?_ ?_))) (aU eX)))
    .rw[cW,sizeLine_eq];have:=List.length_filterMap_le (cL o d shs) (fs.take i);have h2:(fs.take i).length<=100:=by simp;omega
     omega
    .rw[List.set_append_left _ _ (by simp),List.set_append_left _ _ (by simp)];simp[aY,tD]
   have b3:yM [some (.ref c),some (cj o d),some (.ref S.length),some (aZ fs[i]),b] (S++[.lst (((fs.take i).filterMap (cL o d shs)).map aY)]++[.lst (fs.map aZ)]++[.lst []])=some (.nx,[some (.ref c),some (cj o d),some (.ref S.length),some (aZ fs[i]),some (tD (some p))],S++[.lst (((fs.take i).filterMap (cL o d shs)).map aY++[aY (p,fs[i])])]++[.lst (fs.map aZ)]++[.lst []]):=by unfold yM;exact aM b1 (aU (aM b2 (aU eX)))
   refine⟨_,_,.nx,_,_,cO rfl,b3,.inl rfl,some (aZ fs[i]),some (tD (some p)),rfl,?_⟩
   .rw[tk,List.filterMap_append];simp[hat]
end
open Classical in
noncomputable def kW(h b:cg):Bool:=decide (h.1.1*b.1.2<b.1.1*h.1.2)||(decide (rD h.1=rD b.1)&&decide ((h.2:Int)<(b.2:Int)))
structure uL(k:Nat)(h:cg):Prop where
 a:Bd k h.1.1
 b:Bd k h.1.2
open Classical in
theorem zjW{h b:cg}(h1:uL k h)(h2:uL k b)(hk:k+k<=134217728)(S:So):Gy [aY h,aY b] S=some (.bl (kW h b),S):=by
 have hl:=sp_is_less h1.a h1.b h2.a h2.b hk S;have t:kj (eN (aR 2 tY) (ak (eB aH (aj 0) (eC (.int 0))) (ak (eB aH (aj 1) (eC (.int 0))) aB))) [some (aY h),some (aY b)] S=some (decide (h.1.1*b.1.2<b.1.1*h.1.2),S) :=
  JL (bG (aO (aW (aJ rfl) bA (dX (z:=rD h.1) rfl)) (aO (aW (aJ rfl) bA (dX (z:=rD b.1) rfl)) bD)) (eE rfl hl)) rfl
 apply bQ (S':=S) (σ':=[some (aY h),some (aY b)])
 .wtm_at "?b"
  unfold V0;cases hb:decide (h.1.1*b.1.2<b.1.1*h.1.2) with
  |true =>
   rw[hb] at t;have:kW h b=true:=by unfold kW;rw[hb];rfl
   rw[this];exact aM (eZ t (gG rfl (aM (fX bA) dW))) dW
  |false =>
   rw[hb] at t;have e:kW h b=(decide (rD h.1=rD b.1)&&decide ((h.2:Int)<(b.2:Int))):=by unfold kW;rw[hb];rfl
   rw[e];have q:eB (aV .Eq) (eB aH (aj 0) (eC (.int 0))) (eB aH (aj 1) (eC (.int 0))) [some (aY h),some (aY b)] S=some (.bl (decide (rD h.1=rD b.1)),S) :=
    aW (aW (aJ rfl) bA (dX (z:=rD h.1) rfl)) (aW (aJ rfl) bA (dX (z:=rD b.1) rfl)) (p8 rfl 1 rfl rfl (by decide))
   have l:eB (aV .Lt) (eB aH (aj 0) (eC (.int 1))) (eB aH (aj 1) (eC (.int 1))) [some (aY h),some (aY b)] S=some (.bl (decide ((h.2:Int)<(b.2:Int))),S) :=
    aW (aW (aJ rfl) bA (dX (z:=aZ h.2) rfl)) (aW (aJ rfl) bA (dX (z:=aZ b.2) rfl)) Im
   refine aM (eZ t (fG rfl eX)) (aU (aM (fX (Sw q ?_)) dW));cases hd:decide (rD h.1=rD b.1) with
   |true=>exact gG rfl (by rw[l];rfl)
   |false=>exact fG rfl rfl
 .exact xO
 .rfl
noncomputable def dO:Option cg->D
 |none => .non
 |some h=>aY h
noncomputable def fH(best:Option cg)(h:cg):Option cg:=match best with
 |none=>some h
 |some b=>if kW h b=true then some h else some b
theorem yo:∀(hs:List cg) (b:Option cg) (h:cg),hs.foldl fH b=some h->h∈hs\/b=some h
 |[],b,h,e => .inr e
 |x::r,b,h,e=>by
  rcases yo r (fH b x) h e with q|q
  .exact .inl (cM _ q)
  .cases b with
   |none=>simp only[fH,Option.some.injEq] at q;subst q;exact .inl (fL ..)
   |some y =>
    simp only[fH] at q;split at q
    .cases q;exact .inl (fL ..)
    .exact .inr q
def gD(h:cg):Prop:=0<h.1.2/\cR h.1.1 h.1.2=h.1
theorem oO{h b:cg}:kW h b=true↔dj h.1 b.1\/(h.1=b.1/\h.2<b.2):=by
 have e:rD h.1=rD b.1↔h.1=b.1:=⟨λq=>by
  obtain⟨⟨x,y⟩,i⟩:=h;obtain⟨⟨z,w⟩,j⟩:=b;simp[rD] at q;simp[q.1,q.2],λq=>by rw[q]⟩
 unfold kW dj;simp only[mG,dh,uQ];exact or_congr Iff.rfl (and_congr e Int.ofNat_lt)
def Fq{a b:cg}(ha:gD a)(hb:gD b)(h1:leQ a.1 b.1)(h2:leQ b.1 a.1):a.1=b.1:=by rw[<-ha.2,<-hb.2];exact zi8 ha.1 hb.1 h1 h2
def gU(x y:cg):Prop:=¬kW y x=true
theorem Iz{x y z:cg}(gx:gD x)(gy:gD y)(gz:gD z)(h1:gU x y)(h2:gU y z):gU x z:=by
 unfold gU at *
 rw[oO] at *
 have q1:leQ x.1 y.1:=mX λc=>h1 (.inl c);have q2:leQ y.1 z.1:=mX λc=>h2 (.inl c)
 rintro(c|⟨c1,c2⟩)
 .exact Tw (yG gx.1 gy.1 gz.1 q1 q2) c
 .rw[c1] at q2;have e:=Fq gx gy q1 q2;have k1:¬y.2<x.2:=λc=>h1 (.inr ⟨e.symm,c⟩);have k2:¬z.2<y.2:=λc=>h2 (.inr ⟨c1.trans e,c⟩);omega
theorem JP{x y:cg}(gx:gD x)(gy:gD y)(h1:gU x y)(h2:gU y x):x=y:=by
 unfold gU at *
 rw[oO] at *
 have e:=Fq gx gy (mX λc=>h1 (.inl c)) (mX λc=>h2 (.inl c));have k1:¬y.2<x.2:=λc=>h1 (.inr ⟨e.symm,c⟩);have k2:¬x.2<y.2:=λc=>h2 (.inr ⟨e,c⟩);exact Prod.ext e (by omega)
theorem Sq{x y:cg}(h:kW y x=true):gU y x:=by
 unfold gU;rw[oO] at *
 unfold dj at *
 rcases h with h|⟨h1,h2⟩
 .rintro(c|⟨c,_⟩)
  .omega
  .rw[c] at h;omega
 .rintro(c|⟨_,c⟩)
  .rw[h1] at c;omega
  .omega
def FW(x:cg):gU x x:=by unfold gU;rw[oO];unfold dj;omega
theorem Es:∀(hs:List cg) (b:Option cg),(∀x∈hs,gD x)->(∀y,b=some y->gD y) ->
 (hs.foldl fH b=none->hs=[]/\b=none)/\∀h,hs.foldl fH b=some h->(∀x∈hs,gU h x)/\∀y,b=some y->gU h y
 |[],b,_,_=>⟨λe=>⟨rfl,e⟩,λh e=>⟨λx hx=>(by cases hx),λy hy=>by
  have e':b=some h:=e;rw[e'] at hy;cases hy;exact FW _⟩⟩
 |x::r,b,g1,g2=>by
  have gx:=g1 x (fL ..);have step:∃z,fH b x=some z/\gD z/\gU z x/\∀y,b=some y->gU z y:=by
   cases b with
   |none=>exact⟨x,rfl,gx,FW _,λy hy=>by cases hy⟩
   |some y =>
    have gy:=g2 y rfl;unfold fH;by_cases hs:kW x y=true
    .simp only[if_pos hs];exact⟨x,rfl,gx,FW _,λz hz=>by cases hz;exact Sq hs⟩
    .simp only[if_neg hs];exact⟨y,rfl,gy,hs,λz hz=>by cases hz;exact FW _⟩
  obtain⟨z,ez,gz,z1,z2⟩:=step;obtain⟨k1,k2⟩:=Es r (some z) (λy hy=>g1 y (cM _ hy)) (λy hy=>by cases hy;exact gz);rw[List.foldl_cons,ez];refine⟨λe=>absurd (k1 e).2 (by simp),λh e=>?_⟩;have gh:gD h:=by
   rcases yo r (some z) h e with q|q
   .exact g1 h (cM _ q)
   .cases q;exact gz
  obtain⟨m1,m2⟩:=k2 h e;have hz:=m2 z rfl;refine⟨λy hy=>?_,λy hy=>Iz gh gz (g2 y hy) hz (z2 y hy)⟩;rcases List.mem_cons.mp hy with rfl|hy
  .exact Iz gh gz gx hz z1
  .exact m1 y hy
theorem zju{l1 l2:List cg}(p:l1.Perm l2)(g:∀x∈l1,gD x):l1.foldl fH none=l2.foldl fH none:=by
 have g':∀x∈l2,gD x:=λx hx=>g x (p.mem_iff.mpr hx);obtain⟨a1,a2⟩:=Es l1 none g (λy hy=>by cases hy);obtain⟨b1,b2⟩:=Es l2 none g' (λy hy=>by cases hy);cases e1:l1.foldl fH none with
 |none =>
  have:=(a1 e1).1;subst this;rw[List.nil_perm.mp p];rfl
 |some h =>
  have hm:h∈l1:=by
   rcases yo l1 none h e1 with q|q
   .exact q
   .cases q
  cases e2:l2.foldl fH none with
  |none =>
   rw[(b1 e2).1] at p;rw[List.perm_nil.mp p] at hm;cases hm
  |some k =>
   have km:k∈l2:=by
    rcases yo l2 none k e2 with q|q
    .exact q
    .cases q
   rw[JP (g h hm) (g' k km) ((a2 h e1).1 k (p.mem_iff.mpr km)) ((b2 k e2).1 h (p.mem_iff.mp hm))]
noncomputable def fV(o d:Pt)(shs:List Sh):Option cg:=(lA o d shs).foldl fH none
section
variable {K:Nat}{o d:Pt}(ho:aP K o)(hd:aP K d)(h0:d≠(0,0,0))
theorem z8{h:cg}:cL o d shs i=some h↔∃s p,shs[i]?=some s/\fj o d s=some p/\h=(p,i):=by
 unfold cL;simp only[bC,aX];constructor
 .rintro⟨s,e1,p,e2,rfl⟩;exact⟨s,p,e1,e2,rfl⟩
 .rintro⟨s,p,e1,e2,rfl⟩;exact⟨s,e1,p,e2,rfl⟩
include h0 in
def yD{h:cg}(e:cL o d shs i=some h):gD h:=by obtain⟨s,p,e1,e2,rfl⟩:=z8.mp e;exact⟨(Rj h0 s p e2).2.1,yd o d s p e2⟩
include ho hd h0 in
theorem IW{t:Option Tr}(ok:u5 K shs t){h:cg}(e:cL o d shs i=some h):uL (4*K+10) h/\h.2=i:=by unfold cL at e;simp only[bC,aX] at e;obtain⟨s,e1,p,e2,rfl⟩:=e;have b:=XD ho hd (ok.sh s (List.mem_of_getElem? e1)) h0 p e2;exact⟨⟨b.2.2.1,b.2.2.2⟩,rfl⟩
include ho hd h0 in
theorem Lx(hK:K<=1500){t:Option Tr}(ok:u5 K shs t):
 ∀S c,WF S->jm S c shs t->Am [.ref c,cj o d] S=some (dO (fV o d shs),S):=by
 obtain⟨fs,p1,p2,p3⟩:=SM ho hd h0 hK ok;have hb:∀h∈fs.filterMap (cL o d shs),uL (4*K+10) h:=λh hh=>by obtain⟨i,hi,e⟩:=List.mem_filterMap.mp hh;exact(IW ho hd h0 ok e).1
 have hf:(fs.filterMap (cL o d shs)).foldl fH none=fV o d shs:=zju p1 λh hh=>by obtain⟨i,hi,e⟩:=List.mem_filterMap.mp hh;exact yD h0 e
 generalize Px:fs.filterMap (cL o d shs)=hs at *
 have hln:hs.length<=100:=by rw[<-Px];exact Nat.le_trans (List.length_filterMap_le _ _) p2
 refine λS c hS sc=>?_;rw[<-hf]
 .have hh:=p3 S c hS sc;have a1:M8 [some (.ref c),some (cj o d),none,none] S=some (.nx,[some (.ref c),some (cj o d),some .non,none],S):=by unfold M8;exact c7 bA (cO rfl)
  have l1:(S++[O.lst (hs.map aY)]++[O.lst (fs.map aZ)]++[O.lst []])[S.length]?=some (.lst (hs.map aY)):=fQ (fQ cI);have it:d9 (jV "Scene" "hits" 2 Ah (aj 0) (ak (aj 1) aB)) [some (.ref c),some (cj o d),some .non,none] S=some (.lst S.length,S++[.lst (hs.map aY)]++[.lst (fs.map aZ)]++[.lst []]) :=
   oN (tX (aJ rfl) sc.ins rfl (aO (aJ rfl) bD) rfl hh) l1
  have inv:=FP (nx:=dG (.lst S.length)) (g:=aK 3) (f:=yO) (xs:=hs.map aY)
   (λi σ S'=>∃a,σ=[some (.ref c),some (cj o d),some (dO ((hs.take i).foldl fH none)),a]/\S'=S++[.lst (hs.map aY)]++[.lst (fs.map aZ)]++[.lst []])
   (λi σ S' ⟨a,_,e⟩=>by subst e;unfold dG;simp only;rw[l1])
   (λi dd σ S' hi ⟨a,e1,e2⟩=>?_) hs.length 0 [some (.ref c),some (cj o d),some .non,none] (S++[.lst (hs.map aY)]++[.lst (fs.map aZ)]++[.lst []]) ⟨none,rfl,rfl⟩ (by simp)
  .obtain⟨σ',S',e,a,rfl,rfl⟩:=inv;rw[cW,xO] at e;have a2:M9 [some (.ref c),some (cj o d),some .non,none] S=some (.nx,[some (.ref c),some (cj o d),some (dO (hs.foldl fH none)),a],S++[.lst (hs.map aY)]++[.lst (fs.map aZ)]++[.lst []]):=by unfold M9;refine qY it (n:=hs.length) ?_ e;unfold uT;simp only;rw[l1];simp
   have a3:Nb [some (.ref c),some (cj o d),some (dO (hs.foldl fH none)),a] (S++[.lst (hs.map aY)]++[.lst (fs.map aZ)]++[.lst []])=some (.rt (dO (hs.foldl fH none)),[some (.ref c),some (cj o d),some (dO (hs.foldl fH none)),a],S++[.lst (hs.map aY)]++[.lst (fs.map aZ)]++[.lst []]):=by unfold Nb;exact fX (aJ rfl)
   apply bQ (S':=S++[.lst (hs.map aY)]++[.lst (fs.map aZ)]++[.lst []]) (σ':=[some (.ref c),some (cj o d),some (dO (hs.foldl fH none)),a])
   .wtm_at "?b"
    unfold Ly;exact aM a1 (aU (aM a2 (aU (aM a3 dW))))
   .rw[fB,fB];simp
   .cases hs.foldl fH none<;>simp[dO,aY,aZ,D.lo,cV]
  .subst e1 e2;have hi':i<hs.length:=by have:=(fO.mp hi).1;simpa using this
   have hd':dd=aY hs[i]:=by rw[iY,f9 hi'] at hi;exact(Option.some.inj hi).symm
   subst hd';have tk:hs.take (i+1)=hs.take i++[hs[i]]:=by rw[List.take_add_one,f9 hi'];rfl
   have fold:(hs.take (i+1)).foldl fH none=fH ((hs.take i).foldl fH none) hs[i]:=by rw[tk,List.foldl_append];rfl
   have bi:=(hb hs[i] (List.getElem_mem hi'))
   cases hbest:(hs.take i).foldl fH none with
   |none =>
    have b1:yO [some (.ref c),some (cj o d),some (dO none),some (aY hs[i])] (S++[.lst (hs.map aY)]++[.lst (fs.map aZ)]++[.lst []])=some (.nx,[some (.ref c),some (cj o d),some (dO (some hs[i])),some (aY hs[i])],S++[.lst (hs.map aY)]++[.lst (fs.map aZ)]++[.lst []]):=by unfold yO M4;exact aM (eZ (b:=true) (q8 (b:=true) (fP (aW (aJ rfl) bA p6)) (gG rfl rfl)) (gG rfl (aM (c7 (aJ rfl) (cO rfl)) (aU eX)))) (aU eX)
    exact⟨_,_,.nx,_,_,cO rfl,b1,.inl rfl,_,by rw[fold,hbest];rfl,rfl⟩
   |some b =>
    have hbm:b∈hs:=by
     rcases yo (hs.take i) none b hbest with q|q
     .exact List.mem_of_mem_take q
     .cases q
    have ss:=zjW bi (hb b hbm) (by omega) (S++[.lst (hs.map aY)]++[.lst (fs.map aZ)]++[.lst []]);have tt:jD (bI (eB (aV .Is) (aj 2) (eC .non))) (kj (eN (aR 2 Gy) (ak (aj 3) (ak (aj 2) aB)))) [some (.ref c),some (cj o d),some (dO (some b)),some (aY hs[i])] (S++[.lst (hs.map aY)]++[.lst (fs.map aZ)]++[.lst []])=some (kW hs[i] b,S++[.lst (hs.map aY)]++[.lst (fs.map aZ)]++[.lst []]) :=
     q8 (b:=false) (fP (aW (aJ rfl) bA p6)) (fG rfl (JL (bG (aO (aJ rfl) (aO (aJ rfl) bD)) (eE rfl ss)) rfl))
    have b1:yO [some (.ref c),some (cj o d),some (dO (some b)),some (aY hs[i])] (S++[.lst (hs.map aY)]++[.lst (fs.map aZ)]++[.lst []])=some (.nx,[some (.ref c),some (cj o d),some (dO (fH (some b) hs[i])),some (aY hs[i])],S++[.lst (hs.map aY)]++[.lst (fs.map aZ)]++[.lst []]):=by
     unfold yO M4;cases hsn:kW hs[i] b with
     |true =>
      have:fH (some b) hs[i]=some hs[i]:=by simp[fH,hsn]
      rw[this];rw[hsn] at tt;exact aM (eZ tt (gG rfl (aM (c7 (aJ rfl) (cO rfl)) (aU eX)))) (aU eX)
     |false =>
      have:fH (some b) hs[i]=some b:=by simp[fH,hsn]
      rw[this];rw[hsn] at tt;exact aM (eZ tt (fG rfl eX)) (aU eX)
    exact⟨_,_,.nx,_,_,cO rfl,b1,.inl rfl,_,by rw[fold,hbest],rfl⟩
end
theorem Ep(n:Nat)(shs:List Sh):O.lo n (.lst (shs.map bJ))=true:=by show cV n _=true;rw[mq];intro x hx;obtain⟨s,_,rfl⟩:=List.mem_map.mp hx;cases s<;>simp[bJ,D.lo,cV]
theorem Rn(n:Nat)(bs:List (Pt×Pt)):O.lo n (.lst (bs.map jY))=true:=by show cV n _=true;rw[mq];intro x hx;obtain⟨s,_,rfl⟩:=List.mem_map.mp hx;simp[D.lo,cV]
theorem zlO{m:Nat}(hS:WF S)(hT:gQ "tree_over" S=true)(hm:S[m]?=some (.lst (shs.map bJ)))(hl:shs.length<=32)(hk:∀s∈shs,kI K s):
 ∃(t:Option Tr) (bs:List (Pt×Pt)),u5 K shs t/\Bc [.ref S.length,.ref m] (S++[.ins "Scene" []])=some (.non,S++[.ins "Scene" [("kept",.ref (S.length+1)),("tree",gF t)]]++[.lst (shs.map bJ)]++[.lst (bs.map jY)]) /\
  WF (S++[.ins "Scene" [("kept",.ref (S.length+1)),("tree",gF t)]]++[.lst (shs.map bJ)]++[.lst (bs.map jY)]):=by
 classical
 obtain⟨g,hg0⟩:∃g:Sh->Pt×Pt,∀s∈shs,mF s.pts (g s).1 (g s).2/\aP K (g s).1/\aP K (g s).2/\∀S,WF S->vG [bJ s] S=some (jY (g s),S):=by
  have ex:∀s∈shs,∃b:Pt×Pt,mF s.pts b.1 b.2/\aP K b.1/\aP K b.2/\∀S,WF S->vG [bJ s] S=some (jY b,S):=λs hs=>by obtain⟨lo,hi,b0,b1,b2,e⟩:=znN (hk s hs);exact⟨(lo,hi),b0,b1,b2,e⟩
  refine⟨λs=>if h:s∈shs then(ex s h).choose else((0,0,0),(0,0,0)),λs hs=>?_⟩;simp only[dif_pos hs];exact(ex s hs).choose_spec
 have hg:=λs hs=>(hg0 s hs).2;have wf:∀(fs:List (Str×D)) (G:So),cV (S.length+1+G.length) (fs.map (·.2))=true->(∀o∈G,O.lo (S.length+1+G.length) o=true)->WF (S++[.ins "Scene" fs]++G):=λfs G h1 h2 o ho=>by
  have hlen:(S++[O.ins "Scene" fs]++G).length=S.length+1+G.length:=by rw[lz,lz];rfl
  rw[hlen];rcases mH.mp ho with ho|ho
  .rcases mH.mp ho with ho|ho
   .exact O.lo_mono (by omega) (hS o ho)
   .rw[List.mem_singleton.mp ho];exact h1
  .exact h2 o ho
 have CJ:(S++[O.ins "Scene" []]).length=S.length+1:=by simp
 have W2:WF (S++[.ins "Scene" [("kept",.ref (S.length+1))]]++[.lst (shs.map bJ)]):=wf _ [_] (by simp[cV,D.lo]) (λo ho=>by rw[List.mem_singleton.mp ho];exact Ep _ _);have W3:WF (S++[.ins "Scene" [("kept",.ref (S.length+1))]]++[.lst (shs.map bJ)]++[.lst ((shs.map g).map jY)]):=W2.snoc (Rn _ _);have T3:gQ "tree_over" (S++[.ins "Scene" [("kept",.ref (S.length+1))]]++[.lst (shs.map bJ)]++[.lst ((shs.map g).map jY)])=true:=by rw[fB,fB];exact jw hT
 obtain⟨t,e1,e2,e3⟩:=zlN (K:=K) (bs:=shs.map g) W3 T3 cI (by simpa using hl) (λb hb=>by
  obtain⟨s,hs,rfl⟩:=List.mem_map.mp hb;exact⟨(hg s hs).1,(hg s hs).2.1⟩)
 have Wf:WF (S++[.ins "Scene" [("kept",.ref (S.length+1)),("tree",gF t)]]++[.lst (shs.map bJ)]++[.lst ((shs.map g).map jY)]):=by
  rw[fB _ [O.lst (shs.map bJ)]];refine wf _ [_,_] ?_ λo ho=>?_
  .simp[cV,D.lo,Zg]
  .rcases List.mem_cons.mp ho with rfl|ho
   .exact Ep _ _
   .rw[List.mem_singleton.mp ho];exact Rn _ _
 refine⟨t,shs.map g,⟨hk,λt' e=>⟨e2 t' e,?_⟩,g,λs hs=>(hg0 s hs).1,e3⟩,?_,Wf⟩
 .have:=e3.length_eq;rw[e,mZ,cW] at this;have h2:(yU (some t')).length=t'.leaves.length:=rfl;omega
 .apply RZ (σ':=[some (.ref S.length),some (.ref m)])
  .wtm_at "?b"
   unfold Nh;have s1:oJ "Scene" "kept" (aj 0) (eN qM (ak (aj 1) aB)) [some (.ref S.length),some (.ref m)] (S++[.ins "Scene" []])=some (.nx,[some (.ref S.length),some (.ref m)],S++[.ins "Scene" [("kept",.ref (S.length+1))]]++[.lst (shs.map bJ)]):=by rw[<-CJ];exact zR (bG (aO (aJ rfl) bD) (Ue (fQ hm))) (aJ rfl) (fQ cI) (show(0:Nat)<3 by decide) (Jz rfl)
   have k2:(S++[O.ins "Scene" [("kept",.ref (S.length+1))]]++[O.lst (shs.map bJ)])[S.length+1]?=some (.lst (shs.map bJ)):=by
    have:∀x:O,(S++[x]++[O.lst (shs.map bJ)])[S.length+1]?=some (.lst (shs.map bJ)):=λx=>by rw[show S.length+1=(S++[x]).length by simp];exact cI
    exact this _
   have s2:eN (aR 1 Gx) (ak (dD (d9 (ig "Scene" "kept" (aj 0))) (aK 0) cZ (eN (aR 1 vG) (ak (aj 0) aB)) [none]) aB) [some (.ref S.length),some (.ref m)] (S++[.ins "Scene" [("kept",.ref (S.length+1))]]++[.lst (shs.map bJ)])=some (gF t,S++[.ins "Scene" [("kept",.ref (S.length+1))]]++[.lst (shs.map bJ)]++[.lst ((shs.map g).map jY)]):=by rw[List.map_map] at e1 ⊢;refine bG (aO (zY shs bJ (λs=>jY (g s)) (oN (JF (aJ rfl) (fQ cI) rfl) k2) k2 (by omega) rfl λs hs=>?_) bD) (eE rfl e1);exact bG (aO (aJ rfl) bD) (eE rfl ((hg s hs).2.2 _ W2))
   refine aM s1 (aU (aM (zR s2 (aJ rfl) (fQ (fQ cI)) (show(1:Nat)<3 by decide) ?_) (aU eX)));rw[List.set_append_left _ _ (by simp),Jz rfl];rfl
  .intro e;have:=congrArg (λl=>l[S.length]?) e;simp at this
  .simp
  .exact Wf
noncomputable def gP(m:Int):Pt:=(m.fmod 9 - 4,(m.fdiv 9).fmod 9 - 4,(m.fdiv 81).fmod 9 - 4)
theorem zV(m:Int):aP 5 (gP m):=by
 have f:∀x:Int,Bd 5 (x.fmod 9 - 4):=λx=>by have h1:=oh x (show(0:Int)<9 by decide);have h2:=tE x (show(0:Int)<9 by decide);unfold Bd;omega
 exact⟨f _,f _,f _⟩
def vD(m:Int)(S:So):t7 [.int m] S=some (pD (gP m),S):=by
 apply bQ
 .wtm_at "?b"
  unfold VR;wtm_at "?a"
 .wtm_at "?c"
 .rfl
noncomputable def vf(ce:Int):Int:=1+ce.fmod (1*2 ^ (50:Int).toNat)
theorem JX(ce:Int):Bd 51 (vf ce)/\0<vf ce:=by
 have h1:=oh ce (show(0:Int)<1*2 ^ (50:Int).toNat by decide);have h2:=tE ce (show(0:Int)<1*2 ^ (50:Int).toNat by decide);have e:(1:Int)*2 ^ (50:Int).toNat=1125899906842624:=by decide
 unfold vf;rw[e] at h1 h2;rw[e];unfold Bd;have:(2:Nat) ^ 51=2251799813685248:=by decide
 omega
noncomputable def jq(ce:Int)(p:Pt):Pt:=if ce.fmod 3=0 then p else(p.1*vf ce+ce.fmod 1000003,p.2.1*vf ce - ce.fmod 997,p.2.2*vf ce+5)
theorem Rr{ce:Int}(h:aP k p):aP (k+60) (jq ce p):=by
 unfold jq;split
 .exact h.le (by omega)
 .have s:=(JX ce).1;have m1:Bd 20 (ce.fmod 1000003):=(Bd.fmod (by decide)).le (by decide);have m2:Bd 20 (ce.fmod 997):=(Bd.fmod (by decide)).le (by decide);have m3:Bd 20 5:=(Bd.lit 5).le (by decide);exact⟨((h.1.mul s).add m1).le (by omega),((h.2.1.mul s).sub m2).le (by omega),((h.2.2.mul s).add m3).le (by omega)⟩
theorem Rx(bp:aP k p)(hk:k<=100)(ce:Int)(S:So):Ai [pD p,.int ce] S=some (pD (jq ce p),S):=by
 obtain⟨x,y,z⟩:=p;obtain⟨bx,Qh,bz⟩:=bp;simp only at bx Qh bz;have bs:Bd 51 (1+ce.fmod (1*2 ^ (50:Int).toNat)):=(JX ce).1;by_cases h3:ce.fmod 3=0
 .unfold jq;rw[if_pos h3];apply bQ
  .wtm_at "?b"
   unfold Mv;wtm_at "?a"
  .wtm_at "?c"
  .rfl
 .unfold jq;rw[if_neg h3];unfold vf;apply bQ
  .wtm_at "?b"
   unfold Mv;wtm_at "?a"
  .wtm_at "?c"
  .rfl
theorem YW{ce:Int}{q:Pt}(h:p.1<=q.1/\p.2.1<=q.2.1/\p.2.2<=q.2.2):(jq ce p).1<=(jq ce q).1/\(jq ce p).2.1<=(jq ce q).2.1/\(jq ce p).2.2<=(jq ce q).2.2:=by
 unfold jq;split
 .exact h
 .have s:=Int.le_of_lt (JX ce).2;have a:=Int.mul_le_mul_of_nonneg_right h.1 s;have b:=Int.mul_le_mul_of_nonneg_right h.2.1 s;have c:=Int.mul_le_mul_of_nonneg_right h.2.2 s;refine⟨?_,?_,?_⟩<;>simp only<;>omega
def n8(ns:List Int)(S:So):Prop:=S[0]?=some (.frz (ns.map .int))
def n8.app(h:n8 ns S)(G:So):n8 ns (S++G):=by
 unfold n8 at *
 rw[ou (fO.mp h).1];exact h
theorem zlK(hn:ns.length<=63)(k:Int):∃s:Sh,kI 8 s/\∀S,n8 ns S->MJ [.ref 0,.int k] S=some (bJ s,S):=by
 have bm:∀x:Int,cQ (k.fmod 3) (x.fmod 2)=true:=λx=>qg (k:=2) (l:=2) ((Bd.fmod (by decide)).le (by decide)) ((Bd.fmod (by decide)).le (by decide)) (by decide);generalize hpl:k - k.fmod 3*(ju ns 0).fmod 2=pl;generalize hmo:Dz (ju ns (pl+1)) pl=mo;by_cases hb:(mo.fdiv 729).fmod 2=0
 .have low:=zV mo;have wd:=zV (mo.fdiv 1458);generalize hl:gP mo=lo at low;generalize hw:gP (mo.fdiv 1458)=w at wd;refine⟨.box lo (lo.1+(if w.1<0 then -w.1 else w.1),lo.2.1+(if w.2.1<0 then -w.2.1 else w.2.1).fdiv 2,lo.2.2+(if w.2.2<0 then -w.2.2 else w.2.2).fmod 3),⟨λp hp=>?_,λl h e=>?_⟩,λS hS=>?_⟩
  .simp only[Sh.pts,List.mem_cons,lN,or_false] at hp;have q1:=oh (if w.2.2<0 then -w.2.2 else w.2.2) (show(0:Int)<3 by decide);have q2:=tE (if w.2.2<0 then -w.2.2 else w.2.2) (show(0:Int)<3 by decide);have q3:(if w.2.1<0 then -w.2.1 else w.2.1).fdiv 2=(if w.2.1<0 then -w.2.1 else w.2.1) / 2:=Int.fdiv_eq_ediv_of_nonneg _ (by decide);obtain⟨l1,l2,l3⟩:=low;obtain⟨w1,w2,w3⟩:=wd;unfold Bd at l1 l2 l3 w1 w2 w3;rcases hp with rfl|rfl
   .exact aP.le (k:=5) ⟨l1,l2,l3⟩ (by decide)
   .refine⟨?_,?_,?_⟩
    .show(lo.1+(if w.1<0 then -w.1 else w.1)).natAbs<2 ^ 8;split<;>omega
    .show(lo.2.1+(if w.2.1<0 then -w.2.1 else w.2.1).fdiv 2).natAbs<2 ^ 8;rw[q3];split<;>omega
    .show(lo.2.2+(if w.2.2<0 then -w.2.2 else w.2.2).fmod 3).natAbs<2 ^ 8;omega
  .cases e;have q1:=oh (if w.2.2<0 then -w.2.2 else w.2.2) (show(0:Int)<3 by decide);have q3:(if w.2.1<0 then -w.2.1 else w.2.1).fdiv 2=(if w.2.1<0 then -w.2.1 else w.2.1) / 2:=Int.fdiv_eq_ediv_of_nonneg _ (by decide);refine⟨?_,?_,?_⟩
   .show lo.1<=lo.1+(if w.1<0 then -w.1 else w.1)
    split<;>omega
   .show lo.2.1<=lo.2.1+(if w.2.1<0 then -w.2.1 else w.2.1).fdiv 2;rw[q3];split<;>omega
   .show lo.2.2<=lo.2.2+(if w.2.2<0 then -w.2.2 else w.2.2).fmod 3;omega
  .have c0:=rB hn 0 hS;have c1:=rB hn (pl+1) hS;have d1:=sp_drawn (ju ns (pl+1)) pl S;have s1:=vD mo S;have s2:=vD (mo.fdiv 1458) S;rw[hmo] at d1;rw[hl] at s1;rw[hw] at s2;apply bQ
   .wtm_at "?b"
    unfold Ld;have b0:=bm (ju ns 0);refine aM (fl := .nx) (σ1:=[some (.ref 0),some (.int k),some (.int (k - k.fmod 3*(ju ns 0).fmod 2)),none,none,none]) (S1:=S) (by wtm_at "?a") (aU ?_);rw[hpl];refine aM (fl := .nx) (σ1:=[some (.ref 0),some (.int k),some (.int pl),some (.int mo),none,none]) (S1:=S) (by wtm_at "?a") (aU ?_);refine aM (fl := .nx) (σ1:=[some (.ref 0),some (.int k),some (.int pl),some (.int mo),some (pD lo),none]) (S1:=S) (by wtm_at "?a") (aU ?_);have t:bI (eB (aV .Eq) (eB (aN .Mod) (eB (aN .FloorDiv) (aj 3) (eC (.int 729))) (eC (.int 2))) (eC (.int 0))) [some (.ref 0),some (.int k),some (.int pl),some (.int mo),some (pD lo),none] S=some (decide ((mo.fdiv 729).fmod 2=0),S):=by wtm_at "?a"
    rw[mj hb] at t;refine aM (fl := .rt _) (eZ t (gG rfl (aM (fl := .nx) (σ1:=[some (.ref 0),some (.int k),some (.int pl),some (.int mo),some (pD lo),some (pD w)]) (S1:=S) (by wtm_at "?a") (aU (aM (fX (S1:=S) ?_) dW))))) dW;wtm_at "?a"
   .wtm_at "?c"
   .rfl
 .refine⟨.tri (gP mo) (gP (mo.fdiv 1458)) (gP (mo.fdiv 1062882)),⟨λp hp=>?_,λl h e=>by cases e⟩,λS hS=>?_⟩
  .simp only[Sh.pts,List.mem_cons,lN,or_false] at hp;rcases hp with rfl|rfl|rfl<;>exact(zV _).le (by decide)
  .have c0:=rB hn 0 hS;have c1:=rB hn (pl+1) hS;have d1:=sp_drawn (ju ns (pl+1)) pl S;have s1:=vD mo S;have s2:=vD (mo.fdiv 1458) S;have s3:=vD (mo.fdiv 1062882) S;rw[hmo] at d1;apply bQ
   .wtm_at "?b"
    unfold Ld;have b0:=bm (ju ns 0);refine aM (fl := .nx) (σ1:=[some (.ref 0),some (.int k),some (.int (k - k.fmod 3*(ju ns 0).fmod 2)),none,none,none]) (S1:=S) (by wtm_at "?a") (aU ?_);rw[hpl];refine aM (fl := .nx) (σ1:=[some (.ref 0),some (.int k),some (.int pl),some (.int mo),none,none]) (S1:=S) (by wtm_at "?a") (aU ?_);refine aM (fl := .nx) (σ1:=[some (.ref 0),some (.int k),some (.int pl),some (.int mo),some (pD (gP mo)),none]) (S1:=S) (by wtm_at "?a") (aU ?_);have t:bI (eB (aV .Eq) (eB (aN .Mod) (eB (aN .FloorDiv) (aj 3) (eC (.int 729))) (eC (.int 2))) (eC (.int 0))) [some (.ref 0),some (.int k),some (.int pl),some (.int mo),some (pD (gP mo)),none] S=some (decide ((mo.fdiv 729).fmod 2=0),S):=by wtm_at "?a"
    rw[lZ hb] at t;refine aM (fl := .nx) (eZ t (fG rfl eX)) (aU (aM (fX (S1:=S) ?_) dW));exact bG (aO bA (aO (aJ rfl) (aO (bG (aO (aW (aJ rfl) bA (p7 (by decide))) bD) (eE rfl s2)) (aO (bG (aO (aW (aJ rfl) bA (p7 (by decide))) bD) (eE rfl s3)) bD)))) (jb (by show 4<=sizeLine;decide))
   .wtm_at "?c"
   .rfl
theorem Kc{α:Type}{fi:IF}(qs:List α)(enc g:α->D)(h1:fi σ S=some (.fix (qs.map enc),S1))(hl:qs.length<=1000)(hτ:nH src σ=none::rest)(hstep:∀q∈qs,fe (some (enc q)::rest) S1=some (g q,S1)):dD fi (aK 0) cZ fe src σ S=some (.ref S1.length,S1++[.lst (qs.map g)]):=by
 have key:=Jr (nx:=dG (.fix (qs.map enc))) (S:=S1) (rest:=rest) (fe:=fe) qs enc g (λi=>rfl) hstep qs.length 0 none [] (by omega);refine qX (n:=qs.length) h1 ?_ (by rw[sizeLine_eq];omega) hτ ?_
 .show some (qs.map enc).length=_;simp
 .rw[key];simp
noncomputable def Sh.nm:Sh->Str
 |.box _ _ => "box"
 |.tri _ _ _ => "triangle"
def Jj(s:Sh):bJ s = .tup (.str s.nm::s.pts.map pD):=by cases s<;>rfl
noncomputable def Sh.by(f:Pt->Pt):Sh->Sh
 |.box lo hi => .box (f lo) (f hi)
 |.tri a b c => .tri (f a) (f b) (f c)
def Iv(f:Pt->Pt)(s:Sh):(s.by f).pts=s.pts.map f/\(s.by f).nm=s.nm:=by cases s<;>exact⟨rfl,rfl⟩
theorem zlJ(hn:ns.length<=63)(k:Int):∃s:Sh,kI 70 s/\∀S,n8 ns S->vP [.ref 0,.int k] S=some (bJ s,S):=by
 obtain⟨s,ok,e⟩:=zlK hn k;generalize hc:ju ns 0=ce;refine⟨s.by (jq ce),⟨λp hp=>?_,λlo hi e=>?_⟩,λS hS=>?_⟩
 .rw[(Iv _ s).1] at hp;obtain⟨q,hq,rfl⟩:=List.mem_map.mp hp;exact(Rr (ok.bd q hq)).le (by decide)
 .cases s with
  |box l h =>
   simp only[Sh.by,Sh.box.injEq] at e;obtain⟨rfl,rfl⟩:=e;exact YW (ok.ord l h rfl)
  |tri a b c=>cases e
 .have c0:=rB hn 0 hS;rw[hc] at c0;have e0:=e S hS;have hlen:s.pts.length<=10:=by cases s<;>simp[Sh.pts]
  rw[Jj] at e0;rw[Jj,(Iv _ s).1,(Iv _ s).2];have hlc:dD (d9 (jR (aj 2) (jP (eC (.int 1))) kY)) (aK 0) cZ (eN (aR 2 Ai) (ak (aj 0) (ak (eN (aR 2 qj) (ak (aj 1) (ak (eC (.int 0)) aB))) aB))) [none,some 0] [some (.ref 0),some (.int k),some (.tup (.str s.nm::s.pts.map pD))] S=some (.ref S.length,S++[.lst (s.pts.map λp=>pD (jq ce p))]):=by
   refine Kc s.pts pD (λp=>pD (jq ce p)) (FN (yg (aJ rfl) (z7 bA) zZ (Ew (ys:=s.pts.map pD) ?_ Aa))) (by omega) rfl λp hp=>?_
   .rintro⟨e1,e2⟩
    have:HT.sIx (D.str s.nm::s.pts.map pD).length 0 (some 1)=1:=by unfold HT.sIx;simp
    omega
   .exact bG (aO (aJ rfl) (aO (bG (aO (aJ rfl) (aO bA bD)) (eE rfl c0)) bD)) (eE rfl (Rx (ok.bd p hp) (by decide) ce S))
  apply bQ (S':=S++[.lst (s.pts.map λp=>pD (jq ce p))]) (σ':=[some (.ref 0),some (.int k),some (.tup (.str s.nm::s.pts.map pD))])
  .wtm_at "?b"
   unfold Wb;have PB:gJ (D.str s.nm::s.pts.map pD) 0=some (D.str s.nm):=zQ (j:=0) rfl;have r:=JD (S:=S++[.lst (s.pts.map λp=>pD (jq ce p))]) (xs:=[.str s.nm]) (ys:=s.pts.map λp=>pD (jq ce p)) (by simp) (by simp;rw[sizeLine_eq];omega);rw[List.map_map];exact aM (c7 (bG (aO (aJ rfl) (aO (aJ rfl) bD)) (eE rfl e0)) (cO rfl)) (aU (aM (fX (aW (bG (aO (aW (aJ rfl) bA (dX PB)) bD) (jb (by show 1<=sizeLine;decide))) (bG (aO hlc bD) (yF cI)) r)) dW))
  .simp
  .rw[D.lo,mq];intro x hx;rcases List.mem_cons.mp hx with rfl|hx
   .simp[D.lo]
   .obtain⟨p,_,rfl⟩:=List.mem_map.mp hx;simp[D.lo,cV]
theorem wk(i:Int)(h0:0<=i)(h6:i<6):∃d:Pt,aP 5 d/\d≠(0,0,0)/\gJ [P3 1 0 0,P3 0 (0 - 2) 0,P3 0 0 3,P3 1 1 0,P3 0 1 (0 - 1),P3 (0 - 1) 0 0] i=some (pD d):=by
 have:i=0\/i=1\/i=2\/i=3\/i=4\/i=5:=by omega
 rcases this with rfl|rfl|rfl|rfl|rfl|rfl
 .exact⟨(1,0,0),⟨by unfold Bd;decide,by unfold Bd;decide,by unfold Bd;decide⟩,by decide,rfl⟩
 .exact⟨(0,0 - 2,0),⟨by unfold Bd;decide,by unfold Bd;decide,by unfold Bd;decide⟩,by decide,rfl⟩
 .exact⟨(0,0,3),⟨by unfold Bd;decide,by unfold Bd;decide,by unfold Bd;decide⟩,by decide,rfl⟩
 .exact⟨(1,1,0),⟨by unfold Bd;decide,by unfold Bd;decide,by unfold Bd;decide⟩,by decide,rfl⟩
 .exact⟨(0,1,0 - 1),⟨by unfold Bd;decide,by unfold Bd;decide,by unfold Bd;decide⟩,by decide,rfl⟩
 .exact⟨(0 - 1,0,0),⟨by unfold Bd;decide,by unfold Bd;decide,by unfold Bd;decide⟩,by decide,rfl⟩
theorem zpU(hn:ns.length<=63)(k:Int):∃o d:Pt,aP 80 o/\aP 5 d/\d≠(0,0,0)/\∀S,n8 ns S->Mx [.ref 0,.int k] S=some (cj o d,S):=by
 generalize hce:ju ns k=ck;generalize hc0:ju ns 0=c0;generalize hmo:Dz ck k=mo;obtain⟨dm,bm,nm,em⟩:=wk ((mo.fdiv 1594323).fmod 6) (oh _ (by decide)) (tE _ (by decide));obtain⟨d,bd,nd,ed⟩:∃d:Pt,aP 5 d/\d≠(0,0,0)/\∀S,∃G:So,Gz [some (.ref 0),some (.int k),some (.int mo),some (pD (gP mo)),some (pD (gP (mo.fdiv 729))),none] S=some (.nx,[some (.ref 0),some (.int k),some (.int mo),some (pD (gP mo)),some (pD d),none],S++G):=by
  by_cases h3:(mo.fdiv 531441).fmod 3=0\/pD (gP (mo.fdiv 729))=P3 0 0 0
  .refine⟨dm,bm,nm,λS=>⟨[.lst [P3 1 0 0,P3 0 (0 - 2) 0,P3 0 0 3,P3 1 1 0,P3 0 1 (0 - 1),P3 (0 - 1) 0 0]],?_⟩⟩;have t:jD (bI (eB (aV .Eq) (eB (aN .Mod) (eB (aN .FloorDiv) (aj 2) (eC (.int 531441))) (eC (.int 3))) (eC (.int 0)))) (bI (eB (aV .Eq) (aj 4) (eN bL (ak (eC (.int 0)) (ak (eC (.int 0)) (ak (eC (.int 0)) aB)))))) [some (.ref 0),some (.int k),some (.int mo),some (pD (gP mo)),some (pD (gP (mo.fdiv 729))),none] S=some (true,S):=by
    by_cases ha:(mo.fdiv 531441).fmod 3=0
    .refine q8 (b:=true) (S1:=S) ?_ (gG rfl rfl);rw[<-mj ha];wtm_at "?a"
    .have hb:=h3.resolve_left ha;refine q8 (b:=false) (S1:=S) ?_ (fG rfl ?_)
     .rw[<-lZ ha];wtm_at "?a"
     .have q:=fP (aW (aJ (σ:=[some (.ref 0),some (.int k),some (.int mo),some (pD (gP mo)),some (pD (gP (mo.fdiv 729))),none]) (i:=4) (d:=pD (gP (mo.fdiv 729))) (S:=S) rfl) (bG (aO (bA (d := .int 0)) (aO (bA (d := .int 0)) (aO (bA (d := .int 0)) bD))) (jb (by show 3<=sizeLine;decide))) (p8 rfl 1 rfl rfl (by decide)));rw[q,mj hb]
   unfold Gz;refine eZ t (gG rfl (aM (c7 (x:=pD dm) (S1:=S++[.lst [P3 1 0 0,P3 0 (0 - 2) 0,P3 0 0 3,P3 1 1 0,P3 0 1 (0 - 1),P3 (0 - 1) 0 0]]) ?_ (cO rfl)) (aU eX)));refine aW (x := .ref S.length) (S1:=S++[.lst [P3 1 0 0,P3 0 (0 - 2) 0,P3 0 0 3,P3 1 1 0,P3 0 1 (0 - 1),P3 (0 - 1) 0 0]]) ?_ (aW (aW (aJ rfl) bA (p7 (by decide))) bA (yh (by decide))) (qZ cI em);wtm_at "?a"
  .have ha:¬(mo.fdiv 531441).fmod 3=0:=λh=>h3 (.inl h);have hb:¬pD (gP (mo.fdiv 729))=P3 0 0 0:=λh=>h3 (.inr h);refine⟨gP (mo.fdiv 729),zV _,λh=>hb (by rw[h]),λS=>⟨[],?_⟩⟩;have t:jD (bI (eB (aV .Eq) (eB (aN .Mod) (eB (aN .FloorDiv) (aj 2) (eC (.int 531441))) (eC (.int 3))) (eC (.int 0)))) (bI (eB (aV .Eq) (aj 4) (eN bL (ak (eC (.int 0)) (ak (eC (.int 0)) (ak (eC (.int 0)) aB)))))) [some (.ref 0),some (.int k),some (.int mo),some (pD (gP mo)),some (pD (gP (mo.fdiv 729))),none] S=some (false,S):=by
    refine q8 (b:=false) (S1:=S) ?_ (fG rfl ?_)
    .rw[<-lZ ha];wtm_at "?a"
    .have q:=fP (aW (aJ (σ:=[some (.ref 0),some (.int k),some (.int mo),some (pD (gP mo)),some (pD (gP (mo.fdiv 729))),none]) (i:=4) (d:=pD (gP (mo.fdiv 729))) (S:=S) rfl) (bG (aO (bA (d := .int 0)) (aO (bA (d := .int 0)) (aO (bA (d := .int 0)) bD))) (jb (by show 3<=sizeLine;decide))) (p8 rfl 1 rfl rfl (by decide)));rw[q,lZ hb]
   unfold Gz;rw[List.append_nil];exact eZ t (fG rfl eX)
 have bs:=zV mo;generalize hsp:gP mo=st at *
 generalize hof:(mo.fdiv 9565938).fmod 4=of;have bo:Bd 4 of:=by have h1:=oh (mo.fdiv 9565938) (show(0:Int)<4 by decide);have h2:=tE (mo.fdiv 9565938) (show(0:Int)<4 by decide);rw[hof] at h1 h2;unfold Bd;omega
 have bp:aP 15 (st.1 - of*d.1,st.2.1 - of*d.2.1,st.2.2 - of*d.2.2) :=
  ⟨(bs.1.sub (bo.mul bd.1)).le (by decide),(bs.2.1.sub (bo.mul bd.2.1)).le (by decide),(bs.2.2.sub (bo.mul bd.2.2)).le (by decide)⟩
 refine⟨jq c0 (st.1 - of*d.1,st.2.1 - of*d.2.1,st.2.2 - of*d.2.2),d,(Rr bp).le (by decide),bd,nd,λS hS=>?_⟩;obtain⟨G,e4⟩:=ed S;have cc:=rB hn k hS;have cz:=rB hn 0 ((hS.app G).app [.lst [.int (st.1 - of*d.1),.int (st.2.1 - of*d.2.1),.int (st.2.2 - of*d.2.2)]]);have s1:=vD mo S;have s2:=vD (mo.fdiv 729) S;have dr:=sp_drawn ck k S;rw[hmo] at dr;rw[hce] at cc;rw[hc0] at cz;rw[hsp] at s1;have a1:Ms [some (.ref 0),some (.int k),none,none,none,none] S=some (.nx,[some (.ref 0),some (.int k),some (.int mo),none,none,none],S):=by unfold Ms;exact c7 (bG (aO (bG (aO (aJ rfl) (aO (aJ rfl) bD)) (eE rfl cc)) (aO (aJ rfl) bD)) (eE rfl dr)) (cO rfl)
 have a2:Mt [some (.ref 0),some (.int k),some (.int mo),none,none,none] S=some (.nx,[some (.ref 0),some (.int k),some (.int mo),some (pD st),none,none],S):=by unfold Mt;exact c7 (bG (aO (aJ rfl) bD) (eE rfl s1)) (cO rfl)
 have a3:Np [some (.ref 0),some (.int k),some (.int mo),some (pD st),none,none] S=some (.nx,[some (.ref 0),some (.int k),some (.int mo),some (pD st),some (pD (gP (mo.fdiv 729))),none],S):=by unfold Np;exact c7 (bG (aO (aW (aJ rfl) bA (p7 (by decide))) bD) (eE rfl s2)) (cO rfl)
 have a5:Nq [some (.ref 0),some (.int k),some (.int mo),some (pD st),some (pD d),none] (S++G)=some (.nx,[some (.ref 0),some (.int k),some (.int mo),some (pD st),some (pD d),some (.int of)],S++G):=by unfold Nq;rw[<-hof];exact c7 (aW (aW (aJ rfl) bA (p7 (by decide))) bA (yh (by decide))) (cO rfl)
 have m1:cQ of d.1=true:=qg bo bd.1 (by decide);have m2:cQ of d.2.1=true:=qg bo bd.2.1 (by decide);have m3:cQ of d.2.2=true:=qg bo bd.2.2 (by decide);have a6:Nr [some (.ref 0),some (.int k),some (.int mo),some (pD st),some (pD d),some (.int of)] (S++G)=some (.nx,[some (.ref 0),some (.int k),some (.int mo),some (pD (st.1 - of*d.1,st.2.1 - of*d.2.1,st.2.2 - of*d.2.2)),some (pD d),some (.int of)],S++G++[.lst [.int (st.1 - of*d.1),.int (st.2.1 - of*d.2.1),.int (st.2.2 - of*d.2.2)]]):=by unfold Nr;refine c7 (x:=pD (st.1 - of*d.1,st.2.1 - of*d.2.1,st.2.2 - of*d.2.2)) (S1:=S++G++[.lst [.int (st.1 - of*d.1),.int (st.2.1 - of*d.2.1),.int (st.2.2 - of*d.2.2)]]) ?_ (cO rfl);wtm_at "?a"
 have a7:Nt [some (.ref 0),some (.int k),some (.int mo),some (pD (st.1 - of*d.1,st.2.1 - of*d.2.1,st.2.2 - of*d.2.2)),some (pD d),some (.int of)] (S++G++[.lst [.int (st.1 - of*d.1),.int (st.2.1 - of*d.2.1),.int (st.2.2 - of*d.2.2)]])=some (.rt (cj (jq c0 (st.1 - of*d.1,st.2.1 - of*d.2.1,st.2.2 - of*d.2.2)) d),[some (.ref 0),some (.int k),some (.int mo),some (pD (st.1 - of*d.1,st.2.1 - of*d.2.1,st.2.2 - of*d.2.2)),some (pD d),some (.int of)],S++G++[.lst [.int (st.1 - of*d.1),.int (st.2.1 - of*d.2.1),.int (st.2.2 - of*d.2.2)]]):=by unfold Nt;exact fX (bG (aO (bG (aO (aJ rfl) (aO (bG (aO (aJ rfl) (aO bA bD)) (eE rfl cz)) bD)) (eE rfl (Rx bp (by decide) c0 _))) (aO (aJ rfl) bD)) (jb (by show 2<=sizeLine;decide)))
 apply bQ (S':=S++G++[.lst [.int (st.1 - of*d.1),.int (st.2.1 - of*d.2.1),.int (st.2.2 - of*d.2.2)]])
 .wtm_at "?b"
  unfold Wn;exact aM a1 (aU (aM a2 (aU (aM a3 (aU (aM e4 (aU (aM a5 (aU (aM a6 (aU (aM a7 dW))))))))))))
 .rw[fB];simp
 .simp[D.lo,cV]
theorem Tn{m:Nat}{S0:So}{fa:AF}(hS:WF S)(hT:gQ "tree_over" S=true)(hm:S[m]?=some (.lst (shs.map bJ)))(hl:shs.length<=32)(hk:∀s∈shs,kI K s)(h1:fa σ S0=some ([.ref m],S)):
 ∃t G,u5 K shs t/\nZ "Scene" 2 Bc fa σ S0=some (.ref S.length,S++G)/\WF (S++G)/\jm (S++G) S.length shs t:=by
 obtain⟨t,bs,ok,e,W⟩:=zlO hS hT hm hl hk;have mk:=QX (C := "Scene") (n:=2) h1 rfl e;have Xc:(S++[O.ins "Scene" [("kept",.ref (S.length+1)),("tree",gF t)]]++[O.lst (shs.map bJ)]++[O.lst (bs.map jY)])[S.length]?=some (.ins "Scene" [("kept",.ref (S.length+1)),("tree",gF t)]):=fQ (fQ cI);have kp3:(S++[O.ins "Scene" [("kept",.ref (S.length+1)),("tree",gF t)]]++[O.lst (shs.map bJ)]++[O.lst (bs.map jY)])[S.length+1]?=some (.lst (shs.map bJ)):=by refine fQ ?_;generalize O.ins "Scene" [("kept",.ref (S.length+1)),("tree",gF t)]=o;rw[show S.length+1=(S++[o]).length by simp];exact cI
 have fz:nu "Scene" S.length (S++[O.ins "Scene" [("kept",.ref (S.length+1)),("tree",gF t)]]++[O.lst (shs.map bJ)]++[O.lst (bs.map jY)])=(.ref S.length,S++[O.ins "Scene" [("kept",.ref (S.length+1)),("tree",gF t)]]++[O.lst (shs.map bJ)]++[O.lst (bs.map jY)]):=by unfold nu;rw[Xc];simp only;rw[if_neg];intro h;have:=h.2.1;simp at this
 rw[fz] at mk;rw[fB,fB] at *
 exact⟨t,_,ok,mk,W,Xc,kp3⟩
end MX.P
end
section
namespace MX.P
open PySem L2 MX
end MX.P
local macro_rules | `(tactic| wtm_at "?d") => `(tactic| (with_reducible assumption))
local macro_rules | `(tactic| wtm_at "?m") => `(tactic| first | (with_reducible first | exact MX.P.ev_isi_tup | exact MX.P.ev_isi_int | exact MX.P.ev_isi_bool))
namespace MX.P
noncomputable def mL(w:Int)(h:cg):Int×Int:=(h.1.1*(w*w) / h.1.2,(h.2:Int))
theorem Rg{a1 a2 b1 b2:Int}(ha:0<a2)(hb:0<b2)(wa:a2<=w)(wb:b2<=w)(h:a1*b2<b1*a2):a1*(w*w) / a2<b1*(w*w) / b2:=by have hw:0<=w*w:=Int.mul_nonneg (by omega) (by omega);have h1:a1*(w*w) / a2*a2<=a1*(w*w):=Int.ediv_mul_le _ (by omega);generalize a1*(w*w) / a2=q at h1 ⊢;apply Int.lt_of_add_one_le;rw[Int.le_ediv_iff_mul_le hb];apply Int.not_lt.mp;intro c;have h2:q*a2*b2<=a1*(w*w)*b2:=Int.mul_le_mul_of_nonneg_right h1 (by omega);have h3:(w*w)*(a1*b2+1)<=(w*w)*(b1*a2):=Int.mul_le_mul_of_nonneg_left (by omega) hw;have h4:a2*b2<=w*w:=Int.mul_le_mul wa wb (by omega) (by omega);have h5:(b1*(w*w)+1)*a2<=((q+1)*b2)*a2:=Int.mul_le_mul_of_nonneg_right (by omega) (by omega);grind
theorem zmr{a b:cg}(ga:gD a)(gb:gD b)(wa:a.1.2<=w)(wb:b.1.2<=w):lV (mL w a) (mL w b)=kW a b:=by
 rw[Bool.eq_iff_iff,oO];have k1:dj a.1 b.1->(mL w a).1<(mL w b).1:=Rg ga.1 gb.1 wa wb;have k2:dj b.1 a.1->(mL w b).1<(mL w a).1:=Rg gb.1 ga.1 wb wa;unfold lV;by_cases h1:dj a.1 b.1
 .have:=k1 h1;rw[if_neg (by omega),decide_eq_true_iff];exact⟨λ_ => .inl h1,λ_=>this⟩
 .by_cases h2:dj b.1 a.1
  .have:=k2 h2;rw[if_neg (by omega),decide_eq_true_iff];refine⟨λz=>by omega,?_⟩
   rintro(z|⟨z,_⟩)
   .exact absurd z h1
   .rw[z] at h2;unfold dj at h2;omega
  .have e:=Fq ga gb (mX h2) (mX h1);rw[if_pos (by unfold mL;rw[e]),decide_eq_true_iff];show((a.2:Nat):Int)<((b.2:Nat):Int)↔_;refine⟨λz => .inr ⟨e,by omega⟩,?_⟩
   rintro(z|⟨_,z⟩)
   .exact absurd z h1
   .omega
theorem Zf{c:Int×Int}(h1:lV b a=false)(h2:lV c b=false):lV c a=false:=by
 unfold lV at *
 repeat' split at *
 all_goals simp only[decide_eq_false_iff_not] at *;omega
theorem zoO(h1:lV a b=true):lV b a=false:=by
 unfold lV at *
 repeat' split at *
 all_goals simp only[decide_eq_false_iff_not,decide_eq_true_iff] at *;omega
theorem Ze(h1:lV a b=false)(h2:lV b a=false):a=b:=by
 unfold lV at *
 apply Prod.ext
 all_goals
  repeat' split at *
  all_goals simp only[decide_eq_false_iff_not] at *;omega
noncomputable abbrev kJ(w:Int)(h:cg):D := .tup [.int (mL w h).1,.int (mL w h).2]
noncomputable abbrev lC:cg:=((0,1),0)
theorem zmf{hs:List cg}(g:∀h∈hs,gD h/\h.1.2<=w)(nd:(hs.map (·.2)).Nodup):((iD (hs.map (kJ w))).map λi=>hs.getD i lC).Perm hs/\((iD (hs.map (kJ w))).map λi=>hs.getD i lC).Pairwise gU:=by
 have kp:=Ao (hs.map (kJ w));rw[cW] at kp;have lt:∀i∈iD (hs.map (kJ w)),i<hs.length:=λi hi=>List.mem_range.mp (kp.mem_iff.mp hi);have ka:∀i,i<hs.length->jh ((hs.map (kJ w)).getD i .non)=mL w (hs.getD i lC):=λi hi=>by rw[List.getD_eq_getElem?_getD,List.getD_eq_getElem?_getD,iY,f9 hi];rfl
 have gm:∀i,i<hs.length->gD (hs.getD i lC)/\(hs.getD i lC).1.2<=w:=λi hi=>by rw[List.getD_eq_getElem?_getD,f9 hi];exact g _ (List.getElem_mem hi)
 refine⟨Vj lC hs kp,?_⟩;have T:je (hs.map (kJ w)).length (tB (hs.map (kJ w))):=⟨λi j k=>Zf,λi j=>zoO,λi j hi hj h1 h2=>by
  rw[cW] at hi hj;have e:=Ze h1 h2;rw[ka i hi,ka j hj] at e;have e2:(((hs.getD i lC).2:Nat):Int)=(((hs.getD j lC).2:Nat):Int):=congrArg Prod.snd e;have hi':i<(hs.map (·.2)).length:=by simpa using hi
  have hj':j<(hs.map (·.2)).length:=by simpa using hj
  refine(List.getElem_inj (h₀:=hi') (h₁:=hj') nd).mp ?_;rw[List.getElem_map,List.getElem_map];rw[List.getD_eq_getElem?_getD,List.getD_eq_getElem?_getD,f9 hi,f9 hj] at e2;exact Int.ofNat_inj.mp e2⟩
 have up:=zlQ T;rw[List.pairwise_map];refine List.Pairwise.imp_of_mem (λ{i j} hi hj h=>?_) up;have hi:=lt i hi;have hj:=lt j hj;unfold tB at h;rw[ka i hi,ka j hj,zmr (gm j hj).1 (gm i hi).1 (gm j hj).2 (gm i hi).2] at h;unfold gU;rw[h];simp
noncomputable def qJ(t:Int×Int)(l:List cg):Nat->Nat
 |0=>0
 |k+1=>if dj t (l.getD k lC).1 then qJ t l k else k+1
theorem Vk(t:Int×Int)(l:List cg):∀k,qJ t l k<=k/\(∀i,qJ t l k<=i->i<k->dj t (l.getD i lC).1)/\(qJ t l k=0\/¬dj t (l.getD (qJ t l k - 1) lC).1)
 |0=>⟨bZ _,λi _ h=>by omega,.inl rfl⟩
 |k+1=>by
  obtain⟨h1,h2,h3⟩:=Vk t l k;unfold qJ;split
  .rename_i c;refine⟨by omega,λi a b=>?_,h3⟩;by_cases hi:i=k
   .rw[hi];exact c
   .exact h2 i a (by omega)
  .rename_i c;exact⟨bZ _,λi a b=>by omega,.inr c⟩
noncomputable def o6(h:cg)(l:List cg):List cg:=l.take (qJ h.1 l l.length)++h::l.drop (qJ h.1 l l.length)
def zkM(h:cg)(l:List cg):(o6 h l).Perm (h::l):=by unfold o6;refine List.perm_middle.trans (List.Perm.cons _ ?_);rw[List.take_append_drop]
theorem zoW{h:cg}{l:List cg}(gh:gD h)(gl:∀x∈l,gD x)(hn:∀x∈l,x.2<h.2)(p:l.Pairwise gU):(o6 h l).Pairwise gU:=by
 obtain⟨h1,h2,h3⟩:=Vk h.1 l l.length;unfold o6;generalize qJ h.1 l l.length=k at *
 have pg:=List.pairwise_iff_getElem.mp p;have ge:∀i (hi:i<l.length),l.getD i lC=l[i]:=λi hi=>by rw[List.getD_eq_getElem?_getD,f9 hi];rfl
 have lo:∀i (hi:i<l.length),i<k->gU l[i] h:=λi hi hk=>by
  have c:=h3.resolve_left (by omega);have hk1:k - 1<l.length:=by omega
  rw[ge _ hk1] at c;have a:gU l[k - 1] h:=by
   unfold gU;rw[oO]
   rintro(z|⟨_,z⟩)
   .exact c z
   .have:=hn _ (List.getElem_mem hk1);omega
  by_cases e:i=k - 1
  .subst e;exact a
  .exact Iz (gl _ (List.getElem_mem hi)) (gl _ (List.getElem_mem hk1)) gh (pg i (k - 1) hi hk1 (by omega)) a
 have hi:∀i (hi:i<l.length),k<=i->gU h l[i]:=λi hi hk=>by have c:=h2 i hk hi;rw[ge i hi] at c;exact Sq (oO.mpr (.inl c))
 rw[List.pairwise_append];refine⟨p.sublist (List.take_sublist _ _),List.pairwise_cons.mpr ⟨λx hx=>?_,p.sublist (List.drop_sublist _ _)⟩,λx hx y hy=>?_⟩
 .obtain⟨i,hi',rfl⟩:=List.mem_iff_getElem.mp hx;rw[List.getElem_drop];exact hi _ _ (by omega)
 .obtain⟨i,hi',rfl⟩:=List.mem_iff_getElem.mp hx;rw[xP] at hi';rw[List.getElem_take];rcases List.mem_cons.mp hy with rfl|hy
  .exact lo i (by omega) (by omega)
  .obtain⟨j,hj',rfl⟩:=List.mem_iff_getElem.mp hy;rw[List.length_drop] at hj';rw[List.getElem_drop];exact pg i (k+j) (by omega) (by omega) (by omega)
noncomputable def iw(o d:Pt)(shs:List Sh):Nat->List cg
 |0=>[]
 |j+1=>match cL o d shs j with
  |none=>iw o d shs j
  |some h=>o6 h (iw o d shs j)
theorem tV(o d:Pt)(shs:List Sh):∀j,(iw o d shs j).Perm ((List.range j).filterMap (cL o d shs))
 |0=>List.Perm.refl _
 |j+1=>by
  rw[List.range_succ,List.filterMap_append];unfold iw;have ih:=tV o d shs j;split
  .rename_i e;simpa[e] using ih
  .rename_i h e;refine(zkM h _).trans ((List.Perm.cons _ ih).trans ?_);simp only[List.filterMap_cons,e,List.filterMap_nil];exact(List.perm_append_comm (l₁:=[h])).trans (List.Perm.refl _)
section
variable {o d:Pt}{shs:List Sh}(h0:d≠(0,0,0))
include h0 in
theorem qe{j:Nat}{h:cg}(e:h∈iw o d shs j):gD h/\h.2<j/\cL o d shs h.2=some h:=by
 obtain⟨i,hi,e⟩:=List.mem_filterMap.mp ((tV o d shs j).mem_iff.mp e);have e2:h.2=i:=by obtain⟨s,p,_,_,rfl⟩:=z8.mp e;rfl
 exact⟨yD h0 e,by rw[e2];exact List.mem_range.mp hi,by rw[e2];exact e⟩
include h0 in
theorem zK:∀j,(iw o d shs j).Pairwise gU
 |0=>List.Pairwise.nil
 |j+1=>by
  unfold iw;split
  .exact zK j
  .rename_i h e;have e2:h.2=j:=by obtain⟨s,p,_,_,rfl⟩:=z8.mp e;rfl
   exact zoW (yD h0 e) (λx hx=>(qe h0 hx).1) (λx hx=>by rw[e2];exact(qe h0 hx).2.1) (zK j)
include h0 in
theorem zop{hs:List cg}(p:hs.Perm (lA o d shs))(hw:∀h∈hs,h.1.2<=w):((iD (hs.map (kJ w))).map λi=>hs.getD i lC)=iw o d shs shs.length:=by
 have q:=p.trans (tV o d shs shs.length).symm;have gd:∀h∈hs,gD h:=λh hh=>(qe h0 (q.mem_iff.mp hh)).1;have nd:(hs.map (·.2)).Nodup:=by
  refine(p.map _).nodup_iff.mpr ?_;unfold lA;rw[List.map_filterMap];refine List.Pairwise.sublist ?_ (List.nodup_range (n:=shs.length));have:(λi=>Option.map (λx:cg=>x.2) (cL o d shs i))=λi=>if(cL o d shs i).isSome=true then some i else none:=by
   funext i;cases e:cL o d shs i with
   |none=>rfl
   |some h=>obtain⟨s,p,_,_,rfl⟩:=z8.mp e;rfl
  rw[this];generalize List.range shs.length=l
  induction l with
  |nil=>exact List.Sublist.slnil
  |cons a l ih =>
   rw[List.filterMap_cons];split
   .exact ih.cons _
   .rename_i e;split at e
    .cases e;exact ih.cons₂ _
    .cases e
 obtain⟨a,b⟩:=zmf (λh hh=>⟨gd h hh,hw h hh⟩) nd;refine List.Perm.eq_of_pairwise (λx y hx hy=>JP (gd x (a.mem_iff.mp hx)) (qe h0 hy).1) b (zK h0 _) (a.trans q)
end
end MX.P
end
section
local macro_rules | `(tactic| wtm_at "?d") => `(tactic| (with_reducible assumption))
namespace MX.P
open PySem L2 MX
theorem Rp:∀ns:List Int,ns≠[]->∃m,m∈ns/\∀a∈ns,a<=m
 |[],h=>absurd rfl h
 |a::r,_=>by
  by_cases hr:r=[]
  .subst hr;exact⟨a,List.mem_singleton.mpr rfl,λb hb=>by rw[List.mem_singleton.mp hb];exact Int.le_refl _⟩
  .obtain⟨m,h1,h2⟩:=Rp r hr;by_cases h:a<=m
   .exact⟨m,cM _ h1,List.forall_mem_cons.mpr ⟨h,h2⟩⟩
   .exact⟨a,fL ..,List.forall_mem_cons.mpr ⟨Int.le_refl _,λx hx=>by have:=h2 x hx;omega⟩⟩
theorem ZG{fd:EF}{k:Int}(h1:fe σ S=some (.ref n,S1))(h2:fd σ S1=some (.int k,S1))(hn:S1[n]?=some (.lst (ns.map .int))):∃m,(m∈ns\/m=k)/\(∀a∈ns,a<=m)/\uU fe fd σ S=some (.int m,S1):=by
 have e:uU fe fd σ S=if ns=[] then some (.int k,S1) else(iM ns).map λm=>(.int m,S1):=by unfold uU;rw[h1];simp only[b8];rw[h2];simp only[b8];rw[hn];simp only;rw[Kr];rfl
 by_cases h:ns=[]
 .subst h;exact⟨k,.inr rfl,λa ha=>(nomatch ha),by rw[e,if_pos rfl]⟩
 .obtain⟨m,q1,q2⟩:=Rp ns h;exact⟨m,.inl q1,q2,by rw[e,if_neg h,Fd q1 q2];rfl⟩
theorem zmT{h:cg}(g:gD h)(b:uL k h)(bw:Bd (k+k) (w*w))(hk:k<=2000)(S:So):
 tG (eN bL (ak (eB (aN .FloorDiv) (eB (aN .Mult) (eB aH (eB aH (aj 0) (eC (.int 0))) (eC (.int 0))) (aj 1)) (eB aH (eB aH (aj 0) (eC (.int 0))) (eC (.int 1)))) (ak (eB aH (aj 0) (eC (.int 1))) aB))) [.int (w*w)] [aY h] S=some (kJ w h,S):=by
 show eN _ _ [some (aY h),some (.int (w*w))] S=_;have e0:∀S,eB aH (aj 0) (eC (.int 0)) [some (aY h),some (.int (w*w))] S=some (rD h.1,S):=λS=>aW (aJ rfl) bA (dX rfl);have hq:h.1.1*(w*w) / h.1.2=(h.1.1*(w*w)).fdiv h.1.2:=(Int.fdiv_eq_ediv_of_nonneg _ (Int.le_of_lt g.1)).symm;unfold kJ mL;rw[hq];refine bG (aO (aW (aW (aW (e0 S) bA (dX rfl)) (aJ rfl) (yc (qg b.a bw (by omega)))) (aW (e0 S) bA (dX rfl)) (p7 (yx b.b (by have:=g.1;omega) (by omega)))) (aO (aW (aJ rfl) bA (dX rfl)) bD)) (jb (by show 2<=sizeLine;decide))
theorem zhB{hs:List cg}(hg:∀h∈hs,gD h/\uL k h)(hl:hs.length<64)(h1:1<=k)(hk:k<=2000)(hS:WF S)(hT:gQ "in_order" S=true)(hn:S[n]?=some (.lst (hs.map aY))):
 ∃w,(∀h∈hs,h.1.2<=w)/\Gf [.ref n] S=some (.ref (S.length+1),S++[.lst (hs.map λh => .int h.1.2)]++[.lst (((iD (hs.map (kJ w))).map λi=>hs.getD i lC).map aY)]):=by
 have e1:dD (d9 (aj 0)) (aK 0) cZ (eB aH (eB aH (aj 0) (eC (.int 0))) (eC (.int 1))) [none] [some (.ref n),none,none] S=some (.ref S.length,S++[.lst (hs.map λh => .int h.1.2)]) :=
  zY hs aY (λh => .int h.1.2) (oN (aJ rfl) hn) hn (by omega) rfl λh _=>aW (aW (aJ rfl) bA (dX (z:=rD h.1) rfl)) bA (dX rfl)
 have hm:(S++[O.lst (hs.map λh=>D.int h.1.2)])[S.length]?=some (.lst ((hs.map λh=>h.1.2).map .int)):=by rw[List.map_map];exact cI
 obtain⟨w,w1,w2,e2⟩:=ZG (k:=1) e1 bA hm;have bw:Bd k w:=by
  rcases w1 with w1|rfl
  .obtain⟨h,hh,rfl⟩:=List.mem_map.mp w1;exact(hg h hh).2.b
  .exact(show Bd 1 1 by unfold Bd;decide).le h1
 have hw:∀h∈hs,h.1.2<=w:=λh hh=>w2 _ (List.mem_map.mpr ⟨h,hh,rfl⟩);refine⟨w,hw,?_⟩;have W1:WF (S++[.lst (hs.map λh=>D.int h.1.2)]):=hS.snoc (by
  have:=zU S.length (hs.map λh=>h.1.2)
  rwa [List.map_map] at this)
 have kp:=Ao (hs.map (kJ w));rw[cW] at kp;have lt:∀i∈iD (hs.map (kJ w)),i<hs.length:=λi hi=>List.mem_range.mp (kp.mem_iff.mp hi);have pe:=Tz (enc:=aY) lC hs lt;have ks:pR (tG (eN bL (ak (eB (aN .FloorDiv) (eB (aN .Mult) (eB aH (eB aH (aj 0) (eC (.int 0))) (eC (.int 0))) (aj 1)) (eB aH (eB aH (aj 0) (eC (.int 0))) (eC (.int 1)))) (ak (eB aH (aj 0) (eC (.int 1))) aB))) [.int (w*w)]) (S++[.lst (hs.map λh=>D.int h.1.2)]) (hs.map aY)=some (hs.map (kJ w)) :=
  JN λh hh=>zmT (hg h hh).1 (hg h hh).2 (bw.mul bw) hk _
 have kk:((hs.map (kJ w)).all nG||(hs.map (kJ w)).all mK)=true:=by rw[mG];exact .inr (List.all_eq_true.mpr λx hx=>by obtain⟨q,_,rfl⟩:=List.mem_map.mp hx;rfl)
 unfold Gf oG;rw[if_pos hT];refine vC (σ':=[some (.ref n),some (.int w),some (.int (w*w))]) ?_ ?_ (by simp) (by simp[D.lo]) (W1.snoc (yp _ _))
 .show Ge [some (.ref n),none,none] S=_;unfold Ge;refine aM (c7 e2 (cO rfl)) (aU (aM (c7 (aW (aJ rfl) (aJ rfl) (yc (qg bw bw (by omega)))) (cO rfl)) (aU (aM (fX ?_) dW))));refine(QJ (fe:=aj 0) (iG:=[.int (w*w)]) (σ:=[some (.ref n),some (.int w),some (.int (w*w))]) (src:=[2]) (aJ rfl) rfl rfl (fQ hn) (by simp;omega) ks kk).trans ?_;rw[pe,lz];rfl
 .intro h;simp[D.lo] at h;omega
section
variable {K:Nat}{o d:Pt}(ho:aP K o)(hd:aP K d)(h0:d≠(0,0,0))
include ho hd h0 in
theorem J0(hK:K<=400){t:Option Tr}(ok:u5 K shs t)(hl:shs.length<64){c:Nat}(hS:WF S)(hT:gQ "in_order" S=true)(sc:jm S c shs t):
 ∃(n:Nat) (G:So),Al [.ref c,cj o d] S=some (.ref n,S++G)/\WF (S++G)/\S.length<=n/\(S++G)[n]?=some (.lst ((iw o d shs shs.length).map aY)):=by
 obtain⟨fs,p1,p2,p3⟩:=SM ho hd h0 (by omega) ok;have hh:=p3 S c hS sc;generalize Px:fs.filterMap (cL o d shs)=hs at *
 have W3:WF (S++[.lst (hs.map aY)]++[.lst (fs.map aZ)]++[.lst []]):=((hS.snoc (yp _ _)).snoc (Fb _ _)).snoc rfl;have n3:(S++[O.lst (hs.map aY)]++[O.lst (fs.map aZ)]++[O.lst []])[S.length]?=some (.lst (hs.map aY)):=fQ (fQ cI);have T3:gQ "in_order" (S++[O.lst (hs.map aY)]++[O.lst (fs.map aZ)]++[O.lst []])=true:=by rw[fB,fB];exact jw hT
 have hg:∀h∈hs,gD h/\uL (4*K+10) h:=λh hm=>by rw[<-Px] at hm;obtain⟨i,hi,e⟩:=List.mem_filterMap.mp hm;exact⟨yD h0 e,(IW ho hd h0 ok e).1⟩
 have ll:hs.length<64:=by have:=(p1.trans (tV o d shs shs.length).symm).length_eq;have l2:=(tV o d shs shs.length).length_eq;have l3:=List.length_filterMap_le (cL o d shs) (List.range shs.length);rw[List.length_range] at l3;omega
 obtain⟨w,hw,ei⟩:=zhB hg ll (by omega) (by omega) W3 T3 n3;rw[zop h0 p1 hw] at ei;generalize uy:S++[O.lst (hs.map aY)]++[O.lst (fs.map aZ)]++[O.lst []]=S3 at *
 have l3:S.length<=S3.length:=by rw[<-uy];simp
 have lw:=zU S3.length (hs.map λh=>h.1.2);rw[List.map_map] at lw;have W5:WF (S3++[.lst (hs.map λh => .int h.1.2)]++[.lst ((iw o d shs shs.length).map aY)]):=(W3.snoc lw).snoc (yp _ _);have eG:S3++[O.lst (hs.map λh => .int h.1.2)]++[O.lst ((iw o d shs shs.length).map aY)]=S++([O.lst (hs.map aY)]++[O.lst (fs.map aZ)]++[O.lst []]++[O.lst (hs.map λh => .int h.1.2)]++[O.lst ((iw o d shs shs.length).map aY)]):=by rw[<-uy];simp only[fB]
 refine⟨S3.length+1,_,?_,by rw[<-eG];exact W5,by omega,?_⟩
 .rw[<-eG];refine vC (σ':=[some (.ref c),some (cj o d)]) ?_ ?_ (by simp;omega) (by simp[D.lo]) W5
  .show GK [some (.ref c),some (cj o d)] S=_;unfold GK;exact aM (fX (bG (aO (tX (aJ rfl) sc.ins rfl (aO (aJ rfl) bD) rfl hh) bD) (eE rfl ei))) dW
  .intro h;simp[D.lo] at h;omega
 .rw[<-eG,show S3.length+1=(S3++[O.lst (hs.map λh=>D.int h.1.2)]).length by simp];exact cI
end
def zny{o' d':Pt}{s':Sh}(h0:d≠(0,0,0))(h0':d'≠(0,0,0))(h:∀t:Int×Int,0<=t.1->0<t.2->(lU o' d' s' t↔lU o d s t)):fj o' d' s'=fj o d s :=
 fZ.uniq ((yE h0' s').congr h) (yE h0 s) (yd _ _ _) (yd _ _ _)
theorem Ir{s l f:Int}:fC (s+f) w (l+f) (u+f) t↔fC s w l u t:=by unfold fC;have e:∀x,(x+f)*t.2=x*t.2+f*t.2:=λx=>Int.add_mul ..;rw[e,e,e];generalize f*t.2=g;omega
theorem Iu{s l:Int}(hm:0<m):fC (m*s) (m*w) (m*l) (m*u) t↔fC s w l u t:=by
 unfold fC;have e:m*s*t.2+m*w*t.1=m*(s*t.2+w*t.1):=by grind
 rw[e,Int.mul_assoc,Int.mul_assoc];exact and_congr (Int.mul_le_mul_left hm) (Int.mul_le_mul_left hm)
theorem XH{s l:Int}:fC (0 - s) (0 - w) (0 - u) (0 - l) t↔fC s w l u t:=by
 unfold fC;have e:∀x y:Int,(0 - x)*y = -(x*y):=λx y=>by grind
 rw[e,e,e,e];omega
noncomputable def iK(f p:Pt):Pt:=(p.1+f.1,p.2.1+f.2.1,p.2.2+f.2.2)
noncomputable def ir(m:Int)(p:Pt):Pt:=(m*p.1,m*p.2.1,m*p.2.2)
noncomputable def m7(p:Pt):Pt:=(p.2.1,p.2.2,p.1)
noncomputable def dR(p:Pt):Pt:=(0 - p.1,p.2.1,p.2.2)
noncomputable def dH(how:Nat)(f:Pt)(m:Int)(p:Pt):Pt:=match how with
 |0=>iK f p
 |1=>ir m p
 |2=>m7 p
 |3=>dR p
 |_=>p
noncomputable def lu(how:Nat)(f:Pt)(m:Int):Sh->Sh
 |.box lo hi=>if how=3 then .box ((dR hi).1,lo.2.1,lo.2.2) ((dR lo).1,hi.2.1,hi.2.2) else .box (dH how f m lo) (dH how f m hi)
 |.tri a b c=>if how=4 then .tri c b a else .tri (dH how f m a) (dH how f m b) (dH how f m c)
def Jg(f o a:Pt):wb (iK f o) (iK f a)=wb o a:=by unfold wb iK;refine Prod.ext ?_ (Prod.ext ?_ ?_)<;>(simp only;omega)
theorem zoY(hm:0<m){a b c:Pt}:eO (ir m d) (wb (ir m o) (ir m a)) (wb (ir m o) (ir m b)) (wb (ir m o) (ir m c)) t↔eO d (wb o a) (wb o b) (wb o c) t:=by
 have f:∀k q u v w x y z e g:Int,k*(m*x)=q*(u*(m*y - m*e)+v*(m*z - m*e)+w*(m*g - m*e))↔k*x=q*(u*(y - e)+v*(z - e)+w*(g - e)):=λk q u v w x y z e g=>by
  have h1:k*(m*x)=m*(k*x):=by grind
  have h2:q*(u*(m*y - m*e)+v*(m*z - m*e)+w*(m*g - m*e))=m*(q*(u*(y - e)+v*(z - e)+w*(g - e))):=by grind
  rw[h1,h2];exact⟨Dy hm,λh=>by rw[h]⟩
 unfold eO gw wb ir;simp only[f]
theorem zoX:eO (dR d) (dR A) (dR B) (dR C) t↔eO d A B C t:=by
 have f:∀k q u v w x y z g:Int,k*(0 - x)=q*(u*(0 - y)+v*(0 - z)+w*(0 - g))↔k*x=q*(u*y+v*z+w*g):=λk q u v w x y z g=>by
  have h1:k*(0 - x) = -(k*x):=by grind
  have h2:q*(u*(0 - y)+v*(0 - z)+w*(0 - g)) = -(q*(u*y+v*z+w*g)):=by grind
  rw[h1,h2];omega
 unfold eO gw dR;simp only[f]
theorem zmu:eO (m7 d) (m7 A) (m7 B) (m7 C) t↔eO d A B C t:=by
 unfold eO gw m7;constructor
 .rintro⟨u,v,w,a,b,c,e,h1,h2,h3⟩
  exact⟨u,v,w,a,b,c,e,h3,h1,h2⟩
 .rintro⟨u,v,w,a,b,c,e,h1,h2,h3⟩
  exact⟨u,v,w,a,b,c,e,h2,h3,h1⟩
theorem Um(h:eO d A B C t):eO d C B A t:=by
 obtain⟨u,v,w,a,b,c,e,h1,h2,h3⟩:=h;have s:w+v+u=u+v+w:=by omega
 refine⟨w,v,u,c,b,a,by omega,?_⟩;rw[s];refine⟨h1.trans (congrArg _ ?_),h2.trans (congrArg _ ?_),h3.trans (congrArg _ ?_)⟩<;>omega
def Jh(o a:Pt):wb (dR o) (dR a)=dR (wb o a):=by unfold wb dR;refine Prod.ext ?_ rfl;simp only;omega
theorem zoZ{f:Pt}(hm:0<m)(hh:how<5)(s:Sh)(t:Int×Int):lU (dH how f m o) (if how=0 then d else dH how f m d) (lu how f m s) t↔lU o d s t:=by
 match how,hh with
 |0,_=>cases s with
  |box lo hi=>exact and_congr Ir (and_congr Ir Ir)
  |tri a b c =>
   show eO d (wb (iK f o) (iK f a)) (wb (iK f o) (iK f b)) (wb (iK f o) (iK f c)) t↔_;rw[Jg,Jg,Jg];exact Iff.rfl
 |1,_=>cases s with
  |box lo hi=>exact and_congr (Iu hm) (and_congr (Iu hm) (Iu hm))
  |tri a b c=>exact zoY hm
 |2,_=>cases s with
  |box lo hi =>
   show fC _ _ _ _ t/\fC _ _ _ _ t/\fC _ _ _ _ t↔fC _ _ _ _ t/\fC _ _ _ _ t/\fC _ _ _ _ t;exact⟨fun⟨a,b,c⟩=>⟨c,a,b⟩,fun⟨a,b,c⟩=>⟨b,c,a⟩⟩
  |tri a b c=>exact zmu (d:=d) (A:=wb o a) (B:=wb o b) (C:=wb o c)
 |3,_=>cases s with
  |box lo hi=>exact and_congr XH Iff.rfl
  |tri a b c =>
   show eO (dR d) (wb (dR o) (dR a)) (wb (dR o) (dR b)) (wb (dR o) (dR c)) t↔_;rw[Jh,Jh,Jh];exact zoX
 |4,_=>cases s with
  |box lo hi=>exact Iff.rfl
  |tri a b c=>exact⟨Um,Um⟩
theorem UG{o' d':Pt}{g:Sh->Sh}(h:∀s∈shs,fj o' d' (g s)=fj o d s)(i:Nat):cL o' d' (shs.map g) i=cL o d shs i:=by
 unfold cL;rw[iY];cases e:shs[i]? with
 |none=>rfl
 |some s=>simp only[qG,b8];rw[h s (List.mem_of_getElem? e)]
theorem zk0{o' d':Pt}{g:Sh->Sh}(h:∀s∈shs,fj o' d' (g s)=fj o d s):fV o' d' (shs.map g)=fV o d shs:=by unfold fV lA;rw[cW,show cL o' d' (shs.map g)=cL o d shs from funext (UG h)]
theorem RJ{o d o' d':Pt}{shs:List Sh}{g:Sh->Sh}(h:∀s∈shs,fj o' d' (g s)=fj o d s):∀j,iw o' d' (shs.map g) j=iw o d shs j
 |0=>rfl
 |j+1=>by unfold iw;rw[UG h,RJ h j]
noncomputable def qK(k:Int)(p:Int×Int):Int×Int:=cR p.1 (p.2*k)
def Ul(o d:Pt)(s:Sh):Inv (lU o d s):=by
 cases s with
 |box lo hi=>exact Jp o d lo hi
 |tri a b c=>exact zT _ _ _ _
theorem Kp{k:Int}(s:Sh)(t:Int×Int):lU o (ir k d) s t↔lU o d s (k*t.1,t.2):=by
 cases s with
 |box lo hi =>
  have f:∀s w l u:Int,fC s (k*w) l u t↔fC s w l u (k*t.1,t.2):=λs w l u=>by unfold fC;rw[show k*w*t.1=w*(k*t.1) by grind]
  exact and_congr (f _ _ _ _) (and_congr (f _ _ _ _) (f _ _ _ _))
 |tri a b c =>
  have f:∀n x y:Int,n*t.1*(k*x)=y↔n*(k*t.1)*x=y:=λn x y=>by rw[show n*t.1*(k*x)=n*(k*t.1)*x by grind]
  show eO (ir k d) _ _ _ t↔eO d _ _ _ (k*t.1,t.2);unfold eO gw ir;simp only[f]
theorem znx{k:Int}(hk:0<k)(h0:d≠(0,0,0))(h0':ir k d≠(0,0,0))(s:Sh):fj o (ir k d) s=(fj o d s).map (qK k):=by
 have F:=yE (o:=o) h0 s;have G:fZ ((fj o d s).map λp=>(p.1,p.2*k)) (lU o (ir k d) s):=by
  cases e:fj o d s with
  |none =>
   rw[e] at F;exact λt h1 h2 h=>F (k*t.1,t.2) (Int.mul_nonneg (by omega) h1) h2 ((Kp s t).mp h)
  |some p =>
   rw[e] at F;obtain⟨f1,f2,f3,f4⟩:=F;refine⟨f1,Int.mul_pos f2 hk,(Kp s _).mpr (Ul o d s p _ f2 (Int.mul_pos f2 hk) (by show p.1*(p.2*k)=k*p.1*p.2;grind) f3),λt h1 h2 h=>?_⟩;have:=f4 (k*t.1,t.2) (Int.mul_nonneg (by omega) h1) h2 ((Kp s t).mp h);unfold leQ at *
   show p.1*t.2<=t.1*(p.2*k)
   have e:t.1*(p.2*k)=k*t.1*p.2:=by grind
   rw[e];exact this
 have R:=fZ.red (Ul _ _ s) G;have e:lW ((fj o d s).map λp=>(p.1,p.2*k))=(fj o d s).map (qK k):=by unfold lW qK;rw[Option.map_map];rfl
 rw[e] at R;refine fZ.uniq (yE h0' s) R (yd _ _ _) λr hr=>?_;obtain⟨p,_,rfl⟩:=aX.mp hr;exact Gi _ _
theorem Ve{k:Int}(hk:0<k)(ha:0<a.2)(hb:0<b.2):dj (qK k a) (qK k b)↔dj a b:=by
 have pa:=qm a.1 (a.2*k);have pb:=qm b.1 (b.2*k);have qa:0<a.2*k:=Int.mul_pos ha hk;have qb:0<b.2*k:=Int.mul_pos hb hk;have ca:=Af (a:=a.1) (b:=a.2*k) (by omega);have cb:=Af (a:=b.1) (b:=b.2*k) (by omega);unfold dj qK;generalize cR a.1 (a.2*k)=x at *
 generalize cR b.1 (b.2*k)=y at *
 have e1:(x.1*y.2)*((a.2*k)*(b.2*k))=(a.1*b.2)*(x.2*y.2*k):=by
  have:(x.1*y.2)*((a.2*k)*(b.2*k))=(x.1*(a.2*k))*(y.2*(b.2*k)):=by grind
  rw[this,ca];grind
 have e2:(y.1*x.2)*((a.2*k)*(b.2*k))=(b.1*a.2)*(x.2*y.2*k):=by
  have:(y.1*x.2)*((a.2*k)*(b.2*k))=(y.1*(b.2*k))*(x.2*(a.2*k)):=by grind
  rw[this,cb];grind
 rw[<-Int.mul_lt_mul_right (Int.mul_pos qa qb),e1,e2];exact Int.mul_lt_mul_right (Int.mul_pos (Int.mul_pos pa pb) hk)
noncomputable def lg(k:Int)(h:cg):cg:=(qK k h.1,h.2)
theorem zmo{k:Int}(hk:0<k){a b:cg}(ga:gD a)(gb:gD b)(h:gU a b):gU (lg k a) (lg k b):=by
 unfold gU at *
 rw[oO] at *
 rintro(c|⟨c1,c2⟩)
 .exact h (.inl ((Ve hk gb.1 ga.1).mp c))
 .refine h (.inr ⟨?_,c2⟩);have n1:¬dj a.1 b.1:=λz=>by have:=(Ve hk ga.1 gb.1).mpr z;have c1:qK k b.1=qK k a.1:=c1;rw[c1] at this;unfold dj at this;omega
  have n2:¬dj b.1 a.1:=λz=>h (.inl z);exact Fq gb ga (mX n1) (mX n2)
theorem zmK{k:Int}(hk:0<k)(h0:d≠(0,0,0))(h0':ir k d≠(0,0,0))(shs:List Sh):iw o (ir k d) shs shs.length=(iw o d shs shs.length).map (lg k):=by
 have e:∀i,cL o (ir k d) shs i=(cL o d shs i).map (lg k):=λi=>by
  unfold cL;cases q:shs[i]? with
  |none=>rfl
  |some s=>simp only[b8];rw[znx hk h0 h0',Option.map_map,Option.map_map];rfl
 refine List.Perm.eq_of_pairwise (λx y hx hy=>JP (qe h0' hx).1 ?_) (zK h0' _) ?_ ?_
 .obtain⟨h,hh,rfl⟩:=List.mem_map.mp hy;obtain⟨g,_,q⟩:=qe h0 hh;exact yD h0' (i:=h.2) (by rw[e,q];rfl)
 .rw[List.pairwise_map];exact List.Pairwise.imp_of_mem (λhx hy=>zmo hk (qe h0 hx).1 (qe h0 hy).1) (zK h0 _)
 .refine(tV _ _ _ _).trans (List.Perm.trans ?_ ((tV _ _ _ _).map _).symm);rw[List.map_filterMap,show cL o (ir k d) shs=λi=>(cL o d shs i).map (lg k) from funext e]
noncomputable def lE(h:cg):cg:=((h.1.1 - h.1.2,h.1.2),h.2)
theorem Kq(s:Sh)(t:Int×Int):lU (iK d o) d s t↔lU o d s (t.1+t.2,t.2):=by
 cases s with
 |box lo hi =>
  have f:∀s w l u:Int,fC (s+w) w l u t↔fC s w l u (t.1+t.2,t.2):=λs w l u=>by unfold fC;rw[show(s+w)*t.2+w*t.1=s*t.2+w*(t.1+t.2) by grind]
  exact and_congr (f _ _ _ _) (and_congr (f _ _ _ _) (f _ _ _ _))
 |tri a b c =>
  have f:∀u v w x y z e g:Int,(u+v+w)*t.1*x=t.2*(u*(y - (e+x))+v*(z - (e+x))+w*(g - (e+x)))↔(u+v+w)*(t.1+t.2)*x=t.2*(u*(y - e)+v*(z - e)+w*(g - e)):=λu v w x y z e g=>by
   have h1:t.2*(u*(y - (e+x))+v*(z - (e+x))+w*(g - (e+x)))=t.2*(u*(y - e)+v*(z - e)+w*(g - e)) - (u+v+w)*t.2*x:=by grind
   have h2:(u+v+w)*(t.1+t.2)*x=(u+v+w)*t.1*x+(u+v+w)*t.2*x:=by grind
   rw[h1,h2];omega
  show eO d (wb (iK d o) a) (wb (iK d o) b) (wb (iK d o) c) t↔eO d _ _ _ (t.1+t.2,t.2);unfold eO gw wb iK;simp only[f]
def Wd(a:Int){b:Int}(hb:0<b):(cR a b).2<=b:=by rw[vH hb];exact Int.ediv_le_self _ (by omega)
theorem znz(h0:d≠(0,0,0))(s:Sh)(h1:∀p,fj o d s=some p->p.2<=p.1):fj (iK d o) d s=(fj o d s).map λp=>(p.1 - p.2,p.2):=by
 have F:=yE (o:=o) h0 s;have G:fZ ((fj o d s).map λp=>(p.1 - p.2,p.2)) (lU (iK d o) d s):=by
  cases e:fj o d s with
  |none =>
   rw[e] at F;exact λt h1 h2 h=>F (t.1+t.2,t.2) (by show 0<=t.1+t.2;omega) h2 ((Kq s t).mp h)
  |some p =>
   rw[e] at F;obtain⟨f1,f2,f3,f4⟩:=F;have:=h1 p e;refine⟨by show 0<=p.1 - p.2;omega,f2,(Kq s _).mpr (by rw[show((p.1 - p.2,p.2):Int×Int).1+((p.1 - p.2,p.2):Int×Int).2=p.1 by show p.1 - p.2+p.2=p.1;omega];exact f3),λt g1 g2 h=>?_⟩;have:=f4 (t.1+t.2,t.2) (by show 0<=t.1+t.2;omega) g2 ((Kq s t).mp h);unfold leQ at *
   have this:p.1*t.2<=(t.1+t.2)*p.2:=this;show(p.1 - p.2)*t.2<=t.1*p.2;rw[Int.add_mul] at this;rw[Int.sub_mul,Int.mul_comm p.2 t.2];omega
 refine fZ.uniq (yE h0 s) G (yd _ _ _) λr hr=>?_;obtain⟨p,hp,rfl⟩:=aX.mp hr;have rp:=yd o d s p hp;rw[hp] at F;have p2:=F.2.1;have c:=Af (a:=p.1 - p.2) (b:=p.2) (by omega);have dp:=qm (p.1 - p.2) p.2;have le1:=Wd (p.1 - p.2) p2;generalize cR (p.1 - p.2) p.2=x at *
 have hx:cR (x.1+x.2) x.2=cR p.1 p.2:=yr (by omega) (by omega) (by rw[Int.add_mul,c];grind);have le2:=Wd (x.1+x.2) dp;rw[hx,rp] at le2;have e2:x.2=p.2:=by omega
 rw[e2] at c;exact Prod.ext (Int.eq_of_mul_eq_mul_right (by omega) c) e2
theorem zkg{a b:cg}:kW (lE a) (lE b)=kW a b:=by
 rw[Bool.eq_iff_iff,oO,oO];obtain⟨⟨x,y⟩,i⟩:=a;obtain⟨⟨z,w⟩,j⟩:=b;unfold lE dj;simp only[Prod.mk.injEq];refine or_congr ?_ (and_congr ?_ Iff.rfl)
 .rw[Int.sub_mul,Int.sub_mul,Int.mul_comm y w];omega
 .omega
def zmR(b:Option cg)(h:cg):fH (b.map lE) (lE h)=(fH b h).map lE:=by
 cases b with
 |none=>rfl
 |some b =>
  simp only[fH,qG];rw[zkg];split<;>rfl
theorem Uz:∀(l:List cg) (b:Option cg),(l.map lE).foldl fH (b.map lE)=(l.foldl fH b).map lE
 |[],_=>rfl
 |h::l,b=>by rw[jd,List.foldl_cons,List.foldl_cons,zmR,Uz l]
theorem zjv(h0:d≠(0,0,0)){h:cg}(e:fV o d shs=some h)(h1:h.1.2<=h.1.1):fV (iK d o) d shs=some (lE h):=by
 have gd:∀x∈lA o d shs,gD x:=λx hx=>by obtain⟨i,_,q⟩:=List.mem_filterMap.mp hx;exact yD h0 q
 have gh:h∈lA o d shs:=by
  rcases yo _ _ _ e with q|q
  .exact q
  .cases q
 have le:=((Es (lA o d shs) none gd (λy hy=>by cases hy)).2 h e).1;have big:∀x∈lA o d shs,x.1.2<=x.1.1:=λx hx=>by
  have n:¬dj x.1 h.1:=λz=>le x hx (oO.mpr (.inl z));have q:=mX n;have px:=(gd x hx).1;have ph:=(gd h gh).1;have one:leQ (1,1) h.1:=by unfold leQ;omega
  have:=zO (a:=(1,1)) (by decide) ph px one q;unfold leQ at this;omega
 have m:∀i,cL (iK d o) d shs i=(cL o d shs i).map lE:=λi=>by
  unfold cL;cases q:shs[i]? with
  |none=>rfl
  |some s =>
   simp only[b8];rw[znz h0 s λp hp=>big (p,i) (List.mem_filterMap.mpr ⟨i,List.mem_range.mpr (fO.mp q).1,z8.mpr ⟨s,p,q,hp,rfl⟩⟩),Option.map_map,Option.map_map];rfl
 have ea:lA (iK d o) d shs=(lA o d shs).map lE:=by unfold lA;rw[List.map_filterMap,show cL (iK d o) d shs=λi=>(cL o d shs i).map lE from funext m]
 unfold fV at *
 rw[ea];have:=Uz (lA o d shs) none;rw[e] at this;exact this
noncomputable def nA(ce:Int):Int:=1+ce.fmod (1*2 ^ (90:Int).toNat)
noncomputable def mM(ce:Int):Int:=1+ce.fmod 1000000007
noncomputable def fM(b ce:Int):Pt:=(b*nA ce,-(3*(b*nA ce)),b*ce.fmod 1009)
def Q6(ce:Int):Bd 92 (nA ce):=((show Bd 1 1 by unfold Bd;decide).add (Bd.fmod (x:=ce) (m:=1*2 ^ (90:Int).toNat) (by decide))).le (by decide)
def QG(ce:Int):Bd 31 (mM ce):=((show Bd 1 1 by unfold Bd;decide).add (Bd.fmod (x:=ce) (m:=1000000007) (by decide))).le (by decide)
def Ro(ce:Int):0<mM ce:=by have:=oh ce (show(0:Int)<1000000007 by decide);unfold mM;omega
theorem Iw(bp:aP k p)(hk:70<=k)(ce:Int):aP (k+31) (dH how (fM 1 ce) (mM ce) p):=by
 obtain⟨b1,b2,b3⟩:=bp;have f:=Q6 ce;have g:Bd 92 (1*nA ce):=by rw[Int.one_mul];exact f
 have h:Bd 11 (1*ce.fmod 1009):=by rw[Int.one_mul];exact(Bd.fmod (x:=ce) (m:=1009) (by decide)).le (by decide)
 have m:=QG ce;unfold dH;split
 .exact⟨(b1.add g).le (by omega),(b2.add (((show Bd 2 3 by unfold Bd;decide).mul g).neg)).le (by omega),(b3.add h).le (by omega)⟩
 .exact⟨(m.mul b1).le (by omega),(m.mul b2).le (by omega),(m.mul b3).le (by omega)⟩
 .exact⟨b2.le (by omega),b3.le (by omega),b1.le (by omega)⟩
 .exact⟨by show Bd _ (0 - p.1);rw[Int.zero_sub];exact b1.neg.le (by omega),b2.le (by omega),b3.le (by omega)⟩
 .exact⟨b1.le (by omega),b2.le (by omega),b3.le (by omega)⟩
theorem KQ(bp:aP k p)(hk:k<=200)(ce:Int){b:Int}(bb:Bd 1 b)(hh:how<5)(S:So):oR [pD p,.int (how:Nat),.int ce,.int b] S=some (pD (dH how (fM b ce) (mM ce) p),S):=by
 obtain⟨x,y,z⟩:=p;obtain⟨bx,Qh,bz⟩:=bp;simp only at bx Qh bz;have bf:Bd 92 (1+ce.fmod (1*2 ^ (90:Int).toNat)):=Q6 ce;have bm:Bd 31 (1+ce.fmod 1000000007):=QG ce;have hm:ce.fmod 1009=ce.fmod 1009:=rfl;have bq:Bd 11 (ce.fmod 1009):=(Bd.fmod (x:=ce) (m:=1009) (by decide)).le (by decide)
 match how,hh with
 |0,_ =>
  have e:pD (dH 0 (fM b ce) (mM ce) (x,y,z))=P3 (x+b*(1+ce.fmod (1*2 ^ (90:Int).toNat))) (y - 3*(b*(1+ce.fmod (1*2 ^ (90:Int).toNat)))) (z+b*ce.fmod 1009):=by rw[Int.sub_eq_add_neg];rfl
  rw[e];show oR [P3 x y z,.int 0,.int ce,.int b] S=_;apply bQ
  .wtm_at "?b"
   unfold yR;wtm_at "?a"
  .wtm_at "?c"
  .rfl
 |1,_ =>
  show oR [P3 x y z,.int 1,.int ce,.int b] S=some (P3 ((1+ce.fmod 1000000007)*x) ((1+ce.fmod 1000000007)*y) ((1+ce.fmod 1000000007)*z),S);apply bQ
  .wtm_at "?b"
   unfold yR;wtm_at "?a"
  .wtm_at "?c"
  .rfl
 |2,_ =>
  show oR [P3 x y z,.int 2,.int ce,.int b] S=some (P3 y z x,S);apply bQ
  .wtm_at "?b"
   unfold yR;wtm_at "?a"
  .wtm_at "?c"
  .rfl
 |3,_ =>
  show oR [P3 x y z,.int 3,.int ce,.int b] S=some (P3 (0 - x) y z,S);apply bQ
  .wtm_at "?b"
   unfold yR;wtm_at "?a"
  .wtm_at "?c"
  .rfl
 |4,_ =>
  show oR [P3 x y z,.int 4,.int ce,.int b] S=some (P3 x y z,S);apply bQ
  .wtm_at "?b"
   unfold yR;wtm_at "?a"
  .wtm_at "?c"
  .rfl
theorem zjn(bs:∀p∈s.pts,aP k p)(hk:k<=200)(ce:Int)(hh:how<5)(S:So):
 dD (d9 (jR (aj 0) (jP (eC (.int 1))) kY)) (aK 0) cZ (eN (aR 4 oR) (ak (aj 0) (ak (aj 2) (ak (aj 1) (ak (eC (.int 1)) aB))))) [none,some 2,some 1] [some (bJ s),some (.int (how:Nat)),some (.int ce),none] S=some (.ref S.length,S++[.lst (s.pts.map λp=>pD (dH how (fM 1 ce) (mM ce) p))]):=by
 have hlen:s.pts.length<=10:=by cases s<;>simp[Sh.pts]
 rw[Jj];refine Kc s.pts pD (λp=>pD (dH how (fM 1 ce) (mM ce) p)) (FN (yg (aJ rfl) (z7 bA) zZ (Ew (ys:=s.pts.map pD) ?_ Aa))) (by omega) rfl λp hp=>?_
 .rintro⟨e1,e2⟩
  have:HT.sIx (D.str s.nm::s.pts.map pD).length 0 (some 1)=1:=by unfold HT.sIx;simp
  omega
 .exact bG (aO (aJ rfl) (aO (aJ rfl) (aO (aJ rfl) (aO bA bD)))) (eE rfl (KQ (bs p hp) hk ce (show Bd 1 1 by unfold Bd;decide) hh S))
theorem Fx(x:D)(xs:List D)(y:Str)(r:Bool)(b1 b2 b3:Option D)(e:aV .Eq x (.str y)=λS=>some (.bl r,S))(S:So):bI (eB (aV .Eq) (eB aH (aj 0) (eC (.int 0))) (eC (.str y))) [some (.tup (x::xs)),b1,b2,b3] S=some (r,S) :=
 fP (aW (aW (aJ rfl) bA (dX (zQ (j:=0) rfl))) bA (by rw[e]))
theorem NT:aV .Eq (.str "box") (.str "box")=λS=>some (.bl true,S):=funext λS=>(p8 (x := .str "box") (y := .str "box") rfl 1 (by decide +kernel) (by decide +kernel) (by decide)).trans (by rw[mj rfl])
theorem Nz:aV .Eq (.str "triangle") (.str "triangle")=λS=>some (.bl true,S):=funext λS=>(p8 (x := .str "triangle") (y := .str "triangle") rfl 1 (by decide +kernel) (by decide +kernel) (by decide)).trans (by rw[mj rfl])
def QR:¬(D.str "triangle" = D.str "box"):=λh=>VP (by rw[h])
theorem NP:aV .Eq (.str "triangle") (.str "box")=λS=>some (.bl false,S):=funext λS=>(p8 (x := .str "triangle") (y := .str "box") rfl 1 (by decide +kernel) (by decide +kernel) (by decide)).trans (by rw[lZ QR])
theorem NQ:aV .Eq (.str "box") (.str "triangle")=λS=>some (.bl false,S):=funext λS=>(p8 (x := .str "box") (y := .str "triangle") rfl 1 (by decide +kernel) (by decide +kernel) (by decide)).trans (by rw[lZ λh=>QR h.symm])
theorem zeD(bs:∀p∈s.pts,aP k p)(hk:k<=200)(ce:Int)(hh:how<5)(S:So):GQ [bJ s,.int (how:Nat),.int ce] S=some (bJ (lu how (fM 1 ce) (mM ce) s),S):=by
 have lc:=zjn bs hk ce hh S;generalize fM 1 ce=f at lc ⊢;generalize mM ce=m at lc ⊢;have h3:decide (((how:Nat):Int)=3)=decide (how=3):=decide_eq_decide.mpr (by omega);have h4:decide (((how:Nat):Int)=4)=decide (how=4):=decide_eq_decide.mpr (by omega);cases s with
 |box lo hi =>
  have t0:∀(x:Option D) (S:So),bI (eB (aV .Eq) (eB aH (aj 0) (eC (.int 0))) (eC (.str "box"))) [some (bJ (.box lo hi)),some (.int (how:Nat)),some (.int ce),x] S=some (true,S):=λx S=>Fx _ _ _ _ _ _ _ NT S;have t1:∀(x:Option D) (S:So),bI (eB (aV .Eq) (eB aH (aj 0) (eC (.int 0))) (eC (.str "triangle"))) [some (bJ (.box lo hi)),some (.int (how:Nat)),some (.int ce),x] S=some (false,S):=λx S=>Fx _ _ _ _ _ _ _ NQ S;have t2:∀(x:Option D) (S:So),bI (eB (aV .Eq) (aj 1) (eC (.int 3))) [some (bJ (.box lo hi)),some (.int (how:Nat)),some (.int ce),x] S=some (decide (how=3),S):=λx S=>fP ((aW (aJ rfl) bA zJ).trans (by rw[h3]));have fin:∀(n:Nat) (a b:Pt) (S:So),S[n]?=some (.lst [pD a,pD b])->eB (aN .Add) (eN bL (ak (eB aH (aj 0) (eC (.int 0))) aB)) (eN lX (ak (aj 3) aB)) [some (bJ (.box lo hi)),some (.int (how:Nat)),some (.int ce),some (.ref n)] S=some (bJ (.box a b),S):=λn a b S e =>
   aW (bG (aO (aW (aJ rfl) bA (dX (zQ (j:=0) rfl))) bD) (jb (by show 1<=sizeLine;decide))) (bG (aO (aJ rfl) bD) (yF e)) (JD (by simp) (by show 1+2<=sizeLine;decide))
  by_cases hq:how=3
  .rw[decide_eq_true hq] at t2;subst hq;have Bu:(S++[O.lst [pD (dR lo),pD (dR hi)]])[S.length]?=some (.lst [pD (dR lo),pD (dR hi)]):=cI;apply bQ (S':=S++[.lst [pD (dR lo),pD (dR hi)]]++[.lst [pD ((dR hi).1,lo.2.1,lo.2.2),pD ((dR lo).1,hi.2.1,hi.2.2)]])
   .wtm_at "?b"
    unfold Az;refine aM (c7 lc (cO rfl)) (aU (aM (eZ (rA (b:=true) (t0 _ _) (gG rfl (t2 _ _))) (gG rfl (aM (c7 ?_ (cO rfl)) (aU eX)))) (aU (aM (eZ (rA (b:=false) (t1 _ _) (fG rfl rfl)) (fG rfl eX)) (aU (aM (fX (fin _ _ _ _ cI)) dW))))));have g:∀(i j:Int) (q:Pt) (z:D),gJ [pD (dR lo),pD (dR hi)] i=some (pD q)->gJ [D.int q.1,.int q.2.1,.int q.2.2] j=some z->eB aH (eB aH (aj 3) (eC (.int i))) (eC (.int j)) [some (bJ (.box lo hi)),some (.int ((3:Nat):Int)),some (.int ce),some (.ref S.length)] (S++[O.lst [pD (dR lo),pD (dR hi)]])=some (z,S++[O.lst [pD (dR lo),pD (dR hi)]]):=λi j q z h1 h2=>aW (aW (aJ rfl) bA (qZ Bu h1)) bA (dX h2);exact bG (aO (bG (aO (g 1 0 (dR hi) _ rfl rfl) (aO (g 0 1 (dR lo) _ rfl rfl) (aO (g 0 2 (dR lo) _ rfl rfl) bD))) (jb (by show 3<=sizeLine;decide))) (aO (bG (aO (g 0 0 (dR lo) _ rfl rfl) (aO (g 1 1 (dR hi) _ rfl rfl) (aO (g 1 2 (dR hi) _ rfl rfl) bD))) (jb (by show 3<=sizeLine;decide))) bD)) (vy (by show 2<=sizeLine;decide))
   .rw[fB];simp
   .rfl
  .rw[decide_eq_false hq] at t2;have ec:lu how f m (.box lo hi) = .box (dH how f m lo) (dH how f m hi):=by simp only[lu,if_neg hq]
   rw[ec];apply bQ (S':=S++[.lst [pD (dH how f m lo),pD (dH how f m hi)]])
   .wtm_at "?b"
    unfold Az;exact aM (c7 lc (cO rfl)) (aU (aM (eZ (rA (b:=true) (t0 _ _) (gG rfl (t2 _ _))) (fG rfl eX)) (aU (aM (eZ (rA (b:=false) (t1 _ _) (fG rfl rfl)) (fG rfl eX)) (aU (aM (fX (fin _ _ _ _ cI)) dW))))))
   .simp
   .rfl
 |tri a b c =>
  have t0:∀(x:Option D) (S:So),bI (eB (aV .Eq) (eB aH (aj 0) (eC (.int 0))) (eC (.str "box"))) [some (bJ (.tri a b c)),some (.int (how:Nat)),some (.int ce),x] S=some (false,S):=λx S=>Fx _ _ _ _ _ _ _ NP S;have t1:∀(x:Option D) (S:So),bI (eB (aV .Eq) (eB aH (aj 0) (eC (.int 0))) (eC (.str "triangle"))) [some (bJ (.tri a b c)),some (.int (how:Nat)),some (.int ce),x] S=some (true,S):=λx S=>Fx _ _ _ _ _ _ _ Nz S;have t2:∀(x:Option D) (S:So),bI (eB (aV .Eq) (aj 1) (eC (.int 4))) [some (bJ (.tri a b c)),some (.int (how:Nat)),some (.int ce),x] S=some (decide (how=4),S):=λx S=>fP ((aW (aJ rfl) bA zJ).trans (by rw[h4]));have fin:∀(n:Nat) (a' b' c':Pt) (S:So),S[n]?=some (.lst [pD a',pD b',pD c'])->eB (aN .Add) (eN bL (ak (eB aH (aj 0) (eC (.int 0))) aB)) (eN lX (ak (aj 3) aB)) [some (bJ (.tri a b c)),some (.int (how:Nat)),some (.int ce),some (.ref n)] S=some (bJ (.tri a' b' c'),S):=λn a' b' c' S e =>
   aW (bG (aO (aW (aJ rfl) bA (dX (zQ (j:=0) rfl))) bD) (jb (by show 1<=sizeLine;decide))) (bG (aO (aJ rfl) bD) (yF e)) (JD (by simp) (by show 1+3<=sizeLine;decide))
  by_cases hq:how=4
  .rw[decide_eq_true hq] at t2;subst hq;have Bu:(S++[O.lst [pD a,pD b,pD c]])[S.length]?=some (.lst [pD a,pD b,pD c]):=cI;apply bQ (S':=S++[.lst [pD a,pD b,pD c]]++[.lst [pD c,pD b,pD a]])
   .wtm_at "?b"
    unfold Az;refine aM (c7 lc (cO rfl)) (aU (aM (eZ (rA (b:=false) (t0 _ _) (fG rfl rfl)) (fG rfl eX)) (aU (aM (eZ (rA (b:=true) (t1 _ _) (gG rfl (t2 _ _))) (gG rfl (aM (c7 ?_ (cO rfl)) (aU eX)))) (aU (aM (fX (fin _ _ _ _ _ cI)) dW))))));exact bG (aO (aW (aJ rfl) bA (qZ Bu rfl)) (aO (aW (aJ rfl) bA (qZ Bu rfl)) (aO (aW (aJ rfl) bA (qZ Bu rfl)) bD))) (vy (by show 3<=sizeLine;decide))
   .rw[fB];simp
   .rfl
  .rw[decide_eq_false hq] at t2;have ec:lu how f m (.tri a b c) = .tri (dH how f m a) (dH how f m b) (dH how f m c):=by simp only[lu,if_neg hq]
   rw[ec];apply bQ (S':=S++[.lst [pD (dH how f m a),pD (dH how f m b),pD (dH how f m c)]])
   .wtm_at "?b"
    unfold Az;exact aM (c7 lc (cO rfl)) (aU (aM (eZ (rA (b:=false) (t0 _ _) (fG rfl rfl)) (fG rfl eX)) (aU (aM (eZ (rA (b:=true) (t1 _ _) (gG rfl (t2 _ _))) (fG rfl eX)) (aU (aM (fX (fin _ _ _ _ _ cI)) dW))))))
   .simp
   .rfl
theorem X5{lo hi f:Pt}(o:lo.1<=hi.1/\lo.2.1<=hi.2.1/\lo.2.2<=hi.2.2)(mp:0<=m)(hh:how<5)(hq:¬how=3):(dH how f m lo).1<=(dH how f m hi).1/\(dH how f m lo).2.1<=(dH how f m hi).2.1/\(dH how f m lo).2.2<=(dH how f m hi).2.2:=by
 match how,hh with
 |0,_=>exact⟨Int.add_le_add_right o.1 _,Int.add_le_add_right o.2.1 _,Int.add_le_add_right o.2.2 _⟩
 |1,_=>exact⟨Int.mul_le_mul_of_nonneg_left o.1 mp,Int.mul_le_mul_of_nonneg_left o.2.1 mp,Int.mul_le_mul_of_nonneg_left o.2.2 mp⟩
 |2,_=>exact⟨o.2.1,o.2.2,o.1⟩
 |3,_=>exact absurd rfl hq
 |4,_=>exact o
theorem X6(ok:kI k s)(hk:70<=k)(ce:Int)(hh:how<5):kI (k+31) (lu how (fM 1 ce) (mM ce) s):=by
 have c:=λp hp=>Iw (ok.bd p hp) hk (how:=how) ce;cases s with
 |box lo hi =>
  have cl:=c lo (by simp[Sh.pts]);have ch:=c hi (by simp[Sh.pts]);have o:=ok.ord lo hi rfl;by_cases hq:how=3
  .subst hq;have e:lu 3 (fM 1 ce) (mM ce) (.box lo hi) = .box ((dR hi).1,lo.2.1,lo.2.2) ((dR lo).1,hi.2.1,hi.2.2):=rfl;rw[e];refine⟨λp hp=>?_,λl h q=>?_⟩
   .simp only[Sh.pts,List.mem_cons,lN,or_false] at hp;rcases hp with rfl|rfl
    .exact⟨ch.1,cl.2.1,cl.2.2⟩
    .exact⟨cl.1,ch.2.1,ch.2.2⟩
   .cases q;refine⟨?_,o.2.1,o.2.2⟩;show 0 - hi.1<=0 - lo.1;omega
  .have e:lu how (fM 1 ce) (mM ce) (.box lo hi) = .box (dH how (fM 1 ce) (mM ce) lo) (dH how (fM 1 ce) (mM ce) hi):=by simp only[lu,if_neg hq]
   rw[e];refine⟨λp hp=>?_,λl h q=>?_⟩
   .simp only[Sh.pts,List.mem_cons,lN,or_false] at hp;rcases hp with rfl|rfl
    .exact cl
    .exact ch
   .cases q;exact X5 o (Int.le_of_lt (Ro ce)) hh hq
 |tri a b c' =>
  have ca:=c a (by simp[Sh.pts]);have cb:=c b (by simp[Sh.pts]);have cc:=c c' (by simp[Sh.pts]);by_cases hq:how=4
  .subst hq;have e:lu 4 (fM 1 ce) (mM ce) (.tri a b c') = .tri c' b a:=rfl;rw[e];refine⟨λp hp=>?_,λl h q=>by cases q⟩;simp only[Sh.pts,List.mem_cons,lN,or_false] at hp;rcases hp with rfl|rfl|rfl
   .exact cc
   .exact cb
   .exact ca
  .have e:lu how (fM 1 ce) (mM ce) (.tri a b c') = .tri (dH how (fM 1 ce) (mM ce) a) (dH how (fM 1 ce) (mM ce) b) (dH how (fM 1 ce) (mM ce) c'):=by simp only[lu,if_neg hq]
   rw[e];refine⟨λp hp=>?_,λl h q=>by cases q⟩;simp only[Sh.pts,List.mem_cons,lN,or_false] at hp;rcases hp with rfl|rfl|rfl
   .exact ca
   .exact cb
   .exact cc
theorem zoR(hn:ns.length<=63)(m:Nat)(hm:m<=30):∃shs:List Sh,shs.length<=30/\(∀s∈shs,kI 70 s)/\∀(fa:AF) (σ:Sg) (S:So),n8 ns S->fa σ S=some ([.int (m:Nat)],S)->nH [none,some 0] σ=[none,some (.ref 0)] ->
 dD (lR fa) (aK 0) cZ (eN (aR 2 vP) (ak (aj 1) (ak (aj 0) aB))) [none,some 0] σ S=some (.ref S.length,S++[.lst (shs.map bJ)]):=by
 have WN:∀k:Nat,∃s:Sh,kI 70 s/\∀S,n8 ns S->vP [.ref 0,.int (k:Nat)] S=some (bJ s,S):=λk=>zlJ hn (k:Nat);obtain⟨sh,hsh⟩:∃sh:Nat->Sh,∀k:Nat,kI 70 (sh k)/\∀S,n8 ns S->vP [.ref 0,.int (k:Nat)] S=some (bJ (sh k),S):=⟨λk=>(WN k).choose,λk=>(WN k).choose_spec⟩
 refine⟨(List.range m).map sh,by simpa using hm,λs hs=>?_,λfa σ S F hv hτ=>?_⟩
 .obtain⟨k,_,rfl⟩:=List.mem_map.mp hs;exact(hsh k).1
 .have lc:=qX (σ:=σ) (S:=S) (fi:=lR fa) (g:=aK 0) (t:=cZ) (src:=[none,some 0]) (n:=m) (Fj (j:=(m:Int)) hv (by omega)) (by show some (jt 0 (m:Int).toNat).length=_;simp[jt]) (by rw[sizeLine_eq];omega) hτ (by rw[Int.toNat_natCast];exact Rh (fe:=eN (aR 2 vP) (ak (aj 1) (ak (aj 0) aB))) (m:=m) (rest:=[some (.ref 0)]) (λx=>bJ (sh x)) (λx hx=>bG (aO (aJ rfl) (aO (aJ rfl) bD)) (eE rfl ((hsh x).2 S F))));rw[lc,List.map_map];rfl
theorem Z5(how:Nat)(ce:Int)(d:Pt):dH how (fM 0 ce) (mM ce) d=if how=0 then d else dH how (fM 1 ce) (mM ce) d:=by
 match how with
 |0 =>
  show(d.1+0*nA ce,d.2.1 + -(3*(0*nA ce)),d.2.2+0*ce.fmod 1009)=d;simp
 |1=>rfl
 |2=>rfl
 |3=>rfl
 |n+4=>rfl
theorem QT{f:Pt}(hm:0<m)(h0:d≠(0,0,0)):(if how=0 then d else dH how f m d)≠(0,0,0):=by
 obtain⟨x,y,z⟩:=d
 match how with
 |0=>exact h0
 |1 =>
  intro h;have h:((m*x,m*y,m*z):Pt)=(0,0,0):=h;simp only[Prod.mk.injEq] at h;have g:∀a,m*a=0->a=0:=λa q=>(Int.mul_eq_zero.mp q).resolve_left (by omega);exact h0 (by rw[g x h.1,g y h.2.1,g z h.2.2])
 |2 =>
  intro h;have h:((y,z,x):Pt)=(0,0,0):=h;simp only[Prod.mk.injEq] at h;exact h0 (by rw[h.1,h.2.1,h.2.2])
 |3 =>
  intro h;have h:((0 - x,y,z):Pt)=(0,0,0):=h;simp only[Prod.mk.injEq] at h;exact h0 (by rw[show x=0 by omega,h.2.1,h.2.2])
 |n+4=>exact h0
def zl7(h:cg):eY 2 (aY h)=true:=rfl
def TQ(r:Option cg):eY 2 (dO r)=true:=by cases r<;>rfl
theorem Zj(r:Option cg)(S:So):aV .NotEq (dO r) (dO r) S=some (.bl false,S):=(Q0 (x:=dO r) (y:=dO r) (by cases r<;>rfl) 2 (TQ r) (TQ r) (by decide)).trans (by rw[mj rfl];rfl)
theorem RQ{m:Nat}{dl:List cg}(h1:S[n]?=some (.lst (dl.map aY)))(h2:S[m]?=some (.lst (dl.map aY))):aV .NotEq (.ref n) (.ref m) S=some (.bl false,S):=by
 have hpl:∀x∈dl.map aY,eY 2 x=true:=λx hx=>by obtain⟨h,_,rfl⟩:=List.mem_map.mp hx;exact zl7 h
 have ne:=ZJ (S:=S) 2 (.inl h1) (.inl h2) hpl hpl (by decide);rw[mj rfl] at ne;exact ne
def tW{x:O}(G:So)(e:S[i]?=some x):(S++G)[i]?=some x:=by rw[ou (fO.mp e).1];exact e
noncomputable abbrev dw(mo m o d c du n ce how ot ry tm:Option D):Sg:=[some (.ref 0),mo,m,o,d,c,du,n,ce,how,ot,ry,tm]
section
variable {o d:Pt}(bo:aP 80 o)(bd:aP 80 d)(h0:d≠(0,0,0)){shs:List Sh}(hk:∀s∈shs,kI 70 s)(hl:shs.length<=30){S:So}{m n c:Nat}
include bo bd h0 hk hl in
theorem vR(hS:WF S)(hT:gQ "tree_over" S=true)(hI:gQ "in_order" S=true)(hm:S[m]?=some (.lst (shs.map bJ)))(hn:S[n]?=some (.lst ((iw o d shs shs.length).map aY)))(ce:Int)(hh:how<5)(mo:Int)(c ot ry:Option D):
 ∃WY qu G,Gu (dw (some (.int mo)) (some (.ref m)) (some (pD o)) (some (pD d)) c (some (dO (fV o d shs))) (some (.ref n)) (some (.int ce)) (some (.int (how:Nat))) ot ry none) S=some (.nx,dw (some (.int mo)) (some (.ref m)) (some (pD o)) (some (pD d)) c (some (dO (fV o d shs))) (some (.ref n)) (some (.int ce)) (some (.int (how:Nat))) WY qu none,S++G)/\WF (S++G):=by
 have mp:=Ro ce;have ok':∀s∈shs.map (lu how (fM 1 ce) (mM ce)),kI 111 s:=λs hs=>by obtain⟨s',hs',rfl⟩:=List.mem_map.mp hs;have q:=X6 (hk s' hs') (by decide) ce hh;exact⟨λp hp=>(q.bd p hp).le (by decide),q.ord⟩
 have Xj:aP 111 (dH how (fM 1 ce) (mM ce) o):=Iw bo (by decide) ce;have Hj:aP 111 (if how=0 then d else dH how (fM 1 ce) (mM ce) d):=by
  split
  .exact bd.le (by decide)
  .exact Iw bd (by decide) ce
 have h0':=QT (how:=how) (f:=fM 1 ce) mp h0;have rO:=KQ bo (by decide) ce (show Bd 1 1 by unfold Bd;decide) hh;have Bv:=KQ bd (by decide) ce (show Bd 1 0 by unfold Bd;decide) hh;rw[Z5] at Bv;have same:∀s∈shs,fj (dH how (fM 1 ce) (mM ce) o) (if how=0 then d else dH how (fM 1 ce) (mM ce) d) (lu how (fM 1 ce) (mM ce) s)=fj o d s:=λs _=>zny h0 h0' λt _ _=>zoZ mp hh s t;have fm:=zk0 same;have dm:=RJ same shs.length;have shc:=λs hs=>zeD (λp hp=>(hk s hs).bd p hp) (by decide) ce hh;generalize dH how (fM 1 ce) (mM ce) o=o' at *
 generalize (if how=0 then d else dH how (fM 1 ce) (mM ce) d)=d' at *
 generalize lu how (fM 1 ce) (mM ce)=g at *
 have lc:dD (d9 (aj 2)) (aK 0) cZ (eN (aR 3 GQ) (ak (aj 0) (ak (aj 2) (ak (aj 1) aB)))) [none,some 8,some 9] (dw (some (.int mo)) (some (.ref m)) (some (pD o)) (some (pD d)) c (some (dO (fV o d shs))) (some (.ref n)) (some (.int ce)) (some (.int (how:Nat))) ot ry none) S=some (.ref S.length,S++[.lst ((shs.map g).map bJ)]):=by rw[List.map_map];exact zY shs bJ (λs=>bJ (g s)) (oN (aJ rfl) hm) hm (by omega) rfl λs hs=>bG (aO (aJ rfl) (aO (aJ rfl) (aO (aJ rfl) bD))) (eE rfl (shc s hs S))
 have W1:WF (S++[.lst ((shs.map g).map bJ)]):=hS.snoc (Ep _ _);obtain⟨t,G1,ok,mk,W2,sc⟩:=Tn (K:=111) (S:=S++[.lst ((shs.map g).map bJ)]) (S0:=S) (σ:=dw (some (.int mo)) (some (.ref m)) (some (pD o)) (some (pD d)) c (some (dO (fV o d shs))) (some (.ref n)) (some (.int ce)) (some (.int (how:Nat))) ot ry none) W1 (jw hT) cI (by rw[cW];omega) ok' (aO lc bD);have I2:gQ "in_order" (S++[O.lst ((shs.map g).map bJ)]++G1)=true:=jw (jw hI);have n2:(S++[O.lst ((shs.map g).map bJ)]++G1)[n]?=some (.lst ((iw o d shs shs.length).map aY)):=tW _ (fQ hn);have e2:S++[O.lst ((shs.map g).map bJ)]++G1=S++([O.lst ((shs.map g).map bJ)]++G1):=fB ..;generalize (S++[O.lst ((shs.map g).map bJ)]).length=c' at *
 generalize hS2:S++[O.lst ((shs.map g).map bJ)]++G1=S2 at *
 have fr:=Lx Xj Hj h0' (by decide) ok S2 c' W2 sc;rw[fm] at fr;obtain⟨k,G2,ev,W3,hk1,hk2⟩:=J0 Xj Hj h0' (by decide) ok (by rw[cW];omega) W2 I2 sc;rw[cW,dm] at hk2;refine⟨some (.ref c'),some (cj o' d'),[O.lst ((shs.map g).map bJ)]++G1++G2,?_,by rw[<-fB,<-e2];exact W3⟩;rw[<-fB,<-e2];have s1:LC (dw (some (.int mo)) (some (.ref m)) (some (pD o)) (some (pD d)) c (some (dO (fV o d shs))) (some (.ref n)) (some (.int ce)) (some (.int (how:Nat))) ot ry none) S=some (.nx,dw (some (.int mo)) (some (.ref m)) (some (pD o)) (some (pD d)) c (some (dO (fV o d shs))) (some (.ref n)) (some (.int ce)) (some (.int (how:Nat))) (some (.ref c')) ry none,S2):=by unfold LC;exact c7 mk (cO rfl)
 have s2:LK (dw (some (.int mo)) (some (.ref m)) (some (pD o)) (some (pD d)) c (some (dO (fV o d shs))) (some (.ref n)) (some (.int ce)) (some (.int (how:Nat))) (some (.ref c')) ry none) S2=some (.nx,dw (some (.int mo)) (some (.ref m)) (some (pD o)) (some (pD d)) c (some (dO (fV o d shs))) (some (.ref n)) (some (.int ce)) (some (.int (how:Nat))) (some (.ref c')) (some (cj o' d')) none,S2):=by unfold LK;exact c7 (bG (aO (bG (aO (aJ rfl) (aO (aJ rfl) (aO (aJ rfl) (aO bA bD)))) (eE rfl (rO S2))) (aO (bG (aO (aJ rfl) (aO (aJ rfl) (aO (aJ rfl) (aO bA bD)))) (eE rfl (Bv S2))) bD)) (jb (by show 2<=sizeLine;decide))) (cO rfl)
 have s3:LQ (dw (some (.int mo)) (some (.ref m)) (some (pD o)) (some (pD d)) c (some (dO (fV o d shs))) (some (.ref n)) (some (.int ce)) (some (.int (how:Nat))) (some (.ref c')) (some (cj o' d')) none) S2=some (.nx,dw (some (.int mo)) (some (.ref m)) (some (pD o)) (some (pD d)) c (some (dO (fV o d shs))) (some (.ref n)) (some (.int ce)) (some (.int (how:Nat))) (some (.ref c')) (some (cj o' d')) none,S2++G2):=by unfold LQ;exact eZ (b:=false) (q8 (b:=false) (fP (aW (tX (aJ rfl) sc.ins rfl (aO (aJ rfl) bD) rfl fr) (aJ rfl) (Zj _ _))) (fG rfl (fP (aW (tX (aJ rfl) sc.ins rfl (aO (aJ rfl) bD) rfl ev) (aJ rfl) (RQ hk2 (tW _ n2)))))) (fG rfl eX)
 unfold Gu;exact aM s1 (aU (aM s2 (aU (aM s3 (aU eX)))))
end
theorem Tg{α:Type}{nx:Nat->So->Option (Option D)}{fe:EF}{S:So}{rest:Sg}(qs:List α)(x y g:α->D)(hnx:∀i:Nat,nx i S=some ((qs.map λq=>D.tup [x q,y q])[i]?))(hstep:∀q∈qs,fe (some (x q)::some (y q)::rest) S=some (g q,S)):
 ∀(n i:Nat) (v w:Option D) (acc:List D),i+n=qs.length->jx nx (jy 2 (dY (aK 0) (dY (aK 1) jO))) cZ fe n i (v::w::rest) S acc=some (acc++(qs.drop i).map g,S)
 |0,i,v,w,acc,h=>by rw[zN (by rw[hnx,j9 (by simp;omega)]),List.drop_of_length_le (by omega)];simp
 |n+1,i,v,w,acc,h=>by
  have hi:i<qs.length:=by omega
  have e:(qs.map λq=>D.tup [x q,y q])[i]?=some (.tup [x qs[i],y qs[i]]):=by simp[hi]
  refine(vq (by rw[hnx,e]) (Eu rfl (vM (cO rfl) (vM (cO rfl) FJ))) vB (hstep _ (List.getElem_mem hi)) rfl (Tg qs x y g hnx hstep n (i+1) (some (x qs[i])) (some (y qs[i])) (acc++[g qs[i]]) (by omega))).trans ?_;rw[List.drop_eq_getElem_cons hi,jd,fB];rfl
theorem zk4{α:Type}{fi:IF}(qs:List α)(x y g:α->D)(h1:fi σ S=some (.lst n,S1))(hn:S1[n]?=some (.lst (qs.map λq=>D.tup [x q,y q])))(hl:qs.length<=1000)(hτ:nH src σ=none::none::rest)(hstep:∀q∈qs,fe (some (x q)::some (y q)::rest) S1=some (g q,S1)):dD fi (jy 2 (dY (aK 0) (dY (aK 1) jO))) cZ fe src σ S=some (.ref S1.length,S1++[.lst (qs.map g)]):=by
 have key:=Tg (nx:=dG (.lst n)) (S:=S1) (rest:=rest) (fe:=fe) qs x y g (λi=>by unfold dG;simp only;rw[hn]) hstep qs.length 0 none none [] (by omega);refine qX (n:=qs.length) h1 ?_ (by rw[sizeLine_eq];omega) hτ ?_
 .show(match S1[n]? with|some (.lst xs)=>some xs.length|some (.frz xs)=>some xs.length|_=>none)=_;rw[hn];simp
 .rw[key];simp
end MX.P
end
end
section
local macro_rules | `(tactic| wtm_at "?d") => `(tactic| (with_reducible assumption))
namespace MX.K26
open PySem PySem.Spec L2 MX MX.P
section
variable {o d:Pt}(bo:aP 111 o)(bd:aP 80 d)(h0:d≠(0,0,0)){shs:List Sh}(hl:shs.length<=30){t:Option Tr}(ok:u5 111 shs t){S:So}{m n c:Nat}
include bo bd h0 ok in
def Yb{h:cg}(hh:h∈iw o d shs shs.length):uL 454 h:=by obtain⟨_,_,e⟩:=qe h0 hh;exact(IW bo (bd.le (by decide)) h0 ok e).1
include bo bd h0 hl ok in
theorem longer(hS:WF S)(hI:gQ "in_order" S=true)(sc:jm S c shs t)(hn:S[n]?=some (.lst ((iw o d shs shs.length).map aY))){tm:Int}(t0:0<tm)(bt:Bd 11 tm)(mo ml du ce how ot ry:Option D):
 ∃qu S1 G,Gq (dw mo ml (some (pD o)) (some (pD d)) (some (.ref c)) du (some (.ref n)) ce how ot ry (some (.int tm))) S=some (.nx,dw mo ml (some (pD o)) (some (pD d)) (some (.ref c)) du (some (.ref n)) ce how ot qu (some (.int tm)),S1)/\Gs (dw mo ml (some (pD o)) (some (pD d)) (some (.ref c)) du (some (.ref n)) ce how ot qu (some (.int tm))) S1=some (.nx,dw mo ml (some (pD o)) (some (pD d)) (some (.ref c)) du (some (.ref n)) ce how ot qu (some (.int tm)),S++G)/\WF (S++G):=by
 have h0':ir tm d≠(0,0,0):=QT (how:=1) (f:=(0,0,0)) t0 h0;have Hj:aP 111 (ir tm d):=⟨(bt.mul bd.1).le (by decide),(bt.mul bd.2.1).le (by decide),(bt.mul bd.2.2).le (by decide)⟩
 have mk:∀x,Bd 80 x->cQ tm x=true:=λx bx=>qg bt bx (by decide);have lc:dD (d9 (aj 4)) (aK 0) cZ (eB (aN .Mult) (aj 1) (aj 0)) [none,some 12] (dw mo ml (some (pD o)) (some (pD d)) (some (.ref c)) du (some (.ref n)) ce how ot ry (some (.int tm))) S=some (.ref S.length,S++[.lst ([d.1,d.2.1,d.2.2].map λx=>D.int (tm*x))]):=by
  refine Kc [d.1,d.2.1,d.2.2] D.int (λx=>D.int (tm*x)) (FN (aJ rfl)) (by show 3<=1000;decide) rfl λx hx=>aW (aJ rfl) (aJ rfl) (yc (mk x ?_));simp only[List.mem_cons,lN,or_false] at hx;rcases hx with rfl|rfl|rfl
  .exact bd.1
  .exact bd.2.1
  .exact bd.2.2
 have s10:Gq (dw mo ml (some (pD o)) (some (pD d)) (some (.ref c)) du (some (.ref n)) ce how ot ry (some (.int tm))) S=some (.nx,dw mo ml (some (pD o)) (some (pD d)) (some (.ref c)) du (some (.ref n)) ce how ot (some (cj o (ir tm d))) (some (.int tm)),S++[.lst ([d.1,d.2.1,d.2.2].map λx=>D.int (tm*x))]):=by unfold Gq;exact c7 (bG (aO (aJ rfl) (aO (bG (aO lc bD) (yF cI)) bD)) (jb (by show 2<=sizeLine;decide))) (cO rfl)
 have W1:WF (S++[.lst ([d.1,d.2.1,d.2.2].map λx=>D.int (tm*x))]):=hS.snoc rfl;have rO:=sc.app [.lst ([d.1,d.2.1,d.2.2].map λx=>D.int (tm*x))];have I1:gQ "in_order" (S++[O.lst ([d.1,d.2.1,d.2.2].map λx=>D.int (tm*x))])=true:=jw hI;have n1:(S++[O.lst ([d.1,d.2.1,d.2.2].map λx=>D.int (tm*x))])[n]?=some (.lst ((iw o d shs shs.length).map aY)):=fQ hn;have db:=λh hh=>Yb bo bd h0 ok (h:=h) hh;have dg:=λh hh=>(qe (shs:=shs) (o:=o) h0 (j:=shs.length) (h:=h) hh).1;have ds:=zmK (o:=o) t0 h0 h0' shs;have ll:(iw o d shs shs.length).length<=30:=by have l2:=(tV o d shs shs.length).length_eq;have l3:=List.length_filterMap_le (cL o d shs) (List.range shs.length);rw[List.length_range] at l3;omega
 generalize hS1:S++[O.lst ([d.1,d.2.1,d.2.2].map λx=>D.int (tm*x))]=S1 at *
 obtain⟨k,G2,ev,W2,hk1,hk2⟩:=J0 bo Hj h0' (by decide) ok (by omega) W1 I1 rO;rw[ds] at hk2;have n2:(S1++G2)[n]?=some (.lst ((iw o d shs shs.length).map λq=>D.tup [rD q.1,aZ q.2])):=tW _ n1;generalize iw o d shs shs.length=dl at *
 have lc2:dD (d9 (aj 7)) (jy 2 (dY (aK 0) (dY (aK 1) jO))) cZ (eN bL (ak (eN (aR 2 Gv) (ak (eB aH (aj 0) (eC (.int 0))) (ak (eB (aN .Mult) (eB aH (aj 0) (eC (.int 1))) (aj 2)) aB))) (ak (aj 1) aB))) [none,none,some 12] (dw mo ml (some (pD o)) (some (pD d)) (some (.ref c)) du (some (.ref n)) ce how ot (some (cj o (ir tm d))) (some (.int tm))) (S1++G2)=some (.ref (S1++G2).length,S1++G2++[.lst (dl.map λh=>aY (lg tm h))]):=by refine zk4 dl (λh=>rD h.1) (λh=>aZ h.2) (λh=>aY (lg tm h)) (oN (aJ rfl) n2) n2 (by omega) rfl λh hh=>?_;have b:=db h hh;have p:=(dg h hh).1;have rt:=zgT (k:=500) (a:=h.1.1) (b:=h.1.2*tm) (by have:=Int.mul_pos p t0;omega) (b.a.le (by decide)) ((b.b.mul bt).le (by decide)) (by decide) (S1++G2);exact bG (aO (bG (aO (aW (aJ rfl) bA (dX rfl)) (aO (aW (aW (aJ rfl) bA (dX rfl)) (aJ rfl) (yc (qg b.b bt (by decide)))) bD)) (eE rfl rt)) (aO (aJ rfl) bD)) (jb (by show 2<=sizeLine;decide))
 rw[List.map_map] at hk2;have k3:(S1++G2++[O.lst (dl.map λh=>aY (lg tm h))])[k]?=some (.lst ((dl.map (lg tm)).map aY)):=by rw[List.map_map];exact fQ hk2
 have k4:(S1++G2++[O.lst (dl.map λh=>aY (lg tm h))])[(S1++G2).length]?=some (.lst ((dl.map (lg tm)).map aY)):=by rw[List.map_map];exact cI
 have WT:Gs (dw mo ml (some (pD o)) (some (pD d)) (some (.ref c)) du (some (.ref n)) ce how ot (some (cj o (ir tm d))) (some (.int tm))) S1=some (.nx,dw mo ml (some (pD o)) (some (pD d)) (some (.ref c)) du (some (.ref n)) ce how ot (some (cj o (ir tm d))) (some (.int tm)),S1++G2++[.lst (dl.map λh=>aY (lg tm h))]):=by unfold Gs;exact eZ (b:=false) (fP (aW (tX (aJ rfl) rO.ins rfl (aO (aJ rfl) bD) rfl ev) lc2 (RQ k3 k4))) (fG rfl eX)
 have lo:O.lo (S1++G2).length (.lst (dl.map λh=>aY (lg tm h)))=true:=by
  have:=yp (S1++G2).length (dl.map (lg tm))
  rwa [List.map_map] at this
 have eG:S1++G2++[O.lst (dl.map λh=>aY (lg tm h))]=S++([O.lst ([d.1,d.2.1,d.2.2].map λx=>D.int (tm*x))]++G2++[O.lst (dl.map λh=>aY (lg tm h))]):=by rw[<-hS1];simp only[fB]
 rw[eG] at WT;exact⟨some (cj o (ir tm d)),S1,_,s10,WT,by rw[<-eG];exact W2.snoc lo⟩
include bo bd h0 ok in
theorem further(Qi:aP 80 o)(hS:WF S)(sc:jm S c shs t){h:cg}(e:fV o d shs=some h)(h1:h.1.2<=h.1.1)(mo ml al ce how ot ry tm:Option D):
 ∃σ' S',aC Aq (aC Lg aQ) (dw mo ml (some (pD o)) (some (pD d)) (some (.ref c)) (some (aY h)) al ce how ot ry tm) S=some (.rt (.bl true),σ',S'):=by
 have bo2:aP 111 (iK d o):=⟨(Qi.1.add bd.1).le (by decide),(Qi.2.1.add bd.2.1).le (by decide),(Qi.2.2.add bd.2.2).le (by decide)⟩
 have lc:dD (lR (ak (eC (.int 3)) aB)) (aK 0) cZ (eB (aN .Add) (eB aH (aj 1) (aj 0)) (eB aH (aj 2) (aj 0))) [none,some 3,some 4] (dw mo ml (some (pD o)) (some (pD d)) (some (.ref c)) (some (aY h)) al ce how ot ry tm) S=some (.ref S.length,S++[.lst ((List.range 3).map λx:Nat=>D.int (co (x:Int) o+co (x:Int) d))]) :=
  qX (n:=3) (Fj (j:=3) (aO bA bD) (by decide)) rfl (by decide) rfl (Rh (m:=3) (rest:=[some (pD o),some (pD d)]) (λx=>D.int (co (x:Int) o+co (x:Int) d)) λx hx=>aW (aW (aJ rfl) (aJ rfl) (dX (vp (by omega) (by omega) o))) (aW (aJ rfl) (aJ rfl) (dX (vp (by omega) (by omega) d))) zL)
 have s13:Aq (dw mo ml (some (pD o)) (some (pD d)) (some (.ref c)) (some (aY h)) al ce how ot ry tm) S=some (.nx,dw mo ml (some (pD o)) (some (pD d)) (some (.ref c)) (some (aY h)) al ce how ot (some (cj (iK d o) d)) tm,S++[.lst ((List.range 3).map λx:Nat=>D.int (co (x:Int) o+co (x:Int) d))]):=by unfold Aq;exact c7 (bG (aO (bG (aO lc bD) (yF cI)) (aO (aJ rfl) bD)) (jb (by show 2<=sizeLine;decide))) (cO rfl)
 have W1:WF (S++[.lst ((List.range 3).map λx:Nat=>D.int (co (x:Int) o+co (x:Int) d))]):=hS.snoc rfl;have rO:=sc.app [.lst ((List.range 3).map λx:Nat=>D.int (co (x:Int) o+co (x:Int) d))];have fr:=Lx bo2 (bd.le (by decide)) h0 (by decide) ok _ c W1 rO;rw[zjv h0 e h1] at fr;refine⟨_,_,aM s13 (aU (aM (fX ((aW (tX (aJ rfl) rO.ins rfl (aO (aJ rfl) bD) rfl fr) (bG (aO (bG (aO (aW (aW (aW (aJ rfl) bA (dX (z:=rD h.1) rfl)) bA (dX rfl)) (aW (aW (aJ rfl) bA (dX (z:=rD h.1) rfl)) bA (dX rfl)) Q5) (aO (aW (aW (aJ rfl) bA (dX (z:=rD h.1) rfl)) bA (dX rfl)) bD)) (jb (by show 2<=sizeLine;decide))) (aO (aW (aJ rfl) bA (dX (z:=aZ h.2) rfl)) bD)) (jb (by show 2<=sizeLine;decide))) (p8 (x:=aY (lE h)) (y:=aY (lE h)) rfl 2 rfl rfl (by decide))).trans (by rw[mj rfl]))) dW))⟩
end
theorem zmp:∀ns:List Int,ns.length<=63->∃σ' gq,Kg (m6 13 [.ref 0]) (.frz (ns.map D.int)::(["tree_over", "in_order"]:List Str).map O.tbl)=some (.rt (.bl true),σ',gq):=by
 intro ns hn;have F0:n8 ns (.frz (ns.map D.int)::(["tree_over", "in_order"]:List Str).map O.tbl):=rfl;have T0:∀x∈(["tree_over", "in_order"]:List Str),gQ x (.frz (ns.map D.int)::(["tree_over", "in_order"]:List Str).map O.tbl)=true:=by intro x hx;unfold gQ;rw[List.any_eq_true];exact⟨.tbl x,cM _ (List.mem_map.mpr ⟨x,hx,rfl⟩),decide_eq_true rfl⟩
 have Tt:=T0 "tree_over" (fL ..);have Ti:=T0 "in_order" (cM _ (List.mem_singleton.mpr rfl));have W0:WF (.frz (ns.map D.int)::(["tree_over", "in_order"]:List Str).map O.tbl):=by
  intro o ho;rcases List.mem_cons.mp ho with rfl|ho
  .show cV _ _=true;rw[mq];intro x hx;obtain⟨z,_,rfl⟩:=List.mem_map.mp hx;simp[D.lo]
  .obtain⟨y,_,rfl⟩:=List.mem_map.mp ho;rfl
 clear T0;generalize hS0:(.frz (ns.map D.int)::(["tree_over", "in_order"]:List Str).map O.tbl:So)=S0 at *
 have st0:m6 13 [.ref 0]=dw none none none none none none none none none none none none:=rfl;rw[st0];have c1:=rB hn 1 F0;have dr:=sp_drawn (ju ns 1) 61 S0;generalize Dz (ju ns 1) 61=mo at dr;generalize ju ns 1=ck at c1 dr;have m0:=oh mo (show(0:Int)<9 by decide);have m9:=tE mo (show(0:Int)<9 by decide);obtain⟨mm,hmm⟩:∃mm:Nat,mo.fmod 9=(mm:Nat):=⟨(mo.fmod 9).toNat,by omega⟩
 obtain⟨shs,hl,hk,lc⟩:=zoR hn mm (by omega);have e1:Li (dw none none none none none none none none none none none none) S0=some (.nx,dw (some (.int mo)) none none none none none none none none none none none,S0):=by unfold Li;exact c7 (bG (aO (bG (aO (aJ rfl) (aO bA bD)) (eE rfl c1)) (aO bA bD)) (eE rfl dr)) (cO rfl)
 have e2:Lj (dw (some (.int mo)) none none none none none none none none none none none) S0=some (.nx,dw (some (.int mo)) (some (.ref S0.length)) none none none none none none none none none none,S0++[.lst (shs.map bJ)]):=by unfold Lj;refine c7 (lc _ _ S0 F0 ?_ rfl) (cO rfl);rw[<-hmm];exact aO (aW (aJ rfl) bA (yh (by decide))) bD
 have W1:WF (S0++[.lst (shs.map bJ)]):=W0.snoc (Ep _ _);obtain⟨o,d,bo,bd,h0,er⟩:=zpU hn 40;have e3:Lk (dw (some (.int mo)) (some (.ref S0.length)) none none none none none none none none none none) (S0++[.lst (shs.map bJ)])=some (.nx,dw (some (.int mo)) (some (.ref S0.length)) (some (pD o)) (some (pD d)) none none none none none none none none,S0++[.lst (shs.map bJ)]):=by unfold Lk;exact c7 (bG (aO (aJ rfl) (aO bA bD)) (eE rfl (er _ (F0.app _)))) (Eu rfl (vM (cO rfl) (vM (cO rfl) FJ)))
 have hk':∀s∈shs,kI 111 s:=λs hs=>⟨λp hp=>((hk s hs).bd p hp).le (by decide),(hk s hs).2⟩
 obtain⟨t,G,ok,mk,W2,sc⟩:=Tn (K:=111) (S:=S0++[.lst (shs.map bJ)]) (S0:=S0++[.lst (shs.map bJ)]) (σ:=dw (some (.int mo)) (some (.ref S0.length)) (some (pD o)) (some (pD d)) none none none none none none none none) (fa:=ak (aj 2) aB) W1 (jw Tt) cI (by omega) hk' (aO (aJ rfl) bD);have sh2:(S0++[O.lst (shs.map bJ)]++G)[S0.length]?=some (.lst (shs.map bJ)):=tW _ cI;have F2:n8 ns (S0++[O.lst (shs.map bJ)]++G):=(F0.app _).app _;have Tt2:gQ "tree_over" (S0++[O.lst (shs.map bJ)]++G)=true:=jw (jw Tt);have Xm:gQ "in_order" (S0++[O.lst (shs.map bJ)]++G)=true:=jw (jw Ti);generalize hc:(S0++[O.lst (shs.map bJ)]).length=c at *
 generalize hm:S0.length=m at *
 generalize hS2:S0++[O.lst (shs.map bJ)]++G=S2 at *
 have Hi:aP 111 o:=bo.le (by decide);have Xk:aP 111 d:=bd.le (by decide);have Qj:aP 80 d:=bd.le (by decide);have fr:=Lx Hi Xk h0 (by decide) ok S2 c W2 sc;have e5:Ln (dw (some (.int mo)) (some (.ref m)) (some (pD o)) (some (pD d)) (some (.ref c)) none none none none none none none) S2=some (.nx,dw (some (.int mo)) (some (.ref m)) (some (pD o)) (some (pD d)) (some (.ref c)) (some (dO (fV o d shs))) none none none none none none,S2):=by unfold Ln;exact c7 (tX (aJ rfl) sc.ins rfl (aO (bG (aO (aJ rfl) (aO (aJ rfl) bD)) (jb (by show 2<=sizeLine;decide))) bD) rfl fr) (cO rfl)
 obtain⟨n,G3,ev,W3,hn1,hn2⟩:=J0 Hi Xk h0 (by decide) ok (by omega) W2 Xm sc;have e6:Lp (dw (some (.int mo)) (some (.ref m)) (some (pD o)) (some (pD d)) (some (.ref c)) (some (dO (fV o d shs))) none none none none none none) S2=some (.nx,dw (some (.int mo)) (some (.ref m)) (some (pD o)) (some (pD d)) (some (.ref c)) (some (dO (fV o d shs))) (some (.ref n)) none none none none none,S2++G3):=by unfold Lp;exact c7 (tX (aJ rfl) sc.ins rfl (aO (bG (aO (aJ rfl) (aO (aJ rfl) bD)) (jb (by show 2<=sizeLine;decide))) bD) rfl ev) (cO rfl)
 have F3:=F2.app G3;have sc3:=sc.app G3;have Tt3:gQ "tree_over" (S2++G3)=true:=jw Tt2;have Xl:gQ "in_order" (S2++G3)=true:=jw Xm;have sh3:(S2++G3)[m]?=some (.lst (shs.map bJ)):=tW _ sh2;generalize uy:S2++G3=S3 at *
 have c2:=rB hn 2 F3;generalize ju ns 2=ce at c2;have e7:Lq (dw (some (.int mo)) (some (.ref m)) (some (pD o)) (some (pD d)) (some (.ref c)) (some (dO (fV o d shs))) (some (.ref n)) none none none none none) S3=some (.nx,dw (some (.int mo)) (some (.ref m)) (some (pD o)) (some (pD d)) (some (.ref c)) (some (dO (fV o d shs))) (some (.ref n)) (some (.int ce)) none none none none,S3):=by unfold Lq;exact c7 (bG (aO (aJ rfl) (aO bA bD)) (eE rfl c2)) (cO rfl)
 have inv:=FP (nx:=dG (.fix (jt 0 5))) (g:=aK 9) (f:=Gu) (xs:=jt 0 5)
  (λj σ S'=>∃how ot ry G,σ=dw (some (.int mo)) (some (.ref m)) (some (pD o)) (some (pD d)) (some (.ref c)) (some (dO (fV o d shs))) (some (.ref n)) (some (.int ce)) how ot ry none/\S'=S3++G/\WF (S3++G))
  (λj σ S' _=>rfl)
  (λj dd σ S' hj ⟨how,ot,ry,G,e1,e2,e3⟩=>?_) 5 0 (dw (some (.int mo)) (some (.ref m)) (some (pD o)) (some (pD d)) (some (.ref c)) (some (dO (fV o d shs))) (some (.ref n)) (some (.int ce)) none none none none) S3 ⟨none,none,none,[],rfl,by simp,by simpa using W3⟩ (by simp[jt])
 .obtain⟨σ',S',e8,how,ot,ry,G,rfl,rfl,W4⟩:=inv;have WQ:=sc3.app G;have Ti4:gQ "in_order" (S3++G)=true:=jw Xl;have n4:(S3++G)[n]?=some (.lst ((iw o d shs shs.length).map aY)):=tW _ hn2;have e8':Lr (dw (some (.int mo)) (some (.ref m)) (some (pD o)) (some (pD d)) (some (.ref c)) (some (dO (fV o d shs))) (some (.ref n)) (some (.int ce)) none none none none) S3=some (.nx,dw (some (.int mo)) (some (.ref m)) (some (pD o)) (some (pD d)) (some (.ref c)) (some (dO (fV o d shs))) (some (.ref n)) (some (.int ce)) how ot ry none,S3++G):=by unfold Lr;exact qY (n:=5) (Fj (j:=5) (aO bA bD) (by decide)) rfl e8
  generalize S3++G=S4 at *
  have tm0:=oh (mo.fdiv 9) (show(0:Int)<1000 by decide);have bt:Bd 11 (1+(mo.fdiv 9).fmod 1000):=((show Bd 1 1 by unfold Bd;decide).add (Bd.fmod (x:=mo.fdiv 9) (m:=1000) (by decide))).le (by decide);have e9:Ls (dw (some (.int mo)) (some (.ref m)) (some (pD o)) (some (pD d)) (some (.ref c)) (some (dO (fV o d shs))) (some (.ref n)) (some (.int ce)) how ot ry none) S4=some (.nx,dw (some (.int mo)) (some (.ref m)) (some (pD o)) (some (pD d)) (some (.ref c)) (some (dO (fV o d shs))) (some (.ref n)) (some (.int ce)) how ot ry (some (.int (1+(mo.fdiv 9).fmod 1000))),S4):=by unfold Ls;exact c7 (aW bA (aW (aW (aJ rfl) bA (p7 (by decide))) bA (yh (by decide))) zL) (cO rfl)
  generalize htm:1+(mo.fdiv 9).fmod 1000=tm at *
  obtain⟨qu,S9,G5,e10,e11,W5⟩:=longer Hi Qj h0 hl ok W4 Ti4 WQ n4 (tm:=tm) (by omega) bt (some (.int mo)) (some (.ref m)) (some (dO (fV o d shs))) (some (.int ce)) how ot ry;have sc5:=WQ.app G5;generalize S4++G5=S5 at *
  have rest:∃σ' gq,aC V4 (aC Aq (aC Lg aQ)) (dw (some (.int mo)) (some (.ref m)) (some (pD o)) (some (pD d)) (some (.ref c)) (some (dO (fV o d shs))) (some (.ref n)) (some (.int ce)) how ot qu (some (.int tm))) S5=some (.rt (.bl true),σ',gq):=by
   cases ef:fV o d shs with
   |none=>exact⟨_,_,aM (eZ (b:=true) (q8 (b:=true) (fP (aW (aJ rfl) bA p6)) (gG rfl rfl)) (gG rfl (aM (fX bA) dW))) dW⟩
   |some h =>
    have lt:∀b,decide (h.1.1<h.1.2)=b->jD (bI (eB (aV .Is) (aj 6) (eC .non))) (bI (eB (aV .Lt) (eB aH (eB aH (aj 6) (eC (.int 0))) (eC (.int 0))) (eB aH (eB aH (aj 6) (eC (.int 0))) (eC (.int 1))))) (dw (some (.int mo)) (some (.ref m)) (some (pD o)) (some (pD d)) (some (.ref c)) (some (aY h)) (some (.ref n)) (some (.int ce)) how ot qu (some (.int tm))) S5=some (b,S5):=λb e =>
     q8 (b:=false) (fP (aW (aJ rfl) bA p6)) (fG rfl (fP ((aW (aW (aW (aJ rfl) bA (dX (z:=rD h.1) rfl)) bA (dX rfl)) (aW (aW (aJ rfl) bA (dX (z:=rD h.1) rfl)) bA (dX rfl)) Im).trans (by rw[e]))))
    by_cases hlt:h.1.1<h.1.2
    .exact⟨_,_,aM (eZ (lt true (decide_eq_true hlt)) (gG rfl (aM (fX bA) dW))) dW⟩
    .obtain⟨σ',gq,e13⟩:=further Hi Qj h0 ok (bo.le (by decide)) W5 sc5 ef (by omega) (some (.int mo)) (some (.ref m)) (some (.ref n)) (some (.int ce)) how ot qu (some (.int tm));exact⟨σ',gq,aM (eZ (lt false (decide_eq_false hlt)) (fG rfl eX)) (aU e13)⟩
  obtain⟨σ',gq,er⟩:=rest;refine⟨σ',gq,?_⟩;unfold Kg;refine aM e1 (aU (aM e2 (aU (aM e3 (aU (aM (c7 mk (cO rfl)) (aU (aM e5 (aU (aM e6 (aU (aM e7 (aU (aM e8' (aU (aM e9 (aU ?_)))))))))))))))));exact aM e10 (aU (aM e11 (aU er)))
 .subst e1 e2;have hj':j<5:=by have:=(fO.mp hj).1;simpa[jt] using this
  have hd':dd = .int (j:Nat):=by rw[KN,if_pos hj'] at hj;have:=(Option.some.inj hj).symm;rw[this];congr 1;omega
  subst hd';obtain⟨WY,qu,G',e,w⟩:=vR (bo.le (by decide)) Qj h0 hk hl e3 (jw Tt3) (jw Xl) (tW G sh3) (tW G hn2) ce hj' mo (some (.ref c)) ot ry;exact⟨_,_,.nx,_,_,cO rfl,e,.inl rfl,_,_,_,G++G',rfl,fB ..,by rw[<-fB];exact w⟩
end MX.K26
end
section
local macro_rules | `(tactic| wtm_at "sc") => `(tactic| exact ⟨rfl, rfl, rfl, by decide +kernel, by kernel_rfl, by decide +kernel, by decide +kernel⟩)
local macro_rules | `(tactic| wtm_at "nf") => `(tactic| exact ⟨by first | exact MX.zuF λ_ _ _ _ _ _ _ => rfl | exact MX.bind2 λ_ _ _ _ _ _ _ _ => rfl | exact MX.bind3 λ_ _ _ _ _ _ _ _ _ => rfl | exact MX.bind4 λ_ _ _ _ _ _ _ _ _ _ => rfl, by wtm_at "sc", by decide +kernel, by kernel_rfl, by kernel_rfl⟩)
namespace MX.K26
open PySem PySem.Spec PySem.W PyProof.Rows L2 MX MX.P
noncomputable abbrev LF:=List (Str×Nat×GN)
noncomputable abbrev F0:LF:=[]
noncomputable abbrev E0:CE:={ flds:=[("kept", "Scene"),("tree", "Scene"),("box", "Tree"),("number", "Tree"),("halves", "Tree")],gls:=[] }
section
variable {w:World}{K:FgA}{mg:Str->Option Value}{base h:Heap}{k n:Nat}{x:Str}{F:LF}{E:CE}{fb:SF}
noncomputable abbrev AA(w:World)(K:FgA)(mg:Str->Option Value)(base:Heap)(k:Nat)(F:LF)(E:CE):Prop:=cG PG w K mg base k F/\gA PG w K mg base k E
theorem nf(st:Stmt)(ps:List Str)(a:AA w K mg base k F E)(b:K.In h/\h.Ns mainGlobals mg/\∀y∈blt,mg y=none)(hD:fu K x st)(p:pQ x st ps/\oM (iI (b7 st).names) ps (b7 st)/\(b7 st).names.all (λy=>decide ((b7 st).names.lookup y.1=some y.2))=true/\(iI (b7 st).names).length=n/\jH 40 (pP st F blt E) (iQ st)=some fb):AA w K mg base (k+1) ((x,ps.length,fnOf n fb)::F) E :=
 ⟨zmC a.1 a.2 b.1 b.2.1 b.2.2 hD p.1 p.2.1 p.2.2.1 p.2.2.2.1 p.2.2.2.2,a.2.mono (Nat.le_succ k)⟩
theorem nt{c:Addr}(a:AA w K mg base k F E)(b:K.In h/\h.Ns mainGlobals mg/\∀y∈blt,mg y=none)(hD:tM K "tree_over" (top 36) c)(hC:CodeHd base c (iZ K "tree_over"))(hB:BM base mg)(hb:jH 40 (rZ 40 (top 36) F blt E "leaf") (iQ (top 36))=some fb:=by kernel_rfl):AA w K mg base (k+4) (("tree_over",1,oG "tree_over" 5 fb)::F) E :=
 ⟨Uj (ps:=["leaves"]) a.1 a.2 b.1 b.2.1 b.2.2 hD hC hB (zuF λ_ _ _ _ _ _ _=>rfl) (by exact⟨rfl,rfl,rfl,by decide +kernel,by kernel_rfl,by decide +kernel,by decide +kernel⟩) (by decide +kernel) (λ_ _ _ _ _ _ _ _ _=>rfl) (by kernel_rfl) hb,a.2.mono (Nat.le_add_right k 4)⟩
theorem zhO{c:Addr}(a:AA w K mg base k F E)(b:K.In h/\h.Ns mainGlobals mg/\∀y∈blt,mg y=none)(hD:tM K "in_order" (top 41) c)(hC:CodeHd base c (iZ K "in_order"))(hB:BM base mg)(hb:jH 40 (rZ 40 (top 41) F blt E "hit") (iQ (top 41))=some fb:=by kernel_rfl):AA w K mg base (k+4) (("in_order",1,oG "in_order" 3 fb)::F) E :=
 ⟨Uj (ps:=["hits"]) a.1 a.2 b.1 b.2.1 b.2.2 hD hC hB (zuF λ_ _ _ _ _ _ _=>rfl) (by exact⟨rfl,rfl,rfl,by decide +kernel,by kernel_rfl,by decide +kernel,by decide +kernel⟩) (by decide +kernel) (λ_ _ _ _ _ _ _ _ _=>rfl) (by kernel_rfl) hb,a.2.mono (Nat.le_add_right k 4)⟩
end
noncomputable abbrev F1:LF:=("_law_drawn",2,Av)::F0
noncomputable abbrev F2:LF:=("_law_cell",2,qj)::F1
noncomputable abbrev F3:LF:=("_law_spot",1,t7)::F2
noncomputable abbrev F4:LF:=("_law_plain",2,MJ)::F3
noncomputable abbrev F5:LF:=("_law_put",2,Ai)::F4
noncomputable abbrev F6:LF:=("_law_shape",2,vP)::F5
noncomputable abbrev F7:LF:=("_law_ray",2,Mx)::F6
noncomputable abbrev E1:CE:={ E0 with mks:=("Tree",4,yN)::E0.mks }
noncomputable abbrev F8:LF:=("numbers_at",2,Gw)::F7
noncomputable abbrev F9:LF:=("box_around",1,yJ)::F8
noncomputable abbrev F10:LF:=("widest_place",1,Mi)::F9
noncomputable abbrev F11:LF:=("tree_over",1,λ_ _=>none)::F10
noncomputable abbrev F12:LF:=("tree_over",1,jE 1)::F11
noncomputable abbrev F13:LF:=("tree_over",1,jE 2)::F12
noncomputable abbrev F14:LF:=("tree_over",1,jE 3)::F13
noncomputable abbrev F15:LF:=("tree_over",1,jE 4)::F14
noncomputable abbrev F16:LF:=("tree_over",1,jE 5)::F15
noncomputable abbrev F17:LF:=("tree_over",1,jE 6)::F16
noncomputable abbrev F18:LF:=("tree_about",1,Gx)::F17
noncomputable abbrev F19:LF:=("are_in_order",2,Mh)::F18
noncomputable abbrev F20:LF:=("is_shape",1,yL)::F19
noncomputable abbrev F21:LF:=("refuse_no_shape",1,Nm)::F20
noncomputable abbrev F22:LF:=("bounds",1,vG)::F21
noncomputable abbrev E2:CE:={ E1 with mks:=("Scene",2,Bc)::E1.mks }
noncomputable abbrev F23:LF:=("refuse_standing",1,MN)::F22
noncomputable abbrev F24:LF:=("times_between",4,M7)::F23
noncomputable abbrev F25:LF:=("is_less",2,tY)::F24
noncomputable abbrev F26:LF:=("span_in",2,vN)::F25
noncomputable abbrev F27:LF:=("numbers_along",2,GC)::F26
noncomputable abbrev F28:LF:=("common_divisor",2,GD)::F27
noncomputable abbrev F29:LF:=("lowest_terms",1,t6)::F28
noncomputable abbrev F30:LF:=("meets_box",2,K9)::F29
noncomputable abbrev F31:LF:=("cross",2,jF)::F30
noncomputable abbrev F32:LF:=("way_between",2,fD)::F31
noncomputable abbrev F33:LF:=("edges_of",1,vL)::F32
noncomputable abbrev F34:LF:=("dot",2,gj)::F33
noncomputable abbrev F35:LF:=("meets_along",3,Mz)::F34
noncomputable abbrev F36:LF:=("meets_segment",3,Nx)::F35
noncomputable abbrev F37:LF:=("meets_edges",2,yK)::F36
noncomputable abbrev F38:LF:=("goes_through",3,qt)::F37
noncomputable abbrev F39:LF:=("meets_within_plane",3,yQ)::F38
noncomputable abbrev F40:LF:=("meets_triangle",2,nR)::F39
noncomputable abbrev F41:LF:=("time_at",2,Ag)::F40
noncomputable abbrev E3:CE:={ E2 with mths:=("hits", "Scene",2,Ah)::E2.mths }
noncomputable abbrev F42:LF:=("is_sooner",2,Gy)::F41
noncomputable abbrev E4:CE:={ E3 with mths:=("first", "Scene",2,Am)::E3.mths }
noncomputable abbrev F43:LF:=("in_order",1,Gf)::F42
noncomputable abbrev E5:CE:={ E4 with mths:=("every", "Scene",2,Al)::E4.mths }
noncomputable abbrev F44:LF:=("_law_changed",4,oR)::F43
noncomputable abbrev F45:LF:=("_law_shape_changed",3,GQ)::F44
noncomputable abbrev F46:LF:=("_law_ratio",2,Gv)::F45
theorem call:WalkO seen loose (λ_ _=>True) (zsT xb ms defs blt ts).says PySem.Challenge.rw_firsthit_k26_whole_moved_and_turned.row.toRowW lawRec [] λf vs=>PySem.call f vs:=by
 refine ziV (k:=74) (x := "_law_script") rfl rfl ⟨rfl,by decide,by decide⟩ ?F
 case F =>
  intro w mg fa h K KX G hmg hD hB0 hM hX hT;have H:∀i (h:i<defs.length),fu K (defs[i]).1 (defs[i]).2:=λi h=>hD _ (List.getElem_mem h);have M:∀i (h:i<ms.length),iy K (ms[i]).1 (ms[i]).2.1 (ms[i]).2.2:=λi h=>hM _ (List.getElem_mem h);have hb:=zmV KX G hB0;unfold xb at hX;simp only[dh] at hX;obtain⟨⟨iT,eF⟩,Ny⟩:=hX;obtain⟨c0,z0,hC0⟩:=hT ("tree_over",top 36) (by simp[ts]);obtain⟨c1,z1,hC1⟩:=hT ("in_order",top 41) (by simp[ts]);have hs:∀base:Heap,Mod K mg base->BM base mg->AA w K mg base 73 F46 E5:=λbase hMd hB=>by
   have z:=z0;have hC:=hC0 base hMd.kin;have e0:gA PG w K mg base 0 E0:=X4 KX G (λy hy=>by
    simp only[List.mem_cons,lN,or_false] at hy;rcases hy with rfl|rfl|rfl|rfl|rfl
    .exact⟨_,eF,by decide⟩
    .exact⟨_,eF,by decide⟩
    .exact⟨_,iT,by decide⟩
    .exact⟨_,iT,by decide⟩
    .exact⟨_,iT,by decide⟩) (λy hy=>by
    cases hy)
   have b:K.In h/\h.Ns mainGlobals mg/\∀y∈blt,mg y=none:=⟨KX,G,hb⟩
   have a:AA w K mg base 0 F0 E0:=⟨cG.nil,e0⟩
   have a:AA w K mg base 1 F1 E0:=nf (top 45) ["_law_cell_here", "_law_k"] a b (H 0 (by decide)) (by wtm_at "nf");have a:AA w K mg base 2 F2 E0:=nf (top 44) ["_law_script", "_law_k"] a b (H 1 (by decide)) (by wtm_at "nf");have a:AA w K mg base 3 F3 E0:=nf (top 46) ["_law_more"] a b (H 2 (by decide)) (by wtm_at "nf");have a:AA w K mg base 4 F4 E0:=nf (top 48) ["_law_script", "_law_k"] a b (H 3 (by decide)) (by wtm_at "nf");have a:AA w K mg base 5 F5 E0:=nf (top 47) ["_law_point", "_law_cell_here"] a b (H 4 (by decide)) (by wtm_at "nf");have a:AA w K mg base 6 F6 E0:=nf (top 49) ["_law_script", "_law_k"] a b (H 5 (by decide)) (by wtm_at "nf");have a:AA w K mg base 7 F7 E0:=nf (top 50) ["_law_script", "_law_k"] a b (H 6 (by decide)) (by wtm_at "nf");have a:AA w K mg base 9 F7 E1:=⟨a.1.mono (by decide),Tj (C := "Tree") (st:=qx 34 0) (ps:=["self", "box", "number", "halves"]) (n:=4) (fb:=Nf) (m:=40) a.1 a.2 hb (RB KX G iT) (QH (M 0 (by decide)) iT (by decide)) (λ_ _ _ _ _ _ us hl=>match us,hl with|[_,_,_,_],_=>rfl) (by wtm_at "sc") (by decide +kernel) (by kernel_rfl) (by kernel_rfl)⟩
   have a:AA w K mg base 10 F8 E1:=nf (top 13) ["points", "place"] a b (H 7 (by decide)) (by wtm_at "nf");have a:AA w K mg base 11 F9 E1:=nf (top 14) ["points"] a b (H 8 (by decide)) (by wtm_at "nf");have a:AA w K mg base 12 F10 E1:=nf (top 35) ["box"] a b (H 9 (by decide)) (by wtm_at "nf");have a:AA w K mg base 12 F11 E1:=⟨zmB (ps:=["leaves"]) a.1 KX G (let ⟨f,fd,a,F,_⟩:=z;⟨f,fd,a,F⟩) (zuF λ_ _ _ _ _ _ _=>rfl),a.2⟩
   have a:AA w K mg base 16 F12 E1:=nt (fb:=nU (jE 0)) a b z hC hB;have a:AA w K mg base 20 F13 E1:=nt (fb:=nU (jE 1)) a b z hC hB;have a:AA w K mg base 24 F14 E1:=nt (fb:=nU (jE 2)) a b z hC hB;have a:AA w K mg base 28 F15 E1:=nt (fb:=nU (jE 3)) a b z hC hB;have a:AA w K mg base 32 F16 E1:=nt (fb:=nU (jE 4)) a b z hC hB;have a:AA w K mg base 36 F17 E1:=nt (fb:=nU (jE 5)) a b z hC hB;have a:AA w K mg base 37 F18 E1:=nf (top 37) ["boxes"] a b (H 10 (by decide)) (by wtm_at "nf");have a:AA w K mg base 38 F19 E1:=nf (top 28) ["low", "high"] a b (H 11 (by decide)) (by wtm_at "nf");have a:AA w K mg base 39 F20 E1:=nf (top 29) ["shape"] a b (H 12 (by decide)) (by wtm_at "nf");have a:AA w K mg base 40 F21 E1:=nf (top 30) ["shape"] a b (H 13 (by decide)) (by wtm_at "nf");have a:AA w K mg base 41 F22 E1:=nf (top 32) ["shape"] a b (H 14 (by decide)) (by wtm_at "nf");have a:AA w K mg base 43 F22 E2:=⟨a.1.mono (by decide),Tj (C := "Scene") (st:=qx 42 0) (ps:=["self", "shapes"]) (n:=2) (fb:=Nh) (m:=40) a.1 a.2 hb (RB KX G eF) (QH (M 1 (by decide)) eF (by decide)) (λ_ _ _ _ _ _ us hl=>match us,hl with|[_,_],_=>rfl) (by wtm_at "sc") (by decide +kernel) (by kernel_rfl) (by kernel_rfl)⟩
   have a:AA w K mg base 44 F23 E2:=nf (top 27) ["ray"] a b (H 15 (by decide)) (by wtm_at "nf");have a:AA w K mg base 45 F24 E2:=nf (top 15) ["start", "step", "low", "high"] a b (H 16 (by decide)) (by wtm_at "nf");have a:AA w K mg base 46 F25 E2:=nf (top 8) ["one", "other"] a b (H 17 (by decide)) (by wtm_at "nf");have a:AA w K mg base 47 F26 E2:=nf (top 16) ["ray", "box"] a b (H 18 (by decide)) (by wtm_at "nf");have a:AA w K mg base 48 F27 E2:=nf (top 38) ["tree", "ray"] a b (H 19 (by decide)) (by wtm_at "nf");have a:AA w K mg base 49 F28 E2:=nf (top 6) ["one", "other"] a b (H 20 (by decide)) (by wtm_at "nf");have a:AA w K mg base 50 F29 E2:=nf (top 7) ["ratio"] a b (H 21 (by decide)) (by wtm_at "nf");have a:AA w K mg base 51 F30 E2:=nf (top 17) ["ray", "box"] a b (H 22 (by decide)) (by wtm_at "nf");have a:AA w K mg base 52 F31 E2:=nf (top 11) ["one", "other"] a b (H 23 (by decide)) (by wtm_at "nf");have a:AA w K mg base 53 F32 E2:=nf (top 9) ["one", "other"] a b (H 24 (by decide)) (by wtm_at "nf");have a:AA w K mg base 54 F33 E2:=nf (top 19) ["triangle"] a b (H 25 (by decide)) (by wtm_at "nf");have a:AA w K mg base 55 F34 E2:=nf (top 10) ["one", "other"] a b (H 26 (by decide)) (by wtm_at "nf");have a:AA w K mg base 56 F35 E2:=nf (top 20) ["ray", "one", "other"] a b (H 27 (by decide)) (by wtm_at "nf");have a:AA w K mg base 57 F36 E2:=nf (top 21) ["ray", "one", "other"] a b (H 28 (by decide)) (by wtm_at "nf");have a:AA w K mg base 58 F37 E2:=nf (top 22) ["ray", "triangle"] a b (H 29 (by decide)) (by wtm_at "nf");have a:AA w K mg base 59 F38 E2:=nf (top 23) ["start", "way", "triangle"] a b (H 30 (by decide)) (by wtm_at "nf");have a:AA w K mg base 60 F39 E2:=nf (top 24) ["ray", "triangle", "upright"] a b (H 31 (by decide)) (by wtm_at "nf");have a:AA w K mg base 61 F40 E2:=nf (top 25) ["ray", "triangle"] a b (H 32 (by decide)) (by wtm_at "nf");have a:AA w K mg base 62 F41 E2:=nf (top 31) ["ray", "shape"] a b (H 33 (by decide)) (by wtm_at "nf");have a:AA w K mg base 63 F41 E3:=⟨a.1.mono (by decide),Kv (C := "Scene") (x := "hits") (st:=qx 42 6) (ps:=["self", "ray"]) (n:=5) (fb:=Mu) (m:=40) a.1 a.2 (J9 eF) hb (M 2 (by decide)) (λ_ _ _ _ _ _ us hl=>match us,hl with|[_,_],_=>rfl) (by wtm_at "sc") (by decide +kernel) (by kernel_rfl) (by kernel_rfl)⟩
   have a:AA w K mg base 64 F42 E3:=nf (top 40) ["one", "other"] a b (H 34 (by decide)) (by wtm_at "nf");have a:AA w K mg base 65 F42 E4:=⟨a.1.mono (by decide),Kv (C := "Scene") (x := "first") (st:=qx 42 7) (ps:=["self", "ray"]) (n:=4) (fb:=Ly) (m:=40) a.1 a.2 (J9 eF) hb (M 3 (by decide)) (λ_ _ _ _ _ _ us hl=>match us,hl with|[_,_],_=>rfl) (by wtm_at "sc") (by decide +kernel) (by kernel_rfl) (by kernel_rfl)⟩
   have a:AA w K mg base 69 F43 E4:=zhO (fb:=Ge) a b z1 (hC1 base hMd.kin) hB;have a:AA w K mg base 70 F43 E5:=⟨a.1.mono (by decide),Kv (C := "Scene") (x := "every") (st:=qx 42 8) (ps:=["self", "ray"]) (n:=2) (fb:=GK) (m:=40) a.1 a.2 (J9 eF) hb (M 4 (by decide)) (λ_ _ _ _ _ _ us hl=>match us,hl with|[_,_],_=>rfl) (by wtm_at "sc") (by decide +kernel) (by kernel_rfl) (by kernel_rfl)⟩
   have a:AA w K mg base 71 F44 E5:=nf (top 52) ["_law_point", "_law_how", "_law_cell_here", "_law_by"] a b (H 35 (by decide)) (by wtm_at "nf");have a:AA w K mg base 72 F45 E5:=nf (top 53) ["_law_shape_here", "_law_how", "_law_cell_here"] a b (H 36 (by decide)) (by wtm_at "nf");have a:AA w K mg base 73 F46 E5:=nf (top 51) ["_law_top", "_law_under"] a b (H 37 (by decide)) (by wtm_at "nf");exact a
  exact zjp (m:=40) (n:=13) (fb:=Kg) (fns:=F46) (E:=E5) (k:=73) (ys:=["tree_over", "in_order"]) KX G hb hmg (H 38 (by decide)) (of_decide_eq_true Ny) (show pQ "law" (top 54) ["_law_script"] from zuF λ_ _ _ _ _ _ _=>rfl) (by wtm_at "sc") (by decide +kernel) (by kernel_rfl) (by kernel_rfl) hs zmp
end MX.K26
theorem PySem.Challenge.cw_firsthit_k26_whole_moved_and_turned_holds : PySem.Challenge.rw_firsthit_k26_whole_moved_and_turned.Holds := by
 exact MX.zmy (H:=MX.zsT MX.K26.xb MX.K26.ms MX.K26.defs MX.K26.blt MX.K26.ts) (q:=MX.K26.seen) (d:=MX.K26.lawRec) MX.K26.tR1 (MX.left5 MX.K26.leftA MX.K26.leftB1 MX.K26.leftB2 MX.K26.leftC1 MX.K26.leftC2) MX.K26.tR2 MX.K26.tR3 MX.K26.tR4 MX.K26.tR5 MX.K26.tR6 (by w_witness2) MX.K26.call
#print axioms PySem.Challenge.cw_firsthit_k26_whole_moved_and_turned_holds
end
