import PyProof.Rows.All
import Wide.All
import OpenK.AllK
import Wide.FinOn
import PyProof.EqAt
import PyProof.EqKinds
import PyProof.TupleCall
import PyProof.DictRoadsH
import PyProof.DictItems
import KE.KIsAll
import KE.KMinKey
import KE.KSortTup
import PyProof.EnumFor
import PyProof.EnumMake
import PyProof.EnumStmt
import PyProof.Rows.SeqMore2
import PyProof.Rows.StrWeight2
import PySem.Challenge.RW_firsthit_k25_whole_no_seam_lets_by
abbrev fC:=@List.getElem?_eq_some_iff
abbrev cU:=@List.mem_cons_of_mem
abbrev eZ:=@List.mem_cons_self
abbrev dU:=@Nat.lt_of_lt_of_le
abbrev dF:=@PySem.Heap.get?_push_of_some
abbrev gK:=@Bool.false_ne_true
abbrev xV:=@Nat.le_of_ble_eq_true
abbrev iK:=@PySem.mem_of_lookup
abbrev dD:=@Bool.and_eq_true
abbrev cu:=@Option.bind_some
abbrev cY:=@List.length_map
abbrev d9:=@List.size_toArray
abbrev iW:=@List.length_append
abbrev dI:=@List.append_assoc
abbrev fW:=@List.getElem?_map
abbrev gM:=@Nat.lt_irrefl
abbrev lq:=@List.mem_append
abbrev jo:=@List.length_cons
abbrev mG:=@List.map_append
abbrev lR:=@List.getElem?_append_left
abbrev nJ:=@List.getElem?_append_right
abbrev gG:=@PySem.Heap.get?_push_size
abbrev Ed:=@Nat.lt_of_le_of_lt
abbrev aP:=@PySem.wpAny_bind
abbrev bW:=@PySem.wpAny_pure
abbrev kh:=@PySem.wpAny_mono
abbrev cM:=@PySem.Heap.lt_size
abbrev bH:=@Nat.le_refl
abbrev lQ:=@List.all_cons
abbrev fJ:=@List.getElem?_eq_getElem
abbrev zJ:=@List.length_nil
abbrev uL:=@List.length_take
abbrev uK:=@Option.map_some
abbrev lg:=@Bool.or_eq_true
abbrev uJ:=@Nat.le_of_lt
abbrev dN:=@Nat.ne_of_lt
abbrev zH:=@PySem.Heap.get?_update_other
abbrev Ec:=@PySem.Heap.get?_update_self
abbrev mF:=@List.take_length
abbrev xU:=@List.mem_nil_iff
abbrev oK:=@decide_eq_true_eq
abbrev jH:=@List.lookup_cons
abbrev iJ:=@List.map_cons
abbrev sI:=@List.nil_append
abbrev j9:=@List.getElem?_eq_none
def bf{α β:Type _}{f:α→β}{x:Option α}{b:β}:x.map f=some b↔∃a,x=some a∧f a=b:=Option.map_eq_some_iff
def bC{α β:Type _}{f:α→Option β}{x:Option α}{b:β}:x.bind f=some b↔∃a,x=some a∧f a=some b:=Option.bind_eq_some_iff
noncomputable section
abbrev FgA:=PySem.W.Frag
set_option Elab.async false
set_option compiler.extract_closed false
set_option linter.all false
set_option maxRecDepth 100000
set_option maxHeartbeats 0
section
namespace MX
open PySem PySem.Spec PySem.W PyProof.Rows
noncomputable def qN(a:Addr)(o:Obj):Bool:=match o.data with
 |.freed=>false
 |.dict _ _=>true
 |_=>match o.cls with
  |.none=>Nat.beq a 3
  |_=>true
noncomputable def qT:List Obj->Addr->FgA
 |[],_=>[]
 |o::r,a=>bif qN a o then(a,o)::qT r (Nat.succ a) else qT r (Nat.succ a)
noncomputable def jf(h:Heap):FgA:=qT h.objs.toList 0
noncomputable def zN(K:FgA)(x:Str):Option (Arguments×List Stmt×Scope×Bool):=match nsIn K mainGlobals x with
 |some (some (.ref f))=>match K.lookup f with
  |some ⟨_,_,.func ⟨n,q,ps,.stmts b,sc,g,[],.none,_,_,_,_,cd,_,bn⟩,_⟩=>some (ps,b,sc,n==x&&(q==x&&(Nat.beq g mainGlobals&&(Nat.beq bn builtinsNs&&(codeIn K cd x&&keepIn K (.ref f))))))
  |_=>none
 |_=>none
noncomputable def Ew(K:FgA)(h:Heap)(x:Str):Option Obj×Bool:=match nsIn K mainGlobals x with
 |some (some (.ref f))=>match K.lookup f with
  |some ⟨_,_,.func F,_⟩=>match F.code with
   |.ref c=>match K.lookup c with
    |some ⟨_,_,.fields vs,_⟩=>match(vs[11]?:Option Value) with
     |some (.ref P)=>(h.get? P,codeHdIn K c P&&(K.lookup P).isNone)
     |_=>(none,false)
    |_=>(none,false)
   |_=>(none,false)
  |_=>(none,false)
 |_=>(none,false)
noncomputable def dA(s:Stmt):Arguments:=match s with
 |.FunctionDef _ a _ _ _ _ _ _ _ _=>a
 |_=>{ posonlyargs:=[],args:=[],vararg:=none,kwonlyargs:=[],kw_defaults:=[],kwarg:=none,defaults:=[] }
noncomputable def dB(s:Stmt):List Stmt:=match s with
 |.FunctionDef _ _ b _ _ _ _ _ _ _=>b
 |_=>[]
noncomputable def dS(s:Stmt):Scope:=match s with
 |.FunctionDef _ _ _ _ _ _ c _ _ _=>c
 |_=>{ kind := .function,names:=[],isGenerator:=false,isCoroutine:=false }
noncomputable def xg(s:Stmt):Pos:=match s with
 |.FunctionDef _ _ _ _ _ _ _ _ _ p=>p
 |_=>⟨0,0,0,0⟩
noncomputable def Ph(ds:List (Str×Stmt))(blt:List Str)(s:Shared):List (Option (Arguments×List Stmt×Scope×Bool))×List (Option (Option Value)):=(ds.map λy=>zN (jf s.heap) y.1,blt.map λy=>nsIn (jf s.heap) mainGlobals y)
noncomputable def sX(ds:List (Str×Stmt))(blt:List Str):List (Option (Arguments×List Stmt×Scope×Bool))×List (Option (Option Value)):=(ds.map λy=>some (dA y.2,dB y.2,dS y.2,true),blt.map λ_=>some none)
noncomputable def Pg(ds:List (Str×Stmt))(blt:List Str)(x:Str)(s:Shared):(List (Option (Arguments×List Stmt×Scope×Bool))×List (Option (Option Value)))×Option (Arguments×List Stmt×Scope×Bool)×(Option Obj×Bool):=(Ph ds blt s,zN (jf s.heap) x,Ew (jf s.heap) s.heap x)
noncomputable def N7(ds:List (Str×Stmt))(blt:List Str)(st:Stmt):(List (Option (Arguments×List Stmt×Scope×Bool))×List (Option (Option Value)))×Option (Arguments×List Stmt×Scope×Bool)×(Option Obj×Bool):=(sX ds blt,some (dA st,dB st,dS st,true),(some (tabObj #[]),true))
abbrev tU:List Value:=[.type "ValueError",.type "Exception",.type "BaseException",.type "object"]
noncomputable def wn:Nat->Str
 |0 => "NoRay"
 |1 => "NoShape"
 |2 => "NotClosed"
 |_ => "BadRow"
noncomputable def pH(K:FgA)(D:Addr):Bool :=
 (findIn K (.ref D) "__getattribute__" == some (some (.builtin "BaseException.__getattribute__"))&&(findIn K (.ref D) "__getattr__" == some none&&mroIn K D (.type "BaseException")==some true))&&((clsIn K D).isSome&&(findIn K (.ref D) "__class__" == some (some (.builtin "object.__class__")) &&
  (specialIn K (.builtin "object.__class__") "__get__" == some (some (.builtin "getset_descriptor.__get__"))&&(takesIn K (.builtin "object.__class__")==some true&&mroIn K D (.type "object")==some true))))
noncomputable def cZ(K:FgA)(x:Str):Addr:=match nsIn K mainGlobals x with
 |some (some (.ref a))=>a
 |_=>0
noncomputable def iZ(K:FgA)(x:Str):Addr:=match nsIn K mainGlobals x with
 |some (some (.ref f))=>match K.lookup f with
  |some ⟨_,_,.func F,_⟩=>match F.code with
   |.ref c=>match K.lookup c with
    |some ⟨_,_,.fields vs,_⟩=>match(vs[11]?:Option Value) with
     |some (.ref P)=>P
     |_=>0
    |_=>0
   |_=>0
  |_=>0
 |_=>0
noncomputable def wW(K:FgA)(i:Nat):Bool:=(pH K (cZ K (wn i))&&excIn K (cZ K (wn i)) tU "ValueError.__new__")&&(mroIn K (cZ K (wn i)) (.ref (cZ K "HitError"))==some true &&
 (kitOne K (.ref (cZ K (wn i))) (.ref (cZ K "HitError"))==some true&&(kitOne K (.ref (cZ K (wn i))) (.type "ValueError")==some true &&
  ((List.range 4).all (λj=>kitOne K (.ref (cZ K (wn i))) (.ref (cZ K (wn j)))==some (decide (i=j)))&&nsIn K mainGlobals (wn i)==some (some (.ref (cZ K (wn i))))))))
noncomputable def Ql(K:FgA):Bool:=(List.range 4).all (wW K)&&((nsIn K mainGlobals "HitError" == some (some (.ref (cZ K "HitError")))&&excIn K (cZ K "HitError") tU "ValueError.__new__")&&(nsIn K mainGlobals "isinstance" == some none&&nsIn K mainGlobals "ValueError" == some none))
noncomputable def oZ(K:FgA)(D:Addr):Bool:=findIn K (.ref D) "__str__" == some (some (.builtin "BaseException.__str__"))&&mroIn K D (.type "BaseException")==some true
noncomputable def excB2(K:FgA):Bool:=Ql K&&(List.range 4).all λi=>keepIn K (.ref (cZ K (wn i)))&&oZ K (cZ K (wn i))
noncomputable def obsX(xb:FgA->Bool)(ds:List (Str×Stmt))(blt:List Str)(x:Str)(s:Shared):((List (Option (Arguments×List Stmt×Scope×Bool))×List (Option (Option Value)))×Option (Arguments×List Stmt×Scope×Bool)×(Option Obj×Bool))×Bool:=(Pg ds blt x s,xb (jf s.heap))
noncomputable def valX(ds:List (Str×Stmt))(blt:List Str)(st:Stmt):((List (Option (Arguments×List Stmt×Scope×Bool))×List (Option (Option Value)))×Option (Arguments×List Stmt×Scope×Bool)×(Option Obj×Bool))×Bool:=(N7 ds blt st,true)
noncomputable def Ip(K:FgA)(C m:Str):Option (Arguments×List Stmt×Scope×Bool):=match findIn K (.ref (cZ K C)) m with
 |some (some (.ref f))=>match K.lookup f with
  |some ⟨_,_,.func ⟨n,q,ps,.stmts b,sc,g,[],.none,_,_,_,_,cd,_,bn⟩,_⟩=>some (ps,b,sc,n==m&&(q==C ++ "." ++ m&&(Nat.beq g mainGlobals&&(Nat.beq bn builtinsNs&&(codeIn K cd (C ++ "." ++ m)&&(keepIn K (.ref f)&&isFn K (.ref f)))))))
  |_=>none
 |_=>none
noncomputable def sJ(K:FgA)(C:Str)(fs:List Str):Bool:=(plainGet K (cZ K C) Str.empty&&(hasDictIn K (cZ K C)&&(plainOver K (cZ K C)&&findIn K (.ref (cZ K C)) "__setattr__" == some (some (.builtin "object.__setattr__"))))) &&
 ((makesIn K (cZ K C)&&(keepIn K (.ref (cZ K C))&&nsIn K mainGlobals C==some (some (.ref (cZ K C)))))&&fs.all λf=>findIn K (.ref (cZ K C)) f==some none)
noncomputable def vV(K:FgA)(x y:Str):Bool:=match nsIn K mainGlobals x with
 |some (some (.str z _))=>z==y
 |_=>false
noncomputable def Ih(os:List Obj)(cd:Value)(x:Str):Bool:=match cd with
 |.ref c=>(match os[c]? with
  |some o=>(match o.data with
   |.fields vs=>(match o.cls with
    |.none=>false
    |_=>(match vs.toList with | _ :: .str n _::_=>n==x | _=>false))
   |_=>false)
  |none=>false)
 |_=>false
noncomputable def Io(K:FgA)(os:List Obj)(x:Str):Option (Arguments×List Stmt×Scope×Bool):=match nsIn K mainGlobals x with
 |some (some (.ref f))=>match os[f]? with
  |some o=>match o.data with
   |.func ⟨n,q,ps,.stmts b,sc,g,[],.none,_,_,_,_,cd,_,bn⟩=>(match o.cls with
    |.none=>none
    |_=>some (ps,b,sc,n==x&&(q==x&&(Nat.beq g mainGlobals&&(Nat.beq bn builtinsNs&&Ih os cd x)))))
   |_=>none
  |none=>none
 |_=>none
noncomputable def sV(ds:List (Str×Stmt))(blt:List Str)(s:Shared):List (Option (Arguments×List Stmt×Scope×Bool))×List (Option (Option Value)):=(ds.map λy=>Io (jf s.heap) s.heap.objs.toList y.1,blt.map λy=>nsIn (jf s.heap) mainGlobals y)
abbrev xP:=Option (Arguments×List Stmt×Scope×Bool)
noncomputable def zK(ys:List Str)(s:Shared):List (xP×(Option Obj×Bool)):=ys.map λy=>(zN (jf s.heap) y,Ew (jf s.heap) s.heap y)
noncomputable def Er(ts:List (Str×Stmt)):List (xP×(Option Obj×Bool)):=ts.map λy=>(some (dA y.2,dB y.2,dS y.2,true),(some (tabObj #[]),true))
noncomputable def rM(xb:FgA->Bool)(ms:List (Str×Str×Stmt))(s:Shared):List xP×Bool:=(ms.map λy=>Ip (jf s.heap) y.1 y.2.1,xb (jf s.heap))
noncomputable def vQ(ms:List (Str×Str×Stmt)):List xP×Bool:=(ms.map λy=>some (dA y.2.2,dB y.2.2,dS y.2.2,true),true)
end MX
end
section
namespace MX.K25
open PySem PySem.Spec PySem.W PyProof.Rows MX
abbrev PP:Program:=PySem.Challenge.pw_firsthit_k25_whole_no_seam_lets_by
abbrev PG:Program:=PySem.Challenge.rw_firsthit_k25_whole_no_seam_lets_by.prog
noncomputable def top(i:Nat):Stmt:=PP.main.body.getD i (.Pass ⟨0,0,0,0⟩)
noncomputable def qw(i j:Nat):Stmt:=match top i with
 |.ClassDef _ _ _ b _ _ _ _ _ _ _=>b.getD j (.Pass ⟨0,0,0,0⟩)
 |_ => .Pass ⟨0,0,0,0⟩
noncomputable def blt:List Str:=["len", "abs", "min", "max", "isinstance", "all", "any", "sum", "sorted", "tuple", "list", "range", "zip", "int", "bool", "str", "enumerate"]
noncomputable def nm(s:Stmt):Str:=match s with
 |.FunctionDef n _ _ _ _ _ _ _ _ _=>n
 |_ => ""
noncomputable def ix1:List Nat:=[45,44,51,53,52,54,13,14,35,37,28,29,30,32,55,56,57,46,27,15,8,16]
noncomputable def ix2:List Nat:=[38,6,7,17,11,9,19,10,20,21,22,23,24,25,31,40,47,58,48,49,50,59]
noncomputable def Hy:List (Str×Stmt):=ix1.map λi=>(nm (top i),top i)
noncomputable def Hz:List (Str×Stmt):=ix2.map λi=>(nm (top i),top i)
abbrev defs:List (Str×Stmt):=Hy++Hz
noncomputable def ms:List (Str×Str×Stmt):=[("Tree", "__init__",qw 34 0),("Scene", "__init__",qw 42 0),("Scene", "hits",qw 42 6),("Scene", "first",qw 42 7),("Scene", "every",qw 42 8)]
noncomputable def xb(K:Frag):Bool:=sJ K "Tree" ["box", "number", "halves"]&&sJ K "Scene" ["kept", "tree"]&&decide ((["tree_over", "in_order"]:List Str).map (iZ K)).Nodup
noncomputable def ts:List (Str×Stmt):=[("tree_over",top 36),("in_order",top 41)]
noncomputable def seen:Program:=view PP [59]
noncomputable def loose:List Str:=(["_wall", "HitError", "NoRay", "NoShape", "common_divisor", "lowest_terms", "is_less", "way_between", "dot", "cross", "numbers_at", "box_around", "times_between", "span_in", "meets_box", "edges_of", "meets_along", "meets_segment", "meets_edges", "goes_through", "meets_within_plane", "meets_triangle", "refuse_standing", "are_in_order", "is_shape", "refuse_no_shape", "time_at", "bounds", "Tree", "widest_place", "tree_over", "tree_about", "numbers_along", "is_sooner", "in_order", "Scene", "_law_cell", "_law_drawn", "_law_ratio", "_law_way", "_law_flat", "_law_on", "_law_in_triangle", "_law_heights", "_law_cut", "_law_square", "_law_triangles", "_law_stands", "_law_height", "_law_due", "_law_aslant"]:List String).map Str.ofString
noncomputable def lawRec:DefRec:=⟨"law",dA (top 59),dB (top 59),dS (top 59),xg (top 59)⟩
def leftA:LeftO PP seen loose (λ_=>true) (λ_=>()) (λ_=>()) 5760:=by intro w;kernel_rfl
def leftB1:∀w,(openEnds treeTable PP w 5760).map (sV Hy blt)=some (sX Hy blt):=by intro w;kernel_rfl
def leftB2:∀w,(openEnds treeTable PP w 5760).map (sV Hz [])=some (sX Hz []):=by intro w;kernel_rfl
def leftC1:∀w,(openEnds treeTable PP w 5760).map (zK (ts.map (·.1)))=some (Er ts):=by intro w;kernel_rfl
def leftC2:∀w,(openEnds treeTable PP w 5760).map (rM xb ms)=some (vQ ms):=by intro w;kernel_rfl
abbrev LW:=PySem.Challenge.rw_firsthit_k25_whole_no_seam_lets_by
def p1:LW.wellSaid=true:=by kernel_rfl
def p2:defOf seen LW.name=some (lawRec,[]):=by kernel_rfl
def p3:LW.prog.theDef LW.name=some (lawRec.params,lawRec.body,lawRec.scope):=by kernel_rfl
def p4:kwWritten? lawRec.params.kwonlyargs lawRec.params.kw_defaults=some []:=by kernel_rfl
def p5:(chainsOk seen&&opensWell LW.prog&&(frees LW.row.toRowW&&LW.row.within.isEmpty))=true:=by kernel_rfl
def p6:LW.prog.bare:=⟨rfl,rfl,rfl,rfl,rfl,by decide +kernel⟩
end MX.K25
end
section
namespace L2
open PySem PySem.Spec PyProof.Rows
abbrev Key:=Sum Int Str
noncomputable def uc:Key->Value->Bool
 |.inl k,v=>Value.isInt k v
 |.inr x,v=>Value.isStrOf x v
noncomputable def mL(w:World):Key->Int
 |.inl k=>hashInt k
 |.inr x=>hashStr w x
theorem rz:∀{k:Key} {v:Value},uc k v=true->(∃i t,k=Sum.inl i/\v=Value.int i t)\/(∃x t,k=Sum.inr x/\v=Value.str x t)
 |.inl i,v,h=>by obtain⟨t,e⟩:=Value.isInt_shape (k:=i) (v:=v) h;exact .inl ⟨i,t,rfl,e⟩
 |.inr x,v,h=>by obtain⟨t,e⟩:=Value.isStrOf_shape (x:=x) (v:=v) h;exact .inr ⟨x,t,rfl,e⟩
theorem zr3(a b:Int):decide ((Sum.inl a:Key)=Sum.inl b)=(a==b):=by
 by_cases e:a=b
 .subst e;simp
 .have h:¬(Sum.inl a:Key)=Sum.inl b:=λq=>e (Sum.inl.inj q);rw[decide_eq_false h];exact(beq_eq_false_iff_ne.mpr e).symm
theorem zr0(a b:Str):decide ((Sum.inr a:Key)=Sum.inr b)=decide (a=b):=by
 by_cases e:a=b
 .subst e;simp
 .have h:¬(Sum.inr a:Key)=Sum.inr b:=λq=>e (Sum.inr.inj q);rw[decide_eq_false h,decide_eq_false e]
def zr2(a:Int)(b:Str):decide ((Sum.inl a:Key)=Sum.inr b)=false:=decide_eq_false (λq=>nomatch q)
def zr1(a:Str)(b:Int):decide ((Sum.inr a:Key)=Sum.inl b)=false:=decide_eq_false (λq=>nomatch q)
noncomputable def Ir(prog:Program)(w:World):PySem.KeyKind prog w Key where
 is:=uc
 hash:=mL w
 inj:=λv a b ha hb=>by
  rcases rz ha with⟨i,t,rfl,rfl⟩|⟨x,t,rfl,rfl⟩
  .rcases rz hb with⟨j,u,rfl,e⟩|⟨y,u,rfl,e⟩
   .injection e with e1 _;rw[e1]
   .exact nomatch e
  .rcases rz hb with⟨j,u,rfl,e⟩|⟨y,u,rfl,e⟩
   .exact nomatch e
   .injection e with e1 _;rw[e1]
 byValue:=λk v h=>by rcases rz h with⟨i,t,rfl,rfl⟩|⟨x,t,rfl,rfl⟩<;>rfl
 pyHash:=λhv h=>by
  rcases rz hv with⟨i,t,rfl,rfl⟩|⟨x,t,rfl,rfl⟩
  .exact wpAny_pyHash_int h
  .exact wpAny_pyHash_str h
 eqBool:=λhu hv h=>by
  rcases rz hu with⟨i,t,rfl,rfl⟩|⟨x,t,rfl,rfl⟩
  .rcases rz hv with⟨j,u,rfl,rfl⟩|⟨y,u,rfl,rfl⟩
   .rw[zr3] at h;exact wpAny_eqBool_int h
   .rw[zr2] at h;exact SeqAt.EqAt.int_str i t y u _ _ _ _ h
  .rcases rz hv with⟨j,u,rfl,rfl⟩|⟨y,u,rfl,rfl⟩
   .rw[zr1] at h;exact SeqAt.EqAt.str_int x t j u _ _ _ _ h
   .rw[zr0] at h;exact wpAny_eqBool_str h
 «strs»:=λk x t v h=>by
  rcases rz h with⟨i,u,rfl,e⟩|⟨y,u,rfl,e⟩
  .exact nomatch e
  .injection e with e1 _;subst e1;cases v<;>rfl
inductive V where
 |non|bl (b:Bool)|int (i:Int)|str (x:Str)|byt (b:Array UInt8)|flt (b:UInt64)|ref (a:Addr)|ty (n:String)
 deriving DecidableEq
noncomputable def RelV:V->Value->Prop
 |.non,u=>u=Value.none
 |.bl b,u=>u=Value.bool b
 |.int i,u=>∃t,u=Value.int i t
 |.str x,u=>∃t,u=Value.str x t
 |.byt b,u=>∃t,u=Value.bytes b t
 |.flt b,u=>∃t,u=Value.float b t
 |.ref a,u=>u=Value.ref a
 |.ty n,u=>u=Value.type n
abbrev Vals:List V->List Value->Prop:=Paired RelV
def Vals.length{xs:List V}{us:List Value}(r:Vals xs us):xs.length=us.length:=Paired.length r
theorem Vals.get:∀{xs:List V} {us:List Value} {i:Nat} {x:V},Vals xs us->xs[i]?=some x->∃u,us[i]?=some u/\RelV x u
 |_,_,_,_,.nil,e=>by simp at e
 |_,_,0,_,.cons r _,e=>by simp at e;subst e;exact⟨_,rfl,r⟩
 |_,_,i+1,x,.cons _ t,e=>by obtain⟨u,h1,h2⟩:=Vals.get (i:=i) (x:=x) t (by simpa using e);exact⟨u,by simpa using h1,h2⟩
def Vals.append:∀{xs ys:List V} {us ws:List Value},Vals xs us->Vals ys ws->Vals (xs++ys) (us++ws)
 |_,_,_,_,.nil,s=>s
 |_,_,_,_,.cons r t,s => .cons r (Vals.append t s)
def Vals.take:∀{xs:List V} {us:List Value} (n:Nat),Vals xs us->Vals (xs.take n) (us.take n)
 |_,_,0,_ => .nil
 |_,_,_+1,.nil => .nil
 |_,_,n+1,.cons r t => .cons r (Vals.take n t)
def Vals.drop:∀{xs:List V} {us:List Value} (n:Nat),Vals xs us->Vals (xs.drop n) (us.drop n)
 |_,_,0,r=>r
 |_,_,_+1,.nil => .nil
 |_,_,n+1,.cons _ t=>Vals.drop n t
theorem Vals.none_of:∀{xs:List V} {us:List Value} {i:Nat},Vals xs us->xs[i]?=none->us[i]?=none:=λ{xs us i} r e=>by have h1:=r.length;have h2:xs.length<=i:=List.getElem?_eq_none_iff.mp e;exact List.getElem?_eq_none_iff.mpr (by omega)
noncomputable def jn:Option V->Option Value->Prop
 |some v,some u=>RelV v u
 |none,none=>True
 |_,_=>False
noncomputable def KV{κ:Type}:List (κ×V)->List (κ×Value)->Prop:=Paired λ(p:κ×V) (q:κ×Value)=>p.1=q.1/\RelV p.2 q.2
noncomputable def kV:Key->V
 |.inl i => .int i
 |.inr x => .str x
inductive HO where
 |lst (xs:List V)
 |tup (xs:List V)
 |dK (kvs:List (Key×V))|dT (kvs:List (List Key×V))
 |set (S:Int->Bool) (n:Nat)
 |ins (C dx:Addr) (fs:List (Str×V))
 |own (x:Addr)
 |xd (fs:List (Str×V))
 |met (f x:Addr)
 |rng (lo hi:Int)
 |frz (o:Obj) (u:HO)
 |tbl (ps:Array Value)
 |ext (φ:Heap->Prop)
abbrev Hp:=Addr->Option HO
noncomputable def upd(H:Hp)(a:Addr)(o:HO):Hp:=λb=>if b=a then some o else H b
def fP{H:Hp}{a:Addr}{o:HO}:upd H a o a=some o:=by unfold upd;rw[if_pos rfl]
def cD{H:Hp}{a b:Addr}{o:HO}(h:b≠a):upd H a o b=H b:=by unfold upd;rw[if_neg h]
def EY{H:Hp}{a b:Addr}{o u:HO}(h:H a=some o)(h':H b=some u)(d:o≠u):a≠b:=by intro e;subst e;rw[h] at h';exact d (Option.some.inj h')
def gU{H:Hp}{a b:Addr}{o:HO}(h:H a=some o)(h':H b=none):a≠b:=by intro e;subst e;rw[h] at h';cases h'
section
variable (P:Program)(w:World)
noncomputable def bT(H:Hp)(h:Heap)(a:Addr):HO->Prop
 |.lst xs=>xs.length<=sizeLine/\∃(its:List Value) (n:Nat),Vals xs its/\h.get? a=some { cls := .type "list",data := .seq its.toArray n }
 |.tup xs=>xs.length<=sizeLine/\∃its:List Value,Vals xs its/\IsTup h a its.toArray
 |.dK kvs=>kvs.length<=sizeLine/\(a==sysModules)=false/\∃vs,KV kvs vs/\h.DictOf (Ir P w) a vs
 |.dT kvs=>kvs.length<=sizeLine/\(a==sysModules)=false/\∃xs:List (List Key×Addr×Value),
  Paired (λ(p:List Key×V) (q:List Key×Addr×Value)=>p.1=q.1/\H q.2.1=some (.tup (p.1.map kV))/\RelV p.2 q.2.2) kvs xs /\
  ∃o es ep,h.get? a=some o/\o.ExactDict/\o.data = .dict es ep/\es.toList=xs.map (entryOfKey (tupleKind (Ir P w)))/\(xs.map (·.1)).Nodup
 |.set S n=>h.SetOf (intKind P w) a S n
 |.ins C dx fs=>H dx=some (.own a)/\fs.length<=1000/\dx≠a/\h.get? a=some (PySem.W.instObj C dx) /\
  ∃mA,h.Ns1 dx mA/\(∀f,jn (fs.lookup f) (mA f))/\PySem.Within mA (fs.map (·.1))
 |.own _=>∃o,h.get? a=some o
 |.xd fs=>∃mA,h.Ns1 a mA/\∀f,jn (fs.lookup f) (mA f)
 |.rng lo hi=>∃t u v,h.get? a=some { cls := .type "range",data := .fields #[.int lo t,.int hi u,.int 1 v] }
 |.frz o u=>h.get? a=some o/\bT H h a u
 |.tbl ps=>h.get? a=some { cls := .none,data := .fields ps }/\TriplesOk ps.toList/\∀pos cv,codeAmong pos ps.toList=some cv->∃c q oc vs t,cv=Value.ref c/\H c=some (.own a)/\h.get? c=some oc/\oc.data = .fields vs/\vs[1]?=some (.str q t)
 |.met f x=>h.get? a=some (PySem.W.methodObj (.ref f) (.ref x))
 |.ext φ=>φ h/\(∃o,h.get? a=some o)/\∀h1 h2:Heap,φ h1->(∀o,h1.get? a=some o->h2.get? a=some o)->φ h2
def gF(H:Hp)(h:Heap):Prop:=∀a o,H a=some o->bT P w H h a o
end
section
variable {P:Program}{w:World}{H H':Hp}{h h':Heap}{a:Addr}{o:HO}
theorem bT.lt(x:bT P w H h a o):a<h.objs.size:=by
 cases o with
 |lst xs=>obtain⟨_,_,_,_,e⟩:=x;exact cM e
 |tup xs=>obtain⟨_,_,_,p⟩:=x;exact p.lt
 |dK kvs=>obtain⟨_,_,_,_,o,_,_,e,_⟩:=x;exact cM e
 |dT kvs=>obtain⟨_,_,_,_,o,_,_,e,_⟩:=x;exact cM e
 |set S n=>obtain⟨o,_,_,_,e,_⟩:=x;exact cM e
 |ins C dx fs=>obtain⟨_,_,_,e,_⟩:=x;exact cM e
 |own y=>obtain⟨_,e⟩:=x;exact cM e
 |xd fs=>obtain⟨_,⟨_,_,_,e,_⟩,_⟩:=x;exact cM e
 |rng lo hi=>obtain⟨_,_,_,e⟩:=x;exact cM e
 |frz ob u=>obtain⟨e,_⟩:=x;exact cM e
 |tbl ps=>exact cM x.1
 |met f y=>exact cM (show h.get? a=some _ from x)
 |ext φ=>obtain⟨_,⟨_,e⟩,_⟩:=x;exact cM e
def Paired.mapP{α β:Type}{F G:α->β->Prop}:∀{l₁:List α} {l₂:List β},Paired F l₁ l₂->(∀a b,F a b->G a b)->Paired G l₁ l₂
 |_,_,.nil,_ => .nil
 |_,_,.cons r t,f => .cons (f _ _ r) (Paired.mapP t f)
theorem bT.stay(x:bT P w H h a o)(k:∀b u,(b=a\/H b=some (.own a))->h.get? b=some u->h'.get? b=some u)(ho:∀b,H b=some (.own a)->H' b=some (.own a))(ht:∀b xs,H b=some (.tup xs)->H' b=some (.tup xs)):bT P w H' h' a o:=by
 induction o with
 |lst xs=>obtain⟨z,its,n,r,e⟩:=x;exact⟨z,its,n,r,k _ _ (.inl rfl) e⟩
 |tup xs=>obtain⟨z,its,r,ob,e,c⟩:=x;exact⟨z,its,r,ob,k _ _ (.inl rfl) e,c⟩
 |dK kvs=>obtain⟨z,y,vs,r,ob,es,ep,e,c⟩:=x;exact⟨z,y,vs,r,ob,es,ep,k _ _ (.inl rfl) e,c⟩
 |dT kvs =>
  obtain⟨z,y,xs,r,ob,es,ep,e,c⟩:=x;exact⟨z,y,xs,Paired.mapP r λp q z=>⟨z.1,ht _ _ z.2.1,z.2.2⟩,ob,es,ep,k _ _ (.inl rfl) e,c⟩
 |set S n=>obtain⟨ob,es,ep,t,e,c⟩:=x;exact⟨ob,es,ep,t,k _ _ (.inl rfl) e,c⟩
 |ins C dx fs =>
  obtain⟨d,z,ne,e,mA,⟨od,es,ep,e2,c⟩,r⟩:=x;exact⟨ho _ d,z,ne,k _ _ (.inl rfl) e,mA,⟨od,es,ep,k _ _ (.inr d) e2,c⟩,r⟩
 |own y=>obtain⟨ob,e⟩:=x;exact⟨ob,k _ _ (.inl rfl) e⟩
 |xd fs=>obtain⟨mA,⟨od,es,ep,e,c⟩,r⟩:=x;exact⟨mA,⟨od,es,ep,k _ _ (.inl rfl) e,c⟩,r⟩
 |rng lo hi=>obtain⟨t,u,v,e⟩:=x;exact⟨t,u,v,k _ _ (.inl rfl) e⟩
 |frz ob u ih=>obtain⟨e,q⟩:=x;exact⟨k _ _ (.inl rfl) e,ih q⟩
 |tbl ps =>
  obtain⟨e,h1,h2⟩:=x;refine⟨k a _ (.inl rfl) e,h1,λpos cv q=>?_⟩;obtain⟨c,q,oc,vs,t,e1,e2,e3,e4⟩:=h2 pos cv q;exact⟨c,q,oc,vs,t,e1,ho _ e2,k _ _ (.inr e2) e3,e4⟩
 |met f y =>
  have e:h.get? a=some (PySem.W.methodObj (.ref f) (.ref y)):=x;show h'.get? a=some (PySem.W.methodObj (.ref f) (.ref y));exact k a _ (.inl rfl) e
 |ext φ=>obtain⟨p,⟨o,e⟩,st⟩:=x;exact⟨st _ _ p λo q=>k _ _ (.inl rfl) q,⟨o,k _ _ (.inl rfl) e⟩,st⟩
def gF.lt(x:gF P w H h)(e:H a=some o):a<h.objs.size:=(x a o e).lt
def gF.fresh(x:gF P w H h)(e:h.objs.size<=a):H a=none:=by
 cases q:H a with
 |none=>rfl
 |some u=>exact absurd (dU (x.lt q) e) (gM _)
def gF.kept(x:gF P w H h)(k:∀b u,h.get? b=some u->h'.get? b=some u):gF P w H h':=λa o e =>
 (x a o e).stay (λb u _ q=>k b u q) (λ_ q=>q) λ_ _ q=>q
theorem gF.laid(x:gF P w H h)(k:∀b u,h.get? b=some u->h'.get? b=some u)(hp:h.objs.size<=a)(new:bT P w (upd H a o) h' a o):gF P w (upd H a o) h':=λb u e=>by
 have hn:=x.fresh hp;by_cases hb:b=a
 .subst hb;rw[fP] at e;cases e;exact new
 .rw[cD hb] at e;exact(x b u e).stay (λc v _ q=>k c v q) (λc q=>by rw[cD (gU q hn)];exact q) λc xs q=>by rw[cD (gU q hn)];exact q
end
def Rd(H:Hp)(a:Addr)(u:HO):Prop:=H a=some u\/∃o,H a=some (.frz o u)
theorem Rd.ok{P:Program}{w:World}{H:Hp}{h:Heap}{a:Addr}{u:HO}(r:Rd H a u)(x:gF P w H h):bT P w H h a u:=by
 rcases r with r|⟨o,r⟩
 .exact x a u r
 .obtain⟨_,q⟩:=x a _ r;exact q
noncomputable def Hu:Option HO->Prop
 |some (.lst _)=>True
 |some (.dK _)=>True
 |some (.dT _)=>True
 |some (.set _ _)=>True
 |some (.ins _ _ _)=>True
 |some (.ext _)=>True
 |_=>False
section
variable {P:Program}{w:World}{H:Hp}{h h':Heap}{x e:Addr}{o':HO}
theorem gF.write(ok:gF P w H h)(mu:Hu (H x))(he:e=x\/H e=some (.own x))(k:∀b u,b≠e->h.get? b=some u->h'.get? b=some u)(heo:∃u,h'.get? e=some u)(new:bT P w (upd H x o') h' x o'):gF P w (upd H x o') h':=λb u q=>by
 have Cr:∀c y,H c=some (.own y)->c≠x:=λc y r z=>by subst z;rw[r] at mu;exact mu
 have Pk:∀c xs,H c=some (.tup xs)->c≠x:=λc xs r z=>by subst z;rw[r] at mu;exact mu
 by_cases hb:b=x
 .subst hb;rw[fP] at q;cases q;exact new
 .rw[cD hb] at q;by_cases hbe:b=e
  .have q':H b=some (.own x):=by
    rcases he with z|z
    .exact absurd (hbe.trans z) hb
    .rw[hbe];exact z
   rw[q] at q';cases q';obtain⟨v,hv⟩:=heo;exact⟨v,by rw[hbe];exact hv⟩
  .refine(ok b u q).stay (λc v hc r=>k c v ?_ r) (λc r=>by rw[cD (Cr c b r)];exact r) λc xs r=>by rw[cD (Pk c xs r)];exact r
   rcases hc with rfl|hc
   .exact hbe
   .rintro rfl
    rcases he with z|z
    .exact Cr c b hc z
    .rw[hc] at z;cases z;exact hb rfl
end
structure Un(fs ex:List Addr)(H H':Hp)(h h':Heap):Prop where
 keep:∀b o,h.get? b=some o->H b=none->b∉fs->b∉ex->h'.get? b=some o
 slot:∀b o,h.get? b=some o->H b=none->b∈fs->b∉ex->∃sl,h'.get? b=some { o with slots:=sl }
 free:∀b o,h.get? b=some o->H b=none->b∉ex->H' b=none
 there:∀b o,h.get? b=some o->b∉ex->∃o',h'.get? b=some o'
 tups:∀b xs,H b=some (.tup xs)->H' b=some (.tup xs)
 frzs:∀b o u,H b=some (.frz o u)->H' b=some (.frz o u)
 tbls:∀b ps,H b=some (.tbl ps)->∃more,H' b=some (.tbl (ps++more))
section
variable {fs fs' ex ex':List Addr}{H H1 H2:Hp}{h h1 h2 h':Heap}{a x e:Addr}{o:HO}
theorem Un.any(u:Un fs ex H H1 h h1){b:Addr}{ob:Obj}(q:h.get? b=some ob)(n:H b=none)(hx:b∉ex):∃sl,h1.get? b=some { ob with slots:=sl }:=by
 by_cases hb:b∈fs
 .exact u.slot b ob q n hb hx
 .exact⟨ob.slots,u.keep b ob q n hb hx⟩
theorem Un.kept(k:∀b u,h.get? b=some u->h'.get? b=some u):Un fs ex H H h h' :=
 ⟨λb ob q _ _ _=>k b ob q,λb ob q _ _ _=>⟨ob.slots,k b ob q⟩,λ_ _ _ n _=>n,λb ob q _=>⟨ob,k b ob q⟩,λ_ _ q=>q,λ_ _ _ q=>q,λ_ ps q=>⟨#[],by rw[q];simp⟩⟩
def Un.refl:Un fs ex H H h h:=Un.kept λ_ _ q=>q
theorem Un.laid(k:∀b u,h.get? b=some u->h'.get? b=some u)(hp:h.objs.size<=a)(hn:H a=none):Un fs ex H (upd H a o) h h' where
 keep:=λb u q _ _ _=>k b u q
 slot:=λb u q _ _ _=>⟨u.slots,k b u q⟩
 free:=λb u q n _=>by rw[cD (dN (dU (cM q) hp))];exact n
 there:=λb u q _=>⟨u,k b u q⟩
 tups:=λb xs q=>by rw[cD (gU q hn)];exact q
 frzs:=λb u xs q=>by rw[cD (gU q hn)];exact q
 tbls:=λb ps q=>⟨#[],by rw[cD (gU q hn),q];simp⟩
theorem Un.write(mu:Hu (H x))(he:e=x\/H e=some (.own x))(k:∀b u,b≠e->h.get? b=some u->h'.get? b=some u)(heo:∃u,h'.get? e=some u):Un fs ex H (upd H x o) h h':=by
 have hx:∀b,H b=none->b≠x:=λb n z=>by subst z;rw[n] at mu;exact mu
 have hb:∀b,H b=none->b≠e:=λb n z=>by
  subst z;rcases he with r|r
  .exact hx b n r
  .rw[n] at r;cases r
 have hm:∀b u,H b=some u->¬Hu (some u)->b≠x:=λb u q nm z=>by subst z;rw[q] at mu;exact nm mu
 refine⟨λb u q n _ _=>k b u (hb b n) q,λb u q n _ _=>⟨u.slots,k b u (hb b n) q⟩,λb u q n _=>by rw[cD (hx b n)];exact n,λb u q _=>?_,
  λb xs q=>by rw[cD (hm b _ q λz=>z)];exact q,λb u xs q=>by rw[cD (hm b _ q λz=>z)];exact q,λb ps q=>⟨#[],by rw[cD (hm b _ q λz=>z),q];simp⟩⟩
 by_cases hbe:b=e
 .subst hbe;exact heo
 .exact⟨u,k b u hbe q⟩
end
noncomputable def zj(h:Heap)(H:Hp):List Addr:=(List.range h.objs.size).filter λa=>(H a).isSome
noncomputable def pQ(h:Heap)(H:Hp):Heap:=PySem.W.hideAll h (zj h H)
def zlB(h:Heap)(H:Hp):(pQ h H).objs.size=h.objs.size:=PySem.W.hideAll_size _ _
theorem znh{h:Heap}{H:Hp}{b:Addr}{o:Obj}(e:h.get? b=some o)(n:H b=none):(pQ h H).get? b=some o :=
 PySem.W.hideAll_get _ e λhm=>by have q:(H b).isSome=true:=(List.mem_filter.mp hm).2;rw[n] at q;simp at q
theorem zpB{h:Heap}{H:Hp}{b:Addr}{o:Obj}(e:(pQ h H).get? b=some o):h.get? b=some o/\H b=none:=by
 have e':h.get? b=some o:=PySem.W.of_hideAll (zj h H) e;refine⟨e',?_⟩;cases q:H b with
 |none=>rfl
 |some x =>
  have hm:b∈zj h H:=List.mem_filter.mpr ⟨List.mem_range.mpr (cM e'),by simp[q]⟩;have z:(pQ h H).get? b=none:=PySem.W.hideAll_none (zj h H) hm;rw[z] at e;cases e
structure Mod(K:FgA)(mg:Str->Option Value)(base:Heap):Prop where
 kin:K.In base
 glob:base.Ns mainGlobals mg
 blt:∃mb,base.Ns builtinsNs mb/\∀x:Str,x ≠ "__name__" -> mb x=bootBuiltins x
 nolimit:base.NoLimit
structure Cx where
 prog:Program
 w:World
 K:FgA
 mg:Str->Option Value
 base:Heap
 A:Around
 N:List Str
 s₀:Shared
 H₀:Hp
 env:Env
 outer:List Env
 stack:List Env
 ex:List Addr
 fn:Str->Bool
 calm:Bool
 pn:List (Addr×Obj)
 xe:Value->Shared->Prop
noncomputable def frs(l:List Env):List Addr:=l.filterMap (·.frame)
abbrev Cx.fs(X:Cx):List Addr:=frs X.outer
def Ht(sc:Scope)(x:Str):Prop:=sc.names.lookup x=some .local\/sc.names.lookup x=some .cell\/sc.names.lookup x=some .free
def Loc(sc:Scope)(x:Str):Prop:=sc.names.lookup x=some .local\/sc.names.lookup x=some .cell
noncomputable def Look(env:Env)(h:Heap)(m:Str->Option Value)(x:Str)(u:Value):Prop :=
 (env.kindOf x=some .local/\m x=some u)\/((env.kindOf x=some .cell\/env.kindOf x=some .free)/\∃c,env.cells.lookup x=some c/\h.IsCell c (some u))
structure Cx.Ok(X:Cx):Prop where
 mod:Mod X.K X.mg X.base
 kind:X.env.scope.kind = .function
 glob:X.env.globals=mainGlobals
 blt:X.env.builtins=builtinsNs
 above:X.s₀.heap.objs.size<=X.env.locals
 inj:∀x y c,X.env.cells.lookup x=some c->X.env.cells.lookup y=some c->x=y
 has:∀x,(X.env.kindOf x=some .cell\/X.env.kindOf x=some .free)->∃c,X.env.cells.lookup x=some c
 cab:∀x c,X.fn x=true->X.env.cells.lookup x=some c->X.s₀.heap.objs.size<=c
 hd:X.calm=true->X.A.handled=none
 frames:X.A.frames=some X.stack
 stk:X.stack=X.outer\/(X.stack=X.env::X.outer/\X.env.frame=some X.env.locals)
 exf:∀b∈X.ex,b≠X.env.locals/\∀x c,X.env.cells.lookup x=some c->c≠b
 bs:∀b o,X.base.get? b=some o->X.s₀.heap.get? b=some o/\X.H₀ b=none
 bsz:X.base.objs.size<=X.s₀.heap.objs.size
 noex:∀b o,X.base.get? b=some o->b∉X.ex
 exfs:∀b∈X.ex,b∉X.fs
 funs:X.s₀.heap.FunFrames X.base X.outer
 frf:∀b∈X.fs,X.H₀ b=none
structure Inv(X:Cx)(pz:List (Addr×Obj))(Z:List (Option V))(H:Hp)(s:Shared):Prop where
 ok:X.Ok
 os:s.os=X.s₀.os
 bare:AllBare s.gens
 base:Un X.fs X.ex X.H₀ H X.s₀.heap s.heap
 loc:∃m,s.heap.Ns X.env.locals m/\∀(i:Nat) (x:Str) (v:V),X.N[i]?=some x->Z[i]?=some (some v)->Ht X.env.scope x->∃u,RelV v u/\Look X.env s.heap m x u
 cell:∀x c,X.env.cells.lookup x=some c->∃v,s.heap.IsCell c v
 free:H X.env.locals=none
 freeC:∀x c,X.env.cells.lookup x=some c->H c=none
 pin:∀p∈X.pn++pz,s.heap.get? p.1=some p.2/\H p.1=none/\p.1≠X.env.locals/\p.1∉X.fs/\∀v,p.2.data ≠ .cell v
 hok:gF X.prog X.w H s.heap
 len:Z.length=X.N.length
section
variable {X:Cx}{pz:List (Addr×Obj)}{Z:List (Option V)}{H H':Hp}{s:Shared}{h':Heap}
def Cx.Ok.nofr(ok:X.Ok){b:Addr}{o:Obj}(e:X.base.get? b=some o):b∉X.fs:=λhb=>by have:=(ok.funs.mem hb).1;rw[e] at this;cases this
def Inv.bs(I:Inv X pz Z H s):∀b o,X.base.get? b=some o->s.heap.get? b=some o/\H b=none:=λb o e =>
 ⟨I.base.keep b o (I.ok.bs b o e).1 (I.ok.bs b o e).2 (I.ok.nofr e) (I.ok.noex b o e),I.base.free b o (I.ok.bs b o e).1 (I.ok.bs b o e).2 (I.ok.noex b o e)⟩
def Inv.bk(I:Inv X pz Z H s):∀b o,X.base.get? b=some o->s.heap.get? b=some o:=λb o e=>(I.bs b o e).1
def Inv.mod(I:Inv X pz Z H s):Mod X.K X.mg X.base:=I.ok.mod
def Inv.kIn(I:Inv X pz Z H s):X.K.In s.heap:=I.ok.mod.kin.keeps I.bk
def Inv.lt(I:Inv X pz Z H s):X.env.locals<s.heap.objs.size:=let ⟨_,hn,_⟩:=I.loc;hn.lt
def Inv.sz(I:Inv X pz Z H s):X.s₀.heap.objs.size<=s.heap.objs.size:=Nat.le_trans I.ok.above (uJ I.lt)
theorem Inv.nofs(I:Inv X pz Z H s){a:Addr}(h:s.heap.objs.size<=a):a∉X.fs:=λhb=>by obtain⟨_,o,ho,_⟩:=I.ok.funs.mem hb;exact absurd (dU (cM ho) (Nat.le_trans I.sz h)) (gM _)
theorem Inv.cne(I:Inv X pz Z H s):∀x c,X.env.cells.lookup x=some c->c≠X.env.locals:=λx c e z=>by obtain⟨v,o,ho,hd⟩:=I.cell x c e;obtain⟨m,⟨o',es,ep,ho',hd',_⟩,_⟩:=I.loc;rw[z,ho'] at ho;cases ho;rw[hd'] at hd;cases hd
theorem Inv.funs(I:Inv X pz Z H s):s.heap.FunFrames X.base X.outer:=by
 have all:∀(l:List Env),(∀b∈frs l,b∈X.fs)->X.s₀.heap.FunFrames X.base l->s.heap.FunFrames X.base l:=by
  intro l
  induction l with
  |nil=>intro _ _;trivial
  |cons env r ih =>
   intro hs hl;obtain⟨hk,⟨L,o,hf,hn,ho,hd⟩,hr⟩:=hl;have hL:L∈X.fs:=hs L (by unfold frs;rw[List.filterMap_cons,hf];exact eZ);obtain⟨sl,e⟩:=I.base.slot L o ho (I.ok.frf L hL) hL λz=>I.ok.exfs L z hL;exact⟨hk,⟨L,_,hf,hn,e,hd⟩,ih (λb hb=>hs b (by unfold frs;rw[List.filterMap_cons,hf];exact cU _ hb)) hr⟩
 exact all X.outer (λ_ hb=>hb) I.ok.funs
theorem Inv.stack(I:Inv X pz Z H s):s.heap.FunFrames X.base X.stack:=by
 rcases I.ok.stk with e|⟨e,hf⟩
 .rw[e];exact I.funs
 .rw[e];obtain⟨m,hn,_⟩:=I.loc;refine .cons (by rw[I.ok.kind];decide) hf hn ?_ I.funs;exact Heap.get?_none_of_le (Nat.le_trans I.ok.bsz I.ok.above)
theorem Inv.stkSub(I:Inv X pz Z H s):∀b∈frs X.stack,b∈X.env.locals::X.fs:=λb hb=>by
 rcases I.ok.stk with e|⟨e,hf⟩
 .rw[e] at hb;exact cU _ hb
 .rw[e] at hb;unfold frs at hb;rw[List.filterMap_cons,hf] at hb;exact hb
theorem Inv.stkFree(I:Inv X pz Z H s):∀b∈frs X.stack,H b=none:=λb hb=>by
 rcases List.mem_cons.mp (I.stkSub b hb) with e|hb
 .rw[e];exact I.free
 .obtain⟨_,o,ho,_⟩:=I.ok.funs.mem hb;exact I.base.free b o ho (I.ok.frf b hb) λz=>I.ok.exfs b z hb
theorem Inv.step{g':Array GenState}{t':Nat}{d':Drawn}{ch:List Addr}(I:Inv X pz Z H s)(hch:∀b∈ch,(b∈X.ex\/X.s₀.heap.objs.size<=b)/\b≠X.env.locals/\(∀x c,X.env.cells.lookup x=some c->c≠b)/\∀p∈X.pn++pz,p.1≠b)(keep:∀b o,b≠X.env.locals->b∉X.fs->b∉ch->s.heap.get? b=some o->H b=none->h'.get? b=some o)(slot:∀b o,b≠X.env.locals->b∈X.fs->b∉ch->s.heap.get? b=some o->H b=none->∃sl,h'.get? b=some { o with slots:=sl })(free:∀b o,b∉ch->s.heap.get? b=some o->H b=none->H' b=none)(there:∀b o,b∉ch->s.heap.get? b=some o->∃o',h'.get? b=some o')(tups:∀b xs,H b=some (.tup xs)->H' b=some (.tup xs))(frzs:∀b o u,H b=some (.frz o u)->H' b=some (.frz o u))(tbls:∀b ps,H b=some (.tbl ps)->∃more,H' b=some (.tbl (ps++more)))(ns:∀m,s.heap.Ns X.env.locals m->h'.Ns X.env.locals m)(hok:gF X.prog X.w H' h')(hg:AllBare g'):
 Inv X pz Z H' { s with heap:=h',gens:=g',drawn:=d',toks:=t' }:=by
 have YW:∀b o,X.s₀.heap.get? b=some o->b≠X.env.locals:=λb o e=>dN (dU (cM e) I.ok.above);have t8:∀b o,X.s₀.heap.get? b=some o->b∉X.ex->b∉ch:=λb o e hx hb=>by
  rcases(hch b hb).1 with z|z
  .exact hx z
  .exact absurd (dU (cM e) z) (gM _)
 have cellK:∀x c,X.env.cells.lookup x=some c->∀v,s.heap.IsCell c v->h'.IsCell c v:=λx c e v ⟨o,ho,hd⟩=>by
  have o6:c∉ch:=λz=>(hch c z).2.2.1 x c e rfl;by_cases hc:c∈X.fs
  .obtain⟨sl,q⟩:=slot c o (I.cne x c e) hc o6 ho (I.freeC x c e);exact⟨_,q,hd⟩
  .exact⟨o,keep c o (I.cne x c e) hc o6 ho (I.freeC x c e),hd⟩
 refine⟨I.ok,I.os,hg,⟨λb o e n hb hx=>?_,λb o e n hb hx=>?_,λb o e n hx=>?_,λb o e hx=>?_,λb xs e=>tups b xs (I.base.tups b xs e),λb o xs e=>frzs b o xs (I.base.frzs b o xs e),λb ps e=>?_⟩,?_,λx c e=>?_,?_,λx c e=>?_,λp hp=>?_,hok,I.len⟩
 .exact keep b o (YW b o e) hb (t8 b o e hx) (I.base.keep b o e n hb hx) (I.base.free b o e n hx)
 .obtain⟨sl,e1⟩:=I.base.slot b o e n hb hx;obtain⟨sl',e2⟩:=slot b _ (YW b o e) hb (t8 b o e hx) e1 (I.base.free b o e n hx);exact⟨sl',e2⟩
 .obtain⟨o',e1⟩:=I.base.there b o e hx;exact free b o' (t8 b o e hx) e1 (I.base.free b o e n hx)
 .obtain⟨o',e1⟩:=I.base.there b o e hx;exact there b o' (t8 b o e hx) e1
 .obtain⟨m1,e1⟩:=I.base.tbls b ps e;obtain⟨m2,e2⟩:=tbls b _ e1;exact⟨m1++m2,by rw[e2,Array.append_assoc]⟩
 .obtain⟨m,hn,hl⟩:=I.loc;refine⟨m,ns m hn,λi x v e1 e2 e3=>?_⟩;obtain⟨u,r,l⟩:=hl i x v e1 e2 e3;refine⟨u,r,?_⟩;rcases l with l|⟨k,c,e,z⟩
  .exact .inl l
  .exact .inr ⟨k,c,e,cellK x c e _ z⟩
 .obtain⟨v,z⟩:=I.cell x c e;exact⟨v,cellK x c e v z⟩
 .obtain⟨m,⟨o,_,_,ho,_⟩,_⟩:=I.loc;exact free _ o (λz=>(hch _ z).2.1 rfl) ho I.free
 .obtain⟨v,o,ho,hd⟩:=I.cell x c e;exact free c o (λz=>(hch c z).2.2.1 x c e rfl) ho (I.freeC x c e)
 .obtain⟨e,n,ne,nf,d⟩:=I.pin p hp;have o6:p.1∉ch:=λz=>(hch p.1 z).2.2.2 p hp rfl;exact⟨keep p.1 p.2 ne nf o6 e n,free p.1 p.2 o6 e n,ne,nf,d⟩
theorem Inv.un{t':Nat}(I:Inv X pz Z H s)(u:Un X.fs [] H H' s.heap h')(hok:gF X.prog X.w H' h'):Inv X pz Z H' { s with heap:=h',toks:=t' }:=by
 obtain⟨m,⟨o,es,ep,ho,r⟩,_⟩:=id I.loc;obtain⟨sl,hL⟩:=u.any ho I.free (by simp);exact I.step (g':=s.gens) (d':=s.drawn) (ch:=[]) (λ_ z=>nomatch z) (λb o _ hb _ e n=>u.keep b o e n hb (by simp)) (λb o _ hb _ e n=>u.slot b o e n hb (by simp)) (λb o _ e n=>u.free b o e n (by simp)) (λb o _ e=>u.there b o e (by simp)) u.tups u.frzs u.tbls (λm' hm=>by
  obtain⟨o',es',ep',ho',r'⟩:=hm;rw[ho] at ho';cases ho';exact⟨_,es',ep',hL,r'⟩) hok I.bare
theorem Inv.call{g':Array GenState}{t':Nat}{d':Drawn}{ch:List Addr}(I:Inv X pz Z H s)(u:Un (frs X.stack) ch H H' s.heap h')(hok:gF X.prog X.w H' h')(hg:AllBare g')(hch:∀b∈ch,(b∈X.ex\/X.s₀.heap.objs.size<=b)/\b≠X.env.locals/\(∀x c,X.env.cells.lookup x=some c->c≠b)/\∀p∈X.pn++pz,p.1≠b):
 Inv X pz Z H' { s with heap:=h',gens:=g',drawn:=d',toks:=t' }:=by
 obtain⟨m,⟨o,es,ep,ho,r⟩,_⟩:=id I.loc;obtain⟨sl,hL⟩:=u.any ho I.free λz=>(hch _ z).2.1 rfl;exact I.step (ch:=ch) hch (λb o hL hb hc e n=>u.keep b o e n (λz=>(List.mem_cons.mp (I.stkSub b z)).elim hL hb) hc) (λb o _ _ hc e n=>u.any e n hc) (λb o hc e n=>u.free b o e n hc) (λb o hc e=>u.there b o e hc) u.tups u.frzs u.tbls (λm' hm=>by
  obtain⟨o',es',ep',ho',r'⟩:=hm;rw[ho] at ho';cases ho';exact⟨_,es',ep',hL,r'⟩) hok hg
theorem Inv.turned{t':Nat}{it:Addr}(I:Inv X pz Z H s)(k:∀b o,b≠it->s.heap.get? b=some o->h'.get? b=some o)(hn:H it=none)(hL:it≠X.env.locals)(h1:it∈X.ex\/X.s₀.heap.objs.size<=it)(h2:∀x c,X.env.cells.lookup x=some c->c≠it)(h3:∀p∈X.pn++pz,p.1≠it):Inv X pz Z H { s with heap:=h',toks:=t' }:=by
 have YS:∀b u,H b=some u->b≠it:=λb u e z=>by rw[z,hn] at e;cases e
 refine I.step (g':=s.gens) (d':=s.drawn) (ch:=[it]) (λb hb=>?_) (λb o _ _ hc e _=>k b o (λz=>hc (by simp[z])) e) (λb o _ _ hc e _=>⟨o.slots,k b o (λz=>hc (by simp[z])) e⟩) (λ_ _ _ _ n=>n)
  (λb o hc e=>⟨o,k b o (λz=>hc (by simp[z])) e⟩) (λ_ _ e=>e) (λ_ _ _ e=>e) (λb ps e=>⟨#[],by rw[e];simp⟩) (λm hm=>?_) (λb u e=>?_) I.bare
 .have e:b=it:=by simpa using hb
  subst e;exact⟨h1,hL,h2,h3⟩
 .obtain⟨o,es,ep,ho,r⟩:=hm;exact⟨o,es,ep,k _ o (Ne.symm hL) ho,r⟩
 .refine(I.hok b u e).stay (λc v hc q=>k c v ?_ q) (λ_ q=>q) λ_ _ q=>q;rcases hc with z|z
  .rw[z];exact YS b u e
  .exact YS c _ z
def Inv.tok(I:Inv X pz Z H s)(t:Nat):Inv X pz Z H { s with toks:=t }:=I.un (h':=s.heap) (t':=t) Un.refl I.hok
def Inv.kept{t':Nat}(I:Inv X pz Z H s)(k:∀b u,s.heap.get? b=some u->h'.get? b=some u):Inv X pz Z H { s with heap:=h',toks:=t' }:=I.un (Un.kept k) (I.hok.kept k)
def Inv.laid{a:Addr}{o:HO}{t':Nat}(I:Inv X pz Z H s)(k:∀b u,s.heap.get? b=some u->h'.get? b=some u)(hp:s.heap.objs.size<=a)(new:bT X.prog X.w (upd H a o) h' a o):
 Inv X pz Z (upd H a o) { s with heap:=h',toks:=t' }:=I.un (Un.laid k hp (I.hok.fresh hp)) (I.hok.laid k hp new)
def Inv.write{x e:Addr}{o:HO}{t':Nat}(I:Inv X pz Z H s)(mu:Hu (H x))(he:e=x\/H e=some (.own x))(k:∀b u,b≠e->s.heap.get? b=some u->h'.get? b=some u)(heo:∃u,h'.get? e=some u)(new:bT X.prog X.w (upd H x o) h' x o):Inv X pz Z (upd H x o) { s with heap:=h',toks:=t' }:=I.un (Un.write mu he k heo) (I.hok.write mu he k heo new)
def Inv.pins_of{t7:List (Addr×Obj)}(I:Inv X pz Z H s)(h:∀p∈t7,s.heap.get? p.1=some p.2/\H p.1=none/\p.1≠X.env.locals/\p.1∉X.fs/\∀v,p.2.data ≠ .cell v):Inv X t7 Z H s :=
 ⟨I.ok,I.os,I.bare,I.base,I.loc,I.cell,I.free,I.freeC,λp hp=>(lq.mp hp).elim (λz=>I.pin p (List.mem_append_left _ z)) (h p),I.hok,I.len⟩
theorem Um{N:List Str}(hN:N.Nodup){i j:Nat}{x:Str}(a:N[i]?=some x)(b:N[j]?=some x):i=j:=by obtain⟨h1,e1⟩:=fC.mp a;obtain⟨h2,e2⟩:=fC.mp b;exact(List.getElem_inj hN).mp (e1.trans e2.symm)
theorem zkx{M:Model}{A:Around}{E:Value->Shared->Prop}{i:Nat}{x:Str}{v:V}{u:Value}{Q:Unit->Shared->Prop}(I:Inv X pz Z H s)(hN:X.N.Nodup)(hi:X.N[i]?=some x)(hx:Loc X.env.scope x)(r:RelV v u)(h:∀s',Inv X pz (Z.set i (some v)) H s'->(∃a,Heap.SameBut a s.heap s'.heap/\(a=X.env.locals\/X.env.cells.lookup x=some a))->Q () s')(hf:X.fn x=true\/X.env.scope.names.lookup x=some .local:=by first|exact .inl rfl|exact .inr rfl|assumption):wpAny M A (storeName X.env x u) Q E s:=by
 obtain⟨m,hn,hl⟩:=id I.loc;have hcls:(X.env.scope.kind == .class||(X.env.scope.kind == .module&&X.env.locals != X.env.globals))=false:=by rw[I.ok.kind];rfl
 have hiσ:i<Z.length:=by rw[I.len];exact(fC.mp hi).1
 have cne:=I.cne;have tracked:∀{a:Addr} {h':Heap},(∃o,s.heap.get? a=some o/\H a=none)->Heap.SameBut a s.heap h'->gF X.prog X.w H h':=λ{a h'} ha hs b ob e=>by
  obtain⟨_,_,hfree⟩:=ha;refine(I.hok b ob e).stay (λc w' hc q=>(hs.2 c ?_).trans q) (λ_ q=>q) λ_ _ q=>q
  rintro rfl
  rcases hc with rfl|hc
  .rw[hfree] at e;cases e
  .rw[hfree] at hc;cases hc
 rcases hx with hk|hk
 .refine wpAny_storeName_local hk hn (λh' hn' hs=>?_) hcls;obtain⟨oL,_,_,hoL,_⟩:=id hn;refine h _ ⟨I.ok,I.os,I.bare,⟨λb o e n hb hx=>?_,λb o e n hb hx=>?_,I.base.free,λb o e hx=>?_,I.base.tups,I.base.frzs,I.base.tbls⟩,⟨_,hn',λj y v' e1 e2 e3=>?_⟩,λy c e=>?_,I.free,I.freeC,λp hp=>?_,tracked ⟨oL,hoL,I.free⟩ hs,by simpa using I.len⟩ ⟨_,hs,.inl rfl⟩
  .exact(hs.2 b (dN (dU (cM e) I.ok.above))).trans (I.base.keep b o e n hb hx)
  .obtain⟨sl,e1⟩:=I.base.slot b o e n hb hx;exact⟨sl,(hs.2 b (dN (dU (cM e) I.ok.above))).trans e1⟩
  .obtain⟨o',e1⟩:=I.base.there b o e hx;exact⟨o',(hs.2 b (dN (dU (cM e) I.ok.above))).trans e1⟩
  .by_cases hj:j=i
   .subst hj;rw[hi] at e1;cases e1;rw[List.getElem?_set_self hiσ] at e2;cases e2;exact⟨u,r,.inl ⟨hk,by simp⟩⟩
   .rw[List.getElem?_set_ne (Ne.symm hj)] at e2;obtain⟨u',r',q⟩:=hl j y v' e1 e2 e3;refine⟨u',r',?_⟩;rcases q with⟨k,e⟩|⟨k,c,e,z⟩
    .refine .inl ⟨k,?_⟩;have:y≠x:=λe=>hj (Um hN e1 (e ▸ hi));simp[this,e]
    .exact .inr ⟨k,c,e,z.sameBut hs (cne y c e)⟩
  .obtain⟨w',z⟩:=I.cell y c e;exact⟨w',z.sameBut hs (cne y c e)⟩
  .obtain⟨e,n,ne,nf,d⟩:=I.pin p hp;exact⟨(hs.2 p.1 ne).trans e,n,ne,nf,d⟩
 .have hfn:X.fn x=true:=by
   rcases hf with z|z
   .exact z
   .rw[z] at hk;cases hk
  obtain⟨c,hc⟩:=I.ok.has x (.inl hk);obtain⟨w',z⟩:=I.cell x c hc;refine wpAny_storeName_cell I.ok.kind hk hc z (λh' hc' hs=>?_);obtain⟨oc,hoc,Qa⟩:=id z;refine h { s with heap:=h' } ⟨I.ok,I.os,I.bare,⟨λb o e n hb hx=>?_,λb o e n hb hx=>?_,I.base.free,λb o e hx=>?_,I.base.tups,I.base.frzs,I.base.tbls⟩,⟨m,hn.sameBut hs (Ne.symm (cne x c hc)),λj y v' e1 e2 e3=>?_⟩,λy c' e=>?_,I.free,I.freeC,λp hp=>?_,tracked ⟨oc,hoc,I.freeC x c hc⟩ hs,by simpa using I.len⟩ ⟨c,hs,.inr hc⟩
  .exact(hs.2 b (dN (dU (cM e) (I.ok.cab x c hfn hc)))).trans (I.base.keep b o e n hb hx)
  .obtain⟨sl,e1⟩:=I.base.slot b o e n hb hx;exact⟨sl,(hs.2 b (dN (dU (cM e) (I.ok.cab x c hfn hc)))).trans e1⟩
  .obtain⟨o',e1⟩:=I.base.there b o e hx;exact⟨o',(hs.2 b (dN (dU (cM e) (I.ok.cab x c hfn hc)))).trans e1⟩
  .by_cases hj:j=i
   .subst hj;rw[hi] at e1;cases e1;rw[List.getElem?_set_self hiσ] at e2;cases e2;exact⟨u,r,.inr ⟨.inl hk,c,hc,hc'⟩⟩
   .rw[List.getElem?_set_ne (Ne.symm hj)] at e2;obtain⟨u',r',q⟩:=hl j y v' e1 e2 e3;refine⟨u',r',?_⟩;rcases q with q|⟨k,c',e,z'⟩
    .exact .inl q
    .refine .inr ⟨k,c',e,z'.sameBut hs ?_⟩
     rintro rfl
     exact hj (Um hN e1 (I.ok.inj _ _ _ e hc ▸ hi))
  .by_cases hcc:c'=c
   .subst hcc;exact⟨_,hc'⟩
   .obtain⟨w2,z2⟩:=I.cell y c' e;exact⟨w2,z2.sameBut hs hcc⟩
  .obtain⟨e,n,ne,nf,d⟩:=I.pin p hp;refine⟨(hs.2 p.1 ?_).trans e,n,ne,nf,d⟩;intro q;rw[q,hoc] at e;have q':oc=p.2:=Option.some.inj e;exact d w' (by rw[<-q'];exact Qa)
theorem Kf{M:Model}{A:Around}{E:Value->Shared->Prop}{i:Nat}{x:Str}{v:V}{u:Value}{Q:Unit->Shared->Prop}(I:Inv X pz Z H s)(hN:X.N.Nodup)(hi:X.N[i]?=some x)(hx:Loc X.env.scope x)(r:RelV v u)(h:∀s',Inv X pz (Z.set i (some v)) H s'->Q () s')(hf:X.fn x=true\/X.env.scope.names.lookup x=some .local:=by first|exact .inl rfl|exact .inr rfl|assumption):wpAny M A (storeName X.env x u) Q E s :=
 zkx I hN hi hx r (λs' I' _=>h s' I') hf
theorem Inv.call'{s':Shared}{ch:List Addr}(I:Inv X pz Z H s)(ho:s'.os=s.os)(u:Un (frs X.stack) ch H H' s.heap s'.heap)(hok:gF X.prog X.w H' s'.heap)(hg:AllBare s'.gens)(hch:∀b∈ch,(b∈X.ex\/X.s₀.heap.objs.size<=b)/\b≠X.env.locals/\(∀x c,X.env.cells.lookup x=some c->c≠b)/\∀p∈X.pn++pz,p.1≠b):Inv X pz Z H' s':=by obtain⟨h',g',d',t',o'⟩:=s';have e:o'=s.os:=ho;subst e;exact I.call (g':=g') (t':=t') (d':=d') u hok hg hch
end
abbrev XK:=Value->Option Addr->Hp->Prop
abbrev St:=List (Option V)
abbrev VK:=V->Hp->Prop
abbrev TE:=St->Hp->VK->Prop
abbrev TT:=St->Hp->(Bool->Hp->Prop)->Prop
abbrev TA:=St->Hp->(List V->Hp->Prop)->Prop
structure uV where
 nx:St->Hp->Prop
 rt:VK
 bk:St->Hp->Prop:=λ_ _=>False
 ct:St->Hp->Prop:=λ_ _=>False
abbrev TS:=uV->St->Hp->Prop
def EP(X:Cx)(pz:List (Addr×Obj))(Z:St)(Q:VK)(u:Value)(s':Shared):Prop:=∃v H',Inv X pz Z H' s'/\RelV v u/\Q v H'
def TP(X:Cx)(pz:List (Addr×Obj))(Z:St)(Q:Bool->Hp->Prop)(b:Bool)(s':Shared):Prop:=∃H',Inv X pz Z H' s'/\Q b H'
def AP(X:Cx)(pz:List (Addr×Obj))(Z:St)(Q:List V->Hp->Prop)(us:List Value)(s':Shared):Prop:=∃vs H',Inv X pz Z H' s'/\Vals vs us/\Q vs H'
noncomputable def SP(X:Cx)(pz:List (Addr×Obj))(D:uV)(f:Flow)(s':Shared):Prop :=
 match f with
 |.next=>∃Z' H',Inv X pz Z' H' s'/\D.nx Z' H'
 |.brk=>∃Z' H',Inv X pz Z' H' s'/\D.bk Z' H'
 |.cont=>∃Z' H',Inv X pz Z' H' s'/\D.ct Z' H'
 |.ret u=>∃v Z' H',Inv X pz Z' H' s'/\RelV v u/\D.rt v H'
noncomputable def PE(X:Cx)(e:Expr)(t:TE):Prop :=
 ∀(pz:List (Addr×Obj)) (s:Shared) (Z:St) (H:Hp) (Q:VK),Inv X pz Z H s->t Z H Q->wpAny (model X.prog X.w) X.A (eval e X.env) (EP X pz Z Q) X.xe s
noncomputable def PT(X:Cx)(e:Expr)(t:TT):Prop :=
 ∀(pz:List (Addr×Obj)) (s:Shared) (Z:St) (H:Hp) (Q:Bool->Hp->Prop),Inv X pz Z H s->t Z H Q->wpAny (model X.prog X.w) X.A (isTrue e X.env (eval e X.env)) (TP X pz Z Q) X.xe s
noncomputable def PW(X:Cx)(e:Expr)(t:TT):Prop :=
 ∀(whole:Sem Value) (pz:List (Addr×Obj)) (s:Shared) (Z:St) (H:Hp) (Q:Bool->Hp->Prop),Inv X pz Z H s->t Z H Q->wpAny (model X.prog X.w) X.A (isTrue e X.env whole) (TP X pz Z Q) X.xe s
def PW.pt{X:Cx}{e:Expr}{t:TT}(h:PW X e t):PT X e t:=h _
noncomputable def PA(X:Cx)(es:List Expr)(t:TA):Prop :=
 ∀(pos:Pos) (pz:List (Addr×Obj)) (s:Shared) (Z:St) (H:Hp) (Q:List V->Hp->Prop),Inv X pz Z H s->t Z H Q->wpAny (model X.prog X.w) X.A (spliced (backTo pos (starEach es X.env))) (AP X pz Z Q) X.xe s
noncomputable def PS(X:Cx)(st:Stmt)(t:TS):Prop :=
 ∀(pz:List (Addr×Obj)) (s:Shared) (Z:St) (H:Hp) (D:uV),Inv X pz Z H s->t D Z H->wpAny (model X.prog X.w) X.A (exec st X.env) (SP X pz D) X.xe s
noncomputable def jO(X:Cx)(st:List Stmt)(t:TS):Prop :=
 ∀(pz:List (Addr×Obj)) (s:Shared) (Z:St) (H:Hp) (D:uV),Inv X pz Z H s->t D Z H->wpAny (model X.prog X.w) X.A (execs st X.env) (SP X pz D) X.xe s
def bQ{α:Type}{t:Sem α}{Q Q':α->Shared->Prop}{M:Model}{A:Around}{E:Value->Shared->Prop}{s:Shared}(h:wpAny M A t Q E s)(hQ:∀a s,Q a s->Q' a s):wpAny M A t Q' E s:=kh h hQ λ_ _ x=>x
section
variable {X:Cx}
noncomputable def Od(i:Nat):TE:=λZ H Q=>∃v,Z[i]?=some (some v)/\Q v H
noncomputable def tC(v:V):TE:=λ_ H Q=>Q v H
theorem zrw{i:Nat}{x:Str}{pos:Pos}(hN:X.N[i]?=some x)(hv:Ht X.env.scope x)(hd:(x==("__debug__" : Str))=false:=by decide)(hcd:(x==("__classdict__" : Str))=false:=by decide):PE X (.Name x pos) (Od i):=by
 intro pz s Z H Q I h;obtain⟨v,e,h⟩:=h;obtain⟨m,hn,hl⟩:=I.loc;obtain⟨u,r,l⟩:=hl i x v hN e hv;have fin:EP X pz Z Q u s:=⟨v,H,I,r,h⟩
 rcases l with⟨hk,hm⟩|⟨hk,c,hc,hcell⟩
 .exact wpAny_Name (wpAny_loadName_local I.ok.kind hk hn hm fin) hd
 .rcases hk with hk|hk
  .exact wpAny_Name (wpAny_loadName_cell I.ok.kind hk hc hcell fin) hd
  .exact wpAny_Name (wpAny_loadName_free I.ok.kind hk hc hcell fin hcd) hd
def zrD{i j pos}:PE X (.Constant (.int i) j pos) (tC (.int i)):=λ_ _ _ H _ I h=>wpAny_Constant_int ⟨.int i,H,I.tok _,⟨_,rfl⟩,h⟩
def Z6{b j pos}:PE X (.Constant (.bool b) j pos) (tC (.bl b)):=λ_ _ _ H _ I h=>Constant_bool ⟨.bl b,H,I,rfl,h⟩
def zrB{j pos}:PE X (.Constant .none j pos) (tC .non):=λ_ _ _ H _ I h=>Constant_none ⟨.non,H,I,rfl,h⟩
def zry{x j pos}:PE X (.Constant (.str x) j pos) (tC (.str x)):=λ_ _ _ H _ I h=>Calls.Constant_str ⟨.str x,H,I.tok _,⟨_,rfl⟩,h⟩
def Gl(X:Cx)(x:Str):Prop:=X.env.kindOf x=some .globalImplicit
theorem Jr{E:Value->Shared->Prop}{pz:List (Addr×Obj)}{s:Shared}{Z:St}{H:Hp}{x:Str}{u:Value}{pos:Pos}{Q:Value->Shared->Prop}(I:Inv X pz Z H s)(hg:Gl X x)(hm:X.mg x=some u)(h:Q u s)(hd:(x==("__debug__" : Str))=false:=by decide):wpAny (model X.prog X.w) X.A (eval (.Name x pos) X.env) Q E s :=
 Calls.Name_function_global I.ok.kind hg (Calls.loadGlobal_global (by rw[I.ok.glob];exact I.mod.glob.keeps I.bk) hm h) hd
theorem qW{E:Value->Shared->Prop}{pz:List (Addr×Obj)}{s:Shared}{Z:St}{H:Hp}{x:Str}{u:Value}{pos:Pos}{Q:Value->Shared->Prop}(I:Inv X pz Z H s)(hg:Gl X x)(hm:X.mg x=none)(hv:bootBuiltins x=some u)(h:Q u s)(hn:x ≠ "__name__" := by decide)(hd:(x==("__debug__" : Str))=false:=by decide):wpAny (model X.prog X.w) X.A (eval (.Name x pos) X.env) Q E s:=by obtain⟨mb,h1,h2⟩:=I.mod.blt;exact Calls.Name_function_global I.ok.kind hg (Calls.loadGlobal_builtin (by rw[I.ok.glob];exact I.mod.glob.keeps I.bk) hm (by rw[I.ok.blt];exact h1.keeps I.bk) ((h2 x hn).trans hv) h) hd
theorem zpd{x:Str}{v:V}{u:Value}{pos:Pos}(hg:Gl X x)(hm:X.mg x=none)(hv:bootBuiltins x=some u)(r:RelV v u)(hn:x ≠ "__name__" := by decide)(hd:(x==("__debug__" : Str))=false:=by decide):PE X (.Name x pos) (tC v) :=
 λ_ _ _ H _ I h=>qW I hg hm hv ⟨v,H,I,r,h⟩ hn hd
variable {a b:Expr}{ta tb:TE}{pos:Pos}
variable {tA G6:TT}{rest:List Expr}
noncomputable def Ov(t u:TT):TT:=λZ H Q=>t Z H λc H1=>if c=true then u Z H1 Q else Q false H1
noncomputable def tOr(t u:TT):TT:=λZ H Q=>t Z H λc H1=>if c=true then Q true H1 else u Z H1 Q
noncomputable def Oj(t:TT):TT:=λZ H Q=>t Z H λc H1=>Q (!c) H1
theorem zoU(ha:PT X a tA):PW X (.BoolOp .And [a] pos) tA:=by
 intro wh pz s Z H Q I h;refine isTrue_and (bQ (ha pz s Z H Q I h) λc s1 e=>?_);cases c with
 |true=>exact isTrue_and_nil e
 |false=>exact e
theorem zrk(ha:PT X a tA):PW X (.BoolOp .Or [a] pos) tA:=by
 intro wh pz s Z H Q I h;refine isTrue_or (bQ (ha pz s Z H Q I h) λc s1 e=>?_);cases c with
 |false=>exact isTrue_or_nil e
 |true=>exact e
theorem zrl(ha:PT X a tA)(hb:PW X (.BoolOp .And (b::rest) pos) G6):PW X (.BoolOp .And (a::b::rest) pos) (Ov tA G6):=by
 intro wh pz s Z H Q I h;refine isTrue_and (bQ (ha pz s Z H _ I h) λc s1 ⟨H1,I1,q1⟩=>?_);cases c with
 |true=>exact hb wh pz s1 Z H1 Q I1 q1
 |false=>exact⟨H1,I1,q1⟩
theorem zsE(ha:PT X a tA)(hb:PW X (.BoolOp .Or (b::rest) pos) G6):PW X (.BoolOp .Or (a::b::rest) pos) (tOr tA G6):=by
 intro wh pz s Z H Q I h;refine isTrue_or (bQ (ha pz s Z H _ I h) λc s1 ⟨H1,I1,q1⟩=>?_);cases c with
 |true=>exact⟨H1,I1,q1⟩
 |false=>exact hb wh pz s1 Z H1 Q I1 q1
def zrm(ha:PT X a tA):PT X (.UnaryOp .Not a pos) (Oj tA):=by intro pz s Z H Q I h;exact isTrue_not (ha pz s Z H (λc H1=>Q (!c) H1) I h)
noncomputable def Bx(ta tb:TE):TE:=λZ H Q=>ta Z H λx H1=>∃c,x = .bl c/\if c=true then tb Z H1 Q else Q (.bl false) H1
noncomputable def Oi(ta tb:TE):TE:=λZ H Q=>ta Z H λx H1=>∃c,x = .bl c/\if c=true then Q (.bl true) H1 else tb Z H1 Q
noncomputable def Bp(ta:TE):TE:=λZ H Q=>ta Z H λx H1=>∃c,x = .bl c/\Q (.bl (!c)) H1
def zrz{op}{t:TE}(h:PE X a t):PE X (.BoolOp op [a] pos) t:=λpz s Z H Q I hw=>BoolOp_one (h pz s Z H Q I hw)
theorem zrG(ha:PE X a ta)(hb:PE X (.BoolOp .And (b::rest) pos) tb):PE X (.BoolOp .And (a::b::rest) pos) (Bx ta tb):=by
 intro pz s Z H Q I h;refine BoolOp_and (bQ (ha pz s Z H _ I h) λv s1 ⟨x,H1,I1,r1,q1⟩=>?_);obtain⟨c,rfl,q1⟩:=q1;cases r1;refine wpAny_truthy_bool ?_;cases c with
 |true=>exact hb pz s1 Z H1 Q I1 q1
 |false=>exact⟨.bl false,H1,I1,rfl,q1⟩
theorem zsH(ha:PE X a ta)(hb:PE X (.BoolOp .Or (b::rest) pos) tb):PE X (.BoolOp .Or (a::b::rest) pos) (Oi ta tb):=by
 intro pz s Z H Q I h;refine BoolOp_or (bQ (ha pz s Z H _ I h) λv s1 ⟨x,H1,I1,r1,q1⟩=>?_);obtain⟨c,rfl,q1⟩:=q1;cases r1;refine wpAny_truthy_bool ?_;cases c with
 |false=>exact hb pz s1 Z H1 Q I1 q1
 |true=>exact⟨.bl true,H1,I1,rfl,q1⟩
theorem zrA(ha:PE X a ta):PE X (.UnaryOp .Not a pos) (Bp ta):=by intro pz s Z H Q I h;refine UnaryOp_ (bQ (ha pz s Z H _ I h) λv s1 ⟨x,H1,I1,r1,q1⟩=>?_);obtain⟨c,rfl,q1⟩:=q1;cases r1;exact not_of (wpAny_truthy_bool ⟨.bl (!c),H1,I1,rfl,q1⟩)
noncomputable def tIf(t:TT)(ta tb:TE):TE:=λZ H Q=>t Z H λc H1=>if c=true then ta Z H1 Q else tb Z H1 Q
theorem zmW{c:Expr}(hc:PT X c tA)(ha:PE X a ta)(hb:PE X b tb):PE X (.IfExp c a b pos) (tIf tA ta tb):=by
 intro pz s Z H Q I h;refine wpAny_IfExp (bQ (hc pz s Z H _ I h) λd s1 ⟨H1,I1,q1⟩=>?_);cases d with
 |true=>exact ha pz s1 Z H1 Q I1 q1
 |false=>exact hb pz s1 Z H1 Q I1 q1
end
noncomputable def d8(K:FgA)(H:Hp)(a:Addr)(xs:List V):Prop :=
 Rd H a (.lst xs) \/
  ∃(o:Obj) (its:Array Value) (n:Nat),K.lookup a=some o/\o.cls = .type "list" /\ o.dict=none/\o.data = .seq its n/\its.size<=sizeLine/\Vals xs its.toList
noncomputable def dR(K:FgA)(H:Hp)(a:Addr)(xs:List V):Prop :=
 Rd H a (.tup xs) \/
  ∃(o:Obj) (its:Array Value) (n:Nat),K.lookup a=some o/\o.cls = .type "tuple" /\ o.data = .seq its n/\its.size<=sizeLine/\Vals xs its.toList
noncomputable def Qu:Value->Option V
 |.none=>some .non
 |.bool b=>some (.bl b)
 |.int i _=>some (.int i)
 |.str x _=>some (.str x)
 |.bytes b _=>some (.byt b)
 |.float b _=>some (.flt b)
 |.ref a=>some (.ref a)
 |.type n=>some (.ty n)
 |_=>none
theorem RelV.abs{x:V}{u:Value}(r:RelV x u):Qu u=some x:=by
 cases x with
 |non=>cases r;rfl
 |bl _=>cases r;rfl
 |int _=>obtain⟨t,rfl⟩:=r;rfl
 |str _=>obtain⟨t,rfl⟩:=r;rfl
 |byt _=>obtain⟨t,rfl⟩:=r;rfl
 |flt _=>obtain⟨t,rfl⟩:=r;rfl
 |ref _=>cases r;rfl
 |ty _=>cases r;rfl
def RelV.inj{x y:V}{u:Value}(r:RelV x u)(q:RelV y u):x=y:=Option.some.inj (r.abs.symm.trans q.abs)
theorem Vals.inj:∀{xs ys:List V} {us:List Value},Vals xs us->Vals ys us->xs=ys
 |_,_,_,.nil,.nil=>rfl
 |_,_,_,.cons r t,.cons r' t'=>by rw[r.inj r',Vals.inj t t']
section
variable {X:Cx}{pz:List (Addr×Obj)}{Z:St}{H:Hp}{s:Shared}{a:Addr}{xs ys:List V}
def d8.of{K:FgA}(h:H a=some (.lst xs)):d8 K H a xs := .inl (.inl h)
def dR.of{K:FgA}(h:H a=some (.tup xs)):dR K H a xs := .inl (.inl h)
theorem Inv.list(I:Inv X pz Z H s)(h:d8 X.K H a xs):∃its:List Value,Vals xs its/\PlainL s.heap a its.toArray/\xs.length<=sizeLine:=by
 rcases h with h|⟨o,its,n,hk,hc,hd,hs,hz,r⟩
 .obtain⟨z,its,n,r,e⟩:=h.ok I.hok;exact⟨its,r,⟨_,n,e,rfl,rfl,rfl⟩,z⟩
 .refine⟨its.toList,r,⟨o,n,I.kIn a o hk,hc,hd,by simpa using hs⟩,?_⟩;have e:=r.length;simp only[Array.length_toList] at e;omega
theorem Inv.tuple(I:Inv X pz Z H s)(h:dR X.K H a xs):∃its:List Value,Vals xs its/\IsTup s.heap a its.toArray/\xs.length<=sizeLine:=by
 rcases h with h|⟨o,its,n,hk,hc,hs,hz,r⟩
 .obtain⟨z,its,r,p⟩:=h.ok I.hok;exact⟨its,r,p,z⟩
 .refine⟨its.toList,r,⟨o,I.kIn a o hk,hc,n,by simpa using hs⟩,?_⟩;have e:=r.length;simp only[Array.length_toList] at e;omega
theorem Inv.list_inj(I:Inv X pz Z H s)(h:d8 X.K H a xs)(h':d8 X.K H a ys):xs=ys:=by
 obtain⟨its,r,⟨o,n,e,_,_,d⟩,_⟩:=I.list h;obtain⟨its',r',⟨o',n',e',_,_,d'⟩,_⟩:=I.list h';rw[e] at e';cases e';rw[d] at d';injection d' with d1 _;have:its=its':=by simpa using congrArg Array.toList d1
 subst this;exact r.inj r'
theorem Inv.tuple_inj(I:Inv X pz Z H s)(h:dR X.K H a xs)(h':dR X.K H a ys):xs=ys:=by
 obtain⟨its,r,⟨o,e,_,n,d⟩,_⟩:=I.tuple h;obtain⟨its',r',⟨o',e',_,n',d'⟩,_⟩:=I.tuple h';rw[e] at e';cases e';rw[d] at d';injection d' with d1 _;have:its=its':=by simpa using congrArg Array.toList d1
 subst this;exact r.inj r'
end
abbrev Cx.wish(X:Cx)(E:Value->Shared->Prop):Cx:={ X with xe:=E }
abbrev Cx.nox(X:Cx):Cx:=X.wish λ_ _=>False
def Cx.Ok.wish{X:Cx}(ok:X.Ok)(E:Value->Shared->Prop):(X.wish E).Ok :=
 ⟨ok.mod,ok.kind,ok.glob,ok.blt,ok.above,ok.inj,ok.has,ok.cab,ok.hd,ok.frames,ok.stk,ok.exf,ok.bs,ok.bsz,ok.noex,ok.exfs,ok.funs,ok.frf⟩
def Cx.Ok.unwish{X:Cx}{E:Value->Shared->Prop}(ok:(X.wish E).Ok):X.Ok :=
 ⟨ok.mod,ok.kind,ok.glob,ok.blt,ok.above,ok.inj,ok.has,ok.cab,ok.hd,ok.frames,ok.stk,ok.exf,ok.bs,ok.bsz,ok.noex,ok.exfs,ok.funs,ok.frf⟩
section
variable {X:Cx}{pz:List (Addr×Obj)}{Z:St}{H:Hp}{s:Shared}{E:Value->Shared->Prop}
def Inv.wish(I:Inv X pz Z H s)(E:Value->Shared->Prop):Inv (X.wish E) pz Z H s:=⟨I.ok.wish E,I.os,I.bare,I.base,I.loc,I.cell,I.free,I.freeC,I.pin,I.hok,I.len⟩
def Inv.unwish(I:Inv (X.wish E) pz Z H s):Inv X pz Z H s:=⟨I.ok.unwish,I.os,I.bare,I.base,I.loc,I.cell,I.free,I.freeC,I.pin,I.hok,I.len⟩
theorem SP.unwish{D:uV}{f:Flow}{s':Shared}(h:SP (X.wish E) pz D f s'):SP X pz D f s':=by
 cases f with
 |next=>obtain⟨Z',H',I,q⟩:=h;exact⟨Z',H',I.unwish,q⟩
 |brk=>obtain⟨Z',H',I,q⟩:=h;exact⟨Z',H',I.unwish,q⟩
 |cont=>obtain⟨Z',H',I,q⟩:=h;exact⟨Z',H',I.unwish,q⟩
 |ret u=>obtain⟨v,Z',H',I,r,q⟩:=h;exact⟨v,Z',H',I.unwish,r,q⟩
def PE.nox{e:Expr}{t:TE}(h:PE X.nox e t):PE X e t:=λpz s Z H Q I hw =>
 kh (h pz s Z H Q (I.wish _) hw) (λ_ _ ⟨v,H',I',r,q⟩=>⟨v,H',I'.unwish,r,q⟩) λ_ _ z=>False.elim z
def jO.nox{st:List Stmt}{t:TS}(h:jO X.nox st t):jO X st t:=λpz s Z H D I hw =>
 kh (h pz s Z H D (I.wish _) hw) (λ_ _ q=>q.unwish) λ_ _ z=>False.elim z
end
section
variable {X:Cx}{st:Stmt}{rest:List Stmt}{t u:TS}{e:Expr}{te:TE}{pos:Pos}
noncomputable def HW:TS:=λD Z H=>D.nx Z H
noncomputable def Og(t u:TS):TS:=λD Z H=>t { D with nx:=u D } Z H
def zoY:jO X [] HW:=λ_ _ Z H _ I h=>wpAny_execs_nil ⟨Z,H,I,h⟩
theorem zmM(h1:PS X st t)(h2:jO X rest u):jO X (st::rest) (Og t u):=by
 intro pz s Z H D I h;refine wpAny_execs_cons (bQ (h1 pz s Z H { D with nx:=u D } I h) λf s1 q=>?_);cases f with
 |next =>
  obtain⟨Z',H',I',q⟩:=q;exact h2 pz s1 Z' H' D I' q
 |ret v=>exact q
 |brk=>exact q
 |cont=>exact q
noncomputable def vU:TS:=λD Z H=>D.bk Z H
noncomputable def Bt:TS:=λD Z H=>D.ct Z H
def zo0:PS X (.Pass pos) HW:=λ_ _ Z H _ I h=>wpAny_Pass ⟨Z,H,I,h⟩
def zmP:PS X (.Break pos) vU:=λ_ _ Z H _ I h=>wpAny_Break ⟨Z,H,I,h⟩
def zit:PS X (.Continue pos) Bt:=λ_ _ Z H _ I h=>wpAny_Continue ⟨Z,H,I,h⟩
def Inv.quiet{pz:List (Addr×Obj)}{Z:St}{H:Hp}{s:Shared}(I:Inv X pz Z H s):interactive X.env=false:=by simp[interactive,I.ok.kind]
def zrr{x j pos pos'}:PS X (.Expr (.Constant (.str x) j pos) pos') HW:=λ_ s Z H _ I h=>wpAny_Expr (Calls.Constant_str (show SP X _ _ .next { s with toks:=s.toks+1 } from⟨Z,H,I.tok _,h⟩)) I.quiet
noncomputable def Bs(te:TE):TS:=λD Z H=>te Z H λ_ H1=>D.nx Z H1
theorem zo1(he:PE X e te)(hs:swapsWith e none pos.line X.env=pure false:=by rfl):PS X (.Expr e pos) (Bs te):=by intro pz s Z H D I h;exact wpAny_Expr_any (bQ (he pz s Z H _ I h) λv s1 ⟨x,H1,I1,r1,q1⟩=>⟨Z,H1,I1,q1⟩) I.quiet hs
noncomputable def Oh(te:TE):TS:=λD Z H=>te Z H D.rt
theorem zro(he:PE X e te):PS X (.Return (some e) pos) (Oh te):=by intro pz s Z H D I h;exact wpAny_Return_some (bQ (he pz s Z H _ I h) λv s1 ⟨x,H1,I1,r1,q1⟩=>⟨x,Z,H1,I1,r1,q1⟩)
noncomputable def Bm:TS:=λD _ H=>D.rt .non H
def zoZ:PS X (.Return none pos) Bm:=λ_ _ Z H _ I h=>wpAny_Return_none ⟨.non,Z,H,I,rfl,h⟩
noncomputable def Oo(c:TT)(t u:TS):TS:=λD Z H=>c Z H λb H1=>if b=true then t D Z H1 else u D Z H1
theorem zsF{c:Expr}{a b:List Stmt}{tc:TT}(hc:PT X c tc)(ha:jO X a t)(hb:jO X b u):PS X (.If c a b pos) (Oo tc t u):=by
 intro pz s Z H D I h;refine wpAny_If (bQ (hc pz s Z H _ I h) λd s1 ⟨H1,I1,q1⟩=>?_);cases d with
 |true=>exact ha pz s1 Z H1 D I1 q1
 |false=>exact hb pz s1 Z H1 D I1 q1
end
abbrev TG:=V->St->Hp->(St->Hp->Prop)->Prop
abbrev qC:=List V->St->Hp->(St->Hp->Prop)->Prop
noncomputable def PG(X:Cx)(target:Expr)(t:TG):Prop :=
 ∀(pz:List (Addr×Obj)) (s:Shared) (Z:St) (H:Hp) (v:V) (u:Value) (Q:St->Hp->Prop),Inv X pz Z H s->RelV v u->t v Z H Q ->
  wpAny (model X.prog X.w) X.A (assign target X.env u) (λ_ s'=>∃Z' H',Inv X pz Z' H' s'/\Q Z' H') X.xe s
noncomputable def zA(X:Cx)(ts:List Expr)(t:qC):Prop :=
 ∀(pz:List (Addr×Obj)) (s:Shared) (Z:St) (H:Hp) (vs:List V) (us:List Value) (Q:St->Hp->Prop),Inv X pz Z H s->Vals vs us->t vs Z H Q ->
  wpAny (model X.prog X.w) X.A (assignInOrder ((assignEach ts X.env).map (·.2)) us) (λ_ s'=>∃Z' H',Inv X pz Z' H' s'/\Q Z' H') X.xe s
section
variable {X:Cx}{pos:Pos}
noncomputable def uh(i:Nat):TG:=λv Z H Q=>Q (Z.set i (some v)) H
theorem zo8{i:Nat}{x:Str}(hN:X.N.Nodup)(hi:X.N[i]?=some x)(hx:Loc X.env.scope x)(hf:X.fn x=true\/X.env.scope.names.lookup x=some .local:=by first|exact .inl rfl|exact .inr rfl|assumption):PG X (.Name x pos) (uh i):=by intro pz s Z H v u Q I r h;exact wpAny_assign_Name (Kf I hN hi hx r (λs' I'=>⟨_,H,I',h⟩) hf)
noncomputable def Qi:qC:=λvs Z H Q=>vs=[]/\Q Z H
noncomputable def Dq(t:TG)(u:qC):qC:=λvs Z H Q=>∃v r,vs=v::r/\t v Z H λZ' H'=>u r Z' H' Q
def zo6:zA X [] Qi:=by intro pz s Z H vs us Q I r h;obtain⟨e,h⟩:=h;subst e;cases r;exact assignInOrder_nil ⟨Z,H,I,h⟩
theorem zmT{e:Expr}{es:List Expr}{t:TG}{u:qC}(h1:PG X e t)(h2:zA X es u)(hs:(assignEach (e::es) X.env).map (·.2)=assign e X.env::(assignEach es X.env).map (·.2):=by rfl):zA X (e::es) (Dq t u):=by
 intro pz s Z H vs us Q I r h;obtain⟨v,vr,e1,h⟩:=h;subst e1;cases r with
 |cons r rr =>
  rw[hs];refine assignInOrder_cons (bQ (h1 pz s Z H _ _ _ I r h) λ_ s1 ⟨σ1,H1,I1,q1⟩=>?_);exact h2 pz s1 σ1 H1 _ _ Q I1 rr q1
noncomputable def bZ(K:FgA)(n:Nat)(t:qC):TG:=λv Z H Q=>∃a xs,v = .ref a/\dR K H a xs/\xs.length=n/\t xs Z H Q
theorem zrv{es:List Expr}{k:Nat}{t:qC}{n:Nat}(hc:X.calm=true)(h:zA X es t)(hn:(assignEach es X.env).length=n:=by rfl)(hst:(assignEach es X.env).findIdx? (·.1)=none:=by rfl):PG X (.Tuple es k pos) (bZ X.K n t):=by intro pz s Z H v u Q I r hw;obtain⟨a,xs,e1,hq,hl,hw⟩:=hw;subst e1;cases r;obtain⟨its,rv,ht,hz⟩:=I.tuple hq;refine assign_Tuple_tuple (I.ok.hd hc) ht (by simp[hn,<-hl,rv.length]) hst λh' hx=>?_;have I1:Inv X pz Z H { s with heap:=h' }:=I.kept (t':=s.toks) λb o e=>hx b o (dN (cM e)) e;exact h pz _ Z H xs _ Q I1 (by simpa using rv) hw
noncomputable def Bw(te:TE)(g:TG):TS:=λD Z H=>te Z H λx H1=>g x Z H1 D.nx
theorem zrs{tg e:Expr}{te:TE}{g:TG}(he:PE X e te)(hg:PG X tg g)(hs:swapsWithSole [tg] e pos.line X.env=pure false:=by rfl)(hw:swappedStores [tg] e X.env=pure none:=by rfl)(h1:(assignEach [tg] X.env).map (·.2)=[assign tg X.env]:=by rfl):PS X (.Assign [tg] e pos) (Bw te g):=by intro pz s Z H D I h;refine wpAny_Assign_stores (bQ (he pz s Z H _ I h) λv s1 ⟨x,H1,I1,r1,q1⟩=>?_) hs hw;rw[h1];exact bQ (hg pz s1 Z H1 x v _ I1 r1 q1) λ_ s2 q=>q
theorem zrn{i:Nat}{x:Str}{e:Expr}{te:TE}{pos':Pos}(hN:X.N.Nodup)(hi:X.N[i]?=some x)(hx:Loc X.env.scope x)(he:PE X e te)(hs:swapsWith e (some (.Name x pos')) pos.line X.env=pure false:=by rfl)(hf:X.fn x=true\/X.env.scope.names.lookup x=some .local:=by first|exact .inl rfl|exact .inr rfl|assumption):
 PS X (.Assign [.Name x pos'] e pos) (Bw te (uh i)):=by
 intro pz s Z H D I h;refine wpAny_Assign_Name (bQ (he pz s Z H _ I h) λv s1 ⟨y,H1,I1,r1,q1⟩=>?_) hs;exact Kf I1 hN hi hx r1 (λs2 I2=>⟨_,H1,I2,q1⟩) hf
end
section
variable {X:Cx}{pos:Pos}
noncomputable def vR(c:TT)(tb:TS):TS:=λD Z H=>∃W:Nat->St->Hp->Prop,(∃m,W m Z H)/\∀m Z H,W m Z H ->
 c Z H λb H1=>if b=true then ∃N:St->Hp->Prop,(∀Z' H',N Z' H'->∃m',m'<m/\W m' Z' H')/\tb { D with nx:=N,ct:=N,bk:=D.nx } Z H1 else D.nx Z H1
theorem zmN{c:Expr}{body:List Stmt}{tc:TT}{tb:TS}(hp:PassesOwn (model X.prog X.w) X.A X.env X.xe)(hc:PT X c tc)(hb:jO X body tb):PS X (.While c body [] pos) (vR tc tb):=by
 intro pz s Z H D I h;obtain⟨W,⟨m0,w0⟩,turn⟩:=h;refine wpAny_While (codeAny_whileLoop (λn s'=>∃Z' H',Inv X pz Z' H' s'/\W n Z' H') ?_ m0 ⟨Z,H,I,w0⟩)
 rintro n s1 ⟨σ1,H1,I1,w1⟩
 refine wpAny_passesOwn hp (bQ (hc pz s1 σ1 H1 _ I1 (turn n σ1 H1 w1)) λb s2 ⟨H2,I2,q2⟩=>?_);cases b with
 |true =>
  obtain⟨N,hN,q2⟩:=q2;rw[if_pos rfl];refine wpAny_passesOwn hp (bQ (hb pz s2 σ1 H2 _ I2 q2) λf s3 q3=>?_);cases f with
  |next =>
   obtain⟨σ3,H3,I3,n3⟩:=q3;obtain⟨m',hm,w3⟩:=hN σ3 H3 n3;exact⟨m',hm,σ3,H3,I3,w3⟩
  |cont =>
   obtain⟨σ3,H3,I3,n3⟩:=q3;obtain⟨m',hm,w3⟩:=hN σ3 H3 n3;exact⟨m',hm,σ3,H3,I3,w3⟩
  |brk=>exact q3
  |ret v=>exact q3
 |false =>
  rw[if_neg gK];exact wpAny_execs_nil ⟨σ1,H2,I2,q2⟩
end
structure It where
 go:Nat->Hp->Prop
 yld:Nat->Hp->V->Hp->Prop
 stop:Nat->Hp->Prop
noncomputable def kE(X:Cx)(pz:List (Addr×Obj))(H:Hp)(b:Addr):Prop :=
 H b=none/\b≠X.env.locals/\b∉X.fs/\(b∈X.ex\/X.s₀.heap.objs.size<=b)/\(∀x c,X.env.cells.lookup x=some c->c≠b)/\∀p∈X.pn++pz,p.1≠b
theorem Inv.fpOk{X:Cx}{pz:List (Addr×Obj)}{Z:St}{H H':Hp}{s:Shared}{b:Addr}(I:Inv X pz Z H s)(hb:s.heap.objs.size<=b)(hn:H' b=none):kE X pz H' b:=by
 refine⟨hn,Nat.ne_of_gt (dU I.lt hb),I.nofs hb,.inr (Nat.le_trans I.sz hb),λx c e z=>?_,λp hp z=>?_⟩
 .obtain⟨v,q⟩:=I.cell x c e;exact absurd (dU q.lt (by rw[z];exact hb)) (gM _)
 .exact absurd (dU (cM (I.pin p hp).1) (by rw[z];exact hb)) (gM _)
structure uZ(P:Program)(w:World)(K:FgA)(tg:Expr)(J:It)(fp:List Addr)(it:Addr)(tn:Nat->Heap->Prop):Prop where
 mem:it∈fp
 obj:∀i h,tn i h->∀b∈fp,∃o,h.get? b=some o/\∀v,o.data ≠ .cell v
 keep:∀i h h',tn i h->(∀b∈fp,∀o,h.get? b=some o->h'.get? b=some o)->tn i h'
 item:∀(X:Cx),X.prog=P->X.w=w->X.K=K->X.calm=true->∀(i:Nat) (pz:List (Addr×Obj)) (s:Shared) (Z:St) (H:Hp) (E:Value->Shared->Prop),Inv X pz Z H s->(∀b∈fp,kE X pz H b)->tn i s.heap->J.go i H ->
  wpAny (model P w) X.A (pyNext (.ref it)) (λr s1=>∃u,r=some u /\
   wpAny (model P w) X.A (letOwnedTupleGo tg (.ref it) u) (λ_ s2=>∃x H',Inv X pz Z H' s2/\RelV x u/\J.yld i H x H'/\tn (i+1) s2.heap/\∀b∈fp,H' b=none) E s1) E s
 done:∀(X:Cx),X.prog=P->X.w=w->X.K=K->X.calm=true->∀(i:Nat) (pz:List (Addr×Obj)) (s:Shared) (Z:St) (H:Hp) (E:Value->Shared->Prop),Inv X pz Z H s->(∀b∈fp,kE X pz H b)->tn i s.heap->J.stop i H ->
  wpAny (model P w) X.A (pyNext (.ref it)) (λr s1=>r=none/\Inv X pz Z H s1) E s
 self:∀(A:Around) (i:Nat) (s:Shared) (Q:Value->Shared->Prop) (E:Value->Shared->Prop),tn i s.heap->Q (.ref it) s->wpAny (model P w) A (pyIter (.ref it)) Q E s
abbrev TI:=St->Hp->(It->Hp->Prop)->Prop
noncomputable def PIE(X:Cx)(pz:List (Addr×Obj))(Z:St)(tg:Expr)(R:It->Hp->Prop)(itv:Value)(s2:Shared):Prop :=
 ∃(it:Addr) (fp:List Addr) (tn:Nat->Heap->Prop) (J:It) (H':Hp),itv = .ref it/\Inv X pz Z H' s2/\uZ X.prog X.w X.K tg J fp it tn/\tn 0 s2.heap/\(∀b∈fp,kE X pz H' b)/\R J H'
noncomputable def PI(X:Cx)(tg iter:Expr)(wi:TI):Prop :=
 ∀(pz:List (Addr×Obj)) (s:Shared) (Z:St) (H:Hp) (R:It->Hp->Prop),Inv X pz Z H s->wi Z H R ->
  wpAny (model X.prog X.w) X.A (eval iter X.env) (λv s1=>wpAny (model X.prog X.w) X.A (pyIter v) (PIE X pz Z tg R) X.xe s1) X.xe s
theorem IK{M:Model}{A:Around}{E:Value->Shared->Prop}{s:Shared}{tg:Expr}{it:Addr}{u:Value}{o:Obj}{n:String}{vs:Array Value}{Q:Unit->Shared->Prop}(ho:s.heap.get? it=some o)(hc:o.cls = .type n)(hd:o.data = .fields vs)(hn:["enumerate", "zip", "dict_itemiterator", "dict_reverseitemiterator", "odict_iterator", "itertools.zip_longest", "itertools.pairwise"].contains n=false)(hQ:Q () s):wpAny M A (letOwnedTupleGo tg (.ref it) u) Q E s:=by
 unfold letOwnedTupleGo;cases tg<;>first
  |exact bW hQ
  | (cases u<;>first
   |exact bW hQ
   | (refine aP (wpAny_load ho ?_)
      rw[hc,hd];show wpAny M A (if(["enumerate", "zip", "dict_itemiterator", "dict_reverseitemiterator", "odict_iterator", "itertools.zip_longest", "itertools.pairwise"].contains n&&vs[0]?==some (rawInt _))=true then _ else _) Q E s;rw[if_neg (by intro h;rw[hn,Bool.false_and] at h;cases h)];exact bW hQ))
noncomputable def zB(K:FgA)(a:Addr):It :=
 ⟨λi H=>∃xs x,d8 K H a xs/\xs[i]?=some x,λi H x H'=>H'=H/\∀xs,d8 K H a xs->xs[i]?=some x,λi H=>∃xs,d8 K H a xs/\xs.length<=i⟩
noncomputable def Qy(K:FgA)(a:Addr):It :=
 ⟨λi H=>∃xs x,dR K H a xs/\xs[i]?=some x,λi H x H'=>H'=H/\∀xs,dR K H a xs->xs[i]?=some x,λi H=>∃xs,dR K H a xs/\xs.length<=i⟩
noncomputable def DW(lo:Int)(n:Nat):It:=⟨λi _=>i<n,λi H x H'=>H'=H/\x = .int (lo+i),λi _=>n<=i⟩
theorem zkq{P:Program}{w:World}{K:FgA}{tg:Expr}(a it:Addr):uZ P w K tg (zB K a) [it] it (λi h=>h.IsListIter it a i) where
 mem:=by simp
 obj:=λi h st b hb=>by
  have e:b=it:=by simpa using hb
  subst e;obtain⟨o,e,c,d⟩:=st;exact⟨o,e,λv z=>by rw[d] at z;cases z⟩
 keep:=λi h h' st k=>st.at λo e=>k it (by simp) o e
 item:=by intro X hP hw hK hc i pz s Z H E I hf st hg;subst hP hw hK;obtain⟨xs,x,hq,hx⟩:=hg;obtain⟨its,rv,p,hz⟩:=I.list hq;obtain⟨u,hu,ru⟩:=rv.get hx;obtain⟨f0,f1,f2,f3,f4,f5⟩:=hf it (by simp);refine wpAny_pyNext_list_item st p.isList (x:=u) (by simpa using hu) λh' st' sb=>?_;have I1:Inv X pz Z H { s with heap:=h' }:=I.turned (t':=s.toks) (λb o hb e=>(sb.2 b hb).trans e) f0 f1 f3 f4 f5;obtain⟨o,e,c,d⟩:=id st';exact⟨u,rfl,IK (s:={ s with heap:=h' }) e c d (by decide) ⟨x,H,I1,ru,⟨rfl,λys hy=>by rw[I.list_inj hy hq];exact hx⟩,st',λb hb=>(hf b hb).1⟩⟩
 done:=by intro X hP hw hK hc i pz s Z H E I hf st hg;subst hP hw hK;obtain⟨xs,hq,hx⟩:=hg;obtain⟨its,rv,p,hz⟩:=I.list hq;obtain⟨f0,f1,f2,f3,f4,f5⟩:=hf it (by simp);have hl:=rv.length;exact wpAny_pyNext_list_end (I.ok.hd hc) st p.isList (by simp;omega) λh' eb=>⟨rfl,I.turned (t':=s.toks) (λb o hb e=>eb b o hb e) f0 f1 f3 f4 f5⟩
 self:=λ_ _ _ _ _ st h=>wpAny_pyIter_listiter st h
theorem zjE{P:Program}{w:World}{K:FgA}{tg:Expr}(a it:Addr):uZ P w K tg (Qy K a) [it] it (λi h=>h.IsTupleIter it a i) where
 mem:=by simp
 obj:=λi h st b hb=>by
  have e:b=it:=by simpa using hb
  subst e;obtain⟨o,e,c,d⟩:=st;exact⟨o,e,λv z=>by rw[d] at z;cases z⟩
 keep:=λi h h' st k=>st.at λo e=>k it (by simp) o e
 item:=by intro X hP hw hK hc i pz s Z H E I hf st hg;subst hP hw hK;obtain⟨xs,x,hq,hx⟩:=hg;obtain⟨its,rv,p,hz⟩:=I.tuple hq;obtain⟨u,hu,ru⟩:=rv.get hx;obtain⟨f0,f1,f2,f3,f4,f5⟩:=hf it (by simp);refine wpAny_pyNext_tuple_item st (show s.heap.IsTuple a its.toArray from p) (x:=u) (by simpa using hu) λh' st' sb=>?_;have I1:Inv X pz Z H { s with heap:=h' }:=I.turned (t':=s.toks) (λb o hb e=>(sb.2 b hb).trans e) f0 f1 f3 f4 f5;obtain⟨o,e,c,d⟩:=id st';exact⟨u,rfl,IK (s:={ s with heap:=h' }) e c d (by decide) ⟨x,H,I1,ru,⟨rfl,λys hy=>by rw[I.tuple_inj hy hq];exact hx⟩,st',λb hb=>(hf b hb).1⟩⟩
 done:=by intro X hP hw hK hc i pz s Z H E I hf st hg;subst hP hw hK;obtain⟨xs,hq,hx⟩:=hg;obtain⟨its,rv,p,hz⟩:=I.tuple hq;obtain⟨f0,f1,f2,f3,f4,f5⟩:=hf it (by simp);have hl:=rv.length;exact wpAny_pyNext_tuple_end (I.ok.hd hc) st (show s.heap.IsTuple a its.toArray from p) (by simp;omega) λh' eb=>⟨rfl,I.turned (t':=s.toks) (λb o hb e=>eb b o hb e) f0 f1 f3 f4 f5⟩
 self:=λ_ _ _ _ _ st h=>wpAny_pyIter_tupleiter st h
theorem zjF{P:Program}{w:World}{K:FgA}{tg:Expr}(it:Addr)(lo:Int)(n:Nat):uZ P w K tg (DW lo n) [it] it (λi h=>IsRangeIter h it (lo+(i:Nat)*1) ((n:Int) - (i:Nat)) 1) where
 mem:=by simp
 obj:=λi h st b hb=>by
  have e:b=it:=by simpa using hb
  subst e;exact⟨_,st,λv z=>by
   have z':Data.fields _=Data.cell v:=z;cases z'⟩
 keep:=λi h h' st k=>k it (by simp) _ st
 item:=by intro X hP hw hK hc i pz s Z H E I hf st hg;subst hP hw hK;obtain⟨f0,f1,f2,f3,f4,f5⟩:=hf it (by simp);have W:=Walks.range (prog:=X.prog) (w:=X.w) (I.ok.hd hc) it lo 1 n;refine W.item i s _ _ hg st λv h' tk hv st' kk=>?_;obtain⟨t,rfl⟩:=hv;have I1:Inv X pz Z H { s with heap:=h',toks:=tk }:=I.turned (λb o hb e=>kk b o (by simpa using hb) e) f0 f1 f3 f4 f5;refine⟨_,rfl,IK (s:={ s with heap:=h',toks:=tk }) (n := "range_iterator") st' rfl rfl (by decide) ⟨.int (lo+i),H,I1,⟨t,?_⟩,⟨rfl,rfl⟩,st',λb hb=>(hf b hb).1⟩⟩;rw[Int.mul_one]
 done:=by intro X hP hw hK hc i pz s Z H E I hf st hg;subst hP hw hK;obtain⟨f0,f1,f2,f3,f4,f5⟩:=hf it (by simp);exact wpAny_pyNext_range_end (I.ok.hd hc) st (by have:n<=i:=hg;omega) λh' eb=>⟨rfl,I.turned (t':=s.toks) (λb o hb e=>eb b o hb e) f0 f1 f3 f4 f5⟩
 self:=λ_ _ _ _ _ st h=>wpAny_pyIter_rangeiter st h
section
variable {X:Cx}{tg:Expr}
noncomputable def CW(K:FgA)(tl:TE):TI:=λZ H R=>tl Z H λx H1=>∃a,x = .ref a/\(∃xs,d8 K H1 a xs)/\R (zB K a) H1
noncomputable def PB(K:FgA)(tl:TE):TI:=λZ H R=>tl Z H λx H1=>∃a,x = .ref a/\(∃xs,dR K H1 a xs)/\R (Qy K a) H1
theorem zo5{l:Expr}{tl:TE}(hl:PE X l tl):PI X tg l (CW X.K tl):=by
 intro pz s Z H R I h;refine bQ (hl pz s Z H _ I h) λv s1 ⟨x,H1,I1,r1,q1⟩=>?_;obtain⟨a,e,⟨xs,hq⟩,q⟩:=q1;subst e;cases r1;obtain⟨its,rv,p,hz⟩:=I1.list hq;refine wpAny_pyIter_list p.isList ?_;refine⟨s1.heap.objs.size,[s1.heap.objs.size],_,_,H1,rfl,I1.kept (t':=s1.toks) λb o e=>dF _ e,zkq a _,⟨_,gG _ rfl,rfl,rfl⟩,λb hb=>?_,q⟩;have e:b=s1.heap.objs.size:=by simpa using hb
 subst e;exact I1.fpOk (bH _) (I1.hok.fresh (bH _))
theorem zru{l:Expr}{tl:TE}(hl:PE X l tl):PI X tg l (PB X.K tl):=by
 intro pz s Z H R I h;refine bQ (hl pz s Z H _ I h) λv s1 ⟨x,H1,I1,r1,q1⟩=>?_;obtain⟨a,e,⟨xs,hq⟩,q⟩:=q1;subst e;cases r1;obtain⟨its,rv,p,hz⟩:=I1.tuple hq;refine wpAny_pyIter_tuple (show s1.heap.IsTuple a its.toArray from p) ?_;refine⟨s1.heap.objs.size,[s1.heap.objs.size],_,_,H1,rfl,I1.kept (t':=s1.toks) λb o e=>dF _ e,zjE a _,⟨_,gG _ rfl,rfl,rfl⟩,λb hb=>?_,q⟩;have e:b=s1.heap.objs.size:=by simpa using hb
 subst e;exact I1.fpOk (bH _) (I1.hok.fresh (bH _))
theorem UJ{pz:List (Addr×Obj)}{Z:St}{H:Hp}{s:Shared}{R:It->Hp->Prop}{E:Value->Shared->Prop}{lo hi:Int}{t u v:Tok}{tk:Nat}(I:Inv X pz Z H s)(h1 : -(2 ^ 62)<=lo)(h2:lo<2 ^ 62)(h3 : -(2 ^ 62)<=hi)(h4:hi<2 ^ 62)(q:R (DW lo (hi - lo).toNat) H):wpAny (model X.prog X.w) X.A (pyIter (.ref s.heap.objs.size)) (PIE X pz Z tg R) E { s with heap:=s.heap.push { cls := .type "range",data := .fields #[.int lo t,.int hi u,.int 1 v] },toks:=tk }:=by
 refine wpAny_pyIter_range (IsRange.new ..) (small_one h1 h2 h3 h4) ?_;have I1:Inv X pz Z H { s with heap:=s.heap.push { cls := .type "range",data := .fields #[.int lo t,.int hi u,.int 1 v] },toks:=tk }:=I.kept λb o e=>dF _ e;refine⟨(s.heap.push { cls := .type "range",data := .fields #[.int lo t,.int hi u,.int 1 v] }).objs.size,[(s.heap.push { cls := .type "range",data := .fields #[.int lo t,.int hi u,.int 1 v] }).objs.size],_,_,H,rfl,
  I1.kept (t':=tk) λb o e=>dF _ e,zjF _ lo (hi - lo).toNat,?_,λb hb=>?_,q⟩
 .have e1:lo+((0:Nat):Int)*1=lo:=by simp
  have e2:(((hi - lo).toNat:Nat):Int) - ((0:Nat):Int)=Builtin.Range.rangeSize lo hi 1:=by rw[rangeSize_one];split<;>omega
  show IsRangeIter _ _ (lo+((0:Nat):Int)*1) ((((hi - lo).toNat:Nat):Int) - ((0:Nat):Int)) 1;rw[e1,e2];exact gG _ rfl
 .have e:b=(s.heap.push { cls := .type "range",data := .fields #[.int lo t,.int hi u,.int 1 v] }).objs.size:=by simpa using hb
  subst e;exact I1.fpOk (bH _) (I1.hok.fresh (bH _))
noncomputable def CV(ta:TA):TI:=λZ H R=>ta Z H λvs H1=>∃j:Int,vs=[.int j] /\ -(2 ^ 62)<=j/\j<2 ^ 62/\R (DW 0 j.toNat) H1
noncomputable def CT(ta:TA):TI:=λZ H R=>ta Z H λvs H1=>∃i j:Int,vs=[.int i,.int j]/\(-(2 ^ 62)<=i/\i<2 ^ 62 /\ -(2 ^ 62)<=j/\j<2 ^ 62)/\R (DW i (j - i).toNat) H1
theorem zkY{a:Expr}{ta:TA}{p pos:Pos}(hg:Gl X "range")(hm:X.mg "range" = none)(ha:PA X [a] ta)(hs:starEach [a] X.env=[(false,eval a X.env)]:=by rfl):PI X tg (.Call (.Name "range" p) [a] [] pos) (CV ta):=by
 intro pz s Z H R I h;refine Call_ (qW I hg hm boot_range (PyProof.Rows.callWith_type1 (bQ (ha pos pz s Z H _ I h) λus s1 ⟨vs,H1,I1,r1,q1⟩=>?_) hs rfl));obtain⟨j,e,q1,q2,q⟩:=q1;subst e;cases r1 with
 |cons r rr =>
  cases rr;obtain⟨t,rfl⟩:=r;exact call_range_1 (UJ I1 (by omega) (by omega) q1 q2 (by simpa using q))
theorem zkX{a b:Expr}{ta:TA}{p pos:Pos}(hg:Gl X "range")(hm:X.mg "range" = none)(ha:PA X [a,b] ta)(hs:starEach [a,b] X.env=[(false,eval a X.env),(false,eval b X.env)]:=by rfl)(hs2:starEach [b] X.env=[(false,eval b X.env)]:=by rfl):
 PI X tg (.Call (.Name "range" p) [a,b] [] pos) (CT ta):=by
 intro pz s Z H R I h;refine Call_ (qW I hg hm boot_range (PyProof.Rows.callWith_type1 (bQ (ha pos pz s Z H _ I h) λus s1 ⟨vs,H1,I1,r1,q1⟩=>?_) (by rw[hs,hs2]) (by rw[hs2];rfl)));obtain⟨i,j,e,⟨q1,q2,q3,q4⟩,q⟩:=q1;subst e;cases r1 with
 |cons r rr =>
  cases rr with
  |cons r' rr =>
   cases rr;obtain⟨t,rfl⟩:=r;obtain⟨t',rfl⟩:=r';exact call_range_2 (UJ I1 q1 q2 q3 q4 q)
noncomputable def Oq(wi:TI)(g:TG)(tb:TS):TS:=λD Z H=>wi Z H λJ H1=>∃W:Nat->Nat->St->Hp->Prop,(∃m,W 0 m Z H1)/\∀i m Z H,W i m Z H ->
 (J.stop i H/\D.nx Z H)\/(J.go i H/\∃N:St->Hp->Prop,(∀Z' H',N Z' H'->∃m',m'<m/\W (i+1) m' Z' H')/\∀x H',J.yld i H x H'->g x Z H' λσ2 H2=>tb { D with nx:=N,ct:=N,bk:=D.nx } σ2 H2)
noncomputable def zT(fp:List Addr)(h:Heap):List (Addr×Obj):=fp.filterMap λb=>(h.get? b).map λo=>(b,o)
def Ld{fp:List Addr}{h:Heap}{b:Addr}{o:Obj}(hb:b∈fp)(e:h.get? b=some o):(b,o)∈zT fp h:=List.mem_filterMap.mpr ⟨b,hb,by rw[e];rfl⟩
theorem zk4{fp:List Addr}{h:Heap}{p:Addr×Obj}(hp:p∈zT fp h):p.1∈fp/\h.get? p.1=some p.2:=by
 obtain⟨b,hb,e⟩:=List.mem_filterMap.mp hp;cases q:h.get? b with
 |none=>rw[q] at e;cases e
 |some o =>
  rw[q] at e;have e':(b,o)=p:=Option.some.inj e;subst e';exact⟨hb,q⟩
theorem Inv.pinned{pz:List (Addr×Obj)}{Z:St}{H:Hp}{s:Shared}{fp:List Addr}(I:Inv X pz Z H s)(hf:∀b∈fp,kE X pz H b)(ho:∀b∈fp,∃o,s.heap.get? b=some o/\∀v,o.data ≠ .cell v):Inv X (pz++zT fp s.heap) Z H s :=
 I.pins_of λp hp=>(lq.mp hp).elim (λz=>I.pin p (List.mem_append_right _ z)) λz=>by obtain⟨hb,e⟩:=zk4 z;obtain⟨f0,f1,f2,_⟩:=hf p.1 hb;obtain⟨o,e',d⟩:=ho p.1 hb;rw[e] at e';cases e';exact⟨e,f0,f1,f2,d⟩
def Inv.unpinned{pz pl:List (Addr×Obj)}{Z:St}{H:Hp}{s:Shared}(I:Inv X (pz++pl) Z H s):Inv X pz Z H s:=I.pins_of λp hp=>I.pin p (List.mem_append_right _ (List.mem_append_left _ hp))
theorem zrp{iter:Expr}{body:List Stmt}{wi:TI}{g:TG}{tb:TS}{pos:Pos}(hp:PassesOwn (model X.prog X.w) X.A X.env X.xe)(hc:X.calm=true)(hi:PI X tg iter wi)(hg:PG X tg g)(hb:jO X body tb)(hs:∀x,foldedSetIterable iter X.env x=pure x:=by intro _;rfl):PS X (.For tg iter body [] pos) (Oq wi g tb):=by
 intro pz s Z H D I h;refine wpAny_For (bQ (hi pz s Z H _ I h) λv s1 h1=>bQ h1 λitv s2 h2=>?_) hs;obtain⟨it,fp,tn,J,H2,e,I2,T,st2,f2,W,⟨m0,w0⟩,turn⟩:=h2;subst e;have stat:∀{H':Hp},(∀b∈fp,H' b=none)->∀b∈fp,kE X pz H' b:=λhn b hb=>⟨hn b hb,(f2 b hb).2⟩
 refine codeAny_forLoop_any (λn s'=>∃i Z' H',Inv X pz Z' H' s'/\tn i s'.heap/\(∀b∈fp,H' b=none)/\W i n Z' H') ?_ m0 ⟨0,Z,H2,I2,st2,λb hb=>(f2 b hb).1,w0⟩
 rintro n s3 ⟨i,σ3,H3,I3,st3,Hj,w3⟩
 rcases turn i n σ3 H3 w3 with⟨stop,qn⟩|⟨go,N,hN,step⟩
 .refine wpAny_passesOwn hp (bQ (T.done X rfl rfl rfl hc i pz s3 σ3 H3 X.xe I3 (stat Hj) st3 stop) λr s4 ⟨hr,I4⟩=>?_);subst hr;exact wpAny_execs_nil ⟨σ3,H3,I4,qn⟩
 .refine wpAny_passesOwn hp (bQ (T.item X rfl rfl rfl hc i pz s3 σ3 H3 X.xe I3 (stat Hj) st3 go) λr s4 ⟨u,hr,h4⟩=>?_);subst hr;refine wpAny_passesOwn hp (bQ h4 λ_ s5 ⟨x,H5,I5,r5,y5,vW,Qj⟩=>?_);have QB:=I5.pinned (stat Qj) (T.obj _ _ vW);refine wpAny_passesOwn hp (bQ (hg _ s5 σ3 H5 x u _ QB r5 (step x H5 y5)) λ_ s6 ⟨σ6,H6,I6,q6⟩=>?_);refine wpAny_passesOwn hp (bQ (hb _ s6 σ6 H6 _ I6 q6) λf s7 q7=>?_);have again:∀{σ7:St} {H7:Hp},Inv X (pz++zT fp s5.heap) σ7 H7 s7->N σ7 H7->∃m,m<n/\∃i Z' H',Inv X pz Z' H' s7/\tn i s7.heap/\(∀b∈fp,H' b=none)/\W i m Z' H':=λ{σ7 H7} I7 n7=>by obtain⟨m',hm,w7⟩:=hN σ7 H7 n7;refine⟨m',hm,i+1,σ7,H7,I7.unpinned,T.keep _ _ _ vW λb hb o e=>(I7.pin (b,o) (List.mem_append_right _ (List.mem_append_right _ (Ld hb e)))).1,λb hb=>?_,w7⟩;obtain⟨o,e,d⟩:=T.obj _ _ vW b hb;exact(I7.pin (b,o) (List.mem_append_right _ (List.mem_append_right _ (Ld hb e)))).2.1
  cases f with
  |next=>obtain⟨σ7,H7,I7,n7⟩:=q7;exact again I7 n7
  |cont=>obtain⟨σ7,H7,I7,n7⟩:=q7;exact again I7 n7
  |brk=>obtain⟨σ7,H7,I7,q7⟩:=q7;exact⟨σ7,H7,I7.unpinned,q7⟩
  |ret v=>obtain⟨x7,σ7,H7,I7,r7,q7⟩:=q7;exact⟨x7,σ7,H7,I7.unpinned,r7,q7⟩
end
abbrev R2:=V->V->Hp->VK->Prop
noncomputable def fu(X:Cx)(f:Value->Value->Sem Value)(r:R2):Prop :=
 ∀(pz:List (Addr×Obj)) (s:Shared) (Z:St) (H:Hp) (x y:V) (v u:Value) (Q:VK),Inv X pz Z H s->RelV x v->RelV y u->r x y H Q ->
  wpAny (model X.prog X.w) X.A (f v u) (EP X pz Z Q) X.xe s
noncomputable def Qv(X:Cx)(f:Value->Sem Value)(r:V->Hp->VK->Prop):Prop :=
 ∀(pz:List (Addr×Obj)) (s:Shared) (Z:St) (H:Hp) (x:V) (v:Value) (Q:VK),Inv X pz Z H s->RelV x v->r x H Q ->
  wpAny (model X.prog X.w) X.A (f v) (EP X pz Z Q) X.xe s
noncomputable def ir(X:Cx)(f:Value)(r:List V->Hp->VK->Prop):Prop :=
 ∀(pz:List (Addr×Obj)) (s:Shared) (Z:St) (H:Hp) (xs:List V) (us:List Value) (Q:VK),Inv X pz Z H s->Vals xs us->r xs H Q ->
  wpAny (model X.prog X.w) X.A (call f us) (EP X pz Z Q) X.xe s
noncomputable def Qw(X:Cx)(r:V->Hp->(Bool->Hp->Prop)->Prop):Prop :=
 ∀(pz:List (Addr×Obj)) (s:Shared) (Z:St) (H:Hp) (x:V) (v:Value) (Q:Bool->Hp->Prop),Inv X pz Z H s->RelV x v->r x H Q ->
  wpAny (model X.prog X.w) X.A (truthy v) (TP X pz Z Q) X.xe s
noncomputable def G5(r:R2)(ta tb:TE):TE:=λZ H Q=>ta Z H λx H1=>tb Z H1 λy H2=>r x y H2 Q
noncomputable def tUn(r:V->Hp->VK->Prop)(ta:TE):TE:=λZ H Q=>ta Z H λx H1=>r x H1 Q
noncomputable def rI(C:Int->Int->Prop)(g:Int->Int->V):R2:=λx y H Q=>∃i j,x = .int i/\y = .int j/\C i j/\Q (g i j) H
noncomputable def oE(g:Int->Int->V):R2:=λx y H Q=>∃i j,x = .int i/\y = .int j/\Q (g i j) H
noncomputable def rU(g:Int->V):V->Hp->VK->Prop:=λx H Q=>∃i,x = .int i/\Q (g i) H
section
variable {X:Cx}{a b c:Expr}{ta tb tc:TE}{pos:Pos}
theorem xH(ha:PE X a ta)(hb:PE X b tb){pz:List (Addr×Obj)}{s:Shared}{Z:St}{H:Hp}{R:V->V->Hp->Prop}(I:Inv X pz Z H s)(h:ta Z H λx H1=>tb Z H1 λy H2=>R x y H2){Q:Value->Shared->Prop}{f:Value->Value->Sem Value}(hf:∀v u s2 x y H2,Inv X pz Z H2 s2->RelV x v->RelV y u->R x y H2->wpAny (model X.prog X.w) X.A (f v u) Q X.xe s2):
 wpAny (model X.prog X.w) X.A (eval a X.env) (λv s₁=>wpAny (model X.prog X.w) X.A (eval b X.env) (λu s₂=>wpAny (model X.prog X.w) X.A (f v u) Q X.xe s₂) X.xe s₁) X.xe s:=by
 refine bQ (ha pz s Z H _ I h) λv s1 ⟨x,H1,I1,r1,q1⟩=>?_;refine bQ (hb pz s1 Z H1 _ I1 q1) λu s2 ⟨y,H2,I2,r2,q2⟩=>?_;exact hf v u s2 x y H2 I2 r1 r2 q2
theorem zsI{op:Operator}{r:R2}(ho:fu X (binaryOp op) r)(ha:PE X a ta)(hb:PE X b tb):PE X (.BinOp a op b pos) (G5 r ta tb):=by intro pz s Z H Q I h;exact wpAny_BinOp (xH ha hb I h λv u s2 x y H2 I2 rx ry q=>ho pz s2 Z H2 x y v u Q I2 rx ry q)
theorem zsG{op:UnaryOp}{r:V->Hp->VK->Prop}(ho:Qv X (unaryOp op) r)(ha:PE X a ta):PE X (.UnaryOp op a pos) (tUn r ta):=by intro pz s Z H Q I h;exact UnaryOp_ (bQ (ha pz s Z H _ I h) λv s1 ⟨x,H1,I1,r1,q1⟩=>ho pz s1 Z H1 x v Q I1 r1 q1)
theorem Cm{f:Value->Value->Sem Value}{C:Int->Int->Prop}{g:Int->Int->Int}(rule:∀(i j:Int) (t u:Tok) (s:Shared) (Q:Value->Shared->Prop) (E:Value->Shared->Prop),C i j->Q (.int (g i j) s.toks) { s with toks:=s.toks+1 }->wpAny (model X.prog X.w) X.A (f (.int i t) (.int j u)) Q E s):
 fu X f (rI C λi j => .int (g i j)):=by
 intro pz s Z H x y v u Q I rx ry h;obtain⟨i,j,rfl,rfl,hc,q⟩:=h;obtain⟨t,rfl⟩:=rx;obtain⟨t',rfl⟩:=ry;exact rule i j t t' s _ _ hc ⟨.int (g i j),H,I.tok _,⟨_,rfl⟩,q⟩
theorem Ck{f:Value->Value->Sem Value}{g:Int->Int->Int}(rule:∀(i j:Int) (t u:Tok) (s:Shared) (Q:Value->Shared->Prop) (E:Value->Shared->Prop),Q (.int (g i j) s.toks) { s with toks:=s.toks+1 }->wpAny (model X.prog X.w) X.A (f (.int i t) (.int j u)) Q E s):
 fu X f (oE λi j => .int (g i j)):=by
 intro pz s Z H x y v u Q I rx ry h;obtain⟨i,j,rfl,rfl,q⟩:=h;obtain⟨t,rfl⟩:=rx;obtain⟨t',rfl⟩:=ry;exact rule i j t t' s _ _ ⟨.int (g i j),H,I.tok _,⟨_,rfl⟩,q⟩
theorem m9{f:Value->Value->Sem Value}{g:Int->Int->Bool}(rule:∀(i j:Int) (t u:Tok) (s:Shared) (Q:Value->Shared->Prop) (E:Value->Shared->Prop),Q (.bool (g i j)) s->wpAny (model X.prog X.w) X.A (f (.int i t) (.int j u)) Q E s):
 fu X f (oE λi j => .bl (g i j)):=by
 intro pz s Z H x y v u Q I rx ry h;obtain⟨i,j,rfl,rfl,q⟩:=h;obtain⟨t,rfl⟩:=rx;obtain⟨t',rfl⟩:=ry;exact rule i j t t' s _ _ ⟨.bl (g i j),H,I,rfl,q⟩
def DY(i j:Int):Prop:=0<=j/\j<=1000000/\i.natAbs<2 ^ 64
def zrO:fu X (binaryOp .Add) (oE λi j => .int (i+j)):=Ck λ_ _ _ _ _ _ _ q=>add_int q
def zrI:fu X (binaryOp .Sub) (oE λi j => .int (i - j)):=Ck λ_ _ _ _ _ _ _ q=>sub_int q
def zpw:fu X (binaryOp .Mod) (rI (λ_ j=>j≠0) λi j => .int (i.fmod j)):=Cm λ_ _ _ _ _ _ _ hc q=>mod_int' hc q
def zrL:fu X (binaryOp .Pow) (rI DY λi j => .int (i ^ j.toNat)):=Cm λ_ _ _ _ _ _ _ hc q=>pow_int_small hc.1 hc.2.1 hc.2.2 q
def zrJ:fu X (binaryOp .LShift) (rI DY λi j => .int (i*2 ^ j.toNat)):=Cm λ_ _ _ _ _ _ _ hc q=>lshift_int_small hc.1 hc.2.1 hc.2.2 q
theorem unI{f:Value->Sem Value}{g:Int->Int}(rule:∀(i:Int) (t:Tok) (s:Shared) (Q:Value->Shared->Prop) (E:Value->Shared->Prop),Q (.int (g i) s.toks) { s with toks:=s.toks+1 }->wpAny (model X.prog X.w) X.A (f (.int i t)) Q E s):
 Qv X f (rU λi => .int (g i)):=by
 intro pz s Z H x v Q I rx h;obtain⟨i,rfl,q⟩:=h;obtain⟨t,rfl⟩:=rx;exact rule i t s _ _ ⟨.int (g i),H,I.tok _,⟨_,rfl⟩,q⟩
def zqq:Qv X (unaryOp .USub) (rU λi => .int (-i)):=unI λ_ _ _ _ _ q=>neg_int q
end
section
variable {X:Cx}{a b c:Expr}{ta tb tc:TE}{pos:Pos}
theorem Ff{pz:List (Addr×Obj)}{Z:St}{H:Hp}{s:Shared}{Q:VK}{k k':Bool}(I:Inv X pz Z H s)(q:Q (.bl k) H)(e:k=k'):EP X pz Z Q (.bool k') s:=by subst e;exact⟨.bl k,H,I,rfl,q⟩
def Z3:fu X (compareOp .Lt) (oE λi j => .bl (decide (i<j))):=m9 λ_ _ _ _ _ _ _ q=>lt_int q
def Z2:fu X (compareOp .LtE) (oE λi j => .bl (decide (i<=j))):=m9 λ_ _ _ _ _ _ _ q=>le_int q
def Z1:fu X (compareOp .Gt) (oE λi j => .bl (decide (j<i))):=m9 λ_ _ _ _ _ _ _ q=>gt_int q
def Z0:fu X (compareOp .GtE) (oE λi j => .bl (decide (j<=i))):=m9 λ_ _ _ _ _ _ _ q=>ge_int q
theorem zrM:fu X (compareOp .Is) (λx y H Q=>y = .non/\Q (.bl (decide (x = .non))) H):=by
 intro pz s Z H x y v u Q I rx ry h;obtain⟨rfl,q⟩:=h;cases ry;refine is_none_gen (Ff I q ?_);cases x<;>first
  | (cases rx;rfl)
  | (obtain⟨t,rfl⟩:=rx;rfl)
theorem zpu:fu X (compareOp .IsNot) (λx y H Q=>y = .non/\Q (.bl (!decide (x = .non))) H):=by
 intro pz s Z H x y v u Q I rx ry h;obtain⟨rfl,q⟩:=h;cases ry;refine isnot_none_gen (Ff I q ?_);cases x<;>first
  | (cases rx;rfl)
  | (obtain⟨t,rfl⟩:=rx;rfl)
theorem QS(b:Expr){op:CmpOp}(h:op ≠ .In:=by decide)(h2:op ≠ .NotIn:=by decide):behindInMarks op b=false:=by
 have e1:(op==CmpOp.In)=false:=by cases op<;>first|rfl|exact absurd rfl h
 have e2:(op==CmpOp.NotIn)=false:=by cases op<;>first|rfl|exact absurd rfl h2
 cases b<;>simp[behindInMarks,e1,e2]
theorem zpb{op:CmpOp}{r:R2}(ho:fu X (compareOp op) r)(ha:PE X a ta)(hb:PE X b tb)(hm:behindInMarks op b=false):PE X (.Compare a [op] [b] pos) (G5 r ta tb):=by intro pz s Z H Q I h;exact wpAny_Compare1 (xH ha hb I h λv u s2 x y H2 I2 rx ry q=>ho pz s2 Z H2 x y v u Q I2 rx ry q) hm
noncomputable def Bl(t:TE):TT:=λZ H Q=>t Z H λx H'=>∃k,x = .bl k/\Q k H'
theorem zoX{op:CmpOp}{r:R2}(ho:fu X (compareOp op) r)(ha:PE X a ta)(hb:PE X b tb)(hm:behindInMarks op b=false):PT X (.Compare a [op] [b] pos) (Bl (G5 r ta tb)):=by
 intro pz s Z H Q I h;refine wpAny_isTrue_Compare1 (bQ (ha pz s Z H _ I h) λv s1 ⟨x,H1,I1,r1,q1⟩=>bQ (hb pz s1 Z H1 _ I1 q1) λu s2 ⟨y,H2,I2,r2,q2⟩ =>
  bQ (ho pz s2 Z H2 x y v u _ I2 r1 r2 q2) λc s3 ⟨z,H3,I3,r3,k,e,q3⟩=>?_) hm
 subst e;cases r3;exact wpAny_truthy_bool ⟨H3,I3,q3⟩
noncomputable def xK(K:FgA)(x:V)(H:Hp)(k:Bool):Prop :=
 match x with
 |.non=>k=false
 |.bl b=>k=b
 |.int i=>k=(i != 0)
 |.str y=>y.length<=sizeLine/\k=((y.length:Int) != 0)
 |.byt y=>y.size<=sizeLine/\k=((y.size:Int) != 0)
 |.ref p=>(∃xs,d8 K H p xs/\k = !xs.isEmpty)\/(∃xs,dR K H p xs/\k = !xs.isEmpty)\/∃kvs,H p=some (.dK kvs)/\k = !kvs.isEmpty
 |_=>False
def zka{κ:Type}{kvs:List (κ×V)}{vs:List (κ×Value)}(r:KV kvs vs):(!vs.isEmpty) = !kvs.isEmpty:=by cases r<;>rfl
def VJ{xs:List V}{its:List Value}(r:Vals xs its):(!its.toArray.isEmpty) = !xs.isEmpty:=by cases r<;>simp
def yg:(sizeLine:Nat)<2 ^ 63:=by rw[sizeLine_eq];decide
theorem zqs:Qw X (λx H Q=>∃k,xK X.K x H k/\Q k H):=by
 intro pz s Z H x v Q I rx h;obtain⟨k,e,q⟩:=h;have hl:=yg;have hs:sizeLine=16777216:=sizeLine_eq;cases x with
 |non =>
  cases rx;have e':k=false:=e;subst e';exact truthy_none ⟨H,I,q⟩
 |bl b =>
  cases rx;have e':k=b:=e;subst e';exact wpAny_truthy_bool ⟨H,I,q⟩
 |int i =>
  obtain⟨t,rfl⟩:=rx;have e':k=(i != 0):=e;subst e';exact PySem.P.truthy_int ⟨H,I,q⟩
 |str y =>
  obtain⟨t,rfl⟩:=rx;obtain⟨hy,e'⟩:y.length<=sizeLine/\k=((y.length:Int) != 0):=e;subst e';exact PySem.P.truthy_str (by omega) ⟨H,I.tok _,q⟩
 |byt y =>
  obtain⟨t,rfl⟩:=rx;obtain⟨hy,e'⟩:y.size<=sizeLine/\k=((y.size:Int) != 0):=e;subst e';exact PySem.W.truthy_bytes (by omega) ⟨H,I.tok _,q⟩
 |ref p =>
  cases rx;have e':(∃xs,d8 X.K H p xs/\k = !xs.isEmpty)\/(∃xs,dR X.K H p xs/\k = !xs.isEmpty)\/∃kvs,H p=some (.dK kvs)/\k = !kvs.isEmpty:=e;rcases e' with⟨xs,hx,e'⟩|⟨xs,hx,e'⟩|⟨kvs,hx,e'⟩
  .subst e';obtain⟨its,r,pl,hz⟩:=I.list hx;have hlen:=r.length;exact wpAny_truthy_list pl.isList (by simp only[d9];omega) ⟨H,I.tok _,by rw[VJ r];exact q⟩
  .subst e';obtain⟨its,r,pl,hz⟩:=I.tuple hx;have hlen:=r.length;exact truthy_tuple pl (by simp only[d9];omega) ⟨H,I.tok _,by rw[VJ r];exact q⟩
  .subst e';obtain⟨hz,hS,vs,r,m⟩:kvs.length<=sizeLine/\(p==sysModules)=false/\∃vs,KV kvs vs/\s.heap.DictOf (Ir X.prog X.w) p vs:=I.hok p _ hx;have hlen:kvs.length=vs.length:=Paired.length r;exact wpAny_truthy_dict hS m (by omega) ⟨H,I.tok _,by rw[zka r];exact q⟩
 |_=>exact(show False from e).elim
theorem zmL(ha:PE X a ta)(he:∀whole,isTrue a X.env whole=(do let v <-whole;standAt a.pos;holding [v] (truthy v))):
 PT X a (λZ H Q=>ta Z H λx H'=>∃k,xK X.K x H' k/\Q k H'):=by
 intro pz s Z H Q I h;exact isTrue_plain (bQ (ha pz s Z H _ I h) λv s1 ⟨x,H1,I1,r1,q1⟩=>zqs pz s1 Z H1 x v Q I1 r1 q1) (he _)
theorem zjW:fu X (binaryOp .Add) (λx y H Q=>∃i j,x = .str i/\y = .str j/\i.length+j.length<=sizeLine/\Q (.str (i++j)) H):=by intro pz s Z H x y v u Q I rx ry h;obtain⟨i,j,rfl,rfl,hz,q⟩:=h;obtain⟨t,rfl⟩:=rx;obtain⟨t',rfl⟩:=ry;exact add_str (λt' tk=>⟨.str (i++j),H,I.tok _,⟨_,rfl⟩,q⟩) hz
def nQ{x:V}{us:List Value}(r:Vals [x] us):∃u,us=[u]/\RelV x u:=by
 cases r with
 |cons r1 r2=>cases r2;exact⟨_,rfl,r1⟩
theorem HY{x y:V}{us:List Value}(r:Vals [x,y] us):∃u w',us=[u,w']/\RelV x u/\RelV y w':=by
 cases r with
 |cons r1 r2 =>
  cases r2 with
  |cons r3 r4=>cases r4;exact⟨_,_,rfl,r1,r3⟩
theorem zny:ir X (.builtin "abs") (λxs H Q=>∃i,xs=[.int i]/\Q (.int (if i<0 then -i else i)) H):=by intro pz s Z H xs us Q I r h;obtain⟨i,rfl,q⟩:=h;obtain⟨u,rfl,t,rfl⟩:=nQ r;exact call_abs_int λu tk=>⟨.int (if i<0 then -i else i),H,I.tok _,⟨_,rfl⟩,q⟩
theorem zl7(hc:X.calm=true):ir X (.builtin "max") (λxs H Q=>∃i j,xs=[.int i,.int j]/\Q (.int (if j>i then j else i)) H):=by
 intro pz s Z H xs us Q I r h;obtain⟨i,j,rfl,q⟩:=h;obtain⟨u,w',rfl,⟨t,rfl⟩,⟨t',rfl⟩⟩:=HY r;refine max_two_ints (I.ok.hd hc) λh' tk k=>⟨_,H,I.kept k,?_,q⟩
 by_cases hj:j>i
 .rw[if_pos hj,if_pos hj];exact⟨_,rfl⟩
 .rw[if_neg hj,if_neg hj];exact⟨_,rfl⟩
theorem zl6(hc:X.calm=true):ir X (.builtin "min") (λxs H Q=>∃i j,xs=[.int i,.int j]/\Q (.int (if j<i then j else i)) H):=by
 intro pz s Z H xs us Q I r h;obtain⟨i,j,rfl,q⟩:=h;obtain⟨u,w',rfl,⟨t,rfl⟩,⟨t',rfl⟩⟩:=HY r;refine min_two_ints (I.ok.hd hc) λh' tk k=>⟨_,H,I.kept k,?_,q⟩
 by_cases hj:j<i
 .rw[if_pos hj,if_pos hj];exact⟨_,rfl⟩
 .rw[if_neg hj,if_neg hj];exact⟨_,rfl⟩
theorem zl8:ir X (.type "int") (λxs H Q=>(∃i,xs=[.int i]/\Q (.int i) H)\/∃k,xs=[.bl k]/\Q (.int (if k then 1 else 0)) H):=by
 intro pz s Z H xs us Q I r h;rcases h with⟨i,rfl,q⟩|⟨k,rfl,q⟩
 .obtain⟨u,rfl,t,rfl⟩:=nQ r;exact call_int_int ⟨.int i,H,I,⟨_,rfl⟩,q⟩
 .obtain⟨u,rfl,r1⟩:=nQ r;cases r1;exact call_int_bool ⟨.int (if k then 1 else 0),H,I.tok _,⟨_,rfl⟩,q⟩
end
structure lO(h:Heap)(x dx C:Addr)(mA:Str->Option Value):Prop where
 obj:h.get? x=some (PySem.W.instObj C dx)
 ns:h.Ns1 dx mA
 ne:dx≠x
theorem zlg{h:Heap}{dx:Addr}{mA:Str->Option Value}(n:h.Ns1 dx mA):∃od,h.get? dx=some od/\∀name,PySem.W.lookIn name od=some (mA name):=by
 obtain⟨o,es,ep,ho,hd,hk,_,hm⟩:=n;refine⟨o,ho,λname=>?_⟩;have e:=hm name;unfold nsFind findBy at e;rw[<-Array.find?_toList] at e;unfold PySem.W.lookIn;rw[hd];dsimp only;split
 .rename_i y q;rw[q] at e;exact congrArg some e
 .rename_i q;rw[q] at e;have a:es.toList.any (·.refKey)=false:=by rw[List.any_eq_false];intro y hy;obtain⟨z,t,hkey⟩:=hk y (Array.mem_toList_iff.mp hy);simp[DictEntry.refKey,hkey]
  have a':¬es.toList.any (·.refKey)=true:=by rw[a];exact gK
  rw[if_neg a'];exact congrArg some e
def lO.look{h:Heap}{x dx C:Addr}{mA:Str->Option Value}(I:lO h x dx C mA):∃od,PySem.W.InstAt h x (PySem.W.instObj C dx) C (some od)/\∀name,PySem.W.lookIn name od=some (mA name) :=
 let ⟨od,ho,hl⟩:=zlg I.ns
 ⟨od,⟨I.obj,rfl,rfl,ho⟩,hl⟩
section
variable {prog:Program}{w:World}{A:Around}{E:Value->Shared->Prop}{s:Shared}{K:FgA}{x dx C f:Addr}{mA:Str->Option Value}{name:Str}{v:Value}
theorem zpY{expr:Bool}{Q:Value->Shared->Prop}(X:K.In s.heap)(I:lO s.heap x dx C mA)(hg:PySem.W.plainGet K C name=true)(hh:PySem.W.hasDictIn K C=true)(ha:PySem.W.findIn K (.ref C) name=some none)(hv:mA name=some v)(hv':PySem.W.handedIn v=true)(h:Q v { s with toks:=s.toks+1 }):
 wpAny (model prog w) A (getAttr (.ref x) name expr) Q E s:=by
 obtain⟨od,J,hl⟩:=I.look;exact PySem.W.get_value X J (PySem.W.plainGet_of hg).1 (PySem.W.findObj_own hh ha rfl (by rw[hl,hv])) hv' h
theorem znk{pl:Sem Bool}{Q:Value×List Value->Shared->Prop}(X:K.In s.heap)(I:lO s.heap x dx C mA)(hg:PySem.W.plainGet K C name=true)(hf:PySem.W.findIn K (.ref C) name=some (some (.ref f)))(ht:PySem.W.isFn K (.ref f)=true)(hv:mA name=none)(h:Q (.ref f,[.ref x]) s):
 wpAny (model prog w) A (getMethod (.ref x) name pl) Q E s:=by
 obtain⟨od,J,hl⟩:=I.look;exact PySem.W.method_fn X J (PySem.W.plainGet_of hg).1 (PySem.W.plainGet_of hg).2 hf (beq_iff_eq.mp ht) (by show(PySem.W.lookIn name od).map (·.isSome)=some false;rw[hl,hv];rfl) h
theorem zoL{ns:List Str}{Q:Unit->Shared->Prop}(X:K.In s.heap)(I:lO s.heap x dx C mA)(hs:PySem.W.findIn K (.ref C) "__setattr__" = some (some (.builtin "object.__setattr__")))(hp:PySem.W.plainOver K C=true)(ht:PySem.W.takerIn K C name=some none)(hh:PySem.W.hasDictIn K C=true)(hw:PySem.Within mA ns)(hsz:ns.length<=sizeLine)(h:∀h',lO h' x dx C (λy=>if y=name then some v else mA y)->Heap.SameBut dx s.heap h'->Q () { s with heap:=h',toks:=s.toks+2 }):
 wpAny (model prog w) A (setAttr (.ref x) name v) Q E s:=by
 obtain⟨od,J,hl⟩:=I.look;refine PySem.W.set_plain X J hs (PySem.W.osa_open (s:={ s with toks:=s.toks+1 }) (r:=none) X J hp ht λb=>?_);obtain⟨cd,hc,hd'⟩:=PySem.W.any_some hh;have hx:s.heap.get? x=some ⟨.ref C,some dx,.plain,#[]⟩:=I.obj;refine aP (bW (aP (aP (wpAny_loadPart hx (aP (PySem.W.Looks.here (s:={ s with toks:=s.toks+1 }) (PySem.W.looks_clsIn X hc) ?_))))));rw[hd'];refine bW (a:=some dx) (aP (bW (aP ?_)));refine wpAny_nsSet1 (s:={ s with toks:=s.toks+1 }) I.ns λh' hn2 hs2=>?_;obtain⟨oD,esD,epD,hoD,hdD,hcD⟩:=hn2.count (PySem.Within.cons name v hw);refine aP (wpAny_lookBehind hoD (by rw[hdD];exact pastItsLine_dict (Nat.le_trans hcD (by rw[jo];omega))) ?_);exact bW (h _ ⟨(hs2.2 _ (Ne.symm I.ne)).trans I.obj,hn2,I.ne⟩ hs2)
theorem zm6{R:Result->Shared->Prop}{vs:List Value}{kw:List (Str×Value)}(X:K.In s.heap)(hm:PySem.W.makesIn K C=true)(hi:PySem.W.findIn K (.ref C) "__init__" = some (some (.ref f)))(hf:PySem.W.typeIn K (.ref f)=some (.type "function"))(h:codeAny (model prog w) (A.under (.builtin "type.__call__" ⟨.ref C::vs,kw⟩)) (.call (.ref f) ⟨.ref (s.heap.objs.size+1)::vs,kw⟩) (PySem.W.InitBack (s.heap.objs.size+1) R)
  { s with heap:=(s.heap.push PySem.W.emptyDict).push (PySem.W.instObj C s.heap.objs.size) }):
 codeAny (model prog w) A (.call (.ref C) ⟨vs,kw⟩) R s:=by
 obtain⟨hh,g,d,t,os⟩:=s;exact PySem.W.make_core (PySem.W.makes_of X hm) (PySem.W.looks_findIn X hi) (λself=>PySem.W.bind_fn X self hf) (.inl rfl) h
end
noncomputable def jx(f:Str)(v:V):List (Str×V)->List (Str×V)
 |[]=>[(f,v)]
 | (g,x)::r=>if g=f then(g,v)::r else(g,x)::jx f v r
theorem Wz(f g:Str)(v:V):∀fs:List (Str×V),(jx f v fs).lookup g=if g=f then some v else fs.lookup g
 |[]=>by
  show List.lookup g [(f,v)]=_;by_cases h:g=f
  .have hb:(g==f)=true:=beq_iff_eq.mpr h;simp only[List.lookup,hb,if_pos h]
  .have hb:(g==f)=false:=beq_eq_false_iff_ne.mpr h;simp only[List.lookup,hb,if_neg h]
 | (k,x)::r=>by
   have ih:=Wz f g v r;rw[show jx f v ((k,x)::r)=(if k=f then(k,v)::r else(k,x)::jx f v r) from rfl];by_cases hk:k=f
   .rw[if_pos hk];by_cases h:g=k
    .have hb:(g==k)=true:=beq_iff_eq.mpr h;simp only[List.lookup,hb,if_pos (h.trans hk)]
    .have hb:(g==k)=false:=beq_eq_false_iff_ne.mpr h;simp only[List.lookup,hb,if_neg (λe:g=f=>h (e.trans hk.symm))]
   .rw[if_neg hk];by_cases h:g=k
    .have hb:(g==k)=true:=beq_iff_eq.mpr h;simp only[List.lookup,hb,if_neg (λe:g=f=>hk (h.symm.trans e))]
    .have hb:(g==k)=false:=beq_eq_false_iff_ne.mpr h;simp only[List.lookup,hb];exact ih
theorem KD(f:Str)(v:V):∀fs:List (Str×V),f∈(jx f v fs).map (·.1)/\∀g,g∈fs.map (·.1)->g∈(jx f v fs).map (·.1)
 |[]=>⟨by simp[jx],λg h=>by simp at h⟩
 | (k,x)::r=>by
   obtain⟨i1,i2⟩:=KD f v r;rw[show jx f v ((k,x)::r)=(if k=f then(k,v)::r else(k,x)::jx f v r) from rfl];by_cases hk:k=f
   .rw[if_pos hk];subst hk;exact⟨by simp,λg h=>by simpa using h⟩
   .rw[if_neg hk];refine⟨?_,λg h=>?_⟩
    .rw[iJ];exact cU _ i1
    .rw[iJ] at h ⊢;rcases List.mem_cons.mp h with e|e
     .exact List.mem_cons.mpr (.inl e)
     .exact cU _ (i2 g e)
theorem Wy(f:Str)(v:V):∀fs:List (Str×V),(jx f v fs).length<=fs.length+1
 |[]=>by simp[jx]
 | (k,x)::r=>by
   have ih:=Wy f v r;rw[show jx f v ((k,x)::r)=(if k=f then(k,v)::r else(k,x)::jx f v r) from rfl];by_cases hk:k=f
   .rw[if_pos hk,jo,jo];omega
   .rw[if_neg hk,jo,jo];omega
theorem jn.some_of{v:V}{o:Option Value}(r:jn (some v) o):∃u,o=some u/\RelV v u:=by
 cases o with
 |none=>exact(show False from r).elim
 |some u=>exact⟨u,rfl,r⟩
def jn.none_of{o:Option Value}(r:jn none o):o=none:=by
 cases o with
 |none=>rfl
 |some u=>exact(show False from r).elim
theorem zlD{v:V}{u:Value}(r:RelV v u):PySem.W.handedIn u=true:=by
 cases v with
 |non=>cases (show u=Value.none from r);rfl
 |bl b=>cases (show u=Value.bool b from r);rfl
 |int i=>obtain⟨t,e⟩:=(show ∃t,u=Value.int i t from r);cases e;rfl
 |str x=>obtain⟨t,e⟩:=(show ∃t,u=Value.str x t from r);cases e;rfl
 |byt b=>obtain⟨t,e⟩:=(show ∃t,u=Value.bytes b t from r);cases e;rfl
 |flt b=>obtain⟨t,e⟩:=(show ∃t,u=Value.float b t from r);cases e;rfl
 |ref a=>cases (show u=Value.ref a from r);rfl
 |ty n=>cases (show u=Value.type n from r);rfl
section
variable {P:Program}{w:World}{H H':Hp}{h h':Heap}{a C dx:Addr}{fs fs':List (Str×V)}
theorem FQ(hok:gF P w H h)(e:H a=some (.ins C dx fs)):∃mA,lO h a dx C mA/\(∀f,jn (fs.lookup f) (mA f))/\PySem.Within mA (fs.map (·.1))/\fs.length<=1000/\H dx=some (.own a):=by
 obtain⟨d,z,ne,ob,mA,n,r,q⟩:=(show bT P w H h a (.ins C dx fs) from hok a _ e)
 exact⟨mA,⟨ob,n,ne⟩,r,q,z,d⟩
end
structure jZ(K:FgA)(C:Addr):Prop where
 pg:PySem.W.plainGet K C Str.empty=true
 hd:PySem.W.hasDictIn K C=true
 po:PySem.W.plainOver K C=true
 sa:PySem.W.findIn K (.ref C) "__setattr__" = some (some (.builtin "object.__setattr__"))
def jZ.get{K:FgA}{C:Addr}(c:jZ K C)(f:Str):PySem.W.plainGet K C f=true:=c.pg
def eY(K:FgA)(C:Addr)(f:Str):Prop:=PySem.W.findIn K (.ref C) f=some none
theorem eY.taker{K:FgA}{C:Addr}{f:Str}(n:eY K C f):PySem.W.takerIn K C f=some none:=by unfold PySem.W.takerIn;rw[show PySem.W.findIn K (.ref C) f=some none from n];rfl
structure Meth(K:FgA)(C:Addr)(m:Str)(f:Addr):Prop where
 at_:PySem.W.findIn K (.ref C) m=some (some (.ref f))
 fn:PySem.W.isFn K (.ref f)=true
 kp:PySem.W.keepIn K (.ref f)=true
section
variable {X:Cx}{pz:List (Addr×Obj)}{Z:St}{H:Hp}{s:Shared}{a C dx:Addr}{fs:List (Str×V)}{f:Str}{v:V}{A:Around}{E:Value->Shared->Prop}
theorem zkc{b:Bool}{Q:Value->Shared->Prop}(I:Inv X pz Z H s)(e:H a=some (.ins C dx fs))(c:jZ X.K C)(n:eY X.K C f)(l:fs.lookup f=some v)(h:∀u s',Inv X pz Z H s'->RelV v u->Q u s'):wpAny (model X.prog X.w) A (getAttr (.ref a) f b) Q E s:=by obtain⟨mA,O,r,_,_,_⟩:=FQ I.hok e;obtain⟨u,hu,ru⟩:=jn.some_of (v:=v) (o:=mA f) (by rw[<-l];exact r f);exact zpY I.kIn O (c.get f) c.hd n hu (zlD ru) (h u _ (I.tok _) ru)
theorem VH{m:Str}{g:Addr}{pl:Sem Bool}{Q:Value×List Value->Shared->Prop}(I:Inv X pz Z H s)(e:H a=some (.ins C dx fs))(c:jZ X.K C)(k:Meth X.K C m g)(l:fs.lookup m=none)(h:Q (.ref g,[.ref a]) s):wpAny (model X.prog X.w) A (getMethod (.ref a) m pl) Q E s:=by obtain⟨mA,O,r,_,_,_⟩:=FQ I.hok e;have hn:mA m=none:=jn.none_of (by rw[<-l];exact r m);exact znk I.kIn O (c.get m) k.at_ k.fn hn h
theorem zjR{y:V}{u:Value}{Q:Unit->Shared->Prop}(I:Inv X pz Z H s)(e:H a=some (.ins C dx fs))(c:jZ X.K C)(n:eY X.K C f)(hl:fs.length<1000)(ry:RelV y u)(h:∀s',Inv X pz Z (upd H a (.ins C dx (jx f y fs))) s'->Q () s'):wpAny (model X.prog X.w) A (setAttr (.ref a) f u) Q E s:=by
 obtain⟨mA,O,r,wi,_,ho⟩:=FQ I.hok e;have hz:(fs.map (·.1)).length<=sizeLine:=by rw[cY,sizeLine_eq];omega
 refine zoL I.kIn O c.sa c.po n.taker c.hd wi hz λh' O' sb=>h _ ?_;have hd:∃o,h'.get? dx=some o:=let ⟨o,_,_,e',_⟩:=O'.ns;⟨o,e'⟩;refine I.write (x:=a) (e:=dx) (by rw[e];exact True.intro) (.inr ho) (λb q hb z=>(sb.2 b hb).trans z) hd ?_;refine⟨by rw[cD O.ne];exact ho,?_,O.ne,O'.obj,_,O'.ns,λg=>?_,λg hg=>?_⟩
 .have:=Wy f y fs;omega
 .show jn ((jx f y fs).lookup g) (if g=f then some u else mA g);rw[Wz];by_cases q:g=f
  .rw[if_pos q,if_pos q];exact ry
  .rw[if_neg q,if_neg q];exact r g
 .by_cases q:g=f
  .rw[q];exact(KD f y fs).1
  .refine(KD f y fs).2 g (wi g λz=>hg ?_);show(if g=f then some u else mA g)=none;rw[if_neg q];exact z
theorem Inv.made(I:Inv X pz Z H s):Inv X pz Z (upd (upd H s.heap.objs.size (.own (s.heap.objs.size+1))) (s.heap.objs.size+1) (.ins C s.heap.objs.size []))
 { s with heap:=(s.heap.push PySem.W.emptyDict).push (PySem.W.instObj C s.heap.objs.size) }:=by
 have e1:(s.heap.push PySem.W.emptyDict).get? s.heap.objs.size=some PySem.W.emptyDict:=gG s.heap rfl;have e2:((s.heap.push PySem.W.emptyDict).push (PySem.W.instObj C s.heap.objs.size)).get? (s.heap.objs.size+1)=some (PySem.W.instObj C s.heap.objs.size):=by
  have:=gG (s.heap.push PySem.W.emptyDict) (o:=PySem.W.instObj C s.heap.objs.size) rfl
  rwa [Heap.size_push] at this
 have e3:(s.heap.push PySem.W.emptyDict).Ns s.heap.objs.size (λ_=>none):=⟨PySem.W.emptyDict,#[],_,e1,rfl,(λe he=>absurd he (by simp)),λ_=>rfl⟩
 have I1:=I.laid (a:=s.heap.objs.size) (o := .own (s.heap.objs.size+1)) (h':=s.heap.push PySem.W.emptyDict) (t':=s.toks) (λb u q=>dF _ q) (bH _) ⟨_,e1⟩;refine I1.laid (a:=s.heap.objs.size+1) (o := .ins C s.heap.objs.size []) (t':=s.toks) (λb u q=>dF _ q) (Nat.le_of_eq (Heap.size_push _ _)) ?_;have ne:s.heap.objs.size≠s.heap.objs.size+1:=dN (Nat.lt_succ_self _);refine⟨by rw[cD ne,fP],Nat.zero_le _,ne,e2,λ_=>none,(Heap.Ns1.of_empty e3).at λo q=>dF _ q,λ_=>True.intro,λy hy=>absurd rfl hy⟩
theorem zql{prog:Program}{w:World}{env:Env}{e:Expr}{f:Str}{pos:Pos}{s:Shared}{Q:Value->Shared->Prop}(hb:attributeBase e f env (eval e env)=eval e env)(h:wpAny (model prog w) A (eval e env) (λo s₁=>wpAny (model prog w) A (getAttr o f true) Q E s₁) E s):wpAny (model prog w) A (eval (.Attribute e f pos) env) Q E s :=
 Attribute_any_ h (by rw[arm_eval_Attribute,hb])
end
noncomputable def Ot(K:FgA)(ta:TE)(f:Str):TE:=λZ H Q=>ta Z H λx H1=>∃a C dx fs v,x = .ref a/\H1 a=some (.ins C dx fs)/\jZ K C/\eY K C f/\fs.lookup f=some v/\Q v H1
noncomputable def Oz(K:FgA)(ta tv:TE)(f:Str):TS:=λD Z H=>tv Z H λy H1=>ta Z H1 λx H2=>∃a C dx fs,x = .ref a/\H2 a=some (.ins C dx fs)/\jZ K C/\eY K C f/\fs.length<1000 /\
 D.nx Z (upd H2 a (.ins C dx (jx f y fs)))
section
variable {X:Cx}{o e value:Expr}{f:Str}{pos pos' tpos:Pos}{ta tv:TE}
theorem zrE(he:PE X e ta)(hb:attributeBase e f X.env (eval e X.env)=eval e X.env):PE X (.Attribute e f pos) (Ot X.K ta f):=by intro pz s Z H Q I h;refine zql hb (bQ (he pz s Z H _ I h) λu s1 ⟨x,H1,I1,rx,a,C,dx,fs,v,ex,ea,c,n,l,q⟩=>?_);subst ex;obtain rfl:u=Value.ref a:=rx;exact zkc I1 ea c n l λu' s2 I2 ru=>⟨v,H1,I2,ru,q⟩
theorem zrq(ha:PE X o ta)(hv:PE X value tv)(hs:swapsWith value (some (.Attribute o f pos')) pos.line X.env=pure false):PS X (.Assign [.Attribute o f pos'] value pos) (Oz X.K ta tv f):=by intro pz s Z H D I h;refine plainObj_wpAny_Assign_Attribute (bQ (hv pz s Z H _ I h) λu s1 ⟨y,H1,I1,ry,q⟩=>bQ (ha pz s1 Z H1 _ I1 q) λov s2 ⟨x,H2,I2,rx,a,C,dx,fs,ex,ea,c,n,l,q2⟩=>?_) hs;subst ex;obtain rfl:ov=Value.ref a:=rx;exact zjR I2 ea c n l ry λs3 I3=>⟨Z,_,I3,q2⟩
end
section
variable {X:Cx}{pz:List (Addr×Obj)}{Z:St}{H:Hp}{s:Shared}{A:Around}{E:Value->Shared->Prop}{Q:Value->Shared->Prop}{c:Value}{b:Bool}
inductive mH(K:FgA)(H:Hp):V->Value->Prop where
 |non:mH K H .non (.type "NoneType")
 |bl (x:Bool):mH K H (.bl x) (.type "bool")
 |int (i:Int):mH K H (.int i) (.type "int")
 |str (x:Str):mH K H (.str x) (.type "str")
 |flt (x:UInt64):mH K H (.flt x) (.type "float")
 |lst {a:Addr} {xs:List V} (e:H a=some (.lst xs)):mH K H (.ref a) (.type "list")
 |frz {a:Addr} {o:Obj} {xs:List V} (e:H a=some (.frz o (.lst xs))):mH K H (.ref a) (.type "list")
 |tup {a:Addr} {xs:List V} (e:H a=some (.tup xs)):mH K H (.ref a) (.type "tuple")
 |dK {a:Addr} {kvs:List (Key×V)} (e:H a=some (.dK kvs)):mH K H (.ref a) (.type "dict")
 |dT {a:Addr} {kvs:List (List Key×V)} (e:H a=some (.dT kvs)):mH K H (.ref a) (.type "dict")
 |ins {a C dx:Addr} {fs:List (Str×V)} (e:H a=some (.ins C dx fs)) (cl:jZ K C) (ha:PySem.W.findIn K (.ref C) "__class__" = some (some (.builtin "object.__class__")))
  (hn:PySem.W.specialIn K (.builtin "object.__class__") "__get__" = some (some (.builtin "getset_descriptor.__get__"))) (htk:PySem.W.takesIn K (.builtin "object.__class__")=some true)
  (hm:PySem.W.mroIn K C (.type "object")=some true):mH K H (.ref a) (.ref C)
theorem zls{x:V}{u t:Value}(I:Inv X pz Z H s)(rx:RelV x u)(ty:mH X.K H x t)(e:PySem.W.kitOne X.K t c=some b)(h:∀tk,Q (.bool b) { s with toks:=tk }):
 wpAny (model X.prog X.w) A (call (.builtin "isinstance") [u,c]) Q E s:=by
 cases ty with
 |non=>cases (show u=Value.none from rx);exact PySem.W.kia_one PySem.W.kitx_none I.kIn True.intro e (λz=>nomatch z) h
 |bl y=>cases (show u=Value.bool y from rx);exact PySem.W.kia_one PySem.W.kitx_bool I.kIn True.intro e (λz=>nomatch z) h
 |int i=>obtain⟨t,q⟩:=(show ∃t,u=Value.int i t from rx);cases q;exact PySem.W.kia_one PySem.W.kitx_int I.kIn True.intro e (λz=>nomatch z) h
 |str y=>obtain⟨t,q⟩:=(show ∃t,u=Value.str y t from rx);cases q;exact PySem.W.kia_one PySem.W.kitx_str I.kIn True.intro e (λz=>nomatch z) h
 |flt y=>obtain⟨t,q⟩:=(show ∃t,u=Value.float y t from rx);cases q;exact PySem.W.kia_one PySem.W.kitx_float I.kIn True.intro e (λz=>nomatch z) h
 |@lst a xs ea =>
  cases (show u=Value.ref a from rx);obtain⟨_,_,n,_,h1⟩:=(show bT X.prog X.w H s.heap a (.lst xs) from I.hok a _ ea)
  exact PySem.W.kia_one PySem.W.kitx_list I.kIn ⟨_,h1,rfl⟩ e (λz=>nomatch z) h
 |@frz a ob xs ea =>
  cases (show u=Value.ref a from rx);obtain⟨_,_,_,n,_,h1⟩:=(show bT X.prog X.w H s.heap a (.frz ob (.lst xs)) from I.hok a _ ea)
  exact PySem.W.kia_one PySem.W.kitx_list I.kIn ⟨_,h1,rfl⟩ e (λz=>nomatch z) h
 |@tup a xs ea =>
  cases (show u=Value.ref a from rx);obtain⟨_,_,_,p⟩:=(show bT X.prog X.w H s.heap a (.tup xs) from I.hok a _ ea)
  obtain⟨o,h1,h2,_⟩:=p;exact PySem.W.kia_one PySem.W.kitx_tuple I.kIn ⟨o,h1,h2⟩ e (λz=>nomatch z) h
 |@dK a kvs ea =>
  cases (show u=Value.ref a from rx);obtain⟨_,_,vs,_,p⟩:=(show bT X.prog X.w H s.heap a (.dK kvs) from I.hok a _ ea)
  obtain⟨o,es,ep,h1,h2,_⟩:=p;exact PySem.W.kia_one PySem.W.kitx_dict I.kIn ⟨o,h1,h2.1⟩ e (λz=>nomatch z) h
 |@dT a kvs ea =>
  cases (show u=Value.ref a from rx);obtain⟨_,_,xs,_,o,es,ep,h1,h2,_⟩:=(show bT X.prog X.w H s.heap a (.dT kvs) from I.hok a _ ea)
  exact PySem.W.kia_one PySem.W.kitx_dict I.kIn ⟨o,h1,h2.1⟩ e (λz=>nomatch z) h
 |@ins a C dx fs ea cl ha hn htk hm =>
  cases (show u=Value.ref a from rx);obtain⟨mA,O,_⟩:=FQ I.hok ea;obtain⟨od,J,_⟩:=O.look;exact PySem.W.kia_one (PySem.W.kitx_own (cl.get _) cl.hd ha hn htk hm) I.kIn J e (λz=>nomatch z) h
end
structure bM(k:Nat)(A:Around):Prop where
 hd:A.handled=none
 dp:A.depth+3*k+5<recursionLimit
 un:A.units+16*k+200<cLine
def bM.mono{j k:Nat}{A:Around}(r:bM k A)(h:j<=k):bM j A:=⟨r.hd,by have:=r.dp;omega,by have:=r.un;omega⟩
theorem bM.deeper{k:Nat}{A:Around}(r:bM (k+1) A)(env:Env):bM k (A.deeper env) :=
 ⟨r.hd,by have:=r.dp;show A.depth+1+3*k+5<_;omega,by have:=r.un;show A.units+3+16*k+200<_;omega⟩
def bM.in1{k:Nat}{A:Around}(r:bM (k+1) A):bM k A.in1 :=
 ⟨r.hd,by have:=r.dp;show A.depth+3*k+5<_;omega,by have:=r.un;show A.units+1+16*k+200<_;omega⟩
theorem zj4{A:Around}{C:Addr}{us:List Value}{kw:List (Str×Value)}:(A.under (.builtin "type.__call__" ⟨.ref C::us,kw⟩)).depth=A.depth+1:=by
 first|rfl|simp[Around.under,Code.weight,Code.isCreation,Code.isGuard,Code.isCaller,Code.frames,Code.isFrame,guardIds]
theorem zj3{A:Around}{C:Addr}{us:List Value}{kw:List (Str×Value)}:(A.under (.builtin "type.__call__" ⟨.ref C::us,kw⟩)).units=A.units+1:=by
 first|rfl|simp[Around.under,Code.cUnits,Code.frames,Code.isFrame]
theorem bM.make{k:Nat}{A:Around}(r:bM (k+1) A)(C:Addr)(us:List Value)(kw:List (Str×Value)):bM k (A.under (.builtin "type.__call__" ⟨.ref C::us,kw⟩)) :=
 ⟨r.hd,by have:=r.dp;rw[zj4];omega,by have:=r.un;rw[zj3];omega⟩
def bM.depth{k:Nat}{A:Around}(r:bM k A):A.depth<recursionLimit:=by have:=r.dp;omega
def bM.units{k:Nat}{A:Around}(r:bM k A):A.units+64<cLine:=by have:=r.un;omega
noncomputable def Bq:TA:=λ_ H Q=>Q [] H
noncomputable def Bu(ta:TE)(tr:TA):TA:=λZ H Q=>ta Z H λx H1=>tr Z H1 λxs H2=>Q (x::xs) H2
section
variable {X:Cx}{e:Expr}{es:List Expr}{te:TE}{t:TA}{pos:Pos}
def zrH:PA X [] Bq:=λ_ _ _ _ H Q I h=>Calls.spliced_nil ⟨[],H,I,.nil,h⟩
theorem zpf(ha:PE X e te)(hr:PA X es t)(hs:starEach (e::es) X.env=(false,eval e X.env)::starEach es X.env:=by rfl):PA X (e::es) (Bu te t):=by intro pos pz s Z H Q I h;rw[hs];show wpAny _ _ (spliced ((false,eval e X.env)::backTo pos (starEach es X.env))) _ _ s;refine Calls.spliced_cons (bQ (ha pz s Z H _ I h) λu s1 ⟨x,H1,I1,r1,q1⟩=>?_);exact bQ (hr pos pz s1 Z H1 _ I1 q1) λus s2 ⟨xs,H2,I2,r2,q2⟩=>⟨x::xs,H2,I2,.cons r1 r2,q2⟩
noncomputable def Oe(t:TA):TE:=λZ H Q=>t Z H λxs H1=>xs.length<=sizeLine/\∀p,H1 p=none->Q (.ref p) (upd H1 p (.tup xs))
noncomputable def Ol(t:TA):TE:=λZ H Q=>t Z H λxs H1=>xs.length<=sizeLine/\∀p,H1 p=none->Q (.ref p) (upd H1 p (.lst xs))
theorem zrx{x1}(h:PA X es t):PE X (.Tuple es x1 pos) (Oe t):=by intro pz s Z H Q I hq;refine wpAny_Tuple_spliced (bQ (h pos pz s Z H _ I hq) λus s1 ⟨xs,H1,I1,r,z,q⟩=>⟨by rw[<-r.length];exact z,?_⟩);have hf:H1 s1.heap.objs.size=none:=I1.hok.fresh (bH _);refine⟨.ref s1.heap.objs.size,upd H1 s1.heap.objs.size (.tup xs),I1.laid (t':=s1.toks) (λb u e=>dF _ e) (bH _) ?_,rfl,q _ hf⟩;exact⟨z,us,r,⟨_,gG _ rfl,rfl,_,rfl⟩⟩
theorem zrC(h:PA X es t):PE X (.List es pos) (Ol t):=by intro pz s Z H Q I hq;refine wpAny_List_spliced (bQ (h pos pz s Z H _ I hq) λus s1 ⟨xs,H1,I1,r,z,q⟩=>⟨by rw[<-r.length];exact z,?_⟩);have hf:H1 s1.heap.objs.size=none:=I1.hok.fresh (bH _);refine⟨.ref s1.heap.objs.size,upd H1 s1.heap.objs.size (.lst xs),I1.laid (t':=s1.toks) (λb u e=>dF _ e) (bH _) ?_,rfl,q _ hf⟩;exact⟨z,us,0,r,gG _ rfl⟩
end
abbrev Sp:=List V->Hp->VK->XK->Prop
abbrev pO:=List Env->Hp->Shared->XK->Value->Shared->Prop
structure jG(P:Program)(w:World)(K:FgA)(mg:Str->Option Value)(base:Heap)(A:Around)(outer:List Env)(s:Shared)(H:Hp):Prop where
 frames:A.frames=some outer
 mod:Mod K mg base
 bs:∀b o,base.get? b=some o->s.heap.get? b=some o/\H b=none
 bsz:base.objs.size<=s.heap.objs.size
 funs:s.heap.FunFrames base outer
 frf:∀b∈frs outer,H b=none
 hok:gF P w H s.heap
 bare:AllBare s.gens
noncomputable def CE(outer:List Env)(P:Program)(w:World)(H:Hp)(s:Shared)(Q:VK)(u:Value)(s':Shared):Prop :=
 ∃v H',s'.os=s.os/\AllBare s'.gens/\Un (frs outer) [] H H' s.heap s'.heap/\gF P w H' s'.heap/\RelV v u/\Q v H'
noncomputable def CR(CX:pO)(outer:List Env)(P:Program)(w:World)(H:Hp)(s:Shared)(Q:VK)(E:XK)(r:Result)(s':Shared):Prop :=
 match r with
 |.ok (.ret u)=>CE outer P w H s Q u s'
 |.ok _=>False
 |.error e=>CX outer H s E e s'
structure di(P:Program)(w:World)(K:FgA)(mg:Str->Option Value)(base:Heap)(CX:pO)(k:Nat)(f:Addr)(fd:FuncData)(ps:List Str)(sp:Sp):Prop where
 len:∀vs H Q E,sp vs H Q E->vs.length=ps.length
 run:∀(A:Around) (outer:List Env) (s:Shared) (H:Hp) (args:Args) (us:List Value) (vs:List V) (Q:VK) (E:XK),bM k A->jG P w K mg base A outer s H->BindsTo s fd args (ps.zip us)->Vals vs us->sp vs H Q E ->
  codeAny (model P w) A (.call (.ref f) args) (CR CX outer P w H s Q E) s
def di.mono{P:Program}{w:World}{K:FgA}{mg:Str->Option Value}{base:Heap}{CX:pO}{j k:Nat}{f:Addr}{fd:FuncData}{ps:List Str}{sp:Sp}(F:di P w K mg base CX j f fd ps sp)(h:j<=k):
 di P w K mg base CX k f fd ps sp:=⟨F.len,λA outer s H args us vs Q E hr=>F.run A outer s H args us vs Q E (hr.mono h)⟩
theorem jG.make{P:Program}{w:World}{K:FgA}{mg:Str->Option Value}{base:Heap}{A:Around}{outer:List Env}{s:Shared}{H:Hp}(e:jG P w K mg base A outer s H)(C:Addr)(us:List Value)(kw:List (Str×Value)):
 jG P w K mg base (A.under (.builtin "type.__call__" ⟨.ref C::us,kw⟩)) outer s H:=⟨by first|exact e.frames|(simpa[Around.under,Code.envs,Code.isFrame,pushEnvs] using e.frames),e.mod,e.bs,e.bsz,e.funs,e.frf,e.hok,e.bare⟩
section
variable {X:Cx}{pz:List (Addr×Obj)}{Z:St}{H:Hp}{s s':Shared}
def Inv.env0(I:Inv X pz Z H s):jG X.prog X.w X.K X.mg X.base X.A X.stack s H :=
 ⟨I.ok.frames,I.ok.mod,I.bs,Nat.le_trans I.ok.bsz I.sz,I.stack,I.stkFree,I.hok,I.bare⟩
theorem Inv.after{Q:VK}{u:Value}(I:Inv X pz Z H s)(h:CE X.stack X.prog X.w H s Q u s'):EP X pz Z Q u s':=by obtain⟨v,H',os,bare,un,hok,r,q⟩:=h;obtain⟨hh,g,d,t,os'⟩:=s';obtain rfl:os'=s.os:=os;exact⟨v,H',I.call (h':=hh) (g':=g) (d':=d) (t':=t) (ch:=[]) un hok bare (λb z=>absurd z (by simp)),r,q⟩
end
noncomputable def Bv(sp:Sp)(jl:List V)(E:XK)(t:TA):TE:=λZ H Q=>t Z H λvs H1=>sp (vs++jl) H1 Q E
noncomputable def tW(C:Addr)(m:Str)(sp:Sp)(jl:List V)(E:XK)(ta:TE)(t:TA):TE:=λZ H Q=>ta Z H λx H1=>∃a dx fs,x = .ref a/\H1 a=some (.ins C dx fs)/\fs.lookup m=none /\
 t Z H1 λvs H2=>sp (x::(vs++jl)) H2 Q E
noncomputable def Br(C:Addr)(sp:Sp)(jl:List V)(E:XK)(t:TA):TE:=λZ H Q=>t Z H λvs H1=>∀x dx,H1 x=none->H1 dx=none->dx≠x ->
 sp (.ref x::(vs++jl)) (upd (upd H1 dx (.own x)) x (.ins C dx [])) (λv H2=>v = .non/\Q (.ref x) H2) E
noncomputable def Binds(K:FgA)(fd:FuncData)(ps:List Str)(ds:List Value):Prop :=
 ∀(s:Shared) (us:List Value),K.In s.heap->(us++ds).length=ps.length->BindsTo s fd ⟨us,[]⟩ (ps.zip (us++ds))
theorem Binds.all{K:FgA}{fd:FuncData}{ps:List Str}(h:∀us:List Value,us.length=ps.length->bindArgs fd ⟨us,[]⟩=pure (ps.zip us)):Binds K fd ps []:=λs us _ hl=>by rw[List.append_nil] at hl ⊢;exact .of_eq (h us hl)
def u5(CX:pO)(X:Cx)(E:XK):Prop:=∀(pz:List (Addr×Obj)) (Z:St) (H:Hp) (s:Shared) (e:Value) (s':Shared),Inv X pz Z H s->CX X.stack H s E e s'->X.xe e s'
section
variable {X:Cx}{CX:pO}{k:Nat}{f C:Addr}{fd:FuncData}{ps:List Str}{sp:Sp}{jl:List V}{ds:List Value}{E:XK}{x m:Str}{p pos apos:Pos}{e o:Expr}{es:List Expr}{ta:TE}{t:TA}
theorem Jo{pz:List (Addr×Obj)}{Z:St}{H:Hp}{s:Shared}{Q:VK}{us:List Value}{vs:List V}(F:di X.prog X.w X.K X.mg X.base CX k f fd ps sp)(hr:bM k X.A)(hb:Binds X.K fd ps ds)(hd:Vals jl ds)(hx:u5 CX X E)(I:Inv X pz Z H s)(r:Vals vs us)(h:sp (vs++jl) H Q E):wpAny (model X.prog X.w) X.A (call (.ref f) us) (EP X pz Z Q) X.xe s:=by
 have r2:Vals (vs++jl) (us++ds):=r.append hd;have hl:(us++ds).length=ps.length:=by rw[<-r2.length];exact F.len _ _ _ _ h
 refine wpAny_call (codeAny_mono (F.run X.A X.stack s H ⟨us,[]⟩ (us++ds) (vs++jl) Q E hr I.env0 (hb s us I.kIn hl) r2 h) λr s' hq=>?_);cases r with
 |error e=>exact hx pz Z H s e s' I hq
 |ok fl =>
  cases fl with
  |ret u=>exact I.after hq
  |next=>exact False.elim hq
  |brk=>exact False.elim hq
  |cont=>exact False.elim hq
theorem zpc(F:di X.prog X.w X.K X.mg X.base CX k f fd ps sp)(hr:bM k X.A)(hg:Gl X x)(hm:X.mg x=some (.ref f))(hk:PySem.W.keepIn X.K (.ref f)=true)(hb:Binds X.K fd ps ds)(hd:Vals jl ds)(hx:u5 CX X E)(ha:PA X (e::es) t)(hdb:(x==("__debug__" : Str))=false:=by decide)(he:starEach (e::es) X.env=(false,eval e X.env)::starEach es X.env:=by rfl)(hpl:(backTo pos (starEach es X.env)).any (·.1)=false:=by rfl):
 PE X (.Call (.Name x p) (e::es) [] pos) (Bv sp jl E t):=by
 intro pz s Z H Q I h;refine wpAny_Call_Name_kw (Jr I hg hm ?_ hdb);refine PySem.W.callWith_K (h₀:=X.base) I.ok.mod.kin hk (bQ (ha pos pz s Z H _ I h) λus s1 ⟨vs,H1,I1,r,q⟩=>⟨I1.kIn,?_⟩) he hpl;exact Jo F hr hb hd hx I1 r q
theorem zo9{pl:Sem Bool}(he:PE X o ta)(c:jZ X.K C)(hm:Meth X.K C m f)(F:di X.prog X.w X.K X.mg X.base CX k f fd ps sp)(hr:bM k X.A)(hb:Binds X.K fd ps ds)(hd:Vals jl ds)(hx:u5 CX X E)(ha:PA X (e::es) t)(hst:starEach (e::es) X.env=(false,eval e X.env)::starEach es X.env:=by rfl)(hpl:(backTo pos (starEach es X.env)).any (·.1)=false:=by rfl)(ht:eval (.Call (.Attribute o m apos) (e::es) [] pos) X.env=(do
  let ov <-eval o X.env
  standAt apos.atName
  let (f,first) <-holding [ov] (getMethod ov m pl)
  callWith pos f first (backTo pos (starEach (e::es) X.env)) (backToKw pos (keywordEach [] X.env))):=by rfl):
 PE X (.Call (.Attribute o m apos) (e::es) [] pos) (tW C m sp jl E ta t):=by
 intro pz s Z H Q I h;refine PySem.W.methodCall_KW (pl:=pl) (bQ (he pz s Z H _ I h) λu s1 ⟨x,H1,I1,rx,a,dx,fs,ex,ea,l,q⟩=>?_) ht;subst ex;obtain rfl:u=Value.ref a:=rx;refine VH I1 ea c hm l ?_;refine PySem.W.callWith_K (first:=[.ref a]) (h₀:=X.base) I.ok.mod.kin hm.kp (bQ (ha pos pz s1 Z H1 _ I1 q) λus s2 ⟨vs,H2,I2,r,q2⟩=>⟨I2.kIn,?_⟩) hst hpl;exact Jo (us := .ref a::us) (vs := .ref a::vs) F hr hb hd hx I2 (.cons rfl r) q2
theorem zmV{pl:Sem Bool}(he:PE X o ta)(c:jZ X.K C)(hm:Meth X.K C m f)(F:di X.prog X.w X.K X.mg X.base CX k f fd ps sp)(hr:bM k X.A)(hb:Binds X.K fd ps ds)(hd:Vals jl ds)(hx:u5 CX X E)(ht:eval (.Call (.Attribute o m apos) [] [] pos) X.env=(do
  let ov <-eval o X.env
  standAt apos.atName
  let (f,first) <-holding [ov] (getMethod ov m pl)
  callWith pos f first (backTo pos (starEach [] X.env)) (backToKw pos (keywordEach [] X.env))):=by rfl):
 PE X (.Call (.Attribute o m apos) [] [] pos) (tW C m sp jl E ta Bq):=by
 intro pz s Z H Q I h;refine PySem.W.methodCall_KW (pl:=pl) (bQ (he pz s Z H _ I h) λu s1 ⟨x,H1,I1,rx,a,dx,fs,ex,ea,l,q⟩=>?_) ht;subst ex;obtain rfl:u=Value.ref a:=rx;refine VH I1 ea c hm l ?_;exact PySem.W.callWith_K0 (first:=[.ref a]) I1.kIn hm.kp (Jo (us:=[.ref a]) (vs:=[.ref a]) F hr hb hd hx I1 (.cons rfl .nil) q)
structure Mk(K:FgA)(C f:Addr):Prop where
 makes:PySem.W.makesIn K C=true
 init:PySem.W.findIn K (.ref C) "__init__" = some (some (.ref f))
 fn:PySem.W.isFn K (.ref f)=true
 kp:PySem.W.keepIn K (.ref C)=true
theorem zmJ{pz:List (Addr×Obj)}{Z:St}{H:Hp}{s:Shared}{Q:VK}{us:List Value}{vs:List V}(M:Mk X.K C f)(F:di X.prog X.w X.K X.mg X.base CX k f fd ps sp)(hr:bM (k+1) X.A)(hb:Binds X.K fd ps ds)(hd:Vals jl ds)(hx:u5 CX X E)(I:Inv X pz Z H s)(r:Vals vs us)(h:∀x dx,H x=none->H dx=none->dx≠x->sp (.ref x::(vs++jl)) (upd (upd H dx (.own x)) x (.ins C dx [])) (λv H2=>v = .non/\Q (.ref x) H2) E):
 wpAny (model X.prog X.w) X.A (call (.ref C) us) (EP X pz Z Q) X.xe s:=by
 have hq:=h (s.heap.objs.size+1) s.heap.objs.size (I.hok.fresh (Nat.le_succ _)) (I.hok.fresh (bH _)) (dN (Nat.lt_succ_self _));have I2:=Inv.made (C:=C) I;have r2:Vals (V.ref (s.heap.objs.size+1)::(vs++jl)) (Value.ref (s.heap.objs.size+1)::(us++ds)) := .cons rfl (r.append hd);have hl:(Value.ref (s.heap.objs.size+1)::us++ds).length=ps.length:=by have e:=r2.length;rw[F.len _ _ _ _ hq] at e;exact e.symm
 refine wpAny_call (zm6 (f:=f) I.kIn M.makes M.init (beq_iff_eq.mp M.fn) (codeAny_mono (F.run _ X.stack _ _ ⟨Value.ref (s.heap.objs.size+1)::us,[]⟩ (Value.ref (s.heap.objs.size+1)::(us++ds)) _ _ E (hr.make C us [])
  (I2.env0.make C us []) (hb _ (Value.ref (s.heap.objs.size+1)::us) I2.kIn hl) r2 hq) λr s' hq'=>?_))
 cases r with
 |error e=>exact hx pz Z _ _ e s' I2 hq'
 |ok fl =>
  cases fl with
  |ret u =>
   obtain⟨v,H',I3,rv,ev,q3⟩:=I2.after hq';subst ev;exact⟨rv,⟨V.ref (s.heap.objs.size+1),H',I3,rfl,q3⟩⟩
  |next=>exact False.elim hq'
  |brk=>exact False.elim hq'
  |cont=>exact False.elim hq'
theorem zpa(M:Mk X.K C f)(F:di X.prog X.w X.K X.mg X.base CX k f fd ps sp)(hr:bM (k+1) X.A)(hg:Gl X x)(hm:X.mg x=some (.ref C))(hb:Binds X.K fd ps ds)(hd:Vals jl ds)(hx:u5 CX X E)(ha:PA X (e::es) t)(hdb:(x==("__debug__" : Str))=false:=by decide)(he:starEach (e::es) X.env=(false,eval e X.env)::starEach es X.env:=by rfl)(hpl:(backTo pos (starEach es X.env)).any (·.1)=false:=by rfl):
 PE X (.Call (.Name x p) (e::es) [] pos) (Br C sp jl E t):=by
 intro pz s Z H Q I h;refine wpAny_Call_Name_kw (Jr I hg hm ?_ hdb);refine PySem.W.callWith_K (h₀:=X.base) I.ok.mod.kin M.kp (bQ (ha pos pz s Z H _ I h) λus s1 ⟨vs,H1,I1,r,q⟩=>⟨I1.kIn,?_⟩) he hpl;exact zmJ M F hr hb hd hx I1 r q
end
structure oW(N P:List Str)(sc:Scope):Prop where
 kind:sc.kind = .function
 co:sc.isCoroutine=false
 gen:sc.isGenerator=false
 nd:N.Nodup
 pre:N.take P.length=P
 par:∀x∈P,sc.names.lookup x=some .local\/sc.names.lookup x=some .cell
 nofree:∀y∈sc.names,y.2 ≠ .free
theorem Vz{kindOf:Str->Option NameKind}{x:Str}:∀{binds:List (Str×Value)} {m:Str->Option Value},(∀v,(x,v)∉binds)->bindL kindOf binds m x=m x
 |[],_,_=>rfl
 | (n,v)::r,m,h=>by
   unfold bindL;rw[Vz λw hw=>h w (cU _ hw)];split
   .have:x≠n:=by rintro rfl;exact h v eZ
    simp[this]
   .rfl
theorem Us{kindOf:Str->Option NameKind}{x:Str}:∀{binds:List (Str×Value)} {m:Str->Option Value},(∀v,(x,v)∉binds)->bindC kindOf binds m x=m x
 |[],_,_=>rfl
 | (n,v)::r,m,h=>by
   unfold bindC;rw[Us λw hw=>h w (cU _ hw)];split
   .rfl
   .have:x≠n:=by rintro rfl;exact h v eZ
    simp[this]
theorem Vy{kindOf:Str->Option NameKind}{x:Str}{v:Value}:∀{P:List Str} {vs:List Value} {i:Nat} {m:Str->Option Value},P.Nodup->P[i]?=some x->vs[i]?=some v->kindOf x=some .local ->
 bindL kindOf (P.zip vs) m x=some v
 |[],_,_,_,_,h,_,_=>by simp at h
 |_::_,[],_,_,_,_,h,_=>by simp at h
 |p::P,w::vs,0,m,nd,h1,h2,hk=>by simp at h1 h2;subst h1;subst h2;show bindL kindOf ((p,w)::P.zip vs) m p=_;unfold bindL;rw[Vz λv hv=>(List.nodup_cons.mp nd).1 (List.of_mem_zip hv).1,if_pos hk];simp
 |p::P,w::vs,i+1,m,nd,h1,h2,hk=>by show bindL kindOf ((p,w)::P.zip vs) m x=_;unfold bindL;exact Vy (i:=i) (List.nodup_cons.mp nd).2 (by simpa using h1) (by simpa using h2) hk
theorem Ur{kindOf:Str->Option NameKind}{x:Str}{v:Value}:∀{P:List Str} {vs:List Value} {i:Nat} {m:Str->Option Value},P.Nodup->P[i]?=some x->vs[i]?=some v->kindOf x≠some .local ->
 bindC kindOf (P.zip vs) m x=some v
 |[],_,_,_,_,h,_,_=>by simp at h
 |_::_,[],_,_,_,_,h,_=>by simp at h
 |p::P,w::vs,0,m,nd,h1,h2,hk=>by simp at h1 h2;subst h1;subst h2;show bindC kindOf ((p,w)::P.zip vs) m p=_;unfold bindC;rw[Us λv hv=>(List.nodup_cons.mp nd).1 (List.of_mem_zip hv).1,if_neg hk];simp
 |p::P,w::vs,i+1,m,nd,h1,h2,hk=>by show bindC kindOf ((p,w)::P.zip vs) m x=_;unfold bindC;exact Ur (i:=i) (List.nodup_cons.mp nd).2 (by simpa using h1) (by simpa using h2) hk
noncomputable def start(N:List Str)(vs:List V):St:=vs.map some++List.replicate (N.length - vs.length) none
noncomputable def pP(CX:pO)(P:Program)(w:World)(K:FgA)(mg:Str->Option Value)(base:Heap)(N:List Str)(qual:Str)(scope:Scope)(f:Addr)(cd:Value)(A:Around)(outer:List Env)(s:Shared)(H:Hp)(E:XK):Cx where
 prog:=P
 w:=w
 K:=K
 mg:=mg
 base:=base
 A:=A.deeper (envOfC qual scope s.heap.objs.size f cd)
 N:=N
 s₀:=s
 H₀:=H
 env:=envOfC qual scope s.heap.objs.size f cd
 outer:=outer
 stack:=envOfC qual scope s.heap.objs.size f cd::outer
 ex:=[]
 calm:=true
 fn:=λ_=>true
 pn:=[]
 xe:=λe s'=>wpAny (model P w) (A.deeper (envOfC qual scope s.heap.objs.size f cd)) (leaving (envOfC qual scope s.heap.objs.size f cd) e) (λ_ s''=>CX outer H s E e s'') (λe' s''=>CX outer H s E e' s'') s'
theorem T4{sc:Scope}{n:Nat}{x:Str}(h:sc.names.lookup x=some .cell):∃c,(cellsFrom n sc.names []).lookup x=some c:=by have q:=PySem.W.cellsFrom_some sc.names n [] (.inl h);exact Option.isSome_iff_exists.mp q
theorem zlv{CX:pO}{P:Program}{w:World}{K:FgA}{mg:Str->Option Value}{base:Heap}{N ps:List Str}{qual:Str}{scope:Scope}{f:Addr}{cd:Value}{A:Around}{outer:List Env}{s s1:Shared}{H:Hp}{E:XK}{us:List Value}{vs:List V}(S:oW N ps scope)(hd:A.handled=none)(e0:jG P w K mg base A outer s H)(hl:vs.length=ps.length)(r:Vals vs us)(x:InCallC s s.heap.objs.size (bindL (envOfC qual scope s.heap.objs.size f cd).kindOf (ps.zip us) λ_=>none) (cellsFrom (s.heap.objs.size+1) scope.names []) (bindC (envOfC qual scope s.heap.objs.size f cd).kindOf (ps.zip us) λ_=>none) s1):
 Inv (pP CX P w K mg base N qual scope f cd A outer s H E) [] (start N vs) H s1:=by
 have hpl:ps.length<=N.length:=by have:=congrArg List.length S.pre;rw[uL] at this;omega
 obtain⟨h1,tk,rfl,hk⟩:=x.done;have rN:∀b:Addr,b∉(pP CX P w K mg base N qual scope f cd A outer s H E).ex:=λb z=>absurd (show b∈([]:List Addr) from z) (by simp);refine⟨⟨e0.mod,S.kind,rfl,rfl,bH _,λy z c h1 h2=>?_,λy hy=>?_,λy c _ h=>?_,λ_=>hd,Around.frames_deeper e0.frames,.inr ⟨rfl,rfl⟩,λb z=>absurd z (rN b),e0.bs,e0.bsz,λb _ _=>rN b,λb z=>absurd z (rN b),e0.funs,e0.frf⟩,
  rfl,e0.bare,Un.kept hk,⟨_,x.toInCall.ns,λi y v h1 h2 h3=>?_⟩,λy c h=>⟨_,x.cell y c h⟩,e0.hok.fresh (bH _),λy c h=>?_,λp hp=>absurd (show p∈([]:List (Addr×Obj)) from hp) (by simp),e0.hok.kept hk,?_⟩
 .exact name_of_addr x.apart (iK h1) (iK h2)
 .have hy:scope.names.lookup y=some .cell\/scope.names.lookup y=some .free:=hy;rcases hy with hy|hy
  .exact T4 hy
  .exact absurd rfl (S.nofree _ (iK hy))
 .exact uJ (x.above y c (iK h))
 .have hi:i<vs.length:=by
   unfold start at h2;by_cases hi:i<vs.length
   .exact hi
   .rw[nJ (by simpa using hi)] at h2;rw[List.getElem?_replicate] at h2;split at h2<;>cases h2
  have ha:vs[i]?=some v:=by
   unfold start at h2;rw[lR (by simpa using hi),fW] at h2;cases e:vs[i]? with
   |none=>rw[e] at h2;cases h2
   |some a=>rw[e] at h2;cases h2;rfl
  obtain⟨u,hu,rv⟩:=r.get ha;have hp:ps[i]?=some y:=by rw[<-S.pre,List.getElem?_take_of_lt (by omega)];exact h1
  have YX:ps.Nodup:=by rw[<-S.pre];exact S.nd.sublist (List.take_sublist _ _)
  refine⟨u,rv,?_⟩;rcases S.par y (List.mem_of_getElem? hp) with k|k
  .exact .inl ⟨k,Vy YX hp hu k⟩
  .obtain⟨c,e⟩:=T4 (n:=s.heap.objs.size+1) k;refine .inr ⟨.inl k,c,e,?_⟩;have q:=x.cell y c e;rw[Ur YX hp hu (by show scope.names.lookup y≠_;rw[k];decide)] at q;exact q
 .exact e0.hok.fresh (uJ (x.above y c (iK h)))
 .unfold start;show _=N.length;rw[iW,cY,List.length_replicate];omega
theorem Iz{CX:pO}{P:Program}{w:World}{K:FgA}{mg:Str->Option Value}{base:Heap}{k:Nat}{f:Addr}{name qual:Str}{params:Arguments}{body:List Stmt}{scope:Scope}{dV kV doc pm cdv ct oc:Value}{an od:Option Addr}{osl:Array (Option Value)}{N ps:List Str}{sp:Sp}(lk:K.lookup f=some ⟨oc,od,.func (PySem.W.fnOf name qual params body scope dV kV doc pm an cdv ct),osl⟩)(hcd:PySem.W.codeIn K cdv qual=true)(S:oW N ps scope)(len:∀vs H Q E,sp vs H Q E->vs.length=ps.length)(hbody:∀(A:Around) (outer:List Env) (s:Shared) (H:Hp) (vs:List V) (Q:VK) (E:XK),bM k (A.deeper (envOfC qual scope s.heap.objs.size f cdv))->sp vs H Q E ->
  ∃t,jO (pP CX P w K mg base N qual scope f cdv A outer s H E) body t/\t { nx:=λ_ H'=>Q .non H',rt:=Q } (start N vs) H):
 di P w K mg base CX (k+1) f (PySem.W.fnOf name qual params body scope dV kV doc pm an cdv ct) ps sp:=by
 refine⟨len,λA outer s H args us vs Q E hr e0 hb r hsp=>?_⟩;have hl:=len _ _ _ _ hsp;have KX:K.In s.heap:=e0.mod.kin.keeps λb o e=>(e0.bs b o e).1;have lim:s.heap.NoLimit:=e0.mod.nolimit.keeps λb o e=>(e0.bs b o e).1;have hkind:∀y∈ps.zip us,scope.names.lookup y.1=some .local\/(scope.names.lookup y.1=some .cell/\((cellsFrom (s.heap.objs.size+1) scope.names []).lookup y.1).isSome=true):=λ⟨n,v⟩ hy=>by
  rcases S.par n (List.of_mem_zip hy).1 with q|q
  .exact .inl q
  .exact .inr ⟨q,PySem.W.cellsFrom_some _ _ _ (.inl q)⟩
 refine codeAny_call_function hr.depth (KX _ _ lk) rfl S.co S.gen rfl (PySem.W.codeRec_of KX hcd) (hb _ _ _ _ ?_);refine wpAny_newFunctionEnv_cells S.kind hkind λenv he s1 x=>?_;subst he;refine⟨lim.keeps x.toInCall.keep,codeAny_func ?_⟩;obtain⟨t,ht,hq⟩:=hbody A outer s H vs Q E (hr.deeper _) hsp;have I:Inv (pP CX P w K mg base N qual scope f cdv A outer s H E) [] (start N vs) H s1:=zlv S hr.hd e0 hl r x;refine kh (ht [] s1 (start N vs) H _ I hq) (λfl s' hs=>?_) λe s' hs=>hs;have fin:∀{Z':St} {H':Hp} {v:V} {u:Value},Inv (pP CX P w K mg base N qual scope f cdv A outer s H E) [] Z' H' s'->RelV v u->Q v H'->CE outer P w H s Q u s' :=
  λ{Z' H' v u} J rv q=>⟨v,H',J.os,J.bare,J.base,J.hok,rv,q⟩
 cases fl with
 |ret u =>
  obtain⟨v,Z',H',J,rv,q⟩:=hs;exact fin J rv q
 |next =>
  obtain⟨Z',H',J,q⟩:=hs;exact fin (v:=V.non) (u:=Value.none) J rfl q
 |brk =>
  obtain⟨_,_,_,q⟩:=hs;exact False.elim q
 |cont =>
  obtain⟨_,_,_,q⟩:=hs;exact False.elim q
section
variable {X:Cx}{x:Str}{p pos:Pos}{e:Expr}{es:List Expr}{t:TA}{id T:String}{r:List V->Hp->VK->Prop}
noncomputable def Yw(r:List V->Hp->VK->Prop)(t:TA):TE:=λZ H Q=>t Z H λvs H1=>r vs H1 Q
theorem zmX(hc:ir X (.builtin id) r)(hg:Gl X x)(hm:X.mg x=none)(hv:bootBuiltins x=some (.builtin id))(ha:PA X (e::es) t)(hn:x ≠ "__name__" := by decide)(hdb:(x==("__debug__" : Str))=false:=by decide)(he:starEach (e::es) X.env=(false,eval e X.env)::starEach es X.env:=by rfl)(hpl:(backTo pos (starEach es X.env)).any (·.1)=false:=by rfl):PE X (.Call (.Name x p) (e::es) [] pos) (Yw r t):=by intro pz s Z H Q I h;refine wpAny_Call_Name_kw (qW I hg hm hv ?_ hn hdb);exact PyProof.Rows.callWith_builtin1 (bQ (ha pos pz s Z H _ I h) λus s1 ⟨vs,H1,I1,r1,q1⟩=>hc pz s1 Z H1 vs us Q I1 r1 q1) he hpl
theorem zkZ(hc:ir X (.type T) r)(hg:Gl X x)(hm:X.mg x=none)(hv:bootBuiltins x=some (.type T))(ha:PA X (e::es) t)(hn:x ≠ "__name__" := by decide)(hdb:(x==("__debug__" : Str))=false:=by decide)(he:starEach (e::es) X.env=(false,eval e X.env)::starEach es X.env:=by rfl)(hpl:(backTo pos (starEach es X.env)).any (·.1)=false:=by rfl):PE X (.Call (.Name x p) (e::es) [] pos) (Yw r t):=by intro pz s Z H Q I h;refine wpAny_Call_Name_kw (qW I hg hm hv ?_ hn hdb);exact PyProof.Rows.callWith_type1 (bQ (ha pos pz s Z H _ I h) λus s1 ⟨vs,H1,I1,r1,q1⟩=>hc pz s1 Z H1 vs us Q I1 r1 q1) he hpl
end
end L2
namespace HT
open PySem PyProof.Rows
section
variable {prog:Program}{w:World}{A:Around}{E:Value->Shared->Prop}{s:Shared}
theorem zqf{t b:Addr}{vs ws:List Value}{Q:Value->Shared->Prop}(ht:IsTup s.heap t vs.toArray)(hb:IsTup s.heap b ws.toArray)(hv:vs≠[])(h1:ws=[]->Q (.ref t) s)(h2:ws≠[]->Q (.ref s.heap.objs.size) { s with heap:=s.heap.push { cls := .type "tuple",data := .seq (vs++ws).toArray } })(hsz:vs.length+ws.length<=sizeLine):wpAny (model prog w) A (binaryOp .Add (.ref t) (.ref b)) Q E s:=by
 obtain⟨⟨cls,dd,data,sl⟩,ho,hc,n,hd⟩:=id ht;obtain⟨⟨cls2,dd2,data2,sl2⟩,ho2,hc2,n2,hd2⟩:=id hb;simp only at hc hd hc2 hd2;subst hc hd hc2 hd2;have e:vs.toArray++ws.toArray=(vs++ws).toArray:=by simp
 by_cases hw:ws=[]
 .exact concat_meets ⟨_,ho,rfl⟩ ⟨_,ho2,rfl⟩ noFill_tuple_add seq_tuple_add PySem.F.slot_tuple_add PySem.F.entry_tuple_add (PySem.F.args_tuple_add_2 _ _)
   (tuple_addW1 t b vs.toArray ws.toArray n n2 dd dd2 sl sl2 (by simpa using hv) (by simp[hw])) ⟨ho,ho2,h1 hw⟩
 .refine concat_meets ⟨_,ho,rfl⟩ ⟨_,ho2,rfl⟩ noFill_tuple_add seq_tuple_add PySem.F.slot_tuple_add PySem.F.entry_tuple_add (PySem.F.args_tuple_add_2 _ _)
   (tuple_addW2 t b vs.toArray ws.toArray n n2 dd dd2 sl sl2 (by simpa using hv) (by simpa using hw) (by rw[d9,d9];exact hsz)) ⟨ho,ho2,?_⟩
  rw[e];exact h2 hw
noncomputable def sIx(n d:Nat):Option Int->Nat
 |none=>d
 |some v=>if v<0 then(v+(n:Int)).toNat else min v.toNat n
def zi4(n d:Nat):sIx n d none=d:=rfl
theorem zkS(n d k:Nat):sIx n d (some (k:Int))=min k n:=by show(if(k:Int)<0 then((k:Int)+(n:Int)).toNat else min (k:Int).toNat n)=min k n;rw[if_neg (by omega),Int.toNat_natCast]
theorem zri(n d:Nat)(hd:d<=n)(o:Option Int):sIx n d o<=n:=by
 cases o with
 |none=>exact hd
 |some v =>
  show(if v<0 then(v+(n:Int)).toNat else min v.toNat n)<=n;by_cases hv:v<0
  .rw[if_pos hv];omega
  .rw[if_neg hv];exact Nat.min_le_right _ _
theorem S6(v:Int)(n d:Nat):(if v<0 then max (v+(n:Int)) 0 else min v (n:Int))=((sIx n d (some v):Nat):Int):=by
 show(if v<0 then max (v+(n:Int)) 0 else min v (n:Int))=(((if v<0 then(v+(n:Int)).toNat else min v.toNat n):Nat):Int)
 by_cases hv:v<0
 .simp only[if_pos hv];omega
 .simp only[if_neg hv];omega
theorem zkn(lo hi:Option Int)(n:Nat):Builtin.Slice.sliceAdjust lo hi 1 (n:Int)=(((sIx n 0 lo:Nat):Int),((sIx n n hi:Nat):Int)):=by
 have h1:¬((1:Int)<0):=by omega
 unfold Builtin.Slice.sliceAdjust;simp only[h1,if_false];refine Prod.ext ?_ ?_
 .cases lo with
  |none=>rfl
  |some v=>exact S6 v n 0
 .cases hi with
  |none=>rfl
  |some v=>exact S6 v n n
theorem zjU(i j:Nat):Builtin.Slice.slicePlaces (i:Int) (j:Int) 1=j - i:=by
 unfold Builtin.Slice.slicePlaces;have h1:(1:Int)>0:=by omega
 simp only[h1,if_true,Int.ediv_one];split<;>omega
theorem VP{v:Value}{o:Option Int}{Q:Option Int->Shared->Prop}(p:IsPart v o)(h:Q o s):wpAny (model prog w) A (Builtin.Slice.slicePartIndex v) Q E s:=by
 cases p with
 |none=>exact slicePart_none h
 |int i t=>exact slicePart_int h
theorem zdv{sl:Addr}{vl vu:Value}{lo hi:Option Int}{n:Nat}{Q:Int×Int×Nat->Shared->Prop}(hs:s.heap.IsSliceOf sl vl vu .none)(pl:IsPart vl lo)(pu:IsPart vu hi)(h:Q (((sIx n 0 lo:Nat):Int),1,sIx n n hi - sIx n 0 lo) s):wpAny (model prog w) A (Builtin.Slice.sliceApplied (.ref sl) (pure (n:Int))) Q E s:=by obtain⟨os,hos,hcs,hds⟩:=id hs;unfold Builtin.Slice.sliceApplied Builtin.Slice.sliceFields;refine aP (aP (wpAny_field hos hds (x:=vl) rfl (aP (wpAny_field hos hds (x:=vu) rfl (aP (wpAny_field hos hds (x := .none) rfl (bW ?_)))))));refine aP (slicePart_none ?_);show wpAny _ _ (if((1:Int)==0)=true then _ else _) _ _ s;rw[if_neg (by decide)];refine aP (VP pl (aP (VP pu (aP (bW ?_)))));show wpAny _ _ (match Builtin.Slice.sliceAdjust lo hi 1 (n:Int) with|(lo,hi)=>pure (lo,(1:Int),Builtin.Slice.slicePlaces lo hi 1)) _ _ s;rw[zkn lo hi n];show wpAny _ _ (pure (((sIx n 0 lo:Nat):Int),(1:Int),Builtin.Slice.slicePlaces ((sIx n 0 lo:Nat):Int) ((sIx n n hi:Nat):Int) 1)) _ _ s;rw[zjU];exact bW h
theorem zmS(xs:Array Value)(i k:Nat):((List.range k).filterMap λ(m:Nat)=>xs[((i:Int)+(m:Int)*1).toNat]?).toArray=((xs.toList.drop i).take k).toArray:=by
 have e:(λ(m:Nat)=>xs[((i:Int)+(m:Int)*1).toNat]?)=λm=>xs[i+m]?:=by
  funext m;have:((i:Int)+(m:Int)*1).toNat=i+m:=by omega
  rw[this]
 rw[e];have:=pick_run xs i k;rw[List.filterMap_map] at this;have e2:((λx=>xs[x]?) ∘ λx=>i+x)=λm=>xs[i+m]?:=rfl;rw[e2] at this;rw[this]
theorem zeX{t sl:Addr}{items:Array Value}{vl vu:Value}{lo hi:Option Int}{Q:Value->Shared->Prop}(ht:IsTup s.heap t items)(hs:s.heap.IsSliceOf sl vl vu .none)(pl:IsPart vl lo)(pu:IsPart vu hi)(hw:¬(sIx items.size 0 lo=0/\sIx items.size items.size hi=items.size))(h:Q (.ref s.heap.objs.size) { s with heap:=s.heap.push { cls := .type "tuple",data := .seq ((items.toList.drop (sIx items.size 0 lo)).take (sIx items.size items.size hi - sIx items.size 0 lo)).toArray } })(hsz:items.size<=sizeLine):wpAny (model prog w) A (getItem (.ref t) (.ref sl)) Q E s:=by
 have iU:sizeOk (.seq ((items.toList.drop (sIx items.size 0 lo)).take (sIx items.size items.size hi - sIx items.size 0 lo)).toArray):=by show((items.toList.drop (sIx items.size 0 lo)).take (sIx items.size items.size hi - sIx items.size 0 lo)).toArray.size<=sizeLine;rw[d9,uL,List.length_drop,Array.length_toList];omega
 have hj:sIx items.size items.size hi<=items.size:=zri _ _ (bH _) hi;obtain⟨os,hos,hcs,hds⟩:=id hs;have hTs:s.TypeIs (.ref sl) "slice" := ⟨os,hos,hcs⟩
 unfold getItem
 try with_reducible refine wpAny_holding ?_
 first|refine aP (bW ?_)|skip
 refine aP (wpAny_sequenceKey ht.typeIs (by decide) ?_);refine aP (wpAny_callSpecial?_slot (name:=Str.ofString "__getitem__") ht.typeIs PyProof.Rows.slot_tuple_getitem
  (wpAny_call_entry PyProof.Rows.slot_tuple_getitem ht.typeIs entry_tuple_getitem ?_ (args_tuple_getitem _ _)))
 show wpAny _ _ (Builtin.Tuple.tupleItemsOf (.ref t) >>= _) _ _ s;refine aP (tupleItemsOf_ ht ?_);refine aP (wpAny_typeOf hTs ?_);rw[if_pos (by decide)];refine aP (zdv hs pl pu ?_);have hno:¬((((sIx items.size 0 lo:Nat):Int)==0&&(1:Int)==1&&(sIx items.size items.size hi - sIx items.size 0 lo)==items.size)=true):=by intro q;rw[dD,dD] at q;have q1:((sIx items.size 0 lo:Nat):Int)=0:=eq_of_beq q.1.1;have q2:sIx items.size items.size hi - sIx items.size 0 lo=items.size:=eq_of_beq q.2;exact hw ⟨by omega,by omega⟩
 show wpAny _ _ (if(((sIx items.size 0 lo:Nat):Int)==0&&(1:Int)==1&&(sIx items.size items.size hi - sIx items.size 0 lo)==items.size)=true then _ else _) _ _ s;rw[if_neg hno,zmS]
 first
  |exact aP (m:=Builtin.Tuple.tupleExact _) (wpAny_newObj_type (bW ⟨_,rfl,bW h⟩) iU)
  |exact aP (m:=Builtin.Tuple.tupleExact _) (wpAny_newObj_type (aP (bW (bW ⟨_,rfl,bW h⟩))) iU)
  |exact aP (aP (m:=Builtin.Tuple.tupleExact _) (wpAny_newObj_type (bW (bW ⟨_,rfl,bW h⟩)) iU))
  |exact aP (aP (m:=Builtin.Tuple.tupleExact _) (wpAny_newObj_type (bW ⟨_,rfl,bW h⟩) iU))
end
end HT
namespace L2
open PySem PySem.Spec PyProof.Rows
abbrev TO:=St->Hp->(Option Int->Hp->Prop)->Prop
noncomputable def PO(X:Cx)(e:Option Expr)(t:TO):Prop :=
 ∀(pz:List (Addr×Obj)) (s:Shared) (Z:St) (H:Hp) (Q:Option Int->Hp->Prop),Inv X pz Z H s->t Z H Q ->
  wpAny (model X.prog X.w) X.A (evalPart e X.env) (λu s'=>∃o H',Inv X pz Z H' s'/\IsPart u o/\Q o H') X.xe s
noncomputable def rC:TO:=λ_ H Q=>Q none H
noncomputable def Bo(t:TE):TO:=λZ H Q=>t Z H λx H1=>∃i,x = .int i/\Q (some i) H1
section
variable {X:Cx}{e:Expr}{te:TE}{lo hi:Option Expr}{tl th:TO}{pos p2:Pos}
def zo3:PO X none rC:=by intro pz s Z H Q I h;rw[evalPart_none];exact bW ⟨none,H,I,.none,h⟩
theorem zo2(h:PE X e te):PO X (some e) (Bo te):=by intro pz s Z H Q I hw;rw[evalPart_some];refine bQ (h pz s Z H _ I hw) λu s1 ⟨x,H1,I1,r1,q1⟩=>?_;obtain⟨i,rfl,q⟩:=q1;obtain⟨t,rfl⟩:=r1;exact⟨some i,H1,I1,.int i t,q⟩
noncomputable def qD(X:Cx)(r:V->Option Int->Option Int->Hp->VK->Prop):Prop :=
 ∀(pz:List (Addr×Obj)) (s:Shared) (Z:St) (H:Hp) (x:V) (v vl vu:Value) (lo hi:Option Int) (sl:Addr) (Q:VK),Inv X pz Z H s->RelV x v->s.heap.IsSliceOf sl vl vu .none->IsPart vl lo->IsPart vu hi->r x lo hi H Q ->
  ∃T id,typeLookup (.type T) "__getitem__" = pure (some (.builtin id))/\s.TypeIs v T/\wpAny (model X.prog X.w) X.A (getItem v (.ref sl)) (EP X pz Z Q) X.xe s
theorem qD.or{r r':V->Option Int->Option Int->Hp->VK->Prop}(h:qD X r)(h':qD X r'):qD X (λx lo hi H Q=>r x lo hi H Q\/r' x lo hi H Q):=by
 intro pz s Z H x v vl vu lo hi sl Q I rx hs pl pu q;rcases q with q|q
 .exact h pz s Z H x v vl vu lo hi sl Q I rx hs pl pu q
 .exact h' pz s Z H x v vl vu lo hi sl Q I rx hs pl pu q
noncomputable def tSl(r:V->Option Int->Option Int->Hp->VK->Prop)(te:TE)(tl th:TO):TE:=λZ H Q=>te Z H λx H1=>tl Z H1 λl H2=>th Z H2 λu H3=>r x l u H3 Q
theorem zmU{r:V->Option Int->Option Int->Hp->VK->Prop}(hr:qD X r)(he:PE X e te)(hl:PO X lo tl)(hu:PO X hi th):PE X (.Subscript e (.Slice lo hi none p2) pos) (tSl r te tl th):=by intro pz s Z H Q I h;refine Subscript_ (bQ (he pz s Z H _ I h) λv s1 ⟨x,H1,I1,r1,q1⟩=>?_);refine wpAny_Slice (bQ (hl pz s1 Z H1 _ I1 q1) λvl s2 ⟨l,H2,I2,pl,q2⟩=>bQ (hu pz s2 Z H2 _ I2 q2) λvu s3 ⟨u,H3,I3,pu,q3⟩=>?_);rw[evalPart_none];refine bW ?_;have I4:Inv X pz Z H3 { s3 with heap:=s3.heap.push { cls := .type "slice",data := .fields #[vl,vu,.none] } }:=I3.kept (t':=s3.toks) λb ob q=>dF _ q;obtain⟨T,id,hT,ht,hg⟩:=hr pz { s3 with heap:=s3.heap.push { cls := .type "slice",data := .fields #[vl,vu,.none] } } Z H3 x v vl vu l u s3.heap.objs.size Q I4 r1 (Heap.IsSliceOf.new ..) pl pu q3;show wpAny (model X.prog X.w) X.A (subscriptTail e (.Slice lo hi none p2) v (.ref s3.heap.objs.size)) (EP X pz Z Q) X.xe { s3 with heap:=s3.heap.push { cls := .type "slice",data := .fields #[vl,vu,.none] } };exact tail_any (ops:=[.ref s3.heap.objs.size,v]) ht hT hg (by with_unfolding_all rfl)
noncomputable def qH(xs:List V)(lo hi:Option Int):List V:=(xs.drop (HT.sIx xs.length 0 lo)).take (HT.sIx xs.length xs.length hi - HT.sIx xs.length 0 lo)
def WT(xs:List V)(lo hi:Option Int):(qH xs lo hi).length<=xs.length:=by unfold qH;rw[uL,List.length_drop];omega
noncomputable def Cg(K:FgA):V->Option Int->Option Int->Hp->VK->Prop:=λx lo hi H Q=>∃a xs,x = .ref a/\dR K H a xs /\
 ¬(HT.sIx xs.length 0 lo=0/\HT.sIx xs.length xs.length hi=xs.length)/\∀p,H p=none->Q (.ref p) (upd H p (.tup (qH xs lo hi)))
theorem zqU:qD X (Cg X.K):=by
 intro pz s Z H x v vl vu lo hi sl Q I rx hs pl pu h;obtain⟨a,xs,rfl,hx,hw,q⟩:=h;cases rx;obtain⟨its,r,ht,hz⟩:=I.tuple hx;have hlen:its.toArray.size=xs.length:=by rw[d9];exact r.length.symm
 refine⟨"tuple",_,PyProof.Rows.slot_tuple_getitem.lookup,ht.typeIs,?_⟩;refine HT.zeX ht hs pl pu (by rw[hlen];exact hw) ?_ (by rw[hlen];exact hz);rw[hlen];refine⟨.ref s.heap.objs.size,_,I.laid (t':=s.toks) (o := .tup (qH xs lo hi)) (λb ob q=>dF _ q) (bH _) ?_,rfl,q _ (I.hok.fresh (bH _))⟩;exact⟨Nat.le_trans (WT xs lo hi) hz,_,(r.drop (HT.sIx xs.length 0 lo)).take (HT.sIx xs.length xs.length hi - HT.sIx xs.length 0 lo),IsTup.new _ _⟩
noncomputable def Cj(K:FgA):R2:=λx y H Q=>∃a b xs ys,x = .ref a/\y = .ref b/\dR K H a xs/\dR K H b ys/\xs≠[]/\xs.length+ys.length<=sizeLine /\
 (ys=[]->Q (.ref a) H)/\(ys≠[]->∀p,H p=none->Q (.ref p) (upd H p (.tup (xs++ys))))
def Vals.nil_iff{xs:List V}{us:List Value}(r:Vals xs us):us=[]↔xs=[]:=by
 cases r with
 |nil=>simp
 |cons _ _=>simp
theorem zpy:fu X (binaryOp .Add) (Cj X.K):=by intro pz s Z H x y v u Q I rx ry h;obtain⟨a,b,xs,ys,rfl,rfl,ha,hb,hx,hz,q1,q2⟩:=h;cases rx;cases ry;obtain⟨its,r1,p1,_⟩:=I.tuple ha;obtain⟨its2,r2,p2,_⟩:=I.tuple hb;refine HT.zqf p1 p2 (λz=>hx (r1.nil_iff.mp z)) (λz=>⟨.ref a,H,I,rfl,q1 (r2.nil_iff.mp z)⟩) (λz=>?_) (by rw[<-r1.length,<-r2.length];exact hz);refine⟨.ref s.heap.objs.size,_,I.laid (t':=s.toks) (o := .tup (xs++ys)) (λb ob q=>dF _ q) (bH _) ?_,rfl,q2 (λw=>z (r2.nil_iff.mpr w)) _ (I.hok.fresh (bH _))⟩;exact⟨by rw[iW];exact hz,_,r1.append r2,IsTup.new _ _⟩
end
noncomputable def ud(n:Nat)(i:Int):Option Nat:=if 0<=i then(if i<n then some i.toNat else none) else if -(n:Int)<=i then some (i+n).toNat else none
noncomputable def gq{α:Type}(xs:List α)(i:Int):Option α:=(ud xs.length i).bind λj=>xs[j]?
theorem zpN{n:Nat}{i:Int}{j:Nat}(h:ud n i=some j):seqIndex? i n=some j/\j<n /\ -(n:Int)<=i/\i<n:=by
 unfold ud at h;by_cases h0:0<=i
 .rw[if_pos h0] at h;by_cases h1:i<n
  .rw[if_pos h1] at h;have e:i.toNat=j:=Option.some.inj h;exact⟨by rw[seqIndex_of h0 h1,e],by omega,by omega,h1⟩
  .rw[if_neg h1] at h;cases h
 .rw[if_neg h0] at h;by_cases h1 : -(n:Int)<=i
  .rw[if_pos h1] at h;have e:(i+n).toNat=j:=Option.some.inj h;exact⟨by rw[seqIndex_neg (by omega) h1,e],by omega,h1,by omega⟩
  .rw[if_neg h1] at h;cases h
theorem JF{α:Type}{xs:List α}{i:Int}{v:α}(h:gq xs i=some v):∃j,seqIndex? i xs.length=some j/\xs[j]?=some v/\j<xs.length /\ -(xs.length:Int)<=i/\i<xs.length:=by
 unfold gq at h;cases e:ud xs.length i with
 |none=>rw[e] at h;cases h
 |some j =>
  rw[e] at h;obtain⟨h1,h2,h3,h4⟩:=zpN e;exact⟨j,h1,h,h2,h3,h4⟩
theorem yG{α:Type}{xs:List α}{j:Nat}{v:α}(h:xs[j]?=some v):gq xs (j:Int)=some v:=by
 have hj:j<xs.length:=(fC.mp h).1;have e:ud xs.length (j:Int)=some j:=by unfold ud;rw[if_pos (by omega),if_pos (by omega)];simp
 unfold gq;rw[e];exact h
def Ii(b:Expr):Prop:=∀o i,subscripted b false o i=operate [o,i] (getItem o i)
noncomputable def DQ(X:Cx)(r:R2):Prop :=
 ∀(value slice:Expr) (pz:List (Addr×Obj)) (s:Shared) (Z:St) (H:Hp) (x y:V) (v u:Value) (Q:VK),Inv X pz Z H s->RelV x v->RelV y u->r x y H Q ->
  subscripted slice false v u=operate [v,u] (getItem v u)->wpAny (model X.prog X.w) X.A (subscriptTail value slice v u) (EP X pz Z Q) X.xe s
noncomputable def sH(X:Cx)(id:String)(r:V->List V->Hp->VK->Prop):Prop :=
 ∀(pz:List (Addr×Obj)) (s:Shared) (Z:St) (H:Hp) (x:V) (xs:List V) (v:Value) (us:List Value) (Q:VK),Inv X pz Z H s->RelV x v->Vals xs us->r x xs H Q ->
  wpAny (model X.prog X.w) X.A (call (.builtin id) (v::us)) (EP X pz Z Q) X.xe s
section
variable {X:Cx}{a b:Expr}{ta tb:TE}{pos:Pos}
theorem Z8{r:R2}(hr:DQ X r)(ha:PE X a ta)(hb:PE X b tb)(hs:Ii b):PE X (.Subscript a b pos) (G5 r ta tb):=by intro pz s Z H Q I h;exact Subscript_ (xH ha hb I h λv u s2 x y H2 I2 rx ry q=>hr a b pz s2 Z H2 x y v u Q I2 rx ry q (hs _ _))
noncomputable def O5(K:FgA):R2:=λx y H Q=>∃p xs i v,x = .ref p/\y = .int i/\d8 K H p xs/\gq xs i=some v/\Q v H
noncomputable def O3(K:FgA):R2:=λx y H Q=>∃p xs i v,x = .ref p/\y = .int i/\dR K H p xs/\gq xs i=some v/\Q v H
noncomputable def O4:R2:=λx y H Q=>∃z i c,x = .str z/\y = .int i/\z.length<=sizeLine/\gq z.cps.toList i=some c/\Q (.str ⟨#[c]⟩) H
theorem R0:DQ X (O5 X.K):=by
 intro value slice pz s Z H x y v u Q I rx ry h hs;obtain⟨p,xs,i,z,rfl,rfl,hq,he,q⟩:=h;cases rx;obtain⟨t,rfl⟩:=ry;obtain⟨its,r,pl,hz⟩:=I.list hq;obtain⟨j,h1,h2,h3,h4,h5⟩:=JF he;obtain⟨w,ew,fU⟩:=r.get h2;have hl:=r.length;have hn:=yg;have fin:EP X pz Z Q w s:=⟨z,H,I,fU,q⟩
 by_cases h0:0<=i
 .have hj:i.toNat=j:=by rw[seqIndex_of h0 h5] at h1;exact Option.some.inj h1
  exact item_listR pl.isList h0 (by omega) (by rw[hj];simpa using ew) fin hs
 .have hj:(i+(its.toArray.size:Int)).toNat=j:=by rw[seqIndex_neg (by omega) h4] at h1;rw[d9,<-hl];exact Option.some.inj h1
  exact subscriptTail_builtinR (x:=w) pl.isList.typeIs slot_list_getitem.lookup
   (wpAny_getItem_list_neg (Q:=λr s'=>r=w/\EP X pz Z Q r s') pl.isList (by omega) (by rw[d9]<;>omega) (by omega) (by rw[hj];simpa using ew) ⟨rfl,fin⟩) hs
theorem zr4:DQ X (O3 X.K):=by
 intro value slice pz s Z H x y v u Q I rx ry h hs;obtain⟨p,xs,i,z,rfl,rfl,hq,he,q⟩:=h;cases rx;obtain⟨t,rfl⟩:=ry;obtain⟨its,r,pl,hz⟩:=I.tuple hq;obtain⟨j,h1,h2,h3,h4,h5⟩:=JF he;obtain⟨w,ew,fU⟩:=r.get h2;have hl:=r.length;have hn:=yg;have fin:EP X pz Z Q w s:=⟨z,H,I,fU,q⟩
 exact subscriptTail_builtinR (x:=w) pl.typeIs slot_tuple_getitem.lookup
  (getItem_tuple (j:=j) (Q:=λr s'=>r=w/\EP X pz Z Q r s') pl (by omega) (by omega) (by rw[d9,<-hl];exact h1) (by simpa using ew) ⟨rfl,fin⟩) hs
theorem zr5:DQ X O4:=by
 intro value slice pz s Z H x y v u Q I rx ry h hs;obtain⟨z,i,c,rfl,rfl,hz,he,q⟩:=h;obtain⟨t,rfl⟩:=rx;obtain⟨t',rfl⟩:=ry;obtain⟨j,h1,h2,h3,h4,h5⟩:=JF he;have hl:z.cps.toList.length=z.length:=by simp[Str.length]
 rw[hl] at h1 h4 h5;have hn:=yg;exact tail_any (typeIs_str s z t) slot_str_getitem.lookup (getItem_str (c:=c) (by
  have e1:decide (i < -(2 ^ 63:Int))=false:=decide_eq_false (by omega);have e2:decide (i ≥ 2 ^ 63)=false:=decide_eq_false (by omega);rw[e1,e2,Bool.or_false]) (by rw[h1];simpa using h2) ⟨.str ⟨#[c]⟩,H,I.tok _,⟨_,rfl⟩,q⟩) hs
theorem zhA(lo hi:Option Int)(n:Nat):(sliceBounds lo hi none n).1=((HT.sIx n 0 lo:Nat):Int)/\(sliceBounds lo hi none n).2.1=((HT.sIx n n hi:Nat):Int)/\(sliceBounds lo hi none n).2.2=1:=by
 refine⟨?_,?_,rfl⟩
 .cases lo with
  |none=>simp[sliceBounds,HT.sIx]
  |some i =>
   simp only[sliceBounds,HT.sIx,Option.getD_none,show(1:Int)>0 by decide,if_true];by_cases h:i<0
   .simp only[h,if_true]<;>omega
   .simp only[h,if_false]<;>omega
 .cases hi with
  |none=>simp[sliceBounds,HT.sIx]
  |some i =>
   simp only[sliceBounds,HT.sIx,Option.getD_none,show(1:Int)>0 by decide,if_true];by_cases h:i<0
   .simp only[h,if_true]<;>omega
   .simp only[h,if_false]<;>omega
theorem zgR(its:List Value)(lo hi:Option Int):slicePick its.toArray lo hi none=((its.drop (HT.sIx its.length 0 lo)).take (HT.sIx its.length its.length hi - HT.sIx its.length 0 lo)).toArray:=by obtain⟨h1,h2,h3⟩:=zhA lo hi its.toArray.size;unfold slicePick;rw[h1,h2,h3];simp only[sliceRange_one,pick_run,d9]<;>rfl
noncomputable def Ci(K:FgA):V->Option Int->Option Int->Hp->VK->Prop:=λx lo hi H Q=>∃a xs,x = .ref a/\d8 K H a xs/\∀p,H p=none->Q (.ref p) (upd H p (.lst (qH xs lo hi)))
theorem zoE:qD X (Ci X.K):=by intro pz s Z H x v vl vu lo hi sl Q I rx hs pl pu h;obtain⟨a,xs,rfl,hx,q⟩:=h;cases rx;obtain⟨its,r,ht,hz⟩:=I.list hx;have hlen:=r.length;refine⟨"list",_,slot_list_getitem.lookup,ht.isList.typeIs,?_⟩;refine wpAny_getItem_list_slice ht.isList hs pl pu .none (by simp) ?_ (by rw[d9]<;>omega);rw[zgR,<-hlen];refine⟨.ref s.heap.objs.size,_,I.laid (t':=s.toks) (o := .lst (qH xs lo hi)) (λb ob q=>dF _ q) (bH _) ?_,rfl,q _ (I.hok.fresh (bH _))⟩;exact⟨Nat.le_trans (WT xs lo hi) hz,_,0,(r.drop (HT.sIx xs.length 0 lo)).take (HT.sIx xs.length xs.length hi - HT.sIx xs.length 0 lo),gG _ rfl⟩
theorem Wt:ir X (.builtin "len") (λxs H Q=>∃p ys,xs=[.ref p]/\(d8 X.K H p ys\/dR X.K H p ys)/\Q (.int ys.length) H):=by
 intro pz s Z H xs us Q I r h;obtain⟨p,ys,rfl,hq,q⟩:=h;obtain⟨u,rfl,rx⟩:=nQ r;cases rx;have hn:=yg;rcases hq with hq|hq
 .obtain⟨its,r',pl,hz⟩:=I.list hq;have hlen:=r'.length;exact Calls.call_len_list pl.isList (by simp only[d9]<;>omega) ⟨.int ys.length,H,I.tok _,⟨s.toks+1,by rw[d9,hlen]⟩,q⟩
 .obtain⟨its,r',pl,hz⟩:=I.tuple hq;have hlen:=r'.length;exact len_tuple pl (by simp only[d9]<;>omega) ⟨.int ys.length,H,I.tok _,⟨s.toks+1,by rw[d9,hlen]⟩,q⟩
theorem zh6:ir X (.builtin "len") (λxs H Q=>∃z,xs=[.str z]/\z.length<=sizeLine/\Q (.int z.length) H):=by intro pz s Z H xs us Q I r h;obtain⟨z,rfl,hz,q⟩:=h;obtain⟨u,rfl,t,rfl⟩:=nQ r;have hn:=yg;exact len_str (by omega) ⟨.int z.length,H,I.tok _,⟨_,rfl⟩,q⟩
theorem Wu:ir X (.type "list") (λxs H Q=>∃p ys,xs=[.ref p]/\(d8 X.K H p ys\/dR X.K H p ys)/\∀l,H l=none->Q (.ref l) (upd H l (.lst ys))):=by
 intro pz s Z H xs us Q I r h;obtain⟨p,ys,rfl,hq,q⟩:=h;obtain⟨u,rfl,rx⟩:=nQ r;cases rx;have fin:∀(its:List Value),Vals ys its->ys.length<=sizeLine->∀(h':Heap) (c':Nat),(∀b o',s.heap.get? b=some o'->h'.get? b=some o') ->
  h'.get? s.heap.objs.size=some { cls := .type "list",dict:=none,data := .seq its.toArray c',slots:=#[] }->EP X pz Z Q (.ref s.heap.objs.size) { s with heap:=h' }:=λits r' hz h' c' kp e =>
  ⟨.ref s.heap.objs.size,_,I.laid (t':=s.toks) kp (bH _) (show bT X.prog X.w _ h' _ (.lst ys) from⟨hz,its,c',r',e⟩),rfl,q _ (I.hok.fresh (bH _))⟩
 rcases hq with hq|hq
 .obtain⟨its,r',pl,hz⟩:=I.list hq;have hlen:=r'.length;obtain⟨o,ho,hc,n,hd⟩:=pl.isList;exact call_list_seq p (.inl rfl) ho hc hd (λh' c' kp e=>fin its r' hz h' c' kp e) (by simp only[d9]<;>omega)
 .obtain⟨its,r',pl,hz⟩:=I.tuple hq;have hlen:=r'.length;obtain⟨o,ho,hc,n,hd⟩:=pl;exact call_list_seq p (.inr rfl) ho hc hd (λh' c' kp e=>fin its r' hz h' c' kp e) (by simp only[d9]<;>omega)
theorem Xg:ir X (.type "tuple") (λxs H Q=>∃p ys,xs=[.ref p]/\((d8 X.K H p ys/\∀l,H l=none->Q (.ref l) (upd H l (.tup ys)))\/(dR X.K H p ys/\Q (.ref p) H))):=by
 intro pz s Z H xs us Q I r h;obtain⟨p,ys,rfl,h⟩:=h;obtain⟨u,rfl,rx⟩:=nQ r;cases rx;rcases h with⟨hq,q⟩|⟨hq,q⟩
 .obtain⟨its,r',pl,hz⟩:=I.list hq;have hlen:=r'.length;refine call_tuple_list pl.isList (λh' kp=>?_) (by simp only[d9]<;>omega);have I1:Inv X pz Z H { s with heap:=h' }:=I.kept (t':=s.toks) kp;have I2:Inv X pz Z (upd H h'.objs.size (.tup ys)) { s with heap:=h'.push { cls := .type "tuple",data := .seq its.toArray } } :=
   I1.laid (t':=s.toks) (λb o e=>dF _ e) (bH _) (show bT X.prog X.w _ _ _ (.tup ys) from⟨hz,its,r',IsTup.new _ _⟩)
  exact⟨.ref h'.objs.size,_,I2,rfl,q _ (I1.hok.fresh (bH _))⟩
 .obtain⟨its,r',pl,hz⟩:=I.tuple hq;exact call_tuple_same pl ⟨.ref p,H,I,rfl,q⟩
noncomputable def Oa(K:FgA)(T:String)(x:V)(H:Hp):Prop:=match x with
 |.str _=>T = "str"
 |.int _=>T = "int"
 |.ref p=>(T = "list" /\ ∃xs,d8 K H p xs)\/(T = "tuple" /\ ∃o,K.lookup p=some o/\o.cls = .type "tuple" /\ o.dict=none) \/
  (T = "dict" /\ ((∃kvs,H p=some (.dK kvs))\/∃kvs,H p=some (.dT kvs)))\/(T = "set" /\ ∃S n,H p=some (.set S n))
 |_=>False
theorem Rz{pz:List (Addr×Obj)}{Z:St}{H:Hp}{s:Shared}{T:String}{x:V}{v:Value}(I:Inv X pz Z H s)(r:RelV x v)(ty:Oa X.K T x H):
 s.TypeIs v T/\∀a,v = .ref a->∃ob,s.heap.get? a=some ob/\ob.dict=none:=by
 cases x with
 |str z =>
  obtain⟨t,rfl⟩:=r;cases (show T = "str" from ty);exact⟨typeIs_str s z t,λ_ e=>nomatch e⟩
 |int i =>
  obtain⟨t,rfl⟩:=r;cases (show T = "int" from ty);exact⟨typeIs_int s i t,λ_ e=>nomatch e⟩
 |ref p =>
  cases r;rcases ty with⟨rfl,xs,hq⟩|⟨rfl,o,hk,hc,hd⟩|⟨rfl,hk⟩|⟨rfl,S,n,hk⟩
  .obtain⟨its,_,pl,_⟩:=I.list hq;refine⟨pl.isList.typeIs,λa e=>?_⟩;cases e;obtain⟨o,n,e,c,hd,_⟩:=pl;exact⟨o,e,hd⟩
  .refine⟨⟨o,I.kIn p o hk,hc⟩,λa e=>?_⟩;cases e;exact⟨o,I.kIn _ o hk,hd⟩
  .have z:∃o,s.heap.get? p=some o/\o.ExactDict:=by
    rcases hk with⟨kvs,hk⟩|⟨kvs,hk⟩
    .obtain⟨_,_,_,_,o,_,_,e,ex,_⟩:=I.hok p _ hk;exact⟨o,e,ex⟩
    .obtain⟨_,_,_,_,o,_,_,e,ex,_⟩:=I.hok p _ hk;exact⟨o,e,ex⟩
   obtain⟨o,e,ex⟩:=z;refine⟨⟨o,e,ex.1⟩,λa e2=>?_⟩;cases e2;exact⟨o,e,ex.2.1⟩
  .obtain⟨o,_,_,_,e,ex,_⟩:=I.hok p _ hk;refine⟨⟨o,e,ex.1⟩,λa e2=>?_⟩;cases e2;exact⟨o,e,ex.2.1⟩
 |_=>exact False.elim ty
noncomputable def Ou(K:FgA)(T:String)(r:V->List V->Hp->VK->Prop)(to:TE):TE:=λZ H Q=>to Z H λx H1=>Oa K T x H1/\r x [] H1 Q
noncomputable def tBM(K:FgA)(T:String)(r:V->List V->Hp->VK->Prop)(to:TE)(t:TA):TE:=λZ H Q=>to Z H λx H1=>Oa K T x H1/\t Z H1 λxs H2=>r x xs H2 Q
variable {o e:Expr}{es:List Expr}{to:TE}{t:TA}{name:Str}{apos cpos:Pos}{T id:String}{r:V->List V->Hp->VK->Prop}
theorem zrF(pa:PlainAttrs T)(slot:Slot T name id)(hty:typeOf (.builtin id)=pure (.type "method_descriptor"))(hm:sH X id r)(ho:PE X o to)(hbase:attributeBase o name X.env (eval o X.env)=eval o X.env:=by rfl)(hline:(apos.endLine==cpos.line)=true:=by rfl):PE X (.Call (.Attribute o name apos) [] [] cpos) (Ou X.K T r to):=by intro pz s Z H Q I h;refine wpAny_Call_method0_late hbase hline (bQ (ho pz s Z H _ I h) λv s1 ⟨x,H1,I1,r1,ty,q1⟩=>?_);obtain⟨h1,h2⟩:=Rz I1 r1 ty;exact⟨T,id,pa,slot,hty,h1,h2,Calls.callWith_builtin rfl (PySem.evalArgs_none (hm pz s1 Z H1 x [] v [] Q I1 r1 .nil q1))⟩
theorem Z7(pa:PlainAttrs T)(slot:Slot T name id)(hty:typeOf (.builtin id)=pure (.type "method_descriptor"))(hm:sH X id r)(ho:PE X o to)(ha:PA X (e::es) t)(hbase:attributeBase o name X.env (eval o X.env)=eval o X.env:=by rfl)(hfew:((backTo cpos (starEach (e::es) X.env)).all (λx => !x.1)&&(backToKw cpos (keywordEach [] X.env)).all (λx=>x.1.isSome)
  && decide ((e::es).length+([]:List Keyword).length+(if([]:List Keyword).isEmpty then 0 else 1)<30))=true:=by rfl)(hline:(apos.endLine==cpos.line)=true:=by rfl)(hs:starEach (e::es) X.env=(false,eval e X.env)::starEach es X.env:=by rfl)(hplain:(backTo cpos (starEach es X.env)).any (·.1)=false:=by rfl):
 PE X (.Call (.Attribute o name apos) (e::es) [] cpos) (tBM X.K T r to t):=by
 intro pz s Z H Q I h;refine wpAny_Call_method_late hbase hfew hline rfl (bQ (ho pz s Z H _ I h) λv s1 ⟨x,H1,I1,r1,ty,q1⟩=>?_);obtain⟨h1,h2⟩:=Rz I1 r1 ty;refine⟨T,id,pa,slot,hty,h1,h2,?_⟩;have hA:=ha cpos pz s1 Z H1 _ I1 q1;rw[hs] at hA ⊢;refine Calls.callWith_builtin (by show(false||(backTo cpos (starEach es X.env)).any (·.1))=false;rw[hplain]<;>rfl) (Calls.evalArgs_plain ?_);exact bQ hA λus s2 ⟨vs,H2,I2,r2,q2⟩=>hm pz s2 Z H2 x vs v us Q I2 r1 r2 q2
end
noncomputable def Hv(X:Cx)(id:String)(r:V->List V->Hp->VK->Prop):Prop :=
 ∀(pz:List (Addr×Obj)) (s:Shared) (Z:St) (H:Hp) (x:V) (xs:List V) (v:Value) (us:List Value) (Q:VK),Inv X pz Z H s->RelV x v->Vals xs us->r x xs H Q ->
  wpAny (model X.prog X.w) X.A (call (.builtin id) (v::us)) (EP X pz Z Q) X.xe s
def Vals.one{x:V}{us:List Value}(h:Vals [x] us):∃u,us=[u]/\RelV x u:=by
 cases h with
 |cons r t=>cases t;exact⟨_,rfl,r⟩
theorem Vals.two{x y:V}{us:List Value}(h:Vals [x,y] us):∃u v,us=[u,v]/\RelV x u/\RelV y v:=by
 cases h with
 |cons r t =>
  obtain⟨v,rfl,q⟩:=Vals.one t;exact⟨_,v,rfl,r,q⟩
def Vals.zero:∀{us:List Value},Vals [] us->us=[]
 |_,.nil=>rfl
theorem Vals.dropLast{xs:List V}{us:List Value}(h:Vals xs us):Vals xs.dropLast us.dropLast:=by
 induction h with
 |nil=>exact .nil
 |cons r t ih =>
  cases t with
  |nil=>exact .nil
  |cons q t'=>exact .cons r ih
def Vals.eraseIdx:∀{xs:List V} {us:List Value} (i:Nat),Vals xs us->Vals (xs.eraseIdx i) (us.eraseIdx i)
 |_,_,_,.nil => .nil
 |_,_,0,.cons _ t=>t
 |_,_,i+1,.cons r t => .cons r (Vals.eraseIdx i t)
theorem Vals.rep{xs:List V}{us:List Value}(h:Vals xs us):∀k:Nat,Vals (List.replicate k xs).flatten (List.replicate k us).flatten
 |0 => .nil
 |k+1=>by rw[List.replicate_succ,List.replicate_succ,List.flatten_cons,List.flatten_cons];exact Vals.append h (Vals.rep h k)
theorem zkh{α:Type}(l:List α):l.eraseIdx (l.length - 1)=l.dropLast:=by
 induction l with
 |nil=>rfl
 |cons a r ih =>
  cases r with
  |nil=>rfl
  |cons b r =>
   have e:(a::b::r).length - 1=((b::r).length - 1)+1:=by have h1:(a::b::r).length=r.length+2:=rfl;have h2:(b::r).length=r.length+1:=rfl;omega
   rw[e,List.eraseIdx_cons_succ,ih]
   all_goals rfl
def Vl{α:Type}:∀(l:List α) (i:Nat),(l.eraseIdx i).length<=l.length
 |[],_=>bH _
 |_::_,0=>Nat.le_succ _
 |_::r,i+1=>Nat.succ_le_succ (Vl r i)
theorem Vf(its:List Value):∀(k:Nat) (acc:List Value),
 List.foldl (λx1 x2=>x1++x2) acc.toArray (List.replicate k its.toArray)=(acc++(List.replicate k its).flatten).toArray
 |0,acc=>by simp
 |k+1,acc=>by
  have e:acc.toArray++its.toArray=(acc++its).toArray:=by simp
  have e2:(acc++its)++(List.replicate k its).flatten=acc++(List.replicate (k+1) its).flatten:=by rw[List.replicate_succ,List.flatten_cons,dI]
  rw[<-e2,<-Vf its k (acc++its),<-e,List.replicate_succ,List.foldl_cons]
section
variable {X:Cx}{pz:List (Addr×Obj)}{Z:St}{H:Hp}{s:Shared}{l b:Addr}{xs ys zs:List V}
theorem Inv.lset{its its':List Value}{n:Nat}{f:Array Value->Array Value}{t':Nat}(I:Inv X pz Z H s)(hH:H l=some (.lst xs))(e:s.heap.get? l=some { cls := .type "list",data := .seq its.toArray n })(hf:f its.toArray=its'.toArray)(hv:Vals ys its')(hz:ys.length<=sizeLine):
 Inv X pz Z (upd H l (.lst ys)) { s with heap:=s.heap.update l (Obj.mapSeq f),toks:=t' }:=by
 have q:=PySem.IsL.update e f;rw[hf] at q;refine I.write (x:=l) (e:=l) (by rw[hH];exact trivial) (.inl rfl) (λb' u hb hu=>(zH s.heap (Obj.mapSeq f) (Ne.symm hb)).trans hu) ⟨_,q⟩ ?_;exact⟨hz,its',_,hv,q⟩
def Inv.lnew{its:List Value}{t':Nat}(I:Inv X pz Z H s)(hv:Vals ys its)(hz:ys.length<=sizeLine):
 Inv X pz Z (upd H s.heap.objs.size (.lst ys)) { s with heap:=s.heap.push { cls := .type "list",data := .seq its.toArray },toks:=t' } :=
 I.laid (λ_ _ q=>dF _ q) (bH _) ⟨hz,its,0,hv,gG _ rfl⟩
def Inv.fresh(I:Inv X pz Z H s):H s.heap.objs.size=none:=I.hok.fresh (bH _)
theorem Inv.lstM(I:Inv X pz Z H s)(hH:H l=some (.lst xs)):xs.length<=sizeLine/\∃(its:List Value) (n:Nat),Vals xs its/\xs.length=its.length/\s.heap.get? l=some { cls := .type "list",data := .seq its.toArray n }:=by obtain⟨z,its,n,r,e⟩:=I.hok l _ hH;exact⟨z,its,n,r,r.length,e⟩
def Im{n:Nat}(h:n<=sizeLine):Builtin.List.listTooLong n=false:=by unfold Builtin.List.listTooLong;exact decide_eq_false (by omega)
end
section
variable {X:Cx}
noncomputable def rJ:V->List V->Hp->VK->Prop:=λx vs H Q=>∃l xs y,x = .ref l/\vs=[y]/\H l=some (.lst xs)/\xs.length<sizeLine/\Q .non (upd H l (.lst (xs++[y])))
theorem zla:Hv X "list.append" rJ:=by intro pz s Z H x vs v us Q I rx rv h;obtain⟨l,xs,y,rfl,rfl,hH,hz,q⟩:=h;cases rx;obtain⟨u,rfl,ru⟩:=rv.one;obtain⟨z,its,n,r,hl,e⟩:=I.lstM hH;refine call_meets F.slot_list_append ⟨_,e,rfl⟩ F.entry_list_append (F.args_list_append_2 _ _) (PySem.list_append l its.toArray n u (by rw[d9];omega)) ⟨e,?_⟩;refine⟨.non,_,I.lset (its':=its++[u]) hH e (by simp) (r.append (.cons ru .nil)) ?_,rfl,q⟩;rw[iW,List.length_singleton];omega
noncomputable def rH:V->List V->Hp->VK->Prop:=λx vs H Q=>∃l b xs zs,x = .ref l/\vs=[.ref b]/\H l=some (.lst xs)/\H b=some (.lst zs)/\xs.length+zs.length<=sizeLine/\Q .non (upd H l (.lst (xs++zs)))
theorem zk9:Hv X "list.extend" rH:=by
 intro pz s Z H x vs v us Q I rx rv h;obtain⟨l,b,xs,zs,rfl,rfl,hH,hB,hz,q⟩:=h;cases rx;obtain⟨u,rfl,ru⟩:=rv.one;cases ru;obtain⟨z,its,n,r,hl,e⟩:=I.lstM hH;obtain⟨z2,its2,n2,r2,hl2,e2⟩:=I.lstM hB;have hsz:its.toArray.size+its2.toArray.size<=sizeLine:=by rw[d9,d9];omega
 have jW:¬(!its.toArray.isEmpty&&Builtin.List.listTooLong (its.toArray.size+its2.toArray.size))=true:=by rw[Im hsz,Bool.and_false];exact gK
 refine call_meets F.slot_list_extend ⟨_,e,rfl⟩ F.entry_list_extend (F.args_list_extend_2 _ _)
  (AutoSeq1.list_extend_list_list_0 l its.toArray n b its2.toArray n2 jW (by rw[d9];omega) (by omega)) ⟨e,e2,?_⟩
 refine⟨.non,_,I.lset (its':=its++its2) hH e (by simp) (r.append r2) ?_,rfl,q⟩;rw[iW];omega
noncomputable def O2:V->List V->Hp->VK->Prop:=λx vs H Q=>∃l xs y,x = .ref l/\vs=[]/\H l=some (.lst xs)/\xs[xs.length - 1]?=some y/\Q y (upd H l (.lst xs.dropLast))
theorem zrR:Hv X "list.pop" O2:=by
 intro pz s Z H x vs v us Q I rx rv h;obtain⟨l,xs,y,rfl,rfl,hH,hy,q⟩:=h;cases rx;have hus:=rv.zero;subst hus;obtain⟨z,its,n,r,hl,e⟩:=I.lstM hH;obtain⟨u,hu,ru⟩:=r.get hy;have hy':its.toArray[its.toArray.size - 1]?=some u:=by show its.toArray[its.length - 1]?=some u;rw[<-Array.getElem?_toList,<-hl];exact hu
 refine call_meets F.slot_list_pop ⟨_,e,rfl⟩ F.entry_list_pop (F.args_list_pop_1 _) (MeetsSeq.list_pop_last l its.toArray n u hy' (by rw[d9];omega)) ⟨e,?_⟩;refine⟨y,_,I.lset (its':=its.dropLast) hH e ?_ r.dropLast ?_,ru,q⟩
 .show its.toArray.eraseIdxIfInBounds (its.toArray.size - 1)=its.dropLast.toArray;rw[d9,List.eraseIdxIfInBounds_toArray,zkh]
 .rw[List.length_dropLast];omega
noncomputable def v7:V->List V->Hp->VK->Prop:=λx vs H Q=>∃l xs i k y,x = .ref l/\vs=[.int i]/\H l=some (.lst xs) /\ -(2 ^ 63)<=i/\i<2 ^ 63/\seqIndex? i xs.length=some k/\xs[k]?=some y/\Q y (upd H l (.lst (xs.eraseIdx k)))
theorem zm2:Hv X "list.pop" v7:=by
 intro pz s Z H x vs v us Q I rx rv h;obtain⟨l,xs,i,k,y,rfl,rfl,hH,h1,h2,hk,hy,q⟩:=h;cases rx;obtain⟨u,rfl,ru⟩:=rv.one;obtain⟨t,rfl⟩:=ru;obtain⟨z,its,n,r,hl,e⟩:=I.lstM hH;obtain⟨w,hw,fU⟩:=r.get hy;refine call_meets F.slot_list_pop ⟨_,e,rfl⟩ F.entry_list_pop (F.args_list_pop_2 _ _)
  (MeetsSeq.list_pop_at l its.toArray n i t k w (fitsIndex_both h1 h2) (by rw[d9,<-hl];exact hk) (by rw[<-Array.getElem?_toList];exact hw) (by rw[d9];omega)) ⟨e,?_⟩
 refine⟨y,_,I.lset (its':=its.eraseIdx k) hH e ?_ (r.eraseIdx k) ?_,fU,q⟩
 .show its.toArray.eraseIdxIfInBounds k=(its.eraseIdx k).toArray;rw[List.eraseIdxIfInBounds_toArray]
 .have:=Vl xs k;omega
noncomputable def O6:R2:=λx y H Q=>∃l b xs zs,x = .ref l/\y = .ref b/\H l=some (.lst xs)/\H b=some (.lst zs)/\xs.length+zs.length<=sizeLine/\∀p,H p=none->Q (.ref p) (upd H p (.lst (xs++zs)))
theorem zrN:fu X (binaryOp .Add) O6:=by
 intro pz s Z H x y v u Q I rx ry h;obtain⟨l,b,xs,zs,rfl,rfl,hH,hB,hz,q⟩:=h;cases rx;cases ry;obtain⟨z,its,n,r,hl,e⟩:=I.lstM hH;obtain⟨z2,its2,n2,r2,hl2,e2⟩:=I.lstM hB;refine PySem.P.add_list e e2 ?_ (by rw[d9,d9];omega);have ea:its.toArray++its2.toArray=(its++its2).toArray:=by simp
 rw[ea];exact⟨.ref _,_,I.lnew (t':=s.toks) (r.append r2) (by rw[iW];omega),rfl,q _ I.fresh⟩
noncomputable def O1:R2:=λx y H Q=>∃l k xs,x = .ref l/\y = .int k/\H l=some (.lst xs) /\ -(2 ^ 63)<=k/\k<2 ^ 63/\xs.length*k.toNat<=sizeLine /\
 ∀p,H p=none->Q (.ref p) (upd H p (.lst (List.replicate k.toNat xs).flatten))
theorem zpK{α:Type}(xs:List α)(k:Nat):(List.replicate k xs).flatten.length=k*xs.length:=by
 induction k with
 |zero=>simp
 |succ k ih=>rw[List.replicate_succ,List.flatten_cons,iW,ih,Nat.succ_mul,Nat.add_comm]
theorem zrK:fu X (binaryOp .Mult) O1:=by
 intro pz s Z H x y v u Q I rx ry h;obtain⟨l,k,xs,rfl,rfl,hH,h1,h2,hz,q⟩:=h;cases rx;obtain⟨t,rfl⟩:=ry;obtain⟨z,its,n,r,hl,e⟩:=I.lstM hH;have hlen:its.toArray.size*k.toNat<=sizeLine:=by rw[d9,<-hl];exact hz
 have hcap:¬its.toArray.size*k.toNat>(2 ^ 63 - 1) / 8:=by
  have:(sizeLine:Nat)<=(2 ^ 63 - 1) / 8:=by decide
  omega
 have hfit:¬(!Builtin.List.listFitsIndex k)=true:=by rw[fitsIndex_both h1 h2];exact gK
 have jW:¬Builtin.List.listTooLong (its.toArray.size*k.toNat)=true:=by rw[Im hlen];exact gK
 have hnew:List.foldl (λx1 x2=>x1++x2) #[] (List.replicate (if its.toArray.isEmpty=true then 0 else k.toNat) its.toArray)=(List.replicate k.toNat its).flatten.toArray:=by
  have f0:∀m:Nat,List.foldl (λx1 x2=>x1++x2) #[] (List.replicate m its.toArray)=(List.replicate m its).flatten.toArray:=λm=>by have:=Vf its m [];rw[sI] at this;exact this
  rw[f0];cases its with
  |nil=>simp
  |cons a r'=>rw[if_neg (by simp)]
 refine wpAny_binaryOp_repeat_ref (T := "list") (U := "int") (by decide) ⟨_,e,rfl⟩ (λs'=>typeIs_int s' k t) noFill_list_mul F.fills_int_mul F.slot_int_rmul repeat_list F.slot_int_index.lookup
  (call_meets F.slot_int_rmul (typeIs_int s k t) F.entry_int_rmul (F.args_int_rmul_2 _ _) (int___rmul___int_list k t l its.toArray n)
   ⟨e,rfl,⟨_,e,rfl⟩,call_meets F.slot_list_mul ⟨_,e,rfl⟩ F.entry_list_mul (F.args_list_mul_2 _ _) (AutoListH.list___mul___list_int_3 l its.toArray n k t hfit hcap jW) ⟨e,?_⟩⟩)
 rw[hnew];exact⟨.ref _,_,I.lnew (t':=s.toks) (r.rep k.toNat) (by rw[zpK,Nat.mul_comm];exact hz),rfl,q _ I.fresh⟩
end
end L2
namespace Zh
open PySem PySem.W PySem.Calls PyProof.Rows
theorem zfQ{P:Params}{h:Heap}:∀(ns:List Int) (vs:List Value),WellAll P h vs (ns.map WData.int)->IntsAre vs ns:=by
 intro ns
 induction ns with
 |nil =>
  intro vs w;rw[List.map_nil] at w;cases w;exact .nil
 |cons n ns ih =>
  intro vs w;rw[iJ] at w;cases w with
  |cons a b =>
   cases a;exact .cons _ _ (ih _ b)
theorem zkR{l:OpenLaw}{n:Nat}(hn:l.most=some n){P:Params}{h:Heap}{args:List WData}{vals:List Value}(hpre:l.row.toRowW.claim.pre args=true)(hwl:WellAll P h vals args):
 ∃a vs ns,vals=[Value.ref a]/\args=[WData.list (ns.map WData.int)]/\h.get? a=some { cls := .type "list",data := .seq vs.toArray }/\IntsAre vs ns/\ns.length<=n:=by
 have hsh:WShape.hasAll [] args [.list .int]=true:=(pre_splitW hpre).1;have hc:l.pre.holds [] { args:=args }=true:=(pre_splitW hpre).2;obtain⟨d,r,rfl,h1,h2⟩:=hasAllW_cons hsh;obtain rfl:=hasAllW_nil h2;obtain⟨xs,rfl,h3⟩:=hasW_list h1;obtain⟨ns,rfl⟩:=items_int h3;have hlen:ns.length<=n:=by
  unfold OpenLaw.pre at hc;have h4:(WTm.not (.lt (.lit (.int (n:Int))) (.len (.arg 0)))).holds [] { args:=[.list (ns.map .int)] }=true:=by have h4:=(holds_andW hc).1;rw[hn] at h4;exact h4
  have h5:=condW_of h4 (w_not (w_lt w_lit (w_len_list (w_arg rfl))));rw[cY] at h5;refine Nat.le_of_not_lt λq=>?_;have q':(n:Int)<((ns.length:Nat):Int):=by omega
  first
   | (rw[decide_eq_true q'] at h5;exact absurd h5 (by decide))
   | (simp at h5;omega)
 cases hwl with
 |cons w1 w2 =>
  cases w2;cases w1 with
  |list ho hall=>exact⟨_,_,ns,rfl,rfl,ho,zfQ ns _ hall,hlen⟩
theorem zkV(l:OpenLaw)(args:List WData):l.row.toRowW.claim.post args (.bool true) args=true :=
 postW_of (r:=l.row.toRowW) (X:=(true==true))
  (show WShape.has [] (.bool true) .bool=true by first|rfl|decide|simp[WShape.has,WShape.arms,WShape.armsAll])
  (show(WTm.eq .res (.lit (.bool true))).value [] { args:=args,res:=some (.bool true),after:=args }=some (.bool (true==true)) from w_eq_bool (w_res rfl) w_lit) rfl
theorem ziM{l:OpenLaw}{n:Nat}{q:Program}{loose:List Str}{XP:(Str->Option Value)->Heap->Prop}{YP:World->Heap->Prop}{d:DefRec}(hn:l.most=some n)(hdf:d.params.defaults=[])(call:∀(w:World) (s₀ s₁:Shared) (mg mb:Str->Option Value) (fa:Addr) (o:Obj) (pm cd doc:Value) (a:Addr) (vs:List Value) (ns:List Int),
  Ground q loose [] XP w s₀ mg mb s₁.heap->YP w s₁.heap ->
  s₁.heap.get? fa=some o->o.data = .func (docDef d.name d.params d.body d.scope pm cd doc)->s₁.heap.CodeRec cd d.name->mg d.name=some (.ref fa) ->
  s₁.heap.get? a=some { cls := .type "list",data := .seq vs.toArray }->IntsAre vs ns->ns.length<=n->s₁.gens=#[] ->
  codeAny (model l.prog w) callerA (.call (.ref fa) ⟨[.ref a],[]⟩) (λr s'=>r = .ok (.ret (.bool true))/\OldK s₁.heap s'.heap/\s'.os=s₁.os/\AllBare s'.gens) s₁):
 WalkO q loose XP YP l.row.toRowW d [] (λf vs=>PySem.call f vs):=by
 intro w s₀ s₁ mg mb G Y fa o pm cd doc dV kV ho hd hcd hD hmg hg args vals as hpre hlay hrd hwl hlo;obtain rfl:dV = .none:=Dflts.none hD hdf;obtain rfl:kV = .none:=Dflts.noKw hD;obtain⟨a,vs,ns,rfl,rfl,hobj,hints,hlen⟩:=zkR hn hpre hwl;refine enter_call (codeAny_mono (call w s₀ s₁ mg mb fa o pm cd doc a vs ns G Y ho (fd_plain hd) hcd hmg hobj hints hlen hg) λr s' hq=>?_);obtain⟨rfl,h2,h3,h4⟩:=hq;exact⟨.inl ⟨.bool true,.bool true,[],rfl,λ_=>rfl,.bool true,zkV l _,λ_=>⟨List.Pairwise.nil,λ_ hm=>(nomatch hm)⟩⟩,h2,h3,h4⟩
end Zh
namespace L2
open PySem PySem.Spec PyProof.Rows
def U9:∀{vs:List Value} {ns:List Int},IntsAre vs ns->Vals (ns.map V.int) vs
 |_,_,.nil => .nil
 |_,_,.cons n t h => .cons ⟨t,rfl⟩ (U9 h)
noncomputable def mU(s:Stmt):Arguments:=match s with
 |.FunctionDef _ a _ _ _ _ _ _ _ _=>a
 |_=>{ posonlyargs:=[],args:=[],vararg:=none,kwonlyargs:=[],kw_defaults:=[],kwarg:=none,defaults:=[] }
noncomputable def iQ(s:Stmt):List Stmt:=match s with
 |.FunctionDef _ _ b _ _ _ _ _ _ _=>b
 |_=>[]
noncomputable def b7(s:Stmt):Scope:=match s with
 |.FunctionDef _ _ _ _ _ _ sc _ _ _=>sc
 |_=>{ kind := .function,names:=[],isGenerator:=false,isCoroutine:=false }
abbrev iV:pO:=λ_ _ _ _ _ _=>False
abbrev E0:XK:=λ_ _ _=>False
def El{X:Cx}:u5 iV X E0:=λ_ _ _ _ _ _ _ h=>h.elim
structure pN(K:FgA)(x qual:Str)(st:Stmt)(f:Addr)(fd:FuncData):Prop where
 ex:∃(oc:Value) (od:Option Addr) (kV doc pm:Value) (an:Option Addr) (cdv ct:Value) (osl:Array (Option Value)),
  fd=PySem.W.fnOf x qual (mU st) (iQ st) (b7 st) .none kV doc pm an cdv ct/\K.lookup f=some ⟨oc,od,.func fd,osl⟩/\PySem.W.codeIn K cdv qual=true
 kp:PySem.W.keepIn K (.ref f)=true
section
variable {P:Program}{w:World}{K:FgA}{mg:Str->Option Value}{base:Heap}
theorem pN.ok{x qual:Str}{st:Stmt}{f:Addr}{fd:FuncData}{N ps:List Str}{k:Nat}{sp:Sp}(F:pN K x qual st f fd)(S:oW N ps (b7 st))(len:∀vs H Q E,sp vs H Q E->vs.length=ps.length)(hbody:∀(cdv:Value) (A:Around) (outer:List Env) (s:Shared) (H:Hp) (vs:List V) (Q:VK) (E:XK),bM k (A.deeper (envOfC qual (b7 st) s.heap.objs.size f cdv))->sp vs H Q E ->
  ∃t,jO (pP iV P w K mg base N qual (b7 st) f cdv A outer s H E).nox (iQ st) t/\t { nx:=λ_ H'=>Q .non H',rt:=Q } (start N vs) H):di P w K mg base iV (k+1) f fd ps sp:=by
 obtain⟨oc,od,kV,doc,pm,an,cdv,ct,osl,rfl,lk,hcd⟩:=F.ex;refine Iz lk hcd S len λA outer s H vs Q E hr hsp=>?_;obtain⟨t,h,q⟩:=hbody cdv A outer s H vs Q E hr hsp;exact⟨t,h.nox,q⟩
theorem pN.binds{x qual:Str}{st:Stmt}{f:Addr}{fd:FuncData}{ps:List Str}(F:pN K x qual st f fd)(h:∀(kV doc pm:Value) (an:Option Addr) (cdv ct:Value) (us:List Value),us.length=ps.length->bindArgs (PySem.W.fnOf x qual (mU st) (iQ st) (b7 st) .none kV doc pm an cdv ct) ⟨us,[]⟩=pure (ps.zip us)):Binds K fd ps []:=by obtain⟨oc,od,kV,doc,pm,an,cdv,ct,osl,rfl,lk,hcd⟩:=F.ex;exact .all (h kV doc pm an cdv ct)
theorem Rc{x qual:Str}{st:Stmt}{f:Addr}{oc:Value}{od an:Option Addr}{osl:Array (Option Value)}{kV doc pm cdv ct:Value}(l:K.lookup f=some ⟨oc,od,.func (PySem.W.fnOf x qual (mU st) (iQ st) (b7 st) .none kV doc pm an cdv ct),osl⟩)(c:PySem.W.codeIn K cdv qual=true)(k:PySem.W.keepIn K (.ref f)=true):pN K x qual st f (PySem.W.fnOf x qual (mU st) (iQ st) (b7 st) .none kV doc pm an cdv ct):=⟨⟨oc,od,kV,doc,pm,an,cdv,ct,osl,rfl,l,c⟩,k⟩
end
def Same(H H':Hp):Prop:=∀b o,H b=some o->H' b=some o
def Same.refl(H:Hp):Same H H:=λ_ _ h=>h
end L2
end
section
namespace MX
open PySem PySem.Spec PyProof.Rows L2
abbrev NK:=List (List Int)
noncomputable def Dh(k:NK):Int:=reduceHash (Builtin.Tuple.tupleHashOf (k.map λks=>reduceHash (Builtin.Tuple.tupleHashOf (ks.map hashInt))))
noncomputable def Qo(x:NK×Addr×Value):DictEntry:=⟨Dh x.1,.ref x.2.1,x.2.2⟩
def Qz(h:Heap)(d:Addr)(xs:List (NK×Addr×Value)):Prop:=∃o es,h.get? d=some o/\o.ExactDict/\o.data = .dict es xs.length/\es.toList=xs.map Qo/\(xs.map (·.1)).Nodup
noncomputable def Qp(a:Addr)(xs:List (NK×Addr×Value)):HO := .ext λh=>(a==sysModules)=false/\xs.length<=sizeLine/\Qz h a xs
def sG(K:FgA)(H:Hp)(k:NK)(b:Addr):Prop:=∃bs:List Addr,dR K H b (bs.map V.ref)/\Paired (λ(ks:List Int) (c:Addr)=>dR K H c (ks.map V.int)) k bs
theorem sG.mono{K:FgA}{H H':Hp}{k:NK}{b:Addr}(t:∀a vs,dR K H a vs->dR K H' a vs)(h:sG K H k b):sG K H' k b:=by
 obtain⟨bs,h1,h2⟩:=h;refine⟨bs,t _ _ h1,?_⟩;clear h1
 induction h2 with
 |nil=>exact .nil
 |cons hc _ ih=>exact .cons (t _ _ hc) ih
inductive DR(K:FgA)(H:Hp):List (NK×Int)->List (NK×Addr×Value)->Prop
 |nil:DR K H [] []
 |cons {k:NK} {i:Int} {b:Addr} {t:Tok} {xs:List (NK×Int)} {ys:List (NK×Addr×Value)}:sG K H k b->DR K H xs ys->DR K H ((k,i)::xs) ((k,b,.int i t)::ys)
section
variable {K:FgA}{H H':Hp}{xs:List (NK×Int)}{ys:List (NK×Addr×Value)}
theorem DR.mono(t:∀a vs,dR K H a vs->dR K H' a vs)(h:DR K H xs ys):DR K H' xs ys:=by
 induction h with
 |nil=>exact .nil
 |cons hc _ ih=>exact .cons (hc.mono t) ih
end
section
variable {X:Cx}{pz:List (Addr×Obj)}{Z:L2.St}{H:Hp}{s:Shared}
theorem zmt(I:Inv X pz Z H s){b:Addr}{xs:List V}(h:dR X.K H b xs):∃o items n,s.heap.get? b=some o/\o.cls = .type "tuple" /\ o.data = .seq items n/\Vals xs items.toList:=by
 rcases h with h|⟨o,its,n,h1,h2,h3,_,h5⟩
 .obtain⟨_,its,r,o,h1,h2,n,h3⟩:=(show bT X.prog X.w H s.heap b (.tup xs) from h.ok I.hok)
  exact⟨o,its.toArray,n,h1,h2,h3,by simpa using r⟩
 .exact⟨o,its,n,I.kIn _ _ h1,h2,h3,h5⟩
end
section
variable {prog:Program}{w:World}{A:Around}{E:Value->Shared->Prop}
theorem RB{it l:Addr}{us:Array Value}(ne:l≠it):∀(n i:Nat) (t:Shared) (Q:List Value->Shared->Prop),t.heap.IsListIter it l i->t.heap.IsList l us->i+n<=us.size ->
 (∀h',h'.IsListIter it l (i+n)->Heap.SameBut it t.heap h'->Q ((us.toList.drop i).take n) { t with heap:=h' })->wpAny (model prog w) A (draw (.ref it) n) Q E t
 |0,i,t,Q,g,_,_,q=>by show wpAny _ _ (pure []) Q E t;exact bW (by simpa using q t.heap g (Heap.SameBut.refl ..))
 |n+1,i,t,Q,g,gl,le,q=>by
  have lt:i<us.size:=by omega
  show wpAny _ _ (pyNext (.ref it) >>= _) Q E t;refine aP (wpAny_pyNext_list_item g gl (x:=us[i]) (by simp[lt]) λk₁ g₁ s₁=>?_);have gl₁:k₁.IsList l us:=let ⟨o,e,r⟩:=gl;⟨o,s₁.extBut _ _ ne e,r⟩;refine aP (wpAny_holding (RB ne n (i+1) _ _ g₁ gl₁ (by omega) λk₂ g₂ s₂=>bW ?_));have e:us.toList.drop i=us[i]::us.toList.drop (i+1):=by simp[List.drop_eq_getElem_cons,lt]
  have z:=q k₂ (by rw[show i+(n+1)=i+1+n by omega];exact g₂) (s₁.trans s₂);rw[e,List.take_succ_cons] at z;exact z
theorem zmj{l:Addr}{us:Array Value}{t:Shared}{Q:List Value->Shared->Prop}(hh:A.handled=none)(gl:t.heap.IsList l us)(q:∀h',Heap.ExtBut t.heap.objs.size t.heap h'->Q us.toList { t with heap:=h' }):wpAny (model prog w) A (unpackItems (.ref l) us.size none) Q E t:=by
 have ne:l≠t.heap.objs.size:=by obtain⟨o,e,_⟩:=gl;exact dN (cM e)
 have gp:∀o,(t.heap.push o).IsList l us:=λo=>let ⟨u,e,r⟩:=gl;⟨u,dF _ e,r⟩;unfold unpackItems notIterableAtAll;refine aP (aP (wpAny_specialOf gl.typeIs slot_list_iter.lookup (bW ?_)));simp only[Bool.false_eq_true,if_false];refine aP (wpAny_holding (wpAny_pyIter_list gl (aP (wpAny_holding (RB ne us.size 0 _ _ ⟨_,gG _ rfl,rfl,rfl⟩ (gp _) (by omega) λk₁ g₁ s₁=>?_)))));rw[show List.take us.size (List.drop 0 us.toList)=us.toList by rw[List.drop_zero];exact List.take_of_length_le (by simp),if_neg (by simp)];have gl₁:k₁.IsList l us:=let ⟨o,e,r⟩:=gp _;⟨o,s₁.extBut _ _ ne e,r⟩;refine aP (wpAny_holding (wpAny_pyNext_list_end hh g₁ gl₁ (by simp) λk₂ e₂=>?_));simp only[Option.isSome_none,Bool.false_eq_true,if_false];exact bW (q k₂ λc o hc e=>e₂ c o hc (s₁.extBut c o hc (dF _ e)))
end
noncomputable def Dn(K:FgA)(n:Nat)(t:qC):TG:=λv Z H Q=>∃a xs,v = .ref a/\d8 K H a xs/\xs.length=n/\t xs Z H Q
theorem zo7{X:Cx}{pos:Pos}{es:List Expr}{k:Nat}{t:qC}{n:Nat}(hc:X.calm=true)(h:zA X es t)(hn:(assignEach es X.env).length=n)(hst:(assignEach es X.env).findIdx? (·.1)=none):PG X (.Tuple es k pos) (Dn X.K n t):=by
 intro pz s Z H v u Q I r hw;obtain⟨a,xs,rfl,hq,hl,hw⟩:=hw;cases r;obtain⟨its,rv,ht,hz⟩:=I.list hq;rw[arm_assign_Tuple];refine aP (wpAny_standAt ?_);unfold unpack;have el:(assignEach es X.env).length=its.toArray.size:=by simp[hn,<-hl,rv.length]
 rw[el,hst];refine aP (wpAny_holding (zmj (I.ok.hd hc) ht.isList λh' hx=>?_));have I1:Inv X pz Z H { s with heap:=h' }:=I.kept (t':=s.toks) λb o e=>hx b o (dN (cM e)) e;exact h pz _ Z H xs _ Q I1 (by simpa using rv) hw
theorem PG.or{X:Cx}{e:Expr}{t t':TG}(h:PG X e t)(h':PG X e t'):PG X e (λv Z H Q=>t v Z H Q\/t' v Z H Q):=λpz s Z H v u Q I r q=>by
 rcases q with q|q
 .exact h pz s Z H v u Q I r q
 .exact h' pz s Z H v u Q I r q
inductive D where
 |non|bl (b:Bool)|int (i:Int)|str (x:Str)|tup (xs:List D)|ref (n:Nat)
 |ty (n:String)|adr (a:Addr)
 |obj (C:Str) (ks:List Str) (xs:List D)
inductive O where
 |lst (xs:List D)
 |frz (xs:List D)
 |ins (C:Str) (fs:List (Str×D))
 |dct (xs:List (NK×Int))
 |tbl (x:Str)
abbrev Sg:=List (Option D)
abbrev So:=List O
mutual
inductive Rep(K:FgA)(H:Hp)(α:List Addr):D->V->Prop
 |non:Rep K H α .non .non
 |bl (b:Bool):Rep K H α (.bl b) (.bl b)
 |int (i:Int):Rep K H α (.int i) (.int i)
 |str (x:Str):Rep K H α (.str x) (.str x)
 |tup {a:Addr} {ds:List D} {vs:List V}:dR K H a vs->aK K H α ds vs->Rep K H α (.tup ds) (.ref a)
 |ref {n:Nat} {a:Addr}:α[n]?=some a->Rep K H α (.ref n) (.ref a)
 |ty (n:String):Rep K H α (.ty n) (.ty n)
 |adr (a:Addr):Rep K H α (.adr a) (.ref a)
 |obj {a:Addr} {C:Str} {dx:Addr} {gs:List (Str×V)} {ks:List Str} {ds:List D} {vs:List V}:H a=some (.ins (cZ K C) dx gs)->3<=gs.length->gs.map (·.1)=ks->gs.map (·.2)=vs->aK K H α ds vs->Rep K H α (.obj C ks ds) (.ref a)
inductive aK(K:FgA)(H:Hp)(α:List Addr):List D->List V->Prop
 |nil:aK K H α [] []
 |cons {d:D} {v:V} {ds:List D} {vs:List V}:Rep K H α d v->aK K H α ds vs->aK K H α (d::ds) (v::vs)
end
structure Ext(K:FgA)(H:Hp)(α:List Addr)(H':Hp)(α':List Addr):Prop where
 tups:∀a vs,dR K H a vs->dR K H' a vs
 pre:∀(n:Nat) a,α[n]?=some a->α'[n]?=some a
 insts:∀a c dx gs,3<=gs.length->H a=some (.ins c dx gs)->H' a=some (.ins c dx gs)
section
variable {K:FgA}{H H' Zf:Hp}{α α' α'':List Addr}
def Ext.refl:Ext K H α H α:=⟨λ_ _ h=>h,λ_ _ h=>h,λ_ _ _ _ _ h=>h⟩
def Ext.trans(a:Ext K H α H' α')(b:Ext K H' α' Zf α''):Ext K H α Zf α'':=⟨λc vs h=>b.tups c vs (a.tups c vs h),λn c h=>b.pre n c (a.pre n c h),λx c d g l h=>b.insts x c d g l (a.insts x c d g l h)⟩
mutual
theorem Rep.mono(e:Ext K H α H' α'):∀{d:D} {v:V},Rep K H α d v->Rep K H' α' d v
 |_,_,.non => .non
 |_,_,.bl b => .bl b
 |_,_,.int i => .int i
 |_,_,.str x => .str x
 |_,_,.tup h r => .tup (e.tups _ _ h) (aK.mono e r)
 |_,_,.ref h => .ref (e.pre _ _ h)
 |_,_,.ty n => .ty n
 |_,_,.adr a => .adr a
 |_,_,.obj h l k v r => .obj (e.insts _ _ _ _ l h) l k v (aK.mono e r)
theorem aK.mono(e:Ext K H α H' α'):∀{ds:List D} {vs:List V},aK K H α ds vs->aK K H' α' ds vs
 |_,_,.nil => .nil
 |_,_,.cons h r => .cons (Rep.mono e h) (aK.mono e r)
end
def aK.length:∀{ds:List D} {vs:List V},aK K H α ds vs->ds.length=vs.length
 |_,_,.nil=>rfl
 |_,_,.cons _ r=>by simp[aK.length r]
theorem aK.get:∀{ds:List D} {vs:List V} {i:Nat} {d:D},aK K H α ds vs->ds[i]?=some d->∃v,vs[i]?=some v/\Rep K H α d v
 |_,_,_,_,.nil,e=>by simp at e
 |_,_,0,_,.cons h _,e=>by simp at e;subst e;exact⟨_,rfl,h⟩
 |_,_,i+1,_,.cons _ r,e=>by obtain⟨v,h1,h2⟩:=aK.get (i:=i) r (by simpa using e);exact⟨v,by simpa using h1,h2⟩
theorem aK.getV:∀{ds:List D} {vs:List V} {i:Nat} {v:V},aK K H α ds vs->vs[i]?=some v->∃d,ds[i]?=some d/\Rep K H α d v
 |_,_,_,_,.nil,e=>by simp at e
 |_,_,0,_,.cons h _,e=>by simp at e;subst e;exact⟨_,rfl,h⟩
 |_,_,i+1,_,.cons _ r,e=>by obtain⟨v,h1,h2⟩:=aK.getV (i:=i) r (by simpa using e);exact⟨v,by simpa using h1,h2⟩
def aK.append:∀{ds es:List D} {vs ws:List V},aK K H α ds vs->aK K H α es ws->aK K H α (ds++es) (vs++ws)
 |_,_,_,_,.nil,s=>s
 |_,_,_,_,.cons h r,s => .cons h (aK.append r s)
theorem aK.take:∀{ds:List D} {vs:List V} (n:Nat),aK K H α ds vs->aK K H α (ds.take n) (vs.take n)
 |_,_,0,_=>by simp;exact .nil
 |_,_,_+1,.nil => .nil
 |_,_,n+1,.cons h r => .cons h (aK.take n r)
theorem aK.drop:∀{ds:List D} {vs:List V} (n:Nat),aK K H α ds vs->aK K H α (ds.drop n) (vs.drop n)
 |_,_,0,r=>by simpa using r
 |_,_,_+1,.nil => .nil
 |_,_,n+1,.cons h r=>by simpa using aK.drop n r
theorem Same.tups(s:Same H H'):∀a vs,dR K H a vs->dR K H' a vs:=λa vs h=>by
 rcases h with(h|⟨o,h⟩)|h
 .exact .inl (.inl (s _ _ h))
 .exact .inl (.inr ⟨o,s _ _ h⟩)
 .exact .inr h
def Same.ext(s:Same H H'):Ext K H α H' α:=⟨Same.tups s,λ_ _ h=>h,λ_ _ _ _ _ h=>s _ _ h⟩
def mj{p:Addr}{o:HO}(h:H p=none):Same H (upd H p o):=λb u e=>by rw[cD (gU e h)];exact e
noncomputable def qF(K:FgA)(H:Hp)(a:Addr)(xs:List V):Prop :=
 (∃o,H a=some (.frz o (.lst xs))) \/
  ∃(o:Obj) (its:Array Value) (n:Nat),K.lookup a=some o/\o.cls = .type "list" /\ o.dict=none/\o.data = .seq its n/\its.size<=sizeLine/\Vals xs its.toList
def qF.sq{a:Addr}{xs:List V}(h:qF K H a xs):d8 K H a xs:=by
 rcases h with h|h
 .exact .inl (.inr h)
 .exact .inr h
def qF.same{a:Addr}{xs:List V}(s:Same H H')(h:qF K H a xs):qF K H' a xs:=by
 rcases h with⟨o,h⟩|h
 .exact .inl ⟨o,s _ _ h⟩
 .exact .inr h
noncomputable def O.own:O->Bool
 |.frz _=>false
 |_=>true
noncomputable def gA(K:FgA)(H:Hp)(α:List Addr)(a:Addr):O->Prop
 |.lst ds=>∃vs,H a=some (.lst vs)/\aK K H α ds vs
 |.frz ds=>∃vs,qF K H a vs/\aK K H α ds vs
 |.ins C fs=>∃dx gs,H a=some (.ins (cZ K C) dx gs)/\fs.map (·.1)=gs.map (·.1)/\aK K H α (fs.map (·.2)) (gs.map (·.2))
 |.dct xs=>∃ys,H a=some (Qp a ys)/\DR K H xs ys
 |.tbl x=>a=iZ K x/\∃ps,H a=some (.tbl ps)
structure aA(K:FgA)(H:Hp)(α:List Addr)(S:So):Prop where
 len:α.length=S.length
 nd:∀(n m:Nat) o o' a,S[n]?=some o->S[m]?=some o'->O.own o=true->O.own o'=true->α[n]?=some a->α[m]?=some a->n=m
 obj:∀(n:Nat) o a,S[n]?=some o->α[n]?=some a->gA K H α a o
noncomputable def bI(K:FgA)(H:Hp)(α:List Addr)(σd:Sg)(Z:L2.St):Prop :=
 σd.length=Z.length/\∀(i:Nat) d,σd[i]?=some (some d)->∃v,Z[i]?=some (some v)/\Rep K H α d v
def bI.mono{σd:Sg}{Z:L2.St}(e:Ext K H α H' α')(h:bI K H α σd Z):bI K H' α' σd Z :=
 ⟨h.1,λi d q=>let ⟨v,h1,h2⟩:=h.2 i d q;⟨v,h1,h2.mono e⟩⟩
theorem bI.set{σd:Sg}{Z:L2.St}{d:D}{v:V}(h:bI K H α σd Z)(r:Rep K H α d v)(i:Nat):bI K H α (σd.set i (some d)) (Z.set i (some v)):=by
 refine⟨by simpa using h.1,λj e q=>?_⟩;by_cases hj:j=i
 .subst hj;by_cases hlt:j<σd.length
  .rw[List.getElem?_set_self hlt] at q;cases q;exact⟨v,by rw[List.getElem?_set_self (by rw[<-h.1];exact hlt)],r⟩
  .rw[j9 (by simpa using hlt)] at q;cases q
 .rw[List.getElem?_set_ne (Ne.symm hj)] at q;obtain⟨u,h1,h2⟩:=h.2 j e q;exact⟨u,by rw[List.getElem?_set_ne (Ne.symm hj)];exact h1,h2⟩
theorem gA.mono{a:Addr}{o:O}(s:Same H H')(e:Ext K H α H' α')(h:gA K H α a o):gA K H' α' a o:=by
 cases o with
 |lst ds=>obtain⟨vs,h1,h2⟩:=h;exact⟨vs,s _ _ h1,h2.mono e⟩
 |frz ds=>obtain⟨vs,h1,h2⟩:=h;exact⟨vs,qF.same s h1,h2.mono e⟩
 |ins C fs=>obtain⟨dx,gs,h1,h2,h3⟩:=h;exact⟨dx,gs,s _ _ h1,h2,h3.mono e⟩
 |dct xs=>obtain⟨ys,h1,h2⟩:=h;exact⟨ys,s _ _ h1,h2.mono e.tups⟩
 |tbl x=>obtain⟨h0,ps,h1⟩:=h;exact⟨h0,ps,s _ _ h1⟩
def aA.mono{S:So}(s:Same H H')(h:aA K H α S):aA K H' α S :=
 ⟨h.len,h.nd,λn o a h1 h2=>(h.obj n o a h1 h2).mono s (Same.ext s)⟩
theorem gA.some{a:Addr}{o:O}(h:gA K H α a o)(w:O.own o=true):∃u,H a=some u:=by
 cases o with
 |lst ds=>obtain⟨vs,h1,_⟩:=h;exact⟨_,h1⟩
 |frz ds=>cases w
 |ins C fs=>obtain⟨dx,gs,h1,_⟩:=h;exact⟨_,h1⟩
 |dct xs=>obtain⟨ys,h1,_⟩:=h;exact⟨_,h1⟩
 |tbl x=>obtain⟨_,ps,h1⟩:=h;exact⟨_,h1⟩
theorem getElem?pL{α:Type}{l:List α}{x y:α}{n:Nat}(h:(l++[x])[n]?=some y):l[n]?=some y\/(n=l.length/\y=x):=by
 by_cases hn:n<l.length
 .rw[lR hn] at h;exact .inl h
 .rw[nJ (by omega)] at h;by_cases h0:n - l.length=0
  .rw[h0] at h;simp at h;exact .inr ⟨by omega,h.symm⟩
  .rw[j9 (by simp;omega)] at h;cases h
theorem aA.snoc{S:So}{p:Addr}{o:O}{u:HO}(h:aA K H α S)(hp:H p=none)(ho:∀α',Ext K H α (upd H p u) α'->gA K (upd H p u) α' p o):
 aA K (upd H p u) (α++[p]) (S++[o])/\Ext K H α (upd H p u) (α++[p]):=by
 have s:Same H (upd H p u):=mj hp;have e:Ext K H α (upd H p u) (α++[p]):=⟨Same.tups s,λn a q=>by rw[lR (fC.mp q).1];exact q,λ_ _ _ _ _ h=>s _ _ h⟩
 have old:∀{n:Nat} {o':O} {a:Addr},S[n]?=some o'->(α++[p])[n]?=some a->α[n]?=some a:=λ{n o' a} h1 h2=>by
  have hn:n<α.length:=by rw[h.len];exact(fC.mp h1).1
  rw[lR hn] at h2;exact h2
 have o8:(α++[p])[S.length]?=some p:=by rw[<-h.len];simp
 have apart:∀{n:Nat} {o':O},S[n]?=some o'->O.own o'=true->¬(α++[p])[n]?=some p:=λ{n o'} h1 w h2=>by obtain⟨u,z⟩:=(h.obj n o' p h1 (old h1 h2)).some w;rw[hp] at z;cases z
 refine⟨⟨by simp[h.len],λn m o1 o2 a h1 h2 w1 w2 a1 a2=>?_,λn o' a h1 h2=>?_⟩,e⟩
 .rcases getElem?pL h1 with q1|⟨e1,e2⟩<;>rcases getElem?pL h2 with q2|⟨e3,e4⟩
  .exact h.nd n m o1 o2 a q1 q2 w1 w2 (old q1 a1) (old q2 a2)
  .rw[e3,o8] at a2;cases a2;exact absurd a1 (apart q1 w1)
  .rw[e1,o8] at a1;cases a1;exact absurd a2 (apart q2 w2)
  .rw[e1,e3]
 .rcases getElem?pL h1 with h1|⟨rfl,rfl⟩
  .exact(h.obj n o' a h1 (old h1 h2)).mono s e
  .rw[o8] at h2;cases h2;exact ho _ e
theorem aA.put'{S:So}{n:Nat}{a:Addr}{o₀ o:O}{u₀ u:HO}(h:aA K H α S)(hn:S[n]?=some o₀)(w₀:O.own o₀=true)(w:O.own o=true)(ha:α[n]?=some a)(hv:H a=some u₀)(nt:∀ws,HO.tup ws≠u₀)(nf:∀ob x,HO.frz ob x≠u₀)(ni:∀c dx gs,3<=gs.length->HO.ins c dx gs≠u₀)(ho:Ext K H α (upd H a u) α->gA K (upd H a u) α a o):aA K (upd H a u) α (S.set n o)/\Ext K H α (upd H a u) α:=by
 have e:Ext K H α (upd H a u) α:=⟨λb ws q=>by
  rcases q with(q|⟨o,q⟩)|q
  .exact .inl (.inl (by rw[cD (EY q hv (nt _))];exact q))
  .exact .inl (.inr ⟨o,by rw[cD (EY q hv (nf _ _))];exact q⟩)
  .exact .inr q,λ_ _ q=>q,λb c dx gs l q=>by rw[cD (EY q hv (ni _ _ _ l))];exact q⟩
 have hlt:n<S.length:=(fC.mp hn).1;have at':∀{m:Nat} {o':O},(S.set n o)[m]?=some o'->(m=n/\o'=o)\/(m≠n/\S[m]?=some o'):=λ{m o'} h1=>by
  by_cases hm:m=n
  .subst hm;rw[List.getElem?_set_self hlt] at h1;exact .inl ⟨rfl,(Option.some.inj h1).symm⟩
  .rw[List.getElem?_set_ne (Ne.symm hm)] at h1;exact .inr ⟨hm,h1⟩
 refine⟨⟨by simpa using h.len,λm k o1 o2 b h1 h2 w1 w2 b1 b2=>?_,λm o' b h1 h2=>?_⟩,e⟩
 .rcases at' h1 with⟨e1,e2⟩|⟨n1,q1⟩<;>rcases at' h2 with⟨e3,e4⟩|⟨n2,q2⟩
  .rw[e1,e3]
  .rw[e1] at b1 ⊢;exact h.nd _ _ o₀ o2 b hn q2 w₀ w2 b1 b2
  .rw[e3] at b2 ⊢;exact h.nd _ _ o1 o₀ b q1 hn w1 w₀ b1 b2
  .exact h.nd _ _ o1 o2 b q1 q2 w1 w2 b1 b2
 .rcases at' h1 with⟨rfl,rfl⟩|⟨hm,h1⟩
  .rw[ha] at h2;cases h2;exact ho e
  .have q:=h.obj m o' b h1 h2;have hba:O.own o'=true->b≠a:=λw' z=>hm (by subst z;exact h.nd m n o' o₀ b h1 hn w' w₀ h2 ha);cases o' with
   |lst ds=>obtain⟨ws,q1,q2⟩:=q;exact⟨ws,by rw[cD (hba rfl)];exact q1,q2.mono e⟩
   |frz ds =>
    obtain⟨ws,q1,q2⟩:=q;refine⟨ws,?_,q2.mono e⟩;rcases q1 with⟨ob,q1⟩|q1
    .exact .inl ⟨ob,by rw[cD (EY q1 hv (nf _ _))];exact q1⟩
    .exact .inr q1
   |ins C fs=>obtain⟨dx,gs,q1,q2,q3⟩:=q;exact⟨dx,gs,by rw[cD (hba rfl)];exact q1,q2,q3.mono e⟩
   |dct xs=>obtain⟨ys,q1,q2⟩:=q;exact⟨ys,by rw[cD (hba rfl)];exact q1,q2.mono e.tups⟩
   |tbl x=>obtain⟨q0,ps,q1⟩:=q;exact⟨q0,ps,by rw[cD (hba rfl)];exact q1⟩
theorem aA.put{S:So}{n:Nat}{a:Addr}{o₀ o:O}{u₀ u:HO}(h:aA K H α S)(hn:S[n]?=some o₀)(w₀:O.own o₀=true)(w:O.own o=true)(ha:α[n]?=some a)(hv:H a=some u₀)(hu:(∃vs,u₀ = .lst vs)\/∃f,u₀ = .ext f)(ho:Ext K H α (upd H a u) α->gA K (upd H a u) α a o):aA K (upd H a u) α (S.set n o)/\Ext K H α (upd H a u) α :=
 h.put' hn w₀ w ha hv (λws z=>by rcases hu with⟨vs,e⟩|⟨f,e⟩<;>(rw[e] at z;cases z)) (λob x z=>by rcases hu with⟨vs,e⟩|⟨f,e⟩<;>(rw[e] at z;cases z)) (λc dx gs _ z=>by rcases hu with⟨vs,e⟩|⟨f,e⟩<;>(rw[e] at z;cases z)) ho
end
mutual
def D.lo(n:Nat):D->Bool
 |.tup xs=>c7 n xs
 |.obj _ _ xs=>c7 n xs
 |.ref m=>decide (m<n)
 |_=>true
def c7(n:Nat):List D->Bool
 |[]=>true
 |d::ds=>D.lo n d&&c7 n ds
end
noncomputable def O.lo(n:Nat):O->Bool
 |.lst xs=>c7 n xs
 |.frz xs=>c7 n xs
 |.ins _ fs=>c7 n (fs.map (·.2))
 |.dct _=>true
 |.tbl _=>true
section
variable {K:FgA}{H:Hp}{α β:List Addr}
mutual
theorem Rep.lo:∀{d:D} {v:V},Rep K H α d v->D.lo α.length d=true
 |_,_,.non=>by simp[D.lo]
 |_,_,.bl _=>by simp[D.lo]
 |_,_,.int _=>by simp[D.lo]
 |_,_,.str _=>by simp[D.lo]
 |_,_,.tup _ r=>by rw[D.lo];exact aK.lo r
 |_,_,.ref h=>by rw[D.lo];exact decide_eq_true (fC.mp h).1
 |_,_,.ty _=>by simp[D.lo]
 |_,_,.adr _=>by simp[D.lo]
 |_,_,.obj _ _ _ _ r=>by rw[D.lo];exact aK.lo r
theorem aK.lo:∀{ds:List D} {vs:List V},aK K H α ds vs->c7 α.length ds=true
 |_,_,.nil=>by simp[c7]
 |_,_,.cons h r=>by rw[c7,Rep.lo h,aK.lo r];rfl
end
mutual
theorem Rep.cut(n:Nat):∀{d:D} {v:V},Rep K H α d v->D.lo n d=true->Rep K H (α.take n) d v
 |_,_,.non,_ => .non
 |_,_,.bl b,_ => .bl b
 |_,_,.int i,_ => .int i
 |_,_,.str x,_ => .str x
 |_,_,.tup h r,b => .tup h (aK.cut n r (by rw[D.lo] at b;exact b))
 |_,_,.ref h,b => .ref (by
  rw[D.lo] at b;rw[List.getElem?_take_of_lt (of_decide_eq_true b)];exact h)
 |_,_,.ty n,_ => .ty n
 |_,_,.adr a,_ => .adr a
 |_,_,.obj h l k v r,b => .obj h l k v (aK.cut n r (by rw[D.lo] at b;exact b))
theorem aK.cut(n:Nat):∀{ds:List D} {vs:List V},aK K H α ds vs->c7 n ds=true->aK K H (α.take n) ds vs
 |_,_,.nil,_ => .nil
 |_,_,.cons h r,b=>by rw[c7,dD] at b;exact .cons (Rep.cut n h b.1) (aK.cut n r b.2)
end
theorem gA.lo{a:Addr}{o:O}(h:gA K H α a o):O.lo α.length o=true:=by
 cases o with
 |lst ds=>obtain⟨_,_,r⟩:=h;exact r.lo
 |frz ds=>obtain⟨_,_,r⟩:=h;exact r.lo
 |ins C fs=>obtain⟨_,_,_,_,r⟩:=h;exact r.lo
 |dct xs=>rfl
 |tbl x=>rfl
theorem gA.cut{a:Addr}{o:O}(n:Nat)(h:gA K H α a o)(b:O.lo n o=true):gA K H (α.take n) a o:=by
 cases o with
 |lst ds=>obtain⟨vs,h1,r⟩:=h;exact⟨vs,h1,r.cut n b⟩
 |frz ds=>obtain⟨vs,h1,r⟩:=h;exact⟨vs,h1,r.cut n b⟩
 |ins C fs=>obtain⟨dx,gs,h1,h2,r⟩:=h;exact⟨dx,gs,h1,h2,r.cut n b⟩
 |dct xs=>exact h
 |tbl x=>exact h
def WF(S:So):Prop:=∀o∈S,O.lo S.length o=true
theorem aA.wf{S:So}(h:aA K H α S):WF S:=λo ho=>by
 obtain⟨n,hn,e⟩:=List.mem_iff_getElem.mp ho;have hn':n<α.length:=by rw[h.len];exact hn
 have:=(h.obj n o α[n] (by rw[fC];exact⟨hn,e⟩) (by simp)).lo;rw[h.len] at this;exact this
theorem aA.cut{S:So}(h:aA K H α S)(n:Nat)(b:∀o∈S.take n,O.lo n o=true):aA K H (α.take n) (S.take n):=by
 have lt:∀{m:Nat} {o:O},(S.take n)[m]?=some o->m<n:=λ{m o} h1=>by have:=(fC.mp h1).1;simp at this;omega
 refine⟨by simp[h.len],λm k o1 o2 a h1 h2 w1 w2 a1 a2=>?_,λm o a h1 h2=>?_⟩
 .have l1:=lt h1;have l2:=lt h2;rw[List.getElem?_take_of_lt l1] at h1 a1;rw[List.getElem?_take_of_lt l2] at h2 a2;exact h.nd m k o1 o2 a h1 h2 w1 w2 a1 a2
 have hm:m<n:=by have:=(fC.mp h1).1;simp at this;omega
 have b1:=b o (List.mem_of_getElem? h1);rw[List.getElem?_take_of_lt hm] at h1 h2;exact(h.obj m o a h1 h2).cut n b1
end
noncomputable def kD(k:NK):D := .tup (k.map λks => .tup (ks.map .int))
section
variable {K:FgA}{H:Hp}{α:List Addr}
def Vt:∀l:List Int,aK K H α (l.map .int) (l.map V.int)
 |[] => .nil
 |i::l => .cons (.int i) (Vt l)
end
end MX
end
section
namespace MX
open PySem PySem.Spec PyProof.Rows L2
open Builtin.Int (intBits)
abbrev EF:=Sg->So->Option (D×So)
noncomputable def Kt(K:FgA)(H:Hp)(α:List Addr)(z:D)(S':So)(Q:VK):Prop :=
 ∀w H' α',aA K H' α' S'->Ext K H α H' α'->Rep K H' α' z w->Q w H'
noncomputable def vZ(K:FgA)(f:EF):TE:=λZ H Q=>∃σd S α z S',bI K H α σd Z/\aA K H α S/\f σd S=some (z,S')/\Kt K H α z S' Q
def SE(X:Cx)(e:Expr)(f:EF):Prop:=PE X e (vZ X.K f)
def PE.imp{X:Cx}{e:Expr}{t t':TE}(h:PE X e t)(k:∀Z H Q,t' Z H Q->t Z H Q):PE X e t':=λpz s Z H Q I q=>h pz s Z H Q I (k Z H Q q)
abbrev G2:=D->D->So->Option (D×So)
abbrev GN:=List D->So->Option (D×So)
noncomputable def mO(K:FgA)(g:G2):R2:=λv u H Q=>∃S α x y z S',aA K H α S/\Rep K H α x v/\Rep K H α y u/\g x y S=some (z,S')/\Kt K H α z S' Q
noncomputable def jB(K:FgA)(g:GN):List V->Hp->VK->Prop:=λvs H Q=>∃S α ds z S',aA K H α S/\aK K H α ds vs/\g ds S=some (z,S')/\Kt K H α z S' Q
def Kt.same{K:FgA}{H:Hp}{α:List Addr}{z:D}{S:So}{Q:VK}{w:V}(k:Kt K H α z S Q)(s:aA K H α S)(r:Rep K H α z w):Q w H:=k w H α s Ext.refl r
def Kt.new{K:FgA}{H H':Hp}{α:List Addr}{z:D}{S:So}{Q:VK}{w:V}(k:Kt K H α z S Q)(s:aA K H α S)(m:Same H H')(r:Rep K H' α z w):Q w H':=k w H' α (s.mono m) (Same.ext m) r
def Kt.trans{K:FgA}{H H1:Hp}{α α1:List Addr}{z:D}{S':So}{Q:VK}(k:Kt K H α z S' Q)(e:Ext K H α H1 α1):Kt K H1 α1 z S' Q:=λw H' α' s x r=>k w H' α' s (e.trans x) r
noncomputable def cg(i j:Int):Bool:=decide (intBits i<=64)||decide (intBits j<=64)||decide (intBits i+intBits j<=134217728)
theorem cg.ok{i j:Int}(h:cg i j=true):IntMulOk i j:=by
 unfold cg at h;rw[lg,lg] at h;rcases h with(h|h)|h
 .exact .of_left (of_decide_eq_true h)
 .exact .of_right (of_decide_eq_true h)
 .exact IntMulOk.of_le (bH _) (bH _) (of_decide_eq_true h)
noncomputable def dh(j:Int):Bool:=decide (j≠0)&&decide (intBits j<=8000)
theorem dh.ok{i j:Int}(h:dh j=true):j≠0/\Builtin.divisionGoesByPylong i j=false:=by
 unfold dh at h;rw[dD] at h;have h1:j≠0:=of_decide_eq_true h.1;have h2:intBits j<=8000:=of_decide_eq_true h.2;refine⟨h1,PyProof.noPylong_of_log2 ?_⟩;have hb:(j==0)=false:=by simpa using h1
 unfold Builtin.Int.intBits at h2;rw[hb] at h2;simp only[Bool.false_eq_true,if_false] at h2;omega
section
variable {X:Cx}
def zpv:fu X (binaryOp .Mult) (rI (λi j=>cg i j=true) λi j => .int (i*j)):=Cm λ_ _ _ _ _ _ _ hc q=>mul_int q (cg.ok hc)
def zpx:fu X (binaryOp .FloorDiv) (rI (λ_ j=>dh j=true) λi j => .int (i.fdiv j)):=Cm λ_ _ _ _ _ _ _ hc q=>floordiv_int (dh.ok (i:=0) hc).1 q (.inl (dh.ok hc).2)
end
noncomputable def pG:G2
 |.int i,.int j,S=>some (.int (i+j),S)
 |.str a,.str b,S=>if a.length+b.length<=sizeLine then some (.str (a++b),S) else none
 |.tup xs,.tup ys,S=>if xs≠[]/\xs.length+ys.length<=sizeLine then some (.tup (xs++ys),S) else none
 |.ref n,.ref m,S=>match S[n]?,S[m]? with
  |some (.lst xs),some (.lst ys)=>if xs.length+ys.length<=sizeLine then some (.ref S.length,S++[.lst (xs++ys)]) else none
  |_,_=>none
 |_,_,_=>none
noncomputable def wK:G2
 |.int i,.int j,S=>some (.int (i - j),S)
 |_,_,_=>none
noncomputable def pC:G2
 |.int i,.int j,S=>if cg i j=true then some (.int (i*j),S) else none
 |.ref n,.int j,S=>match S[n]? with
  |some (.lst xs)=>if 0<=j/\j<=1/\xs.length<=1 then some (.ref S.length,S++[.lst (if j=0 then[] else xs)]) else none
  |_=>none
 |_,_,_=>none
noncomputable def rW:G2
 |.int i,.int j,S=>if dh j=true then some (.int (i.fdiv j),S) else none
 |_,_,_=>none
noncomputable def rQ:G2
 |.int i,.int j,S=>if j≠0 then some (.int (i.fmod j),S) else none
 |_,_,_=>none
noncomputable def wL:G2
 |.int i,.int j,S=>if 0<=j/\j<=1000000/\i.natAbs<2 ^ 64 then some (.int (i*2 ^ j.toNat),S) else none
 |_,_,_=>none
noncomputable def wN:G2
 |.int i,.int j,S=>if 0<=j/\j<=1000000/\i.natAbs<2 ^ 64 then some (.int (i ^ j.toNat),S) else none
 |_,_,_=>none
noncomputable def aB:Operator->G2
 |.Add=>pG
 |.Sub=>wK
 |.Mult=>pC
 |.FloorDiv=>rW
 |.Mod=>rQ
 |.LShift=>wL
 |.Pow=>wN
 |_=>λ_ _ _=>none
section
variable {X:Cx}
theorem zpt:fu X (binaryOp .Add) (mO X.K pG):=by
 intro pz s Z H v u vv uu Q I rv ru h;obtain⟨S,α,x,y,z,S',hs,rx,ry,hg,k⟩:=h;unfold pG at hg;split at hg
 .cases hg;cases rx;cases ry;exact zrO pz s Z H _ _ _ _ Q I rv ru ⟨_,_,rfl,rfl,k.same hs (.int _)⟩
 .split at hg
  .rename_i hl;cases hg;cases rx;cases ry;exact zjW pz s Z H _ _ _ _ Q I rv ru ⟨_,_,rfl,rfl,hl,k.same hs (.str _)⟩
  .cases hg
 .split at hg
  .rename_i hl;cases hg;cases rx with
   |tup h1 r1 =>
    cases ry with
    |tup h2 r2 =>
     refine zpy pz s Z H _ _ _ _ Q I rv ru ⟨_,_,_,_,rfl,rfl,h1,h2,?_,?_,?_,?_⟩
     .intro e;subst e;cases r1;exact hl.1 rfl
     .rw[<-r1.length,<-r2.length];exact hl.2
     .intro e;subst e;cases r2;exact k.same hs (.tup h1 (by rw[List.append_nil];exact r1))
     .intro _ p hp;exact k.new hs (mj hp) (.tup (dR.of fP) ((r1.append r2).mono (Same.ext (mj hp))))
  .cases hg
 .split at hg
  .rename_i n m xs ys e1 e2;split at hg
   .rename_i hl;cases hg;cases rx with
    |ref a1 =>
     cases ry with
     |ref a2 =>
      obtain⟨vs,h1,r1⟩:=hs.obj _ _ _ e1 a1;obtain⟨ws,h2,r2⟩:=hs.obj _ _ _ e2 a2;refine zrN pz s Z H _ _ _ _ Q I rv ru ⟨_,_,_,_,rfl,rfl,h1,h2,by rw[<-r1.length,<-r2.length];exact hl,λp hp=>?_⟩;obtain⟨s',e'⟩:=hs.snoc (p:=p) (o := .lst (xs++ys)) (u := .lst (vs++ws)) hp λα' e=>⟨_,fP,(r1.append r2).mono e⟩
      exact k _ _ _ s' e' (.ref (by rw[<-hs.len];simp))
   .cases hg
  .cases hg
 .cases hg
theorem zpi:fu X (binaryOp .Sub) (mO X.K wK):=by
 intro pz s Z H v u vv uu Q I rv ru h;obtain⟨S,α,x,y,z,S',hs,rx,ry,hg,k⟩:=h;unfold wK at hg;split at hg
 .cases hg;cases rx;cases ry;exact zrI pz s Z H _ _ _ _ Q I rv ru ⟨_,_,rfl,rfl,k.same hs (.int _)⟩
 .cases hg
theorem zpn:fu X (binaryOp .Mult) (mO X.K pC):=by
 intro pz s Z H v u vv uu Q I rv ru h;obtain⟨S,α,x,y,z,S',hs,rx,ry,hg,k⟩:=h;unfold pC at hg;split at hg
 .split at hg
  .rename_i hc;cases hg;cases rx;cases ry;exact zpv pz s Z H _ _ _ _ Q I rv ru ⟨_,_,rfl,rfl,hc,k.same hs (.int _)⟩
  .cases hg
 .split at hg
  .rename_i n j _ xs e1;split at hg
   .rename_i hl;cases hg;cases rx with
    |ref a1 =>
     cases ry;obtain⟨vs,h1,r1⟩:=hs.obj _ _ _ e1 a1;have l1:=r1.length;refine zrK pz s Z H _ _ _ _ Q I rv ru ⟨_,_,_,rfl,rfl,h1,by omega,by omega,?_,λp hp=>?_⟩
     .have:vs.length*j.toNat<=1*1:=Nat.mul_le_mul (by omega) (by omega);have hz:(1:Nat)<=sizeLine:=by decide
      omega
     have ev:(List.replicate j.toNat vs).flatten=if j=0 then[] else vs:=by
      split
      .rename_i hj;subst hj;rfl
      .obtain rfl:j=1:=by omega
       simp
     rw[ev];obtain⟨s',e'⟩:=hs.snoc (p:=p) (o := .lst (if j=0 then[] else xs)) (u := .lst (if j=0 then[] else vs)) hp λα' e=>⟨_,fP,by
      by_cases hj:j=0
      .simp only[if_pos hj];exact .nil
      .have:=r1.mono e;simp only[if_neg hj] at this ⊢;exact this⟩
     exact k _ _ _ s' e' (.ref (by rw[<-hs.len];simp))
   .cases hg
  .cases hg
 .cases hg
theorem zpr:fu X (binaryOp .FloorDiv) (mO X.K rW):=by
 intro pz s Z H v u vv uu Q I rv ru h;obtain⟨S,α,x,y,z,S',hs,rx,ry,hg,k⟩:=h;unfold rW at hg;split at hg
 .split at hg
  .rename_i hc;cases hg;cases rx;cases ry;exact zpx pz s Z H _ _ _ _ Q I rv ru ⟨_,_,rfl,rfl,hc,k.same hs (.int _)⟩
  .cases hg
 .cases hg
theorem zpo:fu X (binaryOp .Mod) (mO X.K rQ):=by
 intro pz s Z H v u vv uu Q I rv ru h;obtain⟨S,α,x,y,z,S',hs,rx,ry,hg,k⟩:=h;unfold rQ at hg;split at hg
 .split at hg
  .rename_i hc;cases hg;cases rx;cases ry;exact zpw pz s Z H _ _ _ _ Q I rv ru ⟨_,_,rfl,rfl,hc,k.same hs (.int _)⟩
  .cases hg
 .cases hg
theorem zpj:fu X (binaryOp .LShift) (mO X.K wL):=by
 intro pz s Z H v u vv uu Q I rv ru h;obtain⟨S,α,x,y,z,S',hs,rx,ry,hg,k⟩:=h;unfold wL at hg;split at hg
 .split at hg
  .rename_i hc;cases hg;cases rx;cases ry;exact zrJ pz s Z H _ _ _ _ Q I rv ru ⟨_,_,rfl,rfl,hc,k.same hs (.int _)⟩
  .cases hg
 .cases hg
theorem zpk:fu X (binaryOp .Pow) (mO X.K wN):=by
 intro pz s Z H v u vv uu Q I rv ru h;obtain⟨S,α,x,y,z,S',hs,rx,ry,hg,k⟩:=h;unfold wN at hg;split at hg
 .split at hg
  .rename_i hc;cases hg;cases rx;cases ry;exact zrL pz s Z H _ _ _ _ Q I rv ru ⟨_,_,rfl,rfl,hc,k.same hs (.int _)⟩
  .cases hg
 .cases hg
theorem zps:∀op:Operator,fu X (binaryOp op) (mO X.K (aB op)):=by
 intro op;cases op
 case Add=>exact zpt
 case Sub=>exact zpi
 case Mult=>exact zpn
 case FloorDiv=>exact zpr
 case Mod=>exact zpo
 case LShift=>exact zpj
 case Pow=>exact zpk
 all_goals
  intro pz s Z H v u vv uu Q I rv ru h;obtain⟨S,α,x,y,z,S',hs,rx,ry,hg,k⟩:=h;exact absurd hg (by simp[aB])
end
noncomputable def nO(f:D->Option PyData):List D->Option (List PyData)
 |[]=>some []
 |d::ds=>(f d).bind λp=>(nO f ds).map λps=>p::ps
noncomputable def eV(S:So):Nat->D->Option PyData
 |0,_=>none
 |_+1,.non=>some .none
 |_+1,.bl b=>some (.bool b)
 |_+1,.int i=>some (.int i)
 |_+1,.str x=>some (.str x)
 |n+1,.tup ds=>(nO (eV S n) ds).map .tuple
 |n+1,.ref m=>match S[m]? with
  |some (.lst ds)=>(nO (eV S n) ds).map .list
  |some (.frz ds)=>(nO (eV S n) ds).map .list
  |_=>none
 |_+1,_=>none
theorem V5{X:Cx}{s:Shared}{H:Hp}{α:List Addr}{f:D->Option PyData}(hf:∀d v u p,Rep X.K H α d v->RelV v u->f d=some p->∃as,Reads s.heap u p as):
 ∀ds vs us ps,aK X.K H α ds vs->Vals vs us->nO f ds=some ps->∃as,ReadsAll s.heap us ps as
 |_,_,_,_,.nil,.nil,e=>by simp[nO] at e;subst e;exact⟨_,.nil⟩
 |_,_,_,_,.cons r rr,.cons rv rvs,e=>by simp only[nO,bC,bf] at e;obtain⟨p,e1,ps,e2,rfl⟩:=e;obtain⟨as,ra⟩:=hf _ _ _ _ r rv e1;obtain⟨bs,rb⟩:=V5 hf _ _ _ _ rr rvs e2;exact⟨_,.cons ra rb⟩
theorem Aq{X:Cx}{pz:List (Addr×Obj)}{s:Shared}{Z:L2.St}{H:Hp}{α:List Addr}{S:So}(I:Inv X pz Z H s)(hs:aA X.K H α S):∀(n:Nat) d v u p,Rep X.K H α d v->RelV v u->eV S n d=some p->∃as,Reads s.heap u p as
 |0,d,v,u,p,_,_,e=>by simp[eV] at e
 |n+1,d,v,u,p,r,rv,e=>by
  have ih:=V5 (X:=X) (s:=s) (Aq I hs n);cases r with
  |non=>cases rv;simp[eV] at e;subst e;exact⟨_,.none⟩
  |bl b=>cases rv;simp[eV] at e;subst e;exact⟨_,.bool b⟩
  |int i=>obtain⟨t,rfl⟩:=rv;simp[eV] at e;subst e;exact⟨_,.int i t⟩
  |str x=>obtain⟨t,rfl⟩:=rv;simp[eV] at e;subst e;exact⟨_,.str x t⟩
  |tup h r =>
   cases rv;simp only[eV,bf] at e;obtain⟨ps,e1,rfl⟩:=e;obtain⟨its,r',⟨o,ho,hc,m,hd⟩,_⟩:=I.tuple h;obtain⟨as,ra⟩:=ih _ _ _ _ r r' e1;exact⟨_,.tuple ho hc hd (by simpa using ra)⟩
  |@ref m a h =>
   cases rv;simp only[eV] at e;cases hm:S[m]? with
   |none=>rw[hm] at e;simp at e
   |some o =>
    rw[hm] at e;have hob:=hs.obj _ _ _ hm h;cases o with
    |lst ds =>
     simp only[bf] at e;obtain⟨ps,e1,rfl⟩:=e;obtain⟨vs,h1,r⟩:=hob;obtain⟨its,r',⟨o,m,ho,hc,hdd,hd⟩,_⟩:=I.list (d8.of (K:=X.K) h1);obtain⟨as,ra⟩:=ih _ _ _ _ r r' e1;exact⟨_,.list ho hc hd (by simpa using ra)⟩
    |frz ds =>
     simp only[bf] at e;obtain⟨ps,e1,rfl⟩:=e;obtain⟨vs,h1,r⟩:=hob;obtain⟨its,r',⟨o,m,ho,hc,hdd,hd⟩,_⟩:=I.list h1.sq;obtain⟨as,ra⟩:=ih _ _ _ _ r r' e1;exact⟨_,.list ho hc hd (by simpa using ra)⟩
    |ins C fs=>simp at e
    |dct xs=>simp at e
    |tbl x=>simp at e
  |ty n=>simp[eV] at e
  |adr a=>simp[eV] at e
  |obj _ _ _ _ _=>simp[eV] at e
noncomputable def mq(S:So)(x y:D):Option Bool:=(eV S 24 x).bind λp=>(eV S 24 y).bind λq=>if SeqAt.shaped p=true/\SeqAt.shaped q=true then some (PyData.eqv p q) else none
noncomputable def mX:D->Bool
 |.non=>true
 |_=>false
noncomputable def D.int?:D->Option Int
 |.int i=>some i
 |_=>none
def int?_eq{x:D}{i:Int}(h:x.int?=some i):x = .int i:=by cases x<;>cases h;rfl
noncomputable def D.bl?:D->Option Bool
 |.bl b=>some b
 |_=>none
def bl?_eq{x:D}{i:Bool}(h:x.bl?=some i):x = .bl i:=by cases x<;>cases h;rfl
noncomputable def nF(f:Int->Int->Bool):G2:=λx y S=>x.int?.bind λi=>y.int?.map λj=>(.bl (f i j),S)
noncomputable def Ho(f:Bool->Bool):G2:=λx y S=>match x.int?.bind λi=>y.int?.map λj=>decide (i=j) with
 |some b=>some (.bl (f b),S)
 |none=>(mq S x y).map λb=>(.bl (f b),S)
noncomputable def Hh(f:Bool->Bool):G2:=λx y S=>if mX y=true then some (.bl (f (mX x)),S) else x.bl?.bind λa=>y.bl?.map λb=>(.bl (f (a==b)),S)
noncomputable def bA:CmpOp->G2
 |.Lt=>nF λi j=>decide (i<j)
 |.LtE=>nF λi j=>decide (i<=j)
 |.Gt=>nF λi j=>decide (j<i)
 |.GtE=>nF λi j=>decide (j<=i)
 |.Eq=>Ho λb=>b
 |.NotEq=>Ho λb => !b
 |.Is=>Hh λb=>b
 |.IsNot=>Hh λb => !b
 |_=>λ_ _ _=>none
def Tj{K:FgA}{H:Hp}{α:List Addr}{x:D}{v:V}(r:Rep K H α x v):decide (v = .non)=mX x:=by cases r<;>simp[mX]
section
variable {X:Cx}
def zpp:fu X (compareOp .Eq) (oE λi j => .bl (decide (i=j))):=m9 λ_ _ _ _ _ _ _ q=>eq_int (by rw[Bool.beq_eq_decide_eq];exact q)
def zpl:fu X (compareOp .NotEq) (oE λi j => .bl (!decide (i=j))):=m9 λ_ _ _ _ _ _ _ q=>ne_int (by rw[bne,Bool.beq_eq_decide_eq];exact q)
theorem zpq{pz:List (Addr×Obj)}{s:Shared}{Z:L2.St}{H:Hp}{v u:V}{vv uu:Value}{Q:VK}{S:So}{α:List Addr}{x y:D}{b:Bool}(hu:X.A.units+64<cLine)(I:Inv X pz Z H s)(rv:RelV v vv)(ru:RelV u uu)(hs:aA X.K H α S)(rx:Rep X.K H α x v)(ry:Rep X.K H α y u)(hg:mq S x y=some b)(k:Q (.bl b) H):wpAny (model X.prog X.w) X.A (compareOp .Eq vv uu) (EP X pz Z Q) X.xe s:=by
 unfold mq at hg;simp only[bC] at hg;obtain⟨p,e1,q,e2,hg⟩:=hg;split at hg
 .rename_i hc;obtain⟨as,ra⟩:=Aq I hs 24 _ _ _ _ rx rv e1;obtain⟨bs,rb⟩:=Aq I hs 24 _ _ _ _ ry ru e2;cases hg;exact SeqAt.compareEq_shaped ra rb hc.1 hc.2 hu ⟨.bl _,H,I,rfl,k⟩
 .cases hg
theorem zpm{pz:List (Addr×Obj)}{s:Shared}{Z:L2.St}{H:Hp}{v u:V}{vv uu:Value}{Q:VK}{S:So}{α:List Addr}{x y:D}{b:Bool}(hu:X.A.units+64<cLine)(I:Inv X pz Z H s)(rv:RelV v vv)(ru:RelV u uu)(hs:aA X.K H α S)(rx:Rep X.K H α x v)(ry:Rep X.K H α y u)(hg:mq S x y=some b)(k:Q (.bl (!b)) H):wpAny (model X.prog X.w) X.A (compareOp .NotEq vv uu) (EP X pz Z Q) X.xe s:=by
 unfold mq at hg;simp only[bC] at hg;obtain⟨p,e1,q,e2,hg⟩:=hg;split at hg
 .rename_i hc;obtain⟨as,ra⟩:=Aq I hs 24 _ _ _ _ rx rv e1;obtain⟨bs,rb⟩:=Aq I hs 24 _ _ _ _ ry ru e2;cases hg;exact SeqAt.compareNe_shaped ra rb hc.1 hc.2 hu ⟨.bl _,H,I,rfl,k⟩
 .cases hg
def znd{x:D}(h:mX x=true):x = .non:=by cases x<;>first|rfl|cases h
theorem Fw{op:CmpOp}{f:Int->Int->Bool}(h:fu X (compareOp op) (oE λi j => .bl (f i j))):fu X (compareOp op) (mO X.K (nF f)):=by
 rintro pz s Z H v u vv uu Q I rv ru ⟨S,α,x,y,z,S',hs,rx,ry,hg,k⟩
 simp only[nF,bC,bf] at hg;obtain⟨i,e1,j,e2,hg⟩:=hg;cases hg;rw[int?_eq e1] at rx;rw[int?_eq e2] at ry;cases rx;cases ry;exact h pz s Z H _ _ _ _ Q I rv ru ⟨_,_,rfl,rfl,k.same hs (.bl _)⟩
theorem TY{op:CmpOp}{f:Bool->Bool}(h1:fu X (compareOp op) (oE λi j => .bl (f (decide (i=j)))))(h2:∀{pz:List (Addr×Obj)} {s:Shared} {Z:L2.St} {H:Hp} {v u:V} {vv uu:Value} {Q:VK} {S:So} {α:List Addr} {x y:D} {b:Bool},Inv X pz Z H s->RelV v vv->RelV u uu->aA X.K H α S->Rep X.K H α x v->Rep X.K H α y u->mq S x y=some b->Q (.bl (f b)) H->wpAny (model X.prog X.w) X.A (compareOp op vv uu) (EP X pz Z Q) X.xe s):fu X (compareOp op) (mO X.K (Ho f)):=by
 rintro pz s Z H v u vv uu Q I rv ru ⟨S,α,x,y,z,S',hs,rx,ry,hg,k⟩
 unfold Ho at hg;split at hg
 .rename_i b e;simp only[bC,bf] at e;obtain⟨i,e1,j,e2,rfl⟩:=e;cases hg;rw[int?_eq e1] at rx;rw[int?_eq e2] at ry;cases rx;cases ry;exact h1 pz s Z H _ _ _ _ Q I rv ru ⟨_,_,rfl,rfl,k.same hs (.bl _)⟩
 .obtain⟨b,e,hg⟩:=bf.mp hg;cases hg;exact h2 I rv ru hs rx ry e (k.same hs (.bl _))
theorem TX(hu:X.A.units+64<cLine):∀op:CmpOp,fu X (compareOp op) (mO X.K (bA op)):=by
 have is:∀{f:Bool->Bool} {x y z:D} {S S':So},Hh f x y S=some (z,S')->S'=S/\((y = .non/\z = .bl (f (mX x)))\/∃a b,x = .bl a/\y = .bl b/\z = .bl (f (a==b))):=λ{f x y z S S'} hg=>by
  unfold Hh at hg;split at hg
  .rename_i h;cases hg;exact⟨rfl,.inl ⟨znd h,rfl⟩⟩
  .simp only[bC,bf] at hg;obtain⟨a,e1,b,e2,hg⟩:=hg;cases hg;exact⟨rfl,.inr ⟨a,b,bl?_eq e1,bl?_eq e2,rfl⟩⟩
 intro op;cases op with
 |Lt=>exact Fw Z3
 |LtE=>exact Fw Z2
 |Gt=>exact Fw Z1
 |GtE=>exact Fw Z0
 |Eq=>exact TY (f:=λb=>b) zpp (zpq hu)
 |NotEq=>exact TY (f:=λb => !b) zpl (zpm hu)
 |Is =>
  rintro pz s Z H v u vv uu Q I rv ru ⟨S,α,x,y,z,S',hs,rx,ry,hg,k⟩
  obtain⟨rfl,⟨rfl,rfl⟩|⟨a,b,rfl,rfl,rfl⟩⟩:=is (f:=λb=>b) (x:=x) (y:=y) (z:=z) (S:=S) (S':=S') hg
  .cases ry;exact zrM pz s Z H _ _ _ _ Q I rv ru ⟨rfl,by rw[Tj rx];exact k.same hs (.bl _)⟩
  .cases rx;cases ry;cases rv;cases ru;exact is_bool (Ff I (k.same hs (.bl _)) rfl)
 |IsNot =>
  rintro pz s Z H v u vv uu Q I rv ru ⟨S,α,x,y,z,S',hs,rx,ry,hg,k⟩
  obtain⟨rfl,⟨rfl,rfl⟩|⟨a,b,rfl,rfl,rfl⟩⟩:=is (f:=λb => !b) (x:=x) (y:=y) (z:=z) (S:=S) (S':=S') hg
  .cases ry;refine zpu pz s Z H _ _ _ _ Q I rv ru ⟨rfl,?_⟩;rw[Tj rx];exact k.same hs (.bl _)
  .cases rx;cases ry;cases rv;cases ru;exact isnot_bool (Ff I (k.same hs (.bl _)) rfl)
 |In=>exact λ_ _ _ _ _ _ _ _ _ _ _ _ ⟨_,_,_,_,_,_,_,_,_,hg,_⟩=>nomatch hg
 |NotIn=>exact λ_ _ _ _ _ _ _ _ _ _ _ _ ⟨_,_,_,_,_,_,_,_,_,hg,_⟩=>nomatch hg
end
noncomputable def aG:G2
 |.tup xs,.int i,S=>(gq xs i).map λz=>(z,S)
 |.ref n,.int i,S=>match S[n]? with
  |some (.lst xs)=>(gq xs i).map λz=>(z,S)
  |some (.frz xs)=>(gq xs i).map λz=>(z,S)
  |_=>none
 |.str z,.int i,S=>if z.length<=sizeLine then(gq z.cps.toList i).map λc=>(.str ⟨#[c]⟩,S) else none
 |_,_,_=>none
theorem JG{K:FgA}{H:Hp}{α:List Addr}{ds:List D}{vs:List V}{i:Int}{z:D}(r:aK K H α ds vs)(h:gq ds i=some z):∃w,gq vs i=some w/\Rep K H α z w:=by
 unfold gq at h ⊢;rw[<-r.length];cases e:ud ds.length i with
 |none=>rw[e] at h;simp at h
 |some j =>
  rw[e] at h;exact r.get h
theorem ixs{X:Cx}:DQ X (mO X.K aG):=by
 intro value slice pz s Z H v u vv uu Q I rv ru h hsub;obtain⟨S,α,x,y,z,S',hs,rx,ry,hg,k⟩:=h;unfold aG at hg;split at hg
 .simp only[bf] at hg;obtain⟨b,e,hg⟩:=hg;cases hg;cases ry;cases rx with
  |tup h r =>
   obtain⟨w,e',fU⟩:=JG r e;exact zr4 value slice pz s Z H _ _ _ _ Q I rv ru ⟨_,_,_,_,rfl,rfl,h,e',k.same hs fU⟩ hsub
 .cases ry;cases rx with
  |ref h =>
   rename_i n i a;cases hm:S[n]? with
   |none=>rw[hm] at hg;simp at hg
   |some o =>
    rw[hm] at hg;have hob:=hs.obj _ _ _ hm h;cases o with
    |lst ds =>
     simp only[bf] at hg;obtain⟨b,e,hg⟩:=hg;cases hg;obtain⟨vs,h1,r⟩:=hob;obtain⟨w,e',fU⟩:=JG r e;exact R0 value slice pz s Z H _ _ _ _ Q I rv ru ⟨_,_,_,_,rfl,rfl,d8.of h1,e',k.same hs fU⟩ hsub
    |frz ds =>
     simp only[bf] at hg;obtain⟨b,e,hg⟩:=hg;cases hg;obtain⟨vs,h1,r⟩:=hob;obtain⟨w,e',fU⟩:=JG r e;exact R0 value slice pz s Z H _ _ _ _ Q I rv ru ⟨_,_,_,_,rfl,rfl,h1.sq,e',k.same hs fU⟩ hsub
    |ins C fs=>simp at hg
    |dct xs=>simp at hg
    |tbl x=>simp at hg
 .split at hg
  .rename_i hl;simp only[bf] at hg;obtain⟨b,e,hg⟩:=hg;cases hg;cases rx;cases ry;exact zr5 value slice pz s Z H _ _ _ _ Q I rv ru ⟨_,_,_,rfl,rfl,hl,e,k.same hs (.str _)⟩ hsub
  .cases hg
 .cases hg
end MX
end
section
namespace MX
open PySem PySem.Spec PyProof.Rows L2
theorem FZ(names:List (Str×NameKind)):∀(n:Nat) (acc:List (Str×Addr)),cellsFrom n names acc=cellsFrom n names []++acc:=by
 induction names with
 |nil=>intro n acc;simp[cellsFrom]
 |cons p r ih =>
  intro n acc;obtain⟨x,k⟩:=p;unfold cellsFrom;split
  .rw[ih,ih _ [(x,n)],dI];rfl
  .exact ih n acc
theorem Fb{names:List (Str×NameKind)}:∀{n:Nat} {x:Str} {c:Addr},(x,c)∈cellsFrom n names []->n<=c/\(x,NameKind.cell)∈names:=by
 induction names with
 |nil=>intro n x c h;simp[cellsFrom] at h
 |cons p r ih =>
  intro n x c h;obtain⟨y,k⟩:=p;unfold cellsFrom at h;split at h
  .rename_i hk;rw[FZ,lq] at h;rcases h with h|h
   .have:=ih h;exact⟨by omega,cU _ this.2⟩
   .have e:(x,c)=(y,n):=by simpa using h
    cases e;have:k=NameKind.cell:=by simpa using hk
    subst this;exact⟨bH _,eZ⟩
  .have:=ih h;exact⟨this.1,cU _ this.2⟩
theorem GZ{α:Type}(x:Str):∀(l r:List (Str×α)),(l++r).lookup x=(l.lookup x).or (r.lookup x)
 |[],r=>by simp
 | (k,v)::l,r=>by
   rw[List.cons_append,jH,jH];cases x==k with
   |true=>rfl
   |false=>exact GZ x l r
theorem K1{names:List (Str×NameKind)}{n:Nat}{acc:List (Str×Addr)}{x:Str}{c:Addr}(h:(cellsFrom n names acc).lookup x=some c):
 ((cellsFrom n names []).lookup x=some c)\/((cellsFrom n names []).lookup x=none/\acc.lookup x=some c):=by
 rw[FZ,GZ] at h;cases e:(cellsFrom n names []).lookup x with
 |some d=>rw[e] at h;exact .inl h
 |none=>rw[e] at h;exact .inr ⟨rfl,h⟩
theorem JT{env:Env}(f:Str×NameKind->List (Str×Addr)->Sem (ForInStep (List (Str×Addr))))(hf:∀name kind cs,f (name,kind) cs=if(kind==NameKind.free)=true then(do let a <-cellOf env name;pure (.yield ((name,a)::cs))) else pure (.yield cs)):
 ∀(names:List (Str×NameKind)) (acc:List (Str×Addr)),(∀y∈names,y.2 = .free->∃c,env.cells.lookup y.1=some c)->∃cl,forIn names acc f=pure cl /\
  (∀x c,cl.lookup x=some c->acc.lookup x=some c\/((x,NameKind.free)∈names/\env.cells.lookup x=some c))/\∀x,((x,NameKind.free)∈names\/∃c,acc.lookup x=some c)->∃c,cl.lookup x=some c
 |[],acc,_=>⟨acc,by rw[List.forIn_nil],λx c h => .inl h,λx h=>by
  rcases h with h|h
  .cases h
  .exact h⟩
 | (y,k)::r,acc,h=>by
   by_cases hk:k=NameKind.free
   .subst hk;obtain⟨c,hc⟩:=h (y,.free) eZ rfl;obtain⟨cl,e,h1,h2⟩:=JT f hf r ((y,c)::acc) λz hz=>h z (cU _ hz);refine⟨cl,?_,λx d hx=>?_,λx hx=>h2 x ?_⟩
    .rw[List.forIn_cons,hf];have e1:cellOf env y=pure c:=by unfold cellOf;rw[hc]
     simp only[beq_self_eq_true,if_true,e1,pure_bind];exact e
    .rcases h1 x d hx with q|⟨q1,q2⟩
     .rw[jH] at q;cases hb:x==y with
      |true =>
       rw[hb] at q;cases q;obtain rfl:x=y:=by simpa using hb
       exact .inr ⟨eZ,hc⟩
      |false=>rw[hb] at q;exact .inl q
     .exact .inr ⟨cU _ q1,q2⟩
    .rcases hx with hx|⟨d,hx⟩
     .rcases List.mem_cons.mp hx with q|q
      .cases q;exact .inr ⟨c,by simp⟩
      .exact .inl q
     .cases hb:x==y with
      |true=>exact .inr ⟨c,by rw[jH,hb]⟩
      |false=>exact .inr ⟨d,by rw[jH,hb];exact hx⟩
   .have hb:(k==NameKind.free)=false:=by simpa using hk
    obtain⟨cl,e,h1,h2⟩:=JT f hf r acc λz hz=>h z (cU _ hz);refine⟨cl,?_,λx d hx=>?_,λx hx=>h2 x ?_⟩
    .rw[List.forIn_cons,hf,hb];simp only[Bool.false_eq_true,if_false,pure_bind];exact e
    .rcases h1 x d hx with q|⟨q1,q2⟩
     .exact .inl q
     .exact .inr ⟨cU _ q1,q2⟩
    .rcases hx with hx|hx
     .rcases List.mem_cons.mp hx with q|q
      .cases q;exact absurd rfl hk
      .exact .inl q
     .exact .inr hx
theorem zqe{scope:Scope}{env:Env}(h:∀y∈scope.names,y.2 = .free->∃c,env.cells.lookup y.1=some c):∃cl,closureFor scope env=pure cl /\
 (∀x c,cl.lookup x=some c->(x,NameKind.free)∈scope.names/\env.cells.lookup x=some c)/\∀x,(x,NameKind.free)∈scope.names->∃c,cl.lookup x=some c:=by
 obtain⟨cl,e,h1,h2⟩:=JT (env:=env) (λx cs=>if(x.2==NameKind.free)=true then(do let a <-cellOf env x.1;pure (.yield ((x.1,a)::cs))) else pure (.yield cs)) (λ_ _ _=>rfl) scope.names [] h;refine⟨cl,?_,λx c q=>?_,λx q=>h2 x (.inl q)⟩
 .unfold closureFor;show(forIn scope.names [] _ >>= λcs=>pure cs)=_;rw[show(forIn scope.names ([]:List (Str×Addr)) _:Sem (List (Str×Addr)))=_ from e];rfl
 .rcases h1 x c q with z|z
  .simp at z
  .exact z
theorem Mv{env:Env}:∀{names:List (Str×NameKind)} {x:Str},
 (names.map λ(n,k)=>if(k==NameKind.free&&env.scope.kind == .function&&env.kindOf n==some .cell) then(n,NameKind.cell) else(n,k)).lookup x =
  (names.lookup x).map λk=>if(k==NameKind.free&&env.scope.kind == .function&&env.kindOf x==some .cell) then NameKind.cell else k
 |[],_=>rfl
 | (n,k)::r,x=>by
   have ih:=@Mv env r x;show List.lookup x ((if(k==NameKind.free&&env.scope.kind == .function&&env.kindOf n==some .cell)=true then(n,NameKind.cell) else(n,k))::_)=_;cases hx:x==n with
   |true =>
    obtain rfl:x=n:=by simpa using hx
    by_cases hc:(k==NameKind.free&&env.scope.kind == .function&&env.kindOf x==some .cell)=true
    .rw[if_pos hc];simp only[jH,hx,uK,if_pos hc]
    .rw[if_neg hc];simp only[jH,hx,uK,if_neg hc]
   |false =>
    by_cases hc:(k==NameKind.free&&env.scope.kind == .function&&env.kindOf n==some .cell)=true
    .rw[if_pos hc];simp only[jH,hx];exact ih
    .rw[if_neg hc];simp only[jH,hx];exact ih
theorem zjC{M:Model}{A:Around}{E:Value->Shared->Prop}{s:Shared}{scope:Scope}{globals:Addr}{cl:List (Str×Addr)}{qual:Str}{env:Env}{Q:Env->Shared->Prop}(h:Q { scope:=scope,locals:=s.heap.objs.size,globals:=globals,cells:=cellsFrom (s.heap.objs.size+1) scope.names cl,qual:=qual,func:=none,code:=env.code,frame:=env.frame,builtins:=env.builtins }
  { s with heap:=pushCells (s.heap.push { cls := .type "dict",data := .dict #[] }) scope.names }):
 wpAny M A (newFunctionEnv scope globals cl [] qual none .none (some env)) Q E s:=by
 simp only[newFunctionEnv,Option.isSome_some,if_true];refine aP (wpAny_alloc ?_);refine aP (wpAny_layCells _ (λname kind cells=>by cases hkc:kind==NameKind.cell<;>simp[hkc]) _ _ _ _ ?_);rw[show({ s with heap:=s.heap.push { cls := .type "dict",data := .dict #[] } }:Shared).heap.objs.size=s.heap.objs.size+1 from Heap.size_push ..];rw[List.forIn_nil];exact aP (bW (bW h))
structure qP(X:Cx)(scope:Scope)(N':List Str)(src:List (Option Nat)):Prop where
 kind:scope.kind = .function
 uniq:∀y∈scope.names,scope.names.lookup y.1=some y.2
 free:∀y∈scope.names,y.2 = .free->(X.env.kindOf y.1=some .cell\/X.env.kindOf y.1=some .free)
 len:src.length=N'.length
 src:∀(j i:Nat) x,N'[j]?=some x->src[j]?=some (some i)->X.N[i]?=some x/\scope.names.lookup x=some .free
noncomputable def mR(src:List (Option Nat))(Z:L2.St):L2.St:=src.map λo=>o.bind λi=>(Z[i]?).join
noncomputable def qQ(X:Cx)(scope:Scope)(N':List Str)(cl:List (Str×Addr))(s₂:Shared)(H₂:Hp)(fp:List Addr):Cx where
 prog:=X.prog
 w:=X.w
 K:=X.K
 mg:=X.mg
 base:=X.base
 A:=X.A
 N:=N'
 s₀:=s₂
 H₀:=H₂
 env:={ scope:=relabel scope X.env,locals:=s₂.heap.objs.size+1,globals:=X.env.globals,cells:=cellsFrom (s₂.heap.objs.size+1+1) scope.names cl,qual:=X.env.qual,func:=none,code:=X.env.code,frame:=X.env.frame,builtins:=X.env.builtins }
 outer:=X.stack
 stack:=X.stack
 ex:=fp
 fn:=λx=>decide (scope.names.lookup x=some .cell)
 calm:=X.calm
 pn:=[]
 xe:=λ_ _=>False
structure oV(X:Cx)(scope:Scope)(N':List Str)(Y:Cx):Prop where
 prog:Y.prog=X.prog
 w:Y.w=X.w
 K:Y.K=X.K
 mg:Y.mg=X.mg
 base:Y.base=X.base
 A:Y.A=X.A
 N:Y.N=N'
 sc:Y.env.scope=relabel scope X.env
 calm:Y.calm=X.calm
 fn:∀x,scope.names.lookup x=some .cell->Y.fn x=true
section
variable {X:Cx}{pz:List (Addr×Obj)}{Z:L2.St}{H:Hp}{s:Shared}{scope:Scope}{N':List Str}{src:List (Option Nat)}{cl:List (Str×Addr)}{fp:List Addr}
def zlu:oV X scope N' (qQ X scope N' cl s H fp):=⟨rfl,rfl,rfl,rfl,rfl,rfl,rfl,rfl,rfl,λx h=>decide_eq_true h⟩
theorem zne(I:Inv X pz Z H s)(hf:∀b∈fp,kE X pz H b)(hfe:∀b∈fp,∃o,s.heap.get? b=some o)(ok:qP X scope N' src)(h1:∀x c,cl.lookup x=some c->(x,NameKind.free)∈scope.names/\X.env.cells.lookup x=some c)(h2:∀x,(x,NameKind.free)∈scope.names->∃c,cl.lookup x=some c){l:Obj}:
 Inv (qQ X scope N' cl s H fp) [] (mR src Z) H { s with heap:=pushCells ((s.heap.push l).push { cls := .type "dict",data := .dict #[] }) scope.names }:=by
 have hC:((s.heap.push l).objs.size)=s.heap.objs.size+1:=Heap.size_push ..;have keep:∀b o,s.heap.get? b=some o->(pushCells ((s.heap.push l).push { cls := .type "dict",data := .dict #[] }) scope.names).get? b=some o:=λb o e =>
  pushCells_keeps _ _ b o (dF _ (dF _ e))
 have O8:=cellsFrom_ok scope.names ((s.heap.push l).push { cls := .type "dict",data := .dict #[] }) (s.heap.objs.size+1+1) [] ⟨λ_ _ hm=>(nomatch hm),List.Pairwise.nil⟩ (by rw[Heap.size_push,hC];exact bH _);rw[Heap.size_push,hC] at O8;have cells:∀x c,(qQ X scope N' cl s H fp).env.cells.lookup x=some c->((cellsFrom (s.heap.objs.size+1+1) scope.names []).lookup x=some c/\s.heap.objs.size+1+1<=c/\(x,NameKind.cell)∈scope.names)\/(X.env.cells.lookup x=some c/\(x,NameKind.free)∈scope.names):=λx c e=>by
  rcases K1 e with z|⟨_,z⟩
  .have:=Fb (iK z);exact .inl ⟨z,this.1,this.2⟩
  .exact .inr ⟨(h1 x c z).2,(h1 x c z).1⟩
 have Cp:∀x c,X.env.cells.lookup x=some c->c<s.heap.objs.size:=λx c e=>by obtain⟨v,q⟩:=I.cell x c e;exact q.lt
 have rel:∀x,(qQ X scope N' cl s H fp).env.kindOf x=(scope.names.lookup x).map λk=>if(k==NameKind.free&&X.env.scope.kind == .function&&X.env.kindOf x==some .cell) then NameKind.cell else k:=λx=>Mv
 have wR:∀b∈fp,b<s.heap.objs.size:=λb hb=>by obtain⟨o,e⟩:=hfe b hb;exact cM e
 have cap:∀x y c,(qQ X scope N' cl s H fp).env.cells.lookup x=some c->(qQ X scope N' cl s H fp).env.cells.lookup y=some c->x=y:=λx y c ex ey=>by
  rcases cells x c ex with⟨z1,l1,m1⟩|⟨z1,m1⟩<;>rcases cells y c ey with⟨z2,l2,m2⟩|⟨z2,m2⟩
  .exact name_of_addr O8.apart (iK z1) (iK z2)
  .exact absurd (dU (Cp y c z2) (Nat.le_trans (Nat.le_add_right _ 2) l1)) (gM _)
  .exact absurd (dU (Cp x c z1) (Nat.le_trans (Nat.le_add_right _ 2) l2)) (gM _)
  .exact I.ok.inj x y c z1 z2
 have Df:(pushCells ((s.heap.push l).push { cls := .type "dict",data := .dict #[] }) scope.names).Ns (s.heap.objs.size+1) (λ_=>none):=by have q:((s.heap.push l).push { cls := .type "dict",data := .dict #[] }).Ns (s.heap.push l).objs.size (λ_=>none):=Heap.Ns.new (s.heap.push l) (.type "dict");rw[hC] at q;exact q.keeps (pushCells_keeps _ _)
 refine⟨⟨I.ok.mod,ok.kind,I.ok.glob,I.ok.blt,Nat.le_succ _,cap,λx hx=>?_,λx c hx e=>?_,I.ok.hd,I.ok.frames,.inl rfl,λb hb=>?_,I.bs,Nat.le_trans I.ok.bsz I.sz,λb o e hb=>?_,λb hb=>?_,I.stack,I.stkFree⟩,
  rfl,I.bare,Un.kept keep,⟨_,Df,λi x v e1 e2 e3=>?_⟩,λx c e=>?_,I.hok.fresh (Nat.le_succ _),λx c e=>?_,λp hp=>absurd (show p∈([]:List (Addr×Obj)) from hp) (by simp),I.hok.kept keep,?_⟩
 .-- has
  rw[rel] at hx;have hk:scope.names.lookup x=some .cell\/scope.names.lookup x=some .free:=by
   cases q:scope.names.lookup x with
   |none=>rw[q] at hx;simp at hx
   |some k =>
    rw[q] at hx;simp only[uK,Option.some.injEq] at hx;by_cases hk:k = .free
    .exact .inr (by rw[hk])
    .have hb:(k==NameKind.free)=false:=by simpa using hk
     simp only[hb,Bool.false_and,Bool.false_eq_true,if_false] at hx;rcases hx with hx|hx
     .exact .inl (by rw[hx])
     .exact absurd hx hk
  show ∃c,(cellsFrom (s.heap.objs.size+1+1) scope.names cl).lookup x=some c;rw[FZ,GZ];rcases hk with hk|hk
  .obtain⟨c,hc⟩:=Option.isSome_iff_exists.mp (PySem.W.cellsFrom_some scope.names (s.heap.objs.size+1+1) [] (.inl hk));exact⟨c,by rw[hc];rfl⟩
  .obtain⟨c,hc⟩:=h2 x (iK hk);cases q:(cellsFrom (s.heap.objs.size+1+1) scope.names []).lookup x with
   |some d=>exact⟨d,rfl⟩
   |none=>exact⟨c,hc⟩
 .-- cab
  have hx':scope.names.lookup x=some .cell:=of_decide_eq_true hx;rcases cells x c e with⟨_,l1,_⟩|⟨_,m1⟩
  .show s.heap.objs.size<=c;omega
  .rw[ok.uniq _ m1] at hx';cases hx'
 .-- exf
  refine⟨?_,λx c e z=>?_⟩
  .exact dN (Nat.lt_succ_of_lt (wR b hb))
  .subst z;rcases cells x c e with⟨_,l1,_⟩|⟨z1,_⟩
   .exact absurd (dU (wR c hb) (Nat.le_trans (Nat.le_add_right _ 2) l1)) (gM _)
   .exact(hf c hb).2.2.2.2.1 x c z1 rfl
 .-- noex
  obtain⟨_,_,_,q,_⟩:=hf b hb;rcases q with q|q
  .exact I.ok.noex b o e q
  .exact absurd (dU (dU (cM e) I.ok.bsz) q) (gM _)
 .-- exfs
  intro z;obtain⟨_,f1,f2,_⟩:=hf b hb;exact(List.mem_cons.mp (I.stkSub b z)).elim f1 f2
 .-- loc
  have e1':N'[i]?=some x:=e1;obtain⟨j,hj,hv⟩:∃j,src[i]?=some (some j)/\Z[j]?=some (some v):=by
   unfold mR at e2;rw[fW] at e2;cases q:src[i]? with
   |none=>rw[q] at e2;simp at e2
   |some o =>
    rw[q] at e2;cases o with
    |none=>simp at e2
    |some j =>
     refine⟨j,rfl,?_⟩;simp only[uK,cu,Option.some.injEq] at e2;cases q2:Z[j]? with
     |none=>rw[q2] at e2;simp at e2
     |some o2=>rw[q2] at e2;simp at e2;rw[e2]
  obtain⟨hN,hfr⟩:=ok.src i j x e1' hj;have hm:=iK hfr;have hk:=ok.free _ hm rfl;obtain⟨m,hn,hl⟩:=I.loc;obtain⟨u,ru,lk⟩:=hl j x v hN hv (by rcases hk with hk|hk;exact .inr (.inl hk);exact .inr (.inr hk));refine⟨u,ru,.inr ⟨?_,?_⟩⟩
  .rw[rel,hfr];simp only[uK];split
   .exact .inl rfl
   .exact .inr rfl
  .rcases lk with⟨q,_⟩|⟨_,c,hc,hcell⟩
   .rcases hk with hk|hk<;>(rw[q] at hk;cases hk)
   .refine⟨c,?_,hcell.keeps keep⟩;show(cellsFrom (s.heap.objs.size+1+1) scope.names cl).lookup x=some c;rw[FZ,GZ];have hnone:(cellsFrom (s.heap.objs.size+1+1) scope.names []).lookup x=none:=by
     cases q:(cellsFrom (s.heap.objs.size+1+1) scope.names []).lookup x with
     |none=>rfl
     |some d =>
      have:=ok.uniq _ (Fb (iK q)).2;rw[hfr] at this;cases this
    rw[hnone];obtain⟨c',hc'⟩:=h2 x hm;have:=(h1 x c' hc').2;rw[hc] at this;cases this;exact hc'
 .-- cell
  rcases cells x c e with⟨z1,_,_⟩|⟨z1,_⟩
  .exact⟨none,(O8.empty x c (iK z1)).1⟩
  .obtain⟨v,q⟩:=I.cell x c z1;exact⟨v,q.keeps keep⟩
 .-- freeC
  rcases cells x c e with⟨_,l1,_⟩|⟨z1,_⟩
  .exact I.hok.fresh (by omega)
  .exact I.freeC x c z1
 .-- len
  show(mR src Z).length=N'.length;unfold mR;rw[cY];exact ok.len
end
theorem ziL{prog:Program}{w:World}{A:Around}{R:Result->Shared->Prop}{s:Shared}{elt target iter:Expr}{ifs:List Expr}{scope:Scope}{pos:Pos}{it acc:Value}{env:Env}(I:Nat->Shared->Prop)(turn:∀n s,I n s->wpAny (model prog w) A (pyNext it) (λr s₁=>match r with
  |none=>R (.ok .next) s₁
  |some v=>wpAny (model prog w) A (letOwnedTupleGo target it v) (λ_ s₀=>wpAny (model prog w) A (assign target env v) (λ_ s₂ =>
   wpAny (model prog w) A (forIn ifs true λc r=>if r=true then do let ok <-isTrue c env (eval c env);pure (ForInStep.yield ok) else pure (ForInStep.yield r)) (λok s₃ =>
    if ok=true then wpAny (model prog w) A (eval elt env) (λx s₄ =>
     wpAny (model prog w) A (call (.builtin "list.append") [acc,x]) (λ_ s₅=>∃m,m<n/\I m s₅) (λ_ _=>False) s₄) (λ_ _=>False) s₃
    else ∃m,m<n/\I m s₃) (λ_ _=>False) s₂) (λ_ _=>False) s₀) (λ_ _=>False) s₁) (λ_ _=>False) s)(n:Nat)(h:I n s):
 codeAny (model prog w) A (.compLoop (.ListComp elt [⟨target,iter,ifs,0⟩] scope pos) 0 it acc env) R s:=by
 refine codeAny_loop rfl I (λn s hI=>?_) n h;show wpAny _ A ((compTurn (.ListComp elt [⟨target,iter,ifs,0⟩] scope pos) 0 it acc env).onRaise (λx=>do noteFrame x env;theTreesLotGoes x)) _ _ s;refine wpAny_noted ?_;rw[compTurn_list];refine aP (wpAny_standAt (aP (kh (turn n s hI) (λr s₁ h₁=>?_) λ_ _ h'=>h'.elim)));cases r with
 |none=>exact bW h₁
 |some v =>
  refine aP (kh h₁ (λ_ s₀ h₀=>?_) λ_ _ h'=>h'.elim);refine aP (kh h₀ (λ_ s₂ h₂=>aP (kh h₂ (λok s₃ h₃=>?_) λ_ _ h'=>h'.elim)) λ_ _ h'=>h'.elim);cases ok with
  |false=>exact bW ⟨rfl,h₃⟩
  |true =>
   exact aP (aP (kh h₃ (λx s₄ h₄=>aP (kh h₄ (λ_ s₅ h₅=>bW (bW ⟨rfl,h₅⟩)) λ_ _ h'=>h'.elim)) λ_ _ h'=>h'.elim))
noncomputable def xN(X:Cx)(ifs:List Expr)(t:TT):Prop :=
 ∀(pz:List (Addr×Obj)) (s:Shared) (Z:L2.St) (H:Hp) (Q:Bool->Hp->Prop),Inv X pz Z H s->t Z H Q ->
  wpAny (model X.prog X.w) X.A (forIn ifs true λc r=>if r=true then do let ok <-isTrue c X.env (eval c X.env);pure (ForInStep.yield ok) else pure (ForInStep.yield r)) (TP X pz Z Q) X.xe s
def zoW{X:Cx}:xN X [] (λ_ H Q=>Q true H):=λ_ _ _ H _ I h=>wpAny_tests_nil ⟨H,I,h⟩
def zoV{X:Cx}{c:Expr}{t:TT}(h:PT X c t):xN X [c] t:=λpz s Z H Q I q=>wpAny_tests_one (h pz s Z H Q I q)
noncomputable def Hw(J:It)(g:TG)(tt:TT)(te:TE)(Fin:List V->Hp->Prop)(W:Nat->Nat->List V->L2.St->Hp->Prop):Prop :=
 ∀i m ys τ H,W i m ys τ H->(J.stop i H/\Fin ys H)\/(J.go i H/\ys.length<sizeLine/\∀x H',J.yld i H x H'->g x τ H' λτ2 H2=>tt τ2 H2 λb H3 =>
  if b=true then te τ2 H3 λy H4=>∃m',m'<m/\W (i+1) m' (ys++[y]) τ2 H4 else ∃m',m'<m/\W (i+1) m' ys τ2 H3)
theorem gF.track{P:Program}{w:World}{H:Hp}{h:Heap}{a:Addr}{o:HO}(x:gF P w H h)(hn:H a=none)(new:bT P w (upd H a o) h a o):gF P w (upd H a o) h:=λb u e=>by
 by_cases hb:b=a
 .subst hb;rw[fP] at e;cases e;exact new
 .rw[cD hb] at e;exact(x b u e).stay (λc v _ q=>q) (λc q=>by rw[cD (gU q hn)];exact q) λc xs q=>by rw[cD (gU q hn)];exact q
theorem Un.track{fs ex:List Addr}{H H':Hp}{h h':Heap}{a:Addr}{o:HO}(u:Un fs ex H H' h h')(hn:H' a=none)(ha:h.get? a=none):Un fs ex H (upd H' a o) h h' where
 keep:=u.keep
 slot:=u.slot
 free:=λb ob q n hx=>by rw[cD (λz=>by rw[z,ha] at q;cases q)];exact u.free b ob q n hx
 there:=u.there
 tups:=λb xs q=>by rw[cD (gU (u.tups b xs q) hn)];exact u.tups b xs q
 frzs:=λb ob xs q=>by rw[cD (gU (u.frzs b ob xs q) hn)];exact u.frzs b ob xs q
 tbls:=λb ps q=>by obtain⟨m,e⟩:=u.tbls b ps q;exact⟨m,by rw[cD (gU e hn)];exact e⟩
theorem VF{X:Cx}{pz:List (Addr×Obj)}{Z:L2.St}{H:Hp}{s:Shared}{scope:Scope}{N':List Str}{src:List (Option Nat)}{cl:List (Str×Addr)}{fp:List Addr}{elt tg iter:Expr}{ifs:List Expr}{pos:Pos}{J:It}{it:Addr}{tn:Nat->Heap->Prop}{g:TG}{tt:TT}{te:TE}{Fin:List V->Hp->Prop}{W:Nat->Nat->List V->L2.St->Hp->Prop}{RR:Value->Addr->Result->Shared->Prop}{E:Value->Shared->Prop}(hc:X.calm=true)(ok:qP X scope N' src)(I:Inv X pz Z H s)(T:uZ X.prog X.w X.K tg J fp it tn)(st:tn 0 s.heap)(hf:∀b∈fp,kE X pz H b)(h1:∀x c,cl.lookup x=some c->(x,NameKind.free)∈scope.names/\X.env.cells.lookup x=some c)(h2:∀x,(x,NameKind.free)∈scope.names->∃c,cl.lookup x=some c)(hY:∀Y,oV X scope N' Y->PG Y tg g/\xN Y ifs tt/\PE Y elt te)(w0:∃m,W 0 m [] (mR src Z) H)(turn:Hw J g tt te Fin W)(hRR:∀ys H' s' oC m,H' s.heap.objs.size=none->LCg.NsObj oC m->Inv X (pz++[(s.heap.objs.size+1,oC)]) Z (upd H' s.heap.objs.size (.lst ys)) s'->Fin ys H'->RR (.ref s.heap.objs.size) (s.heap.objs.size+1) (.ok .next) s'):
 wpAny (model X.prog X.w) X.A (newList []) (λacc s₃=>wpAny (model X.prog X.w) X.A (newFunctionEnv scope X.env.globals cl [] X.env.qual none .none (some X.env)) (λcenv s₄ =>
  codeAny (model X.prog X.w) X.A (.compStart (.ListComp elt [⟨tg,iter,ifs,0⟩] scope pos) 0 (.ref it) acc { cenv with scope:=relabel scope X.env }) (RR acc cenv.locals) s₄) E s₃) E s:=by
 have hfe:∀b∈fp,∃o,s.heap.get? b=some o:=λb hb=>by obtain⟨o,e,_⟩:=T.obj _ _ st b hb;exact⟨o,e⟩
 refine wpAny_newObj_type (zjC ?_);have hC:(s.heap.push { cls := .type "list",dict:=none,data := .seq ([]:List Value).toArray }).objs.size=s.heap.objs.size+1:=Heap.size_push ..;dsimp only;rw[hC];have I0:Inv (qQ X scope N' cl s H fp) [] (mR src Z) H { s with heap:=pushCells ((s.heap.push { cls := .type "list",dict:=none,data := .seq ([]:List Value).toArray }).push { cls := .type "dict",data := .dict #[] }) scope.names } :=
  zne I hf hfe ok h1 h2
 have wk:oV X scope N' (qQ X scope N' cl s H fp):=zlu;obtain⟨hg,ht,he⟩:=hY _ wk;generalize wG:qQ X scope N' cl s H fp=Y at I0 wk hg ht he;have eP:Y.prog=X.prog:=wk.prog;have ew:Y.w=X.w:=wk.w;have eA:Y.A=X.A:=wk.A;have eK:Y.K=X.K:=wk.K;have um:Y.calm=true:=wk.calm.trans hc;have rY:Y.env={ scope:=relabel scope X.env,locals:=s.heap.objs.size+1,globals:=X.env.globals,cells:=cellsFrom (s.heap.objs.size+1+1) scope.names cl,qual:=X.env.qual,func:=none,code:=X.env.code,frame:=X.env.frame,builtins:=X.env.builtins }:=by rw[<-wG];rfl
 have exe:Y.xe=λ_ _=>False:=by rw[<-wG];rfl
 have Hq:Y.fs=frs X.stack:=by rw[<-wG];rfl
 have Zd:Y.ex=fp:=by rw[<-wG];rfl
 have Qm:Y.s₀=s:=by rw[<-wG];rfl
 have eH0:Y.H₀=H:=by rw[<-wG];rfl
 have Qn:Y.pn=[]:=by rw[<-wG];rfl
 have eL:Y.env.locals=s.heap.objs.size+1:=by rw[rY]
 rw[<-rY];have wR:∀b∈fp,b<s.heap.objs.size:=λb hb=>by obtain⟨o,e⟩:=hfe b hb;exact cM e
 have hD:∀(τ:L2.St) (H':Hp) (s':Shared) (pn:List (Addr×Obj)),Inv Y pn τ H' s'->∀x c,Y.env.cells.lookup x=some c->c≠s.heap.objs.size:=λτ H' s' pn J' x c e z=>by
  have e':=e;rw[rY] at e';rcases K1 e' with q|⟨_,q⟩
  .have:=(Fb (iK q)).1;rw[z] at this;exact absurd (dU (Nat.lt_succ_self _) (Nat.le_trans (Nat.le_succ _) this)) (gM _)
  .obtain⟨v,q'⟩:=I.cell x c (h1 x c q).2;have:=q'.lt;rw[z] at this;exact absurd this (gM _)
 have stat:∀{H':Hp} {pn:List (Addr×Obj)},(∀b∈fp,H' b=none)->(∀p∈pn,p.1=s.heap.objs.size)->∀b∈fp,kE Y pn H' b:=λ{H' pn} hn hp b hb=>by
  refine⟨hn b hb,?_,?_,.inl (by rw[Zd];exact hb),λx c e z=>?_,λp hm z=>?_⟩
  .rw[eL];exact dN (Nat.lt_succ_of_lt (wR b hb))
  .rw[Hq];intro z;exact(List.mem_cons.mp (I.stkSub b z)).elim (hf b hb).2.1 (hf b hb).2.2.1
  .subst z;rw[rY] at e;rcases K1 e with q|⟨_,q⟩
   .have:=(Fb (iK q)).1;exact absurd (dU (wR c hb) (Nat.le_trans (Nat.le_add_right _ 2) this)) (gM _)
   .exact(hf c hb).2.2.2.2.1 x c (h1 x c q).2 rfl
  .rw[Qn,sI] at hm;have e1:=hp p hm;rw[e1] at z;have:=wR b hb;rw[<-z] at this;exact absurd this (gM _)
 obtain⟨m0,w0⟩:=w0;have loop:∀s₃:Shared,s₃={ s with heap:=pushCells ((s.heap.push { cls := .type "list",dict:=none,data := .seq ([]:List Value).toArray }).push { cls := .type "dict",data := .dict #[] }) scope.names } ->
  codeAny (model X.prog X.w) X.A (.compLoop (.ListComp elt [⟨tg,iter,ifs,0⟩] scope pos) 0 (.ref it) (.ref s.heap.objs.size) Y.env) (RR (.ref s.heap.objs.size) (s.heap.objs.size+1)) s₃:=by
  rintro s₃ rfl
  refine ziL (λn s'=>∃i ys τ H' its k,Inv Y [(s.heap.objs.size,{ cls := .type "list",data := .seq (List.toArray its) k })] τ H' s'/\Vals ys its/\ys.length<=sizeLine/\tn i s'.heap/\(∀b∈fp,H' b=none)/\W i n ys τ H') ?_ m0 ?_
  .rintro n s3 ⟨i,ys,τ,H3,its,k,I3,rv,hlen,st3,Hj,w3⟩
   have Y9:=stat Hj (pn:=[(s.heap.objs.size,{ cls := .type "list",data := .seq (List.toArray its) k })]) (by simp);rcases turn i n ys τ H3 w3 with⟨stop,fin⟩|⟨go,hlt,step⟩
   .have q:=T.done Y eP ew eK um i _ s3 τ H3 (λ_ _=>False) I3 Y9 st3 stop;rw[eA] at q;refine bQ q λr s4 ⟨hr,I4⟩=>?_;subst hr;obtain⟨oD,nD,_⟩:=I4.pin (s.heap.objs.size,{ cls := .type "list",data := .seq (List.toArray its) k }) (by rw[Qn];simp);obtain⟨m,hn,_⟩:=I4.loc;rw[eL] at hn;obtain⟨oC,heC,hoC⟩:=LCg.ns_obj hn;have un:=I4.base;rw[Hq,Zd,eH0,Qm] at un;have hfresh:s.heap.get? s.heap.objs.size=none:=by
     cases q:s.heap.get? s.heap.objs.size with
     |none=>rfl
     |some o=>exact absurd (cM q) (gM _)
    have hok:=I4.hok;rw[eP,ew] at hok;have hCn:H3 (s.heap.objs.size+1)=none:=by have:=I4.free;rw[eL] at this;exact this
    have I5:Inv X pz Z (upd H3 s.heap.objs.size (.lst ys)) s4:=by refine I.call' (ch:=fp) (by have:=I4.os;rw[Qm] at this;exact this) (Un.track un nD hfresh) (gF.track hok nD ⟨hlen,its,k,rv,oD⟩) I4.bare λb hb=>?_;exact⟨(hf b hb).2.2.2.1,(hf b hb).2.1,(hf b hb).2.2.2.2.1,(hf b hb).2.2.2.2.2⟩
    refine hRR ys H3 s4 oC m nD hoC ?_ fin;refine I5.pins_of λp hp=>?_;rcases lq.mp hp with z|z
    .exact I5.pin p (List.mem_append_right _ z)
    .have e:p=(s.heap.objs.size+1,oC):=by simpa using z
     subst e;have fo:=I.fpOk (b:=s.heap.objs.size+1) (H':=upd H3 s.heap.objs.size (.lst ys)) (Nat.le_succ _) (by rw[cD (Nat.ne_of_gt (Nat.lt_succ_self _))];exact hCn);obtain⟨es,ep,hd,_⟩:=hoC;exact⟨heC,fo.1,fo.2.1,fo.2.2.1,λv z=>by rw[hd] at z;cases z⟩
   .have q:=T.item Y eP ew eK um i _ s3 τ H3 (λ_ _=>False) I3 Y9 st3 go;rw[eA] at q;refine bQ q λr s4 ⟨u,hr,h4⟩=>?_;subst hr;refine bQ h4 λ_ s5 ⟨x,H5,I5,r5,y5,vW,Qj⟩=>?_;have fo5:=stat Qj (pn:=[(s.heap.objs.size,{ cls := .type "list",data := .seq (List.toArray its) k })]) (by simp);have QB:=I5.pinned fo5 (T.obj _ _ vW);have q:=hg _ s5 τ H5 x u _ QB r5 (step x H5 y5);rw[eP,ew,eA,exe] at q;refine bQ q λ_ s6 ⟨τ6,H6,I6,q6⟩=>?_;have q:=ht _ s6 τ6 H6 _ I6 q6;rw[eP,ew,eA,exe] at q;refine bQ q λb s7 ⟨H7,I7,q7⟩=>?_;have after:∀{τ8:L2.St} {H8:Hp} {s8:Shared},Inv Y ([(s.heap.objs.size,{ cls := .type "list",data := .seq (List.toArray its) k })]++zT fp s5.heap) τ8 H8 s8 ->
     tn (i+1) s8.heap/\(∀b∈fp,H8 b=none)/\s8.heap.get? s.heap.objs.size=some { cls := .type "list",data := .seq (List.toArray its) k }/\H8 s.heap.objs.size=none:=λ{τ8 H8 s8} I8=>by
     have pi:∀b∈fp,∀o,s5.heap.get? b=some o->s8.heap.get? b=some o/\H8 b=none:=λb hb o e=>by have:=I8.pin (b,o) (List.mem_append_right _ (List.mem_append_right _ (Ld hb e)));exact⟨this.1,this.2.1⟩
     have pd:=I8.pin (s.heap.objs.size,{ cls := .type "list",data := .seq (List.toArray its) k }) (List.mem_append_right _ (List.mem_append_left _ (by simp)));refine⟨T.keep _ _ _ vW λb hb o e=>(pi b hb o e).1,λb hb=>?_,pd.1,pd.2.1⟩;obtain⟨o,e,d⟩:=T.obj _ _ vW b hb;exact(pi b hb o e).2
    cases b with
    |false =>
     rw[if_neg gK];rw[if_neg gK] at q7;obtain⟨m',hm,w7⟩:=q7;obtain⟨a1,a2,_,_⟩:=after I7;exact⟨m',hm,i+1,ys,τ6,H7,its,k,I7.unpinned,rv,hlen,a1,a2,w7⟩
    |true =>
     rw[if_pos rfl];rw[if_pos rfl] at q7;have q:=he _ s7 τ6 H7 _ I7 q7;rw[eP,ew,eA,exe] at q;refine bQ q λv s8 ⟨y,H8,I8,r8,m',hm,w8⟩=>?_;obtain⟨a1,a2,aD,nD⟩:=after I8;refine append_at (hsz:=by rw[d9,<-rv.length];exact hlen) aD λh9 YC e9=>?_;have hne:s.heap.objs.size≠Y.env.locals:=by rw[eL];exact dN (Nat.lt_succ_self _)
     have I8':Inv Y [] τ6 H8 s8:=I8.pins_of λp hp=>absurd hp (by simp);have I9:Inv Y [] τ6 H8 { s8 with heap:=h9 }:=I8'.turned (t':=s8.toks) (λb o hb e=>YC.extBut b o hb e) nD hne (.inr (by rw[Qm];exact bH _)) (λx c e=>hD _ _ _ _ I8 x c e) (by rw[Qn];simp);have I10:Inv Y [(s.heap.objs.size,{ cls := .type "list",data := .seq (List.toArray (its++[v])) (k+1) })] τ6 H8 { s8 with heap:=h9 }:=I9.pins_of λp hp=>by
      have e:p=(s.heap.objs.size,{ cls := .type "list",data := .seq (List.toArray (its++[v])) (k+1) }):=by simpa using hp
      subst e;refine⟨by rw[<-List.push_toArray];exact e9,nD,hne,?_,λv z=>by cases z⟩;rw[Hq];intro z;rcases List.mem_cons.mp (I.stkSub _ z) with z|z
      .exact absurd I.lt (by rw[<-z];exact gM _)
      .exact I.nofs (bH _) z
     refine⟨m',hm,i+1,ys++[y],τ6,H8,its++[v],k+1,I10,rv.append (.cons r8 .nil),by rw[iW];exact hlt,?_,a2,w8⟩;exact T.keep _ _ _ a1 λb hb o e=>YC.extBut b o (dN (wR b hb)) e
  .refine⟨0,[],mR src Z,H,[],0,?_,.nil,Nat.zero_le _,?_,λb hb=>(hf b hb).1,w0⟩
   .refine I0.pins_of λp hp=>?_;have e:p=(s.heap.objs.size,{ cls := .type "list",data := .seq (List.toArray []) 0 }):=by simpa using hp
    subst e;refine⟨pushCells_keeps _ _ _ _ (dF _ (gG _ rfl)),I.hok.fresh (bH _),by rw[eL];exact dN (Nat.lt_succ_self _),?_,λv z=>by cases z⟩;rw[Hq];intro z;rcases List.mem_cons.mp (I.stkSub _ z) with z|z
    .exact absurd I.lt (by rw[<-z];exact gM _)
    .exact I.nofs (bH _) z
   .exact T.keep _ _ _ st λb hb o e=>pushCells_keeps _ _ _ _ (dF _ (dF _ e))
 exact codeAny_compStart_list (loop _ rfl) (T.self _ 0 _ _ _ (T.keep _ _ _ st λb hb o e=>pushCells_keeps _ _ _ _ (dF _ (dF _ e))) (loop _ rfl))
noncomputable def tLc(wi:TI)(g:TG)(tt:TT)(te:TE)(src:List (Option Nat)):TE:=λZ H Q=>wi Z H λJ H1=>∃W,(∃m,W 0 m [] (mR src Z) H1) /\
 Hw J g tt te (λys H'=>∀p,H' p=none->Q (.ref p) (upd H' p (.lst ys))) W
section
variable {X:Cx}{elt tg iter:Expr}{ifs:List Expr}{scope:Scope}{pos:Pos}{N':List Str}{src:List (Option Nat)}{wi:TI}{g:TG}{tt:TT}{te:TE}
def R5(ok:qP X scope N' src){pz:List (Addr×Obj)}{Z:L2.St}{H:Hp}{s:Shared}(I:Inv X pz Z H s):∃cl,closureFor scope X.env=pure cl /\
 (∀x c,cl.lookup x=some c->(x,NameKind.free)∈scope.names/\X.env.cells.lookup x=some c)/\∀x,(x,NameKind.free)∈scope.names->∃c,cl.lookup x=some c :=
 zqe (scope:=scope) (env:=X.env) λy hy e=>I.ok.has y.1 (ok.free y hy e)
theorem Z9(hc:X.calm=true)(ok:qP X scope N' src)(hi:PI X tg iter wi)(hY:∀Y,oV X scope N' Y->PG Y tg g/\xN Y ifs tt/\PE Y elt te)(hs:∀x,foldedSetIterable iter X.env x=pure x):PE X (.ListComp elt [⟨tg,iter,ifs,0⟩] scope pos) (tLc wi g tt te src):=by intro pz s Z H Q I h;obtain⟨cl,hclos,h1,h2⟩:=R5 ok I;rw[eval_ListComp];refine wpAny_comprehension_free (use:=none) rfl hs hclos ok.kind (λy hy e=>by rw[ok.uniq y hy,e]) ?_;refine bQ (hi pz s Z H _ I h) λv s1 q1=>bQ q1 λitv s2 q2=>?_;obtain⟨it,fp,tn,J,H2,e,I2,T,st2,f2,W,w0,turn⟩:=q2;subst e;refine VF (RR:=λacc C=>compPost (model X.prog X.w) X.A X.xe none (EP X pz Z Q) acc C) hc ok I2 T st2 f2 h1 h2 hY w0 turn ?_;intro ys H' s' oC m nD hoC I3 fin;obtain⟨heC,nC,t8,nfC,dC⟩:=I3.pin (s2.heap.objs.size+1,oC) (List.mem_append_right _ (List.mem_append_right _ (by simp)));refine⟨m,hoC.ns heC,λh'' sb=>⟨.ref s2.heap.objs.size,_,?_,rfl,fin _ nD⟩⟩;have I4:Inv X pz Z (upd H' s2.heap.objs.size (.lst ys)) s':=I3.unpinned;have fo:=I2.fpOk (b:=s2.heap.objs.size+1) (H':=upd H' s2.heap.objs.size (.lst ys)) (Nat.le_succ _) nC;exact I4.turned (t':=s'.toks) (λb o hb e=>sb.extBut b o hb e) nC fo.2.1 fo.2.2.2.1 fo.2.2.2.2.1 fo.2.2.2.2.2
noncomputable def Om(wi:TI)(g:TG)(tt:TT)(te:TE)(src:List (Option Nat))(i:Nat):TS:=λD Z H=>wi Z H λJ H1=>∃W,(∃m,W 0 m [] (mR src Z) H1) /\
 Hw J g tt te (λys H'=>∀p,H' p=none->D.nx (Z.set i (some (.ref p))) (upd H' p (.lst ys))) W
theorem zmO{y:Str}{py spos:Pos}{i:Nat}(hN:X.N.Nodup)(PJ:X.N[i]?=some y)(hy:X.env.kindOf y=some .local)(hsw:swapsWith (.ListComp elt [⟨tg,iter,ifs,0⟩] scope pos) (some (.Name y py)) spos.line X.env=pure true)(hc:X.calm=true)(ok:qP X scope N' src)(hi:PI X tg iter wi)(hY:∀Y,oV X scope N' Y->PG Y tg g/\xN Y ifs tt/\PE Y elt te)(hs:∀x,foldedSetIterable iter X.env x=pure x):PS X (.Assign [.Name y py] (.ListComp elt [⟨tg,iter,ifs,0⟩] scope pos) spos) (Om wi g tt te src i):=by
 intro pz s Z H D I h;obtain⟨cl,hclos,h1,h2⟩:=R5 ok I;rw[exec_Assign_Name_used _ _ _ _ hsw];refine aP (wpAny_standAt (aP ?_));show wpAny _ _ (do let _ <-comprehension (.ListComp elt [⟨tg,iter,ifs,0⟩] scope pos) scope X.env _ (newList []) false (eval iter X.env) (some (assign (.Name y py) X.env))) _ _ s;refine aP (kh (wpAny_comprehension_free (use:=some (assign (.Name y py) X.env)) (Q:=λ_ s'=>SP X pz D .next s') rfl hs hclos ok.kind (λy hy e=>by rw[ok.uniq y hy,e])
  ?_) (λ_ s' hq=>bW (bW hq)) λ_ _ e=>e)
 refine bQ (hi pz s Z H _ I h) λv s1 q1=>bQ q1 λitv s2 q2=>?_;obtain⟨it,fp,tn,J,H2,e,I2,T,st2,f2,W,w0,turn⟩:=q2;subst e;refine VF (RR:=λacc C=>compPost (model X.prog X.w) X.A X.xe (some (assign (.Name y py) X.env)) (λ_ s'=>SP X pz D .next s') acc C) hc ok I2 T st2 f2 h1 h2 hY w0 turn ?_;intro ys H' s' oC m nD hoC I3 fin;show wpAny _ _ (assign (.Name y py) X.env (.ref s2.heap.objs.size)) _ _ s';refine wpAny_assign_Name (Kf I3 hN PJ (.inl hy) (v := .ref s2.heap.objs.size) rfl (λs3 I4=>?_) (.inr hy));obtain⟨heC,nC,t8,nfC,dC⟩:=I4.pin (s2.heap.objs.size+1,oC) (List.mem_append_right _ (List.mem_append_right _ (by simp)));refine⟨m,hoC.ns heC,λh'' sb=>⟨_,_,?_,fin _ nD⟩⟩;have I5:Inv X pz _ (upd H' s2.heap.objs.size (.lst ys)) s3:=I4.unpinned;have fo:=I2.fpOk (b:=s2.heap.objs.size+1) (H':=upd H' s2.heap.objs.size (.lst ys)) (Nat.le_succ _) nC;exact I5.turned (t':=s3.toks) (λb o hb e=>sb.extBut b o hb e) nC fo.2.1 fo.2.2.2.1 fo.2.2.2.2.1 fo.2.2.2.2.2
end
abbrev TF:=Sg->So->Option (Bool×So)
abbrev AF:=Sg->So->Option (List D×So)
inductive Fl where
 |nx|bk|ct|rt (d:D)
abbrev SF:=Sg->So->Option (Fl×Sg×So)
abbrev GF:=D->Sg->So->Option (Sg×So)
def Kb(K:FgA)(H:Hp)(α:List Addr)(S':So)(Q:Hp->Prop):Prop:=∀H' α',aA K H' α' S'->Ext K H α H' α'->Q H'
noncomputable def BZ(K:FgA)(f:TF):TT:=λZ H Q=>∃σd S α b S',bI K H α σd Z/\aA K H α S/\f σd S=some (b,S')/\Kb K H α S' (Q b)
def ST(X:Cx)(e:Expr)(f:TF):Prop:=PT X e (BZ X.K f)
def SW(X:Cx)(e:Expr)(f:TF):Prop:=PW X e (BZ X.K f)
noncomputable def YF(K:FgA)(f:AF):TA:=λZ H Q=>∃σd S α ds S',bI K H α σd Z/\aA K H α S/\f σd S=some (ds,S')/\∀vs H' α',aA K H' α' S'->Ext K H α H' α'->aK K H' α' ds vs->Q vs H'
def SA(X:Cx)(es:List Expr)(f:AF):Prop:=PA X es (YF X.K f)
noncomputable def Ks(K:FgA)(H:Hp)(α:List Addr)(fl:Fl)(σd':Sg)(S':So)(D:uV):Prop :=
 ∀Z' H' α',bI K H' α' σd' Z'->aA K H' α' S'->Ext K H α H' α'->match fl with
  |.nx=>D.nx Z' H'
  |.bk=>D.bk Z' H'
  |.ct=>D.ct Z' H'
  |.rt d=>∀v,Rep K H' α' d v->D.rt v H'
noncomputable def Ca(K:FgA)(f:SF):TS:=λD Z H=>∃σd S α fl σd' S',bI K H α σd Z/\aA K H α S/\f σd S=some (fl,σd',S')/\Ks K H α fl σd' S' D
def SS(X:Cx)(st:Stmt)(f:SF):Prop:=PS X st (Ca X.K f)
def uz(X:Cx)(sts:List Stmt)(f:SF):Prop:=jO X sts (Ca X.K f)
noncomputable def OJ(K:FgA)(f:GF):TG:=λv Z H Q=>∃σd S α d σd' S',bI K H α σd Z/\aA K H α S/\Rep K H α d v/\f d σd S=some (σd',S') /\
 ∀Z' H' α',bI K H' α' σd' Z'->aA K H' α' S'->Ext K H α H' α'->Q Z' H'
def SG(X:Cx)(tg:Expr)(f:GF):Prop:=PG X tg (OJ X.K f)
def PT.imp{X:Cx}{e:Expr}{t t':TT}(h:PT X e t)(k:∀Z H Q,t' Z H Q->t Z H Q):PT X e t':=λpz s Z H Q I q=>h pz s Z H Q I (k Z H Q q)
def PW.imp{X:Cx}{e:Expr}{t t':TT}(h:PW X e t)(k:∀Z H Q,t' Z H Q->t Z H Q):PW X e t':=λwh pz s Z H Q I q=>h wh pz s Z H Q I (k Z H Q q)
def PA.imp{X:Cx}{e:List Expr}{t t':TA}(h:PA X e t)(k:∀Z H Q,t' Z H Q->t Z H Q):PA X e t':=λpos pz s Z H Q I q=>h pos pz s Z H Q I (k Z H Q q)
def PS.imp{X:Cx}{e:Stmt}{t t':TS}(h:PS X e t)(k:∀D Z H,t' D Z H->t D Z H):PS X e t':=λpz s Z H D I q=>h pz s Z H D I (k D Z H q)
def jO.imp{X:Cx}{e:List Stmt}{t t':TS}(h:jO X e t)(k:∀D Z H,t' D Z H->t D Z H):jO X e t':=λpz s Z H D I q=>h pz s Z H D I (k D Z H q)
def PG.imp{X:Cx}{e:Expr}{t t':TG}(h:PG X e t)(k:∀v Z H Q,t' v Z H Q->t v Z H Q):PG X e t':=λpz s Z H v u Q I r q=>h pz s Z H v u Q I r (k v Z H Q q)
def PI.imp{X:Cx}{tg e:Expr}{t t':TI}(h:PI X tg e t)(k:∀Z H Q,t' Z H Q->t Z H Q):PI X tg e t':=λpz s Z H Q I q=>h pz s Z H Q I (k Z H Q q)
noncomputable def aj(i:Nat):EF:=λZ S=>match Z[i]? with
 |some (some d)=>some (d,S)
 |_=>none
noncomputable def eC(d:D):EF:=λ_ S=>some (d,S)
abbrev kq(i:Int):EF:=eC (.int i)
noncomputable def eB(g:G2)(fa fb:EF):EF:=λZ S=>(fa Z S).bind λr=>(fb Z r.2).bind λq=>g r.1 q.1 q.2
noncomputable def eU(g:D->So->Option (D×So))(fa:EF):EF:=λZ S=>(fa Z S).bind λr=>g r.1 r.2
noncomputable def au:AF:=λ_ S=>some ([],S)
noncomputable def ak(fa:EF)(fr:AF):AF:=λZ S=>(fa Z S).bind λr=>(fr Z r.2).bind λq=>some (r.1::q.1,q.2)
noncomputable def eN(g:GN)(fa:AF):EF:=λZ S=>(fa Z S).bind λr=>g r.1 r.2
noncomputable def uq(t:TF)(fa fb:EF):EF:=λZ S=>(t Z S).bind λr=>if r.1=true then fa Z r.2 else fb Z r.2
noncomputable def bZ:GN:=λds S=>if ds.length<=sizeLine then some (.tup ds,S) else none
noncomputable def gR:GN:=λds S=>if ds.length<=sizeLine then some (.ref S.length,S++[.lst ds]) else none
section
variable {X:Cx}{a b:Expr}{fa fb:EF}{pos:Pos}
theorem zq2{i:Nat}{x:Str}(hN:X.N[i]?=some x)(hv:Ht X.env.scope x)(hd:(x==("__debug__" : Str))=false)(hcd:(x==("__classdict__" : Str))=false):SE X (.Name x pos) (aj i):=by
 refine PE.imp (zrw hN hv hd hcd) λZ H Q h=>?_;obtain⟨σd,S,α,z,S',hv,hs,hf,k⟩:=h;unfold aj at hf;split at hf
 .rename_i d e;cases hf;obtain⟨v,h1,h2⟩:=hv.2 i _ e;exact⟨v,h1,k.same hs h2⟩
 .cases hf
theorem o4{e:Expr}{d:D}{v:V}(h:PE X e (tC v))(r:∀H α,Rep X.K H α d v):SE X e (eC d):=by refine PE.imp h λZ H Q h=>?_;obtain⟨σd,S,α,z,S',hv,hs,hf,k⟩:=h;cases hf;exact k.same hs (r _ _)
def zrd{i:Int}{j}:SE X (.Constant (.int i) j pos) (eC (.int i)):=o4 zrD λ_ _ => .int i
def zsD{i:Bool}{j}:SE X (.Constant (.bool i) j pos) (eC (.bl i)):=o4 Z6 λ_ _ => .bl i
def zq6{j}:SE X (.Constant .none j pos) (eC .non):=o4 zrB λ_ _ => .non
def zq4{x:Str}{j}:SE X (.Constant (.str x) j pos) (eC (.str x)):=o4 zry λ_ _ => .str x
theorem G8{K:FgA}{g:G2}{Z:L2.St}{H:Hp}{Q:VK}(h:vZ K (eB g fa fb) Z H Q):vZ K fa Z H λx H1=>vZ K fb Z H1 λy H2=>mO K g x y H2 Q:=by obtain⟨σd,S,α,z,S',hv,hs,hf,k⟩:=h;unfold eB at hf;simp only[bC] at hf;obtain⟨⟨x,S1⟩,e1,⟨y,S2⟩,e2,e3⟩:=hf;refine⟨σd,S,α,x,S1,hv,hs,e1,λv H1 α1 s1 x1 r1=>⟨σd,S1,α1,y,S2,hv.mono x1,s1,e2,λu H2 α2 s2 x2 r2=>?_⟩⟩;exact⟨S2,α2,x,y,z,S',s2,r1.mono x2,r2,e3,k.trans (x1.trans x2)⟩
def Zj{op:Operator}(ha:SE X a fa)(hb:SE X b fb):SE X (.BinOp a op b pos) (eB (aB op) fa fb) :=
 PE.imp (zsI (zps op) ha hb) λ_ _ _ h=>G8 h
def zrf{op:CmpOp}(hu:X.A.units+64<cLine)(h1:op ≠ .In)(h2:op ≠ .NotIn)(ha:SE X a fa)(hb:SE X b fb):SE X (.Compare a [op] [b] pos) (eB (bA op) fa fb) :=
 PE.imp (zpb (TX hu op) ha hb (QS b h1 h2)) λ_ _ _ h=>G8 h
def zsB(hp:Ii b)(ha:SE X a fa)(hb:SE X b fb):SE X (.Subscript a b pos) (eB aG fa fb) :=
 PE.imp (Z8 ixs ha hb hp) λ_ _ _ h=>G8 h
noncomputable def uQ:D->So->Option (D×So)
 |.int i,S=>some (.int (-i),S)
 |_,_=>none
theorem zq7(ha:SE X a fa):SE X (.UnaryOp .USub a pos) (eU uQ fa):=by
 refine PE.imp (zsG zqq ha) λZ H Q h=>?_;obtain⟨σd,S,α,z,S',hv,hs,hf,k⟩:=h;unfold eU at hf;simp only[bC] at hf;obtain⟨⟨x,S1⟩,e1,e2⟩:=hf;refine⟨σd,S,α,x,S1,hv,hs,e1,λv H1 α1 s1 x1 r1=>?_⟩;cases r1 with
 |int i=>cases e2;exact⟨_,rfl,(k.trans x1).same s1 (.int _)⟩
 |_=>cases e2
def zrh:SA X [] au:=by refine PA.imp zrH λZ H Q h=>?_;obtain⟨σd,S,α,ds,S',hv,hs,hf,k⟩:=h;cases hf;exact k _ _ _ hs Ext.refl .nil
theorem zoQ{e:Expr}{es:List Expr}{fe:EF}{fr:AF}(ha:SE X e fe)(hr:SA X es fr)(hst:starEach (e::es) X.env=(false,eval e X.env)::starEach es X.env):SA X (e::es) (ak fe fr):=by refine PA.imp (zpf ha hr hst) λZ H Q h=>?_;obtain⟨σd,S,α,ds,S',hv,hs,hf,k⟩:=h;unfold ak at hf;simp only[bC] at hf;obtain⟨⟨x,S1⟩,e1,⟨ys,S2⟩,e2,e3⟩:=hf;cases e3;exact⟨σd,S,α,x,S1,hv,hs,e1,λv H1 α1 s1 x1 r1=>⟨σd,S1,α1,ys,_,hv.mono x1,s1,e2,λvs H2 α2 s2 x2 r2=>k _ _ _ s2 (x1.trans x2) (.cons (r1.mono x2) r2)⟩⟩
theorem Cd{K:FgA}{g:GN}{fa:AF}{Z:L2.St}{H:Hp}{Q:VK}(h:vZ K (eN g fa) Z H Q):YF K fa Z H λvs H1=>jB K g vs H1 Q:=by obtain⟨σd,S,α,z,S',hv,hs,hf,k⟩:=h;unfold eN at hf;simp only[bC] at hf;obtain⟨⟨ds,S1⟩,e1,e2⟩:=hf;exact⟨σd,S,α,ds,S1,hv,hs,e1,λvs H1 α1 s1 x1 r1=>⟨S1,α1,ds,z,S',s1,r1,e2,k.trans x1⟩⟩
theorem zq3{es:List Expr}{fs:AF}{k0}(h:SA X es fs):SE X (.Tuple es k0 pos) (eN bZ fs):=by
 refine PE.imp (zrx h) λZ H Q q=>?_;obtain⟨σd,S,α,ds,S1,hv,hs,e1,k⟩:=Cd q;refine⟨σd,S,α,ds,S1,hv,hs,e1,λvs H1 α1 s1 x1 r1=>?_⟩;obtain⟨S2,α2,ds',z,S3,s2,r2,e2,k2⟩:=k vs H1 α1 s1 x1 r1;unfold bZ at e2;split at e2
 .rename_i hl;cases e2;refine⟨by rw[<-r2.length];exact hl,λp hp=>?_⟩;exact k2.new s2 (mj hp) (.tup (dR.of fP) (r2.mono (Same.ext (mj hp))))
 .cases e2
theorem zrb{es:List Expr}{fs:AF}(h:SA X es fs):SE X (.List es pos) (eN gR fs):=by
 refine PE.imp (zrC h) λZ H Q q=>?_;obtain⟨σd,S,α,ds,S1,hv,hs,e1,k⟩:=Cd q;refine⟨σd,S,α,ds,S1,hv,hs,e1,λvs H1 α1 s1 x1 r1=>?_⟩;obtain⟨S2,α2,ds',z,S3,s2,r2,e2,k2⟩:=k vs H1 α1 s1 x1 r1;unfold gR at e2;split at e2
 .rename_i hl;cases e2;refine⟨by rw[<-r2.length];exact hl,λp hp=>?_⟩;obtain⟨s',e'⟩:=s2.snoc (p:=p) (o := .lst ds') (u := .lst vs) hp λα' e=>⟨_,fP,r2.mono e⟩
  exact k2 _ _ _ s' e' (.ref (by rw[<-s2.len];simp))
 .cases e2
noncomputable def rB:D->So->Option Bool
 |.non,_=>some false
 |.bl b,_=>some b
 |.int i,_=>some (i != 0)
 |.str x,_=>if x.length<=sizeLine then some ((x.length:Int) != 0) else none
 |.tup xs,_=>some (!xs.isEmpty)
 |.ref n,S=>match S[n]? with
  |some (.lst xs)=>some (!xs.isEmpty)
  |some (.frz xs)=>some (!xs.isEmpty)
  |_=>none
 |_,_=>none
def Ma{K:FgA}{H:Hp}{α:List Addr}{ds:List D}{vs:List V}(r:aK K H α ds vs):(!ds.isEmpty) = !vs.isEmpty:=by cases r<;>rfl
theorem zoe{K:FgA}{H:Hp}{α:List Addr}{S:So}{d:D}{v:V}{b:Bool}(hs:aA K H α S)(r:Rep K H α d v)(e:rB d S=some b):xK K v H b:=by
 cases r with
 |non=>cases e;exact rfl
 |bl b=>cases e;exact rfl
 |int i=>cases e;exact rfl
 |str x =>
  have e':(if x.length<=sizeLine then some ((x.length:Int) != 0) else none)=some b:=e;split at e'
  .rename_i hl;cases e';exact⟨hl,rfl⟩
  .cases e'
 |tup h r=>cases e;exact .inr (.inl ⟨_,h,Ma r⟩)
 |@ref n a h =>
  simp only[rB] at e;cases hm:S[n]? with
  |none=>simp[hm] at e
  |some o =>
   simp only[hm] at e;have hob:=hs.obj _ _ _ hm h;cases o with
   |lst xs =>
    cases e;obtain⟨vs,h1,r⟩:=hob;exact .inl ⟨_,d8.of h1,Ma r⟩
   |frz xs =>
    cases e;obtain⟨vs,h1,r⟩:=hob;exact .inl ⟨_,h1.sq,Ma r⟩
   |ins C fs=>cases e
   |dct xs=>cases e
   |tbl x=>cases e
 |ty n=>cases e
 |adr a=>cases e
 |obj _ _ _ _ _=>cases e
noncomputable def kJ(fa:EF):TF:=λZ S=>(fa Z S).bind λr=>(rB r.1 r.2).map λb=>(b,r.2)
theorem zqI(ha:SE X a fa)(he:∀whole,isTrue a X.env whole=(do let v <-whole;standAt a.pos;holding [v] (truthy v))):ST X a (kJ fa):=by refine PT.imp (zmL ha he) λZ H Q h=>?_;obtain⟨σd,S,α,b,S',hv,hs,hf,k⟩:=h;unfold kJ at hf;simp only[bC,bf] at hf;obtain⟨⟨x,S1⟩,e1,c,e2,e3⟩:=hf;cases e3;exact⟨σd,S,α,x,S1,hv,hs,e1,λv H1 α1 s1 x1 r1=>⟨b,zoe s1 r1 e2,k _ _ s1 x1⟩⟩
noncomputable def bK(fa:EF):TF:=λZ S=>(fa Z S).bind λr=>match r.1 with
 |.bl b=>some (b,r.2)
 |_=>none
theorem zqK{op:CmpOp}(hu:X.A.units+64<cLine)(h1:op ≠ .In)(h2:op ≠ .NotIn)(ha:SE X a fa)(hb:SE X b fb):ST X (.Compare a [op] [b] pos) (bK (eB (bA op) fa fb)):=by
 refine PT.imp (zoX (TX hu op) ha hb (QS b h1 h2)) λZ H Q h=>?_;obtain⟨σd,S,α,c,S',hv,hs,hf,k⟩:=h;unfold bK at hf;simp only[bC] at hf;obtain⟨⟨z,S1⟩,e1,e2⟩:=hf;cases z with
 |bl c' =>
  cases e2;exact G8 ⟨σd,S,α,.bl c,_,hv,hs,e1,λv H1 α1 s1 x1 r1=>by cases r1;exact⟨c,rfl,k _ _ s1 x1⟩⟩
 |_=>cases e2
noncomputable def vm(t:TF):TF:=λZ S=>(t Z S).map λr=>(!r.1,r.2)
theorem zqJ{t:TF}(ha:ST X a t):ST X (.UnaryOp .Not a pos) (vm t):=by refine PT.imp (zrm ha) λZ H Q h=>?_;obtain⟨σd,S,α,c,S',hv,hs,hf,k⟩:=h;unfold vm at hf;simp only[bf] at hf;obtain⟨⟨b,S1⟩,e1,e2⟩:=hf;cases e2;exact⟨σd,S,α,b,S1,hv,hs,e1,k⟩
noncomputable def vh(t u:TF):TF:=λZ S=>(t Z S).bind λr=>if r.1=true then u Z r.2 else some (false,r.2)
noncomputable def gB(t u:TF):TF:=λZ S=>(t Z S).bind λr=>if r.1=true then some (true,r.2) else u Z r.2
def zok{t:TF}(ha:ST X a t):SW X (.BoolOp .And [a] pos) t:=zoU ha
def zqG{t:TF}(ha:ST X a t):SW X (.BoolOp .Or [a] pos) t:=zrk ha
theorem zqH{t u:TF}{rest:List Expr}(ha:ST X a t)(hb:SW X (.BoolOp .And (b::rest) pos) u):SW X (.BoolOp .And (a::b::rest) pos) (vh t u):=by
 refine PW.imp (zrl ha hb) λZ H Q h=>?_;obtain⟨σd,S,α,c,S',hv,hs,hf,k⟩:=h;unfold vh at hf;simp only[bC] at hf;obtain⟨⟨b1,S1⟩,e1,e2⟩:=hf;refine⟨σd,S,α,b1,S1,hv,hs,e1,λH1 α1 s1 x1=>?_⟩;cases b1 with
 |true =>
  rw[if_pos rfl];rw[if_pos rfl] at e2;exact⟨σd,S1,α1,c,S',hv.mono x1,s1,e2,λH2 α2 s2 x2=>k _ _ s2 (x1.trans x2)⟩
 |false =>
  rw[if_neg gK];rw[if_neg gK] at e2;cases e2;exact k _ _ s1 x1
theorem Zo{t u:TF}{rest:List Expr}(ha:ST X a t)(hb:SW X (.BoolOp .Or (b::rest) pos) u):SW X (.BoolOp .Or (a::b::rest) pos) (gB t u):=by
 refine PW.imp (zsE ha hb) λZ H Q h=>?_;obtain⟨σd,S,α,c,S',hv,hs,hf,k⟩:=h;unfold gB at hf;simp only[bC] at hf;obtain⟨⟨b1,S1⟩,e1,e2⟩:=hf;refine⟨σd,S,α,b1,S1,hv,hs,e1,λH1 α1 s1 x1=>?_⟩;cases b1 with
 |true =>
  rw[if_pos rfl];rw[if_pos rfl] at e2;cases e2;exact k _ _ s1 x1
 |false =>
  rw[if_neg gK];rw[if_neg gK] at e2;exact⟨σd,S1,α1,c,S',hv.mono x1,s1,e2,λH2 α2 s2 x2=>k _ _ s2 (x1.trans x2)⟩
theorem zsC{c:Expr}{t:TF}(hc:ST X c t)(ha:SE X a fa)(hb:SE X b fb):SE X (.IfExp c a b pos) (uq t fa fb):=by
 refine PE.imp (zmW hc ha hb) λZ H Q h=>?_;obtain⟨σd,S,α,z,S',hv,hs,hf,k⟩:=h;unfold uq at hf;simp only[bC] at hf;obtain⟨⟨b1,S1⟩,e1,e2⟩:=hf;refine⟨σd,S,α,b1,S1,hv,hs,e1,λH1 α1 s1 x1=>?_⟩;cases b1 with
 |true =>
  rw[if_pos rfl];rw[if_pos rfl] at e2;exact⟨σd,S1,α1,z,S',hv.mono x1,s1,e2,k.trans x1⟩
 |false =>
  rw[if_neg gK];rw[if_neg gK] at e2;exact⟨σd,S1,α1,z,S',hv.mono x1,s1,e2,k.trans x1⟩
noncomputable def wZ(fa:EF):EF:=λZ S=>(fa Z S).bind λr=>match r.1 with
 |.bl b=>some (.bl (!b),r.2)
 |_=>none
theorem zq5(ha:SE X a fa):SE X (.UnaryOp .Not a pos) (wZ fa):=by
 refine PE.imp (zrA ha) λZ H Q h=>?_;obtain⟨σd,S,α,z,S',hv,hs,hf,k⟩:=h;unfold wZ at hf;simp only[bC] at hf;obtain⟨⟨x,S1⟩,e1,e2⟩:=hf;refine⟨σd,S,α,x,S1,hv,hs,e1,λv H1 α1 s1 x1 r1=>?_⟩;cases r1 with
 |bl c=>cases e2;exact⟨c,rfl,(k.trans x1).same s1 (.bl _)⟩
 |_=>cases e2
noncomputable def sO(fa fb:EF):EF:=λZ S=>(fa Z S).bind λr=>match r.1 with
 |.bl true=>fb Z r.2
 |.bl false=>some (.bl false,r.2)
 |_=>none
noncomputable def uo(fa fb:EF):EF:=λZ S=>(fa Z S).bind λr=>match r.1 with
 |.bl true=>some (.bl true,r.2)
 |.bl false=>fb Z r.2
 |_=>none
def zmI{op}(ha:SE X a fa):SE X (.BoolOp op [a] pos) fa:=zrz ha
theorem zrg{rest:List Expr}(ha:SE X a fa)(hb:SE X (.BoolOp .And (b::rest) pos) fb):SE X (.BoolOp .And (a::b::rest) pos) (sO fa fb):=by
 refine PE.imp (zrG ha hb) λZ H Q h=>?_;obtain⟨σd,S,α,z,S',hv,hs,hf,k⟩:=h;unfold sO at hf;simp only[bC] at hf;obtain⟨⟨x,S1⟩,e1,e2⟩:=hf;refine⟨σd,S,α,x,S1,hv,hs,e1,λv H1 α1 s1 x1 r1=>?_⟩;cases r1 with
 |bl c =>
  refine⟨c,rfl,?_⟩;cases c with
  |true=>rw[if_pos rfl];exact⟨σd,S1,α1,z,S',hv.mono x1,s1,e2,k.trans x1⟩
  |false=>rw[if_neg gK];cases e2;exact(k.trans x1).same s1 (.bl _)
 |_=>cases e2
theorem Zk{rest:List Expr}(ha:SE X a fa)(hb:SE X (.BoolOp .Or (b::rest) pos) fb):SE X (.BoolOp .Or (a::b::rest) pos) (uo fa fb):=by
 refine PE.imp (zsH ha hb) λZ H Q h=>?_;obtain⟨σd,S,α,z,S',hv,hs,hf,k⟩:=h;unfold uo at hf;simp only[bC] at hf;obtain⟨⟨x,S1⟩,e1,e2⟩:=hf;refine⟨σd,S,α,x,S1,hv,hs,e1,λv H1 α1 s1 x1 r1=>?_⟩;cases r1 with
 |bl c =>
  refine⟨c,rfl,?_⟩;cases c with
  |false=>rw[if_neg gK];exact⟨σd,S1,α1,z,S',hv.mono x1,s1,e2,k.trans x1⟩
  |true=>rw[if_pos rfl];cases e2;exact(k.trans x1).same s1 (.bl _)
 |_=>cases e2
end
noncomputable def sW(K:FgA)(n:Nat)(φ:GN):Sp:=λvs H Q _=>vs.length=n/\jB K φ vs H Q
def uG(X:Cx)(x:Str)(n:Nat)(φ:GN):Prop:=∃f fd ps k,X.mg x=some (.ref f)/\PySem.W.keepIn X.K (.ref f)=true/\Binds X.K fd ps [] /\
 di X.prog X.w X.K X.mg X.base iV k f fd ps (sW X.K n φ)/\bM k X.A
section
variable {X:Cx}{x:Str}{p pos:Pos}{es:List Expr}{fs:AF}
noncomputable def aY(n:Nat)(φ:GN):GN:=λds S=>if ds.length=n then φ ds S else none
theorem zoP{e:Expr}{n:Nat}{φ:GN}(hg:Gl X x)(hF:uG X x n φ)(ha:SA X (e::es) fs)(hdb:(x==("__debug__" : Str))=false)(he:starEach (e::es) X.env=(false,eval e X.env)::starEach es X.env)(hpl:(backTo pos (starEach es X.env)).any (·.1)=false):SE X (.Call (.Name x p) (e::es) [] pos) (eN (aY n φ) fs):=by
 obtain⟨f,fd,ps,k,hm,hk,hb,F,hr⟩:=hF;refine PE.imp (zpc F hr hg hm hk hb .nil El ha hdb he hpl) λZ H Q h=>?_;obtain⟨σd,S,α,ds,S1,hv,hs,e1,k⟩:=Cd h;refine⟨σd,S,α,ds,S1,hv,hs,e1,λvs H1 α1 s1 x1 r1=>?_⟩;obtain⟨S2,α2,ds',z,S3,s2,r2,e2,k2⟩:=k vs H1 α1 s1 x1 r1;unfold aY at e2;split at e2
 .rename_i hl;rw[List.append_nil];exact⟨by rw[<-r2.length];exact hl,S2,α2,ds',z,S3,s2,r2,e2,k2⟩
 .cases e2
theorem zmH{e:Expr}{id:String}{g:GN}(hc:ir X (.builtin id) (jB X.K g))(hg:Gl X x)(hm:X.mg x=none)(hv:bootBuiltins x=some (.builtin id))(ha:SA X (e::es) fs)(hn:x ≠ "__name__")(hdb:(x==("__debug__" : Str))=false)(he:starEach (e::es) X.env=(false,eval e X.env)::starEach es X.env)(hpl:(backTo pos (starEach es X.env)).any (·.1)=false):SE X (.Call (.Name x p) (e::es) [] pos) (eN g fs) :=
 PE.imp (zmX hc hg hm hv ha hn hdb he hpl) λ_ _ _ h=>Cd h
theorem zmG{e:Expr}{T:String}{g:GN}(hc:ir X (.type T) (jB X.K g))(hg:Gl X x)(hm:X.mg x=none)(hv:bootBuiltins x=some (.type T))(ha:SA X (e::es) fs)(hn:x ≠ "__name__")(hdb:(x==("__debug__" : Str))=false)(he:starEach (e::es) X.env=(false,eval e X.env)::starEach es X.env)(hpl:(backTo pos (starEach es X.env)).any (·.1)=false):SE X (.Call (.Name x p) (e::es) [] pos) (eN g fs) :=
 PE.imp (zkZ hc hg hm hv ha hn hdb he hpl) λ_ _ _ h=>Cd h
end
noncomputable def aH(i:Nat):GF:=λd Z S=>some (Z.set i (some d),S)
abbrev oJ:=List D->Sg->So->Option (Sg×So)
noncomputable def iR:oJ:=λds Z S=>match ds with
 |[]=>some (Z,S)
 |_=>none
noncomputable def cQ(f:GF)(fr:oJ):oJ:=λds Z S=>match ds with
 |d::r=>(f d Z S).bind λq=>fr r q.1 q.2
 |[]=>none
noncomputable def iB(n:Nat)(fr:oJ):GF:=λd Z S=>match d with
 |.tup xs=>if xs.length=n then fr xs Z S else none
 |.ref m=>match S[m]? with
  |some (.lst xs)=>if xs.length=n then fr xs Z S else none
  |_=>none
 |_=>none
noncomputable def OD(K:FgA)(f:oJ):qC:=λvs Z H Q=>∃σd S α ds σd' S',bI K H α σd Z/\aA K H α S/\aK K H α ds vs/\f ds σd S=some (σd',S') /\
 ∀Z' H' α',bI K H' α' σd' Z'->aA K H' α' S'->Ext K H α H' α'->Q Z' H'
def DK(X:Cx)(Bk:List Expr)(f:oJ):Prop:=zA X Bk (OD X.K f)
section
variable {X:Cx}{pos:Pos}
theorem zoJ{i:Nat}{x:Str}(hN:X.N.Nodup)(hi:X.N[i]?=some x)(hx:Loc X.env.scope x)(hf:X.fn x=true\/X.env.scope.names.lookup x=some .local):SG X (.Name x pos) (aH i):=by refine PG.imp (zo8 hN hi hx hf) λv Z H Q h=>?_;obtain⟨σd,S,α,d,σd',S',hv,hs,r,hf,k⟩:=h;cases hf;exact k _ _ _ (hv.set r i) hs Ext.refl
theorem zoI:DK X [] iR:=by
 refine λpz s Z H vs us Q I r0 h=>zo6 pz s Z H vs us Q I r0 ?_;obtain⟨σd,S,α,ds,σd',S',hv,hs,r,hf,k⟩:=h;cases r with
 |nil=>cases hf;exact⟨rfl,k _ _ _ hv hs Ext.refl⟩
 |cons _ _=>cases hf
theorem zmB{e:Expr}{es:List Expr}{f:GF}{fr:oJ}(h1:SG X e f)(h2:DK X es fr)(hs:(assignEach (e::es) X.env).map (·.2)=assign e X.env::(assignEach es X.env).map (·.2)):DK X (e::es) (cQ f fr):=by
 refine λpz s Z H vs us Q I r0 h=>zmT h1 h2 hs pz s Z H vs us Q I r0 ?_;obtain⟨σd,S,α,ds,σd',S',hv,hs,r,hf,k⟩:=h;cases r with
 |nil=>cases hf
 |cons r rr =>
  unfold cQ at hf;simp only[bC] at hf;obtain⟨⟨σ1,S1⟩,e1,e2⟩:=hf;exact⟨_,_,rfl,σd,S,α,_,σ1,S1,hv,hs,r,e1,λZ' H' α' v' s' x'=>⟨σ1,S1,α',_,σd',S',v',s',rr.mono x',e2,λσ2 H2 α2 v2 s2 x2=>k _ _ _ v2 s2 (x'.trans x2)⟩⟩
theorem zq0{es:List Expr}{k0:Nat}{f:oJ}{n:Nat}(hc:X.calm=true)(h:DK X es f)(hn:(assignEach es X.env).length=n)(hst:(assignEach es X.env).findIdx? (·.1)=none):SG X (.Tuple es k0 pos) (iB n f):=by
 refine PG.imp (PG.or (zrv hc h hn hst) (zo7 hc h hn hst)) λv Z H Q h=>?_;obtain⟨σd,S,α,d,σd',S',hv,hs,r,hf,k⟩:=h;unfold iB at hf;cases r with
 |tup h r =>
  simp only at hf;split at hf
  .rename_i hl;exact .inl ⟨_,_,rfl,h,by rw[<-r.length];exact hl,σd,S,α,_,σd',S',hv,hs,r,hf,k⟩
  .cases hf
 |ref ha =>
  simp only at hf;split at hf
  .rename_i xs em;split at hf
   .rename_i hl;obtain⟨vs,h1,r⟩:=hs.obj _ _ _ em ha;exact .inr ⟨_,vs,rfl,d8.of h1,by rw[<-r.length];exact hl,σd,S,α,xs,σd',S',hv,hs,r,hf,k⟩
   .cases hf
  .cases hf
 |_=>cases hf
end
noncomputable def aQ:SF:=λZ S=>some (.nx,Z,S)
noncomputable def aC(f g:SF):SF:=λZ S=>(f Z S).bind λr=>match r.1 with
 |.nx=>g r.2.1 r.2.2
 |fl=>some (fl,r.2.1,r.2.2)
noncomputable def aX(fe:EF)(fg:GF):SF:=λZ S=>(fe Z S).bind λr=>(fg r.1 Z r.2).map λq=>(.nx,q.1,q.2)
noncomputable def mY(fe:EF):SF:=λZ S=>(fe Z S).map λr=>(.nx,Z,r.2)
noncomputable def bJ(fe:EF):SF:=λZ S=>(fe Z S).map λr=>(.rt r.1,Z,r.2)
noncomputable def tZ:SF:=λZ S=>some (.rt .non,Z,S)
noncomputable def BR:SF:=λZ S=>some (.bk,Z,S)
noncomputable def o5:SF:=λZ S=>some (.ct,Z,S)
noncomputable def dw(t:TF)(f g:SF):SF:=λZ S=>(t Z S).bind λr=>if r.1=true then f Z r.2 else g Z r.2
section
variable {X:Cx}{st:Stmt}{rest:List Stmt}{f g:SF}{e:Expr}{fe:EF}{pos:Pos}
def zqN:uz X [] aQ:=by refine jO.imp zoY λD Z H h=>?_;obtain⟨σd,S,α,fl,σd',S',hv,hs,hf,k⟩:=h;cases hf;exact k _ _ _ hv hs Ext.refl
def Ks.trans{K:FgA}{H H1:Hp}{α α1:List Addr}{fl:Fl}{σd':Sg}{S':So}{D:uV}(k:Ks K H α fl σd' S' D)(e:Ext K H α H1 α1):Ks K H1 α1 fl σd' S' D:=λZ' H' α' v s x=>k Z' H' α' v s (e.trans x)
theorem zou(h1:SS X st f)(h2:uz X rest g):uz X (st::rest) (aC f g):=by
 refine jO.imp (zmM h1 h2) λD Z H h=>?_;obtain⟨σd,S,α,fl,σd',S',hv,hs,hf,k⟩:=h;unfold aC at hf;simp only[bC] at hf;obtain⟨⟨Zb,σ1,S1⟩,e1,e2⟩:=hf;refine⟨σd,S,α,Zb,σ1,S1,hv,hs,e1,λZ' H' α' v' s' x'=>?_⟩;cases Zb with
 |nx=>exact⟨σ1,S1,α',fl,σd',S',v',s',e2,k.trans x'⟩
 |bk=>cases e2;exact k Z' H' α' v' s' x'
 |ct=>cases e2;exact k Z' H' α' v' s' x'
 |rt d=>cases e2;exact k Z' H' α' v' s' x'
def zos:SS X (.Pass pos) aQ:=by refine PS.imp zo0 λD Z H h=>?_;obtain⟨σd,S,α,fl,σd',S',hv,hs,hf,k⟩:=h;cases hf;exact k _ _ _ hv hs Ext.refl
theorem zqQ{x j pos'}:SS X (.Expr (.Constant (.str x) j pos) pos') aQ:=by refine PS.imp zrr λD Z H h=>?_;obtain⟨σd,S,α,fl,σd',S',hv,hs,hf,k⟩:=h;cases hf;exact k _ _ _ hv hs Ext.refl
def zqS:SS X (.Break pos) BR:=by refine PS.imp zmP λD Z H h=>?_;obtain⟨σd,S,α,fl,σd',S',hv,hs,hf,k⟩:=h;cases hf;exact k _ _ _ hv hs Ext.refl
def zqR:SS X (.Continue pos) o5:=by refine PS.imp zit λD Z H h=>?_;obtain⟨σd,S,α,fl,σd',S',hv,hs,hf,k⟩:=h;cases hf;exact k _ _ _ hv hs Ext.refl
theorem zot(he:SE X e fe)(hsw:swapsWith e none pos.line X.env=pure false):SS X (.Expr e pos) (mY fe):=by refine PS.imp (zo1 he hsw) λD Z H h=>?_;obtain⟨σd,S,α,fl,σd',S',hv,hs,hf,k⟩:=h;unfold mY at hf;simp only[bf] at hf;obtain⟨⟨d,S1⟩,e1,e2⟩:=hf;cases e2;exact⟨σd,S,α,d,S1,hv,hs,e1,λv H' α' s' x' r'=>k _ _ _ (hv.mono x') s' x'⟩
theorem zqM(he:SE X e fe):SS X (.Return (some e) pos) (bJ fe):=by refine PS.imp (zro he) λD Z H h=>?_;obtain⟨σd,S,α,fl,σd',S',hv,hs,hf,k⟩:=h;unfold bJ at hf;simp only[bf] at hf;obtain⟨⟨d,S1⟩,e1,e2⟩:=hf;cases e2;exact⟨σd,S,α,d,S1,hv,hs,e1,λv H' α' s' x' r'=>k _ _ _ (hv.mono x') s' x' v r'⟩
theorem zor:SS X (.Return none pos) tZ:=by refine PS.imp zoZ λD Z H h=>?_;obtain⟨σd,S,α,fl,σd',S',hv,hs,hf,k⟩:=h;cases hf;exact k _ _ _ hv hs Ext.refl _ .non
theorem Jl{tg:Expr}{fg:GF}(he:SE X e fe)(hg:SG X tg fg)(h1:swapsWithSole [tg] e pos.line X.env=pure false)(h2:swappedStores [tg] e X.env=pure none)(h3:(assignEach [tg] X.env).map (·.2)=[assign tg X.env]):SS X (.Assign [tg] e pos) (aX fe fg):=by refine PS.imp (zrs he hg h1 h2 h3) λD Z H h=>?_;obtain⟨σd,S,α,fl,σd',S',hv,hs,hf,k⟩:=h;unfold aX at hf;simp only[bC,bf] at hf;obtain⟨⟨d,S1⟩,e1,⟨σ1,S2⟩,e2,e3⟩:=hf;cases e3;exact⟨σd,S,α,d,S1,hv,hs,e1,λv H' α' s' x' r'=>⟨σd,S1,α',d,_,_,hv.mono x',s',r',e2,λσ2 H2 α2 v2 s2 x2=>k _ _ _ v2 s2 (x'.trans x2)⟩⟩
theorem Rw{i:Nat}{x:Str}{pos':Pos}(hN:X.N.Nodup)(hi:X.N[i]?=some x)(hx:Loc X.env.scope x)(he:SE X e fe)(hsw:swapsWith e (some (.Name x pos')) pos.line X.env=pure false)(hfn:X.fn x=true\/X.env.scope.names.lookup x=some .local):
 SS X (.Assign [.Name x pos'] e pos) (aX fe (aH i)):=by
 refine PS.imp (zrn hN hi hx he hsw hfn) λD Z H h=>?_;obtain⟨σd,S,α,fl,σd',S',hv,hs,hf,k⟩:=h;unfold aX at hf;simp only[bC,bf] at hf;obtain⟨⟨d,S1⟩,e1,⟨σ1,S2⟩,e2,e3⟩:=hf;cases e3;cases e2;exact⟨σd,S,α,d,S1,hv,hs,e1,λv H' α' s' x' r'=>k _ _ _ ((hv.mono x').set r' i) s' x'⟩
theorem Zn{c:Expr}{a b:List Stmt}{t:TF}(hc:ST X c t)(ha:uz X a f)(hb:uz X b g):SS X (.If c a b pos) (dw t f g):=by
 refine PS.imp (zsF hc ha hb) λD Z H h=>?_;obtain⟨σd,S,α,fl,σd',S',hv,hs,hf,k⟩:=h;unfold dw at hf;simp only[bC] at hf;obtain⟨⟨b1,S1⟩,e1,e2⟩:=hf;refine⟨σd,S,α,b1,S1,hv,hs,e1,λH1 α1 s1 x1=>?_⟩;cases b1 with
 |true =>
  rw[if_pos rfl];rw[if_pos rfl] at e2;exact⟨σd,S1,α1,fl,σd',S',hv.mono x1,s1,e2,k.trans x1⟩
 |false =>
  rw[if_neg gK];rw[if_neg gK] at e2;exact⟨σd,S1,α1,fl,σd',S',hv.mono x1,s1,e2,k.trans x1⟩
end
noncomputable def kW(t:TF)(f:SF):Nat->SF
 |0=>λ_ _=>none
 |n+1=>λZ S=>(t Z S).bind λr=>if r.1=true then(f Z r.2).bind λq=>match q.1 with
  |.nx=>kW t f n q.2.1 q.2.2
  |.ct=>kW t f n q.2.1 q.2.2
  |.bk=>some (.nx,q.2.1,q.2.2)
  |.rt d=>some (.rt d,q.2.1,q.2.2)
  else some (.nx,Z,r.2)
theorem Kh{t:TF}{f:SF}:∀{n:Nat} {Z:Sg} {S:So} {r:Fl×Sg×So},kW t f n Z S=some r->kW t f (n+1) Z S=some r
 |0,_,_,_,h=>by cases h
 |n+1,Z,S,r,h=>by
  unfold kW at h ⊢;simp only[bC] at h ⊢;obtain⟨q,e1,e2⟩:=h;refine⟨q,e1,?_⟩;by_cases hb:q.1=true
  .rw[if_pos hb] at e2 ⊢;simp only[bC] at e2 ⊢;obtain⟨q2,e3,e4⟩:=e2;refine⟨q2,e3,?_⟩;obtain⟨fl,σ1,S1⟩:=q2;cases fl with
   |nx=>exact Kh e4
   |ct=>exact Kh e4
   |bk=>exact e4
   |rt d=>exact e4
  .rw[if_neg hb] at e2 ⊢;exact e2
theorem Ux{t:TF}{f:SF}{n m:Nat}{Z:Sg}{S:So}{r:Fl×Sg×So}(h:kW t f n Z S=some r)(hm:n<=m):kW t f m Z S=some r:=by
 obtain⟨k,rfl⟩:=Nat.exists_eq_add_of_le hm;clear hm
 induction k with
 |zero=>exact h
 |succ k ih=>exact Kh ih
open Classical in
noncomputable def jV(t:TF)(f:SF):SF:=λZ S=>if h:∃n r,kW t f n Z S=some r then some (Classical.choose (Classical.choose_spec h)) else none
theorem Rp{t:TF}{f:SF}{n:Nat}{Z:Sg}{S:So}{r:Fl×Sg×So}(h:kW t f n Z S=some r):jV t f Z S=some r:=by
 have hx:∃n r,kW t f n Z S=some r:=⟨n,r,h⟩
 unfold jV;rw[dif_pos hx];have e:=Classical.choose_spec (Classical.choose_spec hx);have e1:=Ux e (Nat.le_max_left _ n);have e2:=Ux h (Nat.le_max_right (Classical.choose hx) n);rw[e1] at e2;exact e2
theorem Ro{t:TF}{f:SF}{Z:Sg}{S:So}{r:Fl×Sg×So}(h:jV t f Z S=some r):∃n,kW t f n Z S=some r:=by
 unfold jV at h;split at h
 .rename_i hx;cases h;exact⟨_,Classical.choose_spec (Classical.choose_spec hx)⟩
 .cases h
theorem Kc{t:TF}{f:SF}{Z σ1 σ2:Sg}{S S1 S2:So}{fl:Fl}{r:Fl×Sg×So}(h1:t Z S=some (true,S1))(h2:f Z S1=some (fl,σ2,S2))(hf:fl = .nx\/fl = .ct)(h3:jV t f σ2 S2=some r):jV t f Z S=some r:=by obtain⟨n,e⟩:=Ro h3;refine Rp (n:=n+1) ?_;unfold kW;rw[h1];simp only[cu,if_true];rw[h2];rcases hf with rfl|rfl<;>exact e
def Fz{t:TF}{f:SF}{Z:Sg}{S S1:So}(h1:t Z S=some (false,S1)):jV t f Z S=some (.nx,Z,S1):=by refine Rp (n:=1) ?_;unfold kW;rw[h1];simp
section
variable {X:Cx}{pos:Pos}
theorem zmq{c:Expr}{body:List Stmt}{t:TF}{f:SF}(hp:PassesOwn (model X.prog X.w) X.A X.env X.xe)(hc:ST X c t)(hb:uz X body f):SS X (.While c body [] pos) (jV t f):=by
 refine PS.imp (zmN hp hc hb) λD Z H h=>?_;obtain⟨σd,S,α,fl,σd',S',hv,hs,hf,k⟩:=h;obtain⟨n,hn⟩:=Ro hf;refine⟨λm σ1 H1=>∃σd1 S1 α1,bI X.K H1 α1 σd1 σ1/\aA X.K H1 α1 S1/\Ext X.K H α H1 α1/\kW t f m σd1 S1=some (fl,σd',S'),⟨n,σd,S,α,hv,hs,Ext.refl,hn⟩,?_⟩
 rintro m σ1 H1 ⟨σd1,S1,α1,v1,s1,x1,e⟩
 cases m with
 |zero=>cases e
 |succ m =>
  unfold kW at e;simp only[bC] at e;obtain⟨⟨b,S2⟩,e1,e2⟩:=e;refine⟨σd1,S1,α1,b,S2,v1,s1,e1,λH2 α2 s2 x2=>?_⟩;cases b with
  |false =>
   rw[if_neg gK];rw[if_neg gK] at e2;cases e2;exact k _ _ _ (v1.mono x2) s2 (x1.trans x2)
  |true =>
   rw[if_pos rfl];rw[if_pos rfl] at e2;simp only[bC] at e2;obtain⟨⟨Qk,σd3,S3⟩,e3,e4⟩:=e2;refine⟨λσ4 H4=>∃σd4 S4 α4,bI X.K H4 α4 σd4 σ4/\aA X.K H4 α4 S4/\Ext X.K H α H4 α4/\kW t f m σd4 S4=some (fl,σd',S'),λσ4 H4 q=>⟨m,Nat.lt_succ_self _,q⟩,?_⟩;refine⟨σd1,S2,α2,Qk,σd3,S3,v1.mono x2,s2,e3,λσ4 H4 α4 v4 s4 x4=>?_⟩;have xx:=(x1.trans x2).trans x4;cases Qk with
   |nx=>exact⟨σd3,S3,α4,v4,s4,xx,e4⟩
   |ct=>exact⟨σd3,S3,α4,v4,s4,xx,e4⟩
   |bk=>cases e4;exact k _ _ _ v4 s4 xx
   |rt d=>cases e4;exact k _ _ _ v4 s4 xx
end
end MX
end
section
variable {A:PySem.Around}{E Q:PySem.Value->PySem.Shared->Prop}{H:L2.Hp}{K:FgA}{S S':MX.So}{X:L2.Cx}{a c l:PySem.Addr}{cpos p pos spos:PySem.Pos}{d:MX.D}{ds:List MX.D}{e:PySem.Expr}{env:PySem.Env}{es:List PySem.Expr}{f fe:MX.EF}{fa:MX.AF}{fb:MX.SF}{fd:PySem.FuncData}{fns:List (PySem.Str×Nat×MX.GN)}{h h':PySem.Heap}{i j k kk t':Nat}{ks:List PySem.Keyword}{m:Int}{mg:PySem.Str->Option PySem.Value}{name x y:PySem.Str}{names:List (PySem.Str×PySem.NameKind)}{ns:List Int}{o:PySem.Obj}{out:List PySem.Value}{params:PySem.Arguments}{prog q:PySem.Program}{ps:List PySem.Str}{s:PySem.Shared}{scope:PySem.Scope}{st:PySem.Stmt}{vs:List L2.V}{w:PySem.World}{xs:Array (Int×PySem.Tok)}{α:List PySem.Addr}{Z':MX.Sg}
section
namespace MZ
open PySem PySem.Spec PyProof.Rows L2
structure Sub where
 it:Addr
 src:Addr
 tup:Bool
def cO(h:Heap)(p:Sub)(k:Nat):Prop:=if p.tup=true then h.IsTupleIter p.it p.src k else h.IsListIter p.it p.src k
def SrcAt(h:Heap)(p:Sub)(items:List Value):Prop:=if p.tup=true then h.IsTuple p.src items.toArray else h.IsList p.src items.toArray
theorem cO.at{h h':Heap}{p:Sub}{k:Nat}(x:cO h p k)(f:∀o,h.get? p.it=some o->h'.get? p.it=some o):cO h' p k:=by
 unfold cO at x ⊢;split
 .rename_i hp;rw[if_pos hp] at x;obtain⟨o,e,r⟩:=x;exact⟨o,f o e,r⟩
 .rename_i hp;rw[if_neg hp] at x;obtain⟨o,e,r⟩:=x;exact⟨o,f o e,r⟩
theorem SrcAt.at{h h':Heap}{p:Sub}{xs:List Value}(x:SrcAt h p xs)(f:∀o,h.get? p.src=some o->h'.get? p.src=some o):SrcAt h' p xs:=by
 unfold SrcAt at x ⊢;split
 .rename_i hp;rw[if_pos hp] at x;obtain⟨o,e,r⟩:=x;exact⟨o,f o e,r⟩
 .rename_i hp;rw[if_neg hp] at x;obtain⟨o,e,r⟩:=x;exact⟨o,f o e,r⟩
theorem cO.obj{h:Heap}{p:Sub}{k:Nat}(x:cO h p k):∃o,h.get? p.it=some o/\∀v,o.data ≠ .cell v:=by
 unfold cO at x;split at x
 .obtain⟨o,e,_,d⟩:=x;exact⟨o,e,λv z=>by rw[d] at z;cases z⟩
 .obtain⟨o,e,_,d⟩:=x;exact⟨o,e,λv z=>by rw[d] at z;cases z⟩
section
variable {prog:Program}{w:World}{A:Around}{E:Value->Shared->Prop}{s:Shared}
theorem zeU{it t:Addr}{i:Nat}{items}{x:Value}{Q:Value->Shared->Prop}(hit:s.heap.IsTupleIter it t i)(ht:s.heap.IsTuple t items)(hx:items[i]?=some x)(hQ:∀h',h'.IsTupleIter it t (i+1)->Heap.SameBut it s.heap h'->Q x { s with heap:=h' }):
 wpAny (model prog w) A (Builtin.SmallTypes.nextOf (.ref it)) Q E s:=by
 obtain⟨o,ho,hc,hd⟩:=id hit;obtain⟨ol,hol,_,nl,hdl⟩:=ht;unfold Builtin.SmallTypes.nextOf;refine aP (wpAny_callSpecial?_slot (name:=Str.ofString "__next__") hit.typeIs F.slot_tuple_iterator_next
  (wpAny_call_entry F.slot_tuple_iterator_next hit.typeIs F.entry_tuple_iterator_next ?_ (F.args_tuple_iterator_next_1 _)))
 show wpAny _ _ (field (.ref it) 0 >>= _) _ _ s;refine aP (wpAny_field ho hd (x := .ref t) rfl ?_);show wpAny _ _ (if(Value.ref t==Value.none)=true then _ else _) _ _ s;rw[if_neg (show ¬((Value.ref t==Value.none)=true) from gK)];show wpAny _ _ (field (.ref it) 1 >>= _) _ _ s;refine aP (wpAny_field ho hd (x := .int i 0) rfl ?_);show wpAny _ _ (seqItems? (.ref t) >>= _) _ _ s;refine aP (wpAny_seqItems hol hdl ?_);simp only[Int.toNat_natCast,hx];refine aP (wpAny_setField ho hd (by simp) (bW ⟨x,rfl,bW (hQ _ ?_ (Heap.SameBut.update ..))⟩));exact⟨_,Ec _ ho (Obj.isFreed_of_fields (Obj.data_mapFields hd _)),(Obj.cls_mapFields ..).trans hc,by
  rw[Obj.data_mapFields hd];simp[rawInt]⟩
theorem zfl{it t:Addr}{i:Nat}{items}{Q:Value->Shared->Prop}(hh:A.handled=none)(hit:s.heap.IsTupleIter it t i)(ht:s.heap.IsTuple t items)(hx:items[i]?=none)(hE:∀h' e,Heap.ExtBut it s.heap h'->(∃o,h'.get? e=some o/\o.cls = .type "StopIteration")->E (.ref e) { s with heap:=h' }):
 wpAny (model prog w) A (Builtin.SmallTypes.nextOf (.ref it)) Q E s:=by
 obtain⟨o,ho,hc,hd⟩:=id hit;obtain⟨ol,hol,_,nl,hdl⟩:=ht;unfold Builtin.SmallTypes.nextOf;refine aP (wpAny_callSpecial?_slot (name:=Str.ofString "__next__") hit.typeIs F.slot_tuple_iterator_next
  (wpAny_call_entry F.slot_tuple_iterator_next hit.typeIs F.entry_tuple_iterator_next ?_ (F.args_tuple_iterator_next_1 _)))
 show wpAny _ _ (field (.ref it) 0 >>= _) _ _ s;refine aP (wpAny_field ho hd (x := .ref t) rfl ?_);show wpAny _ _ (if(Value.ref t==Value.none)=true then _ else _) _ _ s;rw[if_neg (show ¬((Value.ref t==Value.none)=true) from gK)];show wpAny _ _ (field (.ref it) 1 >>= _) _ _ s;refine aP (wpAny_field ho hd (x := .int i 0) rfl ?_);show wpAny _ _ (seqItems? (.ref t) >>= _) _ _ s;refine aP (wpAny_seqItems hol hdl ?_);simp only[Int.toNat_natCast,hx];refine aP (wpAny_rule (aP (wpAny_setField ho hd (by simp) ?_)));show wpAny _ _ (newExc (.type "StopIteration") [] >>= _) _ _ _;refine aP ?_;simp only[newExc,newTuple];refine aP (wpAny_newObj_type ?_ (by size_fits));refine aP (m:=firstArgMember _ _) (wpAny_of_eq (a:=Value.none) (by first|rfl|(simp only[firstArgMember];rfl)) ?_);refine wpAny_newObj_type ?_ (by size_fits);simp only[raiseNew];refine aP (wpAny_handled ?_)
 first|rw[show A.in1.handled=none from hh]|rw[hh]
 refine aP (bW (wpAny_throw ?_));exact hE _ _ (((Heap.SameBut.update ..).extBut.push _).push _) ⟨_,gG _ rfl,rfl⟩
theorem zmo{p:Sub}{xs:List Value}{k:Nat}{x:Value}{Q:Value->Shared->Prop}(hi:cO s.heap p k)(hs:SrcAt s.heap p xs)(hx:xs[k]?=some x)(hQ:∀h',cO h' p (k+1)->Heap.SameBut p.it s.heap h'->Q x { s with heap:=h' }):wpAny (model prog w) A (Builtin.SmallTypes.nextOf (.ref p.it)) Q E s:=by
 by_cases hp:p.tup=true
 .unfold cO SrcAt at *
  rw[if_pos hp] at hi hs;exact zeU hi hs (by simpa using hx) λh' a b=>hQ h' (by rw[if_pos hp];exact a) b
 .unfold cO SrcAt at *
  rw[if_neg hp] at hi hs;exact wpAny_nextOf_list_item hi hs (by simpa using hx) λh' a b=>hQ h' (by rw[if_neg hp];exact a) b
theorem zol{p:Sub}{xs:List Value}{k:Nat}{Q:Value->Shared->Prop}(hh:A.handled=none)(hi:cO s.heap p k)(hs:SrcAt s.heap p xs)(hx:xs[k]?=none)(hE:∀h' e,Heap.ExtBut p.it s.heap h'->(∃o,h'.get? e=some o/\o.cls = .type "StopIteration")->E (.ref e) { s with heap:=h' }):
 wpAny (model prog w) A (Builtin.SmallTypes.nextOf (.ref p.it)) Q E s:=by
 by_cases hp:p.tup=true
 .unfold cO SrcAt at *
  rw[if_pos hp] at hi hs;exact zfl hh hi hs (by simpa using hx) hE
 .unfold cO SrcAt at *
  rw[if_neg hp] at hi hs;exact wpAny_nextOf_list_end hh hi hs (by simpa using hx) hE
end
abbrev dO(xs:List Value):Obj:={ cls := .type "tuple",data := .seq xs.toArray }
structure xW(z TI TO:Addr)(ps:List Sub):Prop where
 TIz:TI≠z
 TOz:TO≠z
 TITO:TI≠TO
 iz:∀p∈ps,p.it≠z
 iTI:∀p∈ps,p.it≠TI
 iTO:∀p∈ps,p.it≠TO
 sz:∀p∈ps,p.src≠z
 sTO:∀p∈ps,p.src≠TO
 si:∀p∈ps,∀q∈ps,p.src≠q.it
 nd:(ps.map (·.it)).Nodup
section
variable {prog:Program}{w:World}{A:Around}{E:Value->Shared->Prop}{s:Shared}
theorem zod{T:Addr}{ys:List Value}{k:Nat}{x:Value}{Q:Unit->Shared->Prop}(hT:s.heap.get? T=some (dO ys))(hz:ys.length<=sizeLine)(h:∀h',h'.get? T=some (dO (ys.set k x))->Heap.SameBut T s.heap h'->Q () { s with heap:=h' }):
 wpAny (model prog w) A (updateSeq T (·.setIfInBounds k x)) Q E s:=by
 refine wpAny_updateSeq hT rfl (h _ ?_ (Heap.SameBut.update ..)) (by rw[d9];exact hz) (by simp;omega);rw[Ec _ hT rfl];simp[Obj.mapSeq,dO]
def zoK{α:Type}(a b:List α)(y x:α):(a++y::b).set a.length x=a++x::b:=by rw[List.set_append_right _ _ (bH _)];simp
theorem zmf{z TI TO:Addr}{ps:List Sub}{xss:List (List Value)}{row ys:List Value}{k:Nat}{Q:Value->Shared->Prop}(D:xW z TI TO ps)(hne:ps≠[])(hps:ps.length<=100)(hz:IsZip s.heap z TI TO .none)(hTI:s.heap.get? TI=some (dO (ps.map λp=>Value.ref p.it)))(hTO:s.heap.get? TO=some (dO ys))(hy:ys.length=ps.length)(hl:xss.length=ps.length)(hr:row.length=ps.length)(hi:∀p∈ps,cO s.heap p k)(hs:∀(j:Nat) p xs,ps[j]?=some p->xss[j]?=some xs->SrcAt s.heap p xs)(hx:∀(j:Nat) xs x,xss[j]?=some xs->row[j]?=some x->xs[k]?=some x)(hQ:∀h',IsZip h' z TI TO (rawInt s.heap.objs.size)->h'.get? TO=some (dO row)->(∀p∈ps,cO h' p (k+1))->h'.get? s.heap.objs.size=some (dO row)->h'.objs.size=s.heap.objs.size+1 ->
  (∀c o,c≠z->c≠TO->(∀p∈ps,c≠p.it)->s.heap.get? c=some o->h'.get? c=some o)->Q (.ref s.heap.objs.size) { s with heap:=h' }):
 wpAny (model prog w) A (Builtin.«zip.__next__» ⟨[.ref z],[]⟩) (λfin s'=>∃v,fin = .done (.ret v)/\Q v s') E s:=by
 have line:(100:Nat)<=sizeLine:=by decide
 show wpAny _ _ (field (.ref z) 2 >>= _) _ _ _;refine aP (wpAny_field hz rfl (x := .bool false) rfl ?_);show wpAny _ _ (field (.ref z) 3 >>= _) _ _ _;refine aP (wpAny_field hz rfl (x := .ref TI) rfl ?_);refine aP (wpAny_seqItems hTI rfl ?_);have hemp:((ps.map λp=>Value.ref p.it).toArray.isEmpty)=false:=by
  cases ps with
  |nil=>exact absurd rfl hne
  |cons _ _=>simp
 show wpAny _ _ (if((ps.map λp=>Value.ref p.it).toArray.isEmpty)=true then _ else _) _ _ _;rw[if_neg (by rw[hemp];exact gK)];show wpAny _ _ (Builtin.SmallTypes.ownedTupleIsFree (.ref z) >>= _) _ _ _;refine aP ?_;unfold Builtin.SmallTypes.ownedTupleIsFree;refine aP (wpAny_field hz rfl (x := .none) rfl (bW ?_));simp only[if_true];refine aP (wpAny_rule ?_);refine aP (wpAny_field hz rfl (x := .ref TO) rfl ?_);refine aP (wpAny_setField_rec hz (by simp) λh₁ hz₁ hs₁=>?_);replace hz₁:IsZip h₁ z TI TO .ellipsis:=hz₁;refine aP ?_;refine wpAny_forIn_list _
  (λrest b s'=>b.1=none/\∃j h,s'={ s with heap:=h }/\rest=((ps.drop j).map λp=>Value.ref p.it).zipIdx j/\j<=ps.length/\IsZip h z TI TO .ellipsis/\h.get? TO=some (dO (row.take j++ys.drop j))/\h.objs.size=s.heap.objs.size /\
   (∀(i:Nat) p,ps[i]?=some p->cO h p (if i<j then k+1 else k))/\∀c o,c≠z->c≠TO->(∀p∈ps,c≠p.it)->s.heap.get? c=some o->h.get? c=some o) _ ?_ ?_ _ _ ?_
 .rintro⟨v,kk⟩ rest b s' ⟨hb,j,h,rfl,hrest,hj,z1,t1,G7,i1,k1⟩
  have hjl:j<ps.length:=by refine Nat.lt_of_le_of_ne hj λe=>?_;rw[e] at hrest;simp at hrest
  obtain⟨p,hp⟩:∃p,ps[j]?=some p:=⟨ps[j],by simp[hjl]⟩
  have hpm:p∈ps:=List.mem_of_getElem? hp;have hdrop:ps.drop j=p::ps.drop (j+1):=by obtain⟨h1,h2⟩:=fC.mp hp;rw[<-h2];exact List.drop_eq_getElem_cons h1
  rw[hdrop,iJ,List.zipIdx_cons] at hrest;injection hrest with e1 e2;obtain⟨e3,e4⟩:=Prod.mk.inj e1;subst e3;replace e4:=e4.symm;subst e4;obtain⟨xs,hxs⟩:∃xs,xss[j]?=some xs:=⟨xss[j]'(by omega),by simp⟩
  obtain⟨x,Y0⟩:∃x,row[j]?=some x:=⟨row[j]'(by omega),by simp⟩
  obtain⟨y,hyr⟩:∃y,ys[j]?=some y:=⟨ys[j]'(by omega),by simp⟩
  have hit:cO h p k:=by have:=i1 j p hp;rw[if_neg (gM _)] at this;exact this
  have jk:SrcAt h p xs:=(hs j p xs hp hxs).at λo e=>k1 _ o (D.sz p hpm) (D.sTO p hpm) (λq hq=>D.si p hpm q hq) e;have hcur:row.take j++ys.drop j=row.take j++y::ys.drop (j+1):=by obtain⟨h1,h2⟩:=fC.mp hyr;rw[List.drop_eq_getElem_cons h1,h2]
  have hlj:(row.take j).length=j:=by rw[uL];omega
  obtain⟨b1,b2⟩:=b;have hb':b1=none:=hb;subst hb';refine aP (wpAny_onRaise ?_);show wpAny _ _ (Builtin.SmallTypes.nextOf (.ref p.it) >>= _) _ _ _;refine aP (zmo hit jk (hx j xs x hxs Y0) λh₂ it₂ sb₂=>bW ?_);have t2:h₂.get? TO=some (dO (row.take j++ys.drop j)):=sb₂.extBut _ _ (D.iTO p hpm).symm t1;refine aP (wpAny_seqItems t2 rfl ?_);refine aP (zod (s:={ s with heap:=h₂ }) (k:=j) t2 (by rw[iW,uL,List.length_drop];omega) λh₃ t3 sb₃=>?_);refine aP (wpAny_letGo (bW ?_));refine⟨rfl,j+1,h₃,rfl,e2,hjl,?_,?_,?_,λi q hq=>?_,λc o c1 c2 c3 e=>?_⟩
  .exact sb₃.extBut _ _ D.TOz.symm (sb₂.extBut _ _ (D.iz p hpm).symm z1)
  .rw[t3,hcur];have:(row.take j++y::ys.drop (j+1)).set j x=row.take (j+1)++ys.drop (j+1):=by
    have e:row.take (j+1)=row.take j++[x]:=by obtain⟨h1,h2⟩:=fC.mp Y0;rw[<-h2];simp
    have:=zoK (row.take j) (ys.drop (j+1)) y x;rw[hlj] at this;rw[this,e,dI];rfl
   rw[this]
  .rw[sb₃.1,sb₂.1,G7]
  .have hqm:q∈ps:=List.mem_of_getElem? hq;have k3:∀o,h₂.get? q.it=some o->h₃.get? q.it=some o:=λo e=>sb₃.extBut _ _ (D.iTO q hqm) e;by_cases hij:i=j
   .subst hij;rw[hp] at hq;cases hq;rw[if_pos (Nat.lt_succ_self _)];exact it₂.at k3
   .have hne':q.it≠p.it:=λz=>hij (by
     obtain⟨a1,a2⟩:=fC.mp hq;obtain⟨b1,b2⟩:=fC.mp hp;refine(List.getElem_inj (xs:=ps.map (·.it)) (i:=i) (j:=j) (h₀:=by simpa using a1) (h₁:=by simpa using b1) D.nd).mp ?_;simp[a2,b2,z])
    have:=i1 i q hq;have e:(if i<j+1 then k+1 else k)=(if i<j then k+1 else k):=by
     by_cases h1:i<j
     .rw[if_pos h1,if_pos (by omega)]
     .rw[if_neg h1,if_neg (by omega)]
    rw[e];exact(this.at λo e=>sb₂.extBut _ _ hne' e).at k3
  .exact sb₃.extBut _ _ c2 (sb₂.extBut _ _ (c3 p hpm) (k1 c o c1 c2 c3 e))
 .rintro⟨b1,b2⟩ s' ⟨hb,j,h,rfl,hrest,hj,z1,t1,G7,i1,k1⟩
  have hb':b1=none:=hb;subst hb';have hjl:j=ps.length:=by
   refine Nat.le_antisymm hj (Nat.le_of_not_lt λhlt=>?_);have hd:ps.drop j≠[]:=by intro e;have:=congrArg List.length e;rw[List.length_drop] at this;simp at this;omega
   cases q:ps.drop j with
   |nil=>exact hd q
   |cons a r=>rw[q] at hrest;simp at hrest
  subst hjl;have Yx:h.get? TO=some (dO row):=by rw[t1,List.take_of_length_le (by omega),List.drop_of_length_le (by omega),List.append_nil]
  show wpAny _ _ (seqItems? (.ref TO) >>= _) _ _ _;refine aP (wpAny_seqItems Yx rfl ?_);refine aP (wpAny_newTuple ?_ (by simp;omega));have hzlt:z<h.objs.size:=cM z1;show wpAny _ _ (Builtin.SmallTypes.ownedTupleHandOut (.ref z) (.ref h.objs.size) >>= _) _ _ _;refine aP ?_;unfold Builtin.SmallTypes.ownedTupleHandOut;have hz₆:IsZip (h.push { cls := .type "tuple",data := .seq row.toArray.toList.toArray }) z TI TO .ellipsis:=dF _ z1;refine aP (wpAny_setField_rec hz₆ (by simp) λh₇ hz₇ hs₇=>?_);replace hz₇:IsZip h₇ z TI TO (rawInt h.objs.size):=hz₇;refine wpAny_setField_rec hz₇ (by simp) λh₈ hz₈ hs₈=>?_;replace hz₈:IsZip h₈ z TI TO (rawInt h.objs.size):=hz₈;have up:∀c o,c≠z->h.get? c=some o->h₈.get? c=some o:=λc o c1 e=>hs₈.extBut _ _ c1 (hs₇.extBut _ _ c1 (dF _ e));have hT₈:h₈.get? h.objs.size=some (dO row):=hs₈.extBut _ _ (Nat.ne_of_gt hzlt) (hs₇.extBut _ _ (Nat.ne_of_gt hzlt) (by simpa[dO] using gG h (o:=dO row) rfl));have hz8:h₈.objs.size=h.objs.size+1:=by rw[hs₈.1,hs₇.1,Heap.size_push]
  rw[G7] at hz₈ hT₈ hz8;refine bW ⟨_,rfl,?_⟩;show Q (.ref h.objs.size) _;rw[G7];refine hQ h₈ hz₈ (up _ _ D.TOz Yx) (λp hp=>?_) hT₈ hz8 λc o c1 c2 c3 e=>up c o c1 (k1 c o c1 c2 c3 e);obtain⟨i,hil,e⟩:=List.mem_iff_getElem.mp hp;have:=i1 i p (by rw[fC];exact⟨hil,e⟩);rw[if_pos hil] at this;exact this.at λo e=>up _ o (D.iz p hp) e
 .refine⟨rfl,0,h₁,rfl,rfl,Nat.zero_le _,hz₁,by simpa using hs₁.extBut _ _ D.TOz hTO,hs₁.1,λi p hp=>?_,λc o c1 c2 c3 e=>hs₁.extBut _ _ c1 e⟩;have hpm:=List.mem_of_getElem? hp;rw[if_neg (Nat.not_lt_zero _)];exact(hi p hpm).at λo e=>hs₁.extBut _ _ (D.iz p hpm) e
theorem zob{z TI TO:Addr}{p:Sub}{ps:List Sub}{xs:List Value}{k:Nat}{Q:Fin->Shared->Prop}(hh:A.handled=none)(D:xW z TI TO (p::ps))(hz:IsZip s.heap z TI TO .none)(hTI:s.heap.get? TI=some (dO ((p::ps).map λp=>Value.ref p.it)))(hi:cO s.heap p k)(hs:SrcAt s.heap p xs)(hend:xs[k]?=none)(hE:∀h' e,(∀c o,c≠z->c≠p.it->s.heap.get? c=some o->h'.get? c=some o)->(∃o,h'.get? e=some o/\o.cls = .type "StopIteration")->E (.ref e) { s with heap:=h' }):
 wpAny (model prog w) A (Builtin.«zip.__next__» ⟨[.ref z],[]⟩) Q E s:=by
 have hpm:p∈p::ps:=eZ;show wpAny _ _ (field (.ref z) 2 >>= _) _ _ _;refine aP (wpAny_field hz rfl (x := .bool false) rfl ?_);show wpAny _ _ (field (.ref z) 3 >>= _) _ _ _;refine aP (wpAny_field hz rfl (x := .ref TI) rfl ?_);refine aP (wpAny_seqItems hTI rfl ?_);show wpAny _ _ (if(((p::ps).map λp=>Value.ref p.it).toArray.isEmpty)=true then _ else _) _ _ _;rw[if_neg (by simp)];show wpAny _ _ (Builtin.SmallTypes.ownedTupleIsFree (.ref z) >>= _) _ _ _;refine aP ?_;unfold Builtin.SmallTypes.ownedTupleIsFree;refine aP (wpAny_field hz rfl (x := .none) rfl (bW ?_));simp only[if_true];refine aP (wpAny_rule ?_);refine aP (wpAny_field hz rfl (x := .ref TO) rfl ?_);refine aP (wpAny_setField_rec hz (by simp) λh₁ hz₁ hs₁=>?_);replace hz₁:IsZip h₁ z TI TO .ellipsis:=hz₁;refine aP ?_;refine wpAny_forIn_list _ (λrest b s'=>b.1=none/\s'={ s with heap:=h₁ }/\rest=((p::ps).map λp=>Value.ref p.it).zipIdx 0) _ ?_ ?_ _ _ ⟨rfl,rfl,rfl⟩
 .rintro⟨v,kk⟩ rest b s' ⟨hb,rfl,hrest⟩
  rw[iJ,List.zipIdx_cons] at hrest;injection hrest with e1 e2;cases e1;obtain⟨b1,b2⟩:=b;have hb':b1=none:=hb;subst hb';refine aP (wpAny_onRaise ?_);show wpAny _ _ (Builtin.SmallTypes.nextOf (.ref p.it) >>= _) _ _ _;refine aP (zol hh (hi.at λo e=>hs₁.extBut _ _ (D.iz p hpm) e) (hs.at λo e=>hs₁.extBut _ _ (D.sz p hpm) e) hend λh₂ e sb₂ he=>?_);obtain⟨oe,hoe,hce⟩:=he;have hz₂:IsZip h₂ z TI TO .ellipsis:=sb₂ _ _ (D.iz p hpm).symm hz₁;have hez:e≠z:=λx=>by subst x;rw[hz₂] at hoe;cases hoe;simp at hce
  exact wpAny_setField_rec hz₂ (by simp) λh₃ _ hs₃=>hE h₃ e (λc o c1 c3 x=>hs₃.extBut _ _ c1 (sb₂ _ _ c3 (hs₁.extBut _ _ c1 x))) ⟨oe,hs₃.extBut _ _ hez hoe,hce⟩
 .rintro b s' ⟨_,_,hrest⟩
  rw[iJ,List.zipIdx_cons] at hrest;cases hrest
theorem zk6{z TI TO:Addr}{ps:List Sub}{xss:List (List Value)}{row ys:List Value}{k:Nat}{Q:Option Value->Shared->Prop}(D:xW z TI TO ps)(hne:ps≠[])(hps:ps.length<=100)(hz:IsZip s.heap z TI TO .none)(hTI:s.heap.get? TI=some (dO (ps.map λp=>Value.ref p.it)))(hTO:s.heap.get? TO=some (dO ys))(hy:ys.length=ps.length)(hl:xss.length=ps.length)(hr:row.length=ps.length)(hi:∀p∈ps,cO s.heap p k)(hs:∀(j:Nat) p xs,ps[j]?=some p->xss[j]?=some xs->SrcAt s.heap p xs)(hx:∀(j:Nat) xs x,xss[j]?=some xs->row[j]?=some x->xs[k]?=some x)(hQ:∀h',IsZip h' z TI TO (rawInt s.heap.objs.size)->h'.get? TO=some (dO row)->(∀p∈ps,cO h' p (k+1))->h'.get? s.heap.objs.size=some (dO row)->h'.objs.size=s.heap.objs.size+1 ->
  (∀c o,c≠z->c≠TO->(∀p∈ps,c≠p.it)->s.heap.get? c=some o->h'.get? c=some o)->Q (some (.ref s.heap.objs.size)) { s with heap:=h' }):
 wpAny (model prog w) A (pyNext (.ref z)) Q E s:=by
 have hT:s.TypeIs (.ref z) "zip" := ⟨_,hz,rfl⟩
 unfold pyNext;exact aP (wpAny_attempt (wpAny_callSpecial?_slot (name:=Str.ofString "__next__") hT F.slot_zip_next
  (wpAny_call_entry F.slot_zip_next hT F.entry_zip_next
   (zmf D hne hps hz hTI hTO hy hl hr hi hs hx λh' a1 a2 a3 a4 a5 a6=>bW (hQ h' a1 a2 a3 a4 a5 a6)) (F.args_zip_next_1 _))))
theorem zm0{z TI TO:Addr}{p:Sub}{ps:List Sub}{xs:List Value}{k:Nat}{Q:Option Value->Shared->Prop}(hh:A.handled=none)(D:xW z TI TO (p::ps))(hz:IsZip s.heap z TI TO .none)(hTI:s.heap.get? TI=some (dO ((p::ps).map λp=>Value.ref p.it)))(hi:cO s.heap p k)(hs:SrcAt s.heap p xs)(hend:xs[k]?=none)(hQ:∀h',(∀c o,c≠z->c≠p.it->s.heap.get? c=some o->h'.get? c=some o)->Q none { s with heap:=h' }):
 wpAny (model prog w) A (pyNext (.ref z)) Q E s:=by
 have hT:s.TypeIs (.ref z) "zip" := ⟨_,hz,rfl⟩
 unfold pyNext;refine aP (wpAny_attempt (wpAny_callSpecial?_slot (name:=Str.ofString "__next__") hT F.slot_zip_next
  (wpAny_call_entry F.slot_zip_next hT F.entry_zip_next (zob hh D hz hTI hi hs hend λh' e hk he=>?_) (F.args_zip_next_1 _))))
 obtain⟨o,ho,hc⟩:=he;refine aP (wpAny_isInstance (T := "StopIteration") (b:=true) ⟨o,ho,hc⟩ isSubtype_stop ?_);exact bW (hQ _ hk)
noncomputable def dX(n:Nat):List (Addr×Bool)->List Sub
 |[]=>[]
 | (a,t)::r=>⟨n,a,t⟩::dX (n+1) r
def fV(h:Heap)(p:Addr×Bool):Prop:=if p.2=true then ∃xs,h.IsTuple p.1 xs else ∃xs,h.IsList p.1 xs
theorem fV.keeps{h h':Heap}{p:Addr×Bool}(x:fV h p)(f:∀b o,h.get? b=some o->h'.get? b=some o):fV h' p:=by
 unfold fV at x ⊢;split
 .rename_i hp;rw[if_pos hp] at x;obtain⟨xs,o,e,r⟩:=x;exact⟨xs,o,f _ o e,r⟩
 .rename_i hp;rw[if_neg hp] at x;obtain⟨xs,o,e,r⟩:=x;exact⟨xs,o,f _ o e,r⟩
theorem znc{p:Addr×Bool}{Q:Value->Shared->Prop}(hp:fV s.heap p)(h:∀h',(∀b o,s.heap.get? b=some o->h'.get? b=some o)->h'.objs.size=s.heap.objs.size+1->cO h' ⟨s.heap.objs.size,p.1,p.2⟩ 0->Q (.ref s.heap.objs.size) { s with heap:=h' }):
 wpAny (model prog w) A (pyIter (.ref p.1)) Q E s:=by
 unfold fV at hp;by_cases ht:p.2=true
 .rw[if_pos ht] at hp;obtain⟨xs,hx⟩:=hp;refine wpAny_pyIter_tuple hx (h _ (λb o e=>dF _ e) (Heap.size_push ..) ?_);unfold cO;rw[if_pos ht];exact⟨_,gG _ rfl,rfl,rfl⟩
 .rw[if_neg ht] at hp;obtain⟨xs,hx⟩:=hp;refine wpAny_pyIter_list hx (h _ (λb o e=>dF _ e) (Heap.size_push ..) ?_);unfold cO;rw[if_neg ht];exact⟨_,gG _ rfl,rfl,rfl⟩
theorem FJ:∀(n:Nat) (l:List (Addr×Bool)) (p:Sub),p∈dX n l->n<=p.it/\p.it<n+l.length/\(p.src,p.tup)∈l
 |_,[],p,h=>by cases h
 |n,(a,t)::r,p,h=>by
  rcases List.mem_cons.mp h with rfl|h
  .exact⟨bH _,by simp,eZ⟩
  .obtain⟨h1,h2,h3⟩:=FJ (n+1) r p h;exact⟨Nat.le_of_succ_le h1,dU h2 (by rw[jo];omega),cU _ h3⟩
def Kg:∀(n:Nat) (l:List (Addr×Bool)),(dX n l).length=l.length
 |_,[]=>rfl
 |n,_::r=>by simp[dX,Kg (n+1) r]
theorem Td:∀(n:Nat) (l:List (Addr×Bool)),((dX n l).map (·.it)).Nodup
 |_,[]=>List.nodup_nil
 |n,(a,t)::r=>by rw[dX,iJ,List.nodup_cons];refine⟨λhm=>?_,Td (n+1) r⟩;obtain⟨p,hp,e⟩:=List.mem_map.mp hm;have:=(FJ (n+1) r p hp).1;have e':p.it=n:=e;rw[e'] at this;exact absurd this (Nat.not_succ_le_self n)
theorem Kw:∀(n:Nat) (l:List (Addr×Bool)) (p:Addr×Bool),dX n (l++[p])=dX n l++[⟨n+l.length,p.1,p.2⟩]
 |n,[],(a,t)=>rfl
 |n,(b,u)::r,p=>by
  rw[List.cons_append,dX,dX,Kw (n+1) r p,List.cons_append];have:n+1+r.length=n+(r.length+1):=by omega
  simp[this]
theorem zj9{l:List (Addr×Bool)}{Q:List Value->Shared->Prop}(hl:∀p∈l,fV s.heap p)(h:∀h',(∀b o,s.heap.get? b=some o->h'.get? b=some o)->h'.objs.size=s.heap.objs.size+l.length->(∀p∈dX s.heap.objs.size l,cO h' p 0)->Q ((dX s.heap.objs.size l).map λp=>Value.ref p.it) { s with heap:=h' }):
 wpAny (model prog w) A (Builtin.SmallTypes.iterAll (l.map λp=>Value.ref p.1)) Q E s:=by
 unfold Builtin.SmallTypes.iterAll;refine aP ?_;refine wpAny_forIn_list _ (λrest its s'=>∃d r h',l=d++r/\rest=r.map (λp=>Value.ref p.1)/\its=((dX s.heap.objs.size d).map λp=>Value.ref p.it).toArray/\s'={ s with heap:=h' } /\
  (∀b o,s.heap.get? b=some o->h'.get? b=some o)/\h'.objs.size=s.heap.objs.size+d.length/\∀p∈dX s.heap.objs.size d,cO h' p 0) _ ?_ ?_ _ _ ?_
 .rintro x rest its s' ⟨d,r,h',rfl,hr,rfl,rfl,k1,z1,i1⟩
  cases r with
  |nil=>cases hr
  |cons p r =>
   rw[iJ] at hr;injection hr with e1 e2;subst e1;refine aP (wpAny_holding (znc (s:={ s with heap:=h' }) ((hl p (by simp)).keeps k1) λh2 k2 z2 i2=>bW ?_));refine⟨d++[p],r,h2,by simp,e2,?_,rfl,λb o e=>k2 b o (k1 b o e),by rw[z2];simp;show h'.objs.size+1=_;omega,λq hq=>?_⟩
   .rw[Kw,mG];simp[z1]
   .rw[Kw] at hq;rcases lq.mp hq with hq|hq
    .exact(i1 q hq).at λo e=>k2 _ o e
    .have e:q=⟨s.heap.objs.size+d.length,p.1,p.2⟩:=by simpa using hq
     subst e;have:({ s with heap:=h' }:Shared).heap.objs.size=s.heap.objs.size+d.length:=z1;rw[<-this];exact i2
 .rintro its s' ⟨d,r,h',rfl,hr,rfl,rfl,k1,z1,i1⟩
  cases r with
  |cons p r=>cases hr
  |nil =>
   rw[List.append_nil] at *
   exact bW (by simpa using h h' k1 z1 i1)
 .exact⟨[],l,s.heap,rfl,rfl,rfl,rfl,λ_ _ e=>e,rfl,λp hp=>by cases hp⟩
theorem zlf{l:List (Addr×Bool)}(hl:l.length<=100):
 Meets (Builtin.«zip.__new__» ⟨.type "zip" :: l.map (λp=>Value.ref p.1),[]⟩) (λ_ R s=>(∀p∈l,fV s.heap p) /\
  ∀h',IsZip h' (s.heap.objs.size+l.length+2) (s.heap.objs.size+l.length) (s.heap.objs.size+l.length+1) .none->h'.get? (s.heap.objs.size+l.length)=some (dO ((dX s.heap.objs.size l).map λp=>Value.ref p.it)) ->
   h'.get? (s.heap.objs.size+l.length+1)=some (dO ((dX s.heap.objs.size l).map λ_=>Value.none))->(∀p∈dX s.heap.objs.size l,cO h' p 0)->h'.objs.size=s.heap.objs.size+l.length+3 ->
   (∀b o,s.heap.get? b=some o->h'.get? b=some o)->R (.ok (.ret (.ref (s.heap.objs.size+l.length+2)))) { s with heap:=h' }) :=
 .of_wp λprog w A R s h=>by
  obtain⟨hl1,h⟩:=h;have line:(100:Nat)<=sizeLine:=by decide
  have hsl:=Kg s.heap.objs.size l;unfold Builtin.«zip.__new__»;refine aP ?_;unfold Builtin.SmallTypes.newClass;show wpAny _ _ (isType (.type "zip") >>= _) _ _ _;refine aP (wpAny_of_eq (a:=true) rfl ?_);show wpAny _ _ (isSubtype (.type "zip") (.type "zip") >>= _) _ _ _;refine aP (wpAny_of_eq (a:=true) sub_zip ?_);refine bW ?_;show wpAny _ _ (Builtin.SmallTypes.iterAll (l.map λp=>Value.ref p.1) >>= _) _ _ _;refine aP (zj9 hl1 λh1 k1 z1 i1=>?_);show wpAny _ _ (newTuple ((dX s.heap.objs.size l).map λp=>Value.ref p.it) >>= _) _ _ _;refine aP (wpAny_newTuple ?_ (by rw[cY];omega));refine aP (wpAny_newTuple ?_ (by simp only[cY];omega));refine aP ?_;unfold Builtin.SmallTypes.newRecord;refine wpAny_newObj_type ?_ (by first|trivial|(show(_:Nat)<=_;simp;decide)|size_fits);refine bW ⟨_,rfl,?_⟩;have z2:(h1.push (dO ((dX s.heap.objs.size l).map λp=>Value.ref p.it))).objs.size=s.heap.objs.size+l.length+1:=by rw[Heap.size_push,z1]
  have z3:((h1.push (dO ((dX s.heap.objs.size l).map λp=>Value.ref p.it))).push (dO (((dX s.heap.objs.size l).map λp=>Value.ref p.it).map λ_=>Value.none))).objs.size=s.heap.objs.size+l.length+2:=by rw[Heap.size_push,z2]
  have g1:∀o,((h1.push (dO ((dX s.heap.objs.size l).map λp=>Value.ref p.it))).push (dO (((dX s.heap.objs.size l).map λp=>Value.ref p.it).map λ_=>Value.none)) |>.push o).get? (s.heap.objs.size+l.length)=some (dO ((dX s.heap.objs.size l).map λp=>Value.ref p.it)):=λo=>by rw[<-z1];exact dF _ (dF _ (gG _ rfl))
  have g2:∀o,((h1.push (dO ((dX s.heap.objs.size l).map λp=>Value.ref p.it))).push (dO (((dX s.heap.objs.size l).map λp=>Value.ref p.it).map λ_=>Value.none)) |>.push o).get? (s.heap.objs.size+l.length+1)=some (dO ((dX s.heap.objs.size l).map λ_=>Value.none)):=λo=>by rw[<-z2];have:=dF o (gG (h1.push (dO ((dX s.heap.objs.size l).map λp=>Value.ref p.it))) (o:=dO (((dX s.heap.objs.size l).map λp=>Value.ref p.it).map λ_=>Value.none)) rfl);rw[List.map_map] at this ⊢;exact this
  have g3:((h1.push (dO ((dX s.heap.objs.size l).map λp=>Value.ref p.it))).push (dO (((dX s.heap.objs.size l).map λp=>Value.ref p.it).map λ_=>Value.none)) |>.push { cls := .type "zip",dict:=none,data := .fields #[.none,.bool false,.bool false,.ref (s.heap.objs.size+l.length),.ref (s.heap.objs.size+l.length+1)],slots:=#[] }).get? (s.heap.objs.size+l.length+2)=some { cls := .type "zip",dict:=none,data := .fields #[.none,.bool false,.bool false,.ref (s.heap.objs.size+l.length),.ref (s.heap.objs.size+l.length+1)],slots:=#[] }:=by rw[<-z3];exact gG _ rfl
  have fin:=h _ g3 (g1 _) (g2 _) (λp hp=>(i1 p hp).at λo e=>dF _ (dF _ (dF _ e))) (by rw[Heap.size_push,z3]) λb o e=>dF _ (dF _ (dF _ (k1 b o e)));show R (.ok (.ret (.ref ((h1.push (dO ((dX s.heap.objs.size l).map λp=>Value.ref p.it))).push (dO (((dX s.heap.objs.size l).map λp=>Value.ref p.it).map λ_=>Value.none))).objs.size))) { s with heap:=((h1.push (dO ((dX s.heap.objs.size l).map λp=>Value.ref p.it))).push (dO (((dX s.heap.objs.size l).map λp=>Value.ref p.it).map λ_=>Value.none))).push { cls := .type "zip",dict:=none,data := .fields #[.none,.bool false,.bool false,.ref h1.objs.size,.ref (h1.push (dO ((dX s.heap.objs.size l).map λp=>Value.ref p.it))).objs.size],slots:=#[] } };rw[z3,z2,z1];exact fin
end
noncomputable def rowAt{α:Type}:List (List α)->Nat->Option (List α)
 |[],_=>some []
 |xs::r,i=>(xs[i]?).bind λx=>(rowAt r i).map (x::·)
theorem Vw{α:Type}:∀{xss:List (List α)} {i:Nat} {row:List α},rowAt xss i=some row->row.length=xss.length
 |[],_,_,h=>by cases h;rfl
 |xs::r,i,row,h=>by simp only[rowAt,bC,bf] at h;obtain⟨x,_,r',e,rfl⟩:=h;simp[Vw e]
theorem Vv{α:Type}:∀{xss:List (List α)} {i j:Nat} {row:List α} {xs:List α} {x:α},rowAt xss i=some row->xss[j]?=some xs->row[j]?=some x->xs[i]?=some x
 |[],_,_,_,_,_,_,h,_=>by simp at h
 |ys::r,i,0,row,xs,x,h,h1,h2=>by simp only[rowAt,bC,bf] at h;obtain⟨y,e1,r',e,rfl⟩:=h;simp at h1 h2;subst h1;subst h2;exact e1
 |ys::r,i,j+1,row,xs,x,h,h1,h2=>by simp only[rowAt,bC,bf] at h;obtain⟨y,e1,r',e,rfl⟩:=h;exact Vv e (by simpa using h1) (by simpa using h2)
inductive SrcsR(K:FgA)(H:Hp):List (Addr×Bool)->List (List V)->Prop
 |nil:SrcsR K H [] []
 |tup {a:Addr} {xs:List V} {l:List (Addr×Bool)} {r:List (List V)}:dR K H a xs->SrcsR K H l r->SrcsR K H ((a,true)::l) (xs::r)
noncomputable def Itz(K:FgA)(srcs:List (Addr×Bool)):It :=
 ⟨λi H=>∃xss row,SrcsR K H srcs xss/\rowAt xss i=some row,
  λi H x H'=>∃p row,x = .ref p/\H p=none/\H'=upd H p (.tup row)/\∀xss,SrcsR K H srcs xss->rowAt xss i=some row,
  λi H=>∃xss,SrcsR K H srcs xss/\(xss.headD [])[i]?=none⟩
section
variable {X:Cx}{pz:List (Addr×Obj)}{Z:L2.St}{H:Hp}{s:Shared}
theorem Ut(I:Inv X pz Z H s):∀{l:List (Addr×Bool)} {r r':List (List V)},SrcsR X.K H l r->SrcsR X.K H l r'->r=r'
 |_,_,_,.nil,.nil=>rfl
 |_,_,_,.tup h t,.tup h' t'=>by rw[I.tuple_inj h h',Ut I t t']
theorem Ke(I:Inv X pz Z H s):∀{l:List (Addr×Bool)} {r:List (List V)},SrcsR X.K H l r->∃us:List (List Value),us.length=l.length /\
 (∀(j:Nat) p u,l[j]?=some p->us[j]?=some u->SrcAt s.heap ⟨0,p.1,p.2⟩ u)/\(∀(i:Nat) row,rowAt r i=some row->∃jg,rowAt us i=some jg/\Vals row jg)/\∀(i:Nat),(r.headD [])[i]?=none->(us.headD [])[i]?=none
 |_,_,.nil=>⟨[],rfl,λj p u h=>by simp at h,λi row h=>by cases h;exact⟨[],rfl,.nil⟩,λi _=>by simp⟩
 |_,_,@SrcsR.tup _ _ a xs l r h t=>by
  obtain⟨us,h1,h2,h3,h4⟩:=Ke I t;obtain⟨its,rv,ht,hz⟩:=I.tuple h;refine⟨its::us,by simp[h1],λj p u e1 e2=>?_,λi row e=>?_,λi e=>rv.none_of e⟩
  .cases j with
   |zero=>simp at e1 e2;subst e1;subst e2;unfold SrcAt;rw[if_pos rfl];exact ht
   |succ j=>exact h2 j p u (by simpa using e1) (by simpa using e2)
  .simp only[rowAt,bC,bf] at e;obtain⟨x,e1,r',e2,rfl⟩:=e;obtain⟨w,ew,fU⟩:=rv.get e1;obtain⟨ur,e3,r3⟩:=h3 i r' e2;exact⟨w::ur,by simp[rowAt,ew,e3],.cons fU r3⟩
def zoT{a:Addr}{u:HO}(h:Rd H a u):∃o,H a=some o:=by
 rcases h with h|⟨o,h⟩
 .exact⟨_,h⟩
 .exact⟨_,h⟩
theorem k_ne(I:Inv X pz Z H s){a b:Addr}{o:Obj}(hk:X.K.lookup a=some o)(hf:kE X pz H b):a≠b:=by
 rintro rfl
 have hb:=I.ok.mod.kin a o hk;rcases hf.2.2.2.1 with z|z
 .exact I.ok.noex a o hb z
 .exact absurd (dU (dU (cM hb) I.ok.bsz) z) (gM _)
theorem vp(I:Inv X pz Z H s){b:Addr}(hf:kE X pz H b):∀{l:List (Addr×Bool)} {r:List (List V)},SrcsR X.K H l r->∀p∈l,p.1≠b
 |_,_,.nil,p,hp=>by cases hp
 |_,_,.tup h t,p,hp=>by
  rcases List.mem_cons.mp hp with rfl|hp
  .rcases h with h|⟨o,_,_,hk,_⟩
   .obtain⟨o,e⟩:=zoT h;exact gU e hf.1
   .exact k_ne I hk hf
  .exact vp I hf t p hp
theorem Tc(I:Inv X pz Z H s):∀{l:List (Addr×Bool)} {r:List (List V)},SrcsR X.K H l r->∀p∈l,fV s.heap p
 |_,_,.nil,p,hp=>by cases hp
 |_,_,.tup h t,p,hp=>by
  rcases List.mem_cons.mp hp with rfl|hp
  .obtain⟨its,_,ht,_⟩:=I.tuple h;unfold fV;rw[if_pos rfl];exact⟨_,ht⟩
  .exact Tc I t p hp
theorem Inv.turnedN{t':Nat}{h':Heap}{ch:List Addr}(I:Inv X pz Z H s)(k:∀b o,b∉ch->s.heap.get? b=some o->h'.get? b=some o)(hf:∀b∈ch,kE X pz H b):Inv X pz Z H { s with heap:=h',toks:=t' }:=by
 have o6:∀b u,H b=some u->b∉ch:=λb u e hb=>by rw[(hf b hb).1] at e;cases e
 refine I.step (g':=s.gens) (d':=s.drawn) (ch:=ch) (λb hb=>⟨(hf b hb).2.2.2.1,(hf b hb).2.1,(hf b hb).2.2.2.2.1,(hf b hb).2.2.2.2.2⟩) (λb o _ _ hc e _=>k b o hc e) (λb o _ _ hc e _=>⟨o.slots,k b o hc e⟩) (λ_ _ _ _ n=>n)
  (λb o hc e=>⟨o,k b o hc e⟩) (λ_ _ e=>e) (λ_ _ _ e=>e) (λb ps e=>⟨#[],by rw[e];simp⟩) (λm hm=>?_) (λb u e=>?_) I.bare
 .obtain⟨o,es,ep,ho,r⟩:=hm;exact⟨o,es,ep,k _ o (λhb=>(hf _ hb).2.1 rfl) ho,r⟩
 .refine(I.hok b u e).stay (λc v hc q=>k c v ?_ q) (λ_ q=>q) λ_ _ q=>q;rcases hc with rfl|hc
  .exact o6 _ _ e
  .exact o6 _ _ hc
theorem Inv.turnedT{t':Nat}{h':Heap}{ch:List Addr}{row:List V}{jg:List Value}(I:Inv X pz Z H s)(k:∀b o,b∉ch->s.heap.get? b=some o->h'.get? b=some o)(hf:∀b∈ch,kE X pz H b)(ht:h'.get? s.heap.objs.size=some (dO jg))(rv:Vals row jg)(hz:row.length<=sizeLine):Inv X pz Z (upd H s.heap.objs.size (.tup row)) { s with heap:=h',toks:=t' }:=by
 have o6:∀b u,H b=some u->b∉ch:=λb u e hb=>by rw[(hf b hb).1] at e;cases e
 have hn:H s.heap.objs.size=none:=I.hok.fresh (bH _);have old:∀b o,s.heap.get? b=some o->b≠s.heap.objs.size:=λb o e=>dN (cM e);refine I.step (g':=s.gens) (d':=s.drawn) (ch:=ch) (λb hb=>⟨(hf b hb).2.2.2.1,(hf b hb).2.1,(hf b hb).2.2.2.2.1,(hf b hb).2.2.2.2.2⟩) (λb o _ _ hc e _=>k b o hc e) (λb o _ _ hc e _=>⟨o.slots,k b o hc e⟩)
  (λb o _ e n=>by rw[cD (old b o e)];exact n)
  (λb o hc e=>⟨o,k b o hc e⟩) (λb xs e=>by rw[cD (gU e hn)];exact e) (λb o u e=>by rw[cD (gU e hn)];exact e) (λb ps e=>⟨#[],by rw[cD (gU e hn),e];simp⟩) (λm hm=>?_) (λb u e=>?_) I.bare
 .obtain⟨o,es,ep,ho,r⟩:=hm;exact⟨o,es,ep,k _ o (λhb=>(hf _ hb).2.1 rfl) ho,r⟩
 .by_cases hb:b=s.heap.objs.size
  .subst hb;rw[fP] at e;cases e;exact⟨hz,jg,rv,⟨_,ht,rfl,_,rfl⟩⟩
  .rw[cD hb] at e;refine(I.hok b u e).stay (λc v hc q=>k c v ?_ q) (λc q=>by rw[cD (gU q hn)];exact q) λc xs q=>by rw[cD (gU q hn)];exact q
   rcases hc with rfl|hc
   .exact o6 _ _ e
   .exact o6 _ _ hc
end
structure xT(z TI TO:Addr)(ps:List Sub):Prop where
 TIz:TI≠z
 TOz:TO≠z
 TITO:TI≠TO
 iz:∀p∈ps,p.it≠z
 iTI:∀p∈ps,p.it≠TI
 iTO:∀p∈ps,p.it≠TO
 nd:(ps.map (·.it)).Nodup
theorem zmk{P:Program}{w:World}{K:FgA}{es:List Expr}{kk:Nat}{tp:Pos}{z TI TO:Addr}{ps:List Sub}{srcs:List (Addr×Bool)}(D:xT z TI TO ps)(jk:ps.map (λp=>(p.src,p.tup))=srcs)(hne:ps≠[])(hps:ps.length<=100):
 uZ P w K (.Tuple es kk tp) (Itz K srcs) (z::TI::TO::ps.map (·.it)) z (λi h=>IsZip h z TI TO .none/\h.get? TI=some (dO (ps.map λp=>Value.ref p.it))/\(∃ys,h.get? TO=some (dO ys)/\ys.length=ps.length)/\∀p∈ps,cO h p i) where
 mem:=eZ
 obj:=λi h ⟨h1,h2,⟨ys,h3,_⟩,h4⟩ b hb=>by
  rcases List.mem_cons.mp hb with rfl|hb
  .exact⟨_,h1,λv z=>by cases z⟩
  rcases List.mem_cons.mp hb with rfl|hb
  .exact⟨_,h2,λv z=>by cases z⟩
  rcases List.mem_cons.mp hb with rfl|hb
  .exact⟨_,h3,λv z=>by cases z⟩
  obtain⟨p,hp,rfl⟩:=List.mem_map.mp hb;exact(h4 p hp).obj
 keep:=λi h h' ⟨h1,h2,⟨ys,h3,h3'⟩,h4⟩ k=>by refine⟨k z eZ _ h1,k TI (by simp) _ h2,⟨ys,k TO (by simp) _ h3,h3'⟩,λp hp=>(h4 p hp).at λo e=>k _ ?_ o e⟩;exact cU _ (cU _ (cU _ (List.mem_map.mpr ⟨p,hp,rfl⟩)))
 item:=by
  intro X hP hw hK hc i pz s Z H E I hf st hg;subst hP hw hK;obtain⟨h1,h2,⟨ys,h3,h3'⟩,h4⟩:=st;obtain⟨xss,row,hS,hrow⟩:=hg;obtain⟨us,u1,u2,u3,u4⟩:=Ke I hS;obtain⟨jg,e1,rv⟩:=u3 i row hrow;have hlen:srcs.length=ps.length:=by rw[<-jk,cY]
  have fz:=hf z eZ;have Hl:=hf TO (by simp);have fit:∀p∈ps,kE X pz H p.it:=λp hp=>hf _ (cU _ (cU _ (cU _ (List.mem_map.mpr ⟨p,hp,rfl⟩))));have sm:∀p∈ps,(p.src,p.tup)∈srcs:=λp hp=>by rw[<-jk];exact List.mem_map.mpr ⟨p,hp,rfl⟩
  have DD:xW z TI TO ps:=⟨D.TIz,D.TOz,D.TITO,D.iz,D.iTI,D.iTO,λp hp=>vp I fz hS _ (sm p hp),λp hp=>vp I Hl hS _ (sm p hp),λp hp q hq=>vp I (fit q hq) hS _ (sm p hp),D.nd⟩
  have ul:us.length=ps.length:=by rw[u1,hlen]
  have hrl:jg.length=ps.length:=by rw[Vw e1,ul]
  have hat:∀(j:Nat) p xs,ps[j]?=some p->us[j]?=some xs->SrcAt s.heap p xs:=λj p xs hp hx=>by
   have hj:srcs[j]?=some (p.src,p.tup):=by rw[<-jk,fW,hp];rfl
   exact u2 j _ xs hj hx
  refine zk6 DD hne hps h1 h2 h3 h3' ul hrl h4 hat (λj xs x hx hr=>Vv e1 hx hr) λh' a1 a2 a3 a4 a5 a6=>?_;refine⟨_,rfl,wpAny_letOwnedTupleGo_zip (s:={ s with heap:=h' }) a1 λh'' b1 b2=>?_⟩;have Qg:s.heap.objs.size≠z:=Nat.ne_of_gt (cM h1);have kp:∀c o,c∉(z::TO::ps.map (·.it))->s.heap.get? c=some o->h''.get? c=some o:=λc o hc e=>by have c1:c≠z:=λq=>hc (by simp[q]);have c2:c≠TO:=λq=>hc (by simp[q]);have c3:∀p∈ps,c≠p.it:=λp hp q=>hc (cU _ (cU _ (List.mem_map.mpr ⟨p,hp,q.symm⟩)));exact b2.extBut _ _ c1 (a6 c o c1 c2 c3 e)
  have fch:∀b∈z::TO::ps.map (·.it),kE X pz H b:=λb hb=>by
   rcases List.mem_cons.mp hb with rfl|hb
   .exact fz
   rcases List.mem_cons.mp hb with rfl|hb
   .exact Hl
   exact hf b (cU _ (cU _ (cU _ hb)))
  have line:(100:Nat)<=sizeLine:=by decide
  have I1:Inv X pz Z (upd H s.heap.objs.size (.tup row)) { s with heap:=h'' }:=Inv.turnedT (t':=s.toks) I kp fch (b2.extBut _ _ Qg a4) rv (by rw[rv.length,hrl];omega);refine⟨.ref s.heap.objs.size,_,I1,rfl,⟨s.heap.objs.size,row,rfl,I.hok.fresh (bH _),rfl,λxss' h=>by rw[Ut I h hS];exact hrow⟩,⟨b1,?_,⟨jg,b2.extBut _ _ D.TOz a2,hrl⟩,λp hp=>(a3 p hp).at λo e=>b2.extBut _ _ (D.iz p hp) e⟩,λb hb=>?_⟩
  .exact b2.extBut _ _ D.TIz (a6 _ _ D.TIz D.TITO (λp hp=>(D.iTI p hp).symm) h2)
  .have hlt:b<s.heap.objs.size:=by
    rcases List.mem_cons.mp hb with rfl|hb
    .exact cM h1
    rcases List.mem_cons.mp hb with rfl|hb
    .exact cM h2
    rcases List.mem_cons.mp hb with rfl|hb
    .exact cM h3
    obtain⟨p,hp,rfl⟩:=List.mem_map.mp hb;obtain⟨o,e,_⟩:=(h4 p hp).obj;exact cM e
   rw[cD (dN hlt)];exact(hf b hb).1
 done:=by
  intro X hP hw hK hc i pz s Z H E I hf st hg;subst hP hw hK;obtain⟨h1,h2,⟨ys,h3,h3'⟩,h4⟩:=st;obtain⟨xss,hS,hrow⟩:=hg;obtain⟨us,u1,u2,u3,u4⟩:=Ke I hS;have e1:=u4 i hrow;have hlen:srcs.length=ps.length:=by rw[<-jk,cY]
  have fz:=hf z eZ;have Hl:=hf TO (by simp);have fit:∀p∈ps,kE X pz H p.it:=λp hp=>hf _ (cU _ (cU _ (cU _ (List.mem_map.mpr ⟨p,hp,rfl⟩))));have sm:∀p∈ps,(p.src,p.tup)∈srcs:=λp hp=>by rw[<-jk];exact List.mem_map.mpr ⟨p,hp,rfl⟩
  have DD:xW z TI TO ps:=⟨D.TIz,D.TOz,D.TITO,D.iz,D.iTI,D.iTO,λp hp=>vp I fz hS _ (sm p hp),λp hp=>vp I Hl hS _ (sm p hp),λp hp q hq=>vp I (fit q hq) hS _ (sm p hp),D.nd⟩
  have ul:us.length=ps.length:=by rw[u1,hlen]
  have hat:∀(j:Nat) p xs,ps[j]?=some p->us[j]?=some xs->SrcAt s.heap p xs:=λj p xs hp hx=>by
   have hj:srcs[j]?=some (p.src,p.tup):=by rw[<-jk,fW,hp];rfl
   exact u2 j _ xs hj hx
  obtain⟨p,ps,rfl⟩:=List.exists_cons_of_ne_nil hne;obtain⟨x,us,rfl⟩:=List.exists_cons_of_ne_nil (l:=us) (λq=>by rw[q] at ul;simp at ul);refine zm0 (I.ok.hd hc) DD h1 h2 (h4 p eZ) (hat 0 p x rfl rfl) e1 λh' a6=>⟨rfl,?_⟩
  refine Inv.turnedN (t':=s.toks) (ch:=[z,p.it]) I (λc o hc e=>a6 c o (λq=>hc (by simp[q])) (λq=>hc (by simp[q])) e) λb hb=>?_;rcases List.mem_cons.mp hb with rfl|hb
  .exact fz
  .rw[List.mem_singleton.mp hb];exact fit p eZ
 self:=λ_ _ _ _ _ st h=>wpAny_pyIter_zip st.1 h
def znA:bootBuiltins "zip" = some (.type "zip"):=by decide +kernel
theorem arity(l:List Value)(h2:2<=l.length)(h4:l.length<=4):checkTypeCall "zip" ⟨l,[]⟩=pure ()/\checkBuiltinCall "zip.__new__" ⟨.type "zip" :: l,[]⟩=pure ()/\∀obj,argsOk "object.__init__" ⟨obj::l,[]⟩:=by
 have ao:∀(k:List Value),k.length<=5->k≠[]->argsOk "object.__init__" ⟨k,[]⟩:=λk hk hn=>by
  unfold argsOk;rw[signature?_of (id := "object.__init__") (n:=['_','_','t','i','n','i','_','_']) (o:=['t','c','e','j','b','o']) (by kernel_rfl) F.owner_object];rcases k with _|⟨k1,_|⟨k2,_|⟨k3,_|⟨k4,_|⟨k5,_|⟨k6,r⟩⟩⟩⟩⟩⟩
  .exact absurd rfl hn
  .kernel_rfl
  .kernel_rfl
  .kernel_rfl
  .kernel_rfl
  .kernel_rfl
  .exact absurd hk (by simp only[jo];omega)
 rcases l with _|⟨a,_|⟨b,_|⟨c,_|⟨d,_|⟨e,r⟩⟩⟩⟩⟩
 .exact absurd h2 (by simp only[zJ];omega)
 .exact absurd h2 (by simp only[jo,zJ];omega)
 .exact⟨by kernel_rfl,by kernel_rfl,λo=>ao _ (by simp) (by simp)⟩
 .exact⟨by kernel_rfl,by kernel_rfl,λo=>ao _ (by simp) (by simp)⟩
 .exact⟨by kernel_rfl,by kernel_rfl,λo=>ao _ (by simp) (by simp)⟩
 .exact absurd h4 (by simp only[jo];omega)
noncomputable def CQ(K:FgA)(ta:TA):TI:=λZ H R=>ta Z H λvs H1=>∃srcs:List (Addr×Bool),vs=srcs.map (λp=>V.ref p.1)/\2<=srcs.length/\srcs.length<=4/\(∃xss,SrcsR K H1 srcs xss)/\R (Itz K srcs) H1
theorem Vb:∀{l:List (Addr×Bool)} {us:List Value},Vals (l.map λp=>V.ref p.1) us->us=l.map λp=>Value.ref p.1
 |[],_,.nil=>rfl
 |_::_,_,.cons r t=>by cases r;rw[Vb t];rfl
theorem zrt{X:Cx}{es ts:List Expr}{kk:Nat}{tp p pos:Pos}{ta:TA}{e:Expr}(hg:Gl X "zip")(hm:X.mg "zip" = none)(ha:PA X (e::es) ta)(hst:starEach (e::es) X.env=(false,eval e X.env)::starEach es X.env)(hpl:(backTo pos (starEach es X.env)).any (·.1)=false):PI X (.Tuple ts kk tp) (.Call (.Name "zip" p) (e::es) [] pos) (CQ X.K ta):=by
 intro pz s Z H R I h;refine Call_ (qW I hg hm znA (PyProof.Rows.callWith_type1 (bQ (ha pos pz s Z H _ I h) λus s1 ⟨vs,H1,I1,r1,q1⟩=>?_) hst hpl));obtain⟨srcs,e0,h2,h4,⟨xss,hS⟩,q⟩:=q1;subst e0;have eu:=Vb r1;subst eu;obtain⟨c1,c2,c3⟩:=arity (srcs.map λp=>Value.ref p.1) (by simpa using h2) (by simpa using h4);refine callType_new F.called_zip (by decide) c1 c2 c3 F.entry_zip_new (zlf (l:=srcs) (by omega)) ⟨Tc I1 hS,λh' z1 z2 z3 z4 z5 z6=>?_⟩;show _/\_;refine⟨⟨_,z1,rfl⟩,?_⟩;refine wpAny_pyIter_zip (s:={ s1 with heap:=h' }) z1 ?_;have I2:Inv X pz Z H1 { s1 with heap:=h' }:=I1.kept (t':=s1.toks) z6;have hl:(dX s1.heap.objs.size srcs).length=srcs.length:=Kg _ _;have hmap:∀(n:Nat) (l:List (Addr×Bool)),(dX n l).map (λp=>(p.src,p.tup))=l:=λn l=>by
  induction l generalizing n with
  |nil=>rfl
  |cons a r ih=>obtain⟨a,t⟩:=a;rw[dX,iJ,ih]
 have lt:∀p∈dX s1.heap.objs.size srcs,s1.heap.objs.size<=p.it/\p.it<s1.heap.objs.size+srcs.length:=λp hp=>⟨(FJ _ _ p hp).1,(FJ _ _ p hp).2.1⟩
 refine⟨_,_,_,_,H1,rfl,I2,zmk (K:=X.K) (srcs:=srcs) (ps:=dX s1.heap.objs.size srcs) (z:=s1.heap.objs.size+srcs.length+2) (TI:=s1.heap.objs.size+srcs.length) (TO:=s1.heap.objs.size+srcs.length+1)
  ⟨dN (by omega),dN (by omega),dN (by omega),λp hp=>dN (dU (lt p hp).2 (by omega)),λp hp=>dN (lt p hp).2,λp hp=>dN (dU (lt p hp).2 (by omega)),Td _ _⟩ (hmap _ _) (λz=>by rw[z] at hl;simp at hl;omega) (by omega),⟨z1,z2,⟨_,z3,by simp⟩,z4⟩,λb hb=>?_,q⟩
 have hge:s1.heap.objs.size<=b:=by
  rcases List.mem_cons.mp hb with rfl|hb
  .omega
  rcases List.mem_cons.mp hb with rfl|hb
  .omega
  rcases List.mem_cons.mp hb with rfl|hb
  .omega
  obtain⟨p,hp,rfl⟩:=List.mem_map.mp hb;exact(lt p hp).1
 exact I1.fpOk hge (I1.hok.fresh hge)
end MZ
end
section
namespace MX
open PySem PySem.Spec PyProof.Rows L2
inductive zF where
 |fix (xs:List D)|lst (n:Nat)|zip (ds:List D)|itm (n m:Nat)|enm (n:Nat)
noncomputable def BK(S:So):D->Option (List D)
 |.tup xs=>some xs
 |_=>none
noncomputable def qO(S:So):List D->Option (List (List D))
 |[]=>some []
 |d::r=>(BK S d).bind λxs=>(qO S r).map (xs::·)
noncomputable def QR:List (List D)->Option Nat
 |[]=>none
 |[xs]=>some xs.length
 |xs::r=>(QR r).map λn=>min xs.length n
noncomputable def dH:zF->Nat->So->Option (Option D)
 |.fix xs,i,_=>some xs[i]?
 |.lst n,i,S=>match S[n]? with
  |some (.lst xs)=>some xs[i]?
  |some (.frz xs)=>some xs[i]?
  |_=>none
 |.zip ds,i,S=>(qO S ds).bind λxss=>match MZ.rowAt xss i with
  |some r=>some (some (.tup r))
  |none=>match(xss.headD [])[i]? with
   |none=>some none
   |some _=>none
 |.itm n m,i,S=>match S[n]? with
  |some (.dct xs)=>if xs.length=m then some ((xs[i]?).map λx => .tup [kD x.1,.int x.2]) else none
  |_=>none
 |.enm n,i,S=>match S[n]? with
  |some (.lst xs)=>some ((xs[i]?).map λx => .tup [.int (i:Nat),x])
  |_=>none
noncomputable def qG:zF->So->Option Nat
 |.fix xs,_=>some xs.length
 |.lst n,S=>match S[n]? with
  |some (.lst xs)=>some xs.length
  |some (.frz xs)=>some xs.length
  |_=>none
 |.zip ds,S=>(qO S ds).bind QR
 |.itm n m,S=>match S[n]? with
  |some (.dct xs)=>if xs.length=m then some m else none
  |_=>none
 |.enm n,S=>match S[n]? with
  |some (.lst xs)=>some xs.length
  |_=>none
abbrev IF:=Sg->So->Option (zF×So)
def zE(K:FgA)(H₀:Hp)(α₀:List Addr)(j:zF)(J:It):Prop:=∀(i:Nat) H α S,Ext K H₀ α₀ H α->aA K H α S ->
 (dH j i S=some none->J.stop i H)/\∀d,dH j i S=some (some d)->J.go i H/\∀x H',J.yld i H x H'->Same H H'/\Rep K H' α d x
noncomputable def YD(K:FgA)(f:IF):TI:=λZ H R=>∃σd S α j S',bI K H α σd Z/\aA K H α S/\f σd S=some (j,S')/\∀J H' α',aA K H' α' S'->Ext K H α H' α'->zE K H' α' j J->R J H'
def SI(X:Cx)(tg e:Expr)(f:IF):Prop:=PI X tg e (YD X.K f)
noncomputable def fK(fe:EF):IF:=λZ S=>(fe Z S).bind λr=>match r.1 with
 |.tup xs=>some (.fix xs,r.2)
 |.ref n=>match r.2[n]? with
  |some (.lst _)=>some (.lst n,r.2)
  |some (.frz _)=>some (.lst n,r.2)
  |_=>none
 |_=>none
noncomputable def dG(lo:Int)(n:Nat):List D:=(List.range n).map λk => .int (lo+(k:Nat))
noncomputable def iY(fa:AF):IF:=λZ S=>(fa Z S).bind λr=>match r.1 with
 |[.int j]=>if -(2 ^ 62)<=j/\j<2 ^ 62 then some (.fix (dG 0 j.toNat),r.2) else none
 |_=>none
noncomputable def wC(fa:AF):IF:=λZ S=>(fa Z S).bind λr=>match r.1 with
 |[.int i,.int j]=>if(-(2 ^ 62)<=i/\i<2 ^ 62) /\ -(2 ^ 62)<=j/\j<2 ^ 62 then some (.fix (dG i (j - i).toNat),r.2) else none
 |_=>none
noncomputable def qI(fa:AF):IF:=λZ S=>(fa Z S).bind λr=>if 2<=r.1.length/\r.1.length<=4 then(qO r.2 r.1).map λ_=>(.zip r.1,r.2) else none
inductive uY(K:FgA)(H:Hp)(α:List Addr):List D->List (Addr×Bool)->Prop
 |nil:uY K H α [] []
 |tup {a:Addr} {xs:List D} {vs:List V} {ds:List D} {l:List (Addr×Bool)}:dR K H a vs->aK K H α xs vs->uY K H α ds l->uY K H α (.tup xs::ds) ((a,true)::l)
inductive xX(K:FgA)(H:Hp)(α:List Addr):List (List D)->List (List V)->Prop
 |nil:xX K H α [] []
 |cons {xs:List D} {vs:List V} {r:List (List D)} {q:List (List V)}:aK K H α xs vs->xX K H α r q->xX K H α (xs::r) (vs::q)
theorem Gi{K:FgA}{H H1:Hp}{α α1:List Addr}{S1:So}(x1:Ext K H α H1 α1)(s1:aA K H1 α1 S1):∀{ds:List D} {l:List (Addr×Bool)} {xss:List (List D)},uY K H α ds l->qO S1 ds=some xss->∃kY,MZ.SrcsR K H1 l kY/\xX K H1 α1 xss kY
 |_,_,_,.nil,e=>by cases e;exact⟨[],.nil,.nil⟩
 |_,_,_,.tup h r t,e=>by simp only[qO,BK,cu,bf] at e;obtain⟨yss,e1,rfl⟩:=e;obtain⟨kY,h1,h2⟩:=Gi x1 s1 t e1;exact⟨_,.tup (x1.tups _ _ h) h1,.cons (r.mono x1) h2⟩
theorem UL{K:FgA}{H:Hp}{α:List Addr}{i:Nat}:∀{xss:List (List D)} {kY:List (List V)},xX K H α xss kY->∀row,MZ.rowAt xss i=some row->∃rA,MZ.rowAt kY i=some rA/\aK K H α row rA
 |_,_,.nil,row,h=>by cases h;exact⟨[],rfl,.nil⟩
 |_,_,.cons h t,row,e=>by simp only[MZ.rowAt,bC,bf] at e;obtain⟨x,e1,r',e2,rfl⟩:=e;obtain⟨v,hv,rv⟩:=h.get e1;obtain⟨vr,e3,r3⟩:=UL t r' e2;exact⟨v::vr,by simp[MZ.rowAt,hv,e3],.cons rv r3⟩
theorem zlC{xss:List (List D)}{kY:List (List V)}(h:xX K H α xss kY)(e:(xss.headD [])[i]?=none):(kY.headD [])[i]?=none:=by
 cases h with
 |nil=>simp
 |@cons xs vs _ _ h t=>exact j9 (by show vs.length<=i;rw[<-h.length];exact List.getElem?_eq_none_iff.mp e)
theorem zpO{l:List (Addr×Bool)}(h:uY K H α ds l):zE K H α (.zip ds) (MZ.Itz K l):=λi H1 α1 S1 x1 s1=>by
 simp only[dH,bC];refine⟨λ⟨xss,e1,e2⟩=>?_,λd ⟨xss,e1,e2⟩=>?_⟩
 .obtain⟨kY,h1,h2⟩:=Gi x1 s1 h e1;split at e2
  .cases e2
  .split at e2
   .rename_i q;exact⟨kY,h1,zlC h2 q⟩
   .cases e2
 .obtain⟨kY,h1,h2⟩:=Gi x1 s1 h e1;split at e2
  .rename_i row e9;cases e2;obtain⟨rA,e3,r3⟩:=UL h2 row e9;refine⟨⟨kY,rA,h1,e3⟩,λx H' y=>?_⟩;obtain⟨p,row',rfl,hp,rfl,hy⟩:=y;have:=hy kY h1;rw[e3] at this;cases this;exact⟨mj hp,.tup (dR.of fP) (r3.mono (Same.ext (mj hp)))⟩
  .split at e2<;>cases e2
theorem Tv{K:FgA}{H:Hp}{α:List Addr}{S:So}(hs:aA K H α S):∀{ds:List D} {vs:List V} {xss:List (List D)},aK K H α ds vs->qO S ds=some xss->∃l,uY K H α ds l/\vs=l.map λp=>V.ref p.1
 |_,_,_,.nil,_=>⟨[],.nil,rfl⟩
 |_,_,_,.cons r rr,e=>by
  simp only[qO,bC,bf] at e;obtain⟨xs,e0,yss,e1,rfl⟩:=e;obtain⟨l,h1,h2⟩:=Tv hs rr e1;cases r with
  |tup h q=>exact⟨_,.tup h q h1,by rw[h2];rfl⟩
  |_=>cases e0
theorem U4{K:FgA}{H:Hp}{α:List Addr}:∀{ds:List D} {l:List (Addr×Bool)},uY K H α ds l->ds.length=l.length
 |_,_,.nil=>rfl
 |_,_,.tup _ _ t=>by simp[U4 t]
section
variable {X:Cx}{tg:Expr}
theorem PI.or{t t':TI}(h:PI X tg e t)(h':PI X tg e t'):PI X tg e (λZ H R=>t Z H R\/t' Z H R):=λpz s Z H R I q=>by
 rcases q with q|q
 .exact h pz s Z H R I q
 .exact h' pz s Z H R I q
theorem zpP(h:dR K H a vs)(r:aK K H α ds vs):zE K H α (.fix ds) (Qy K a):=λi H1 α1 S1 x1 s1=>by
 have h1:=x1.tups _ _ h;have r1:=r.mono x1;refine⟨λe=>?_,λd e=>?_⟩
 .have e':ds[i]?=none:=Option.some.inj e;exact⟨vs,h1,by rw[<-r.length];exact List.getElem?_eq_none_iff.mp e'⟩
 .obtain⟨v,e1,q⟩:=r1.get (Option.some.inj e);refine⟨⟨vs,v,h1,e1⟩,λx H' y=>?_⟩;obtain⟨rfl,y⟩:=y;have:=y vs h1;rw[e1] at this;cases this;exact⟨Same.refl _,q⟩
theorem RZ{n:Nat}(h:α[n]?=some a):zE K H α (.lst n) (zB K a):=λi H1 α1 S1 x1 s1=>by
 have h1:=x1.pre _ _ h;have core:∀ds,(∃vs,d8 K H1 a vs/\aK K H1 α1 ds vs)->((some ds[i]?=some (none:Option D))->(zB K a).stop i H1)/\∀d,some ds[i]?=some (some d)->(zB K a).go i H1/\∀x H',(zB K a).yld i H1 x H'->Same H1 H'/\Rep K H' α1 d x:=λds ⟨vs,q,r⟩=>by
  refine⟨λe=>?_,λd e=>?_⟩
  .have e':ds[i]?=none:=Option.some.inj e;exact⟨vs,q,by rw[<-r.length];exact List.getElem?_eq_none_iff.mp e'⟩
  .obtain⟨v,e1,rv⟩:=r.get (Option.some.inj e);refine⟨⟨vs,v,q,e1⟩,λx H' y=>?_⟩;obtain⟨rfl,y⟩:=y;have:=y vs q;rw[e1] at this;cases this;exact⟨Same.refl _,rv⟩
 unfold dH;cases hm:S1[n]? with
 |none=>simp only[hm];exact⟨λe=>(nomatch e),λd e=>(nomatch e)⟩
 |some o =>
  have hob:=s1.obj _ _ _ hm h1;cases o with
  |lst ds=>simp only[hm];obtain⟨vs,q,r⟩:=hob;exact core ds ⟨vs,d8.of q,r⟩
  |frz ds=>simp only[hm];obtain⟨vs,q,r⟩:=hob;exact core ds ⟨vs,q.sq,r⟩
  |ins C fs=>simp only[hm];exact⟨λe=>(nomatch e),λd e=>(nomatch e)⟩
  |dct xs=>simp only[hm];exact⟨λe=>(nomatch e),λd e=>(nomatch e)⟩
  |tbl x=>simp only[hm];exact⟨λe=>(nomatch e),λd e=>(nomatch e)⟩
theorem Le{lo:Int}{n:Nat}:(dG lo n)[i]?=if i<n then some (.int (lo+(i:Nat))) else none:=by
 unfold dG;rw[fW];by_cases h:i<n
 .rw[if_pos h,List.getElem?_range h];rfl
 .rw[if_neg h,j9 (by simpa using h)];rfl
theorem Vh{lo:Int}{n:Nat}:zE K H α (.fix (dG lo n)) (DW lo n):=λi H1 α1 S1 x1 s1=>by
 simp only[dH];rw[Le];by_cases h:i<n
 .rw[if_pos h];refine⟨λe=>(nomatch e),λd e=>⟨h,λx H' y=>?_⟩⟩;obtain⟨rfl,rfl⟩:=y;cases e;exact⟨Same.refl _,.int _⟩
 .rw[if_neg h];exact⟨λ_=>Nat.le_of_not_lt h,λd e=>(nomatch e)⟩
theorem zqX(he:SE X e fe):SI X tg e (fK fe):=by
 refine PI.imp (PI.or (zru he) (zo5 he)) λZ H R h=>?_;obtain⟨σd,S,α,j,S',hv,hs,hf,k⟩:=h;unfold fK at hf;simp only[bC] at hf;obtain⟨⟨d,S1⟩,e1,e2⟩:=hf;cases d with
 |tup xs =>
  cases e2;refine .inl ⟨σd,S,α,.tup xs,_,hv,hs,e1,λv H1 α1 s1 x1 r1=>?_⟩;cases r1 with
  |tup h r=>exact⟨_,rfl,⟨_,h⟩,k _ _ _ s1 x1 (zpP h r)⟩
 |ref n =>
  refine .inr ⟨σd,S,α,.ref n,S1,hv,hs,e1,λv H1 α1 s1 x1 r1=>?_⟩;cases r1 with
  |ref h =>
   refine⟨_,rfl,?_⟩;simp only at e2;cases hm:S1[n]? with
   |none=>simp[hm] at e2
   |some o =>
    have hob:=s1.obj _ _ _ hm h;cases o with
    |lst ds=>simp only[hm] at e2;cases e2;obtain⟨vs,q,r⟩:=hob;exact⟨⟨vs,d8.of q⟩,k _ _ _ s1 x1 (RZ h)⟩
    |frz ds=>simp only[hm] at e2;cases e2;obtain⟨vs,q,r⟩:=hob;exact⟨⟨vs,q.sq⟩,k _ _ _ s1 x1 (RZ h)⟩
    |ins C fs=>simp[hm] at e2
    |dct xs=>simp[hm] at e2
    |tbl x=>simp[hm] at e2
 |_=>cases e2
theorem zkQ{a:Expr}(hg:Gl X "range")(hm:X.mg "range" = none)(ha:SA X [a] fa)(hst:starEach [a] X.env=[(false,eval a X.env)]):SI X tg (.Call (.Name "range" p) [a] [] pos) (iY fa):=by
 refine PI.imp (zkY hg hm ha hst) λZ H R h=>?_;obtain⟨σd,S,α,j,S',hv,hs,hf,k⟩:=h;unfold iY at hf;simp only[bC] at hf;obtain⟨⟨ds,S1⟩,e1,e2⟩:=hf;refine⟨σd,S,α,ds,S1,hv,hs,e1,λvs H1 α1 s1 x1 r1=>?_⟩;split at e2
 .rename_i jj hj;simp only at hj;subst hj;split at e2
  .rename_i hb;cases e2;cases r1 with
   |cons r rr=>cases r;cases rr;exact⟨jj,rfl,hb.1,hb.2,k _ _ _ s1 x1 Vh⟩
  .cases e2
 .cases e2
theorem zkP{a b:Expr}(hg:Gl X "range")(hm:X.mg "range" = none)(ha:SA X [a,b] fa)(hst:starEach [a,b] X.env=[(false,eval a X.env),(false,eval b X.env)])(hst2:starEach [b] X.env=[(false,eval b X.env)]):
 SI X tg (.Call (.Name "range" p) [a,b] [] pos) (wC fa):=by
 refine PI.imp (zkX hg hm ha hst hst2) λZ H R h=>?_;obtain⟨σd,S,α,j,S',hv,hs,hf,k⟩:=h;unfold wC at hf;simp only[bC] at hf;obtain⟨⟨ds,S1⟩,e1,e2⟩:=hf;refine⟨σd,S,α,ds,S1,hv,hs,e1,λvs H1 α1 s1 x1 r1=>?_⟩;split at e2
 .rename_i ii jj hj;simp only at hj;subst hj;split at e2
  .rename_i hb;cases e2;cases r1 with
   |cons r rr =>
    cases r;cases rr with
    |cons r rr=>cases r;cases rr;exact⟨ii,jj,rfl,⟨hb.1.1,hb.1.2,hb.2.1,hb.2.2⟩,k _ _ _ s1 x1 Vh⟩
  .cases e2
 .cases e2
theorem zqW{ts:List Expr}{tp:Pos}(hg:Gl X "zip")(hm:X.mg "zip" = none)(ha:SA X (e::es) fa)(hst:starEach (e::es) X.env=(false,eval e X.env)::starEach es X.env)(hpl:(backTo pos (starEach es X.env)).any (·.1)=false):SI X (.Tuple ts kk tp) (.Call (.Name "zip" p) (e::es) [] pos) (qI fa):=by
 refine PI.imp (MZ.zrt hg hm ha hst hpl) λZ H R h=>?_;obtain⟨σd,S,α,j,S',hv,hs,hf,k⟩:=h;unfold qI at hf;simp only[bC] at hf;obtain⟨⟨ds,S1⟩,e1,e2⟩:=hf;refine⟨σd,S,α,ds,S1,hv,hs,e1,λvs H1 α1 s1 x1 r1=>?_⟩;split at e2
 .rename_i hb;simp only[bf] at e2;obtain⟨xss,e3,e4⟩:=e2;cases e4;obtain⟨l,h1,h2⟩:=Tv s1 r1 e3;have hl:=U4 h1;obtain⟨kY,h3,_⟩:=Gi Ext.refl s1 h1 e3;exact⟨l,h2,by rw[<-hl];exact hb.1,by rw[<-hl];exact hb.2,⟨kY,h3⟩,k _ _ _ s1 x1 (zpO h1)⟩
 .cases e2
end
noncomputable def jJ(nx:Nat->So->Option (Option D))(g:GF)(f:SF):Nat->Nat->SF
 |0,i=>λZ S=>match nx i S with
  |some none=>some (.nx,Z,S)
  |_=>none
 |k+1,i=>λZ S=>match nx i S with
  |some (some d)=>(g d Z S).bind λq=>(f q.1 q.2).bind λr=>match r.1 with
   |.nx=>jJ nx g f k (i+1) r.2.1 r.2.2
   |.ct=>jJ nx g f k (i+1) r.2.1 r.2.2
   |.bk=>some (.nx,r.2.1,r.2.2)
   |.rt d=>some (.rt d,r.2.1,r.2.2)
  |_=>none
noncomputable def jM(fi:IF)(g:GF)(f:SF):SF:=λZ S=>(fi Z S).bind λr=>(qG r.1 r.2).bind λn=>jJ (dH r.1) g f n 0 Z r.2
theorem zqO{tg iter:Expr}{body:List Stmt}{fi:IF}{g:GF}{f:SF}(hp:PassesOwn (model X.prog X.w) X.A X.env X.xe)(hc:X.calm=true)(hi:SI X tg iter fi)(hg:SG X tg g)(hb:uz X body f)(hfs:∀x,foldedSetIterable iter X.env x=pure x):SS X (.For tg iter body [] pos) (jM fi g f):=by
 refine PS.imp (zrp hp hc hi hg hb hfs) λD Z H h=>?_;obtain⟨σd,S,α,fl,σd',S',hv,hs,hf,k⟩:=h;unfold jM at hf;simp only[bC] at hf;obtain⟨⟨j,S1⟩,e1,n,e2,e3⟩:=hf;refine⟨σd,S,α,j,S1,hv,hs,e1,λJ H1 α1 s1 x1 jr=>?_⟩;refine⟨λi m σ2 H2=>∃σd2 S2 α2,bI X.K H2 α2 σd2 σ2/\aA X.K H2 α2 S2/\Ext X.K H1 α1 H2 α2/\jJ (dH j) g f m i σd2 S2=some (fl,σd',S'),⟨n,σd,S1,α1,hv.mono x1,s1,Ext.refl,e3⟩,?_⟩
 rintro i m σ2 H2 ⟨σd2,S2,α2,v2,s2,x2,e⟩
 obtain⟨o9,Py⟩:=jr i H2 α2 S2 x2 s2;cases m with
 |zero =>
  unfold jJ at e;split at e
  .rename_i hn;cases e;exact .inl ⟨o9 hn,k _ _ _ v2 s2 (x1.trans x2)⟩
  .cases e
 |succ m =>
  unfold jJ at e;split at e
  .rename_i d hn;obtain⟨hgo,hy⟩:=Py d hn;simp only[bC] at e;obtain⟨⟨σ3,S3⟩,e4,⟨Za,σ4,S4⟩,e5,e6⟩:=e;refine .inr ⟨hgo,λσ5 H5=>∃σd5 S5 α5,bI X.K H5 α5 σd5 σ5/\aA X.K H5 α5 S5/\Ext X.K H1 α1 H5 α5/\jJ (dH j) g f m (i+1) σd5 S5=some (fl,σd',S'),λσ5 H5 q=>⟨m,Nat.lt_succ_self _,q⟩,λx H3 y=>?_⟩;obtain⟨sm,rx⟩:=hy x H3 y;have x3:Ext X.K H2 α2 H3 α2:=Same.ext sm;refine⟨σd2,S2,α2,d,σ3,S3,v2.mono x3,s2.mono sm,rx,e4,λσ5 H5 α5 v5 s5 x5=>?_⟩;refine⟨σ3,S3,α5,Za,σ4,S4,v5,s5,e5,λσ6 H6 α6 v6 s6 x6=>?_⟩;have xx:=((x2.trans x3).trans x5).trans x6;cases Za with
   |nx=>exact⟨σ4,S4,α6,v6,s6,xx,e6⟩
   |ct=>exact⟨σ4,S4,α6,v6,s6,xx,e6⟩
   |bk=>cases e6;exact k _ _ _ v6 s6 (x1.trans xx)
   |rt d=>cases e6;exact k _ _ _ v6 s6 (x1.trans xx)
  .cases e
noncomputable def qJ(src:List (Option Nat))(Z:Sg):Sg:=src.map λo=>o.bind λi=>(Z[i]?).join
theorem zms{σd:Sg}{Z:L2.St}{src:List (Option Nat)}(h:bI K H α σd Z):bI K H α (qJ src σd) (mR src Z):=by
 refine⟨by simp[qJ,mR],λi d e=>?_⟩;unfold qJ at e;rw[fW] at e;cases q:src[i]? with
 |none=>rw[q] at e;simp at e
 |some o =>
  rw[q] at e;cases o with
  |none=>simp at e
  |some j =>
   simp only[uK,cu,Option.some.injEq] at e;cases q2:σd[j]? with
   |none=>rw[q2] at e;simp at e
   |some o2 =>
    rw[q2] at e;simp at e;subst e;obtain⟨v,h1,h2⟩:=h.2 j d q2;exact⟨v,by unfold mR;rw[fW,q];simp[h1],h2⟩
noncomputable def dW:TF:=λ_ S=>some (true,S)
noncomputable def jC(nx:Nat->So->Option (Option D))(g:GF)(t:TF)(fe:EF):Nat->Nat->Sg->So->List D->Option (List D×So)
 |0,i,_,S,acc=>match nx i S with
  |some none=>some (acc,S)
  |_=>none
 |k+1,i,τ,S,acc=>match nx i S with
  |some (some d)=>(g d τ S).bind λq=>(t q.1 q.2).bind λb=>if b.1=true then(fe q.1 b.2).bind λr=>jC nx g t fe k (i+1) q.1 r.2 (acc++[r.1]) else jC nx g t fe k (i+1) q.1 b.2 acc
  |_=>none
noncomputable def Hg(fi:IF)(g:GF)(t:TF)(fe:EF)(src:List (Option Nat)):Sg->So->Option (List D×So):=λZ S=>(fi Z S).bind λr=>(qG r.1 r.2).bind λn=>if n<=sizeLine then jC (dH r.1) g t fe n 0 (qJ src Z) r.2 [] else none
noncomputable def eX(fi:IF)(g:GF)(t:TF)(fe:EF)(src:List (Option Nat)):EF:=λZ S=>(Hg fi g t fe src Z S).map λq=>(.ref q.2.length,q.2++[.lst q.1])
def uy(X:Cx)(ifs:List Expr)(t:TF):Prop:=xN X ifs (BZ X.K t)
def zon:uy X [] dW:=λpz s Z H Q I h=>zoW pz s Z H Q I (by
 obtain⟨σd,S,α,b,S',hv,hs,hf,k⟩:=h;cases hf;exact k _ _ hs Ext.refl)
def zom{c:Expr}{t:TF}(h:ST X c t):uy X [c] t:=zoV h
section
variable {X:Cx}{elt tg iter:Expr}{ifs:List Expr}{scope:Scope}{pos:Pos}{N':List Str}{src:List (Option Nat)}{fi:IF}{g:GF}{t:TF}{fe:EF}
theorem R6{σd:Sg}{Z:L2.St}{Fin:List V->Hp->Prop}(hv:bI K H α σd Z)(hs:aA K H α S)(hf:Hg fi g t fe src σd S=some (ds,S'))(k:∀ys H' α',aA K H' α' S'->Ext K H α H' α'->aK K H' α' ds ys->Fin ys H'):
 YD K fi Z H λJ H1=>∃W,(∃m,W 0 m [] (mR src Z) H1)/\Hw J (OJ K g) (BZ K t) (vZ K fe) Fin W:=by
 unfold Hg at hf;simp only[bC] at hf;obtain⟨⟨j,S1⟩,e1,n,e2,e3⟩:=hf;split at e3
 .rename_i hn;refine⟨σd,S,α,j,S1,hv,hs,e1,λJ H1 α1 s1 x1 jr=>?_⟩;refine⟨λi m ys τ H2=>∃σd2 S2 α2 acc,bI K H2 α2 σd2 τ/\aA K H2 α2 S2/\Ext K H1 α1 H2 α2/\aK K H2 α2 acc ys/\acc.length+m<=sizeLine/\jC (dH j) g t fe m i σd2 S2 acc=some (ds,S'),
   ⟨n,qJ src σd,S1,α1,[],zms (hv.mono x1),s1,Ext.refl,.nil,by simpa using hn,e3⟩,?_⟩
  rintro i m ys τ H2 ⟨σd2,S2,α2,acc,v2,s2,x2,r2,hl,e⟩
  obtain⟨o9,Py⟩:=jr i H2 α2 S2 x2 s2;cases m with
  |zero =>
   unfold jC at e;split at e
   .rename_i hn;cases e;exact .inl ⟨o9 hn,k _ _ _ s2 (x1.trans x2) r2⟩
   .cases e
  |succ m =>
   unfold jC at e;split at e
   .rename_i d hn;obtain⟨hgo,hy⟩:=Py d hn;simp only[bC] at e;obtain⟨⟨σ3,S3⟩,e4,⟨b,S4⟩,e5,e6⟩:=e;refine .inr ⟨hgo,by rw[<-r2.length];omega,λx H3 y=>?_⟩;obtain⟨sm,rx⟩:=hy x H3 y;have x3:Ext K H2 α2 H3 α2:=Same.ext sm;refine⟨σd2,S2,α2,d,σ3,S3,v2.mono x3,s2.mono sm,rx,e4,λσ5 H5 α5 v5 s5 x5=>?_⟩;refine⟨σ3,S3,α5,b,S4,v5,s5,e5,λH6 α6 s6 x6=>?_⟩;cases b with
    |false =>
     rw[if_neg gK];rw[if_neg gK] at e6;exact⟨m,Nat.lt_succ_self _,σ3,S4,α6,acc,v5.mono x6,s6,((x2.trans x3).trans x5).trans x6,((r2.mono x3).mono x5).mono x6,by omega,e6⟩
    |true =>
     rw[if_pos rfl];rw[if_pos rfl] at e6;simp only[bC] at e6;obtain⟨⟨z,S7⟩,e7,e8⟩:=e6;refine⟨σ3,S4,α6,z,S7,v5.mono x6,s6,e7,λw H8 α8 s8 x8 r8=>?_⟩;exact⟨m,Nat.lt_succ_self _,σ3,S7,α8,acc++[z],(v5.mono x6).mono x8,s8,(((x2.trans x3).trans x5).trans x6).trans x8,((((r2.mono x3).mono x5).mono x6).mono x8).append (.cons r8 .nil),by simp;omega,e8⟩
   .cases e
 .cases e3
theorem Wi(hY:∀Y,oV X scope N' Y->SG Y tg g/\uy Y ifs t/\SE Y elt fe):∀Y,oV X scope N' Y->PG Y tg (OJ X.K g)/\xN Y ifs (BZ X.K t)/\PE Y elt (vZ X.K fe):=λY hy=>by obtain⟨h1,h2,h3⟩:=hY Y hy;unfold SG at h1;unfold uy at h2;unfold SE at h3;rw[hy.K] at h1 h2 h3;exact⟨h1,h2,h3⟩
theorem QZ(hc:X.calm=true)(ok:qP X scope N' src)(hi:SI X tg iter fi)(hY:∀Y,oV X scope N' Y->SG Y tg g/\uy Y ifs t/\SE Y elt fe)(hfs:∀x,foldedSetIterable iter X.env x=pure x):SE X (.ListComp elt [⟨tg,iter,ifs,0⟩] scope pos) (eX fi g t fe src):=by
 refine PE.imp (Z9 hc ok hi (Wi hY) hfs) λZ H Q h=>?_;obtain⟨σd,S,α,z,S',hv,hs,hf,k⟩:=h;unfold eX at hf;simp only[bf] at hf;obtain⟨⟨ds,S1⟩,e1,e2⟩:=hf;cases e2;refine R6 hv hs e1 λys H' α' s' x' r' p hp=>?_;obtain⟨s2,x2⟩:=s'.snoc (p:=p) (o := .lst ds) (u := .lst ys) hp λα'' e=>⟨_,fP,r'.mono e⟩
 exact k _ _ _ s2 (x'.trans x2) (.ref (by rw[<-s'.len];simp))
theorem zmr{py:Pos}(hN:X.N.Nodup)(PJ:X.N[i]?=some y)(hy:X.env.kindOf y=some .local)(hsw:swapsWith (.ListComp elt [⟨tg,iter,ifs,0⟩] scope pos) (some (.Name y py)) spos.line X.env=pure true)(hc:X.calm=true)(ok:qP X scope N' src)(hi:SI X tg iter fi)(hY:∀Y,oV X scope N' Y->SG Y tg g/\uy Y ifs t/\SE Y elt fe)(hfs:∀x,foldedSetIterable iter X.env x=pure x):SS X (.Assign [.Name y py] (.ListComp elt [⟨tg,iter,ifs,0⟩] scope pos) spos) (aX (eX fi g t fe src) (aH i)):=by
 refine PS.imp (zmO hN PJ hy hsw hc ok hi (Wi hY) hfs) λD Z H h=>?_;obtain⟨σd,S,α,fl,σd',S',hv,hs,hf,k⟩:=h;unfold aX eX at hf;simp only[bC,bf] at hf;obtain⟨⟨d,S1⟩,⟨⟨ds,S2⟩,e1,e2⟩,⟨σ1,S3⟩,e3,e4⟩:=hf;cases e4;cases e3;cases e2;refine R6 hv hs e1 λys H' α' s' x' r' p hp=>?_;obtain⟨s2,x2⟩:=s'.snoc (p:=p) (o := .lst ds) (u := .lst ys) hp λα'' e=>⟨_,fP,r'.mono e⟩
 exact k _ _ _ (((hv.mono x').mono x2).set (.ref (by rw[<-s'.len];simp)) i) s2 (x'.trans x2)
end
noncomputable def jq:GN
 |[.tup xs],S=>some (.int xs.length,S)
 |[.str z],S=>if z.length<=sizeLine then some (.int z.length,S) else none
 |[.ref n],S=>match S[n]? with
  |some (.lst xs)=>some (.int xs.length,S)
  |some (.frz xs)=>some (.int xs.length,S)
  |_=>none
 |_,_=>none
noncomputable def uN:GN
 |[.int i],S=>some (.int (if i<0 then -i else i),S)
 |_,_=>none
noncomputable def mW:List D->Option (List Int)
 |[]=>some []
 |.int i::r=>(mW r).map (i::·)
 |_::_=>none
noncomputable def jL:List Int->Option Int
 |[]=>none
 |i::r=>some (r.foldl (λa b=>if b<a then b else a) i)
noncomputable def je:List Int->Option Int
 |[]=>none
 |i::r=>some (r.foldl (λa b=>if b>a then b else a) i)
noncomputable def rR:GN
 |[.int i,.int j],S=>some (.int (if j<i then j else i),S)
 |[.ref n],S=>match S[n]? with
  |some (.lst xs)=>(mW xs).bind λns=>(jL ns).map λm=>(.int m,S)
  |_=>none
 |_,_=>none
noncomputable def pF:GN
 |[.int i,.int j],S=>some (.int (if j>i then j else i),S)
 |[.ref n],S=>match S[n]? with
  |some (.lst xs)=>(mW xs).bind λns=>(je ns).map λm=>(.int m,S)
  |_=>none
 |_,_=>none
noncomputable def qR:GN
 |[.tup xs],S=>some (.tup xs,S)
 |[.ref n],S=>match S[n]? with
  |some (.lst xs)=>some (.tup xs,S)
  |some (.frz xs)=>some (.tup xs,S)
  |_=>none
 |_,_=>none
noncomputable def qL:GN
 |[.tup xs],S=>some (.ref S.length,S++[.lst xs])
 |[.ref n],S=>match S[n]? with
  |some (.lst xs)=>some (.ref S.length,S++[.lst xs])
  |some (.frz xs)=>some (.ref S.length,S++[.lst xs])
  |_=>none
 |_,_=>none
theorem Ww:∀(r:List Int) (i:Int),r.foldl (λa b=>if b<a then b else a) i<=i/\(∀x∈r,r.foldl (λa b=>if b<a then b else a) i<=x)/\(r.foldl (λa b=>if b<a then b else a) i=i\/r.foldl (λa b=>if b<a then b else a) i∈r)
 |[],i=>⟨Int.le_refl _,λ_ h=>(nomatch h),.inl rfl⟩
 |x::r,i=>by
  obtain⟨h1,h2,h3⟩:=Ww r (if x<i then x else i);rw[List.foldl_cons];refine⟨?_,λy hy=>?_,?_⟩
  .refine Int.le_trans (by first|exact h1|(refine Int.le_trans ?_ h1;split<;>omega)) (by first|(split<;>omega)|exact Int.le_refl _)
  .rcases List.mem_cons.mp hy with rfl|hy
   .first
     |exact Int.le_trans h1 (by split<;>omega)
     |exact Int.le_trans (by split<;>omega) h1
   .exact h2 y hy
  .rcases h3 with h3|h3
   .rw[h3];split
    .exact .inr eZ
    .exact .inl rfl
   .exact .inr (cU _ h3)
theorem Wv:∀(r:List Int) (i:Int),i<=r.foldl (λa b=>if b>a then b else a) i/\(∀x∈r,x<=r.foldl (λa b=>if b>a then b else a) i)/\(r.foldl (λa b=>if b>a then b else a) i=i\/r.foldl (λa b=>if b>a then b else a) i∈r)
 |[],i=>⟨Int.le_refl _,λ_ h=>(nomatch h),.inl rfl⟩
 |x::r,i=>by
  obtain⟨h1,h2,h3⟩:=Wv r (if x>i then x else i);rw[List.foldl_cons];refine⟨?_,λy hy=>?_,?_⟩
  .refine Int.le_trans (by first|exact h1|(refine Int.le_trans ?_ h1;split<;>omega)) (by first|(split<;>omega)|exact Int.le_refl _)
  .rcases List.mem_cons.mp hy with rfl|hy
   .first
     |exact Int.le_trans h1 (by split<;>omega)
     |exact Int.le_trans (by split<;>omega) h1
   .exact h2 y hy
  .rcases h3 with h3|h3
   .rw[h3];split
    .exact .inr eZ
    .exact .inl rfl
   .exact .inr (cU _ h3)
theorem zpD(h1:m∈ns)(h2:∀a∈ns,m<=a):jL ns=some m:=by
 cases ns with
 |nil=>cases h1
 |cons i r =>
  obtain⟨a,b,c⟩:=Ww r i;unfold jL;have l1:m<=r.foldl (λa b=>if b<a then b else a) i:=by
   rcases c with c|c
   .rw[c];exact h2 i eZ
   .exact h2 _ (cU _ c)
  have l2:r.foldl (λa b=>if b<a then b else a) i<=m:=by
   rcases List.mem_cons.mp h1 with rfl|h1
   .exact a
   .exact b m h1
  exact congrArg some (Int.le_antisymm l2 l1)
theorem zpH(h1:m∈ns)(h2:∀a∈ns,a<=m):je ns=some m:=by
 cases ns with
 |nil=>cases h1
 |cons i r =>
  obtain⟨a,b,c⟩:=Wv r i;unfold je;have l1:r.foldl (λa b=>if b>a then b else a) i<=m:=by
   rcases c with c|c
   .rw[c];exact h2 i eZ
   .exact h2 _ (cU _ c)
  have l2:m<=r.foldl (λa b=>if b>a then b else a) i:=by
   rcases List.mem_cons.mp h1 with rfl|h1
   .exact a
   .exact b m h1
  exact congrArg some (Int.le_antisymm l1 l2)
theorem vI{K:FgA}{H:Hp}{α:List Addr}:∀{ds:List D} {vs:List V} {us:List Value} {ns:List Int},aK K H α ds vs->Vals vs us->mW ds=some ns->IntsAre us ns
 |_,_,_,_,.nil,.nil,e=>by cases e;exact .nil
 |_,_,_,_,.cons r rr,.cons rv rvs,e=>by
  cases r with
  |int i =>
   simp only[mW,bf] at e;obtain⟨ms,e1,rfl⟩:=e;obtain⟨t,rfl⟩:=rv;exact .cons _ _ (vI rr rvs e1)
  |_=>cases e
theorem aK.inv1(r:aK K H α [d] vs):∃v,vs=[v]/\Rep K H α d v:=by
 cases r with
 |cons r rr=>cases rr;exact⟨_,rfl,r⟩
theorem aK.inv2{e:D}(r:aK K H α [d,e] vs):∃v u,vs=[v,u]/\Rep K H α d v/\Rep K H α e u:=by
 cases r with
 |cons r rr =>
  obtain⟨u,rfl,q⟩:=rr.inv1;exact⟨_,_,rfl,r,q⟩
theorem nW{n:Nat}{xs:List D}(hs:aA K H α S)(ha:α[n]?=some a)(h:S[n]?=some (.lst xs)\/S[n]?=some (.frz xs)):∃vs,d8 K H a vs/\aK K H α xs vs:=by
 rcases h with h|h
 .obtain⟨vs,q,r⟩:=hs.obj _ _ _ h ha;exact⟨vs,d8.of q,r⟩
 .obtain⟨vs,q,r⟩:=hs.obj _ _ _ h ha;exact⟨vs,q.sq,r⟩
section
variable {X:Cx}
theorem Zw:ir X (.builtin "len") (jB X.K jq):=by
 intro pz s Z H vs us Q I rv h;obtain⟨S,α,ds,z,S',hs,r,hg,k⟩:=h;unfold jq at hg;split at hg
 .cases hg;obtain⟨v,rfl,r0⟩:=r.inv1;cases r0 with
  |tup h r1=>exact Wt pz s Z H _ us Q I rv ⟨_,_,rfl,.inr h,by rw[<-r1.length];exact k.same hs (.int _)⟩
 .split at hg
  .rename_i hl;cases hg;obtain⟨v,rfl,r0⟩:=r.inv1;cases r0;exact zh6 pz s Z H _ us Q I rv ⟨_,rfl,hl,k.same hs (.int _)⟩
  .cases hg
 .obtain⟨v,rfl,r0⟩:=r.inv1;cases r0 with
  |@ref n a ha =>
   have core:∀xs,(∃vs,d8 X.K H a vs/\aK X.K H α xs vs)->some (D.int (xs.length:Int),S)=some (z,S')->wpAny (model X.prog X.w) X.A (call (.builtin "len") us) (EP X pz Z Q) X.xe s:=λxs ⟨vs,q,r⟩ e=>by cases e;exact Wt pz s Z H _ us Q I rv ⟨_,_,rfl,.inl q,by rw[<-r.length];exact k.same hs (.int _)⟩
   split at hg
   .rename_i e;exact core _ (nW hs ha (.inl e)) hg
   .rename_i e;exact core _ (nW hs ha (.inr e)) hg
   .cases hg
 .cases hg
theorem Zt:ir X (.builtin "abs") (jB X.K uN):=by
 intro pz s Z H vs us Q I rv h;obtain⟨S,α,ds,z,S',hs,r,hg,k⟩:=h;unfold uN at hg;split at hg
 .cases hg;obtain⟨v,rfl,r0⟩:=r.inv1;cases r0;exact zny pz s Z H _ us Q I rv ⟨_,rfl,k.same hs (.int _)⟩
 .cases hg
theorem Ac{its:List Value}(hi:IntsAre its ns):∃xs:Array (Int×Tok),its.toArray=intItems xs/\xs.toList.map (·.1)=ns/\xs.size=ns.length:=by
 obtain⟨xs,hxs⟩:=hi.allInts.items;have hnn:numsOf (intItems xs).toList=ns:=by rw[<-hxs];simpa using hi.numsOf
 rw[nums_intItems] at hnn;exact⟨xs,hxs,hnn,by simpa using congrArg List.length hnn⟩
theorem Uk(hnn:xs.toList.map (·.1)=ns)(hl:xs.size=ns.length)(e:jL ns=some m):0<xs.size/\numAt xs (argBest (λi j=>decide (numAt xs i<numAt xs j)) (xs.size - 1))=m:=by
 have hsz:0<xs.size:=by
  cases ns with
  |nil=>cases e
  |cons _ _=>simp at hl;omega
 obtain⟨h1,h2⟩:=argBest_lt (numAt xs) (xs.size - 1);refine⟨hsz,Option.some.inj (.trans (.symm (zpD ?_ λb hb=>?_)) e)⟩
 .rw[<-hnn,numAt_eq];exact getD_mem (by rw[cY,Array.length_toList];omega)
 .rw[<-hnn] at hb;obtain⟨j,hj,rfl⟩:=mem_getD hb;rw[cY,Array.length_toList] at hj;rw[<-numAt_eq];exact h2 j (by omega)
theorem Kp(hnn:xs.toList.map (·.1)=ns)(hl:xs.size=ns.length)(e:je ns=some m):0<xs.size/\numAt xs (argBest (λi j=>decide (numAt xs i>numAt xs j)) (xs.size - 1))=m:=by
 have hsz:0<xs.size:=by
  cases ns with
  |nil=>cases e
  |cons _ _=>simp at hl;omega
 obtain⟨h1,h2⟩:=argBest_gt (numAt xs) (xs.size - 1);refine⟨hsz,Option.some.inj (.trans (.symm (zpH ?_ λb hb=>?_)) e)⟩
 .rw[<-hnn,numAt_eq];exact getD_mem (by rw[cY,Array.length_toList];omega)
 .rw[<-hnn] at hb;obtain⟨j,hj,rfl⟩:=mem_getD hb;rw[cY,Array.length_toList] at hj;rw[<-numAt_eq];exact h2 j (by omega)
theorem Zy(hc:X.calm=true):ir X (.builtin "min") (jB X.K rR):=by
 intro pz s Z H vs us Q I rv h;obtain⟨S,α,ds,z,S',hs,r,hg,k⟩:=h;unfold rR at hg;split at hg
 .cases hg;obtain⟨v,u,rfl,r1,r2⟩:=r.inv2;cases r1;cases r2;exact zl6 hc pz s Z H _ us Q I rv ⟨_,_,rfl,k.same hs (.int _)⟩
 .obtain⟨v,rfl,r0⟩:=r.inv1;cases r0 with
  |@ref n a ha =>
   split at hg
   .rename_i e;simp only[bC,bf] at hg;obtain⟨ns,e1,m,e2,e3⟩:=hg;cases e3;obtain⟨ws,q,r⟩:=nW hs ha (.inl e);obtain⟨u,rfl,ru⟩:=nQ rv;cases ru;obtain⟨its,rr,pl,hz⟩:=I.list q;obtain⟨xs,hxs,hnn,hll⟩:=Ac (vI r rr e1);obtain⟨hsz,hb⟩:=Uk hnn hll e2;refine min_intList (I.ok.hd hc) (by rw[<-hxs];exact pl.isList) hsz λv h' tk hv hk=>?_;obtain⟨t,rfl⟩:=intItems_at hv;exact⟨.int _,H,I.kept hk,⟨t,by rw[hb]⟩,k.same hs (.int _)⟩
   .cases hg
 .cases hg
theorem Zx(hc:X.calm=true):ir X (.builtin "max") (jB X.K pF):=by
 intro pz s Z H vs us Q I rv h;obtain⟨S,α,ds,z,S',hs,r,hg,k⟩:=h;unfold pF at hg;split at hg
 .cases hg;obtain⟨v,u,rfl,r1,r2⟩:=r.inv2;cases r1;cases r2;exact zl7 hc pz s Z H _ us Q I rv ⟨_,_,rfl,k.same hs (.int _)⟩
 .obtain⟨v,rfl,r0⟩:=r.inv1;cases r0 with
  |@ref n a ha =>
   split at hg
   .rename_i e;simp only[bC,bf] at hg;obtain⟨ns,e1,m,e2,e3⟩:=hg;cases e3;obtain⟨ws,q,r⟩:=nW hs ha (.inl e);obtain⟨u,rfl,ru⟩:=nQ rv;cases ru;obtain⟨its,rr,pl,hz⟩:=I.list q;obtain⟨xs,hxs,hnn,hll⟩:=Ac (vI r rr e1);obtain⟨hsz,hb⟩:=Kp hnn hll e2;refine max_intList (I.ok.hd hc) (by rw[<-hxs];exact pl.isList) hsz λv h' tk hv hk=>?_;obtain⟨t,rfl⟩:=intItems_at hv;exact⟨.int _,H,I.kept hk,⟨t,by rw[hb]⟩,k.same hs (.int _)⟩
   .cases hg
 .cases hg
theorem znz:ir X (.type "tuple") (jB X.K qR):=by
 intro pz s Z H vs us Q I rv h;obtain⟨S,α,ds,z,S',hs,r,hg,k⟩:=h;unfold qR at hg;split at hg
 .cases hg;obtain⟨v,rfl,r0⟩:=r.inv1;cases r0 with
  |tup h r1=>exact Xg pz s Z H _ us Q I rv ⟨_,_,rfl,.inr ⟨h,k.same hs (.tup h r1)⟩⟩
 .obtain⟨v,rfl,r0⟩:=r.inv1;cases r0 with
  |@ref n a ha =>
   have core:∀xs,(∃vs,d8 X.K H a vs/\aK X.K H α xs vs)->some (D.tup xs,S)=some (z,S')->wpAny (model X.prog X.w) X.A (call (.type "tuple") us) (EP X pz Z Q) X.xe s:=λxs ⟨vs,q,r⟩ e=>by cases e;exact Xg pz s Z H _ us Q I rv ⟨_,_,rfl,.inl ⟨q,λp hp=>k.new hs (mj hp) (.tup (dR.of fP) (r.mono (Same.ext (mj hp))))⟩⟩
   split at hg
   .rename_i e;exact core _ (nW hs ha (.inl e)) hg
   .rename_i e;exact core _ (nW hs ha (.inr e)) hg
   .cases hg
 .cases hg
theorem zqh:ir X (.type "list") (jB X.K qL):=by
 intro pz s Z H vs us Q I rv h;obtain⟨S,α,ds,z,S',hs,r,hg,k⟩:=h;have fin:∀(xs:List D) (vs:List V) (p:Addr),aK X.K H α xs vs->H p=none->some (D.ref S.length,S++[O.lst xs])=some (z,S')->Q (.ref p) (upd H p (.lst vs)):=λxs vs p r hp e=>by
  cases e;obtain⟨s2,x2⟩:=hs.snoc (p:=p) (o := .lst xs) (u := .lst vs) hp λα'' e=>⟨_,fP,r.mono e⟩
  exact k _ _ _ s2 x2 (.ref (by rw[<-hs.len];simp))
 unfold qL at hg;split at hg
 .obtain⟨v,rfl,r0⟩:=r.inv1;cases r0 with
  |tup h r1=>exact Wu pz s Z H _ us Q I rv ⟨_,_,rfl,.inr h,λp hp=>fin _ _ p r1 hp hg⟩
 .obtain⟨v,rfl,r0⟩:=r.inv1;cases r0 with
  |@ref n a ha =>
   have core:∀xs,(∃vs,d8 X.K H a vs/\aK X.K H α xs vs)->some (D.ref S.length,S++[O.lst xs])=some (z,S')->wpAny (model X.prog X.w) X.A (call (.type "list") us) (EP X pz Z Q) X.xe s:=λxs ⟨vs,q,r⟩ e =>
    Wu pz s Z H _ us Q I rv ⟨_,_,rfl,.inl q,λp hp=>fin _ _ p r hp e⟩
   split at hg
   .rename_i e;exact core _ (nW hs ha (.inl e)) hg
   .rename_i e;exact core _ (nW hs ha (.inr e)) hg
   .cases hg
 .cases hg
end
noncomputable def wj(a b:String):Option Bool:=PySem.W.kitOne default (.type a) (.type b)
def RX{a b:String}:PySem.W.kitOne K (.type a) (.type b)=wj a b:=by unfold wj PySem.W.kitOne PySem.W.kitCls PySem.W.subIn;rfl
noncomputable def Ob:D->So->Option String
 |.non,_=>some "NoneType"
 |.bl _,_=>some "bool"
 |.int _,_=>some "int"
 |.str _,_=>some "str"
 |.tup _,_=>some "tuple"
 |.ref n,S=>match S[n]? with
  |some (.lst _)=>some "list"
  |_=>none
 |_,_=>none
noncomputable def wO:GN
 |[d,.ty T],S=>(Ob d S).bind λt=>(wj t T).map λb=>(.bl b,S)
 |_,_=>none
theorem zqr{v:V}{t:String}(hs:aA K H α S)(r:Rep K H α d v)(e:Ob d S=some t):(∃b vs,v = .ref b/\dR K H b vs/\t = "tuple")\/mH K H v (.type t):=by
 cases r with
 |non=>cases e;exact .inr .non
 |bl b=>cases e;exact .inr (.bl b)
 |int i=>cases e;exact .inr (.int i)
 |str x=>cases e;exact .inr (.str x)
 |tup h r=>cases e;exact .inl ⟨_,_,rfl,h,rfl⟩
 |@ref n a ha =>
  simp only[Ob] at e;split at e
  .rename_i q;cases e;obtain⟨vs,h,_⟩:=hs.obj _ _ _ q ha;exact .inr (.lst h)
  .cases e
 |ty n=>cases e
 |adr a=>cases e
 |obj _ _ _ _ _=>cases e
theorem Zv:ir X (.builtin "isinstance") (jB X.K wO):=by
 intro pz s Z H vs us Q I rv h;obtain⟨S,α,ds,z,S',hs,r,hg,k⟩:=h;unfold wO at hg;split at hg
 .simp only[bC,bf] at hg;obtain⟨t,e1,b,e2,e3⟩:=hg;cases e3;obtain⟨v,u,rfl,r1,r2⟩:=r.inv2;cases r2 with
  |ty T =>
   obtain⟨u1,u2,rfl,q1,q2⟩:=HY rv;cases q2;rcases zqr hs r1 e1 with⟨a,ws,rfl,h,rfl⟩|ty
   .cases q1;obtain⟨its,_,⟨o,h1,h2,_⟩,_⟩:=I.tuple h;exact PySem.W.kia_one PySem.W.kitx_tuple I.kIn ⟨o,h1,h2⟩ (by rw[RX];exact e2) (λz=>nomatch z) λtk=>⟨.bl b,H,I.tok _,rfl,k.same hs (.bl _)⟩
   .exact zls I q1 ty (by rw[RX];exact e2) λtk=>⟨.bl b,H,I.tok _,rfl,k.same hs (.bl _)⟩
 .cases hg
abbrev PF:=Sg->So->Option (Option Int×So)
noncomputable def nP:PF:=λ_ S=>some (none,S)
noncomputable def lX(fe:EF):PF:=λZ S=>(fe Z S).bind λr=>match r.1 with
 |.int i=>some (some i,r.2)
 |_=>none
noncomputable def jP(xs:List D)(lo hi:Option Int):List D:=(xs.drop (HT.sIx xs.length 0 lo)).take (HT.sIx xs.length xs.length hi - HT.sIx xs.length 0 lo)
noncomputable def ug:D->Option Int->Option Int->So->Option (D×So)
 |.tup xs,lo,hi,S=>if ¬(HT.sIx xs.length 0 lo=0/\HT.sIx xs.length xs.length hi=xs.length) then some (.tup (jP xs lo hi),S) else some (.tup xs,S)
 |.ref n,lo,hi,S=>match S[n]? with
  |some (.lst xs)=>some (.ref S.length,S++[.lst (jP xs lo hi)])
  |some (.frz xs)=>some (.ref S.length,S++[.lst (jP xs lo hi)])
  |_=>none
 |_,_,_,_=>none
noncomputable def mz(fe:EF)(fl fh:PF):EF:=λZ S=>(fe Z S).bind λr=>(fl Z r.2).bind λl=>(fh Z l.2).bind λh=>ug r.1 l.1 h.1 h.2
noncomputable def rdP(K:FgA)(f:PF):TO:=λZ H Q=>∃σd S α p S',bI K H α σd Z/\aA K H α S/\f σd S=some (p,S')/\∀H' α',aA K H' α' S'->Ext K H α H' α'->Q p H'
def DG(X:Cx)(e:Option Expr)(f:PF):Prop:=PO X e (rdP X.K f)
theorem T7{lo hi:Option Int}(r:aK K H α ds vs):aK K H α (jP ds lo hi) (qH vs lo hi):=by unfold jP qH;rw[r.length];exact(r.drop _).take _
theorem zkt{t sl:Addr}{items:Array Value}{vl vu:Value}{lo hi:Option Int}(ht:IsTup s.heap t items)(hs:s.heap.IsSliceOf sl vl vu .none)(pl:IsPart vl lo)(pu:IsPart vu hi)(hw:HT.sIx items.size 0 lo=0/\HT.sIx items.size items.size hi=items.size)(h:Q (.ref t) s):wpAny (model prog w) A (getItem (.ref t) (.ref sl)) Q E s:=by
 obtain⟨os,hos,hcs,hds⟩:=id hs;have hTs:s.TypeIs (.ref sl) "slice" := ⟨os,hos,hcs⟩
 unfold getItem
 try with_reducible refine wpAny_holding ?_
 first|refine aP (bW ?_)|skip
 refine aP (wpAny_sequenceKey ht.typeIs (by decide) ?_);refine aP (wpAny_callSpecial?_slot (name:=Str.ofString "__getitem__") ht.typeIs PyProof.Rows.slot_tuple_getitem
  (wpAny_call_entry PyProof.Rows.slot_tuple_getitem ht.typeIs entry_tuple_getitem ?_ (args_tuple_getitem _ _)))
 show wpAny _ _ (Builtin.Tuple.tupleItemsOf (.ref t) >>= _) _ _ s;refine aP (tupleItemsOf_ ht ?_);refine aP (wpAny_typeOf hTs ?_);rw[if_pos (by decide)];refine aP (HT.zdv hs pl pu ?_);show wpAny _ _ (if(((HT.sIx items.size 0 lo:Nat):Int)==0&&(1:Int)==1&&(HT.sIx items.size items.size hi - HT.sIx items.size 0 lo)==items.size)=true then _ else _) _ _ s;rw[hw.1,hw.2,if_pos (by simp)];obtain⟨o,e1,e2,n,e3⟩:=id ht;have ex:∀{A:Around} {E:Value->Shared->Prop} {Q:Bool->Shared->Prop},Q true s->wpAny (model prog w) A (Builtin.Tuple.tupleIsExact (.ref t)) Q E s:=λ{A E Q} q=>by unfold Builtin.Tuple.tupleIsExact;refine aP (wpAny_typeOf ht.typeIs ?_);exact bW q
 refine aP (ex ?_);rw[if_pos rfl];exact aP (wpAny_rule (bW ⟨_,rfl,bW h⟩))
noncomputable def Ce(K:FgA):V->Option Int->Option Int->Hp->VK->Prop:=λx lo hi H Q=>∃a xs,x = .ref a/\dR K H a xs/\(HT.sIx xs.length 0 lo=0/\HT.sIx xs.length xs.length hi=xs.length)/\Q (.ref a) H
theorem zoD:qD X (Ce X.K):=by
 intro pz s Z H x v vl vu lo hi sl Q I rx hs pl pu h;obtain⟨a,xs,rfl,hx,hw,q⟩:=h;cases rx;obtain⟨its,r,ht,hz⟩:=I.tuple hx;have hlen:its.toArray.size=xs.length:=by rw[d9];exact r.length.symm
 refine⟨"tuple",_,PyProof.Rows.slot_tuple_getitem.lookup,ht.typeIs,?_⟩;exact zkt ht hs pl pu (by rw[hlen];exact hw) ⟨.ref a,H,I,rfl,q⟩
section
variable {X:Cx}{e:Expr}{fe:EF}{lo hi:Option Expr}{fl fh:PF}{pos p2:Pos}
def zox:DG X none nP:=λpz s Z H Q I h=>zo3 pz s Z H Q I (by
 obtain⟨σd,S,α,p,S',hv,hs,hf,k⟩:=h;cases hf;exact k _ _ hs Ext.refl)
theorem zov(he:SE X e fe):DG X (some e) (lX fe):=λpz s Z H Q I h=>zo2 he pz s Z H Q I (by
 obtain⟨σd,S,α,p,S',hv,hs,hf,k⟩:=h;unfold lX at hf;simp only[bC] at hf;obtain⟨⟨d,S1⟩,e1,e2⟩:=hf;refine⟨σd,S,α,d,S1,hv,hs,e1,λv H1 α1 s1 x1 r1=>?_⟩;cases r1 with
 |int i=>cases e2;exact⟨i,rfl,k _ _ s1 x1⟩
 |_=>cases e2)
theorem zmE(he:SE X e fe)(hl:DG X lo fl)(hh:DG X hi fh):SE X (.Subscript e (.Slice lo hi none p2) pos) (mz fe fl fh):=by
 refine PE.imp (zmU (qD.or (qD.or zqU zoD) zoE) he hl hh) λZ H Q h=>?_;obtain⟨σd,S,α,z,S',hv,hs,hf,k⟩:=h;unfold mz at hf;simp only[bC] at hf;obtain⟨⟨d,S1⟩,e1,⟨l,S2⟩,e2,⟨u,S3⟩,e3,e4⟩:=hf;refine⟨σd,S,α,d,S1,hv,hs,e1,λv H1 α1 s1 x1 r1=>⟨σd,S1,α1,l,S2,hv.mono x1,s1,e2,λH2 α2 s2 x2=>⟨σd,S2,α2,u,S3,(hv.mono x1).mono x2,s2,e3,λH3 α3 s3 x3=>?_⟩⟩⟩;have r3:=(r1.mono x2).mono x3;have k3:=k.trans ((x1.trans x2).trans x3);simp only at e4;cases r3 with
 |tup h r =>
  simp only[ug] at e4;split at e4
  .rename_i hc;cases e4;refine .inl (.inl ⟨_,_,rfl,h,by rw[<-r.length];exact hc,λp hp=>?_⟩);exact k3.new s3 (mj hp) (.tup (dR.of fP) ((T7 r).mono (Same.ext (mj hp))))
  .rename_i hc;cases e4;refine .inl (.inr ⟨_,_,rfl,h,by rw[<-r.length];exact Decidable.not_not.mp hc,?_⟩);exact k3 _ _ _ s3 Ext.refl (.tup h r)
 |@ref n a ha =>
  simp only[ug] at e4;have core:∀xs,(∃vs,d8 X.K H3 a vs/\aK X.K H3 α3 xs vs)->some (D.ref S3.length,S3++[O.lst (jP xs l u)])=some (z,S')->(Cg X.K (.ref a) l u H3 Q\/Ce X.K (.ref a) l u H3 Q)\/Ci X.K (.ref a) l u H3 Q:=λxs ⟨vs,q,r⟩ e=>by
   cases e;refine .inr ⟨_,_,rfl,q,λp hp=>?_⟩;obtain⟨s4,x4⟩:=s3.snoc (p:=p) (o := .lst (jP xs l u)) (u := .lst (qH vs l u)) hp λα'' e=>⟨_,fP,(T7 r).mono e⟩
   exact k3 _ _ _ s4 x4 (.ref (by rw[<-s3.len];simp))
  split at e4
  .rename_i q;exact core _ (nW s3 ha (.inl q)) e4
  .rename_i q;exact core _ (nW s3 ha (.inr q)) e4
  .cases e4
 |_=>cases e4
end
abbrev GM:=D->List D->So->Option (D×So)
noncomputable def vY(K:FgA)(g:GM):V->List V->Hp->VK->Prop:=λv vs H Q=>∃S α d ds z S',aA K H α S/\Rep K H α d v/\aK K H α ds vs/\g d ds S=some (z,S')/\Kt K H α z S' Q
noncomputable def qe:GM
 |.ref n,[d],S=>match S[n]? with
  |some (.lst xs)=>if xs.length<sizeLine then some (.non,S.set n (.lst (xs++[d]))) else none
  |_=>none
 |_,_,_=>none
theorem zld:sH X "list.append" (vY X.K qe):=by
 intro pz s Z H v vs vv us Q I rv rs h;obtain⟨S,α,d,ds,z,S',hs,r,rr,hg,k⟩:=h;unfold qe at hg;split at hg
 .cases r with
  |ref ha =>
   split at hg
   .rename_i e;split at hg
    .rename_i hl;cases hg;obtain⟨w,rfl,fU⟩:=rr.inv1;obtain⟨ws,q,r⟩:=hs.obj _ _ _ e ha;refine zla pz s Z H _ _ _ us Q I rv rs ⟨_,_,_,rfl,rfl,q,by rw[<-r.length];exact hl,?_⟩;obtain⟨s2,x2⟩:=hs.put (o := .lst (_++[_])) (u := .lst (ws++[w])) e rfl rfl ha q (.inl ⟨_,rfl⟩) λx=>⟨_,fP,(r.append (.cons fU .nil)).mono x⟩
     exact k _ _ _ s2 x2 .non
    .cases hg
   .cases hg
 .cases hg
noncomputable def eM(g:GM)(fo:EF)(fa:AF):EF:=λZ S=>(fo Z S).bind λr=>match r.1 with
 |.ref n=>match r.2[n]? with
  |some (.lst _)=>(fa Z r.2).bind λq=>g r.1 q.1 q.2
  |_=>none
 |_=>none
theorem Zi{o:Expr}{fo:EF}{g:GM}{id:String}{apos:Pos}(slot:Slot "list" name id)(hty:typeOf (.builtin id)=pure (.type "method_descriptor"))(hm:sH X id (vY X.K g))(ho:SE X o fo)(ha:SA X (e::es) fa)(hbase:attributeBase o name X.env (eval o X.env)=eval o X.env)(hfew:((backTo cpos (starEach (e::es) X.env)).all (λx => !x.1)&&(backToKw cpos (keywordEach [] X.env)).all (λx=>x.1.isSome)
  && decide ((e::es).length+([]:List Keyword).length+(if([]:List Keyword).isEmpty then 0 else 1)<30))=true)(hline:(apos.endLine==cpos.line)=true)(hst:starEach (e::es) X.env=(false,eval e X.env)::starEach es X.env)(hplain:(backTo cpos (starEach es X.env)).any (·.1)=false):
 SE X (.Call (.Attribute o name apos) (e::es) [] cpos) (eM g fo fa):=by
 refine PE.imp (Z7 PySem.F.plainAttrs_list slot hty hm ho ha hbase hfew hline hst hplain) λZ H Q h=>?_;obtain⟨σd,S,α,z,S',hv,hs,hf,k⟩:=h;unfold eM at hf;simp only[bC] at hf;obtain⟨⟨d,S1⟩,e1,e2⟩:=hf;refine⟨σd,S,α,d,S1,hv,hs,e1,λv H1 α1 s1 x1 r1=>?_⟩;simp only at e2;split at e2
 .rename_i n;split at e2
  .rename_i xs q;simp only[bC] at e2;obtain⟨⟨ds,S2⟩,e3,e4⟩:=e2;cases r1 with
   |ref ha =>
    obtain⟨ws,hw,_⟩:=s1.obj _ _ _ q ha;refine⟨.inl ⟨rfl,_,d8.of hw⟩,σd,S1,α1,ds,S2,hv.mono x1,s1,e3,λvs H2 α2 s2 x2 r2=>?_⟩;exact⟨S2,α2,_,ds,z,S',s2,.ref (x2.pre _ _ ha),r2,e4,k.trans (x1.trans x2)⟩
  .cases e2
 .cases e2
noncomputable def zO:List D->Option (List Bool)
 |[]=>some []
 |.bl b::r=>(zO r).map (b::·)
 |_::_=>none
theorem Wg{K:FgA}{H:Hp}{α:List Addr}:∀{ds:List D} {vs:List V} {us:List Value} {bs:List Bool},aK K H α ds vs->Vals vs us->zO ds=some bs->LSm.BoolsAre us bs
 |_,_,_,_,.nil,.nil,e=>by cases e;exact .nil
 |_,_,_,_,.cons r rr,.cons rv rvs,e=>by
  cases r with
  |bl b =>
   simp only[zO,bf] at e;obtain⟨ms,e1,rfl⟩:=e;cases rv;exact .cons _ (Wg rr rvs e1)
  |_=>cases e
noncomputable def uO:GN
 |[.ref n],S=>match S[n]? with
  |some (.lst xs)=>(zO xs).map λbs=>(.bl (bs.all id),S)
  |_=>none
 |_,_=>none
section
variable {X:Cx}
theorem zkm{vs:List Value}{bs:List Bool}(hh:A.handled=none)(hl:s.heap.IsList l vs.toArray)(hb:LSm.BoolsAre vs bs)(h:∀h' tk,(∀b x,s.heap.get? b=some x->h'.get? b=some x)->Q (.bool (bs.all id)) { s with heap:=h',toks:=tk }):wpAny (model prog w) A (call (.builtin "all") [.ref l]) Q E s:=by
 have hlt:l<s.heap.objs.size:=by obtain⟨_,e,_⟩:=hl;exact cM e
 refine call_all_walk (wpAny_pyIter_list hl ?_);refine⟨s.heap.objs.size,[s.heap.objs.size,l],[s.heap.objs.size],vs.toArray.size,_,_,λi=>(bs[i]?).getD true,rfl,Walks.list (A:=A.in1) hh _ l (dN hlt) vs.toArray,
  ⟨⟨_,gG _ rfl,rfl,rfl⟩,hl.push _⟩,λi v s' Q' E' hP hQ=>?_,λh' tk hk=>?_⟩
 .obtain⟨b,e,rfl⟩:=hb.get i v (by simpa using hP);simp only[e,Option.getD_some] at hQ;exact wpAny_truthy_bool hQ
 .have e:((List.range vs.toArray.size).all λi=>(bs[i]?).getD true)=bs.all id:=by rw[d9,hb.length];exact LSm.range_all bs
  rw[e];exact h h' tk (LSm.kept_iter hk)
theorem Zu(hc:X.calm=true):ir X (.builtin "all") (jB X.K uO):=by
 intro pz s Z H vs us Q I rv h;obtain⟨S,α,ds,z,S',hs,r,hg,k⟩:=h;unfold uO at hg;split at hg
 .obtain⟨v,rfl,r0⟩:=r.inv1;cases r0 with
  |@ref n a ha =>
   split at hg
   .rename_i e;simp only[bf] at hg;obtain⟨bs,e1,e2⟩:=hg;cases e2;obtain⟨ws,q,r⟩:=nW hs ha (.inl e);obtain⟨u,rfl,ru⟩:=nQ rv;cases ru;obtain⟨its,rr,pl,hz⟩:=I.list q;exact zkm (I.ok.hd hc) pl.isList (Wg r rr e1) λh' tk hk=>⟨.bl _,H,I.kept hk,rfl,k.same hs (.bl _)⟩
   .cases hg
 .cases hg
theorem zj1(hh:A.handled=none)(hl:s.heap.IsTuple l (intItems xs))(hne:0<xs.size)(h:∀v h' tk,(intItems xs)[argBest (λi j=>decide (numAt xs i<numAt xs j)) (xs.size - 1)]?=some v->(∀b o,s.heap.get? b=some o->h'.get? b=some o)->Q v { s with heap:=h',toks:=tk }):
 wpAny (model prog w) A (call (.builtin "min") [.ref l]) Q E s:=by
 have hlt:l<s.heap.objs.size:=by obtain⟨_,e,_⟩:=hl;exact cM e
 refine call_min_walk (wpAny_pyIter_tuple hl ?_);refine⟨_,[s.heap.objs.size,l],[s.heap.objs.size],_,_,_,_,rfl,Walks.tuple (A:=A.in1) hh _ l (dN hlt) (intItems xs),
  ⟨⟨_,gG _ rfl,rfl,rfl⟩,hl.push _⟩,λc hc=>?_,by simpa[intItems] using hne,CmpOf.ints_lt (numAt xs) (λ_ _=>intItems_at),λv h' tk hP hk=>?_⟩
 .show c<(s.heap.push _).objs.size;rw[Heap.size_push];rcases List.mem_cons.mp hc with rfl|hc
  .exact Nat.lt_succ_self _
  .rcases List.mem_cons.mp hc with rfl|hc
   .exact Nat.lt_succ_of_lt hlt
   .cases hc
 .exact h v h' tk (by simpa[intItems] using hP) (LSm.kept_iter hk)
theorem zj2(hh:A.handled=none)(hl:s.heap.IsTuple l (intItems xs))(hne:0<xs.size)(h:∀v h' tk,(intItems xs)[argBest (λi j=>decide (numAt xs i>numAt xs j)) (xs.size - 1)]?=some v->(∀b o,s.heap.get? b=some o->h'.get? b=some o)->Q v { s with heap:=h',toks:=tk }):
 wpAny (model prog w) A (call (.builtin "max") [.ref l]) Q E s:=by
 have hlt:l<s.heap.objs.size:=by obtain⟨_,e,_⟩:=hl;exact cM e
 refine call_max_walk (wpAny_pyIter_tuple hl ?_);refine⟨_,[s.heap.objs.size,l],[s.heap.objs.size],_,_,_,_,rfl,Walks.tuple (A:=A.in1) hh _ l (dN hlt) (intItems xs),
  ⟨⟨_,gG _ rfl,rfl,rfl⟩,hl.push _⟩,λc hc=>?_,by simpa[intItems] using hne,CmpOf.ints_gt (numAt xs) (λ_ _=>intItems_at),λv h' tk hP hk=>?_⟩
 .show c<(s.heap.push _).objs.size;rw[Heap.size_push];rcases List.mem_cons.mp hc with rfl|hc
  .exact Nat.lt_succ_self _
  .rcases List.mem_cons.mp hc with rfl|hc
   .exact Nat.lt_succ_of_lt hlt
   .cases hc
 .exact h v h' tk (by simpa[intItems] using hP) (LSm.kept_iter hk)
noncomputable def pZ:GN
 |[.tup xs],S=>(mW xs).bind λns=>(jL ns).map λm=>(.int m,S)
 |ds,S=>rR ds S
noncomputable def lC:GN
 |[.tup xs],S=>(mW xs).bind λns=>(je ns).map λm=>(.int m,S)
 |ds,S=>pF ds S
theorem zqi(hc:X.calm=true):ir X (.builtin "min") (jB X.K pZ):=by
 intro pz s Z H vs us Q I rv h;obtain⟨S,α,ds,z,S',hs,r,hg,k⟩:=h;unfold pZ at hg;split at hg
 .obtain⟨v,rfl,r0⟩:=r.inv1;cases r0 with
  |@tup a ds vs q r1 =>
   simp only[bC,bf] at hg;obtain⟨ns,e1,m,e2,e3⟩:=hg;cases e3;obtain⟨u,rfl,ru⟩:=nQ rv;cases ru;obtain⟨its,rr,pl,hz⟩:=I.tuple q;obtain⟨xs,hxs,hnn,hll⟩:=Ac (vI r1 rr e1);obtain⟨hsz,hb⟩:=Uk hnn hll e2;refine zj1 (I.ok.hd hc) (by rw[<-hxs];exact pl) hsz λv h' tk hv hk=>?_;obtain⟨t,rfl⟩:=intItems_at hv;exact⟨.int _,H,I.kept hk,⟨t,by rw[hb]⟩,k.same hs (.int _)⟩
 .exact Zy hc pz s Z H vs us Q I rv ⟨S,α,_,z,S',hs,r,hg,k⟩
theorem zqj(hc:X.calm=true):ir X (.builtin "max") (jB X.K lC):=by
 intro pz s Z H vs us Q I rv h;obtain⟨S,α,ds,z,S',hs,r,hg,k⟩:=h;unfold lC at hg;split at hg
 .obtain⟨v,rfl,r0⟩:=r.inv1;cases r0 with
  |@tup a ds vs q r1 =>
   simp only[bC,bf] at hg;obtain⟨ns,e1,m,e2,e3⟩:=hg;cases e3;obtain⟨u,rfl,ru⟩:=nQ rv;cases ru;obtain⟨its,rr,pl,hz⟩:=I.tuple q;obtain⟨xs,hxs,hnn,hll⟩:=Ac (vI r1 rr e1);obtain⟨hsz,hb⟩:=Kp hnn hll e2;refine zj2 (I.ok.hd hc) (by rw[<-hxs];exact pl) hsz λv h' tk hv hk=>?_;obtain⟨t,rfl⟩:=intItems_at hv;exact⟨.int _,H,I.kept hk,⟨t,by rw[hb]⟩,k.same hs (.int _)⟩
 .exact Zx hc pz s Z H vs us Q I rv ⟨S,α,_,z,S',hs,r,hg,k⟩
end
theorem zkf(l:Addr)(items:Array Value)(n:Nat)(b:Addr)(items2:Array Value)(n2:Nat)(dd:Option Addr)(sl:Array (Option Value))(hs0:¬(!items.isEmpty&&Builtin.List.listTooLong (items.size+items2.size))=true)(hs1:items.size<=sizeLine)(hs2:items.size+items2.size<=sizeLine+1):
 Meets (Builtin.«list.extend» ⟨[.ref l,.ref b],[]⟩) (λ_ R s=>s.heap.get? l=some { cls := .type "list",dict:=none,data := .seq items n,slots:=#[] }/\s.heap.get? b=some { cls := .type "tuple",dict:=dd,data := .seq items2 n2,slots:=sl }/\R (.ok (.ret Value.none)) { s with heap:=s.heap.update l (Obj.mapSeq λx=>x++items2),toks:=s.toks }) :=
 .of_wp λprog w A R s h=>by
  obtain⟨hp,g,d,tk,os⟩:=s;obtain⟨hl,hb,h⟩:=h;have f1:=AutoSeq1.idx_int;have f2:=AutoSeq1.sub_tuple_tuple;have f3:=AutoSeq1.sub_list_list;have f4:=AutoSeq1.sub_tuple_list;have f5:=AutoSeq1.sub_list_tuple;have hz':(items++items2).size<=sizeLine+1:=by rw[Array.size_append];exact hs2
  wp_walk using (wpAny_updateSeq hl rfl (hz:=hs1) (_hz':=hz')),AutoSeq1.wpAny_loadPart' hl,AutoSeq1.wpAny_loadPart' hb;exact⟨_,rfl,h⟩
noncomputable def yj:GM
 |.ref n,[.ref m],S=>match S[n]?,S[m]? with
  |some (.lst xs),some (.lst ys)=>if xs.length+ys.length<=sizeLine then some (.non,S.set n (.lst (xs++ys))) else none
  |_,_=>none
 |.ref n,[.tup ys],S=>match S[n]? with
  |some (.lst xs)=>if xs.length+ys.length<=sizeLine then some (.non,S.set n (.lst (xs++ys))) else none
  |_=>none
 |_,_,_=>none
def aK.eraseIdx{K:FgA}{H:Hp}{α:List Addr}:∀{ds:List D} {vs:List V} (i:Nat),aK K H α ds vs->aK K H α (ds.eraseIdx i) (vs.eraseIdx i)
 |_,_,_,.nil => .nil
 |_,_,0,.cons _ t=>t
 |_,_,i+1,.cons r t => .cons r (aK.eraseIdx i t)
theorem aK.dropLast{K:FgA}{H:Hp}{α:List Addr}{ds:List D}{vs:List V}(r:aK K H α ds vs):aK K H α ds.dropLast vs.dropLast:=by rw[List.dropLast_eq_take,List.dropLast_eq_take,r.length];exact r.take _
theorem zlc:sH X "list.extend" (vY X.K yj):=by
 intro pz s Z H v vs vv us Q I rv rs h;obtain⟨S,α,d,ds,z,S',hs,r,rr,hg,k⟩:=h;unfold yj at hg;split at hg
 .cases r with
  |ref ha =>
   split at hg
   .rename_i e1 e2;split at hg
    .rename_i hl;cases hg;obtain⟨w,rfl,fU⟩:=rr.inv1;cases fU with
     |ref hb =>
      obtain⟨ws,q,r⟩:=hs.obj _ _ _ e1 ha;obtain⟨ws2,q2,r2⟩:=hs.obj _ _ _ e2 hb;refine zk9 pz s Z H _ _ _ us Q I rv rs ⟨_,_,_,_,rfl,rfl,q,q2,by rw[<-r.length,<-r2.length];exact hl,?_⟩;obtain⟨s2,x2⟩:=hs.put (o := .lst (_++_)) (u := .lst (ws++ws2)) e1 rfl rfl ha q (.inl ⟨_,rfl⟩) λx=>⟨_,fP,(r.append r2).mono x⟩
      exact k _ _ _ s2 x2 .non
    .cases hg
   .cases hg
 .cases r with
  |ref ha =>
   split at hg
   .rename_i xs e1;split at hg
    .rename_i hl;cases hg;obtain⟨w,rfl,fU⟩:=rr.inv1;cases fU with
     |tup hb r2 =>
      obtain⟨ws,q,r⟩:=hs.obj _ _ _ e1 ha;cases rv;obtain⟨u,rfl,ru⟩:=rs.one;cases ru;obtain⟨hz,its,n0,vX,hli,ho⟩:=I.lstM q;obtain⟨its2,t6,⟨⟨c2,dd2,dt2,sl2⟩,ho2,hc2,n2,hd2⟩,hz2⟩:=I.tuple hb;simp only at hc2 hd2;subst hc2 hd2;have e3:its.length=xs.length:=by rw[<-hli,r.length]
      have e4:=t6.length;rw[<-r2.length] at e4;have hsz:its.toArray.size+its2.toArray.size<=sizeLine:=by rw[d9,d9,e3,<-e4];exact hl
      have jW:¬(!its.toArray.isEmpty&&Builtin.List.listTooLong (its.toArray.size+its2.toArray.size))=true:=by rw[Im hsz,Bool.and_false];exact gK
      refine call_meets F.slot_list_extend ⟨_,ho,rfl⟩ F.entry_list_extend (F.args_list_extend_2 _ _)
       (zkf _ its.toArray n0 _ its2.toArray n2 dd2 sl2 jW (by omega) (by omega)) ⟨ho,ho2,?_⟩
      obtain⟨s2,x2⟩:=hs.put (o := .lst (xs++_)) (u := .lst (ws++_)) e1 rfl rfl ha q (.inl ⟨_,rfl⟩) λx=>⟨_,fP,(r.append r2).mono x⟩
      refine⟨.non,_,I.lset (its':=its++its2) q ho (by simp) (vX.append t6) ?_,rfl,k _ _ _ s2 x2 .non⟩;rw[iW,<-r.length,<-r2.length];exact hl
    .cases hg
   .cases hg
 .cases hg
noncomputable def nq:GM
 |.ref n,[],S=>match S[n]? with
  |some (.lst xs)=>(xs[xs.length - 1]?).map λd=>(d,S.set n (.lst xs.dropLast))
  |_=>none
 |.ref n,[.int i],S=>match S[n]? with
  |some (.lst xs)=>if -(2 ^ 63)<=i/\i<2 ^ 63 then(seqIndex? i xs.length).bind λk=>(xs[k]?).map λd=>(d,S.set n (.lst (xs.eraseIdx k))) else none
  |_=>none
 |_,_,_=>none
theorem zrS:sH X "list.pop" (vY X.K nq):=by
 intro pz s Z H v vs vv us Q I rv rs h;obtain⟨S,α,d,ds,z,S',hs,r,rr,hg,k⟩:=h;unfold nq at hg;split at hg
 .cases r with
  |ref ha =>
   split at hg
   .rename_i xs e;simp only[bf] at hg;obtain⟨d,e1,e2⟩:=hg;cases e2;cases rr;obtain⟨ws,q,r⟩:=hs.obj _ _ _ e ha;obtain⟨w,ew,fU⟩:=r.get e1;refine zrR pz s Z H _ _ _ us Q I rv rs ⟨_,_,w,rfl,rfl,q,by rw[<-r.length];exact ew,?_⟩;obtain⟨s2,x2⟩:=hs.put (o := .lst xs.dropLast) (u := .lst ws.dropLast) e rfl rfl ha q (.inl ⟨_,rfl⟩) λx=>⟨_,fP,r.dropLast.mono x⟩
    exact k _ _ _ s2 x2 (fU.mono x2)
   .cases hg
 .cases r with
  |ref ha =>
   split at hg
   .rename_i xs e;split at hg
    .rename_i hb;simp only[bC,bf] at hg;obtain⟨kk,e0,d,e1,e2⟩:=hg;cases e2;obtain⟨w0,rfl,r0⟩:=rr.inv1;cases r0;obtain⟨ws,q,r⟩:=hs.obj _ _ _ e ha;obtain⟨w,ew,fU⟩:=r.get e1;refine zm2 pz s Z H _ _ _ us Q I rv rs ⟨_,_,_,kk,w,rfl,rfl,q,hb.1,hb.2,by rw[<-r.length];exact e0,ew,?_⟩;obtain⟨s2,x2⟩:=hs.put (o := .lst (xs.eraseIdx kk)) (u := .lst (ws.eraseIdx kk)) e rfl rfl ha q (.inl ⟨_,rfl⟩) λx=>⟨_,fP,(r.eraseIdx kk).mono x⟩
     exact k _ _ _ s2 x2 (fU.mono x2)
    .cases hg
   .cases hg
 .cases hg
noncomputable def Du(g:GM)(fo:EF):EF:=λZ S=>(fo Z S).bind λr=>match r.1 with
 |.ref n=>match r.2[n]? with
  |some (.lst _)=>g r.1 [] r.2
  |_=>none
 |_=>none
theorem zra{o:Expr}{fo:EF}{g:GM}{id:String}{apos:Pos}(slot:Slot "list" name id)(hty:typeOf (.builtin id)=pure (.type "method_descriptor"))(hm:sH X id (vY X.K g))(ho:SE X o fo)(hbase:attributeBase o name X.env (eval o X.env)=eval o X.env)(hline:(apos.endLine==cpos.line)=true):
 SE X (.Call (.Attribute o name apos) [] [] cpos) (Du g fo):=by
 refine PE.imp (zrF PySem.F.plainAttrs_list slot hty hm ho hbase hline) λZ H Q h=>?_;obtain⟨σd,S,α,z,S',hv,hs,hf,k⟩:=h;unfold Du at hf;simp only[bC] at hf;obtain⟨⟨d,S1⟩,e1,e2⟩:=hf;refine⟨σd,S,α,d,S1,hv,hs,e1,λv H1 α1 s1 x1 r1=>?_⟩;simp only at e2;split at e2
 .rename_i n;split at e2
  .rename_i xs q;cases r1 with
   |ref ha =>
    obtain⟨ws,hw,_⟩:=s1.obj _ _ _ q ha;exact⟨.inl ⟨rfl,_,d8.of hw⟩,S1,α1,_,[],z,S',s1,.ref ha,.nil,e2,k.trans x1⟩
  .cases e2
 .cases e2
noncomputable def uP:GN
 |[.bl b],S=>some (.int (if b then 1 else 0),S)
 |_,_=>none
theorem Zz:ir X (.type "int") (jB X.K uP):=by
 intro pz s Z H xs us Q I r h;obtain⟨S,α,ds,z,S',hs,r2,hg,k⟩:=h;refine zl8 pz s Z H xs us Q I r ?_;unfold uP at hg;split at hg
 .cases hg;cases r2 with
  |cons c1 r3 =>
   cases c1;cases r3;exact .inr ⟨_,rfl,k.same hs (.int _)⟩
 .cases hg
end MX
end
section
namespace MX
open PySem PySem.Spec PySem.W PyProof.Rows L2
noncomputable def xj(P:Program)(w:World)(K:FgA)(mg:Str->Option Value)(base:Heap)(N:List Str)(qual:Str)(scope:Scope)(f:Addr)(cd:Value)(cl:List (Str×Addr))(A:Around)(outer:List Env)(s:Shared)(H:Hp)(E:XK):Cx where
 prog:=P
 w:=w
 K:=K
 mg:=mg
 base:=base
 A:=A.deeper (envX qual scope s.heap.objs.size f cd cl)
 N:=N
 s₀:=s
 H₀:=H
 env:=envX qual scope s.heap.objs.size f cd cl
 outer:=outer
 stack:=envX qual scope s.heap.objs.size f cd cl::outer
 ex:=[]
 calm:=true
 fn:=λ_=>false
 pn:=[]
 xe:=λe s'=>wpAny (model P w) (A.deeper (envX qual scope s.heap.objs.size f cd cl)) (leaving (envX qual scope s.heap.objs.size f cd cl) e) (λ_ s''=>iV outer H s E e s'') (λe' s''=>iV outer H s E e' s'') s'
structure pM(p:Str)(scope:Scope)(cl:List (Str×Addr)):Prop where
 kind:scope.kind = .function
 co:scope.isCoroutine=false
 gen:scope.isGenerator=false
 par:scope.names.lookup p=some .local
 nocell:∀x∈scope.names,x.2 ≠ .cell
 has:∀x,scope.names.lookup x=some .free->∃c,cl.lookup x=some c
 inj:∀x y c,cl.lookup x=some c->cl.lookup y=some c->x=y
def zpC(h:∀x∈scope.names,x.2≠NameKind.cell)(x:Str):scope.names.lookup x≠some .cell:=λe=>h _ (iK e) rfl
theorem nG{R:Result->Shared->Prop}{args:Args}{body:Expr}{q:Str}(hroom:A.depth<recursionLimit)(ho:s.heap.get? a=some o)(hd':o.data = .func fd)(hco:fd.scope.isCoroutine=false)(hgen:fd.scope.isGenerator=false)(hbody:fd.body = .expr body)(hcd:s.heap.CodeRec fd.code q)(h:wpAny (model prog w) A.in1 (bindArgs fd args) (λbinds s₁ =>
  wpAny (model prog w) A.in1 (newFunctionEnv fd.scope fd.globals fd.closure binds (q ++ ".<locals>.") (some a) fd.code none fd.builtins)
   (λenv s₂=>s₂.heap.NoLimit/\codeAny (model prog w) A (.expr body env) R s₂) (λe s'=>R (.error e) s') s₁) (λe s'=>R (.error e) s') s):
 codeAny (model prog w) A (.call (.ref a) args) R s:=by
 refine codeAny_of_tree ?_;show wpAny _ A.in1 (callAny (.ref a) args) _ _ s;simp only[callAny];refine aP (wpAny_load ho ?_);obtain⟨c,oc,vs,tq,hc,hoc,hdc,hq⟩:=hcd;simp only[hd',callFunction,hco,hgen,hbody,hc];rw[hc] at h;refine aP (m:=field (.ref c) 1) (wpAny_field hoc hdc hq (aP (bW ?_)));exact aP (kh h (λbinds s₁ h₁=>aP (kh h₁ (λenv s₂ h₂=>aP (wpAny_enterFrame h₂.1 hroom
  (bW (And.intro rfl h₂.2)))) λ_ _ h'=>h')) λ_ _ h'=>h')
theorem zrZ{P:Program}{base:Heap}{qual:Str}{body:Expr}{cl:List (Str×Addr)}{pm cdv ctv:Value}{p:Str}{cap:List Str}{gD:List V}{cus:List Value}{sp:Sp}{Pt:Addr}{bO:Pos}(ho:base.get? a=some o)(hod:o.data = .func (kla_fn name qual params body scope cl pm cdv ctv))(hcd:∀vs H Q E,sp vs H Q E->∃ps,H Pt=some (.tbl ps)/\codeAmong bO ps.toList=some cdv)(S:pM p scope cl)(hcells:∀x c,cl.lookup x=some c->∃v,base.IsCell c v)(hcap:∀(i:Nat) x v,cap[i]?=some x->gD[i]?=some v->scope.names.lookup x=some .free/\∃c u,cl.lookup x=some c/\base.IsCell c (some u)/\RelV v u)(hlen:cap.length=gD.length)(len:∀vs H Q E,sp vs H Q E->vs.length=1)(hbody:∀(qual:Str) (A:Around) (outer:List Env) (s:Shared) (H:Hp) (v:V) (Q:VK) (E:XK),bM k (A.deeper (envX qual scope s.heap.objs.size a cdv cl))->sp [v] H Q E ->
  ∃t,PE (xj P w K mg base (p::cap) qual scope a cdv cl A outer s H E).nox body t/\t (some v::gD.map some) H Q):
 di P w K mg base iV (k+1) a (kla_fn name qual params body scope cl pm cdv ctv) [p] sp:=by
 refine⟨len,λA outer s H args us vs Q E hr e0 hb r hsp=>?_⟩;have hl:=len _ _ _ _ hsp;obtain⟨v,rfl⟩:∃v,vs=[v]:=by
  match vs,hl with
  |[v],_=>exact⟨v,rfl⟩
 obtain⟨u,rfl,rv⟩:∃u,us=[u]/\RelV v u:=by
  cases r with
  |cons h1 h2=>cases h2;exact⟨_,rfl,h1⟩
 have bk:∀b o,base.get? b=some o->s.heap.get? b=some o:=λb o e=>(e0.bs b o e).1;have lim:s.heap.NoLimit:=e0.mod.nolimit.keeps bk;obtain⟨ps,hps,ham⟩:=hcd _ _ _ _ hsp;obtain⟨_,_,hcp⟩:=e0.hok Pt _ hps;obtain⟨cc,q,oc,vs,tq,hc1,_,hc2,hc3,hc4⟩:=hcp bO cdv ham;have cr:s.heap.CodeRec cdv q:=⟨cc,oc,vs,tq,hc1,hc2,hc3,hc4⟩
 obtain⟨t,ht,hq⟩:=hbody q A outer s H v Q E (hr.deeper _) hsp;refine nG hr.depth (bk _ _ ho) hod S.co S.gen rfl cr (hb _ _ _ _ ?_);have hloc:∀y∈[p].zip [u],scope.names.lookup y.1=some .local:=λy hy=>by
  have:y=(p,u):=by simpa using hy
  subst this;exact S.par
 refine wpAny_newFunctionEnv S.nocell hloc (λh₁ hns hsb=>⟨lim.fresh _ hsb,?_⟩) S.kind;show codeAny _ _ (.expr body (envX q scope s.heap.objs.size a cdv cl)) _ _;have hk₁:∀b o,s.heap.get? b=some o->h₁.get? b=some o:=λb o e=>hsb.extBut b o (dN (cM e)) (dF _ e);have cellK:∀c v,base.IsCell c v->h₁.IsCell c v:=λc v ⟨o,e,d⟩=>⟨o,hk₁ _ _ (bk _ _ e),d⟩
 have rN:∀b:Addr,b∉(xj P w K mg base (p::cap) q scope a cdv cl A outer s H E).ex:=λb z=>absurd (show b∈([]:List Addr) from z) (by simp);have I:Inv (xj P w K mg base (p::cap) q scope a cdv cl A outer s H E) [] (some v::gD.map some) H { s with heap:=h₁,toks:=s.toks+([p].zip [u]).length }:=by
  refine⟨⟨e0.mod,S.kind,rfl,rfl,bH _,S.inj,λy hy=>?_,λy c hf _=>(nomatch hf),λ_=>hr.hd,Around.frames_deeper e0.frames,.inr ⟨rfl,rfl⟩,λb z=>absurd z (rN b),e0.bs,e0.bsz,λb _ _=>rN b,λb z=>absurd z (rN b),e0.funs,e0.frf⟩,
   rfl,e0.bare,Un.kept hk₁,⟨_,hns,λi y z h1 h2 h3=>?_⟩,λy c h=>?_,e0.hok.fresh (bH _),λy c h=>?_,λq hq=>absurd (show q∈([]:List (Addr×Obj)) from hq) (by simp),e0.hok.kept hk₁,?_⟩
  .rcases hy with hy|hy
   .exact absurd hy (zpC S.nocell y)
   .exact S.has y hy
  .cases i with
   |zero =>
    have e1:p=y:=by simpa[xj] using h1
    have e2:v=z:=by simpa using h2
    subst e1 e2;exact⟨u,rv,.inl ⟨S.par,by simp⟩⟩
   |succ i =>
    have e1:cap[i]?=some y:=by simpa[xj] using h1
    have e2:gD[i]?=some z:=by
     rw[List.getElem?_cons_succ,fW] at h2;cases q:gD[i]? with
     |none=>rw[q] at h2;cases h2
     |some x=>rw[q] at h2;cases h2;rfl
    obtain⟨k1,c,u',k2,k3,k4⟩:=hcap i y z e1 e2;exact⟨u',k4,.inr ⟨.inr k1,c,k2,cellK _ _ k3⟩⟩
  .obtain⟨v',hv⟩:=hcells y c h;exact⟨v',cellK _ _ hv⟩
  .obtain⟨v',o',ho',_⟩:=hcells y c h;exact(e0.bs _ _ ho').2
  .show _=(p::cap).length;simp[hlen]
 refine kla_codeExpr (kh (ht.nox [] _ _ H Q I hq) (λu' s' hs=>?_) λe s' hs=>hs);obtain⟨v',H',J,rv',q⟩:=hs;exact⟨v',H',J.os,J.bare,J.base,J.hok,rv',q⟩
section
variable {X:Cx}{x:Str}{p pos:Pos}{e:Expr}{es:List Expr}{t:TA}
structure fY(H H':Hp):Prop where
 tups:∀b xs,H b=some (.tup xs)->H' b=some (.tup xs)
 tbls:∀b ps,H b=some (.tbl ps)->∃more,H' b=some (.tbl (ps++more))
 frzs:∀b o u,H b=some (.frz o u)->H' b=some (.frz o u)
end
def BM(h:Heap)(mg:Str->Option Value):Prop:=∃bm o,mg "__builtins__" = some (.ref bm)/\bm≠builtinsNs/\h.get? bm=some o/\o.cls = .type "module" /\ o.dict=some builtinsNs/\o.data = .plain
def jw(H H':Hp):Prop:=(∀b o,H b=some o->(∀ps,o ≠ .tbl ps)->H' b=some o)/\∀b ps,H b=some (.tbl ps)->∃qs,H' b=some (.tbl qs)
theorem zkl{cv:Value}:∀(l more:List Value),codeAmong pos l=some cv->codeAmong pos (l++more)=some cv:=λl more=>by
 fun_induction codeAmong pos l with
 |case1 line a col b c rest hc =>
  intro e;simp only[List.cons_append,codeAmong];rw[if_pos hc];exact e
 |case2 line a col b c rest hc ih =>
  intro e;simp only[List.cons_append,codeAmong];rw[if_neg hc];exact ih e
 |case3=>intro e;cases e
theorem zkk{pos':Pos}{c cv:Value}:∀l:List Value,TriplesOk l->codeAmong pos (l++[rawInt pos'.line,rawInt pos'.col,c])=some cv->codeAmong pos l=some cv\/cv=c:=λl h=>by
 fun_induction TriplesOk l with
 |case1 =>
  intro e;simp only[sI,codeAmong,rawInt] at e;split at e
  .cases e;exact .inr rfl
  .cases e
 |case2 a' t b' u x rest ih =>
  intro e;simp only[List.cons_append,codeAmong] at e ⊢;split at e
  .rename_i hc;rw[if_pos hc];exact .inl e
  .rename_i hc;rw[if_neg hc];exact ih h e
 |case3 l h1 h2=>exact h.elim
section
variable {X:Cx}{pz:List (Addr×Obj)}{Z:L2.St}{H:Hp}{s:Shared}
theorem Ui(I:Inv X pz Z H s){t':Nat}(k:∀b o,s.heap.get? b=some o->h'.get? b=some o):Inv X pz Z H { s with heap:=h',toks:=t' } :=
 I.step (h':=h') (g':=s.gens) (d':=s.drawn) (ch:=[]) (λ_ z=>nomatch z) (λb o _ _ _ e _=>k b o e) (λb o _ _ _ e _=>⟨o.slots,k b o e⟩) (λb o _ _ n=>n) (λb o _ e=>⟨o,k b o e⟩) (λ_ _ q=>q) (λ_ _ _ q=>q) (λ_ ps q=>⟨#[],by rw[q];simp⟩)
  (λm ⟨o,es,ep,e,r⟩=>⟨o,es,ep,k _ _ e,r⟩) (I.hok.kept k) I.bare
theorem zlw(I:Inv X pz Z H s){P c':Addr}{ps:Array Value}{t':Nat}{bO:Pos}{q:Str}(hT:H P=some (.tbl ps))(hx:Heap.ExtBut P s.heap h')(hge:s.heap.objs.size<=c')(hrec:h'.CodeRec (.ref c') q)(hP:h'.get? P=some (tabObj (ps++#[rawInt bO.line,rawInt bO.col,.ref c']))):
 Inv X pz Z (upd (upd H P (.tbl (ps++#[rawInt bO.line,rawInt bO.col,.ref c']))) c' (.own P)) { s with heap:=h',toks:=t' }:=by
 have hc:H c'=none:=I.hok.fresh hge;have hPc:P≠c':=λz=>by rw[z,hc] at hT;cases hT
 have G9:∀b,H b=none->b≠P:=λb n z=>by rw[z,hT] at n;cases n
 have t8:∀b o,s.heap.get? b=some o->b≠c':=λb o e z=>absurd (dU (cM e) (z ▸ hge)) (gM _);have old:∀b,b≠P->b≠c'->upd (upd H P (.tbl (ps++#[rawInt bO.line,rawInt bO.col,.ref c']))) c' (.own P) b=H b:=λb h1 h2=>by rw[cD h2,cD h1]
 have oldS:∀b o,H b=some o->b≠P->upd (upd H P (.tbl (ps++#[rawInt bO.line,rawInt bO.col,.ref c']))) c' (.own P) b=some o:=λb o e h1=>by rw[old b h1 (gU e hc)];exact e
 obtain⟨eP,tP,cP⟩:=I.hok P _ hT;refine I.step (h':=h') (g':=s.gens) (d':=s.drawn) (ch:=[]) (λ_ z=>nomatch z) (λb o _ _ _ e n=>hx b o (G9 b n) e) (λb o _ _ _ e n=>⟨o.slots,hx b o (G9 b n) e⟩) (λb o _ e n=>by rw[old b (G9 b n) (t8 b o e)];exact n) (λb o _ e=>?_)
  (λb xs q=>oldS b _ q λz=>by rw[z,hT] at q;cases q) (λb o u q=>oldS b _ q λz=>by rw[z,hT] at q;cases q) (λb qs e=>?_) (λm hm=>hm.extBut hx (G9 _ I.free)) (λb o e=>?_) I.bare
 .by_cases hb:b=P
  .subst hb;exact⟨_,hP⟩
  .exact⟨o,hx b o hb e⟩
 .by_cases hb:b=P
  .subst hb;rw[hT] at e;cases e;exact⟨_,by rw[cD hPc,fP]⟩
  .exact⟨#[],by rw[oldS b _ e hb];simp⟩
 .obtain⟨c2,oc,vs,t,ec,hoc,hod,hv⟩:=hrec;cases ec;by_cases h1:b=c'
  .subst h1;rw[fP] at e;cases e;exact⟨_,hoc⟩
  .rw[cD h1] at e;by_cases h2:b=P
   .subst h2;rw[fP] at e;cases e;refine⟨hP,by rw[Array.toList_append];exact TriplesOk_snoc _ _ _ _ tP,λpos cv q=>?_⟩;rw[Array.toList_append] at q;rcases zkk _ tP q with q|q
    .obtain⟨c3,q3,oc3,vs3,t3,e1,e2,e3,e4⟩:=cP pos cv q;have n3:c3≠b:=λz=>by rw[z,hT] at e2;cases e2
     exact⟨c3,q3,oc3,vs3,t3,e1,oldS _ _ e2 n3,hx _ _ n3 e3,e4⟩
    .exact⟨c',_,oc,vs,t,q,fP,hoc,hod,hv⟩
   .rw[cD h2] at e;refine(I.hok b o e).stay (λx u hxb g=>hx x u ?_ g) (λx g=>oldS x _ g λz=>by rw[z,hT] at g;cases g) λx xs g=>oldS x _ g λz=>by rw[z,hT] at g;cases g
    rcases hxb with z|z
    .rw[z];exact h2
    .intro y;rw[y,hT] at z;cases z
end
section
variable {X:Cx}{pz:List (Addr×Obj)}{Z:L2.St}{H:Hp}{s:Shared}{params:Arguments}{body:Expr}{scope:Scope}{bO:Pos}{clos:List (Str×Addr)}{c P:Addr}{ps:Array Value}{R:Value->Shared->Prop}
structure Made(X:Cx)(pz:List (Addr×Obj))(Z:L2.St)(H:Hp)(s:Shared)(params:Arguments)(body:Expr)(scope:Scope)(clos:List (Str×Addr))(P:Addr)(bO:Pos)(a:Addr)(s':Shared)(H':Hp):Prop where
 inv:Inv X pz Z H' s'
 same:jw H H'
 keep:∀b o,s.heap.get? b=some o->H b=none->s'.heap.get? b=some o/\H' b=none
 no:H' a=none
 new:s.heap.objs.size<=a
 obj:∃pm cdv ctv,s'.heap.get? a=some { cls := .type "function",data := .func (kla_fn "<lambda>" (X.env.qual ++ "<lambda>") params body scope clos pm cdv ctv) }/\∃ps,H' P=some (.tbl ps)/\codeAmong bO ps.toList=some cdv
theorem zna(I:Inv X pz Z H s)(hT:H P=some (.tbl ps))(hcode:X.env.code = .ref c)(C:CodeHd X.base c P)(B:BM X.base X.mg)(hcl:closureFor scope X.env=pure clos)(hdef:defaultsOf params X.env=([],[]))(h:∀a s' H',Made X pz Z H s params body scope clos P bO a s' H'->R (.ref a) s'):wpAny (model X.prog X.w) X.A (eval (.Lambda params body scope bO) X.env) R X.xe s:=by
 refine kla_eval hdef ?_;obtain⟨eP,tP,cP⟩:=I.hok P _ hT;have hg:s.heap.Ns mainGlobals X.mg:=I.mod.glob.keeps I.bk;have hgP:mainGlobals≠P:=λz=>by obtain⟨o,es,ep,e,hd,_⟩:=I.mod.glob;have:=(I.bs _ _ e).2;rw[z,hT] at this;cases this
 obtain⟨bm,ob,b1,b2,b3,b4,b5,b6⟩:=B;have hbP:bm≠P:=λz=>by have:=(I.bs _ _ b3).2;rw[z,hT] at this;cases this
 have hbG:bm≠mainGlobals:=λz=>by obtain⟨o,es,ep,e,hd,_⟩:=I.mod.glob;rw[z,e] at b3;cases b3;rw[hd] at b6;cases b6
 have hb:s.heap.BuiltinsAt X.mg P:=⟨bm,ob,b1,b2,hbG,hbP,I.bk _ _ b3,b4,b5,b6⟩
 have fnew:∀{h':Heap} {o:Obj} {b:Addr},H b=none->True:=λ_=>trivial;cases hn:codeAmong bO ps.toList with
 |none =>
  refine kla_makeFunction (mg:=X.mg) hcl I.ok.glob hg hcode (C.keeps I.bk) eP tP hn hgP hb λc' ctv h' tk hx hge hlt hrec htb=>?_;have I1:=zlw I (t':=tk) hT hx hge hrec htb;have I2:=Ui I1 (h':=h'.push (kla_obj "<lambda>" (X.env.qual ++ "<lambda>") params body scope clos ((X.mg "__name__").getD .none) c' ctv)) (t':=tk) λb o e=>dF _ e;have hc:H c'=none:=I.hok.fresh hge;refine h h'.objs.size _ _ ⟨I2,⟨λb o e ne=>?_,λb qs e=>?_⟩,λb o e n=>⟨dF _ (hx b o (λz=>by rw[z,hT] at n;cases n) e),?_⟩,?_,?_,?_⟩
  .rw[cD (gU e hc),cD (λz=>ne ps (by rw[z,hT] at e;cases e;rfl))];exact e
  .rw[cD (gU e hc)];by_cases hb:b=P
   .subst hb;exact⟨_,fP⟩
   .rw[cD hb];exact⟨_,e⟩
  .have hlt':=cM e;rw[cD (dN (dU hlt' hge)),cD (λz=>by rw[z,hT] at n;cases n)];exact n
  .rw[cD (Nat.ne_of_gt hlt),cD (λz=>by
    have:=cM htb;rw[<-z] at this;exact absurd this (gM _))]
   refine I.hok.fresh (uJ (Ed hge hlt))
  .exact uJ (Ed hge hlt)
  .exact⟨_,_,ctv,gG _ rfl,_,by rw[cD (gU hT hc),fP],by rw[Array.toList_append];exact codeAmong_snoc _ tP hn⟩
 |some cv =>
  obtain⟨c',q,oc,vs,t,rfl,e2,e3,e4,e5⟩:=cP bO cv hn;refine kla_makeFunctionHit (mg:=X.mg) hcl I.ok.glob hg hcode (C.keeps I.bk) eP tP hn hb λctv h' tk hk hsz=>?_;have I2:=Ui I (h':=h'.push { cls := .type "function",data := .func (kla_fn "<lambda>" (X.env.qual ++ "<lambda>") params body scope clos ((X.mg "__name__").getD .none) (.ref c') ctv) }) (t':=tk) λb o e=>dF _ (hk b o e);refine h h'.objs.size _ _ ⟨I2,⟨λb o e _=>e,λb qs e=>⟨qs,e⟩⟩,λb o e n=>⟨dF _ (hk b o e),n⟩,I.hok.fresh hsz,hsz,?_⟩;exact⟨_,_,ctv,gG _ rfl,ps,hT,hn⟩
end
noncomputable def qK(env:Env)(y:Str×NameKind):Option (Str×Addr):=if(y.2==NameKind.free)=true then(env.cells.lookup y.1).map λc=>(y.1,c) else none
noncomputable def oO(env:Env)(names:List (Str×NameKind)):List (Str×Addr):=(names.filterMap (qK env)).reverse
theorem Wh{env:Env}:∀(names:List (Str×NameKind)) (acc:List (Str×Addr)),(∀y∈names,y.2 = .free->∃c,env.cells.lookup y.1=some c) ->
 (forIn names acc (λ(x:Str×NameKind) (cs:List (Str×Addr))=>do if(x.2==NameKind.free)=true then let c <-cellOf env x.1;pure (ForInStep.yield ((x.1,c)::cs)) else pure (ForInStep.yield cs)):Sem (List (Str×Addr)))
  = pure (oO env names++acc)
 |[],acc,_=>by simp[oO]
 |y::r,acc,h=>by
  have ih:=Wh (env:=env) r;rw[List.forIn_cons];unfold oO at *
  rw[List.filterMap_cons];by_cases hk:(y.2==NameKind.free)=true
  .obtain⟨c,hc⟩:=h y (eZ ..) (by simpa using hk);have hcell:cellOf env y.1=pure c:=by unfold cellOf;rw[hc]
   have hG:qK env y=some (y.1,c):=by unfold qK;rw[if_pos hk,hc];rfl
   simp only[if_pos hk,hcell,pure_bind];rw[ih _ (λz hz=>h z (cU _ hz)),hG];simp
  .have hG:qK env y=none:=by unfold qK;rw[if_neg hk]
   simp only[if_neg hk,pure_bind];rw[ih _ (λz hz=>h z (cU _ hz)),hG]
theorem zki(h:∀y∈scope.names,y.2 = .free->∃c,env.cells.lookup y.1=some c):
 closureFor scope env=pure (oO env scope.names):=by
 unfold closureFor;have:=Wh (env:=env) scope.names [] h;rw[List.append_nil] at this;simpa using this
theorem zkj{y:Str×NameKind}{q:Str×Addr}(e:qK env y=some q):y.2 = .free/\q.1=y.1/\env.cells.lookup y.1=some q.2:=by
 unfold qK at e;split at e
 .rename_i hk;simp only[bf] at e;obtain⟨c,h1,rfl⟩:=e;exact⟨by simpa using hk,rfl,h1⟩
 .cases e
def VD{q:Str×Addr}:q∈oO env names↔∃y∈names,qK env y=some q:=by unfold oO;rw[List.mem_reverse,List.mem_filterMap]
theorem zj5{α:Type}{l:List (Str×α)}{v:α}(h:(x,v)∈l):∃u,l.lookup x=some u:=by
 induction l with
 |nil=>cases h
 |cons q r ih =>
  obtain⟨k,w⟩:=q;by_cases hk:x=k
  .subst hk;exact⟨w,by simp[List.lookup]⟩
  .rcases List.mem_cons.mp h with e|e
   .cases e;exact absurd rfl hk
   .obtain⟨u,hu⟩:=ih e;refine⟨u,?_⟩;rw[jH];have:(x==k)=false:=by simpa using hk
    rw[this];exact hu
theorem Be(h:(oO env names).lookup x=some c):env.cells.lookup x=some c/\(x,NameKind.free)∈names:=by obtain⟨y,hy,e⟩:=VD.mp (iK h);obtain⟨h1,h2,h3⟩:=zkj e;obtain⟨y1,y2⟩:=y;simp only at h1 h2 h3;subst h1 h2;exact⟨h3,hy⟩
theorem VB(h:(x,NameKind.free)∈names)(hc:env.cells.lookup x=some c):(oO env names).lookup x=some c:=by have:(x,c)∈oO env names:=VD.mpr ⟨_,h,by unfold qK;simp[hc]⟩;obtain⟨u,hu⟩:=zj5 this;have:=(Be hu).1;rw[hc] at this;rw[hu,<-this]
noncomputable def nR(h:Heap)(H:Hp)(l:List Env):Heap:=hideAll h (zj h H++frs l)
theorem Lj{l:List Env}{b:Addr}(e:h.get? b=some o)(n:H b=none)(hf:b∉frs l):(nR h H l).get? b=some o :=
 hideAll_get _ e λhm=>by
  rcases lq.mp hm with z|z
  .have q:(H b).isSome=true:=(List.mem_filter.mp z).2;rw[n] at q;simp at q
  .exact hf z
theorem Vq{l:List Env}{b:Addr}(e:(nR h H l).get? b=some o):h.get? b=some o/\H b=none:=by
 have e':h.get? b=some o:=of_hideAll _ e;refine⟨e',?_⟩;cases q:H b with
 |none=>rfl
 |some x =>
  have hm:b∈zj h H++frs l:=List.mem_append_left _ (List.mem_filter.mpr ⟨List.mem_range.mpr (cM e'),by simp[q]⟩);have z:(nR h H l).get? b=none:=hideAll_none _ hm;rw[z] at e;cases e
theorem La{h base base':Heap}:∀{l:List Env},h.FunFrames base l->(∀b∈frs l,base'.get? b=none)->h.FunFrames base' l
 |[],_,_=>trivial
 |env::r,hl,hb=>by
  obtain⟨h1,⟨L,o,h2,_,h3,h4⟩,h5⟩:=hl;refine⟨h1,⟨L,o,h2,hb L ?_,h3,h4⟩,La h5 λb q=>hb b ?_⟩
  .unfold frs;rw[List.filterMap_cons,h2];exact eZ ..
  .unfold frs at *;rw[List.filterMap_cons,h2];exact cU _ q
def zlb{base base':Heap}(M:Mod K mg base)(k:∀b o,base.get? b=some o->base'.get? b=some o):Mod K mg base' :=
 ⟨M.kin.keeps k,M.glob.keeps k,let ⟨mb,h1,h2⟩:=M.blt;⟨mb,h1.keeps k,h2⟩,M.nolimit.keeps k⟩
theorem zlZ{pz:List (Addr×Obj)}{Z:L2.St}(I:Inv X pz Z H s):jG X.prog X.w X.K X.mg (nR s.heap H X.stack) X.A X.stack s H/\∀b o,X.base.get? b=some o->(nR s.heap H X.stack).get? b=some o:=by
 have kb:∀b o,X.base.get? b=some o->(nR s.heap H X.stack).get? b=some o:=λb o e =>
  Lj (I.bs b o e).1 (I.bs b o e).2 λz=>by have:=(I.stack.mem z).1;rw[e] at this;cases this
 refine⟨⟨I.ok.frames,zlb I.mod kb,λb o e=>Vq e,by unfold nR;rw[hideAll_size];exact bH _,La I.stack λb hb=>hideAll_none _ (List.mem_append_right _ hb),I.stkFree,I.hok,I.bare⟩,kb⟩
structure Zg(base:Heap)(qual:Str)(params:Arguments)(body:Expr)(scope:Scope)(clos:List (Str×Addr))(cap:List Str)(gD:List V)(a:Addr)(cdv:Value):Prop where
 obj:∃pm ctv,base.get? a=some { cls := .type "function",data := .func (kla_fn "<lambda>" (qual ++ "<lambda>") params body scope clos pm cdv ctv) }
 has:∀y,(y,NameKind.free)∈scope.names->∃c,clos.lookup y=some c
 inj:∀y z c,clos.lookup y=some c->clos.lookup z=some c->y=z
 cells:∀y c,clos.lookup y=some c->∃v,base.IsCell c v
 cap:∀(i:Nat) y v,cap[i]?=some y->gD[i]?=some v->(y,NameKind.free)∈scope.names/\∃c u,clos.lookup y=some c/\base.IsCell c (some u)/\RelV v u
section
variable {K:FgA}{H H':Hp}{α:List Addr}
mutual
def D.no:D->Bool
 |.tup xs=>v9 xs
 |.obj _ _ _=>false
 |.ref _=>false
 |_=>true
def v9:List D->Bool
 |[]=>true
 |d::ds=>D.no d&&v9 ds
end
mutual
theorem Rep.monoT{H H':Hp}{α α':List Addr}(t:fY H H'):∀{d:D} {v:V},Rep K H α d v->D.no d=true->Rep K H' α' d v
 |_,_,.non,_ => .non
 |_,_,.bl b,_ => .bl b
 |_,_,.int i,_ => .int i
 |_,_,.str x,_ => .str x
 |_,_,.tup h r,b => .tup (by
  rcases h with(h|⟨o,h⟩)|h
  .exact .inl (.inl (t.tups _ _ h))
  .exact .inl (.inr ⟨o,t.frzs _ _ _ h⟩)
  .exact .inr h) (aK.monoT t r (by rw[D.no] at b;exact b))
 |_,_,.ref h,b=>by rw[D.no] at b;cases b
 |_,_,.ty n,_ => .ty n
 |_,_,.adr a,_ => .adr a
 |_,_,.obj _ _ _ _ _,b=>by rw[D.no] at b;cases b
theorem aK.monoT{H H':Hp}{α α':List Addr}(t:fY H H'):∀{ds:List D} {vs:List V},aK K H α ds vs->v9 ds=true->aK K H' α' ds vs
 |_,_,.nil,_ => .nil
 |_,_,.cons h r,b=>by rw[v9,dD] at b;exact .cons (Rep.monoT t h b.1) (aK.monoT t r b.2)
end
def fY.refl:fY H H:=⟨λ_ _ h=>h,λ_ _ h=>⟨#[],by rw[h];simp⟩,λ_ _ _ h=>h⟩
theorem jw.ext(t:jw H H'):Ext K H α H' α:=⟨λa vs h=>by
 rcases h with(h|⟨o,h⟩)|h
 .exact .inl (.inl (t.1 _ _ h λ_ z=>by cases z))
 .exact .inl (.inr ⟨o,t.1 _ _ h λ_ z=>by cases z⟩)
 .exact .inr h,λ_ _ q=>q,λ_ _ _ _ _ q=>t.1 _ _ q λ_ z=>by cases z⟩
theorem jw.store(t:jw H H')(s:aA K H α S):aA K H' α S:=⟨s.len,s.nd,λn o a h1 h2=>by
 have ob:=s.obj n o a h1 h2;cases o with
 |lst ds=>obtain⟨vs,e,r⟩:=ob;exact⟨vs,t.1 _ _ e (λ_ z=>by cases z),r.mono t.ext⟩
 |frz ds =>
  obtain⟨vs,e,r⟩:=ob;refine⟨vs,?_,r.mono t.ext⟩;rcases e with⟨ob,e⟩|e
  .exact .inl ⟨ob,t.1 _ _ e λ_ z=>by cases z⟩
  .exact .inr e
 |ins C fs=>obtain⟨dx,gs,e,h,r⟩:=ob;exact⟨dx,gs,t.1 _ _ e (λ_ z=>by cases z),h,r.mono t.ext⟩
 |dct xs=>obtain⟨ys,e,r⟩:=ob;exact⟨ys,t.1 _ _ e (λ_ z=>by cases z),r.mono (jw.ext (α:=α) t).tups⟩
 |tbl x=>obtain⟨h0,ps,e⟩:=ob;obtain⟨qs,e'⟩:=t.2 _ _ e;exact⟨h0,qs,e'⟩⟩
end
noncomputable def Es(P:Program)(w:World)(K:FgA)(mg:Str->Option Value)(base:Heap)(k:Nat)(a:Addr)(R:Hp->Prop)(ψ:GN):Prop :=
 ∃fd q sp,di P w K mg base iV k a fd [q] sp/\base.get? a=some { cls := .type "function",data := .func fd }/\(∀(s:Shared) (u:Value),BindsTo s fd ⟨[u],[]⟩ [(q,u)])/\∀vs H Q,R H->vs.length=1->jB K ψ vs H Q->sp vs H Q E0
def DP(X:Cx)(a:Addr)(ψ:GN):Prop:=∃R k,Es X.prog X.w X.K X.mg X.base k a R ψ/\bM k X.A/\∀H,fY X.H₀ H->R H
noncomputable def spH(K:FgA)(R:Hp->Prop)(a:Addr)(ψ:GN)(G:Addr->GN->GN):Sp:=λvs H Q _=>∃v1,vs=[v1,.ref a]/\R H/\∃S α d1 z S',aA K H α S/\Rep K H α d1 v1/\G a ψ [d1,.adr a] S=some (z,S')/\Kt K H α z S' Q
noncomputable def DX(P:Program)(w:World)(K:FgA)(mg:Str->Option Value)(base:Heap)(k:Nat)(f:Addr)(fd:FuncData)(ps:List Str)(G:Addr->GN->GN):Prop :=
 ∀(a:Addr) (R:Hp->Prop) (ψ:GN),(∀H H',fY H H'->R H->R H')->Es P w K mg base k a R ψ->di P w K mg base iV (k+1) f fd ps (spH K R a ψ G)
noncomputable def pK:List Nat->Sg->Option (List D)
 |[],_=>some []
 |j::r,Z=>match Z[j]? with
  |some (some d)=>(pK r Z).map λds=>d::ds
  |_=>none
noncomputable def sU(fb:EF)(iC:List D):GN:=λds S=>match ds with
 |[d]=>fb (some d::iC.map some) S
 |_=>none
theorem Uq{K:FgA}{H:Hp}{α:List Addr}{σd:Sg}{Z:L2.St}(hv:bI K H α σd Z):∀{src:List Nat} {iC:List D},pK src σd=some iC->∃gD:List V,aK K H α iC gD/\src.length=gD.length/\∀(i j:Nat),src[i]?=some j->∃v,Z[j]?=some (some v)/\gD[i]?=some v
 |[],iC,e=>by cases e;exact⟨[],.nil,rfl,λi j h=>by simp at h⟩
 |j::r,iC,e=>by
  unfold pK at e;split at e
  .rename_i d ed;simp only[bf] at e;obtain⟨ds,e1,rfl⟩:=e;obtain⟨gD,h1,h2,h3⟩:=Uq hv e1;obtain⟨v,k1,k2⟩:=hv.2 j d ed;refine⟨v::gD,.cons k2 h1,by simp[h2],λi j' hi=>?_⟩;cases i with
   |zero=>simp at hi;subst hi;exact⟨v,k1,rfl⟩
   |succ i=>simpa using h3 i j' (by simpa using hi)
  .cases e
structure Et(X:Cx)(P c:Addr):Prop where
 fn:∀y,X.fn y=true
 tab:∃ps,X.H₀ P=some (.tbl ps)
 code:X.env.code = .ref c
 hd:CodeHd X.base c P
 bm:BM X.base X.mg
section
variable {X:Cx}{pz:List (Addr×Obj)}{Z:L2.St}{H1 H':Hp}{s1 s':Shared}{params:Arguments}{body:Expr}{scope:Scope}{bO:Pos}{P:Addr}{cap:List Str}{gD:List V}{a:Addr}
theorem zm7(I1:Inv X pz Z H1 s1)(M:Made X pz Z H1 s1 params body scope (oO X.env scope.names) P bO a s' H')(hcap:∀y∈cap,(y,NameKind.free)∈scope.names)(hfree:∀y∈scope.names,y.2 = .free->X.env.kindOf y.1=some .cell)(hfn:∀y,X.fn y=true)(hsl:∀(i:Nat) y,cap[i]?=some y->∃(j:Nat) (v:V),X.N[j]?=some y/\Z[j]?=some (some v)/\gD[i]?=some v):
 ∃cdv,Zg (nR s'.heap H' X.stack) X.env.qual params body scope (oO X.env scope.names) cap gD a cdv/\∃ps,H' P=some (.tbl ps)/\codeAmong bO ps.toList=some cdv:=by
 obtain⟨pm,cdv,ctv,ho,PN⟩:=M.obj;have I2:=M.inv;have hcells:∀y∈scope.names,y.2 = .free->∃c,X.env.cells.lookup y.1=some c:=λy hy e=>I1.ok.has y.1 (.inl (hfree y hy e));have Cu:∀b,s1.heap.objs.size<=b->b∉frs X.stack:=λb hb z=>by obtain⟨_,o,ho,_⟩:=I1.stack.mem z;exact absurd (dU (cM ho) hb) (gM _)
 have xq:∀y c,X.env.cells.lookup y=some c->c∉frs X.stack:=λy c ec z=>by
  rcases List.mem_cons.mp (I2.stkSub c z) with q|q
  .exact I2.cne y c ec q
  .obtain⟨_,o,ho,_⟩:=I2.ok.funs.mem q;exact absurd (dU (cM ho) (I2.ok.cab y c (hfn y) ec)) (gM _)
 have uw:∀y c v,X.env.cells.lookup y=some c->s'.heap.IsCell c v->(nR s'.heap H' X.stack).IsCell c v:=λy c v ec ⟨o,h1,h2⟩=>⟨o,Lj h1 (I2.freeC y c ec) (xq y c ec),h2⟩
 refine⟨cdv,⟨⟨pm,ctv,Lj ho M.no (Cu a M.new)⟩,λy hy=>?_,λy z c h1 h2=>I2.ok.inj y z c (Be h1).1 (Be h2).1,λy c h1=>?_,λi y v h1 h2=>?_⟩,PN⟩
 .obtain⟨c,hc⟩:=hcells _ hy rfl;exact⟨c,VB hy hc⟩
 .obtain⟨v,hv⟩:=I2.cell y c (Be h1).1;exact⟨v,uw y c v (Be h1).1 hv⟩
 .have hy:=hcap y (List.mem_of_getElem? h1);obtain⟨j,v',k1,k2,k3⟩:=hsl i y h1;rw[h2] at k3;cases k3;have hkind:=hfree _ hy rfl;obtain⟨m,_,hloc⟩:=I2.loc;obtain⟨u,ru,l⟩:=hloc j y v k1 k2 (.inr (.inl hkind));refine⟨hy,?_⟩;rcases l with⟨l1,_⟩|⟨_,c,l2,l3⟩
  .have l1':X.env.kindOf y=some .local:=l1;have hk':X.env.kindOf y=some .cell:=hkind;rw[hk'] at l1';cases l1'
  .exact⟨c,u,VB hy l2,uw y c _ l2 l3,ru⟩
end
end MX
end
section
namespace MX
open PySem PySem.W PyProof.Rows
section
variable {n:Nat}{lt:Nat->Nat->Bool}{α β:Type}
noncomputable def zy(lt:Nat->Nat->Bool):KasT α->α
 |.ret a=>a
 |.ask i j k=>zy lt (k (lt i j))
noncomputable def fH(n:Nat)(lt:Nat->Nat->Bool)(R:α->Prop):KasT α->Prop
 |.ret a=>R a
 |.ask i j k=>i<n/\j<n/\fH n lt R (k (lt i j))
def fH.bind{R:β->Prop}{f:α->KasT β}:∀{t:KasT α},fH n lt (λa=>fH n lt R (f a)) t->fH n lt R (t.bind f)
 |.ret _,h=>h
 |.ask _ _ _,h=>⟨h.1,h.2.1,fH.bind h.2.2⟩
def fH.mono{R R':α->Prop}(k:∀a,R a->R' a):∀{t:KasT α},fH n lt R t->fH n lt R' t
 |.ret _,h=>k _ h
 |.ask _ _ _,h=>⟨h.1,h.2.1,fH.mono k h.2.2⟩
def fH.ev{R:α->Prop}:∀{t:KasT α},fH n lt R t->R (zy lt t)
 |.ret _,h=>h
 |.ask i j k,h=>fH.ev (t:=k (lt i j)) h.2.2
def fH.wp{R:α->Prop}{cmp:Nat->Nat->(Bool->Shared->Prop)->Shared->Prop}{s:Shared}{Q:α->Shared->Prop}(hc:∀i j C,i<n->j<n->C (lt i j) s->cmp i j C s):∀{t:KasT α},fH n lt R t->Q (zy lt t) s->t.kasWp cmp Q s
 |.ret _,_,q=>q
 |.ask _ _ _,h,q=>hc _ _ _ h.1 h.2.1 (fH.wp hc h.2.2 q)
structure jd(n:Nat)(lt:Nat->Nat->Bool):Prop where
 tr:∀i j k,lt j i=false->lt k j=false->lt k i=false
 asy:∀i j,lt i j=true->lt j i=false
 tot:∀i j,i<n->j<n->lt i j=false->lt j i=false->i=j
abbrev cF(p:Array Nat)(i:Nat):Nat:=p.getD i 0
def iG(n:Nat)(p:Array Nat):Prop:=p.toList.Perm (List.range n)
def lN(lt:Nat->Nat->Bool)(p:Array Nat)(k:Nat):Prop:=∀i j,i<=j->j<k->lt (cF p j) (cF p i)=false
def uI(lt:Nat->Nat->Bool)(p:Array Nat)(k:Nat):Prop:=∀i j,i<j->j<k->lt (cF p j) (cF p i)=true
variable {p:Array Nat}{k:Nat}
def iG.size(h:iG n p):p.size=n:=by have:=List.Perm.length_eq h;simpa using this
theorem iG.bel(h:iG n p)(h1:1<=n)(i:Nat):cF p i<n:=by
 unfold cF;by_cases hi:i<p.size
 .have:=(List.Perm.mem_iff h).mp (show p[i]∈p.toList by simp);simpa[Array.getD,hi] using this
 .simp[Array.getD,hi];omega
def iG.rev(h:iG n p)(i j:Nat):iG n (kas_rev p i j):=List.Perm.trans (Array.perm_iff_toList_perm.mp (mirror_perm _ _ _ _)) h
def iG.bub(h:iG n p)(i j:Nat):iG n (bubble p i j):=List.Perm.trans (Array.perm_iff_toList_perm.mp (bubble_perm _ _ _)) h
theorem iG.inj(h:iG n p)(hi:i<n)(hj:j<n)(e:cF p i=cF p j):i=j:=by
 have hs:=h.size;have hi':i<p.toList.length:=by simp;omega
 have hj':j<p.toList.length:=by simp;omega
 have nd:p.toList.Nodup:=(List.Perm.nodup_iff h).mpr List.nodup_range;refine(List.getElem_inj (h₀:=hi') (h₁:=hj') nd).mp ?_;simpa[cF,Array.getD,show i<p.size by omega,show j<p.size by omega] using e
def Fy{p q:Array Nat}(h:p[i]?=q[j]?):cF p i=cF q j:=by unfold cF;rw[Array.getD_eq_getD_getElem?,Array.getD_eq_getD_getElem?,h]
def rP(T:jd n lt)(i:Nat):lt i i=false:=by
 cases q:lt i i with
 |false=>rfl
 |true=>have:=T.asy _ _ q;rw[q] at this;cases this
theorem lN.next(T:jd n lt)(h:lN lt p k)(h1:1<=k)(e:lt (cF p k) (cF p (k - 1))=false):lN lt p (k+1):=λi j hij hj=>by
 by_cases hk:j=k
 .subst hk;by_cases hi:i=j
  .subst hi;exact rP T _
  .exact T.tr _ _ _ (h i (j - 1) (by omega) (by omega)) e
 .exact h i j hij (by omega)
def N8(T:jd n lt):lN lt p 1:=λi j hij hj=>by
 obtain⟨rfl,rfl⟩:i=0/\j=0:=by omega
 exact rP T _
theorem uI.next(T:jd n lt)(h:uI lt p k)(h1:1<=k)(e:lt (cF p k) (cF p (k - 1))=true):uI lt p (k+1):=λi j hij hj=>by
 by_cases hk:j=k
 .subst hk;by_cases hi:i=j - 1
  .rw[hi];exact e
  .have a:=h i (j - 1) (by omega) (by omega);cases q:lt (cF p j) (cF p i) with
   |true=>rfl
   |false=>rw[T.tr _ _ _ (T.asy _ _ a) q] at e;cases e
 .exact h i j hij (by omega)
theorem uI.rev(T:jd n lt)(hz:k<=p.size)(h:uI lt p k):lN lt (kas_rev p 0 k) k:=λi j hij hj=>by
 have e:∀m,m<k->cF (kas_rev p 0 k) m=cF p (k - 1 - m):=λm hm=>Fy (by
  unfold kas_rev;rw[getElem?_mirror_all hz,if_pos (by omega)];congr 1;omega)
 rw[e i (by omega),e j hj];by_cases hi:i=j
 .subst hi;exact rP T _
 .exact T.asy _ _ (h _ _ (by omega) (by omega))
theorem Jj(h1:1<=n)(hp:iG n p):∀(f a:Nat),1<=a->(jd n lt->lN lt p a)->fH n lt (λm=>a<=m/\m<=a+f/\(jd n lt->lN lt p m)/\(m=a+f\/lt (cF p m) (cF p (m - 1))=true)) (kas_asc p f a)
 |0,a,_,h=>⟨bH _,bH _,h,.inl rfl⟩
 |f+1,a,ha,h=>⟨hp.bel h1 _,hp.bel h1 _,by
  show fH n lt _ (if lt (cF p a) (cF p (a - 1))=true then _ else _);cases e:lt (cF p a) (cF p (a - 1)) with
  |true =>
   rw[if_pos rfl];exact⟨bH _,by omega,h,.inr e⟩
  |false =>
   rw[if_neg (by simp)];exact(Jj h1 hp f (a+1) (by omega) λT=>(h T).next T ha e).mono λm q=>⟨by omega,by omega,q.2.2.1,q.2.2.2.imp (by omega) id⟩⟩
theorem FP(h1:1<=n):∀(f:Nat) (p:Array Nat) (a q:Nat),1<=a->a+f<=n->iG n p->(jd n lt->q=0/\uI lt p a) ->
 fH n lt (λr=>iG n r.1/\a<=r.2.1/\r.2.1<=a+f/\(jd n lt->r.2.2=0/\uI lt r.1 r.2.1)) (kas_desc f p a q)
 |0,p,a,q,_,_,hp,h=>⟨hp,bH _,bH _,h⟩
 |f+1,p,a,q,ha,hn,hp,h=>⟨hp.bel h1 _,hp.bel h1 _,by
  show fH n lt _ (if lt (cF p a) (cF p (a - 1))=true then _ else _);cases e:lt (cF p a) (cF p (a - 1)) with
  |true =>
   rw[if_pos rfl];split
   .rename_i hq;exact(FP h1 f _ (a+1) 0 (by omega) (by omega) (hp.rev _ _) λT=>absurd (h T).1 (by omega)).mono λr z=>⟨z.1,by omega,by omega,z.2.2.2⟩
   .exact(FP h1 f _ (a+1) 0 (by omega) (by omega) hp λT=>⟨rfl,(h T).2.next T ha e⟩).mono λr z=>⟨z.1,by omega,by omega,z.2.2.2⟩
  |false =>
   rw[if_neg (by simp)];refine⟨hp.bel h1 _,hp.bel h1 _,?_⟩;show fH n lt _ (if lt (cF p (a - 1)) (cF p a)=true then _ else _);cases e2:lt (cF p (a - 1)) (cF p a) with
   |true=>rw[if_pos rfl];exact⟨hp,bH _,by show a<=_;omega,h⟩
   |false =>
    rw[if_neg (by simp)];exact(FP h1 f _ (a+1) (q+1) (by omega) (by omega) hp λT=>absurd (hp.inj (by omega) (by omega) (T.tot _ _ (hp.bel h1 _) (hp.bel h1 _) e e2)) (by omega)).mono λr z=>⟨z.1,by omega,by omega,z.2.2.2⟩⟩
def QD(n:Nat)(lt:Nat->Nat->Bool)(r:Nat×Array Nat):Prop:=1<=r.1/\r.1<=n/\iG n r.2/\(jd n lt->lN lt r.2 r.1)
theorem RW(h1:1<=k)(hn:k<=n)(hp:iG n p)(h:jd n lt->lN lt (kas_rev p 0 k) k):fH n lt (QD n lt) (kas_tail3 k n p) :=
 fH.bind ((Jj (by omega) (hp.rev 0 k) (n - k) k h1 h).mono λm q=>⟨by show 1<=m;omega,by show m<=n;omega,hp.rev 0 k,q.2.2.1⟩)
theorem RV(hn:k+1<=n)(hp:iG n p)(h:jd n lt->uI lt p (k+1)):fH n lt (QD n lt) (kas_descPart k n p):=by
 refine fH.bind ((FP (by omega) (n - (k+1)) p (k+1) 0 (by omega) (by omega) hp λT=>⟨rfl,h T⟩).mono λr q=>?_);obtain⟨q1,q2,q3,q4⟩:=q;split
 .exact RW (by omega) (by omega) (q1.rev _ _) λT=>absurd (q4 T).1 (by omega)
 .exact RW (by omega) (by omega) q1 λT=>(q4 T).2.rev T (by rw[q1.size];omega)
theorem zng(h1:1<=n)(hp:iG n p):fH n lt (QD n lt) (kas_count n p):=by
 refine fH.bind ((Jj h1 hp (n - 1) 1 (bH _) λT=>N8 T).mono λm q=>?_);obtain⟨q1,q2,q3,q4⟩:=q;split
 .exact⟨q1,by show m<=n;omega,hp,q3⟩
 .rename_i hm;have hm':m≠n:=by simpa using hm
  have e:lt (cF p m) (cF p (m - 1))=true:=q4.resolve_left (by omega);split
  .refine⟨hp.bel h1 _,hp.bel h1 _,?_⟩;show fH n lt _ (if lt (cF p 0) (cF p (m - 1))=true then _ else _);cases e2:lt (cF p 0) (cF p (m - 1)) with
   |true=>rw[if_pos rfl];exact⟨q1,by show m<=n;omega,hp,q3⟩
   |false =>
    rw[if_neg (by simp)];exact RV (by omega) (hp.rev _ _) λT=>absurd (hp.inj (by omega) (by omega) (T.tot _ _ (hp.bel h1 _) (hp.bel h1 _) e2 (q3 T 0 (m - 1) (by omega) (by omega)))) (by omega)
  .obtain rfl:m=1:=by omega
   exact RV (by omega) hp λT i j hij hj=>by
    obtain⟨rfl,rfl⟩:i=0/\j=1:=by omega
    exact e
theorem Kl(h1:1<=n)(hp:iG n p):∀(f l r:Nat),l<=r->r<=k->r - l<=f->(jd n lt->(∀i,i<l->lt (cF p k) (cF p i)=false)/\∀i,r<=i->i<k->lt (cF p k) (cF p i)=true)->(jd n lt->lN lt p k) ->
 fH n lt (λm=>m<=k/\(jd n lt->(∀i,i<m->lt (cF p k) (cF p i)=false)/\∀i,m<=i->i<k->lt (cF p k) (cF p i)=true)) (kas_place p k f l r)
 |0,l,r,a,b,c,h,_=>by
  obtain rfl:l=r:=by omega
  exact⟨b,h⟩
 |f+1,l,r,a,b,c,h,u=>by
  unfold kas_place;split
  .obtain rfl:l=r:=by omega
   exact⟨b,h⟩
  .refine⟨hp.bel h1 _,hp.bel h1 _,?_⟩;show fH n lt _ (if lt (cF p k) (cF p ((l+r) / 2))=true then _ else _);cases e:lt (cF p k) (cF p ((l+r) / 2)) with
   |true =>
    rw[if_pos rfl];refine Kl h1 hp f l ((l+r) / 2) (by omega) (by omega) (by omega) (λT=>⟨(h T).1,λi hi hk=>?_⟩) u;cases q:lt (cF p k) (cF p i) with
    |true=>rfl
    |false=>rw[T.tr _ _ _ (u T ((l+r) / 2) i hi hk) q] at e;cases e
   |false =>
    rw[if_neg (by simp)];exact Kl h1 hp f ((l+r) / 2+1) r (by omega) b (by omega) (λT=>⟨λi hi=>T.tr _ _ _ (u T i ((l+r) / 2) (by omega) (by omega)) e,(h T).2⟩) u
theorem zqp{l:Nat}(T:jd n lt)(hp:iG n p)(hk:k<n)(hl:l<=k)(u:lN lt p k)(h1:∀i,i<l->lt (cF p k) (cF p i)=false)(h2:∀i,l<=i->i<k->lt (cF p k) (cF p i)=true):lN lt (bubble p k (k - l)) (k+1):=λi j hij hj=>by
 have e:∀m,cF (bubble p k (k - l)) m=if m=l then cF p k else if l<m/\m<=k then cF p (m - 1) else cF p m:=λm=>by
  have z:=getElem?_bubble (xs:=p) (src:=k) (by rw[hp.size];exact hk) (k - l) (by omega) m;rw[show k - (k - l)=l by omega] at z;split
  .rename_i hm;rw[if_pos hm] at z;exact Fy z
  .rename_i hm;rw[if_neg hm] at z;split
   .rename_i hm2;rw[if_pos hm2] at z;exact Fy z
   .rename_i hm2;rw[if_neg hm2] at z;exact Fy z
 rw[e i,e j]
 repeat' split
 all_goals first
  |exact rP T _
  |exact u _ _ (by omega) (by omega)
  |exact h1 _ (by omega)
  |exact T.asy _ _ (h2 _ (by omega) (by omega))
  |omega
theorem Ri(h1:1<=n):∀(f:Nat) (p:Array Nat) (k:Nat),k+f<=n->iG n p->(jd n lt->lN lt p k)->fH n lt (λq=>iG n q/\(jd n lt->lN lt q (k+f))) (kas_bin f p k)
 |0,p,k,_,hp,h=>⟨hp,h⟩
 |f+1,p,k,hk,hp,h=>by refine fH.bind ((Kl h1 hp k 0 k (Nat.zero_le _) (bH _) (by omega) (λT=>⟨λi hi=>by omega,λi a b=>by omega⟩) h).mono λl q=>?_);exact(Ri h1 f _ (k+1) (by omega) (hp.bub _ _) λT=>zqp T hp (by omega) q.1 (h T) (q.2 T).1 (q.2 T).2).mono λz y=>⟨y.1,λT=>by rw[show k+(f+1)=k+1+f by omega];exact y.2 T⟩
theorem JQ(h1:1<=n):fH n lt (λq=>iG n q/\(jd n lt->lN lt q n)) (kas_sort n):=by
 refine fH.bind ((zng (lt:=lt) h1 (p:=List.toArray (List.range n)) (List.Perm.refl _)).mono λr q=>?_);obtain⟨q1,q2,q3,q4⟩:=q;split
 .rw[show max r.1 1=r.1 by omega];exact(Ri h1 (n - r.1) r.2 r.1 (by omega) q3 q4).mono λz y=>⟨y.1,λT=>by have:=y.2 T;rwa [show r.1+(n - r.1)=n by omega] at this⟩
 .exact⟨q3,λT=>by have:=q4 T;rwa [show r.1=n by omega] at this⟩
end
noncomputable def vg(lt:Nat->Nat->Bool)(n:Nat):List Nat:=if n<2 then List.range n else(zy lt (kas_sort n)).toList
def zjQ(lt:Nat->Nat->Bool)(n:Nat):(vg lt n).Perm (List.range n):=by
 unfold vg;split
 .exact List.Perm.refl _
 .exact(JQ (lt:=lt) (by omega)).ev.1
theorem zmA{lt:Nat->Nat->Bool}{n:Nat}(T:jd n lt):(vg lt n).Pairwise λi j=>lt j i=false:=by
 unfold vg;split
 .rename_i h
  match n,h with
  |0,_=>simp
  |1,_=>simp
 .have h:=(JQ (n:=n) (lt:=lt) (by omega)).ev;have hs:=iG.size h.1;rw[List.pairwise_iff_getElem];intro i j hi hj hij;have hi':i<(zy lt (kas_sort n)).size:=by simpa using hi
  have hj':j<(zy lt (kas_sort n)).size:=by simpa using hj
  have:=h.2 T i j (by omega) (by omega);simpa[cF,Array.getD,hi',hj'] using this
end MX
end
section
namespace MX
open PySem PySem.Spec PySem.W PyProof.Rows L2
noncomputable def oF:D->Int
 |.int i=>i
 |_=>0
noncomputable def ji:D->Int×Int
 |.tup xs=>(oF (xs.getD 0 .non),oF (xs.getD 1 .non))
 |d=>(oF d,0)
noncomputable def lW(a b:Int×Int):Bool:=if a.1=b.1 then decide (a.2<b.2) else decide (a.1<b.1)
noncomputable def nM:D->Bool
 |.int _=>true
 |_=>false
noncomputable def mK:D->Bool
 |.tup xs=>xs.length==2&&xs.all nM
 |_=>false
noncomputable def sS(ks:List D)(i j:Nat):Bool:=lW (ji (ks.getD i .non)) (ji (ks.getD j .non))
noncomputable def iw(ks:List D):List Nat:=vg (sS ks) ks.length
def Av(ks:List D):(iw ks).Perm (List.range ks.length):=zjQ _ _
def vy(h:nM d=true):d = .int (oF d):=by cases d<;>first|rfl|cases h
theorem zpe(h:mK d=true):d = .tup [.int (ji d).1,.int (ji d).2]:=by
 cases d with
 |tup xs =>
  unfold mK at h;rw[dD,beq_iff_eq] at h;obtain⟨a,ys,rfl⟩:=List.exists_cons_of_length_eq_add_one h.1;obtain⟨b,rfl⟩:=List.length_eq_one_iff.mp (by simpa using h.1);have h2:=h.2;simp only[lQ,List.all_nil,Bool.and_true,dD] at h2;rw[vy h2.1,vy h2.2];rfl
 |_=>cases h
section
variable {X:Cx}{pz:List (Addr×Obj)}{Z:L2.St}{H:Hp}{α:List Addr}{s:Shared}{A:Around}{E:Value->Shared->Prop}{kz:List D}{ws:List V}{us:List Value}
theorem Fg(r:aK X.K H α kz ws)(v:Vals ws us)(hi:i<kz.length):∃w,Rep X.K H α (kz.getD i .non) w/\RelV w (us.getD i .none):=by
 obtain⟨w,h1,h2⟩:=r.get (fJ hi);obtain⟨u,h3,h4⟩:=v.get h1;refine⟨w,?_,?_⟩
 .rw[List.getD_eq_getElem?_getD,fJ hi];exact h2
 .rw[List.getD_eq_getElem?_getD,h3];exact h4
theorem Vj:∀{kz:List D} {ws:List V} {us:List Value},aK X.K H α kz ws->Vals ws us->kz.all nM=true->IntsAre us (kz.map oF)
 |_,_,_,.nil,.nil,_ => .nil
 |_,_,_,.cons r rs,.cons v vs,h=>by rw[lQ,dD] at h;rw[vy h.1] at r;cases r;obtain⟨t,rfl⟩:=v;exact .cons _ t (Vj rs vs h.2)
theorem Jv(I:Inv X pz Z H s){w:V}{u:Value}(hd:mK d=true)(r:Rep X.K H α d w)(v:RelV w u):∃a o items n t1 t2,u = .ref a/\s.heap.get? a=some o/\o.cls = .type "tuple" /\ o.data = .seq items n/\items.toList=[.int (ji d).1 t1,.int (ji d).2 t2]:=by
 rw[zpe hd] at r;cases r with
 |tup h rs =>
  cases v;obtain⟨o,items,n,h1,h2,h3,h4⟩:=zmt I h;cases rs with
  |cons r1 rs =>
   cases rs with
   |cons r2 rs =>
    cases rs;cases r1;cases r2;obtain⟨u1,u2,e,⟨t1,rfl⟩,⟨t2,rfl⟩⟩:=h4.two;exact⟨_,o,items,n,t1,t2,rfl,h1,h2,h3,e⟩
theorem Vk(I:Inv X pz Z H s):∀{kz:List D} {ws:List V} {us:List Value},aK X.K H α kz ws->Vals ws us->kz.all mK=true->∃fs,KatTups s.heap us fs/\fs.length=us.length/\∀v∈fs,∃n t,v = .int n t
 |_,_,_,.nil,.nil,_=>⟨[],.nil,rfl,λv hv=>nomatch hv⟩
 |_,_,_,.cons r rs,.cons v vs,h=>by
  rw[lQ,dD] at h;obtain⟨a,o,items,n,t1,t2,rfl,h1,h2,h3,h4⟩:=Jv I h.1 r v;obtain⟨fs,k1,k2,k3⟩:=Vk I rs vs h.2;refine⟨_::fs,.cons h1 h2 h3 (show items[0]?=some _ by rw[<-Array.getElem?_toList,h4];rfl) k1,by simp[k2],λv hv=>?_⟩;rcases List.mem_cons.mp hv with rfl|hv
  .exact⟨_,_,rfl⟩
  .exact k3 v hv
theorem zlp(I:Inv X pz Z H s)(r:aK X.K H α kz ws)(v:Vals ws us)(h2:2<=us.length)(hk:(kz.all nM||kz.all mK)=true){Q:SortKind->Shared->Prop}(h:∀κ,(∀i j C,i<kz.length->j<kz.length->C (sS kz i j) s->kas_ask X.prog X.w A κ us i j C s)->Q κ s):wpAny (model X.prog X.w) A (keyKind' us.toArray) Q E s:=by
 rcases lg _ _ ▸ hk with hk|hk
 .rw[ksk_kind (kz:=kz.map oF) (by simpa using Vj r v hk) (by simpa using h2)];refine bW (h _ λi j C hi hj c=>?_);obtain⟨w1,a1,b1⟩:=Fg r v hi;obtain⟨w2,a2,b2⟩:=Fg r v hj;have ok:∀i,i<kz.length->nM (kz.getD i .non)=true:=λi hi=>by rw[List.getD_eq_getElem?_getD,fJ hi];exact List.all_eq_true.mp hk _ (List.getElem_mem hi)
  unfold kas_ask;have e:sS kz i j=decide (oF (kz.getD i .non)<oF (kz.getD j .non)):=by
   unfold sS;rw[vy (ok i hi),vy (ok j hj)];show(if _=_ then decide ((0:Int)<0) else _)=_;split
   .rename_i q;exact(decide_eq_false (by have:oF (kz.getD i .non)=oF (kz.getD j .non):=q;show ¬oF (kz.getD i .non)<oF (kz.getD j .non);omega)).symm ▸ rfl
   .rfl
  rw[vy (ok i hi)] at a1;rw[vy (ok j hj)] at a2;cases a1;cases a2;obtain⟨t1,e1⟩:=b1;obtain⟨t2,e2⟩:=b2;rw[e1,e2];exact kat_lt_int (e ▸ c)
 .obtain⟨fs,f1,f2,f3⟩:=Vk I r v hk;refine kat_kind (T := .type "int") f1 (by omega) (λx hx=>by
   obtain⟨n,t,rfl⟩:=f3 x hx;exact Looks.of_pure rfl) rfl (h _ λi j C hi hj c=>?_)
  have ok:∀i,i<kz.length->mK (kz.getD i .non)=true:=λi hi=>by rw[List.getD_eq_getElem?_getD,fJ hi];exact List.all_eq_true.mp hk _ (List.getElem_mem hi)
  obtain⟨w1,a1,b1⟩:=Fg r v hi;obtain⟨w2,a2,b2⟩:=Fg r v hj;obtain⟨x,ox,xs,n,t1,t2,e1,q1,_,q2,q3⟩:=Jv I (ok i hi) a1 b1;obtain⟨y,oy,ys,m,t3,t4,e2,q4,_,q5,q6⟩:=Jv I (ok j hj) a2 b2;unfold kas_ask;rw[e1,e2];refine kat_lt q1 q2 q4 q5 ?_;rw[q3,q6];unfold sS lW at c;refine kat_cons (wpAny_eqBool_int ?_);by_cases hq:(ji (kz.getD i .non)).1=(ji (kz.getD j .non)).1
  .rw[if_pos hq] at c;rw[show((ji (kz.getD i .non)).1==(ji (kz.getD j .non)).1)=true by rw[hq];exact beq_self_eq_true _];refine kat_yes (kat_cons (wpAny_eqBool_int ?_));by_cases hq2:(ji (kz.getD i .non)).2=(ji (kz.getD j .non)).2
   .rw[show((ji (kz.getD i .non)).2==(ji (kz.getD j .non)).2)=true by rw[hq2];exact beq_self_eq_true _];refine kat_yes (kat_nil ?_);rw[show decide (xs.size<ys.size)=decide ((ji (kz.getD i .non)).2<(ji (kz.getD j .non)).2) by
     rw[<-Array.length_toList,<-Array.length_toList,q3,q6,hq2];simp]
    exact c
   .rw[show((ji (kz.getD i .non)).2==(ji (kz.getD j .non)).2)=false by simpa using hq2];exact kat_no (kat_one _ _ (lt_int c))
  .rw[if_neg hq] at c;rw[show((ji (kz.getD i .non)).1==(ji (kz.getD j .non)).1)=false by simpa using hq];exact kat_no (oneLt_int c)
end
structure N0(X:Cx)(pz:List (Addr×Obj))(base:Heap)(n0:Nat):Prop where
 s0:X.s₀.heap.objs.size<=n0
 loc:X.env.locals<n0
 cel:∀x c,X.env.cells.lookup x=some c->c<n0
 pin:∀p∈X.pn++pz,p.1<n0
 fr:∀b∈frs X.stack,b<n0
 bse:base.objs.size<=n0
 frb:∀b∈frs X.stack,base.get? b=none
structure SJ(X:Cx)(pz:List (Addr×Obj))(Z:L2.St)(S:So)(H₀:Hp)(α₀:List Addr)(base:Heap)(n0:Nat)(own:List (Addr×Obj))(s:Shared)(H:Hp)(α:List Addr):Prop where
 inv:Inv X pz Z H s
 st:aA X.K H α S
 ext:Ext X.K H₀ α₀ H α
 tu:fY H₀ H
 sz:n0<=s.heap.objs.size
 bs:∀b o,base.get? b=some o->s.heap.get? b=some o/\H b=none
 own:∀p∈own,s.heap.get? p.1=some p.2/\H p.1=none/\n0<=p.1
section
variable {X:Cx}{pz:List (Addr×Obj)}{Z:L2.St}{S:So}{H₀ H:Hp}{α₀ α:List Addr}{base:Heap}{n0:Nat}{own:List (Addr×Obj)}{s:Shared}
theorem N0.of(I:Inv X pz Z H s):N0 X pz (nR s.heap H X.stack) s.heap.objs.size where
 s0:=I.sz
 loc:=I.lt
 cel:=λx c e=>by obtain⟨v,o,ho,_⟩:=I.cell x c e;exact cM ho
 pin:=λp hp=>cM (I.pin p hp).1
 fr:=λb hb=>by obtain⟨_,o,ho,_⟩:=I.stack.mem hb;exact cM ho
 bse:=by unfold nR;rw[hideAll_size];exact bH _
 frb:=λb hb=>hideAll_none _ (List.mem_append_right _ hb)
theorem fY.trans{H1 H2 H3:Hp}(a:fY H1 H2)(b:fY H2 H3):fY H1 H3:=⟨λc xs h=>b.tups c xs (a.tups c xs h),λc ps h=>by
 obtain⟨m1,e1⟩:=a.tbls c ps h;obtain⟨m2,e2⟩:=b.tbls c _ e1;exact⟨m1++m2,by rw[e2,Array.append_assoc]⟩,λc o u h=>b.frzs c o u (a.frzs c o u h)⟩
theorem SJ.laid(J:SJ X pz Z S H₀ α₀ base n0 own s H α){t':Nat}(k:∀b u,s.heap.get? b=some u->h'.get? b=some u)(ha:s.heap.objs.size<=a)(new:h'.get? a=some o):
 SJ X pz Z S H₀ α₀ base n0 (own++[(a,o)]) { s with heap:=h',toks:=t' } H α where
 inv:=J.inv.kept k
 st:=J.st
 ext:=J.ext
 tu:=J.tu
 sz:=Nat.le_trans J.sz (Nat.le_trans ha (uJ (cM new)))
 bs:=λb o e=>⟨k _ _ (J.bs b o e).1,(J.bs b o e).2⟩
 own:=λp hp=>by
  rcases lq.mp hp with hp|hp
  .obtain⟨h1,h2,h3⟩:=J.own p hp;exact⟨k _ _ h1,h2,h3⟩
  .rw[List.mem_singleton.mp hp];exact⟨new,J.inv.hok.fresh ha,Nat.le_trans J.sz ha⟩
def SJ.fewer(J:SJ X pz Z S H₀ α₀ base n0 own s H α){own':List (Addr×Obj)}(h:∀p∈own',p∈own):SJ X pz Z S H₀ α₀ base n0 own' s H α:={ J with own:=λp hp=>J.own p (h p hp) }
theorem SJ.chg(N:N0 X pz base n0)(J:SJ X pz Z S H₀ α₀ base n0 own s H α){xs:Array Value}{n:Nat}(ha:(a,seqObj "list" xs n)∈own)(g:Array Value->Array Value){t':Nat}:
 ∃c,∀own',(∀p∈own',p=(a,seqObj "list" (g xs) c)\/(p∈own/\p.1≠a))->SJ X pz Z S H₀ α₀ base n0 own' { s with heap:=s.heap.update a (Obj.mapSeq g),toks:=t' } H α:=by
 obtain⟨e,hn,h0⟩:=J.own _ ha;have sb:=Heap.SameBut.update s.heap a (Obj.mapSeq g);have k:∀b o,b≠a->s.heap.get? b=some o->(s.heap.update a (Obj.mapSeq g)).get? b=some o:=λb o hb q=>(sb.2 b hb).trans q;obtain⟨c,e2⟩:∃c,(s.heap.update a (Obj.mapSeq g)).get? a=some (seqObj "list" (g xs) c):=⟨_,get?_update_seq e g⟩
 refine⟨c,λown' ho=>⟨J.inv.turned k hn (Nat.ne_of_gt (dU N.loc h0)) (.inr (Nat.le_trans N.s0 h0)) (λx c q=>dN (dU (N.cel x c q) h0)) (λp hp=>dN (dU (N.pin p hp) h0)),
  J.st,J.ext,J.tu,?_,λb o q=>⟨k b o (dN (dU (dU (cM q) N.bse) h0)) (J.bs b o q).1,(J.bs b o q).2⟩,λp hp=>?_⟩⟩
 .show n0<=(s.heap.update a (Obj.mapSeq g)).objs.size;rw[Heap.size_update];exact J.sz
 .rcases ho p hp with rfl|⟨h1,h2⟩
  .exact⟨e2,hn,h0⟩
  .obtain⟨q1,q2,q3⟩:=J.own p h1;exact⟨k _ _ h2 q1,q2,q3⟩
theorem SJ.call(N:N0 X pz base n0)(M:Mod X.K X.mg base)(J:SJ X pz Z S H₀ α₀ base n0 own s H α){A:Around}{a:Addr}{R:Hp->Prop}{ψ:GN}{k:Nat}(hA:A.frames=X.A.frames)(hr:bM k A)(C:Es X.prog X.w X.K X.mg base k a R ψ)(hT:∀H H',fY H H'->R H->R H')(hR:R H₀){p0:Addr×Obj}(hne:p0∈own){d:D}{v:V}{u:Value}{kk:D}(rd:Rep X.K H α d v)(ru:RelV v u)(hψ:ψ [d] S=some (kk,S)):
 wpAny (model X.prog X.w) A (call (.ref a) [u]) (λr s'=>∃w H' α',Rep X.K H' α' kk w/\RelV w r/\Ext X.K H α H' α'/\SJ X pz Z S H₀ α₀ base n0 own s' H' α') (λ_ _=>False) s:=by
 obtain⟨fd,q,sp,F,hob,hb,hsp⟩:=C;have I:=J.inv;have e0:jG X.prog X.w X.K X.mg base A X.stack s H:=⟨by rw[hA];exact I.ok.frames,M,J.bs,Nat.le_trans N.bse J.sz,La I.stack N.frb,I.stkFree,I.hok,I.bare⟩
 have h1:sp [v] H (λw H'=>∃α',aA X.K H' α' S/\Ext X.K H α H' α'/\Rep X.K H' α' kk w) E0 :=
  hsp _ _ _ (hT _ _ J.tu hR) rfl ⟨S,α,[d],kk,S,J.st,.cons rd .nil,hψ,λw H' α' h1 h2 h3=>⟨α',h1,h2,h3⟩⟩
 refine wpAny_call (codeAny_mono (F.run A X.stack s H ⟨[u],[]⟩ [u] [v] _ E0 hr e0 (hb s u) (.cons ru .nil) h1) λr s' hq=>?_);cases r with
 |error e=>exact hq.elim
 |ok fl =>
  cases fl with
  |ret u =>
   obtain⟨w,H',os,bare,un,hok,fU,α',s1,x1,r1⟩:=id hq;obtain⟨_,_,I',_,_⟩:=I.after (show CE X.stack X.prog X.w H s (λw2 H2=>w2=w/\H2=H') u s' from⟨w,H',os,bare,un,hok,fU,rfl,rfl⟩);rename_i w2 H2 _ z;obtain⟨rfl,rfl⟩:=z;have YT:∀b,n0<=b->b∉frs X.stack:=λb hb z=>absurd (dU (N.fr b z) hb) (gM _);refine⟨w2,H2,α',r1,fU,x1,I',s1,J.ext.trans x1,J.tu.trans ⟨un.tups,un.tbls,un.frzs⟩,?_,λb o e=>?_,λp hp=>?_⟩
   .obtain⟨q1,q2,q3⟩:=J.own _ hne;exact Nat.le_trans q3 (uJ (cM (un.keep _ _ q1 q2 (YT _ q3) (by simp))))
   .obtain⟨q1,q2⟩:=J.bs b o e;exact⟨un.keep b o q1 q2 (λz=>by rw[N.frb b z] at e;cases e) (by simp),un.free b o q1 q2 (by simp)⟩
   .obtain⟨q1,q2,q3⟩:=J.own p hp;exact⟨un.keep _ _ q1 q2 (YT _ q3) (by simp),un.free _ _ q1 q2 (by simp),q3⟩
  |next=>exact False.elim hq
  |brk=>exact False.elim hq
  |cont=>exact False.elim hq
end
section
variable {X:Cx}{pz:List (Addr×Obj)}{Z:L2.St}{S:So}{H₀ H:Hp}{α₀ α:List Addr}{base:Heap}{n0:Nat}{s:Shared}{A:Around}{E:Value->Shared->Prop}{a D kS:Addr}{vs:List Value}{kz:List MX.D}{keys:Array Value}{e e1:Nat}{P:PySem.Fin->Shared->Prop}
theorem Tn{st:SortSt}(N:N0 X pz base n0)(J:SJ X pz Z S H₀ α₀ base n0 [(D,seqObj "list" #[] e1),(kS,seqObj "list" keys e)] s H α)(hka:D≠kS)(hkz:keys.size<=64)(hfl:failedOf st=none)(ho:((arrOf st).map (·.2)).toList=out)(h64:out.length<=64)(h:∀c tk h',SJ X pz Z S H₀ α₀ base n0 [(D,seqObj "list" out.toArray c)] { s with heap:=h',toks:=tk } H α->P (.done (.ret .none)) { s with heap:=h',toks:=tk }):
 wpAny (model X.prog X.w) A (ksk_tail D false e1 (.ref kS) st) P E s:=by
 have ho2:(arrOf st).map (·.2)=out.toArray:=by rw[<-ho]
 unfold ksk_tail
 try dsimp only
 have nk:=J.own (kS,seqObj "list" keys e) (by simp);obtain⟨c1,J1⟩:=J.chg N (a:=kS) (xs:=keys) (n:=e) (by simp) (λ_=>(#[]:Array Value)) (t':=s.toks);have J1:=J1 [(D,seqObj "list" #[] e1)] (λp hp=>by
  rw[List.mem_singleton.mp hp];exact .inr ⟨by simp,hka⟩)
 have na:=J1.own (D,seqObj "list" #[] e1) (by simp);refine aP (listUpdate_at nk.1 rfl ?_ (by rw[sizeLine_eq];omega) (Nat.zero_le _));refine aP (wpAny_letGo ?_);refine aP (seqEpoch_at na.1 rfl ?_);rw[ho2];refine aP (listUpdate_at na.1 rfl ?_ (Nat.zero_le _) (by simp only[Bool.false_eq_true,if_false,d9];rw[sizeLine_eq];omega));rw[hfl];simp only[bne_self_eq_false,Bool.false_eq_true,if_false];obtain⟨c2,J2⟩:=J1.chg N (a:=D) (xs:=#[]) (n:=e1) (by simp) (λ_=>out.toArray) (t':=s.toks);exact bW (h c2 _ _ (J2 _ λp hp=>by
  rw[List.mem_singleton.mp hp];exact .inl rfl))
theorem zqV(N:N0 X pz base n0)(J:SJ X pz Z S H₀ α₀ base n0 [(D,seqObj "list" #[] e1),(kS,seqObj "list" keys e)] s H α)(hka:D≠kS){ws:List V}(hk:aK X.K H α kz ws)(hv:Vals ws keys.toList)(hlen:kz.length=vs.length)(hko:(kz.all nM||kz.all mK)=true)(h64:vs.length<64)(h:∀c tk h',SJ X pz Z S H₀ α₀ base n0 [(D,seqObj "list" ((iw kz).map λi=>vs.getD i .none).toArray c)] { s with heap:=h',toks:=tk } H α->P (.done (.ret .none)) { s with heap:=h',toks:=tk }):
 wpAny (model X.prog X.w) A (ksk_end D false vs.toArray e1 (.ref kS) keys) P E s:=by
 have hsz:keys.toList.length=vs.length:=by rw[<-hv.length,<-hk.length,hlen]
 have hol:((iw kz).map λi=>vs.getD i Value.none).length<=64:=by rw[cY,(Av kz).length_eq,List.length_range];omega
 have hks:keys=keys.toList.toArray:=by simp
 unfold ksk_end;simp only[Bool.false_eq_true,if_false];by_cases h2:vs.toArray.size<2
 .rw[if_pos h2,if_pos h2];refine aP (bW ?_);rw[StateT.run_pure];refine aP (bW ?_)
  try dsimp only
  rw[d9] at h2;refine Tn (st:=SortSt.mk' general' (keys.zip vs.toArray) #[] 7 none) N J hka (by rw[<-Array.length_toList];omega) rfl ?_ hol h;unfold iw vg;rw[if_pos (by omega),hlen];show((keys.zip vs.toArray).map (·.2)).toList=_;rw[hks];simp only[List.zip_toArray,List.map_toArray,List.map_snd_zip (Nat.le_of_eq hsz.symm)];exact(List.ext_getElem (by simp) λi h1 h2=>by simp[h1])
 .rw[if_neg h2,if_neg h2];rw[d9] at h2;rw[hks];refine aP (zlp J.inv hk hv (by omega) hko λκ ask=>?_);refine aP (kh (kat_run (G:=λp s'=>s'=s/\p.toList=iw kz) (Q:=λst' s'=>s'=s/\failedOf st'=none/\((arrOf st').map (·.2)).toList=(iw kz).map λi=>vs.getD i .none) hsz (by omega) h64 (λp st' s' _ a2 a3 a4=>⟨a4.1,a3,by rw[kat_snds hsz a2];show p.toList.map _=_;rw[a4.2]⟩)
   (fH.wp (lt:=sS kz) (λi j C hi hj c=>ask i j C (by omega) (by omega) c) (JQ (n:=vs.length) (by omega)) ⟨rfl,?_⟩)) ?_ λ_ _ e=>e)
  .unfold iw vg;rw[if_neg (by omega),hlen]
  .rintro⟨⟨⟩,st'⟩ s' ⟨rfl,hf,ho⟩
   try dsimp only
   exact Tn N J hka (by rw[<-Array.length_toList];omega) hf ho hol h
theorem zoG{f:Value}(N:N0 X pz base n0)(J:SJ X pz Z S H₀ α₀ base n0 [(D,seqObj "list" #[] e1),(kS,seqObj "list" #[] 0)] s H α)(hka:D≠kS)(hlen:kz.length=vs.length)(hko:(kz.all nM||kz.all mK)=true)(h64:vs.length<64)(turn:∀(i:Nat) (v:Value) (k:MX.D),vs[i]?=some v->kz[i]?=some k->∀own p0,p0∈own->∀s H α,SJ X pz Z S H₀ α₀ base n0 own s H α->wpAny (model X.prog X.w) A (call f [v]) (λr s'=>∃w H' α',Rep X.K H' α' k w/\RelV w r/\Ext X.K H α H' α'/\SJ X pz Z S H₀ α₀ base n0 own s' H' α') (λ_ _=>False) s)(h:∀c s' H' α',SJ X pz Z S H₀ α₀ base n0 [(D,seqObj "list" ((iw kz).map λi=>vs.getD i .none).toArray c)] s' H' α'->P (.done (.ret .none)) s'):
 wpAny (model X.prog X.w) A (ksk_rest D f false vs.toArray e1 (.ref kS)) P E s:=by
 unfold ksk_rest;refine aP (wpAny_rule ?_)
 first
  |rw[List.forIn_toArray]
  | (rw[<-Array.forIn_toList];simp only[List.toList_toArray])
  |rw[<-Array.forIn_toList]
 refine aP (ksk_fold (λi s'=>∃H α kA e,SJ X pz Z S H₀ α₀ base n0 [(D,seqObj "list" #[] e1),(kS,seqObj "list" kA e)] s' H α/\∃ws,aK X.K H α (kz.take i) ws/\Vals ws kA.toList) vs 0 s
  ⟨H,α,#[],0,J,[],.nil,.nil⟩ ?step ?done)
 case step =>
  rintro j x s' hx ⟨H',α',kA,e,J',ws,hk,hv⟩
  simp only[Nat.zero_add] at hk ⊢;have hj:j<vs.length:=(fC.mp hx).1;obtain⟨k,hkj⟩:∃k,kz[j]?=some k:=⟨_,fJ (by omega)⟩
  have hz:kA.size<=vs.length:=by
   have h1:min j kz.length=kA.size:=by simpa using hk.length.trans hv.length
   omega
  refine aP (wpAny_attempt (kh (turn j x k hx hkj _ _ (eZ ..) s' H' α' J') (λv s'' he=>?_) λ_ _ hF=>hF.elim));obtain⟨w2,H2,α2,r2,v2,x2,J2⟩:=he
  try dsimp only
  have nk:=J2.own (kS,seqObj "list" kA e) (by simp);obtain⟨c2,J3⟩:=J2.chg N (a:=kS) (xs:=kA) (n:=e) (by simp) (·.push v) (t':=s''.toks);have ek:kz.take (j+1)=kz.take j++[k]:=by rw[List.take_add_one,hkj];simp
  have ea:(kA.push v).toList=kA.toList++[v]:=by simp
  refine aP (listUpdate_at nk.1 rfl ?_ (by rw[sizeLine_eq];omega) (Nat.le_trans (Nat.le_of_eq (Array.size_push ..)) (by rw[sizeLine_eq];omega)));refine bW ⟨rfl,H2,α2,kA.push v,c2,J3 _ λp hp=>?_,ws++[w2],by rw[ek];exact(hk.mono x2).append (.cons r2 .nil),by rw[ea];exact hv.append (.cons v2 .nil)⟩;rcases List.mem_cons.mp hp with rfl|hp
  .exact .inr ⟨by simp,hka⟩
  .rw[List.mem_singleton.mp hp];exact .inl rfl
 case done =>
  rintro s' ⟨H',α',kA,e,J',ws,hk,hv⟩
  rw[List.take_of_length_le (by omega)] at hk;have nk:=J'.own (kS,seqObj "list" kA e) (by simp)
  try dsimp only
  refine aP (listItems_at nk.1 rfl ?_);exact zqV N J' hka hk hv hlen hko h64 λc tk h' J2=>h c _ _ _ J2
theorem zoF{f:Value}{n:Nat}(N:N0 X pz base n0)(J:SJ X pz Z S H₀ α₀ base n0 [(D,seqObj "list" vs.toArray n)] s H α)(hlen:kz.length=vs.length)(hko:(kz.all nM||kz.all mK)=true)(h64:vs.length<64)(turn:∀(i:Nat) (v:Value) (k:MX.D),vs[i]?=some v->kz[i]?=some k->∀own p0,p0∈own->∀s H α,SJ X pz Z S H₀ α₀ base n0 own s H α->wpAny (model X.prog X.w) A (call f [v]) (λr s'=>∃w H' α',Rep X.K H' α' k w/\RelV w r/\Ext X.K H α H' α'/\SJ X pz Z S H₀ α₀ base n0 own s' H' α') (λ_ _=>False) s)(h:∀c s' H' α',SJ X pz Z S H₀ α₀ base n0 [(D,seqObj "list" ((iw kz).map λi=>vs.getD i .none).toArray c)] s' H' α'->P (.done (.ret .none)) s'):
 wpAny (model X.prog X.w) A (ksk_tree D f false) P E s:=by
 have ho:=(J.own _ (List.mem_singleton.mpr rfl)).1;have ha:D<s.heap.objs.size:=cM ho;obtain⟨e1,J1⟩:=J.chg N (a:=D) (xs:=vs.toArray) (n:=n) (by simp) (λ_=>(#[]:Array Value)) (t':=s.toks);have J1:=J1 [(D,seqObj "list" #[] e1)] λp hp=>by rw[List.mem_singleton.mp hp];exact .inl rfl
 have ho1:=(J1.own _ (List.mem_singleton.mpr rfl)).1;have J2:=J1.laid (h':=(s.heap.update D (Obj.mapSeq λ_=>(#[]:Array Value))).push (seqObj "tuple" vs.toArray 0)) (t':=s.toks) (λb u q=>dF _ q) (bH _) (gG _ rfl);have J2:=J2.fewer (own':=[(D,seqObj "list" #[] e1)]) λp hp=>List.mem_append_left _ hp;have J3:=J2.laid (h':=((s.heap.update D (Obj.mapSeq λ_=>(#[]:Array Value))).push (seqObj "tuple" vs.toArray 0)).push (seqObj "list" #[] 0)) (t':=s.toks) (λb u q=>dF _ q) (bH _) (gG _ rfl);unfold ksk_tree;refine aP (listItems_at ho rfl ?_);refine aP (listUpdate_at ho rfl ?_ (by rw[d9,sizeLine_eq];omega) (Nat.zero_le _));refine aP (seqEpoch_at ho1 rfl ?_);refine aP (wpAny_newTuple ?_ (by show vs.length<=_;rw[sizeLine_eq];omega));refine aP (wpAny_newList ?_ (Nat.zero_le _));refine wpAny_holding ?_;refine zoG N J3 ?_ hlen hko h64 turn h;have:D<((s.heap.update D (Obj.mapSeq λ_=>(#[]:Array Value))).push (seqObj "tuple" vs.toArray 0)).objs.size:=by rw[size_push',Heap.size_update];exact Nat.lt_succ_of_lt ha
 exact dN this
end
section
variable {X:Cx}{pz:List (Addr×Obj)}{Z:L2.St}{S:So}{H₀ H:Hp}{α₀ α:List Addr}{base:Heap}{n0:Nat}{s:Shared}{A:Around}{E:Value->Shared->Prop}{a l:Addr}{vs:List Value}{kz:List MX.D}{Q:Value->Shared->Prop}
theorem zkO(N:N0 X pz base n0)(J:SJ X pz Z S H₀ α₀ base n0 [] s H α)(hl:s.heap.IsList l vs.toArray)(hlen:kz.length=vs.length)(hko:(kz.all nM||kz.all mK)=true)(h64:vs.length<64)(turn:∀(i:Nat) (v:Value) (k:MX.D),vs[i]?=some v->kz[i]?=some k->∀own p0,p0∈own->∀s H α,SJ X pz Z S H₀ α₀ base n0 own s H α->wpAny (model X.prog X.w) A.in1.in1 (call (.ref a) [v]) (λr s'=>∃w H' α',Rep X.K H' α' k w/\RelV w r/\Ext X.K H α H' α'/\SJ X pz Z S H₀ α₀ base n0 own s' H' α') (λ_ _=>False) s)(h:∀D c s' H' α',SJ X pz Z S H₀ α₀ base n0 [(D,seqObj "list" ((iw kz).map λi=>vs.getD i .none).toArray c)] s' H' α'->Q (.ref D) s'):
 wpAny (model X.prog X.w) A (call (.builtin "sorted") [.ref l] [(Str.ofString "key",.ref a)]) Q E s:=by
 refine call_function_entry_kw kind_sorted plain_sorted entry_sorted (ksk_s1 _ _) ?_;unfold Builtin.«sorted»;refine aP (m:=checkCount "sorted" 1 1 _) (bW ?_);refine aP (collect_list hl ?_ (by rw[sizeLine_eq];omega));refine aP (wpAny_newList ?_ (by rw[sizeLine_eq];omega));have hsz:((s.heap.push (seqObj "list" #[] 0)).update s.heap.objs.size (Obj.mapSeq (·++vs.toArray))).objs.size=s.heap.objs.size+1:=by rw[Heap.size_update,size_push']
 have hoL:(((s.heap.push (seqObj "list" #[] 0)).update s.heap.objs.size (Obj.mapSeq (·++vs.toArray))).push (seqObj "list" vs.toArray 0)).get? (s.heap.objs.size+1)=some (seqObj "list" vs.toArray 0):=by rw[<-hsz];exact gG _ rfl
 have keep:∀b o,s.heap.get? b=some o->(((s.heap.push (seqObj "list" #[] 0)).update s.heap.objs.size (Obj.mapSeq (·++vs.toArray))).push (seqObj "list" vs.toArray 0)).get? b=some o:=λb o q=>by have hlt:b<s.heap.objs.size:=cM q;rw[Heap.get?_push_ne _ _ _ (by rw[hsz];exact dN (Nat.lt_succ_of_lt hlt)),Heap.get?_update_ne _ _ _ _ (dN hlt),Heap.get?_push_ne _ _ _ (dN hlt)];exact q
 have J1:=J.laid (h':=((s.heap.push (seqObj "list" #[] 0)).update s.heap.objs.size (Obj.mapSeq (·++vs.toArray))).push (seqObj "list" vs.toArray 0)) (t':=s.toks) keep (Nat.le_succ _) hoL;show wpAny _ _ _ _ _ { s with heap:=((s.heap.push (seqObj "list" #[] 0)).update s.heap.objs.size (Obj.mapSeq (·++vs.toArray))).push (seqObj "list" vs.toArray 0) };rw[hsz];refine aP (wpAny_holding (wpAny_call_entry_kw slot_list_sort ⟨_,hoL,rfl⟩ entry_list_sort ?body (ksk_l1 _ _)))
 case body =>
  show wpAny (model X.prog X.w) A.in1.in1 (Builtin.«list.sort» ⟨[.ref (s.heap.objs.size+1)],[(Str.ofString "key",.ref a)]⟩) _ _ _;rw[ksk_t1];refine zoF N J1 hlen hko h64 turn λc s' H' α' J'=>⟨_,rfl,?_⟩
  exact bW ⟨_,rfl,h _ _ _ _ _ J'⟩
theorem SJ.adopt{D:Addr}{c:Nat}{ws:List V}(N:N0 X pz base n0)(J:SJ X pz Z S H₀ α₀ base n0 [(D,seqObj "list" out.toArray c)] s H α)(hv:Vals ws out)(hz:ws.length<=sizeLine):Inv X pz Z (upd H D (.lst ws)) s:=by
 obtain⟨e,hn,h0⟩:=J.own _ (List.mem_singleton.mpr rfl);have I:=J.inv;refine I.step (h':=s.heap) (g':=s.gens) (d':=s.drawn) (t':=s.toks) (ch:=[D]) (λb hb=>?_) (λb o _ _ _ q _=>q) (λb o _ _ _ q _=>⟨o.slots,q⟩) (λb o hb q n=>?_) (λb o _ q=>⟨o,q⟩) (λb xs q=>?_) (λb o u q=>?_) (λb ps q=>?_) (λm q=>q) (λb o q=>?_) I.bare
 .rw[List.mem_singleton.mp hb];exact⟨.inr (Nat.le_trans N.s0 h0),Nat.ne_of_gt (dU N.loc h0),λx c q=>dN (dU (N.cel x c q) h0),λp hp=>dN (dU (N.pin p hp) h0)⟩
 .rw[cD (λz=>hb (by simp[z]))];exact n
 .rw[cD (gU q hn)];exact q
 .rw[cD (gU q hn)];exact q
 .exact⟨#[],by rw[cD (gU q hn),q];simp⟩
 .by_cases hb:b=D
  .subst hb;rw[fP] at q;cases q;exact⟨hz,out,c,hv,e⟩
  .rw[cD hb] at q;exact(I.hok b o q).stay (λ_ _ _ r=>r) (λx r=>by rw[cD (gU r hn)];exact r) λx xs r=>by rw[cD (gU r hn)];exact r
end
section
variable {X:Cx}{pz:List (Addr×Obj)}{Z:L2.St}{H1 H':Hp}{s1 s':Shared}{params:Arguments}{body:Expr}{scope:Scope}{bO:Pos}{P Pt:Addr}{cap:List Str}{gD:List V}{a:Addr}{q:Str}{fb:EF}{k:Nat}{clos:List (Str×Addr)}{iC:List D}{cdv:Value}{base:Heap}
theorem ZD(hsc:scope.kind = .function/\scope.isCoroutine=false/\scope.isGenerator=false/\scope.names.lookup q=some .local/\∀y∈scope.names,y.2 ≠ .cell)(hu:∀y∈scope.names,scope.names.lookup y.1=some y.2)(hbind:∀(pm cdv ctv:Value) (clos:List (Str×Addr)) (qual:Str) (u:Value),bindArgs (kla_fn "<lambda>" qual params body scope clos pm cdv ctv) ⟨[u],[]⟩=pure [(q,u)])(hbody:∀(a:Addr) (cdv:Value) (clos:List (Str×Addr)) (qual:Str) (A:Around) (outer:List Env) (s:Shared) (H:Hp) (E:XK),bM k (A.deeper (envX qual scope s.heap.objs.size a cdv clos)) ->
  SE (xj X.prog X.w X.K X.mg base (q::cap) qual scope a cdv clos A outer s H E).nox body fb)(hlo:v9 iC=true)(hl:cap.length=gD.length)(C:Zg base X.env.qual params body scope clos cap gD a cdv):
 Es X.prog X.w X.K X.mg base (k+1) a (λH=>aK X.K H [] iC gD/\∃ps,H Pt=some (.tbl ps)/\codeAmong bO ps.toList=some cdv) (sU fb iC):=by
 obtain⟨pm,ctv,ho⟩:=C.obj;have lam:=zrZ (P:=X.prog) (w:=X.w) (K:=X.K) (mg:=X.mg) (k:=k) (Pt:=Pt) (bO:=bO) (p:=q) (cap:=cap) (gD:=gD) (cus:=[])
  (sp:=λvs H Q E=>vs.length=1/\(aK X.K H [] iC gD/\∃ps,H Pt=some (.tbl ps)/\codeAmong bO ps.toList=some cdv)/\jB X.K (sU fb iC) vs H Q)
  ho rfl (λvs H Q E h=>h.2.1.2) ⟨hsc.1,hsc.2.1,hsc.2.2.1,hsc.2.2.2.1,hsc.2.2.2.2,λy hy=>C.has y (iK hy),C.inj⟩ C.cells
  (λi y v h1 h2=>⟨hu _ (C.cap i y v h1 h2).1,(C.cap i y v h1 h2).2⟩) hl (λvs H Q E h=>h.1)
  (λqual A outer s H v Q E hr h=>⟨_,hbody a cdv clos qual A outer s H E hr,?_⟩)
 .exact⟨_,q,_,lam,ho,λs u => .of_eq (hbind pm cdv ctv clos _ u),λvs H Q hR h1 h2=>⟨h1,hR,h2⟩⟩
 .obtain⟨_,⟨hrep,_⟩,S,α,ds,z,S',hs,hrs,hf,kk⟩:=h;unfold sU at hf;split at hf
  .rename_i d;cases hrs with
   |cons r1 r2 =>
    cases r2;refine⟨some d::iC.map some,S,α,z,S',⟨by simp[hrep.length],λi d' e'=>?_⟩,hs,hf,kk⟩;cases i with
    |zero =>
     simp at e';subst e';exact⟨v,rfl,r1⟩
    |succ i =>
     rw[List.getElem?_cons_succ,fW] at e';cases qd:iC[i]? with
     |none=>rw[qd] at e';cases e'
     |some d2 =>
      rw[qd] at e';cases e';obtain⟨v2,k1,k2⟩:=(hrep.monoT (α':=α) fY.refl hlo).get qd;exact⟨v2,by rw[List.getElem?_cons_succ,fW,k1];rfl,k2⟩
  .cases hf
end
open Classical in
noncomputable def p7(ψ:GN)(S:So):List D->Option (List D)
 |[]=>some []
 |d::r=>match ψ [d] S with
  |some (k,S')=>if S'=S then(p7 ψ S r).map λl=>k::l else none
  |_=>none
theorem zj8{ψ:GN}{r:List D}{k:D}{l:List D}(h:ψ [d] S=some (k,S))(hr:p7 ψ S r=some l):p7 ψ S (d::r)=some (k::l):=by unfold p7;rw[h];simp[hr]
theorem Vi{ψ:GN}{S:So}:∀{xs:List D} {kz:List D},p7 ψ S xs=some kz->kz.length=xs.length/\∀(i:Nat) d k,xs[i]?=some d->kz[i]?=some k->ψ [d] S=some (k,S)
 |[],kz,h=>by cases h;exact⟨rfl,λi d k e=>by simp at e⟩
 |x::r,kz,h=>by
  unfold p7 at h;split at h
  .rename_i k0 S0 e0;split at h
   .rename_i hS;subst hS;simp only[bf] at h;obtain⟨l,e1,rfl⟩:=h;obtain⟨h1,h2⟩:=Vi e1;refine⟨by simp[h1],λi d k e3 e4=>?_⟩;cases i with
    |zero=>simp at e3 e4;subst e3 e4;exact e0
    |succ i=>exact h2 i d k (by simpa using e3) (by simpa using e4)
   .cases h
  .cases h
noncomputable def wY(fe:EF)(src:List Nat)(fb:EF):EF:=λZ S=>(fe Z S).bind λr=>(pK src Z).bind λiC=>if v9 iC=true then match r.1 with
 |.ref n=>match r.2[n]? with
  |some (.lst xs)=>if xs.length<64 then(p7 (sU fb iC) r.2 xs).bind λkz=>if(kz.all nM||kz.all mK)=true then some (.ref r.2.length,r.2++[.lst ((iw kz).map λi=>xs.getD i .non)]) else none else none
  |_=>none
 |_=>none
 else none
theorem Vu{K:FgA}{H:Hp}{α:List Addr}{xs:List D}{ws:List V}(r:aK K H α xs ws):∀l:List Nat,aK K H α (l.map λi=>xs.getD i .non) (l.map λi=>ws.getD i .non)
 |[] => .nil
 |i::l=>by
  refine .cons (show Rep K H α (xs.getD i .non) (ws.getD i .non) from ?_) (Vu r l);by_cases hi:i<xs.length
  .obtain⟨v,h1,h2⟩:=r.get (fJ hi);rw[List.getD_eq_getElem?_getD,List.getD_eq_getElem?_getD,fJ hi,h1];exact h2
  .have hi':¬i<ws.length:=by rw[<-r.length];exact hi
   rw[List.getD_eq_getElem?_getD,List.getD_eq_getElem?_getD,j9 (by omega),j9 (by omega)];exact .non
theorem Va{ws:List V}{us:List Value}(r:Vals ws us):∀l:List Nat,Vals (l.map λi=>ws.getD i .non) (l.map λi=>us.getD i .none)
 |[] => .nil
 |i::l=>by
  refine .cons (show RelV (ws.getD i .non) (us.getD i .none) from ?_) (Va r l);by_cases hi:i<ws.length
  .obtain⟨v,h1,h2⟩:=r.get (fJ hi);rw[List.getD_eq_getElem?_getD,List.getD_eq_getElem?_getD,fJ hi,h1];exact h2
  .have hi':¬i<us.length:=by rw[<-r.length];exact hi
   rw[List.getD_eq_getElem?_getD,List.getD_eq_getElem?_getD,j9 (by omega),j9 (by omega)];exact rfl
section
variable {X:Cx}{p pos bO kp:Pos}{e:Expr}{fe fb:EF}{params:Arguments}{body:Expr}{scope:Scope}{q:Str}{cap:List Str}{src:List Nat}{k:Nat}{Pt ct:Addr}
theorem Zm(L:Et X Pt ct)(hsc:scope.kind = .function/\scope.isCoroutine=false/\scope.isGenerator=false/\scope.names.lookup q=some .local/\∀y∈scope.names,y.2 ≠ .cell)(hu:∀y∈scope.names,scope.names.lookup y.1=some y.2)(hcap:∀y∈cap,(y,NameKind.free)∈scope.names)(hfree:∀y∈scope.names,y.2 = .free->X.env.kindOf y.1=some .cell)(jk:∀(i:Nat) y,cap[i]?=some y->∃j,src[i]?=some j/\X.N[j]?=some y)(hlen:cap.length=src.length)(hdef:defaultsOf params X.env=([],[]))(hbind:∀(pm cdv ctv:Value) (clos:List (Str×Addr)) (qual:Str) (u:Value),bindArgs (kla_fn "<lambda>" qual params body scope clos pm cdv ctv) ⟨[u],[]⟩=pure [(q,u)])(hbody:∀(base:Heap),Mod X.K X.mg base->∀(a:Addr) (cdv:Value) (clos:List (Str×Addr)) (qual:Str) (A:Around) (outer:List Env) (s:Shared) (H:Hp) (E:XK),bM k (A.deeper (envX qual scope s.heap.objs.size a cdv clos)) ->
  SE (xj X.prog X.w X.K X.mg base (q::cap) qual scope a cdv clos A outer s H E).nox body fb)(hr:bM (k+3) X.A)(hg:Gl X "sorted")(hm:X.mg "sorted" = none)(ha:SE X e fe)(he:starEach [e] X.env=[(false,eval e X.env)]):
 SE X (.Call (.Name "sorted" p) [e] [⟨some "key",.Lambda params body scope bO,kp⟩] pos) (wY fe src fb):=by
 intro pz s Z H Q I h;obtain⟨σd,S,α,z,S',hv,hs,hf,kk⟩:=h;unfold wY at hf;simp only[bC] at hf;obtain⟨⟨d1,S1⟩,e1,iC,e2,e3⟩:=hf;split at e3
 .rename_i hlo;split at e3
  .rename_i n en;simp only at en;subst en;split at e3
   .rename_i xs ex;split at e3
    .rename_i h64;simp only[bC] at e3;obtain⟨kz,ek,e4⟩:=e3;rw[Option.ite_none_right_eq_some] at e4;obtain⟨hko,e4⟩:=e4;cases e4;obtain⟨hkl,hkg⟩:=Vi ek;obtain⟨gD,c1,c2,c3⟩:=Uq hv e2;refine wpAny_Call_Name_kw (qW I hg hm (show bootBuiltins "sorted" = some (.builtin "sorted") by decide +kernel) ?_ (by decide) (by decide));have hst:backTo pos (starEach [e] X.env)=(false,eval e X.env)::backTo pos (starEach [] X.env):=by rw[he];rfl
     refine callWith_kw ?_ hst (by rw[hst];rfl) rfl rfl;rw[hst];refine Calls.spliced_cons (bQ (ha pz s Z H (λv H1=>∃α1,aA X.K H1 α1 S1/\Ext X.K H α H1 α1/\Rep X.K H1 α1 (.ref n) v) I ⟨σd,S,α,.ref n,S1,hv,hs,e1,λw H1 α1 s1 x1 r1=>⟨α1,s1,x1,r1⟩⟩) λu1 s1 ⟨v1,H1,I1,r1,α1,st1,x1,BW⟩=>?_);refine Calls.spliced_nil ?_;cases BW with
     |@ref _ l hl =>
      cases r1;obtain⟨ws,hw,rws⟩:=st1.obj _ _ _ ex hl;have hcells:∀y∈scope.names,y.2 = .free->∃c,X.env.cells.lookup y.1=some c:=λy hy e=>I1.ok.has y.1 (.inl (hfree y hy e));obtain⟨ps0,PL⟩:=L.tab;obtain⟨more,hps⟩:=I1.base.tbls Pt ps0 PL;refine kws_cons (zna I1 hps L.code L.hd L.bm (zki hcells) hdef λa s2 H2 M=>kws_nil ?_);obtain⟨cdv,C,Qe⟩:=zm7 I1 M hcap hfree L.fn (gD:=gD) (λi y hi=>by
       obtain⟨j,k1,k2⟩:=jk i y hi;obtain⟨v,k3,k4⟩:=c3 i j k1;exact⟨j,v,k2,k3,k4⟩)
      have I2:=M.inv;obtain⟨e0,kb⟩:=zlZ I2;have N:=N0.of I2;have hw2:H2 l=some (.lst ws):=M.same.1 _ _ hw λ_ z=>by cases z
      have J:SJ X pz Z S1 H2 α1 (nR s2.heap H2 X.stack) s2.heap.objs.size [] s2 H2 α1:=⟨I2,M.same.store st1,Ext.refl,fY.refl,bH _,λb o e=>Vq e,λp hp=>(nomatch hp)⟩
      obtain⟨hz,its,en,rv,hits,ho⟩:=I2.lstM hw2;have hil:s2.heap.IsList l its.toArray:=⟨_,ho,rfl,en,rfl⟩
      have clo:=ZD (X:=X) (Pt:=Pt) (bO:=bO) (k:=k) hsc hu hbind (hbody _ e0.mod) hlo (by rw[hlen,c2]) C;have hR:aK X.K H2 [] iC gD/\∃ps,H2 Pt=some (.tbl ps)/\codeAmong bO ps.toList=some cdv:=⟨(c1.mono (x1.trans M.same.ext)).monoT fY.refl hlo,Qe⟩
      have BV:=rws.mono (M.same.ext (α:=α1));refine zkO (kz:=kz) N J hil (by rw[hkl,rws.length];exact hits) hko (by rw[<-hits,<-rws.length];exact h64) (λi u kv hu hk own p0 hp0 s3 H3 α3 J3=>?_) λDd c s3 H3 α3 J3=>?_
      .obtain⟨w,hw3,rw3⟩:∃w,ws[i]?=some w/\RelV w u:=by
        have hi:i<ws.length:=by rw[hits];exact(fC.mp hu).1
        obtain⟨u',hu',r'⟩:=rv.get (fJ hi);rw[hu] at hu';cases hu';exact⟨_,fJ hi,r'⟩
       obtain⟨d,hd,rd⟩:=BV.getV hw3;refine SJ.call N e0.mod J3 (A:=X.A.in1.in1) rfl hr.in1.in1 clo (λHa Hb t hR=>⟨hR.1.monoT t hlo,?_⟩) hR hp0 (rd.mono J3.ext) rw3 (hkg i d kv hd hk);obtain⟨ps,h1,h2⟩:=hR.2;obtain⟨more,h3⟩:=t.tbls _ _ h1;exact⟨_,h3,by rw[Array.toList_append];exact zkl _ _ h2⟩
      .have CZ:((iw kz).map λi=>ws.getD i V.non).length<=sizeLine:=by rw[cY,(Av kz).length_eq,List.length_range,sizeLine_eq];omega
       have I3:=J3.adopt N (Va rv (iw kz)) CZ;have hnD:=(J3.own _ (List.mem_singleton.mpr rfl)).2.1;obtain⟨s4,x4⟩:=J3.st.snoc (p:=Dd) (o := .lst ((iw kz).map λi=>xs.getD i .non)) (u := .lst ((iw kz).map λi=>ws.getD i V.non)) hnD λα' x=>⟨_,fP,(Vu (BV.mono J3.ext) (iw kz)).mono x⟩
       refine⟨.ref Dd,_,I3,rfl,kk _ _ _ s4 ((x1.trans (M.same.ext (α:=α1))).trans (J3.ext.trans x4)) (.ref ?_)⟩;rw[<-J3.st.len];simp
    .cases e3
   .cases e3
  .cases e3
 .cases e3
end
section
variable {prog:Program}{w:World}{A:Around}{R:Result->Shared->Prop}{it S:Addr}{fp wr:List Addr}{n:Nat}{P:Nat->Value->Prop}{St:Nat->Heap->Prop}{bt:Nat->Nat->Bool}{d:Value}
abbrev CG(b:Array Value)(c:Nat):Obj:={ cls := .type "list",dict:=none,data := .seq b c,slots:=#[] }
theorem zpE(W:Walks prog w A.in1 it fp wr n P St)(hc:CmpOf prog w A.in1 .Gt P bt)(hS:S∉fp):∀(k j:Nat) (s:Shared) (b:Array Value) (c:Nat),n - j=k->j<=n->St j s.heap ->
 ((j=0/\b=#[])\/∃v i,j=i+1/\b=#[v,v]/\P (argBest bt i) v)->s.heap.get? S=some (CG b c) ->
 (∀v h' tk,(n=0/\v=d)\/(0<n/\P (argBest bt (n - 1)) v)->(∀a o,a∉wr->a≠S->s.heap.get? a=some o->h'.get? a=some o)->R (.ok (.ret v)) { s with heap:=h',toks:=tk }) ->
 codeAny (model prog w) A (.builtin "max.loop" ⟨[.ref it,.none,.ref S],[("default",d)]⟩) R s:=by
 have nm:(toString "max" ++ toString ".loop" : String) = "max.loop" := by decide
 have nw:S∉wr:=λz=>hS (W.sub _ z);intro k
 induction k with
 |zero =>
  intro j s b c e1 e2 st hb gS hR;have ej:j=n:=by omega
  subst ej;refine codeAny_builtin PySem.F.entry_max_loop ?_;rw[Around.under_plainId PySem.F.plain_max_loop _];show wpAny _ A.in1 (seqItems? (.ref S) >>= _) _ _ s;refine aP (wpAny_seqItems gS rfl ?_);show wpAny _ A.in1 (tryCatch (pyNext (.ref it)) _ >>= _) _ _ s;refine aP (wpAny_tryCatch (W.done s _ _ st λh' tk kp=>?_));rcases hb with⟨h0,rfl⟩|⟨v,i,h0,rfl,hv⟩
  .refine aP (wpAny_rule (bW ?_));exact hR d h' tk (.inl ⟨h0,rfl⟩) λa o a1 _ e=>kp a o a1 e
  .have wM:=kp S _ nw gS;show wpAny _ A.in1 (updateSeq S (λ_=>#[]) >>= _) _ _ _;refine aP ?_;refine wpAny_updateSeq wM rfl (aP (wpAny_letGo (bW ?_)));exact hR v _ tk (.inr ⟨by omega,by rw[h0];exact hv⟩) λa o a1 a2 e=>(zH _ _ (Ne.symm a2)).trans (kp a o a1 e)
 |succ k ih =>
  intro j s b c e1 e2 st hb gS hR;have hj:j<n:=by omega
  refine codeAny_builtin PySem.F.entry_max_loop ?_;rw[Around.under_plainId PySem.F.plain_max_loop _];show wpAny _ A.in1 (seqItems? (.ref S) >>= _) _ _ s;refine aP (wpAny_seqItems gS rfl ?_);show wpAny _ A.in1 (tryCatch (pyNext (.ref it)) _ >>= _) _ _ s;refine aP (wpAny_tryCatch (W.item j s _ _ hj st λv h' tk hv st2 kp=>?_));have wM:=kp S _ nw gS;have up:∀a∈fp,∀o,h'.get? a=some o->(h'.update S (Obj.mapSeq λ_=>#[v,v])).get? a=some o:=λa ha o e=>(zH _ _ (λz:S=a=>hS (z ▸ ha))).trans e;rcases hb with⟨h0,rfl⟩|⟨u,i,h0,rfl,hu⟩
  .subst h0;show wpAny _ A.in1 (updateSeq S (λ_=>#[v,v]) >>= _) _ _ _;refine aP ?_;refine wpAny_updateSeq wM rfl ?_;rw[nm];refine bW ⟨plainId_quiet PySem.F.plain_max_loop _,ih 1 _ _ _ (by omega) hj (W.frame _ _ _ st2 up) (.inr ⟨v,0,rfl,rfl,hv⟩) (Ec _ wM rfl) λv2 h2 tk2 q CN=>?_⟩;exact hR v2 h2 tk2 q λa o a1 a2 e=>CN a o a1 a2 ((zH _ _ (Ne.symm a2)).trans (kp a o a1 e))
  .subst h0;show wpAny _ A.in1 (tryCatch (holding [v,v] (richCompare .Gt v u >>= _)) _ >>= _) _ _ _;refine aP (wpAny_tryCatch (wpAny_holding (aP (hc (i+1) (argBest bt i) v u _ _ _ hv hu ?_))));refine aP (wpAny_holding (wpAny_truthy_bool ?_));refine aP (wpAny_letGo (bW ?_));cases hb:bt (i+1) (argBest bt i) with
   |true =>
    simp only[if_true];refine aP ?_;refine wpAny_updateSeq wM rfl (aP (wpAny_letGo ?_));rw[nm];refine bW ⟨plainId_quiet PySem.F.plain_max_loop _,ih (i+1+1) _ _ _ (by omega) hj (W.frame _ _ _ st2 up) (.inr ⟨v,i+1,rfl,rfl,by unfold argBest;rw[if_pos hb];exact hv⟩) (Ec _ wM rfl) λv2 h2 tk2 q CN=>?_⟩;exact hR v2 h2 tk2 q λa o a1 a2 e=>CN a o a1 a2 ((zH _ _ (Ne.symm a2)).trans (kp a o a1 e))
   |false =>
    simp only[Bool.false_eq_true,if_false];refine aP (wpAny_letGo ?_);rw[nm];refine bW ⟨plainId_quiet PySem.F.plain_max_loop _,ih (i+1+1) _ _ c (by omega) hj st2 (.inr ⟨u,i+1,rfl,rfl,by unfold argBest;rw[if_neg (by rw[hb];simp)];exact hu⟩) wM λv2 h2 tk2 q CN=>?_⟩;exact hR v2 h2 tk2 q λa o a1 a2 e=>CN a o a1 a2 (kp a o a1 e)
end
def zpG(a v:Value):argsOk "max" ⟨[a],[("default",v)]⟩:=by unfold argsOk;kernel_rfl
theorem zpF{d:Value}(hh:A.handled=none)(hl:s.heap.IsList l (intItems xs))(h:∀v h' tk,(xs.size=0/\v=d)\/(0<xs.size/\(intItems xs)[argBest (λi j=>decide (numAt xs i>numAt xs j)) (xs.size - 1)]?=some v)->(∀b o,s.heap.get? b=some o->h'.get? b=some o)->Q v { s with heap:=h',toks:=tk }):
 wpAny (model prog w) A (call (.builtin "max") [.ref l] [("default",d)]) Q E s:=by
 have nm:(toString "max" ++ toString ".loop" : String) = "max.loop" := by decide
 refine kmk_tree PySem.F.kind_max PySem.F.plain_max PySem.F.entry_max (zpG _ _) ?_;show wpAny _ A.in1 (Builtin.Builtins.bindParams "max" ["key", "default"] 0 ⟨[],[("default",d)]⟩ >>= _) _ _ s;refine aP (wpAny_of_eq (show Builtin.Builtins.bindParams "max" ["key", "default"] 0 ⟨[],[("default",d)]⟩=pure [none,some d] from rfl) ?_);refine aP (bW ?_);refine aP (iter_intList hl λs2 e st hfp hlI=>?_);subst e;refine aP (wpAny_newObj_type ?_);have W:=Walks.list (prog:=prog) (w:=w) (A:=A.in1) hh _ l hlI (intItems xs);have hz:(intItems xs).size=xs.size:=by simp[intItems]
 rw[nm];refine bW ⟨plainId_quiet PySem.F.plain_max_loop _,zpE W (CmpOf.ints_gt (numAt xs) (λ_ _=>intItems_at)) (λz=>gM _ (hfp _ z)) _ 0 _ _ _ rfl (Nat.zero_le _) (W.frame _ _ _ st λb _ o e=>dF _ e) (.inl ⟨rfl,rfl⟩) (gG _ rfl) λv h' tk q kp=>?_⟩;refine h v h' tk (by rw[hz] at q;exact q) λb o e=>?_;have hb:=cM e;refine kp b o (λz=>?_) (dN (by rw[size_push'];exact Nat.lt_succ_of_lt hb)) (dF _ (dF _ e));rw[List.mem_singleton.mp z] at hb;exact gM _ hb
noncomputable def uM(fe fd:EF):EF:=λZ S=>(fe Z S).bind λr=>(fd Z r.2).bind λq=>match r.1 with
 |.ref n=>match q.2[n]? with
  |some (.lst xs)=>(mW xs).bind λns=>if ns=[] then some q else(je ns).map λm=>(.int m,q.2)
  |_=>none
 |_=>none
theorem zq8{kp:Pos}{d:Expr}{fd:EF}(hc:X.calm=true)(hg:Gl X "max")(hm:X.mg "max" = none)(ha:SE X e fe)(hd:SE X d fd)(he:starEach [e] X.env=[(false,eval e X.env)]):
 SE X (.Call (.Name "max" p) [e] [⟨some "default",d,kp⟩] pos) (uM fe fd):=by
 intro pz s Z H Q I h;obtain⟨σd,S,α,z,S',hv,hs,hf,kk⟩:=h;unfold uM at hf;simp only[bC] at hf;obtain⟨⟨d1,S1⟩,e1,⟨d2,S2⟩,e2,e3⟩:=hf;split at e3
 .rename_i n en;simp only at en;subst en;split at e3
  .rename_i xs ex;simp only[bC] at e3;obtain⟨ns,en,e3⟩:=e3;refine wpAny_Call_Name_kw (qW I hg hm (show bootBuiltins "max" = some (.builtin "max") by decide +kernel) ?_ (by decide) (by decide));have hst:backTo pos (starEach [e] X.env)=(false,eval e X.env)::backTo pos (starEach [] X.env):=by rw[he];rfl
   refine callWith_kw ?_ hst (by rw[hst];rfl) rfl rfl;rw[hst];refine Calls.spliced_cons (bQ (ha pz s Z H (λv H1=>∃α1,aA X.K H1 α1 S1/\Ext X.K H α H1 α1/\Rep X.K H1 α1 (.ref n) v) I ⟨σd,S,α,.ref n,S1,hv,hs,e1,λw H1 α1 s1 x1 r1=>⟨α1,s1,x1,r1⟩⟩) λu1 s1 ⟨v1,H1,I1,r1,α1,st1,x1,BW⟩=>?_);refine Calls.spliced_nil (kws_cons (bQ (hd pz s1 Z H1 (λv H2=>∃α2,aA X.K H2 α2 S2/\Ext X.K H1 α1 H2 α2/\Rep X.K H2 α2 d2 v) I1 ⟨σd,S1,α1,d2,S2,hv.mono x1,st1,e2,λw H2 α2 s2 x2 r2=>⟨α2,s2,x2,r2⟩⟩) λu2 s2 ⟨v2,H2,I2,r2,α2,st2,x2,rp2⟩=>kws_nil ?_));cases BW.mono x2 with
   |@ref _ l hl =>
    cases r1;obtain⟨ws,q,r⟩:=nW st2 hl (.inl ex);obtain⟨its,rr,pl,hz⟩:=I2.list q;obtain⟨xs,hxs,hnn,hll⟩:=Ac (vI r rr en);refine zpF (I2.ok.hd hc) (by rw[<-hxs];exact pl.isList) λv h' tk hv' hk=>?_;rcases hv' with⟨h0,rfl⟩|⟨h0,hv'⟩
    .rw[if_pos (List.length_eq_zero_iff.mp (by omega))] at e3;cases e3;exact⟨v2,H2,I2.kept hk,r2,kk _ _ _ st2 (x1.trans x2) rp2⟩
    .rw[if_neg (λz=>by rw[z] at hll;rw[hll] at h0;exact gM _ h0)] at e3;simp only[bf] at e3;obtain⟨m,e4,e5⟩:=e3;cases e5;obtain⟨t,rfl⟩:=intItems_at hv';exact⟨.int _,H2,I2.kept hk,⟨t,by rw[(Kp hnn hll e4).2]⟩,kk _ _ _ st2 (x1.trans x2) (.int _)⟩
  .cases e3
 .cases e3
end MX
end
section
namespace MX
open PySem PySem.Spec PyProof.Rows L2
noncomputable def uT(f:Str)(v:D):List (Str×D)->List (Str×D)
 |[]=>[(f,v)]
 | (g,x)::r=>if g=f then(g,v)::r else(g,x)::uT f v r
section
variable {K:FgA}{H:Hp}{α:List Addr}
inductive cR(K:FgA)(H:Hp)(α:List Addr):List (Str×D)->List (Str×V)->Prop
 |nil:cR K H α [] []
 |cons {f:Str} {d:D} {v:V} {fs:List (Str×D)} {gs:List (Str×V)} (h:Rep K H α d v) (r:cR K H α fs gs):cR K H α ((f,d)::fs) ((f,v)::gs)
theorem cR.of:∀{fs:List (Str×D)} {gs:List (Str×V)},fs.map (·.1)=gs.map (·.1)->aK K H α (fs.map (·.2)) (gs.map (·.2))->cR K H α fs gs
 |[],[],_,_ => .nil
 |[],_::_,e,_=>by cases e
 |_::_,[],e,_=>by cases e
 | (f,d)::fs,(g,v)::gs,e,r=>by
   injection e with e1 e2;cases e1;cases r with
   |cons a b=>exact .cons a (cR.of e2 b)
def cR.keys:∀{fs:List (Str×D)} {gs:List (Str×V)},cR K H α fs gs->fs.map (·.1)=gs.map (·.1)
 |_,_,.nil=>rfl
 |_,_,.cons _ r=>by simp only[iJ,r.keys]
def cR.reps:∀{fs:List (Str×D)} {gs:List (Str×V)},cR K H α fs gs->aK K H α (fs.map (·.2)) (gs.map (·.2))
 |_,_,.nil => .nil
 |_,_,.cons h r => .cons h r.reps
theorem cR.look{f:Str}{d:D}:∀{fs:List (Str×D)} {gs:List (Str×V)},cR K H α fs gs->fs.lookup f=some d->∃v,gs.lookup f=some v/\Rep K H α d v
 |_,_,.nil,h=>by cases h
 |_,_,@cR.cons _ _ _ g d' v' fs gs h r,e=>by
  rw[jH] at e ⊢;by_cases q:(f==g)=true
  .rw[q] at e ⊢;simp only at e ⊢;cases e;exact⟨_,rfl,h⟩
  .have q:(f==g)=false:=by simpa using q
   rw[q] at e ⊢;exact r.look e
theorem cR.lookN{f:Str}:∀{fs:List (Str×D)} {gs:List (Str×V)},cR K H α fs gs->fs.lookup f=none->gs.lookup f=none
 |_,_,.nil,h=>rfl
 |_,_,@cR.cons _ _ _ g d' v' fs gs h r,e=>by
  rw[jH] at e ⊢;by_cases q:(f==g)=true
  .rw[q] at e;cases e
  .have q:(f==g)=false:=by simpa using q
   rw[q] at e ⊢;exact r.lookN e
theorem cR.put{f:Str}{d:D}{v:V}(h0:Rep K H α d v):∀{fs:List (Str×D)} {gs:List (Str×V)},cR K H α fs gs->cR K H α (uT f d fs) (jx f v gs)
 |_,_,.nil => .cons h0 .nil
 |_,_,@cR.cons _ _ _ g d' v' fs gs h r=>by
  unfold uT jx;by_cases q:g=f
  .rw[if_pos q,if_pos q];exact .cons h0 r
  .rw[if_neg q,if_neg q];exact .cons h (r.put h0)
def cR.len{fs:List (Str×D)}{gs:List (Str×V)}(r:cR K H α fs gs):fs.length=gs.length:=by have:=congrArg List.length r.keys;simpa using this
end
noncomputable def gP(C f:Str)(fe:EF):EF:=λZ S=>(fe Z S).bind λr=>match r.1 with
 |.ref n=>match r.2[n]? with
  |some (.ins C' fs)=>if C'=C then(fs.lookup f).map λd=>(d,r.2) else none
  |_=>none
 |.obj C' ks xs=>if C'=C/\ks.length=xs.length then((ks.zip xs).lookup f).map λd=>(d,r.2) else none
 |_=>none
noncomputable def oU(C f:Str)(fo fv:EF):SF:=λZ S=>(fv Z S).bind λr=>(fo Z r.2).bind λq=>match q.1 with
 |.ref n=>match q.2[n]? with
  |some (.ins C' fs)=>if C'=C/\fs.length<3 then some (.nx,Z,q.2.set n (.ins C (uT f r.1 fs))) else none
  |_=>none
 |_=>none
noncomputable def lV(C m:Str)(n:Nat)(φ:GN)(fo:EF)(fa:AF):EF:=λZ S=>(fo Z S).bind λr=>match r.1 with
 |.ref j=>match r.2[j]? with
  |some (.ins C' fs)=>if C'=C/\fs.lookup m=none then(fa Z r.2).bind λq=>aY n φ (.ref j::q.1) q.2 else none
  |_=>none
 |_=>none
noncomputable def nA(C:Str)(n:Nat)(S:So):D×So:=match S[n]? with
 |some (.ins C' fs)=>if C'=C/\3<=fs.length/\S.length=n+1/\c7 n (fs.map (·.2))=true/\(S.take n).all (O.lo n)=true then(.obj C (fs.map (·.1)) (fs.map (·.2)),S.take n) else(.ref n,S)
 |_=>(.ref n,S)
noncomputable def pI(C:Str)(n:Nat)(φ:GN)(fa:AF):EF:=λZ S=>(fa Z S).bind λr=>(aY n φ (.ref r.2.length::r.1) (r.2++[.ins C []])).bind λq=>match q.1 with
 |.non=>some (nA C r.2.length q.2)
 |_=>none
structure H9(X:Cx)(C f:Str):Prop where
 cls:jZ X.K (cZ X.K C)
 no:eY X.K (cZ X.K C) f
def Ik(X:Cx)(C m:Str)(n:Nat)(φ:GN):Prop:=∃f fd ps k,jZ X.K (cZ X.K C)/\Meth X.K (cZ X.K C) m f/\Binds X.K fd ps []/\di X.prog X.w X.K X.mg X.base iV k f fd ps (sW X.K n φ)/\bM k X.A
def uD(X:Cx)(C:Str)(n:Nat)(φ:GN):Prop:=∃f fd ps k,X.mg C=some (.ref (cZ X.K C))/\Mk X.K (cZ X.K C) f/\Binds X.K fd ps []/\di X.prog X.w X.K X.mg X.base iV k f fd ps (sW X.K n φ)/\bM (k+1) X.A
section
variable {X:Cx}{C f m:Str}{e o:Expr}{es:List Expr}{fe fo fv:EF}{fa:AF}{n:Nat}{φ:GN}{pos pos' apos p:Pos}
theorem zre(ok:H9 X C f)(he:SE X e fe)(hb:attributeBase e f X.env (eval e X.env)=eval e X.env):SE X (.Attribute e f pos) (gP C f fe):=by
 refine PE.imp (zrE he hb) λZ H Q h=>?_;obtain⟨σd,S,α,z,S',hv,hs,hf,k⟩:=h;unfold gP at hf;simp only[bC] at hf;obtain⟨⟨d,S1⟩,e1,e2⟩:=hf;refine⟨σd,S,α,d,S1,hv,hs,e1,λv H1 α1 s1 x1 r1=>?_⟩;simp only at e2;split at e2
 .rename_i j;split at e2
  .rename_i C' fs q;split at e2
   .rename_i hC;subst hC;simp only[bf] at e2;obtain⟨d',l,e3⟩:=e2;cases e3;cases r1 with
    |ref ha =>
     obtain⟨dx,gs,h1,h2,h3⟩:=s1.obj _ _ _ q ha;obtain⟨w,lw,fU⟩:=(cR.of h2 h3).look l;exact⟨_,_,dx,gs,w,rfl,h1,ok.cls,ok.no,lw,(k.trans x1).same s1 fU⟩
   .cases e2
  .cases e2
 .rename_i C' ks xs;split at e2
  .rename_i hC;obtain⟨rfl,hl⟩:=hC;simp only[bf] at e2;obtain⟨d',l,e3⟩:=e2;cases e3;cases r1 with
   |@obj a C dx gs ks ds vs h1 h2 h3 h4 h5 =>
    have z1:(ks.zip xs).map (·.1)=gs.map (·.1):=by rw[List.map_fst_zip (Nat.le_of_eq hl),h3]
    have z2:aK X.K H1 α1 ((ks.zip xs).map (·.2)) (gs.map (·.2)):=by rw[List.map_snd_zip (Nat.le_of_eq hl.symm),h4];exact h5
    obtain⟨w,lw,fU⟩:=(cR.of z1 z2).look l;exact⟨_,_,dx,gs,w,rfl,h1,ok.cls,ok.no,lw,(k.trans x1).same s1 fU⟩
  .cases e2
 .cases e2
theorem zqP(ok:H9 X C f)(ho:SE X o fo)(hv:SE X e fv)(hs:swapsWith e (some (.Attribute o f pos')) pos.line X.env=pure false):SS X (.Assign [.Attribute o f pos'] e pos) (oU C f fo fv):=by
 refine PS.imp (zrq ho hv hs) λD Z H h=>?_;obtain⟨σd,S,α,fl,σd',S',PK,hss,hf,k⟩:=h;unfold oU at hf;simp only[bC] at hf;obtain⟨⟨d,S1⟩,e1,⟨d2,S2⟩,e2,e3⟩:=hf;refine⟨σd,S,α,d,S1,PK,hss,e1,λv H1 α1 s1 x1 r1=>⟨σd,S1,α1,d2,S2,PK.mono x1,s1,e2,λv2 H2 α2 s2 x2 r2=>?_⟩⟩;simp only at e3;split at e3
 .split at e3
  .rename_i C' fs q;split at e3
   .rename_i hC;obtain⟨rfl,hl⟩:=hC;cases e3;cases r2 with
    |ref ha =>
     obtain⟨dx,gs,h1,h2,h3⟩:=s2.obj _ _ _ q ha;have R:=cR.of h2 h3;refine⟨_,_,dx,gs,rfl,h1,ok.cls,ok.no,by rw[<-R.len];exact Nat.lt_trans hl (by decide),?_⟩;obtain⟨s3,x3⟩:=s2.put' (o := .ins C' (uT f d fs)) (u := .ins (cZ X.K C') dx (jx f v gs)) q rfl rfl ha h1 (λ_ z=>by cases z) (λ_ _ z=>by cases z) (λc dy hs l z=>by cases z;rw[<-R.len] at l;omega) λx=>by
      have R2:=(cR.put (f:=f) (r1.mono x2) R)
      exact⟨dx,_,fP,R2.keys,R2.reps.mono x⟩
     exact k _ _ _ (((PK.mono x1).mono x2).mono x3) s3 ((x1.trans x2).trans x3)
   .cases e3
  .cases e3
 .cases e3
theorem Vo{args:List Expr}(hbase:attributeBase o m env (eval o env)=eval o env)(hfew:((backTo pos (starEach args env)).all (λx => !x.1)&&(backToKw pos (keywordEach [] env)).all (λx=>x.1.isSome)&&decide (args.length+([]:List Keyword).length+(if([]:List Keyword).isEmpty then 0 else 1)<30))=true)(hline:(apos.endLine==pos.line)=true):eval (.Call (.Attribute o m apos) args [] pos) env=(do
  let ov <-eval o env
  standAt apos.atName
  let (f,first) <-holding [ov] (getMethod ov m (do return(<-importBound o env).getD true))
  callWith pos f first (backTo pos (starEach args env)) (backToKw pos (keywordEach [] env))):=by
 have hform:methodCallForm (args.length+([]:List Keyword).length) (backTo pos (starEach args env)) (backToKw pos (keywordEach [] env))=true:=by have h:=hfew;rw[<-h];rfl
 have hpos:methodCallPos true o env apos pos=pure pos:=by unfold methodCallPos;simp[hline]
 rw[arm_eval_Call,hbase];unfold methodCall;rw[hform,hpos];rfl
theorem zq9(R:Ik X C m n φ)(ho:SE X o fo)(ha:SA X (e::es) fa)(hbase:attributeBase o m X.env (eval o X.env)=eval o X.env)(hfew:((backTo pos (starEach (e::es) X.env)).all (λx => !x.1)&&(backToKw pos (keywordEach [] X.env)).all (λx=>x.1.isSome)&&decide ((e::es).length+([]:List Keyword).length+(if([]:List Keyword).isEmpty then 0 else 1)<30))=true)(hline:(apos.endLine==pos.line)=true)(hst:starEach (e::es) X.env=(false,eval e X.env)::starEach es X.env)(hpl:(backTo pos (starEach es X.env)).any (·.1)=false):
 SE X (.Call (.Attribute o m apos) (e::es) [] pos) (lV C m n φ fo fa):=by
 obtain⟨f,fd,ps,kk,c,hm,hb,F,hr⟩:=R;refine PE.imp (zo9 ho c hm F hr hb .nil El ha hst hpl (Vo hbase hfew hline)) λZ H Q h=>?_;obtain⟨σd,S,α,z,S',hv,hs,hf,k⟩:=h;unfold lV at hf;simp only[bC] at hf;obtain⟨⟨d,S1⟩,e1,e2⟩:=hf;refine⟨σd,S,α,d,S1,hv,hs,e1,λv H1 α1 s1 x1 r1=>?_⟩;simp only at e2;split at e2
 .split at e2
  .rename_i C' fs q;split at e2
   .rename_i hC;obtain⟨rfl,hl⟩:=hC;simp only[bC] at e2;obtain⟨⟨ds,S2⟩,e3,e4⟩:=e2;unfold aY at e4;split at e4
    .rename_i hn;cases r1 with
     |ref ha =>
      obtain⟨dx,gs,h1,h2,h3⟩:=s1.obj _ _ _ q ha;refine⟨_,dx,gs,rfl,h1,(cR.of h2 h3).lookN hl,σd,S1,α1,ds,S2,hv.mono x1,s1,e3,λvs H2 α2 s2 x2 r2=>?_⟩;show sW _ _ _ (_::(vs++[])) _ _ _;rw[List.append_nil];exact⟨by rw[<-hn,jo,jo,r2.length],S2,α2,_,z,S',s2,.cons (.ref (x2.pre _ _ ha)) r2,e4,k.trans (x1.trans x2)⟩
    .cases e4
   .cases e2
  .cases e2
 .cases e2
theorem zoN(R:Ik X C m n φ)(ho:SE X o fo)(hbase:attributeBase o m X.env (eval o X.env)=eval o X.env)(hline:(apos.endLine==pos.line)=true):
 SE X (.Call (.Attribute o m apos) [] [] pos) (lV C m n φ fo au):=by
 obtain⟨f,fd,ps,kk,c,hm,hb,F,hr⟩:=R;refine PE.imp (zmV ho c hm F hr hb .nil El (Vo hbase rfl hline)) λZ H Q h=>?_;obtain⟨σd,S,α,z,S',hv,hs,hf,k⟩:=h;unfold lV at hf;simp only[bC] at hf;obtain⟨⟨d,S1⟩,e1,e2⟩:=hf;refine⟨σd,S,α,d,S1,hv,hs,e1,λv H1 α1 s1 x1 r1=>?_⟩;simp only at e2;split at e2
 .split at e2
  .rename_i C' fs q;split at e2
   .rename_i hC;obtain⟨rfl,hl⟩:=hC;simp only[bC] at e2;obtain⟨⟨ds,S2⟩,e3,e4⟩:=e2;cases e3;unfold aY at e4;split at e4
    .rename_i hn;cases r1 with
     |ref ha =>
      obtain⟨dx,gs,h1,h2,h3⟩:=s1.obj _ _ _ q ha;refine⟨_,dx,gs,rfl,h1,(cR.of h2 h3).lookN hl,?_⟩;exact⟨by rw[<-hn];rfl,_,α1,_,z,S',s1,.cons (.ref ha) .nil,e4,k.trans x1⟩
    .cases e4
   .cases e2
  .cases e2
 .cases e2
theorem zsA(R:uD X C n φ)(hg:Gl X C)(ha:SA X (e::es) fa)(hdb:(C==("__debug__" : Str))=false)(hst:starEach (e::es) X.env=(false,eval e X.env)::starEach es X.env)(hpl:(backTo pos (starEach es X.env)).any (·.1)=false):
 SE X (.Call (.Name C p) (e::es) [] pos) (pI C n φ fa):=by
 obtain⟨f,fd,ps,kk,hm,M,hb,F,hr⟩:=R;refine PE.imp (zpa M F hr hg hm hb .nil El ha hdb hst hpl) λZ H Q h=>?_;obtain⟨σd,S,α,z,S',hv,hs,hf,k⟩:=h;unfold pI at hf;simp only[bC] at hf;obtain⟨⟨ds,S1⟩,e1,⟨d2,S2⟩,e2,e3⟩:=hf;refine⟨σd,S,α,ds,S1,hv,hs,e1,λvs H1 α1 s1 x1 r1=>λx dx hx hdx hne=>?_⟩;simp only at e2 e3;split at e3
 .have e4:=Option.some.inj e3;unfold aY at e2;split at e2
  .rename_i hn;have sa:Same H1 (upd H1 dx (.own x)):=mj hdx;have hx2:upd H1 dx (.own x) x=none:=by rw[cD (Ne.symm hne)];exact hx
   obtain⟨s2,x2⟩:=(s1.mono sa).snoc (p:=x) (o := .ins C []) (u := .ins (cZ X.K C) dx []) hx2 λα' e=>⟨dx,[],fP,rfl,.nil⟩
   have lx:(α1++[x])[S1.length]?=some x:=by rw[<-s1.len];simp
   have x12:Ext X.K H1 α1 (upd (upd H1 dx (.own x)) x (.ins (cZ X.K C) dx [])) (α1++[x]):=(Same.ext sa).trans x2;rw[List.append_nil];refine⟨by rw[<-hn,jo,jo,r1.length],_,α1++[x],_,.non,_,s2,.cons (.ref lx) (r1.mono x12),e2,λw H3 α3 s3 x3 r3=>?_⟩;cases r3;refine⟨rfl,?_⟩;have l3:=x3.pre _ _ lx;have usual:(D.ref S1.length,S2)=(z,S')->Q (.ref x) H3:=λq=>by cases q;exact k _ _ _ s3 ((x1.trans x12).trans x3) (.ref l3)
   unfold nA at e4;split at e4
   .rename_i C' fs q;split at e4
    .rename_i hq;obtain⟨rfl,q1,q2,q3,q4⟩:=hq;cases e4;obtain⟨dx3,gs,g1,g2,g3⟩:=s3.obj _ _ _ q l3;have gl:3<=gs.length:=by have:=congrArg List.length g2;simp only[cY] at this;omega
     have s4:=s3.cut S1.length (λo ho=>List.all_eq_true.mp q4 o ho);have xx:=x12.trans x3;exact k _ _ _ s4 (x1.trans ⟨xx.tups,λi b q=>by
      have hi:=(fC.mp q).1;rw[s1.len] at hi;rw[List.getElem?_take_of_lt hi];exact xx.pre i b q,xx.insts⟩) (.obj g1 gl g2.symm rfl (g3.cut _ q3))
    .exact usual e4
   .exact usual e4
  .cases e2
 .cases e3
end
noncomputable def Ite(K:FgA)(a:Addr):It :=
 ⟨λi H=>∃vs v,d8 K H a vs/\vs[i]?=some v,
  λi H x H'=>∃p v,x = .ref p/\H p=none/\H'=upd H p (.tup [.int (i:Nat),v])/\∀vs,d8 K H a vs->vs[i]?=some v,
  λi H=>∃vs,d8 K H a vs/\vs.length<=i⟩
theorem zpQ{n:Nat}(h:α[n]?=some a):zE K H α (.enm n) (Ite K a):=λi H1 α1 S1 x1 s1=>by
 have h1:=x1.pre _ _ h;unfold dH;cases hm:S1[n]? with
 |none=>simp only[hm];exact⟨λe=>(nomatch e),λd e=>(nomatch e)⟩
 |some o =>
  have hob:=s1.obj _ _ _ hm h1;cases o with
  |lst ds =>
   simp only[hm];obtain⟨vs,q,r⟩:=hob;refine⟨λe=>?_,λd e=>?_⟩
   .have e':ds[i]?=none:=by simpa using e
    exact⟨vs,d8.of q,by rw[<-r.length];exact List.getElem?_eq_none_iff.mp e'⟩
   .have e':(ds[i]?).map (λx=>D.tup [.int (i:Nat),x])=some d:=by simpa using e
    simp only[bf] at e';obtain⟨x,e2,rfl⟩:=e';obtain⟨v,e1,rv⟩:=r.get e2;refine⟨⟨vs,v,d8.of q,e1⟩,λx H' y=>?_⟩;obtain⟨p,v',rfl,hp,rfl,hy⟩:=y;have:=hy vs (d8.of q);rw[e1] at this;cases this;exact⟨mj hp,.tup (dR.of fP) (.cons (.int _) (.cons (rv.mono (Same.ext (mj hp))) .nil))⟩
  |_=>simp only[hm];exact⟨λe=>(nomatch e),λd e=>(nomatch e)⟩
theorem zkr{P:Program}{tp:Pos}{e it:Addr}(hei:e≠it):
 uZ P w K (.Tuple es kk tp) (Ite K l) [e,it] e (λi h=>(∃old,IsEnum h e it (i:Nat) old)/\h.IsListIter it l i) where
 mem:=eZ
 obj:=λi h ⟨⟨old,h1⟩,⟨o,h2,h3,h4⟩⟩ b hb=>by
  rcases List.mem_cons.mp hb with rfl|hb
  .exact⟨_,h1,λv z=>by cases z⟩
  .rw[List.mem_singleton.mp hb];exact⟨o,h2,λv z=>by rw[h4] at z;cases z⟩
 keep:=λi h h' ⟨⟨old,h1⟩,h2⟩ k=>⟨⟨old,k e (by simp) _ h1⟩,h2.at λo x=>k it (by simp) o x⟩
 item:=by
  intro X hP hw hK hc i pz s Z H E I hf st hg;subst hP hw hK;obtain⟨⟨old,he⟩,hit⟩:=st;obtain⟨vs,v,hS,hv⟩:=hg;obtain⟨its,rv,pl,hz⟩:=I.list hS;obtain⟨u,hu,ru⟩:=rv.get hv;refine wpAny_pyNext_enum_item he hit pl.isList (by simpa using hu) hei λh' ho hit' hT hsz hk=>?_;refine⟨_,rfl,wpAny_letOwnedTupleGo_enum (s:={ s with heap:=h',toks:=s.toks+1 }) ho λh'' he' hs'=>?_⟩;have helt:e<s.heap.objs.size:=cM he;have hilt:it<s.heap.objs.size:=by obtain⟨_,x,_⟩:=hit;exact cM x
  have kp:∀c o,c∉[e,it]->s.heap.get? c=some o->h''.get? c=some o:=λc o hc q=>by have c1:c≠e:=λz=>hc (by simp[z]);have c2:c≠it:=λz=>hc (by simp[z]);exact(hs'.2 c c1).trans (hk c o c1 c2 q)
  have hTe:s.heap.objs.size≠e:=Nat.ne_of_gt helt;have I1:Inv X pz Z (upd H s.heap.objs.size (.tup [.int (i:Nat),v])) { s with heap:=h'',toks:=s.toks+1 } :=
   MZ.Inv.turnedT (t':=s.toks+1) (jg:=[.int i s.toks,u]) I kp hf ((hs'.2 _ hTe).trans hT) (.cons ⟨_,rfl⟩ (.cons ru .nil)) (by show 2<=sizeLine;decide)
  refine⟨.ref s.heap.objs.size,_,I1,rfl,⟨s.heap.objs.size,v,rfl,I.hok.fresh (bH _),rfl,λvs' h=>by rw[I.list_inj h hS];exact hv⟩,⟨⟨_,by simpa using he'⟩,hit'.at λo y=>(hs'.2 it hei.symm).trans y⟩,λb hb=>?_⟩;have hlt:b<s.heap.objs.size:=by
   rcases List.mem_cons.mp hb with rfl|hb
   .exact helt
   .rw[List.mem_singleton.mp hb];exact hilt
  rw[cD (dN hlt)];exact(hf b hb).1
 done:=by
  intro X hP hw hK hc i pz s Z H E I hf st hg;subst hP hw hK;obtain⟨⟨old,he⟩,hit⟩:=st;obtain⟨vs,hS,hlen⟩:=hg;obtain⟨its,rv,pl,hz⟩:=I.list hS;refine wpAny_pyNext_enum_end (I.ok.hd hc) he hit pl.isList (by simp;rw[<-rv.length];exact hlen) λh' hx=>⟨rfl,?_⟩
  exact MZ.Inv.turnedN (t':=s.toks) (ch:=[e,it]) I (λc o hc q=>hx c o (λz=>hc (by simp[z])) q) hf
 self:=λ_ _ _ _ _ st h=>by obtain⟨⟨old,he⟩,_⟩:=st;exact wpAny_pyIter_enum he h
def zma:bootBuiltins "enumerate" = some (.type "enumerate"):=by decide +kernel
section
variable {X:Cx}
noncomputable def pA(fe:EF):IF:=λZ S=>(fe Z S).bind λr=>match r.1 with
 |.ref n=>match r.2[n]? with
  |some (.lst _)=>some (.enm n,r.2)
  |_=>none
 |_=>none
theorem zqY{ts:List Expr}{tp:Pos}(hg:Gl X "enumerate")(hm:X.mg "enumerate" = none)(ha:SE X e fe)(hst:starEach [e] X.env=[(false,eval e X.env)]):
 SI X (.Tuple ts kk tp) (.Call (.Name "enumerate" p) [e] [] pos) (pA fe):=by
 intro pz s Z H R I h;obtain⟨σd,S,α,j,S',hv,hs,hf,k⟩:=h;unfold pA at hf;simp only[bC] at hf;obtain⟨⟨d,S1⟩,e1,e2⟩:=hf;simp only at e2;split at e2
 .rename_i n;split at e2
  .rename_i xs q;cases e2;have hst':starEach (e::[]) X.env=(false,eval e X.env)::starEach [] X.env:=hst;refine wpAny_Call_Name_kw (qW I hg hm zma ?_ (by decide) (by decide));refine PyProof.Rows.callWith_type1 ?_ hst' rfl;rw[hst'];refine Calls.spliced_cons (bQ (ha pz s Z H (λv H1=>∃α1,aA X.K H1 α1 S'/\Ext X.K H α H1 α1/\Rep X.K H1 α1 (.ref n) v) I ⟨σd,S,α,.ref n,S',hv,hs,e1,λw H1 α1 s1 x1 r1=>⟨α1,s1,x1,r1⟩⟩) λu1 s1 ⟨v1,H1,I1,r1,α1,st1,x1,BW⟩=>?_);refine Calls.spliced_nil ?_;cases BW with
   |@ref _ l hl =>
    cases r1;obtain⟨ws,hw,rws⟩:=st1.obj _ _ _ q hl;obtain⟨its,rv,pl,hz⟩:=I1.list (d8.of (K:=X.K) hw);refine call_enumerate_list pl.isList λh' he hit hsz hk=>?_;have I2:Inv X pz Z H1 { s1 with heap:=h' }:=I1.kept (t':=s1.toks) hk;refine wpAny_pyIter_enum (s:={ s1 with heap:=h' }) he ?_;refine⟨_,_,_,_,H1,rfl,I2,zkr (K:=X.K) (l:=l) (e:=s1.heap.objs.size+1) (it:=s1.heap.objs.size) (Nat.succ_ne_self _),⟨⟨_,he⟩,hit⟩,λb hb=>?_,k _ _ _ st1 x1 (zpQ hl)⟩;have hge:s1.heap.objs.size<=b:=by
     rcases List.mem_cons.mp hb with rfl|hb
     .omega
     .rw[List.mem_singleton.mp hb];exact bH _
    exact I1.fpOk hge (I1.hok.fresh hge)
  .cases e2
 .cases e2
end
noncomputable def ye:GM
 |.ref n,[.int k],S=>match S[n]? with
  |some (.lst xs)=>(mW xs).bind λns=>if k∈ns then some (.int (ns.idxOf k:Nat),S) else none
  |_=>none
 |_,_,_=>none
theorem ziA{vs:List Value}{k:Int}{t:Tok}(hl:s.heap.IsList l vs.toArray)(hi:IntsAre vs ns)(hb:ns.length<=sizeLine)(hk:k∈ns)(h:Q (.int (ns.idxOf k:Nat) s.toks) { s with toks:=s.toks+1 }):
 wpAny (model prog w) A (call (.builtin "list.index") [.ref l,.int k t]) Q E s:=by
 obtain⟨⟨cls,dd,data,sl⟩,ho,hc,n,hd⟩:=id hl;simp only at hc hd;subst hc hd;have hlen:=hi.length;have hj:ns.idxOf k<ns.length:=List.idxOf_lt_length_iff.mpr hk;rw[sizeLine_eq] at hb;refine call_meets PySem.F.slot_list_index ⟨_,ho,rfl⟩ PySem.F.entry_list_index (PySem.F.args_list_index_2 _ _)
  (PySem.SeqAt.list_indexAt l vs.toArray n dd sl (.int k t) (isInt k) (ns.idxOf k) (by simpa[hlen] using hj) (by omega) ?_ ?_) ⟨ho,λy hy=>(eq_isInt k t hi y (by simpa using hy)).at _ _,h⟩
 .show isInt k vs[ns.idxOf k]=true;rw[isInt_at k hi _ (by omega) hj];simpa using List.getElem_idxOf hj
 .intro j hjs hlt;show isInt k vs[j]=false;rw[isInt_at k hi j (by simpa using hjs) (by omega)];exact ne_of_lt_idxOf hlt _
theorem zm3:sH X "list.index" (vY X.K ye):=by
 intro pz s Z H v vs vv us Q I rv rs h;obtain⟨S,α,d,ds,z,S',hs,r,rr,hg,k⟩:=h;unfold ye at hg;split at hg
 .cases r with
  |ref ha =>
   split at hg
   .rename_i xs e;simp only[bC] at hg;obtain⟨ns,e1,e2⟩:=hg;split at e2
    .rename_i hk;cases e2;obtain⟨w,rfl,fU⟩:=rr.inv1;cases fU;cases rv;obtain⟨u,rfl,ru⟩:=rs.one;obtain⟨t,rfl⟩:=ru;obtain⟨ws,q,rws⟩:=hs.obj _ _ _ e ha;obtain⟨hz,its,n0,vX,hl,ho⟩:=I.lstM q;have hi:=vI rws vX e1;refine ziA (vs:=its) ⟨_,ho,rfl,n0,rfl⟩ hi (by rw[<-hi.length,<-hl];exact hz) hk ?_;exact⟨.int _,H,I.tok _,⟨_,rfl⟩,k.same hs (.int _)⟩
    .cases e2
   .cases hg
 .cases hg
section
variable {X:Cx}{e:Expr}{es:List Expr}{fa:AF}{x:Str}{apos cpos p:Pos}{j:Option String}
theorem zoO{t:Tok}(hg:Gl X x)(hm:X.mg x=some (.str y t))(hdb:(x==("__debug__" : Str))=false):SE X (.Name x p) (eC (.str y)):=by intro pz s Z H Q I h;obtain⟨σd,S,α,z,S',hv,hs,hf,k⟩:=h;cases hf;exact Jr I hg hm ⟨.str y,H,I,⟨_,rfl⟩,k.same hs (.str _)⟩ hdb
end
structure Ctx where
 N:List Str
 names:List (Str×NameKind)
 sts:List Str
 fns:List (Str×Nat×GN)
 blt:List Str
 lf:Option (Str×Addr×GN):=none
 hof:List (Str×Str×(Addr->GN->GN)):=[]
 ext:Str->List Expr->Option EF:=λ_ _=>none
 kwx:Str->List Expr->List Keyword->Option EF:=λ_ _ _=>none
 gls:List (Str×Str):=[]
 flds:List (Str×Str):=[]
 mths:List (Str×Str×Nat×GN):=[]
 mks:List (Str×Nat×GN):=[]
noncomputable def FnAt(P:Program)(w:World)(K:FgA)(mg:Str->Option Value)(base:Heap)(k:Nat)(x:Str)(n:Nat)(φ:GN):Prop :=
 ∃f fd ps,mg x=some (.ref f)/\PySem.W.keepIn K (.ref f)=true/\Binds K fd ps []/\di P w K mg base iV k f fd ps (sW K n φ)
noncomputable def zR(q:Str)(ap:Pos):Arguments:={ posonlyargs:=[],args:=[{ arg:=q,annotation:=none,pos:=ap }],vararg:=none,kwonlyargs:=[],kw_defaults:=[],kwarg:=none,defaults:=[] }
def zpz{q:Str}{ap:Pos}(env:Env):defaultsOf (zR q ap) env=([],[]):=rfl
noncomputable def xQ(c:Ctx)(X:Cx)(x q:Str)(G:Addr->GN->GN):Prop:=∃f fd p1 p2 k Pt ct,Et X Pt ct/\X.mg x=some (.ref f)/\PySem.W.keepIn X.K (.ref f)=true/\Binds X.K fd [p1,p2] []/\bM (k+2) X.A /\
 (∀(ap:Pos) (body:Expr) (scope:Scope) (pm cdv ctv:Value) (clos:List (Str×Addr)) (qual:Str) (u:Value),bindArgs (PySem.W.kla_fn "<lambda>" qual (zR q ap) body scope clos pm cdv ctv) ⟨[u],[]⟩=pure [(q,u)]) /\
 (∀base:Heap,Mod X.K X.mg base->(∀b o,X.base.get? b=some o->base.get? b=some o)->DX X.prog X.w X.K X.mg base (k+1) f fd [p1,p2] G) /\
 ∀base:Heap,Mod X.K X.mg base->(∀b o,X.base.get? b=some o->base.get? b=some o)->∀y n ψ,c.fns.lookup y=some (n,ψ)->FnAt X.prog X.w X.K X.mg base k y n ψ
structure f9(c:Ctx)(X:Cx):Prop where
 N:X.N=c.N
 nd:c.N.Nodup
 names:X.env.scope.names=c.names
 kind:X.env.scope.kind = .function
 st:∀x∈c.sts,Loc X.env.scope x/\(X.fn x=true\/X.env.scope.names.lookup x=some .local)
 fns:∀x k φ,c.fns.lookup x=some (k,φ)->uG X x k φ
 blt:∀x∈c.blt,X.mg x=none
 calm:X.calm=true
 un:X.A.units+64<cLine
 lf:∀x a ψ,c.lf=some (x,a,ψ)->DP X a ψ
 hof:∀x q G,c.hof.lookup x=some (q,G)->xQ c X x q G
 ext:∀x es f p pos,c.ext x es=some f->SE X (.Call (.Name x p) es [] pos) f
 kwx:∀x es ks f p pos,c.kwx x es ks=some f->SE X (.Call (.Name x p) es ks pos) f
 gls:∀x y,c.gls.lookup x=some y->∃t,X.mg x=some (.str y t)
 flds:∀f C,c.flds.lookup f=some C->H9 X C f
 mths:∀m C n φ,c.mths.lookup m=some (C,n,φ)->Ik X C m n φ
 mks:∀C n φ,c.mks.lookup C=some (n,φ)->uD X C n φ
noncomputable def lF:List Str->Str->Option Nat
 |[],_=>none
 |y::r,x=>if y=x then some 0 else(lF r x).map (·+1)
theorem vK:∀{N:List Str} {x:Str} {i:Nat},lF N x=some i->N[i]?=some x
 |[],_,_,h=>by cases h
 |y::r,x,i,h=>by
  unfold lF at h;split at h
  .rename_i e;cases h;rw[e];rfl
  .simp only[bf] at h;obtain⟨j,h1,rfl⟩:=h;simpa using vK h1
noncomputable def mV:Expr->Bool
 |.Starred _ _=>false
 |_=>true
theorem jU(h:mV e=true)(es:List Expr)(env:Env):starEach (e::es) env=(false,eval e env)::starEach es env:=by
 cases e with
 |Starred _ _=>cases h
 |_=>simp[starEach]
theorem vG(h:es.all mV=true)(pos:Pos)(env:Env):(backTo pos (starEach es env)).any (·.1)=false:=by
 induction es with
 |nil=>rfl
 |cons e r ih =>
  rw[lQ,dD] at h;rw[jU h.1];show(false||(backTo pos (starEach r env)).any (·.1))=false;rw[ih h.2];rfl
theorem zmp(h:es.all mV=true)(pos:Pos)(env:Env):(backTo pos (starEach es env)).all (λx => !x.1)=true:=by
 induction es with
 |nil=>rfl
 |cons e r ih =>
  rw[lQ,dD] at h;rw[jU h.1];show(!false&&(backTo pos (starEach r env)).all (λx => !x.1))=true;rw[ih h.2];rfl
noncomputable def Ey:Expr->Bool
 |.Slice _ _ _ _=>false
 |_=>true
def zjT{b:Expr}(h:Ey b=true):Ii b:=by
 intro o i;cases b with
 |Slice _ _ _ _=>cases h
 |_=>rfl
noncomputable def QT:Expr->Bool
 |.Name _ _=>true
 |.Call _ _ _ _=>true
 |.Subscript _ _ _=>true
 |.Constant _ _ _=>true
 |.BinOp _ _ _ _=>true
 |.List _ _=>true
 |.Tuple _ _ _=>true
 |.Attribute _ _ _=>true
 |.ListComp _ _ _ _=>true
 |_=>false
theorem zkW{a:Expr}(h:QT a=true)(env:Env)(whole:Sem Value):isTrue a env whole=(do let v <-whole;standAt a.pos;holding [v] (truthy v)):=by
 cases a with
 |Name _ _=>rfl
 |Call _ _ _ _=>rfl
 |Subscript _ _ _=>rfl
 |Constant _ _ _=>rfl
 |BinOp _ _ _ _=>rfl
 |List _ _=>rfl
 |Tuple _ _ _=>rfl
 |Attribute _ _ _=>rfl
 |ListComp _ _ _ _=>rfl
 |_=>cases h
noncomputable def zQ:Expr->Bool
 |.Set _ _ _=>false
 |_=>true
def Vp(h:zQ e=true)(env:Env)(x:Value):foldedSetIterable e env x=pure x:=by
 cases e with
 |Set _ _ _=>cases h
 |_=>rfl
noncomputable def yo:Expr->Bool
 |.ListComp _ _ _ _=>false
 |.SetComp _ _ _ _=>false
 |.DictComp _ _ _ _ _=>false
 |_=>true
theorem Aw(h:yo e=true)(t:Option Expr)(l:Nat)(env:Env):swapsWith e t l env=pure false:=by
 cases e with
 |ListComp _ _ _ _=>cases h
 |SetComp _ _ _ _=>cases h
 |DictComp _ _ _ _ _=>cases h
 |_=>rfl
noncomputable def Il:Expr->Bool
 |.Tuple _ _ _=>false
 |_=>true
noncomputable def wz:Expr->Bool
 |.Tuple _ _ _=>true
 |.List _ _=>true
 |_=>false
theorem zj0{t:Expr}(h:wz t=false)(e:Expr)(env:Env):swappedStores [t] e env=pure none:=by
 cases t with
 |Tuple _ _ _=>cases h
 |List _ _=>cases h
 |_=>rfl
theorem zjZ(h:Il e=true)(ts:List Expr)(k:Nat)(p:Pos)(env:Env):swappedStores [.Tuple ts k p] e env=pure none:=by
 cases e with
 |Tuple _ _ _=>cases h
 |_=>rfl
noncomputable def xr:List (Str×String):=[("int", "int"),("bool", "bool"),("str", "str"),("tuple", "tuple"),("list", "list")]
theorem zl9{T:String}(h:xr.lookup x=some T):bootBuiltins x=some (.type T):=by have hm:=iK h;unfold xr at hm;simp only[List.mem_cons,xU,or_false,Prod.mk.injEq] at hm;rcases hm with⟨rfl,rfl⟩|⟨rfl,rfl⟩|⟨rfl,rfl⟩|⟨rfl,rfl⟩|⟨rfl,rfl⟩<;>decide +kernel
noncomputable def qg(x:Str):Bool:=(x==("__debug__" : Str))||(x==("__classdict__" : Str))||(x==("__name__" : Str))
def uR(h:qg x=false):(x==("__debug__" : Str))=false:=by unfold qg at h;rw[Bool.or_eq_false_iff,Bool.or_eq_false_iff] at h;exact h.1.1
def Pb(h:qg x=false):(x==("__classdict__" : Str))=false:=by unfold qg at h;rw[Bool.or_eq_false_iff,Bool.or_eq_false_iff] at h;exact h.1.2
def v8(h:qg x=false):x≠("__name__" : Str):=by unfold qg at h;rw[Bool.or_eq_false_iff] at h;exact beq_eq_false_iff_ne.mp h.2
noncomputable def nmE(c:Ctx)(x:Str):Option EF:=if qg x=true then none else match c.names.lookup x with
 |some .local=>(lF c.N x).map aj
 |some .cell=>(lF c.N x).map aj
 |some .free=>(lF c.N x).map aj
 |some .globalImplicit=>if x∈c.blt then(xr.lookup x).map λT=>eC (.ty T) else(c.gls.lookup x).map λy=>eC (.str y)
 |_=>none
noncomputable def QJ:Const->Option EF
 |.int i=>some (eC (.int i))
 |.bool b=>some (eC (.bl b))
 |.none=>some (eC .non)
 |.str x=>some (eC (.str x))
 |_=>none
section
variable {c:Ctx}{X:Cx}
theorem zjL(ok:f9 c X)(h:nmE c x=some f):SE X (.Name x pos) f:=by
 unfold nmE at h;split at h
 .cases h
 .rename_i ho;have ho':qg x=false:=by simpa using ho
  have loc:∀(v:Ht X.env.scope x),(lF c.N x).map aj=some f->SE X (.Name x pos) f:=λv e=>by simp only[bf] at e;obtain⟨i,e1,rfl⟩:=e;exact zq2 (by rw[ok.N];exact vK e1) v (uR ho') (Pb ho')
  split at h
  .rename_i e;exact loc (.inl (by rw[ok.names];exact e)) h
  .rename_i e;exact loc (.inr (.inl (by rw[ok.names];exact e))) h
  .rename_i e;exact loc (.inr (.inr (by rw[ok.names];exact e))) h
  .rename_i e;split at h
   .rename_i hb;simp only[bf] at h;obtain⟨T,e1,rfl⟩:=h;exact o4 (zpd (show X.env.scope.names.lookup x=_ by rw[ok.names];exact e) (ok.blt x hb) (zl9 e1) (v := .ty T) rfl (v8 ho') (uR ho')) λ_ _ => .ty T
   .simp only[bf] at h;obtain⟨y,e1,rfl⟩:=h;obtain⟨t,ht⟩:=ok.gls x y e1;exact zoO (show X.env.scope.names.lookup x=_ by rw[ok.names];exact e) ht (uR ho')
  .cases h
theorem zim{k:Const}(h:QJ k=some f):SE X (.Constant k j pos) f:=by
 cases k with
 |int i=>cases h;exact zrd
 |bool b=>cases h;exact zsD
 |none=>cases h;exact zq6
 |str x=>cases h;exact zq4
 |_=>cases h
end
noncomputable def BX(cn names:List (Str×NameKind)):List (Str×NameKind):=names.map λ(n,k)=>if(k==NameKind.free&&true&&cn.lookup n==some .cell) then(n,NameKind.cell) else(n,k)
noncomputable def tE(names:List (Str×NameKind)):List Str:=(names.filter λy=>(y.2 == .local||y.2 == .cell)&&y.1 != (".0" : Str)).map (·.1)
noncomputable def zP(c:Ctx)(names:List (Str×NameKind)):List (Str×Nat):=names.filterMap λy=>if y.2==NameKind.free then(lF c.N y.1).map λi=>(y.1,i) else none
noncomputable def tB(c:Ctx)(names:List (Str×NameKind)):List Str:=tE names++(zP c names).map (·.1)
noncomputable def yh(c:Ctx)(names:List (Str×NameKind)):List (Option Nat):=(tE names).map (λ_=>none)++(zP c names).map λp=>some p.2
noncomputable def Ei(c:Ctx)(names:List (Str×NameKind)):Ctx:={ N:=tB c names,names:=BX c.names names,sts:=tE names,fns:=c.fns,blt:=c.blt,flds:=c.flds,mths:=c.mths,mks:=c.mks }
noncomputable def zL(c:Ctx)(scope:Scope):Bool:=decide (scope.kind = .function)&&scope.names.all (λy=>decide (scope.names.lookup y.1=some y.2)) &&
 scope.names.all (λy=>decide (y.2 = .free->(c.names.lookup y.1=some .cell\/c.names.lookup y.1=some .free)))&&decide (tB c scope.names).Nodup
section
variable {c:Ctx}{X:Cx}{scope:Scope}
theorem znl{p:Str×Nat}(h:p∈zP c names):(p.1,NameKind.free)∈names/\lF c.N p.1=some p.2:=by
 unfold zP at h;obtain⟨y,hy,e⟩:=List.mem_filterMap.mp h;split at e
 .rename_i hk;simp only[bf] at e;obtain⟨i,e1,rfl⟩:=e;have:y.2=NameKind.free:=by simpa using hk
  refine⟨?_,e1⟩;rw[<-this];exact hy
 .cases e
theorem zpg(h:x∈tE names):(x,NameKind.local)∈names\/(x,NameKind.cell)∈names:=by
 unfold tE at h;obtain⟨y,hy,rfl⟩:=List.mem_map.mp h;obtain⟨h1,h2⟩:=List.mem_filter.mp hy;rw[dD,lg] at h2;obtain⟨y1,y2⟩:=y;rcases h2.1 with q|q
 .have:y2=NameKind.local:=by simpa using q
  subst this;exact .inl h1
 .have:y2=NameKind.cell:=by simpa using q
  subst this;exact .inr h1
theorem zqd(ok:f9 c X)(h:zL c scope=true):qP X scope (tB c scope.names) (yh c scope.names):=by
 unfold zL at h;rw[dD,dD,dD] at h;obtain⟨⟨⟨h1,h2⟩,h3⟩,h4⟩:=h;rw[List.all_eq_true] at h2 h3;have u:∀y∈scope.names,scope.names.lookup y.1=some y.2:=λy hy=>of_decide_eq_true (h2 y hy);refine⟨of_decide_eq_true h1,u,λy hy e=>?_,by simp[yh,tB],λj i x e1 e2=>?_⟩
 .have:=of_decide_eq_true (h3 y hy) e;show X.env.scope.names.lookup y.1=_\/X.env.scope.names.lookup y.1=_;rw[ok.names];exact this
 .unfold tB at e1;unfold yh at e2;have hj:(tE scope.names).length<=j:=by
   refine Nat.le_of_not_lt λhlt=>?_;rw[lR (by simpa using hlt),fW] at e2;cases q:(tE scope.names)[j]? with
   |none=>rw[q] at e2;cases e2
   |some z=>rw[q] at e2;cases e2
  rw[nJ (by simpa using hj),fW,cY] at e2;rw[nJ hj,fW] at e1;cases q:(zP c scope.names)[j - (tE scope.names).length]? with
  |none=>rw[q] at e2;cases e2
  |some p =>
   rw[q] at e1 e2;simp only[uK,Option.some.injEq] at e1 e2;obtain⟨m1,m2⟩:=znl (List.mem_of_getElem? q);subst e1 e2;exact⟨by rw[ok.N];exact vK m2,u _ m1⟩
theorem znv(ok:f9 c X)(h:zL c scope=true){Y:Cx}(hy:oV X scope (tB c scope.names) Y):f9 (Ei c scope.names) Y:=by
 have h0:=h;unfold zL at h;rw[dD,dD,dD] at h;obtain⟨⟨⟨h1,h2⟩,h3⟩,h4⟩:=h;rw[List.all_eq_true] at h2;have u:∀y∈scope.names,scope.names.lookup y.1=some y.2:=λy hy=>of_decide_eq_true (h2 y hy);have hn:Y.env.scope.names=BX c.names scope.names:=by
  rw[hy.sc];show List.map _ scope.names=List.map _ scope.names;refine List.map_congr_left λy _=>?_;obtain⟨n,k⟩:=y;have e1:(X.env.scope.kind == .function)=true:=by rw[ok.kind];rfl
  have e2:X.env.kindOf n=c.names.lookup n:=by show X.env.scope.names.lookup n=_;rw[ok.names]
  simp only[e1,e2]
 refine⟨hy.N,of_decide_eq_true h4,hn,by rw[hy.sc];exact of_decide_eq_true h1,λx hx=>?_,λx k φ e=>?_,λx hx=>by rw[hy.mg];exact ok.blt x hx,hy.calm.trans ok.calm,by rw[hy.A];exact ok.un,λ_ _ _ h=>(nomatch h),λ_ _ _ h=>(nomatch h),λ_ _ _ _ _ h=>(nomatch h),λ_ _ _ _ _ _ h=>(nomatch h),λ_ _ h=>(nomatch h),λf C e=>?_,λm C n φ e=>?_,λC n φ e=>?_⟩
 .have lk:∀k,k ≠ .free->scope.names.lookup x=some k->Y.env.scope.names.lookup x=some k:=λk hk e=>by
   rw[hy.sc];show(List.map _ scope.names).lookup x=_;rw[show(List.map _ scope.names).lookup x=_ from Mv,e];have hb:(k==NameKind.free)=false:=by simpa using hk
   show some (if(k==NameKind.free&&_&&_)=true then NameKind.cell else k)=some k;rw[hb];rfl
  rcases zpg hx with m|m
  .have e:=u _ m;exact⟨.inl (lk _ (by decide) e),.inr (lk _ (by decide) e)⟩
  .have e:=u _ m;exact⟨.inr (lk _ (by decide) e),.inl (hy.fn x e)⟩
 .obtain⟨f,fd,ps,kk,m1,m2,m3,m4,m5⟩:=ok.fns x k φ e;refine⟨f,fd,ps,kk,by rw[hy.mg];exact m1,by rw[hy.K];exact m2,by rw[hy.K];exact m3,?_,by rw[hy.A];exact m5⟩;rw[hy.prog,hy.w,hy.K,hy.mg,hy.base];exact m4
 .obtain⟨h1,h2⟩:=ok.flds f C e;exact⟨by rw[hy.K];exact h1,by rw[hy.K];exact h2⟩
 .obtain⟨f,fd,ps,kk,m1,m2,m3,m4,m5⟩:=ok.mths m C n φ e;refine⟨f,fd,ps,kk,by rw[hy.K];exact m1,by rw[hy.K];exact m2,by rw[hy.K];exact m3,?_,by rw[hy.A];exact m5⟩;rw[hy.prog,hy.w,hy.K,hy.mg,hy.base];exact m4
 .obtain⟨f,fd,ps,kk,m1,m2,m3,m4,m5⟩:=ok.mks C n φ e;refine⟨f,fd,ps,kk,by rw[hy.K,hy.mg];exact m1,by rw[hy.K];exact m2,by rw[hy.K];exact m3,?_,by rw[hy.A];exact m5⟩;rw[hy.prog,hy.w,hy.K,hy.mg,hy.base];exact m4
end
noncomputable def Eo(c:Ctx):Expr->Option GF
 |.Name x _=>if x∈c.sts then(lF c.N x).map aH else none
 |_=>none
noncomputable def Ep(c:Ctx):List Expr->Option oJ
 |[]=>some iR
 |e::r=>(Eo c e).bind λf=>(Ep c r).map λfr=>cQ f fr
noncomputable def yc(c:Ctx):Expr->Option GF
 |.Name x p=>Eo c (.Name x p)
 |.Tuple es _ _=>(Ep c es).map λfr=>iB es.length fr
 |_=>none
section
variable {c:Ctx}{X:Cx}
theorem WK(ok:f9 c X){f:GF}(h:Eo c e=some f):SG X e f:=by
 cases e with
 |Name x p =>
  simp only[Eo] at h;split at h
  .rename_i hx;simp only[bf] at h;obtain⟨i,e1,rfl⟩:=h;obtain⟨h1,h2⟩:=ok.st x hx;exact zoJ (by rw[ok.N];exact ok.nd) (by rw[ok.N];exact vK e1) h1 h2
  .cases h
 |_=>cases h
theorem WL(ok:f9 c X):∀{es:List Expr} {f:oJ},Ep c es=some f->DK X es f/\(assignEach es X.env).length=es.length/\(assignEach es X.env).findIdx? (·.1)=none
 |[],f,h=>by cases h;exact⟨zoI,rfl,rfl⟩
 |e::r,f,h=>by
  unfold Ep at h;simp only[bC,bf] at h;obtain⟨f1,e1,fr,e2,rfl⟩:=h;obtain⟨i1,i2,i3⟩:=WL ok e2;have ea:assignEach (e::r) X.env=(false,assign e X.env)::assignEach r X.env:=by
   cases e with
   |Name x p=>rfl
   |_=>cases e1
  refine⟨zmB (WK ok e1) i1 (by rw[ea];rfl),by rw[ea,jo,jo,i2],?_⟩;rw[ea,List.findIdx?_cons,i3];rfl
theorem Ay(ok:f9 c X){f:GF}(h:yc c e=some f):SG X e f:=by
 cases e with
 |Name x p=>exact WK ok h
 |Tuple es k p =>
  unfold yc at h;simp only[bf] at h;obtain⟨fr,e1,rfl⟩:=h;obtain⟨i1,i2,i3⟩:=WL ok e1;exact zq0 ok.calm i1 i2 i3
 |_=>cases h
end
noncomputable def QL:EF:=λ_ _=>none
def zmF:SE X e QL:=λ_ _ _ _ _ _ h=>by obtain⟨_,_,_,_,_,_,_,hf,_⟩:=h;cases hf
section
variable (rE:Ctx->Expr->Option EF)(rT:Ctx->Expr->Option TF)
noncomputable def lU(c:Ctx):List Expr->Option AF
 |[]=>some au
 |e::r=>if mV e=true then(rE c e).bind λf=>(lU c r).map λfr=>ak f fr else none
noncomputable def Eg(c:Ctx)(op:BoolOp):List Expr->Option EF
 |[]=>none
 |[a]=>rE c a
 |a::b::r=>(rE c a).bind λf=>(Eg c op (b::r)).map λg=>match op with
  |.And=>sO f g
  |.Or=>uo f g
noncomputable def Eh(c:Ctx)(op:BoolOp):List Expr->Option TF
 |[]=>none
 |[a]=>rT c a
 |a::b::r=>(rT c a).bind λf=>(Eh c op (b::r)).map λg=>match op with
  |.And=>vh f g
  |.Or=>gB f g
noncomputable def Ek(c:Ctx):Option Expr->Option PF
 |none=>some nP
 |some e=>(rE c e).map lX
noncomputable def xG:List (Str×String×GN):=[("len", "len",jq),("abs", "abs",uN),("min", "min",pZ),("max", "max",lC),("isinstance", "isinstance",wO),("all", "all",uO)]
noncomputable def xu:List (Str×String×GN):=[("tuple", "tuple",qR),("list", "list",qL),("int", "int",uP)]
noncomputable def HJ(params:Arguments):Option (Str×Pos):=match params.args with
 |[]=>none
 |a::r=>match r with
  |_::_=>none
  |[]=>if params.posonlyargs.isEmpty=true/\params.vararg.isNone=true/\params.kwonlyargs.isEmpty=true/\params.kw_defaults.isEmpty=true/\params.kwarg.isNone=true/\params.defaults.isEmpty=true/\a.annotation.isNone=true then some (a.arg,a.pos) else none
noncomputable def xY(names:List (Str×NameKind)):List Str:=(names.filter λy=>y.2==NameKind.free).map (·.1)
noncomputable def rF(c:Ctx):List Str->Option (List Nat)
 |[]=>some []
 |y::r=>(lF c.N y).bind λi=>(rF c r).map λl=>i::l
noncomputable def CK(c:Ctx)(q:Str)(scope:Scope):Bool:=decide (scope.kind = .function) && !scope.isCoroutine && !scope.isGenerator&&decide (scope.names.lookup q=some .local)&&scope.names.all (λy=>decide (y.2 ≠ .cell)) &&
 scope.names.all (λy=>decide (scope.names.lookup y.1=some y.2))&&scope.names.all (λy=>decide (y.2 = .free->c.names.lookup y.1=some .cell))&&decide (q::xY scope.names).Nodup
noncomputable def Ig(c:Ctx)(x:Str)(es:List Expr):Option EF:=if qg x=true then none else
 if c.names.lookup x=some .globalImplicit/\es.all mV=true/\es≠[] then
  match c.fns.lookup x with
  |some (k,φ)=>(lU rE c es).map λfa=>eN (aY k φ) fa
  |none=>match c.mks.lookup x with
  |some (n,φ)=>(lU rE c es).map λfa=>pI x n φ fa
  |none=>if x∈c.blt then match xG.lookup x with
   |some (_,g)=>(lU rE c es).map λfa=>eN g fa
   |none=>match xu.lookup x with
    |some (_,g)=>(lU rE c es).map λfa=>eN g fa
    |none=>none
   else some QL
 else none
noncomputable def Ie(c:Ctx)(x:Str)(es:List Expr):Option EF:=match c.ext x es with
 |some f=>some f
 |none=>Ig rE c x es
noncomputable def isTup:Expr->Bool
 |.Tuple _ _ _=>true
 |_=>false
noncomputable def Ds(c:Ctx)(es:List Expr):Option IF:=match es with
 |[]=>none
 |e::r=>match r with
  |[]=>(rE c e).map pA
  |_::_=>none
noncomputable def HB(c:Ctx)(tg:Expr):Expr->Option IF
 |.Call (.Name x p) es [] pos=>if x = "zip" /\ c.names.lookup x=some .globalImplicit/\x∈c.blt/\es.all mV=true/\es≠[]/\isTup tg=true then(lU rE c es).map qI else if x = "enumerate" /\ c.names.lookup x=some .globalImplicit/\x∈c.blt/\es.all mV=true/\isTup tg=true then Ds rE c es else if x = "range" /\ c.names.lookup x=some .globalImplicit/\x∈c.blt/\es.all mV=true then
  match es with
  |[_]=>(lU rE c es).map iY
  |[_,_]=>(lU rE c es).map wC
  |_=>none
  else(rE c (.Call (.Name x p) es [] pos)).map fK
 |e=>(rE c e).map fK
abbrev Ej(c:Ctx)(tg e:Expr):Option IF:=HB rE c tg e
noncomputable def wB(c:Ctx):List Expr->Option TF
 |[]=>some dW
 |[t]=>rT c t
 |_=>none
noncomputable def zM(c:Ctx)(elt:Expr)(g:Comprehension)(scope:Scope):Option EF :=
 if g.is_async=0/\zL c scope=true/\zQ g.iter=true then
  (Ej rE c g.target g.iter).bind λfi=>(yc (Ei c scope.names) g.target).bind λfg=>(wB rT (Ei c scope.names) g.ifs).bind λft=>(rE (Ei c scope.names) elt).map λfe=>eX fi fg ft fe (yh c scope.names)
 else none
noncomputable def o7:List (Str×String×GM):=[("append", "list.append",qe),("extend", "list.extend",yj),("pop", "list.pop",nq),("index", "list.index",ye)]
theorem zm5(hu:X.A.units+64<cLine){m:Str}{p:String×GM}(h:o7.lookup m=some p):Slot "list" m p.1/\typeOf (.builtin p.1)=pure (.type "method_descriptor")/\sH X p.1 (vY X.K p.2):=by
 have hm:=iK h;unfold o7 at hm;simp only[List.mem_cons,xU,or_false,Prod.mk.injEq] at hm;rcases hm with⟨rfl,rfl⟩|⟨rfl,rfl⟩|⟨rfl,rfl⟩|⟨rfl,rfl⟩
 .exact⟨PySem.F.slot_list_append,PySem.F.type_list_append,zld⟩
 .exact⟨PySem.F.slot_list_extend,PySem.F.type_list_extend,zlc⟩
 .exact⟨PySem.F.slot_list_pop,PySem.F.type_list_pop,zrS⟩
 .exact⟨PySem.F.slot_list_index,PySem.F.type_list_index,zm3⟩
noncomputable def HD(c:Ctx)(o:Expr)(m:Str)(apos:Pos)(es:List Expr)(cpos:Pos):Option EF :=
 if es.all mV=true/\es.length<20/\(apos.endLine==cpos.line)=true then
  match o with
  |.Name x p=>match c.mths.lookup m with
   |some (C,n,φ)=>match es with
    |[]=>(rE c (.Name x p)).map λfo=>lV C m n φ fo au
    |e::r=>(rE c (.Name x p)).bind λfo=>(lU rE c (e::r)).map λfa=>lV C m n φ fo fa
   |none=>match o7.lookup m with
   |some (_,g)=>match es with
    |[]=>(rE c (.Name x p)).map λfo=>Du g fo
    |e::r=>(rE c (.Name x p)).bind λfo=>(lU rE c (e::r)).map λfa=>eM g fo fa
   |none=>none
  |_=>none
 else none
noncomputable def Ib(c:Ctx)(e:Expr)(f:Str):Option EF:=match e with
 |.Name x p=>match c.flds.lookup f with
  |some C=>(rE c (.Name x p)).map λfe=>gP C f fe
  |none=>none
 |_=>none
noncomputable def unE(c:Ctx)(op:UnaryOp)(a:Expr):Option EF:=match op with
 |.USub=>(rE c a).map (eU uQ)
 |.Not=>(rE c a).map wZ
 |_=>none
noncomputable def Qq(c:Ctx)(a:Expr)(ops:List CmpOp)(bs:List Expr):Option EF:=match ops with
 |[]=>none
 |op::r=>match r with
  |_::_=>none
  |[]=>match bs with
   |[]=>none
   |b::q=>match q with
    |_::_=>none
    |[]=>if op ≠ .In/\op ≠ .NotIn then(rE c a).bind λfa=>(rE c b).map λfb=>eB (bA op) fa fb else none
noncomputable def Ox(c:Ctx)(a:Expr)(lo hi st:Option Expr):Option EF:=match st with
 |none=>(rE c a).bind λfa=>(Ek rE c lo).bind λfl=>(Ek rE c hi).map λfh=>mz fa fl fh
 |some _=>none
noncomputable def BL(c:Ctx)(a b:Expr):Option EF:=match b with
 |.Slice lo hi st _=>Ox rE c a lo hi st
 |_=>none
noncomputable def Ow(c:Ctx)(a b:Expr):Option EF:=if Ey b=true then(rE c a).bind λfa=>(rE c b).map λfb=>eB aG fa fb else BL rE c a b
noncomputable def Qs(c:Ctx)(f:Expr)(es:List Expr)(ks:List Keyword)(pos:Pos):Option EF:=match ks with
 |[]=>match f with
  |.Name x _=>Ie rE c x es
  |.Attribute o m apos=>HD rE c o m apos es pos
  |_=>none
 |k::r=>match f with
  |.Name x _=>c.kwx x es (k::r)
  |_=>none
noncomputable def lcE(c:Ctx)(elt:Expr)(gs:List Comprehension)(scope:Scope):Option EF:=match gs with
 |[]=>none
 |g::r=>match r with
  |[]=>zM rE rT c elt g scope
  |_::_=>none
noncomputable def tX(c:Ctx)(e:Expr):Option EF:=match e with
 |.Name x _=>nmE c x
 |.Constant k _ _=>QJ k
 |.BinOp a op b _=>(rE c a).bind λfa=>(rE c b).map λfb=>eB (aB op) fa fb
 |.UnaryOp op a _=>unE rE c op a
 |.BoolOp op es _=>Eg rE c op es
 |.Compare a ops bs _=>Qq rE c a ops bs
 |.Tuple es _ _=>(lU rE c es).map (eN bZ)
 |.List es _=>(lU rE c es).map (eN gR)
 |.Subscript a b _=>Ow rE c a b
 |.IfExp t a b _=>(rT c t).bind λft=>(rE c a).bind λfa=>(rE c b).map λfb=>uq ft fa fb
 |.Call f es ks pos=>Qs rE c f es ks pos
 |.Attribute e f _=>Ib rE c e f
 |.ListComp elt gs scope _=>lcE rE rT c elt gs scope
 |_=>none
noncomputable def HS(c:Ctx):Expr->Option TF
 |.UnaryOp .Not a _=>(rT c a).map vm
 |.BoolOp op es _=>Eh rT c op es
 |.Compare a [op] [b] _=>if op ≠ .In/\op ≠ .NotIn then(rE c a).bind λfa=>(rE c b).map λfb=>bK (eB (bA op) fa fb) else none
 |e=>if QT e=true then(rE c e).map kJ else none
end
mutual
def cE:Nat->Ctx->Expr->Option EF
 |0,_,_=>none
 |n+1,c,e=>tX (cE n) (cT n) c e
def cT:Nat->Ctx->Expr->Option TF
 |0,_,_=>none
 |n+1,c,e=>HS (cE n) (cT n) c e
end
def mC(rE:Ctx->Expr->Option EF):Prop:=∀c X e f,f9 c X->rE c e=some f->SE X e f
def xO(rT:Ctx->Expr->Option TF):Prop:=∀c X e f,f9 c X->rT c e=some f->ST X e f
section
variable {rE:Ctx->Expr->Option EF}{rT:Ctx->Expr->Option TF}{c:Ctx}{X:Cx}
theorem n8(hE:mC rE)(ok:f9 c X):∀{es:List Expr} {f:AF},lU rE c es=some f->SA X es f/\es.all mV=true
 |[],f,h=>by cases h;exact⟨zrh,rfl⟩
 |e::r,f,h=>by
  unfold lU at h;split at h
  .rename_i hn;simp only[bC,bf] at h;obtain⟨f1,e1,fr,e2,rfl⟩:=h;obtain⟨i1,i2⟩:=n8 hE ok e2;exact⟨zoQ (hE c X e f1 ok e1) i1 (jU hn r X.env),by rw[lQ,hn,i2];rfl⟩
  .cases h
theorem VR(hE:mC rE)(ok:f9 c X){op:BoolOp}{pos:Pos}:∀{es:List Expr} {f:EF},Eg rE c op es=some f->SE X (.BoolOp op es pos) f
 |[],f,h=>by cases h
 |[a],f,h=>zmI (hE c X a f ok h)
 |a::b::r,f,h=>by
  unfold Eg at h;simp only[bC,bf] at h;obtain⟨f1,e1,fr,e2,rfl⟩:=h;have i:=VR hE ok (pos:=pos) e2;cases op with
  |And=>exact zrg (hE c X a f1 ok e1) i
  |Or=>exact Zk (hE c X a f1 ok e1) i
theorem WD(hT:xO rT)(ok:f9 c X){op:BoolOp}{pos:Pos}:∀{es:List Expr} {f:TF},Eh rT c op es=some f->SW X (.BoolOp op es pos) f
 |[],f,h=>by cases h
 |[a],f,h=>by
  cases op with
  |And=>exact zok (hT c X a f ok h)
  |Or=>exact zqG (hT c X a f ok h)
 |a::b::r,f,h=>by
  unfold Eh at h;simp only[bC,bf] at h;obtain⟨f1,e1,fr,e2,rfl⟩:=h;have i:=WD hT ok (pos:=pos) e2;cases op with
  |And=>exact zqH (hT c X a f1 ok e1) i
  |Or=>exact Zo (hT c X a f1 ok e1) i
theorem V2(hE:mC rE)(ok:f9 c X){e:Option Expr}{f:PF}(h:Ek rE c e=some f):DG X e f:=by
 cases e with
 |none=>cases h;exact zox
 |some e =>
  unfold Ek at h;simp only[bf] at h;obtain⟨f1,e1,rfl⟩:=h;exact zov (hE c X e f1 ok e1)
theorem zmc{p:String×GN}(h:xG.lookup x=some p)(hc:X.calm=true):bootBuiltins x=some (.builtin p.1)/\ir X (.builtin p.1) (jB X.K p.2):=by
 have hm:=iK h;unfold xG at hm;simp only[List.mem_cons,xU,or_false,Prod.mk.injEq] at hm;rcases hm with⟨rfl,rfl⟩|⟨rfl,rfl⟩|⟨rfl,rfl⟩|⟨rfl,rfl⟩|⟨rfl,rfl⟩|⟨rfl,rfl⟩
 .exact⟨by decide +kernel,Zw⟩
 .exact⟨by decide +kernel,Zt⟩
 .exact⟨by decide +kernel,zqi hc⟩
 .exact⟨by decide +kernel,zqj hc⟩
 .exact⟨by decide +kernel,Zv⟩
 .exact⟨by decide +kernel,Zu hc⟩
theorem zmb{p:String×GN}(h:xu.lookup x=some p):bootBuiltins x=some (.type p.1)/\ir X (.type p.1) (jB X.K p.2):=by
 have hm:=iK h;unfold xu at hm;simp only[List.mem_cons,xU,or_false,Prod.mk.injEq] at hm;rcases hm with⟨rfl,rfl⟩|⟨rfl,rfl⟩|⟨rfl,rfl⟩
 .exact⟨by decide +kernel,znz⟩
 .exact⟨by decide +kernel,zqh⟩
 .exact⟨by decide +kernel,Zz⟩
theorem zin(hE:mC rE)(ok:f9 c X)(h:Ig rE c x es=some f):SE X (.Call (.Name x p) es [] pos) f:=by
 unfold Ig at h;split at h
 .cases h
 .rename_i ho;have ho':qg x=false:=by simpa using ho
  split at h
  .rename_i hc;obtain⟨h1,h2,h3⟩:=hc;have hg:Gl X x:=by show X.env.scope.names.lookup x=_;rw[ok.names];exact h1
   cases es with
   |nil=>exact absurd rfl h3
   |cons e r =>
    rw[lQ,dD] at h2;split at h
    .rename_i k φ e1;simp only[bf] at h;obtain⟨fa,e2,rfl⟩:=h;exact zoP hg (ok.fns x k φ e1) (n8 hE ok e2).1 (uR ho') (jU h2.1 r X.env) (vG h2.2 pos X.env)
    split at h
    .rename_i n φ e1;simp only[bf] at h;obtain⟨fa,e2,rfl⟩:=h;exact zsA (ok.mks x n φ e1) hg (n8 hE ok e2).1 (uR ho') (jU h2.1 r X.env) (vG h2.2 pos X.env)
    .split at h
     .rename_i hb;split at h
      .rename_i q g e1;simp only[bf] at h;obtain⟨fa,e2,rfl⟩:=h;obtain⟨b1,b2⟩:=zmc e1 ok.calm;exact zmH b2 hg (ok.blt x hb) b1 (n8 hE ok e2).1 (v8 ho') (uR ho') (jU h2.1 r X.env) (vG h2.2 pos X.env)
      .split at h
       .rename_i q g e1;simp only[bf] at h;obtain⟨fa,e2,rfl⟩:=h;obtain⟨b1,b2⟩:=zmb (X:=X) e1;exact zmG b2 hg (ok.blt x hb) b1 (n8 hE ok e2).1 (v8 ho') (uR ho') (jU h2.1 r X.env) (vG h2.2 pos X.env)
       .cases h
     .cases h;exact zmF
  .cases h
theorem zjX{q:Str}{ap:Pos}(h:HJ params=some (q,ap)):params=zR q ap:=by
 obtain⟨a1,a2,a3,a4,a5,a6,a7⟩:=params;unfold HJ at h;simp only at h;split at h
 .cases h
 .rename_i a r;split at h
  .cases h
  .split at h
   .rename_i hc;obtain⟨h1,h2,h3,h4,h5,h6,h7⟩:=hc;cases h;obtain⟨b1,b2,b3⟩:=a;simp only[List.isEmpty_iff,Option.isNone_iff_eq_none] at h1 h2 h3 h4 h5 h6 h7;subst h1 h2 h3 h4 h5 h6 h7;rfl
   .cases h
theorem Tw{c:Ctx}:∀{cap:List Str} {src:List Nat},rF c cap=some src->cap.length=src.length/\∀(i:Nat) y,cap[i]?=some y->∃j,src[i]?=some j/\c.N[j]?=some y
 |[],src,h=>by cases h;exact⟨rfl,λi y e=>by simp at e⟩
 |y::r,src,h=>by
  unfold rF at h;simp only[bC,bf] at h;obtain⟨i0,e0,l,e1,rfl⟩:=h;obtain⟨h1,h2⟩:=Tw e1;refine⟨by simp[h1],λi z e=>?_⟩;cases i with
  |zero=>simp at e;subst e;exact⟨i0,rfl,vK e0⟩
  |succ i=>simpa using h2 i z (by simpa using e)
theorem zqg(h:y∈xY names):(y,NameKind.free)∈names:=by
 unfold xY at h;obtain⟨z,hz,rfl⟩:=List.mem_map.mp h;obtain⟨h1,h2⟩:=List.mem_filter.mp hz;obtain⟨z1,z2⟩:=z;have:z2=NameKind.free:=by simpa using h2
 subst this;exact h1
theorem zjN(hE:mC rE)(ok:f9 c X)(h:Ie rE c x es=some f):SE X (.Call (.Name x p) es [] pos) f:=by
 unfold Ie at h;split at h
 .rename_i f' ef;cases h;exact ok.ext x es f p pos ef
 .exact zin hE ok h
theorem zil(hE:mC rE)(ok:f9 c X){tg:Expr}{f:IF}(h:HB rE c tg e=some f):SI X tg e f:=by
 have dflt:∀{e:Expr},(rE c e).map fK=some f->SI X tg e f:=λ{e} q=>by simp only[bf] at q;obtain⟨f1,e1,rfl⟩:=q;exact zqX (hE c X e f1 ok e1)
 unfold HB at h;split at h
 .rename_i x p es pos;split at h
  .rename_i hc;obtain⟨rfl,h1,h2,h3,h4,h5⟩:=hc;have hg:Gl X "zip" := by show X.env.scope.names.lookup _=_;rw[ok.names];exact h1
   simp only[bf] at h;obtain⟨fa,e2,rfl⟩:=h;cases es with
   |nil=>exact absurd rfl h4
   |cons e r =>
    rw[lQ,dD] at h3;cases tg with
    |Tuple ts kk tp=>exact zqW hg (ok.blt _ h2) (n8 hE ok e2).1 (jU h3.1 r X.env) (vG h3.2 pos X.env)
    |_=>cases h5
  split at h
  .rename_i hc;obtain⟨rfl,h1,h2,h3,h5⟩:=hc;have hg:Gl X "enumerate" := by show X.env.scope.names.lookup _=_;rw[ok.names];exact h1
   unfold Ds at h;cases es with
   |nil=>cases h
   |cons e r =>
    cases r with
    |cons _ _=>cases h
    |nil =>
     simp only[bf] at h;obtain⟨fe,e2,rfl⟩:=h;rw[lQ,dD] at h3;cases tg with
     |Tuple ts kk tp=>exact zqY hg (ok.blt _ h2) (hE c X _ fe ok e2) (by rw[jU h3.1];rfl)
     |_=>cases h5
  split at h
  .rename_i hc;obtain⟨rfl,h1,h2,h3⟩:=hc;have hg:Gl X "range" := by show X.env.scope.names.lookup _=_;rw[ok.names];exact h1
   split at h
   .rename_i a;simp only[bf] at h;obtain⟨fa,e2,rfl⟩:=h;rw[lQ,dD] at h3;exact zkQ hg (ok.blt _ h2) (n8 hE ok e2).1 (by rw[jU h3.1];rfl)
   .rename_i a b;simp only[bf] at h;obtain⟨fa,e2,rfl⟩:=h;rw[lQ,lQ,dD,dD] at h3;exact zkP hg (ok.blt _ h2) (n8 hE ok e2).1 (by rw[jU h3.1,jU h3.2.1];rfl) (by rw[jU h3.2.1];rfl)
   .cases h
  .exact dflt h
 .exact dflt h
def V1(hE:mC rE)(ok:f9 c X){tg:Expr}{f:IF}(h:Ej rE c tg e=some f):SI X tg e f:=zil hE ok h
theorem zkL(hT:xO rT)(ok:f9 c X){ifs:List Expr}{f:TF}(h:wB rT c ifs=some f):uy X ifs f:=by
 unfold wB at h;split at h
 .cases h;exact zon
 .exact zom (hT c X _ f ok h)
 .cases h
theorem V0(hE:mC rE)(hT:xO rT)(ok:f9 c X){elt:Expr}{g:Comprehension}(h:zM rE rT c elt g scope=some f):
 ∃fi fg ft fe,f=eX fi fg ft fe (yh c scope.names)/\g=⟨g.target,g.iter,g.ifs,0⟩/\qP X scope (tB c scope.names) (yh c scope.names)/\SI X g.target g.iter fi /\
  (∀Y,oV X scope (tB c scope.names) Y->SG Y g.target fg/\uy Y g.ifs ft/\SE Y elt fe)/\∀x,foldedSetIterable g.iter X.env x=pure x:=by
 unfold zM at h;split at h
 .rename_i hc;obtain⟨h1,h2,h3⟩:=hc;simp only[bC,bf] at h;obtain⟨fi,e1,fg,e2,ft,e3,fe,e4,rfl⟩:=h;refine⟨fi,fg,ft,fe,rfl,?_,zqd ok h2,V1 hE ok e1,λY hy=>?_,Vp h3 X.env⟩
  .obtain⟨a,b,d,z⟩:=g;have:z=0:=h1;subst this;rfl
  .have Pa:=znv ok h2 hy;exact⟨Ay Pa e2,zkL hT Pa e3,hE _ Y elt fe Pa e4⟩
 .cases h
theorem Rb(h1:es.all mV=true)(h3:es.length<20):((backTo cpos (starEach es env)).all (λx => !x.1)&&(backToKw cpos (keywordEach [] env)).all (λx=>x.1.isSome)&&decide (es.length+([]:List Keyword).length+(if([]:List Keyword).isEmpty then 0 else 1)<30))=true:=by rw[zmp h1];show(true&&true&&_)=true;rw[dD];exact⟨rfl,decide_eq_true (by simp;omega)⟩
theorem zjM(hE:mC rE)(ok:f9 c X){o:Expr}{m:Str}{apos:Pos}(h:HD rE c o m apos es cpos=some f):SE X (.Call (.Attribute o m apos) es [] cpos) f:=by
 unfold HD at h;split at h
 .rename_i hc;obtain⟨h1,h3,h4⟩:=hc;split at h
  .rename_i x p;split at h
   .rename_i C n φ e1;have R:=ok.mths m C n φ e1;cases es with
    |nil =>
     simp only[bf] at h;obtain⟨fo,e2,rfl⟩:=h;exact zoN R (hE c X _ fo ok e2) rfl h4
    |cons e r =>
     have h1':=h1;rw[lQ,dD] at h1;simp only[bC,bf] at h;obtain⟨fo,e2,fa,e3,rfl⟩:=h;exact zq9 R (hE c X _ fo ok e2) (n8 hE ok e3).1 rfl (Rb h1' h3) h4 (jU h1.1 r X.env) (vG h1.2 cpos X.env)
   split at h
   .rename_i q g e1;obtain⟨m1,m2,m3⟩:=zm5 ok.un e1;cases es with
    |nil =>
     simp only[bf] at h;obtain⟨fo,e2,rfl⟩:=h;exact zra m1 m2 m3 (hE c X _ fo ok e2) rfl h4
    |cons e r =>
     have h1':=h1;rw[lQ,dD] at h1;simp only[bC,bf] at h;obtain⟨fo,e2,fa,e3,rfl⟩:=h;exact Zi m1 m2 m3 (hE c X _ fo ok e2) (n8 hE ok e3).1 rfl (Rb h1' h3) h4 (jU h1.1 r X.env) (vG h1.2 cpos X.env)
   .cases h
  .cases h
 .cases h
theorem zjO(hE:mC rE)(ok:f9 c X){g:Str}(h:Ib rE c e g=some f):SE X (.Attribute e g p) f:=by
 unfold Ib at h;cases e with
 |Name x q =>
  simp only at h;split at h
  .rename_i C e0;obtain⟨fe,e1,rfl⟩:=bf.mp h;exact zre (ok.flds g C e0) (hE c X _ fe ok e1) rfl
  .cases h
 |_=>cases h
theorem zik(hE:mC rE)(hT:xO rT):mC (tX rE rT):=by
 intro c X e f ok h;cases e with
 |Name x p=>exact zjL ok h
 |Constant k a b=>exact zim h
 |BinOp a op b p =>
  obtain⟨fa,e1,h⟩:=bC.mp h;obtain⟨fb,e2,rfl⟩:=bf.mp h;exact Zj (hE c X _ fa ok e1) (hE c X _ fb ok e2)
 |UnaryOp op a p =>
  cases op with
  |USub =>
   obtain⟨fa,e1,rfl⟩:=bf.mp h;exact zq7 (hE c X _ fa ok e1)
  |Not =>
   obtain⟨fa,e1,rfl⟩:=bf.mp h;exact zq5 (hE c X _ fa ok e1)
  |_=>exact nomatch (show(none:Option EF)=some f from h)
 |BoolOp op es p=>exact VR hE ok h
 |Compare a ops bs p =>
  cases ops with
  |nil=>exact nomatch (show(none:Option EF)=some f from h)
  |cons op r =>
   cases r with
   |cons _ _=>exact nomatch (show(none:Option EF)=some f from h)
   |nil =>
    cases bs with
    |nil=>exact nomatch (show(none:Option EF)=some f from h)
    |cons b q =>
     cases q with
     |cons _ _=>exact nomatch (show(none:Option EF)=some f from h)
     |nil =>
      change (if op ≠ .In/\op ≠ .NotIn then(rE c a).bind λfa=>(rE c b).map λfb=>eB (bA op) fa fb else none)=some f at h;by_cases hc:op ≠ .In/\op ≠ .NotIn
      .rw[if_pos hc] at h;obtain⟨fa,e1,h⟩:=bC.mp h;obtain⟨fb,e2,rfl⟩:=bf.mp h;exact zrf ok.un hc.1 hc.2 (hE c X _ fa ok e1) (hE c X _ fb ok e2)
      .rw[if_neg hc] at h;cases h
 |Tuple es a b =>
  obtain⟨fa,e1,rfl⟩:=bf.mp h;exact zq3 (n8 hE ok e1).1
 |List es a =>
  obtain⟨fa,e1,rfl⟩:=bf.mp h;exact zrb (n8 hE ok e1).1
 |Subscript a b p =>
  change (if Ey b=true then(rE c a).bind λfa=>(rE c b).map λfb=>eB aG fa fb else BL rE c a b)=some f at h;by_cases hp:Ey b=true
  .rw[if_pos hp] at h;obtain⟨fa,e1,h⟩:=bC.mp h;obtain⟨fb,e2,rfl⟩:=bf.mp h;exact zsB (zjT hp) (hE c X _ fa ok e1) (hE c X _ fb ok e2)
  .rw[if_neg hp] at h;cases b with
   |Slice lo hi st q =>
    cases st with
    |some _=>exact nomatch (show(none:Option EF)=some f from h)
    |none =>
     obtain⟨fa,e1,h⟩:=bC.mp h;obtain⟨fl,e2,h⟩:=bC.mp h;obtain⟨fh,e3,rfl⟩:=bf.mp h;exact zmE (hE c X _ fa ok e1) (V2 hE ok e2) (V2 hE ok e3)
   |_=>exact nomatch (show(none:Option EF)=some f from h)
 |IfExp t a b p =>
  obtain⟨ft,e0,h⟩:=bC.mp h;obtain⟨fa,e1,h⟩:=bC.mp h;obtain⟨fb,e2,rfl⟩:=bf.mp h;exact zsC (hT c X _ ft ok e0) (hE c X _ fa ok e1) (hE c X _ fb ok e2)
 |Call g es ks pos =>
  cases ks with
  |cons k r =>
   cases g with
   |Name x p=>exact ok.kwx x es (k::r) f p pos h
   |_=>exact nomatch (show(none:Option EF)=some f from h)
  |nil =>
   cases g with
   |Name x p=>exact zjN hE ok h
   |Attribute o m p=>exact zjM hE ok h
   |_=>exact nomatch (show(none:Option EF)=some f from h)
 |ListComp elt gs scope p =>
  cases gs with
  |nil=>exact nomatch (show(none:Option EF)=some f from h)
  |cons g r =>
   cases r with
   |cons _ _=>exact nomatch (show(none:Option EF)=some f from h)
   |nil =>
    obtain⟨fi,fg,ft,fe,rfl,eg,Hr,hi,hY,hfs⟩:=V0 hE hT ok h;rw[eg];exact QZ ok.calm Hr hi hY hfs
 |Attribute e g p=>exact zjO hE ok h
 |_=>exact nomatch (show(none:Option EF)=some f from h)
theorem zij(hE:mC rE)(hT:xO rT):xO (HS rE rT):=by
 intro c X e f ok h;unfold HS at h;split at h
 .simp only[bf] at h;obtain⟨fa,e1,rfl⟩:=h;exact zqJ (hT c X _ fa ok e1)
 .exact PW.pt (WD hT ok h)
 .split at h
  .rename_i hc;simp only[bC,bf] at h;obtain⟨fa,e1,fb,e2,rfl⟩:=h;exact zqK ok.un hc.1 hc.2 (hE c X _ fa ok e1) (hE c X _ fb ok e2)
  .cases h
 .split at h
  .rename_i hp;simp only[bf] at h;obtain⟨fa,e1,rfl⟩:=h;exact zqI (hE c X _ fa ok e1) (zkW hp X.env)
  .cases h
theorem nY:∀n,mC (cE n)/\xO (cT n)
 |0=>⟨λ_ _ _ _ _ h=>by simp[cE] at h,λ_ _ _ _ _ h=>by simp[cT] at h⟩
 |n+1=>by
  obtain⟨h1,h2⟩:=nY n;refine⟨λc X e f ok h=>?_,λc X e f ok h=>?_⟩
  .rw[cE] at h;exact zik h1 h2 c X e f ok h
  .rw[cT] at h;exact zij h1 h2 c X e f ok h
end
noncomputable def u6:SF:=λ_ _=>none
def Uu:SS X st u6:=λ_ _ _ _ _ _ h=>by obtain⟨_,_,_,_,_,_,_,_,hf,_⟩:=h;cases hf
noncomputable def ux(c:Ctx)(x:Str)(e:Expr):Option SF:=match e with
 |.ListComp elt gs scope _=>match gs with
  |[]=>none
  |g::r=>match r with
   |_::_=>none
   |[]=>if x∈c.sts then(lF c.N x).bind λi=>(zM (cE 60) (cT 60) c elt g scope).map λf=>aX f (aH i) else none
 |_=>none
noncomputable def Dv(c:Ctx)(x:Str)(e:Expr):Option SF:=if x∈c.sts then(cE 60 c e).bind λfe=>(lF c.N x).map λi=>aX fe (aH i) else none
noncomputable def Ef(c:Ctx)(o:Expr)(f:Str)(e:Expr):Option SF:=match o with
 |.Name x p=>match c.flds.lookup f with
  |some C=>(cE 60 c e).bind λfe=>(cE 60 c (.Name x p)).map λfo=>oU C f fo fe
  |none=>none
 |_=>none
noncomputable def Ia(c:Ctx)(tg e:Expr):Option SF:=(cE 60 c e).bind λfe=>(yc c tg).map λfg=>aX fe fg
noncomputable def wA:Expr->Bool
 |.ListComp _ _ _ _=>true
 |_=>false
noncomputable def xJ(c:Ctx)(tg e:Expr):Option SF :=
 if yo e=true then
  if Il e=true then match tg with
   |.Attribute o f _=>Ef c o f e
   |tg=>Ia c tg e
  else match tg with
   |.Name x _=>Dv c x e
   |.Tuple _ _ _=>some u6
   |.Attribute o f _=>Ef c o f e
   |_=>none
 else match tg with
  |.Name x _=>ux c x e
  |.Tuple ts k p=>if wA e=true then Ia c (.Tuple ts k p) e else none
  |_=>none
noncomputable def uf(e:Expr):Bool:=match e with
 |.Constant k _ _=>match k with
  |.str _=>true
  |_=>false
 |_=>false
noncomputable def wV(c:Ctx)(e:Expr):Option SF:=if uf e=true then some aQ else if yo e=true then(cE 60 c e).map mY else none
mutual
def cS:Nat->Ctx->Stmt->Option SF
 |0,_,_=>none
 |n+1,c,st=>match st with
  |.Pass _=>some aQ
  |.Break _=>some BR
  |.Continue _=>some o5
  |.Expr e _=>wV c e
  |.Return o _=>match o with
   |none=>some tZ
   |some e=>(cE 60 c e).map bJ
  |.Raise _ _ _=>some u6
  |.Assign Bk e _=>match Bk with
   |[]=>none
   |tg::r=>match r with
    |[]=>xJ c tg e
    |_::_=>none
  |.If t a b _=>(cT 60 c t).bind λft=>(jD n c a).bind λfa=>(jD n c b).map λfb=>dw ft fa fb
  |.While t a o _=>match o with
   |[]=>(cT 60 c t).bind λft=>(jD n c a).map λfa=>jV ft fa
   |_::_=>none
  |.For tg it a o _=>match o with
   |[]=>if zQ it=true then(Ej (cE 60) c tg it).bind λfi=>(yc c tg).bind λfg=>(jD n c a).map λfa=>jM fi fg fa else none
   |_::_=>none
  |_=>none
def jD:Nat->Ctx->List Stmt->Option SF
 |0,_,_=>none
 |_+1,_,[]=>some aQ
 |n+1,c,st::r=>(cS n c st).bind λf=>(jD n c r).map λg=>aC f g
end
theorem zio{c:Ctx}(ok:f9 c X){px:Pos}{f:SF}(h:ux c x e=some f):SS X (.Assign [.Name x px] e spos) f:=by
 have hE:=(nY 60).1;have hT:=(nY 60).2;cases e with
 |ListComp elt gs scope p=>cases gs with
  |nil=>exact nomatch (show(none:Option SF)=some f from h)
  |cons g r=>cases r with
   |cons _ _=>exact nomatch (show(none:Option SF)=some f from h)
   |nil =>
    change (if x∈c.sts then(lF c.N x).bind λi=>(zM (cE 60) (cT 60) c elt g scope).map λf=>aX f (aH i) else none)=some f at h;by_cases hx:x∈c.sts
    .rw[if_pos hx] at h;obtain⟨i,e0,h⟩:=bC.mp h;obtain⟨f1,e1,rfl⟩:=bf.mp h;obtain⟨fi,fg,ft,fe,rfl,eg,Hr,hi,hY,hfs⟩:=V0 hE hT ok e1;obtain⟨s1,s2⟩:=ok.st x hx;have nd:X.N.Nodup:=by rw[ok.N];exact ok.nd
     have sl:X.N[i]?=some x:=by rw[ok.N];exact vK e0
     rw[eg];have key:swapsWith (.ListComp elt [⟨g.target,g.iter,g.ifs,0⟩] scope p) (some (.Name x px)) spos.line X.env=pure (X.env.blockKind==ScopeKind.function&&X.env.kindOf x==some NameKind.local&&px.line==p.line && !(scope.names.any λy=>y.1==x&&(y.2==NameKind.local||y.2==NameKind.cell))):=rfl;cases hb:(X.env.blockKind==ScopeKind.function&&X.env.kindOf x==some NameKind.local&&px.line==p.line && !(scope.names.any λy=>y.1==x&&(y.2==NameKind.local||y.2==NameKind.cell))) with
     |true =>
      rw[hb] at key;rw[dD,dD,dD] at hb;have hk:X.env.kindOf x=some .local:=by simpa using hb.1.1.2
      exact zmr nd sl hk key ok.calm Hr hi hY hfs
     |false =>
      rw[hb] at key;exact Rw nd sl s1 (QZ ok.calm Hr hi hY hfs) key s2
    .rw[if_neg hx] at h;cases h
 |_=>exact nomatch (show(none:Option SF)=some f from h)
theorem Xi{c:Ctx}(ok:f9 c X){o:Expr}{g:Str}{f:SF}(hc:yo e=true)(h:Ef c o g e=some f):SS X (.Assign [.Attribute o g p] e spos) f:=by
 have hE:=(nY 60).1;unfold Ef at h;cases o with
 |Name x q =>
  simp only at h;split at h
  .rename_i C e0;obtain⟨fe,e1,h⟩:=bC.mp h;obtain⟨fo,e2,rfl⟩:=bf.mp h;exact zqP (ok.flds g C e0) (hE c X _ fo ok e2) (hE c X _ fe ok e1) (Aw hc _ _ _)
  .cases h
 |_=>cases h
theorem zjP{c:Ctx}(ok:f9 c X){tg:Expr}{f:SF}(h:xJ c tg e=some f):SS X (.Assign [tg] e spos) f:=by
 have hE:=(nY 60).1;unfold xJ at h;by_cases hc:yo e=true
 .rw[if_pos hc] at h;by_cases ht:Il e=true
  .rw[if_pos ht] at h;cases tg with
   |Attribute o g p=>exact Xi ok hc h
   |Name _ _ =>
    obtain⟨fe,e1,h⟩:=bC.mp h;obtain⟨fg,e2,rfl⟩:=bf.mp h;exact Jl (hE c X _ fe ok e1) (Ay ok e2) (by unfold swapsWithSole;exact Aw hc _ _ _) (zj0 rfl _ _) rfl
   |Tuple _ _ _ =>
    obtain⟨fe,e1,h⟩:=bC.mp h;obtain⟨fg,e2,rfl⟩:=bf.mp h;exact Jl (hE c X _ fe ok e1) (Ay ok e2) (by unfold swapsWithSole;exact Aw hc _ _ _) (zjZ ht _ _ _ _) rfl
   |_ =>
    obtain⟨fe,e1,h⟩:=bC.mp h;obtain⟨fg,e2,h⟩:=bf.mp h;cases e2
  .rw[if_neg ht] at h;cases tg with
   |Name x px =>
    change (if x∈c.sts then(cE 60 c e).bind λfe=>(lF c.N x).map λi=>aX fe (aH i) else none)=some f at h;by_cases hx:x∈c.sts
    .rw[if_pos hx] at h;obtain⟨fe,e1,h⟩:=bC.mp h;obtain⟨i,e2,rfl⟩:=bf.mp h;obtain⟨s1,s2⟩:=ok.st x hx;exact Rw (by rw[ok.N];exact ok.nd) (by rw[ok.N];exact vK e2) s1 (hE c X _ fe ok e1) (Aw hc _ _ _) s2
    .rw[if_neg hx] at h;cases h
   |Tuple ts k0 p =>
    change some u6=some f at h;cases h;exact Uu
   |Attribute o g p=>exact Xi ok hc h
   |_=>exact nomatch (show(none:Option SF)=some f from h)
 .rw[if_neg hc] at h;cases tg with
  |Name x px=>exact zio ok h
  |Tuple ts k0 p =>
   change (if wA e=true then Ia c (.Tuple ts k0 p) e else none)=some f at h;by_cases hl:wA e=true
   .rw[if_pos hl] at h;obtain⟨fe,e1,h⟩:=bC.mp h;obtain⟨fg,e2,rfl⟩:=bf.mp h;cases e with
    |ListComp _ _ _ _=>exact Jl (hE c X _ fe ok e1) (Ay ok e2) rfl rfl rfl
    |_=>cases hl
   .rw[if_neg hl] at h;cases h
  |_=>exact nomatch (show(none:Option SF)=some f from h)
theorem zkM{c:Ctx}(ok:f9 c X){f:SF}(h:wV c e=some f):SS X (.Expr e p) f:=by
 have hE:=(nY 60).1;unfold wV at h;by_cases hd:uf e=true
 .rw[if_pos hd] at h;cases h;cases e with
  |Constant k a b=>cases k with
   |str _=>exact zqQ
   |_=>cases hd
  |_=>cases hd
 .rw[if_neg hd] at h;by_cases hc:yo e=true
  .rw[if_pos hc] at h;obtain⟨fe,e1,rfl⟩:=bf.mp h;exact zot (hE c X _ fe ok e1) (Aw hc _ _ _)
  .rw[if_neg hc] at h;cases h
theorem Gg:∀n c X,f9 c X->PassesOwn (model X.prog X.w) X.A X.env X.xe->(∀st f,cS n c st=some f->SS X st f)/\∀sts f,jD n c sts=some f->uz X sts f
 |0,c,X,ok,hp=>⟨λ_ _ h=>by simp[cS] at h,λ_ _ h=>by simp[jD] at h⟩
 |n+1,c,X,ok,hp=>by
  obtain⟨ih1,ih2⟩:=Gg n c X ok hp;have hE:=(nY 60).1;have hT:=(nY 60).2;refine⟨λst f h=>?_,λsts f h=>?_⟩
  .unfold cS at h;cases st with
   |Pass _=>cases h;exact zos
   |Break _=>cases h;exact zqS
   |Continue _=>cases h;exact zqR
   |Expr e p=>exact zkM ok h
   |Return o p=>cases o with
    |none=>cases h;exact zor
    |some e =>
     obtain⟨fe,e1,rfl⟩:=bf.mp h;exact zqM (hE c X _ fe ok e1)
   |Raise _ _ _=>cases h;exact Uu
   |Assign Bk e p=>cases Bk with
    |nil=>exact nomatch (show(none:Option SF)=some f from h)
    |cons tg r=>cases r with
     |nil=>exact zjP ok h
     |cons _ _=>exact nomatch (show(none:Option SF)=some f from h)
   |If t a b p =>
    obtain⟨ft,e0,h⟩:=bC.mp h;obtain⟨fa,e1,h⟩:=bC.mp h;obtain⟨fb,e2,rfl⟩:=bf.mp h;exact Zn (hT c X _ ft ok e0) (ih2 _ fa e1) (ih2 _ fb e2)
   |While t a o p=>cases o with
    |cons _ _=>exact nomatch (show(none:Option SF)=some f from h)
    |nil =>
     obtain⟨ft,e0,h⟩:=bC.mp h;obtain⟨fa,e1,rfl⟩:=bf.mp h;exact zmq hp (hT c X _ ft ok e0) (ih2 _ fa e1)
   |For tg it a o p=>cases o with
    |cons _ _=>exact nomatch (show(none:Option SF)=some f from h)
    |nil =>
     change (if zQ it=true then(Ej (cE 60) c tg it).bind λfi=>(yc c tg).bind λfg=>(jD n c a).map λfa=>jM fi fg fa else none)=some f at h;by_cases hn:zQ it=true
     .rw[if_pos hn] at h;obtain⟨fi,e0,h⟩:=bC.mp h;obtain⟨fg,e1,h⟩:=bC.mp h;obtain⟨fa,e2,rfl⟩:=bf.mp h;exact zqO hp ok.calm (V1 hE ok e0) (Ay ok e1) (ih2 _ fa e2) (Vp hn X.env)
     .rw[if_neg hn] at h;cases h
   |_=>exact nomatch (show(none:Option SF)=some f from h)
  .cases sts with
   |nil=>rw[jD] at h;cases h;exact zqN
   |cons st r =>
    rw[jD] at h;simp only[bC,bf] at h;obtain⟨f1,e1,g1,e2,rfl⟩:=h;exact zou (ih1 _ f1 e1) (ih2 _ g1 e2)
def FnAt.mono{P:Program}{w:World}{K:FgA}{mg:Str->Option Value}{base:Heap}{j k:Nat}{x:Str}{n:Nat}{φ:GN}(h:FnAt P w K mg base j x n φ)(hjk:j<=k):FnAt P w K mg base k x n φ :=
 let ⟨f,fd,ps,a,b,c,d⟩:=h
 ⟨f,fd,ps,a,b,c,d.mono hjk⟩
noncomputable def iH(names:List (Str×NameKind)):List Str:=(names.filter λy=>y.2 == .local||y.2 == .cell).map (·.1)
noncomputable def mkC(st:Stmt)(fns:List (Str×Nat×GN))(blt:List Str):Ctx:={ N:=iH (b7 st).names,names:=(b7 st).names,sts:=iH (b7 st).names,fns:=fns,blt:=blt }
noncomputable def qb(N:List Str)(ds:List D):Sg:=ds.map some++List.replicate (N.length - ds.length) none
theorem Kv{N:List Str}(r:aK K H α ds vs):bI K H α (qb N ds) (start N vs):=by
 have hl:=r.length;refine⟨by simp[qb,L2.start,hl],λi d e=>?_⟩;have hi:i<ds.length:=by
  unfold qb at e;by_cases hi:i<ds.length
  .exact hi
  .rw[nJ (by simpa using hi),List.getElem?_replicate] at e;split at e<;>cases e
 have ed:ds[i]?=some d:=by
  unfold qb at e;rw[lR (by simpa using hi),fW] at e;cases q:ds[i]? with
  |none=>rw[q] at e;cases e
  |some z=>rw[q] at e;cases e;rfl
 obtain⟨v,h1,h2⟩:=r.get ed;refine⟨v,?_,h2⟩;unfold L2.start;rw[lR (by rw[cY,<-hl];exact hi),fW,h1];rfl
def uH(r:Option (Fl×Sg×So))(z:D)(S S':So):Prop:=∃fl Z' iD,r=some (fl,Z',iD)/\(fl = .rt z\/(fl = .nx/\z = .non))/\S'=iD.take S'.length/\S.length<=S'.length/\D.lo S'.length z=true/\∀o∈S',O.lo S'.length o=true
theorem zjV(hu:∀y∈names,names.lookup y.1=some y.2)(h:x∈iH names):names.lookup x=some .local\/names.lookup x=some .cell:=by
 unfold iH at h;obtain⟨y,hy,rfl⟩:=List.mem_map.mp h;obtain⟨h1,h2⟩:=List.mem_filter.mp hy;rw[lg] at h2;have e:=hu y h1;rcases h2 with q|q
 .exact .inl (by rw[e];congr 1;simpa using q)
 .exact .inr (by rw[e];congr 1;simpa using q)
noncomputable def BJ(K:FgA)(n:Nat):Sp:=λvs H Q _=>∃(a:Addr) (ns:List Int),vs=[.ref a]/\qF K H a (ns.map V.int)/\ns.length<=n/\∀H',Q (.bl true) H'
end MX
end
section
namespace MX
open PySem L2
theorem Gb{nx:Nat->So->Option (Option D)}{g:GF}{t:TF}{fe:EF}{S:So}{xs:List D}(T:Sg->Prop)(p:D->Bool)(h:D->D)(hnx:∀i:Nat,nx i S=some xs[i]?)(hstep:∀d∈xs,∀τ,T τ->∃τ',g d τ S=some (τ',S)/\T τ'/\t τ' S=some (p d,S)/\(p d=true->fe τ' S=some (h d,S))):
 ∀(n i:Nat) (τ:Sg) (acc:List D),T τ->i+n=xs.length->jC nx g t fe n i τ S acc=some (acc++((xs.drop i).filter p).map h,S)
 |0,i,τ,acc,hT,hl=>by unfold jC;rw[hnx,j9 (by omega),List.drop_of_length_le (by omega)];simp
 |n+1,i,τ,acc,hT,hl=>by
  have hi:i<xs.length:=by omega
  unfold jC;rw[hnx,fJ hi,List.drop_eq_getElem_cons hi];obtain⟨τ',h1,h2,h3,h4⟩:=hstep xs[i] (List.getElem_mem hi) τ hT;simp only[h1,cu,h3];cases hp:p xs[i] with
  |false =>
   simp only[Bool.false_eq_true,if_false];rw[Gb T p h hnx hstep n (i+1) τ' acc h2 (by omega),List.filter_cons_of_neg (by simp[hp])]
  |true =>
   simp only[if_true,h4 hp,cu];rw[Gb T p h hnx hstep n (i+1) τ' _ h2 (by omega),List.filter_cons_of_pos hp];simp
theorem q8{nx:Nat->So->Option (Option D)}{g:GF}{f:SF}{xs:List D}(P:Nat->Sg->So->Prop)(hnx:∀(i:Nat) Z S,P i Z S->nx i S=some xs[i]?)(hstep:∀(i:Nat) d Z S,xs[i]?=some d->P i Z S->∃σ1 S1 fl σ2 S2,g d Z S=some (σ1,S1)/\f σ1 S1=some (fl,σ2,S2)/\(fl = .nx\/fl = .ct)/\P (i+1) σ2 S2):
 ∀(n i:Nat) (Z:Sg) (S:So),P i Z S->i+n=xs.length->∃Z' S',jJ nx g f n i Z S=some (.nx,Z',S')/\P xs.length Z' S'
 |0,i,Z,S,hP,hl=>by
  unfold jJ;rw[hnx i Z S hP,j9 (by omega)];have:i=xs.length:=by omega
  subst this;exact⟨Z,S,rfl,hP⟩
 |n+1,i,Z,S,hP,hl=>by
  have hi:i<xs.length:=by omega
  unfold jJ;rw[hnx i Z S hP,fJ hi];obtain⟨σ1,S1,fl,σ2,S2,h1,h2,h3,h4⟩:=hstep i xs[i] Z S (fJ hi) hP;obtain⟨Z',S',e1,e2⟩:=q8 P hnx hstep n (i+1) σ2 S2 h4 (by omega);refine⟨Z',S',?_,e2⟩;simp only[h1,cu,h2];rcases h3 with rfl|rfl<;>exact e1
def KC(ns:List Int):mW (ns.map D.int)=some ns:=by
 induction ns with
 |nil=>rfl
 |cons n r ih=>simp[mW,ih]
end MX
end
section
namespace MX
open PySem PySem.Spec PyProof.Rows L2
noncomputable def oA(n:Nat)(ds:List D):Sg:=ds.map some++List.replicate (n - ds.length) none
open Classical in
noncomputable def fnOf(n:Nat)(fb:SF):GN:=λds S=>match fb (oA n ds) S with
 |some (.rt z,_,iD)=>if iD.take S.length=S/\D.lo S.length z=true then some (z,S) else if S.length<=iD.length/\D.lo iD.length z=true/\WF iD then some (z,iD) else none
 |some (.nx,_,iD)=>if iD.take S.length=S then some (.non,S) else if S.length<=iD.length/\WF iD then some (.non,iD) else none
 |_=>none
theorem Gp{N:List Str}{n:Nat}(hn:N.length=n){z:D}(hS:WF S)(h:fnOf n fb ds S=some (z,S')):uH (fb (qb N ds) S) z S S':=by
 have e0:qb N ds=oA n ds:=by unfold qb oA;rw[hn]
 rw[e0];unfold fnOf at h;split at h
 .rename_i z' Z' iD e;split at h
  .rename_i hc;cases h;exact⟨_,_,_,e,.inl rfl,hc.1.symm,bH _,hc.2,hS⟩
  .split at h
   .rename_i hc;cases h;exact⟨_,_,_,e,.inl rfl,by simp,hc.1,hc.2.1,hc.2.2⟩
   .cases h
 .rename_i Z' iD e;split at h
  .rename_i hc;cases h;exact⟨_,_,_,e,.inr ⟨rfl,rfl⟩,hc.symm,bH _,by simp[D.lo],hS⟩
  .split at h
   .rename_i hc;cases h;exact⟨_,_,_,e,.inr ⟨rfl,rfl⟩,by simp,hc.1,by simp[D.lo],hc.2⟩
   .cases h
 .cases h
theorem cG{n:Nat}{z:D}(h:fb (oA n ds) S=some (.rt z,Z',S'))(hS:S'.take S.length=S)(hz:D.lo S.length z=true):fnOf n fb ds S=some (z,S):=by unfold fnOf;rw[h];simp only;rw[if_pos ⟨hS,hz⟩]
theorem Wk{n:Nat}(h:fb (oA n ds) S=some (.nx,Z',S'))(hS:S'.take S.length=S):fnOf n fb ds S=some (.non,S):=by unfold fnOf;rw[h];simp only;rw[if_pos hS]
theorem nZ{n:Nat}{z:D}(h:fb (oA n ds) S=some (.rt z,Z',S'))(hne:¬(S'.take S.length=S/\D.lo S.length z=true))(hl:S.length<=S'.length)(hz:D.lo S'.length z=true)(hw:WF S'):fnOf n fb ds S=some (z,S'):=by unfold fnOf;rw[h];simp only;rw[if_neg hne,if_pos ⟨hl,hz,hw⟩]
def fB(K:FgA)(x:Str)(st:Stmt):Prop:=∃f fd,PySem.W.nsIn K mainGlobals x=some (some (.ref f))/\pN K x x st f fd
def fB.mk'{f:Addr}{oc:Value}{od an:Option Addr}{osl:Array (Option Value)}{kV doc pm cdv ct:Value}(a:PySem.W.nsIn K mainGlobals x=some (some (.ref f)))(l:K.lookup f=some ⟨oc,od,.func (PySem.W.fnOf x x (mU st) (iQ st) (b7 st) .none kV doc pm an cdv ct),osl⟩)(c:PySem.W.codeIn K cdv x=true)(k:PySem.W.keepIn K (.ref f)=true):fB K x st:=⟨f,_,a,Rc l c k⟩
def cJ(P:Program)(w:World)(K:FgA)(mg:Str->Option Value)(base:Heap)(k:Nat)(fns:List (Str×Nat×GN)):Prop:=∀y n ψ,fns.lookup y=some (n,ψ)->FnAt P w K mg base k y n ψ
section
variable {P:Program}{w:World}{K:FgA}{mg:Str->Option Value}{base h:Heap}
def cJ.nil:cJ P w K mg base k []:=λ_ _ _ e=>by cases e
theorem cJ.snoc{n:Nat}{φ:GN}(hs:cJ P w K mg base k fns)(h:FnAt P w K mg base (k+1) x n φ):cJ P w K mg base (k+1) ((x,n,φ)::fns):=λy m ψ e=>by
 rw[jH] at e;split at e
 .rename_i q;cases e;have:y=x:=by simpa using q
  subst this;exact h
 .exact(hs y m ψ e).mono (Nat.le_succ _)
def pX(x:Str)(st:Stmt)(ps:List Str):Prop:=∀(kV doc pm:Value) (an:Option Addr) (cdv ct:Value) (us:List Value),us.length=ps.length->bindArgs (PySem.W.fnOf x x (mU st) (iQ st) (b7 st) .none kV doc pm an cdv ct) ⟨us,[]⟩=pure (ps.zip us)
theorem wg{us:List Value}{n:Nat}(h:us.length=n+1):∃a r,us=a::r/\r.length=n:=by
 cases us with
 |nil=>simp at h
 |cons a r=>exact⟨a,r,rfl,by simpa using h⟩
def all1{P:List Value->Prop}(h:∀a,P [a])(us:List Value)(hl:us.length=1):P us:=by obtain⟨a,rfl⟩:=List.length_eq_one_iff.mp hl;exact h a
theorem all2{P:List Value->Prop}(h:∀a b,P [a,b])(us:List Value)(hl:us.length=2):P us:=by obtain⟨a,r,rfl,e⟩:=wg hl;exact all1 (P:=λr=>P (a::r)) (h a) r e
theorem Dy{P:List Value->Prop}(h:∀a b c,P [a,b,c])(us:List Value)(hl:us.length=3):P us:=by obtain⟨a,r,rfl,e⟩:=wg hl;exact all2 (P:=λr=>P (a::r)) (h a) r e
theorem Dw{P:List Value->Prop}(h:∀a b c d,P [a,b,c,d])(us:List Value)(hl:us.length=4):P us:=by obtain⟨a,r,rfl,e⟩:=wg hl;exact Dy (P:=λr=>P (a::r)) (h a) r e
def zvE{p0:Str}(h:∀(kV doc pm:Value) (an:Option Addr) (cdv ct:Value) (u0:Value),bindArgs (PySem.W.fnOf x x (mU st) (iQ st) (b7 st) .none kV doc pm an cdv ct) ⟨[u0],[]⟩=pure ([p0].zip [u0])):pX x st [p0]:=λkV doc pm an cdv ct=>all1 (h kV doc pm an cdv ct)
def bind2{p0 p1:Str}(h:∀(kV doc pm:Value) (an:Option Addr) (cdv ct:Value) (u0 u1:Value),bindArgs (PySem.W.fnOf x x (mU st) (iQ st) (b7 st) .none kV doc pm an cdv ct) ⟨[u0,u1],[]⟩=pure ([p0,p1].zip [u0,u1])):pX x st [p0,p1]:=λkV doc pm an cdv ct=>all2 (h kV doc pm an cdv ct)
def bind3{p0 p1 p2:Str}(h:∀(kV doc pm:Value) (an:Option Addr) (cdv ct:Value) (u0 u1 u2:Value),bindArgs (PySem.W.fnOf x x (mU st) (iQ st) (b7 st) .none kV doc pm an cdv ct) ⟨[u0,u1,u2],[]⟩=pure ([p0,p1,p2].zip [u0,u1,u2])):pX x st [p0,p1,p2]:=λkV doc pm an cdv ct=>Dy (h kV doc pm an cdv ct)
def bind4{p0 p1 p2 p3:Str}(h:∀(kV doc pm:Value) (an:Option Addr) (cdv ct:Value) (u0 u1 u2 u3:Value),bindArgs (PySem.W.fnOf x x (mU st) (iQ st) (b7 st) .none kV doc pm an cdv ct) ⟨[u0,u1,u2,u3],[]⟩=pure ([p0,p1,p2,p3].zip [u0,u1,u2,u3])):pX x st [p0,p1,p2,p3]:=λkV doc pm an cdv ct=>Dw (h kV doc pm an cdv ct)
def sZ(K:FgA)(x:Str)(st:Stmt)(c:Addr):Prop:=∃f fd,PySem.W.nsIn K mainGlobals x=some (some (.ref f))/\pN K x x st f fd/\fd.code = .ref c
def znD{blt:List Str}(KX:K.In h)(G:h.Ns mainGlobals mg)(hz:∀y∈blt,PySem.W.nsIn K mainGlobals y=some none):∀y∈blt,mg y=none:=λy hy=>PySem.W.mg_none_of KX G (hz y hy)
end
end MX
end
section
namespace MX
open PySem PySem.Spec PySem.W PyProof.Rows L2
theorem Wx:∀(os:List Obj) (b a:Nat) (o:Obj),(qT os b).lookup a=some o->b<=a/\os[a - b]?=some o/\qN a o=true
 |[],_,_,_,e=>by cases e
 |o'::r,b,a,o,e=>by
  have low:(qT r (Nat.succ b)).lookup a=some o->b<=a/\(o'::r)[a - b]?=some o/\qN a o=true:=λe=>by
   obtain⟨h1,h2,h3⟩:=Wx r (Nat.succ b) a o e;refine⟨by omega,?_,h3⟩;have:a - b=(a - Nat.succ b)+1:=by omega
   rw[this,List.getElem?_cons_succ];exact h2
  unfold qT at e;cases q:qN b o' with
  |false=>rw[q] at e;exact low e
  |true =>
   rw[q] at e;simp only[cond_true,jH] at e;cases z:a==b with
   |false=>rw[z] at e;exact low e
   |true =>
    rw[z] at e;cases e;have z':a=b:=by simpa using z
    subst z';exact⟨bH _,by rw[Nat.sub_self];rfl,q⟩
theorem zlK(h:Heap):(jf h).In h:=λa o e=>by obtain⟨_,h2,h3⟩:=Wx _ _ _ _ e;rw[Nat.sub_zero,Array.getElem?_toList] at h2;unfold Heap.get?;rw[h2];obtain⟨c,d,dt,sl⟩:=o;cases dt<;>first|rfl|(exact absurd h3 (by intro z;cases z))
def Iv(s:Stmt):dA s=mU s:=by cases s<;>rfl
def Iw(s:Stmt):dB s=iQ s:=by cases s<;>rfl
def IW(s:Stmt):dS s=b7 s:=by cases s<;>rfl
theorem fB.of_seen(h:zN K x=some (dA st,dB st,dS st,true)):fB K x st:=by
 rw[Iv,Iw,IW] at h;unfold zN at h;split at h
 .rename_i f a;split at h
  .rename_i oc od n q ps b sc g kV doc pm an cd ct bn osl l;simp only[Option.some.injEq,Prod.mk.injEq,dD,beq_iff_eq] at h;obtain⟨e1,e2,e3,e4,e5,e6,e7,e8,e9⟩:=h;have e6:=Nat.eq_of_beq_eq_true e6;have e7:=Nat.eq_of_beq_eq_true e7;subst e1 e2 e3 e4 e5 e6 e7;exact fB.mk' a l e8 e9
  .cases h
 .cases h
theorem zis(D:fB K x st)(e:Ew K h x=(some (tabObj #[]),true)):
 ∃c Pt:Addr,sZ K x st c/\codeHdIn K c Pt=true/\K.lookup Pt=none/\h.get? Pt=some (tabObj #[]):=by
 obtain⟨f,fd,a,F⟩:=D;unfold Ew at e;rw[a] at e;simp only at e;split at e
 .rename_i oc od F' osl l;split at e
  .rename_i c hc;split at e
   .rename_i c1 d1 vs s1 lc;split at e
    .rename_i Pt hv;simp only[Prod.mk.injEq,dD] at e;obtain⟨e1,e2,e3⟩:=e;refine⟨c,Pt,⟨f,fd,a,F,?_⟩,e2,?_,e1⟩
     .obtain⟨oc',od',kV,doc,pm,an,cdv,ct,osl',hfd,hl,_⟩:=F.ex;rw[l] at hl;cases hl;exact hc
     .cases q:K.lookup Pt with
      |none=>rfl
      |some o=>rw[q] at e3;cases e3
    .cases e
   .cases e
  .cases e
 .cases e
end MX
end
section
namespace MX
open PySem PySem.Spec PyProof.Rows L2
structure CE where
 flds:List (Str×Str):=[]
 mths:List (Str×Str×Nat×GN):=[]
 mks:List (Str×Nat×GN):=[]
 gls:List (Str×Str):=[]
noncomputable def DN(P:Program)(w:World)(K:FgA)(mg:Str->Option Value)(base:Heap)(k:Nat)(C m:Str)(n:Nat)(φ:GN):Prop :=
 ∃f fd ps,jZ K (cZ K C)/\Meth K (cZ K C) m f/\Binds K fd ps []/\di P w K mg base iV k f fd ps (sW K n φ)
noncomputable def Qx(P:Program)(w:World)(K:FgA)(mg:Str->Option Value)(base:Heap)(k:Nat)(C:Str)(n:Nat)(φ:GN):Prop :=
 ∃f fd ps j,j+1<=k/\mg C=some (.ref (cZ K C))/\Mk K (cZ K C) f/\Binds K fd ps []/\di P w K mg base iV j f fd ps (sW K n φ)
structure fZ(P:Program)(w:World)(K:FgA)(mg:Str->Option Value)(base:Heap)(k:Nat)(E:CE):Prop where
 flds:∀f C,E.flds.lookup f=some C->jZ K (cZ K C)/\eY K (cZ K C) f
 mths:∀m C n φ,E.mths.lookup m=some (C,n,φ)->DN P w K mg base k C m n φ
 mks:∀C n φ,E.mks.lookup C=some (n,φ)->Qx P w K mg base k C n φ
 gls:∀x y,E.gls.lookup x=some y->∃t,mg x=some (.str y t)
section
variable {P:Program}{w:World}{K:FgA}{mg:Str->Option Value}{base h:Heap}
theorem fZ.mono{j k:Nat}{E:CE}(e:fZ P w K mg base j E)(hjk:j<=k):fZ P w K mg base k E:=⟨e.flds,λm C n φ q=>by
 obtain⟨f,fd,ps,a,b,c,d⟩:=e.mths m C n φ q;exact⟨f,fd,ps,a,b,c,d.mono hjk⟩,λC n φ q=>by
 obtain⟨f,fd,ps,i,hi,a,b,c,d⟩:=e.mks C n φ q;exact⟨f,fd,ps,i,Nat.le_trans hi hjk,a,b,c,d⟩,e.gls⟩
noncomputable def pW(st:Stmt)(fns:List (Str×Nat×GN))(blt:List Str)(E:CE):Ctx:={ mkC st fns blt with flds:=E.flds,mths:=E.mths,mks:=E.mks,gls:=E.gls }
theorem J9{CX:pO}{qual:Str}{f:Addr}{blt:List Str}{E:CE}(S:oW (iH (b7 st).names) ps (b7 st))(hu:(b7 st).names.all (λy=>decide ((b7 st).names.lookup y.1=some y.2))=true)(wF:cJ P w K mg base k fns)(gJ:∀y∈blt,mg y=none)(hE:fZ P w K mg base k E){cdv:Value}{outer:List Env}{E':XK}(hr:bM k (A.deeper (envOfC qual (b7 st) s.heap.objs.size f cdv))):
 f9 (pW st fns blt E) (pP CX P w K mg base (iH (b7 st).names) qual (b7 st) f cdv A outer s H E')/\f9 (pW st fns blt E) (pP CX P w K mg base (iH (b7 st).names) qual (b7 st) f cdv A outer s H E').nox:=by
 constructor
 all_goals
  refine⟨rfl,S.nd,rfl,S.kind,λy hy=>?_,λy n ψ q=>?_,gJ,rfl,hr.units,λ_ _ _ h=>(nomatch h),λ_ _ _ h=>(nomatch h),λ_ _ _ _ _ h=>(nomatch h),λ_ _ _ _ _ _ h=>(nomatch h),hE.gls,λg C q=>⟨(hE.flds g C q).1,(hE.flds g C q).2⟩,λy C n ψ q=>?_,λC n ψ q=>?_⟩
  .rw[List.all_eq_true] at hu;exact⟨zjV (λz hz=>of_decide_eq_true (hu z hz)) hy,.inl rfl⟩
  .obtain⟨f',fd',ps',a,b,c,d⟩:=wF y n ψ q;exact⟨f',fd',ps',k,a,b,c,d,hr⟩
  .obtain⟨f',fd',ps',a,b,c,d⟩:=hE.mths y C n ψ q;exact⟨f',fd',ps',k,a,b,c,d,hr⟩
  .obtain⟨f',fd',ps',j,hj,a,b,c,d⟩:=hE.mks C n ψ q;exact⟨f',fd',ps',j,a,b,c,d,hr.mono hj⟩
theorem J4{qual:Str}{f:Addr}{m:Nat}{blt:List Str}{E:CE}{φ:GN}(F:pN K x qual st f fd)(S:oW (iH (b7 st).names) ps (b7 st))(hu:(b7 st).names.all (λy=>decide ((b7 st).names.lookup y.1=some y.2))=true)(wF:∀y n ψ,fns.lookup y=some (n,ψ)->FnAt P w K mg base k y n ψ)(gJ:∀y∈blt,mg y=none)(hE:fZ P w K mg base k E)(hb:jD m (pW st fns blt E) (iQ st)=some fb)(hφ:∀ds S₀ z S',WF S₀->ds.length=ps.length->φ ds S₀=some (z,S')->uH (fb (qb (iH (b7 st).names) ds) S₀) z S₀ S'):
 di P w K mg base iV (k+1) f fd ps (sW K ps.length φ):=by
 refine F.ok S (λvs H Q E h=>h.1) (λcdv A outer s H vs Q E' hr h=>?_);obtain⟨hlen,S₀,α,ds,z,S',hs,r,e,kk⟩:=h;have ok:=(J9 (CX:=iV) (P:=P) (w:=w) (qual:=qual) (f:=f) (cdv:=cdv) (outer:=outer) (H:=H) (E':=E') S hu wF gJ hE hr).2;refine⟨Ca K fb,(Gg m _ _ ok PassesOwn.never).2 _ fb hb,?_⟩;obtain⟨fl,Z',iD,e1,e2,e3,e4,e5,e6⟩:=hφ ds S₀ z S' hs.wf (by rw[r.length];exact hlen) e;refine⟨_,S₀,α,fl,Z',iD,Kv r,hs,e1,λσ2 H2 α2 v2 s2 x2=>?_⟩;have s3:aA K H2 (α2.take S'.length) S':=by have:=s2.cut S'.length (by rw[<-e3];exact e6);rw[<-e3] at this;exact this
 have x3:Ext K H α H2 (α2.take S'.length):=⟨x2.tups,λn a q=>by
  have hn:n<S'.length:=by have:=(fC.mp q).1;rw[hs.len] at this;omega
  rw[List.getElem?_take_of_lt hn];exact x2.pre n a q,x2.insts⟩
 rcases e2 with rfl|⟨rfl,rfl⟩
 .exact λv rv=>kk v H2 _ s3 x3 (rv.cut _ e5)
 .exact kk .non H2 _ s3 x3 .non
def gZ(K:FgA)(C m:Str)(st:Stmt):Prop:=∃f fd,Meth K (cZ K C) m f/\pN K m (C ++ "." ++ m) st f fd
def Ea(C m:Str)(st:Stmt)(ps:List Str):Prop:=∀(kV doc pm:Value) (an:Option Addr) (cdv ct:Value) (us:List Value),us.length=ps.length->bindArgs (PySem.W.fnOf m (C ++ "." ++ m) (mU st) (iQ st) (b7 st) .none kV doc pm an cdv ct) ⟨us,[]⟩=pure (ps.zip us)
theorem znn{m n:Nat}{blt:List Str}{E:CE}(hs:cJ P w K mg base k fns)(hE:fZ P w K mg base k E)(KX:K.In h)(G:h.Ns mainGlobals mg)(gJ:∀y∈blt,mg y=none)(hD:fB K x st)(hb0:pX x st ps)(S:oW (iH (b7 st).names) ps (b7 st))(hu:(b7 st).names.all (λy=>decide ((b7 st).names.lookup y.1=some y.2))=true)(hn:(iH (b7 st).names).length=n)(hb:jD m (pW st fns blt E) (iQ st)=some fb):cJ P w K mg base (k+1) ((x,ps.length,fnOf n fb)::fns):=by obtain⟨f,fd,a,F⟩:=hD;exact hs.snoc ⟨f,fd,ps,PySem.W.mg_of KX G a,F.kp,F.binds hb0,J4 F S hu hs gJ hE hb λds S₀ z S' hw _ e=>Gp hn hw e⟩
theorem KH{C:Str}{m n:Nat}{blt:List Str}{E:CE}(hs:cJ P w K mg base k fns)(hE:fZ P w K mg base k E)(hc:jZ K (cZ K C))(gJ:∀y∈blt,mg y=none)(hD:gZ K C x st)(hb0:Ea C x st ps)(S:oW (iH (b7 st).names) ps (b7 st))(hu:(b7 st).names.all (λy=>decide ((b7 st).names.lookup y.1=some y.2))=true)(hn:(iH (b7 st).names).length=n)(hb:jD m (pW st fns blt E) (iQ st)=some fb):fZ P w K mg base (k+1) { E with mths:=(x,C,ps.length,fnOf n fb)::E.mths }:=by
 obtain⟨f,fd,a,F⟩:=hD;have e2:=hE.mono (Nat.le_succ k);refine⟨e2.flds,λy C' j ψ e=>?_,e2.mks,e2.gls⟩;have e:((x,C,ps.length,fnOf n fb)::E.mths).lookup y=some (C',j,ψ):=e;rw[jH] at e;split at e
 .rename_i q;cases e;have:y=x:=by simpa using q
  subst this;exact⟨f,fd,ps,hc,a,F.binds hb0,J4 F S hu hs gJ hE hb λds S₀ z S' hw _ e=>Gp hn hw e⟩
 .exact e2.mths y C' j ψ e
theorem Ul{C:Str}{m n:Nat}{blt:List Str}{E:CE}(hs:cJ P w K mg base k fns)(hE:fZ P w K mg base k E)(gJ:∀y∈blt,mg y=none)(hm:mg C=some (.ref (cZ K C)))(hD:∃f fd,Mk K (cZ K C) f/\pN K "__init__" (C ++ ".__init__") st f fd)(hb0:∀(kV doc pm:Value) (an:Option Addr) (cdv ct:Value) (us:List Value),us.length=ps.length->bindArgs (PySem.W.fnOf "__init__" (C ++ ".__init__") (mU st) (iQ st) (b7 st) .none kV doc pm an cdv ct) ⟨us,[]⟩=pure (ps.zip us))(S:oW (iH (b7 st).names) ps (b7 st))(hu:(b7 st).names.all (λy=>decide ((b7 st).names.lookup y.1=some y.2))=true)(hn:(iH (b7 st).names).length=n)(hb:jD m (pW st fns blt E) (iQ st)=some fb):fZ P w K mg base (k+2) { E with mks:=(C,ps.length,fnOf n fb)::E.mks }:=by
 obtain⟨f,fd,a,F⟩:=hD;have e2:=hE.mono (Nat.le_add_right k 2);refine⟨e2.flds,e2.mths,λy j ψ e=>?_,e2.gls⟩;have e:((C,ps.length,fnOf n fb)::E.mks).lookup y=some (j,ψ):=e;rw[jH] at e;split at e
 .rename_i q;cases e;have:y=C:=by simpa using q
  subst this;exact⟨f,fd,ps,k+1,bH _,hm,a,F.binds hb0,J4 F S hu hs gJ hE hb λds S₀ z S' hw _ e=>Gp hn hw e⟩
 .exact e2.mks y j ψ e
def cJ.mono{j k:Nat}{fns:List (Str×Nat×GN)}(hs:cJ P w K mg base j fns)(h:j<=k):cJ P w K mg base k fns:=λy n ψ e=>(hs y n ψ e).mono h
end
end MX
end
section
namespace MX
open PySem PySem.Spec PySem.W PyProof.Rows L2
noncomputable def CJ(c:Ctx)(q:Str)(names:List (Str×NameKind)):Ctx:={ N:=q::xY names,names:=names,sts:=[],fns:=[],blt:=[],flds:=c.flds }
noncomputable def Yy(m:Nat)(c:Ctx)(q0:Str)(e value:Expr):Option EF:=match value with
 |.Lambda params body scope _=>match HJ params with
  |none=>none
  |some (q,_)=>if q=q0/\CK c q scope=true then(cE m c e).bind λfe=>(rF c (xY scope.names)).bind λsrc=>(cE m (CJ c q scope.names) body).map λfb=>wY fe src fb else none
 |_=>none
noncomputable def HF:List Expr->List Keyword->Option (Expr×Option Str×Expr)
 |[e],[k]=>if mV e=true then some (e,k.arg,k.value) else none
 |_,_=>none
theorem zjY{v:Expr}{a:Option Str}(h:HF es ks=some (e,a,v)):es=[e]/\mV e=true/\∃kp,ks=[⟨a,v,kp⟩]:=by
 unfold HF at h;split at h
 .rename_i e' k;split at h
  .rename_i hs;obtain⟨a',v',kp⟩:=k;cases h;exact⟨rfl,hs,kp,rfl⟩
  .cases h
 .cases h
noncomputable def Px(m:Nat)(c:Ctx)(q0 x:Str)(es:List Expr)(ks:List Keyword):Option EF:=(HF es ks).bind λr =>
 if c.names.lookup x=some .globalImplicit/\x∈c.blt then
  if x = "max" /\ r.2.1=some "default" then(cE m c r.1).bind λfe=>(cE m c r.2.2).map λfd=>uM fe fd
  else if x = "sorted" /\ r.2.1=some "key" then Yy m c q0 r.1 r.2.2 else none
 else none
section
variable {c:Ctx}{X:Cx}
theorem zmz{m:Nat}{q0:Str}{Pt ct:Addr}(ok:f9 c X)(L:Et X Pt ct)(hr:bM (k+3) X.A)(hbind:∀(ap:Pos) (body:Expr) (scope:Scope) (pm cdv ctv:Value) (clos:List (Str×Addr)) (qual:Str) (u:Value),bindArgs (kla_fn "<lambda>" qual (zR q0 ap) body scope clos pm cdv ctv) ⟨[u],[]⟩=pure [(q0,u)])(h:Px m c q0 x es ks=some f):SE X (.Call (.Name x p) es ks pos) f:=by
 unfold Px at h;rw[bC] at h;obtain⟨⟨e,a,v⟩,e0,h⟩:=h;obtain⟨rfl,hk2,kp,rfl⟩:=zjY e0;dsimp only at h;split at h
 .rename_i hc;obtain⟨h1,h2⟩:=hc;have Y4:X.env.scope.names.lookup x=some .globalImplicit:=by rw[ok.names];exact h1
  split at h
  .rename_i hc;obtain⟨rfl,rfl⟩:=hc;simp only[bC,bf] at h;obtain⟨fe,e1,fd,e2,rfl⟩:=h;exact zq8 ok.calm Y4 (ok.blt _ h2) ((nY m).1 c X e fe ok e1) ((nY m).1 c X v fd ok e2) (by rw[jU hk2];rfl)
  .split at h
   .rename_i hc;obtain⟨rfl,rfl⟩:=hc;unfold Yy at h;cases v with
    |Lambda params body scope bO =>
     simp only at h;split at h
     .cases h
     .rename_i q' ap eo;have eo:=zjX eo;split at h
      .rename_i hc;obtain⟨rfl,h3⟩:=hc;simp only[bC,bf] at h;obtain⟨fe,e1,src,e2,fb,e3,rfl⟩:=h;subst eo;unfold CK at h3;simp only[dD,oK,Bool.not_eq_true',List.all_eq_true] at h3;obtain⟨⟨⟨⟨⟨⟨⟨k1,k2⟩,k3⟩,k4⟩,k5⟩,k6⟩,k7⟩,k8⟩:=h3;obtain⟨s1,s2⟩:=Tw e2;refine Zm (q:=q') (cap:=xY scope.names) (k:=k) L ⟨k1,k2,k3,k4,k5⟩ k6 (λy hy=>zqg hy) (λy hy hf=>?_) (λi y hi=>?_) s1 (zpz _) (λpm cdv ctv clos qual u=>hbind ap body scope pm cdv ctv clos qual u) (λbase M a cdv clos qual A outer s H E hrm=>?_) hr Y4 (ok.blt _ h2) ((nY m).1 c X e fe ok e1) (by rw[jU hk2];rfl)
       .show X.env.scope.names.lookup y.1=_;rw[ok.names];exact k7 y hy hf
       .obtain⟨j,j1,j2⟩:=s2 i y hi;exact⟨j,j1,by rw[ok.N];exact j2⟩
       .exact(nY m).1 (CJ c q' scope.names) _ body fb ⟨rfl,k8,rfl,k1,λy hy=>(nomatch hy),λ_ _ _ h=>(nomatch h),λy hy=>(nomatch hy),rfl,hrm.units,λ_ _ _ h=>(nomatch h),λ_ _ _ h=>(nomatch h),λ_ _ _ _ _ h=>(nomatch h),λ_ _ _ _ _ _ h=>(nomatch h),λ_ _ h=>(nomatch h),λg C q=>⟨(ok.flds g C q).cls,(ok.flds g C q).no⟩,λ_ _ _ _ h=>(nomatch h),λ_ _ _ h=>(nomatch h)⟩ e3
      .cases h
    |_=>cases h
   .cases h
 .cases h
end
noncomputable def O.isT(x:Str):O->Bool
 |.tbl y=>decide (y=x)
 |_=>false
noncomputable def jK(x:Str)(S:So):Bool:=S.any (O.isT x)
theorem zpW(hs:aA K H α S)(h:jK x S=true):∃ps,H (iZ K x)=some (.tbl ps):=by
 unfold jK at h;rw[List.any_eq_true] at h;obtain⟨o,ho,e⟩:=h;obtain⟨n,hn,rfl⟩:=List.mem_iff_getElem.mp ho;have hn':n<α.length:=by rw[hs.len];exact hn
 have ob:=hs.obj n S[n] α[n] (fJ hn) (fJ hn');cases q:S[n] with
 |tbl y =>
  rw[q] at e ob;have e:y=x:=of_decide_eq_true e;subst e;obtain⟨h0,ps,h1⟩:=ob;exact⟨ps,by rw[<-h0];exact h1⟩
 |_=>rw[q] at e;cases e
noncomputable def rO(m:Nat)(st:Stmt)(fns:List (Str×Nat×GN))(blt:List Str)(E:CE)(q0:Str):Ctx:={ pW st fns blt E with kwx:=Px m (pW st fns blt E) q0 }
noncomputable def oR(x:Str)(n:Nat)(fb:SF):GN:=λds S=>if jK x S=true then fnOf n fb ds S else none
section
variable {P:Program}{w:World}{K:FgA}{mg:Str->Option Value}{base h:Heap}
theorem Ue{q0:Str}{m n:Nat}{blt:List Str}{E:CE}(hs:cJ P w K mg base k fns)(hE:fZ P w K mg base k E)(KX:K.In h)(G:h.Ns mainGlobals mg)(gJ:∀y∈blt,mg y=none)(hD:sZ K x st c)(hC:CodeHd base c (iZ K x))(hB:BM base mg)(hb0:pX x st ps)(S:oW (iH (b7 st).names) ps (b7 st))(hu:(b7 st).names.all (λy=>decide ((b7 st).names.lookup y.1=some y.2))=true)(hbind:∀(ap:Pos) (body:Expr) (scope:Scope) (pm cdv ctv:Value) (clos:List (Str×Addr)) (qual:Str) (u:Value),bindArgs (kla_fn "<lambda>" qual (zR q0 ap) body scope clos pm cdv ctv) ⟨[u],[]⟩=pure [(q0,u)])(hn:(iH (b7 st).names).length=n)(hb:jD m (rO m st fns blt E q0) (iQ st)=some fb):cJ P w K mg base (k+4) ((x,ps.length,oR x n fb)::fns):=by
 obtain⟨f,fd,a,F,hcode⟩:=hD;refine(hs.mono (Nat.le_add_right k 3)).snoc ⟨f,fd,ps,PySem.W.mg_of KX G a,F.kp,F.binds hb0,?_⟩;obtain⟨oc,od,kV,doc,pm,an,pJ,ct,osl,rfl,lk,pB⟩:=F.ex;refine Iz lk pB S (λvs H Q E h=>h.1) (λA outer s H vs Q E' hr h=>?_);obtain⟨hlen,S₀,α,ds,z,S',hst,r,e,kk⟩:=h;unfold oR at e;split at e
 .rename_i hT;have ok0:=(J9 (CX:=iV) (P:=P) (w:=w) (K:=K) (mg:=mg) (base:=base) (qual:=x) (f:=f) (E':=E') (outer:=outer) (H:=H) (cdv:=pJ) S hu hs gJ hE (hr.mono (Nat.le_add_right k 3))).2;have L:Et (pP iV P w K mg base (iH (b7 st).names) x (b7 st) f pJ A outer s H E').nox (iZ K x) c:=⟨λ_=>rfl,zpW hst hT,hcode,hC,hB⟩
  have ok:f9 (rO m st fns blt E q0) (pP iV P w K mg base (iH (b7 st).names) x (b7 st) f pJ A outer s H E').nox :=
   ⟨ok0.N,ok0.nd,ok0.names,ok0.kind,ok0.st,ok0.fns,ok0.blt,ok0.calm,ok0.un,ok0.lf,λ_ _ _ h=>(nomatch h),ok0.ext,λy es ks g p pos q=>zmz ok0 L hr hbind q,ok0.gls,ok0.flds,ok0.mths,ok0.mks⟩
  refine⟨Ca K fb,((Gg m _ _ ok PassesOwn.never).2 _ fb hb).nox,?_⟩;obtain⟨fl,Z',iD,e1,e2,e3,e4,e5,e6⟩:=Gp hn hst.wf e;refine⟨_,S₀,α,fl,Z',iD,Kv r,hst,e1,λσ2 H2 α2 v2 s2 x2=>?_⟩;have s3:aA K H2 (α2.take S'.length) S':=by have:=s2.cut S'.length (by rw[<-e3];exact e6);rw[<-e3] at this;exact this
  have x3:Ext K H α H2 (α2.take S'.length):=⟨x2.tups,λn a q=>by
   have hn:n<S'.length:=by have:=(fC.mp q).1;rw[hst.len] at this;omega
   rw[List.getElem?_take_of_lt hn];exact x2.pre n a q,x2.insts⟩
  rcases e2 with rfl|⟨rfl,rfl⟩
  .exact λv rv=>kk v H2 _ s3 x3 (rv.cut _ e5)
  .exact kk .non H2 _ s3 x3 .non
 .cases e
theorem znm(hs:cJ P w K mg base k fns)(KX:K.In h)(G:h.Ns mainGlobals mg)(hD:fB K x st)(hb0:pX x st ps):cJ P w K mg base k ((x,ps.length,λ_ _=>none)::fns):=by
 obtain⟨f,fd,a,F⟩:=hD;intro y n ψ e;rw[jH] at e;split at e
 .rename_i q;cases e;have:y=x:=by simpa using q
  subst this;refine⟨f,fd,ps,PySem.W.mg_of KX G a,F.kp,F.binds hb0,⟨λvs H Q E h=>?_,λA outer s H args us vs Q E _ _ _ _ h=>?_⟩⟩
  .obtain⟨_,S,α,ds,z,S',_,_,e,_⟩:=h;cases e
  .obtain⟨_,S,α,ds,z,S',_,_,e,_⟩:=h;cases e
 .exact hs y n ψ e
end
theorem Xh:∀(os:List Obj) (b a:Nat) (o:Obj),b<=a->os[a - b]?=some o->qN a o=true->(qT os b).lookup a=some o
 |[],_,_,_,_,e,_=>by simp at e
 |o'::r,b,a,o,hb,e,hk=>by
  unfold qT;by_cases hab:a=b
  .subst hab;rw[Nat.sub_self] at e;have:o'=o:=by simpa using e
   subst this;rw[hk];simp[List.lookup]
  .have e':(qT r (Nat.succ b)).lookup a=some o:=by
    refine Xh r (Nat.succ b) a o (by omega) ?_ hk;have:a - b=(a - Nat.succ b)+1:=by omega
    rw[this,List.getElem?_cons_succ] at e;exact e
   cases qN b o' with
   |false=>exact e'
   |true =>
    simp only[cond_true,jH];have:(a==b)=false:=by simpa using hab
    rw[this];exact e'
theorem Wl(e:h.objs.toList[a]?=some o)(hk:qN a o=true):(jf h).lookup a=some o:=Xh _ 0 a o (Nat.zero_le _) (by rw[Nat.sub_zero];exact e) hk
theorem znw{cd:Value}(e:Ih h.objs.toList cd x=true):codeIn (jf h) cd x=true:=by
 unfold Ih at e;split at e
 .rename_i c;split at e
  .rename_i o ho;obtain⟨oc,od,dt,sl⟩:=o;simp only at e;split at e
   .rename_i vs;split at e
    .cases e
    .rename_i hc;have l:(jf h).lookup c=some ⟨oc,od,.fields vs,sl⟩:=Wl ho (by
      unfold qN;cases oc<;>first | rfl | exact absurd rfl hc)
     show(match(jf h).lookup c with|some ⟨_,_,.fields vs,_⟩=>(match vs.toList with|_ :: .str n _::_=>n==x|_=>false)|_=>false)=true;rw[l];exact e
   .cases e
  .cases e
 .cases e
theorem fB.of_seenH(e:Io (jf h) h.objs.toList x=some (dA st,dB st,dS st,true)):fB (jf h) x st:=by
 rw[Iv,Iw,IW] at e;unfold Io at e;split at e
 .rename_i f a;split at e
  .rename_i o ho;obtain⟨oc,od,dt,osl⟩:=o;simp only at e;split at e
   .rename_i n q ps b sc g kV doc pm an cd ct bn;split at e
    .cases e
    .rename_i hc;simp only[Option.some.injEq,Prod.mk.injEq,dD,beq_iff_eq] at e;obtain⟨e1,e2,e3,e4,e5,e6,e7,e8⟩:=e;have e6:=Nat.eq_of_beq_eq_true e6;have e7:=Nat.eq_of_beq_eq_true e7;subst e1 e2 e3 e4 e5 e6 e7;have l:=Wl ho (by
      unfold qN;cases oc<;>first | rfl | exact absurd rfl hc)
     exact fB.mk' a l (znw e8) (by
      show(match(jf h).lookup f with|some ⟨_,_,.func _,_⟩=>true|some ⟨_,_,.cls _,_⟩=>specialIn (jf h) (.ref f) "__call__" == some (some (.builtin "type.__call__"))|_=>false)=true;rw[l])
   .cases e
  .cases e
 .cases e
theorem gZ.of_seen{C m:Str}(h:Ip K C m=some (dA st,dB st,dS st,true)):gZ K C m st:=by
 rw[Iv,Iw,IW] at h;unfold Ip at h;split at h
 .rename_i f a;split at h
  .rename_i oc od n q ps b sc g kV doc pm an cd ct bn osl l;simp only[Option.some.injEq,Prod.mk.injEq,dD,beq_iff_eq] at h;obtain⟨e1,e2,e3,e4,e5,e6,e7,e8,e9,e10⟩:=h;have e6:=Nat.eq_of_beq_eq_true e6;have e7:=Nat.eq_of_beq_eq_true e7;subst e1 e2 e3 e4 e5 e6 e7;exact⟨f,_,⟨a,e10,e9⟩,Rc l e8 e9⟩
  .cases h
 .cases h
theorem zmn{Pt:Addr}(D:sZ K x st c)(e:codeHdIn K c Pt=true):Pt=iZ K x:=by
 obtain⟨f,fd,a,F,hc⟩:=D;obtain⟨oc,od,kV,doc,pm,an,cdv,ct,osl,rfl,l,_⟩:=F.ex;have hc':cdv = .ref c:=hc;subst hc';unfold iZ;rw[a];simp only[l];unfold codeHdIn at e;split at e
 .rename_i od2 vs osl2 hk;simp only[dD] at e;obtain⟨⟨⟨⟨⟨e1,e2⟩,e3⟩,e4⟩,e5⟩,e6⟩:=e;split at e1
  .rename_i P' h11;have hP:P'=Pt:=beq_iff_eq.mp e1;subst hP;show P'=match K.lookup c with|some ⟨_,_,.fields vs,_⟩=>(match(vs[11]?:Option Value) with|some (.ref P)=>P|_=>0)|_=>0
   rw[hk];simp only[h11]
  .cases e1
 .cases e
section
variable {P:Program}{w:World}{K:FgA}{mg:Str->Option Value}{base h:Heap}{C:Str}{fs:List Str}
theorem yK(e:sJ K C fs=true):jZ K (cZ K C)/\makesIn K (cZ K C)=true/\keepIn K (.ref (cZ K C))=true/\nsIn K mainGlobals C=some (some (.ref (cZ K C)))/\∀f∈fs,eY K (cZ K C) f:=by unfold sJ at e;simp only[dD,beq_iff_eq,List.all_eq_true] at e;obtain⟨⟨a,b,c,d⟩,⟨x,y,z⟩,f⟩:=e;exact⟨⟨a,b,c,d⟩,x,y,z,f⟩
def JV(e:sJ K C fs=true):jZ K (cZ K C):=(yK e).1
def S8(KX:K.In h)(G:h.Ns mainGlobals mg)(e:sJ K C fs=true):mg C=some (.ref (cZ K C)):=mg_of KX G (yK e).2.2.2.1
theorem Q0(M:gZ K C "__init__" st)(e:sJ K C fs=true)(hq:C ++ "." ++ "__init__" = C ++ ".__init__"):∃f fd,Mk K (cZ K C) f/\pN K "__init__" (C ++ ".__init__") st f fd:=by obtain⟨f,fd,m,F⟩:=M;rw[hq] at F;exact⟨f,fd,⟨(yK e).2.1,m.at_,m.fn,(yK e).2.2.1⟩,F⟩
theorem zoo(KX:K.In h)(G:h.Ns mainGlobals mg)(e:vV K x y=true):∃t,mg x=some (.str y t):=by
 unfold vV at e;split at e
 .rename_i z t q;have:z=y:=by simpa using e
  subst this;exact⟨t,mg_of KX G q⟩
 .cases e
theorem ZC{fl:List (Str×Str)}{gl:List (Str×Str)}(KX:K.In h)(G:h.Ns mainGlobals mg)(hf:∀y∈fl,∃fs,sJ K y.2 fs=true/\y.1∈fs)(hg:∀y∈gl,vV K y.1 y.2=true):fZ P w K mg base 0 { flds:=fl,gls:=gl } :=
 ⟨λf C e=>by
  obtain⟨fs,h1,h2⟩:=hf _ (iK e);exact⟨(yK h1).1,(yK h1).2.2.2.2 _ h2⟩,λ_ _ _ _ h=>(nomatch h),λ_ _ _ h=>(nomatch h),λx y e=>zoo KX G (hg _ (iK e))⟩
end
theorem zni{l:PySem.W.OpenLaw}{loose:List Str}{d:DefRec}{H:Hook}{N:Nat}(BP:l.wellSaid=true)(left:LeftO l.prog q loose (λ_=>true) H.obs H.val N)(hdef:defOf q l.name=some (d,[]))(hp:l.prog.theDef l.name=some (d.params,d.body,d.scope))(hk:kwWritten? d.params.kwonlyargs d.params.kw_defaults=some [])(ok:(chainsOk q&&opensWell l.prog&&(frees l.row.toRowW&&l.row.within.isEmpty))=true)(hb:l.prog.bare)(hw:l.row.toRowW.promised)(call:PySem.W.WalkO q loose (λ_ _=>True) H.says l.row.toRowW d [] λf vs=>PySem.call f vs):l.Holds:=by
 refine holds_law BP λsaid=>?_;refine holds_open (r:=l.row) (Xt:=λ_=>true) (XP:=λ_ _=>True) left H.of H.keeps ?_ ?_ hdef hp hk ?_ ?_ said ok hb hw call
 .exact λ_ _=>trivial
 .exact λ_ _ _ _ _=>trivial
 .exact λs _=>recFacts_of (R:=[]) rfl
 .show(!l.row.writes||true)=true;exact Bool.or_true _
noncomputable def Eu(K:FgA)(n:Nat)(Ps:List Addr):Sp:=λvs H Q E=>(∀Pt∈Ps,∃ps,H Pt=some (.tbl ps))/\BJ K n vs H Q E
section
variable {P:Program}{w:World}{K:FgA}{mg mb:Str->Option Value}
theorem zj6{fa:Addr}{s₁:Shared}{vs:List Value}{Ps:List Addr}(KX:K.In s₁.heap)(hns:s₁.heap.Ns mainGlobals mg)(hb:s₁.heap.Ns builtinsNs mb)(hbb:∀x:Str,x ≠ "__name__" -> mb x=bootBuiltins x)(hlim:s₁.heap.NoLimit)(hg:s₁.gens=#[])(ha:s₁.heap.get? a=some { cls := .type "list",data := .seq vs.toArray })(hi:IntsAre vs ns)(hl:ns.length<=63)(hr:bM k callerA)(hP:∀Pt∈Ps,s₁.heap.get? Pt=some (tabObj #[]))(hKP:∀Pt∈Ps,K.lookup Pt=none)(C:∀Pt∈Ps,∃c,CodeHd s₁.heap c Pt)(hbm:BM s₁.heap mg)(F:∀base:Heap,Mod K mg base->BM base mg->di P w K mg base iV k fa fd [x] (Eu K 63 Ps))(hbind:∀(s:Shared) (u:Value),BindsTo s fd ⟨[u],[]⟩ [(x,u)]):
 codeAny (model P w) callerA (.call (.ref fa) ⟨[.ref a],[]⟩) (λr s'=>r = .ok (.ret (.bool true))/\OldK s₁.heap s'.heap/\s'.os=s₁.os/\AllBare s'.gens) s₁:=by
 have rv:=U9 hi;have lenV:=hi.length;have hPa:a∉Ps:=λz=>by have:=hP a z;rw[ha] at this;cases this
 have hl':ns.length<=sizeLine:=Nat.le_trans hl (by rw[sizeLine_eq];decide);have core:∀H:Hp,qF K H a (ns.map V.int)->gF P w H s₁.heap->(∀Pt∈Ps,H Pt=some (.tbl #[]))->(∀b,b∉Ps->H b=none\/(b=a/\K.lookup a=none/\∃o xs,H b=some (.frz o (.lst xs)))) ->
  codeAny (model P w) callerA (.call (.ref fa) ⟨[.ref a],[]⟩) (λr s'=>r = .ok (.ret (.bool true))/\OldK s₁.heap s'.heap/\s'.os=s₁.os/\AllBare s'.gens) s₁:=by
  intro H hS hok hT hO;have jE:∀{b:Addr} {o:Obj},s₁.heap.get? b=some o->H b=none->(pQ s₁.heap H).get? b=some o:=λe n=>znh e n;have none_of:∀{b:Addr} {o:Obj},s₁.heap.get? b=some o->o≠tabObj #[]->o≠{ cls := .type "list",data := .seq vs.toArray }->H b=none:=λ{b o} e n1 n2=>by
   by_cases hb:b∈Ps
   .have:=hP b hb;rw[e] at this;cases this;exact absurd rfl n1
   .rcases hO b hb with z|⟨z,_⟩
    .exact z
    .subst z;rw[ha] at e;cases e;exact absurd rfl n2
  have rN:∀{b:Addr} {o:Obj} {es:Array DictEntry} {ep:Nat},s₁.heap.get? b=some o->o.data = .dict es ep->H b=none:=λ{b o es ep} e d =>
   none_of e (λz=>by rw[z] at d;cases d) (λz=>by rw[z] at d;cases d)
  have Pn:∀{b:Addr} {m:Str->Option Value},s₁.heap.Ns b m->(pQ s₁.heap H).Ns b m:=λ{b m} ⟨o,es,ep,e,d,r⟩=>⟨o,es,ep,jE e (rN e d),d,r⟩
  have hKb:K.In (pQ s₁.heap H):=λb o e=>jE (KX b o e) (by
   by_cases hb:b∈Ps
   .have:=hKP b hb;rw[e] at this;cases this
   .rcases hO b hb with z|⟨z,z2,_⟩
    .exact z
    .subst z;rw[z2] at e;cases e)
  have hM:Mod K mg (pQ s₁.heap H):=⟨hKb,Pn hns,⟨mb,Pn hb,hbb⟩,let ⟨mc,h1,h2⟩:=hlim;⟨mc,Pn h1,h2⟩⟩
  have e0:jG P w K mg (pQ s₁.heap H) callerA [] s₁ H:=⟨rfl,hM,λb o e=>zpB e,Nat.le_of_eq (zlB _ _),trivial,λb hb=>absurd (show b∈([]:List Addr) from hb) (by simp),hok,.of_eq hg⟩
  have hB:BM (pQ s₁.heap H) mg:=by obtain⟨bm,o,h1,h2,h3,h4,h5,h6⟩:=hbm;exact⟨bm,o,h1,h2,jE h3 (none_of h3 (λz=>by rw[z] at h4;cases h4) (λz=>by rw[z] at h4;exact absurd (Value.type.inj h4) (by decide))),h4,h5,h6⟩
  have hsp:Eu K 63 Ps [.ref a] H (λv _=>v = .bl true) λ_ _ _=>False:=⟨λPt h=>⟨_,hT Pt h⟩,a,ns,rfl,hS,hl,λ_=>rfl⟩
  refine codeAny_mono ((F _ hM hB).run callerA [] s₁ H ⟨[.ref a],[]⟩ [.ref a] [.ref a] _ _ hr e0 (hbind s₁ (.ref a)) (.cons rfl .nil) hsp) λr s' h=>?_;cases r with
  |error e=>exact h.elim
  |ok fl =>
   cases fl with
   |next=>exact False.elim h
   |brk=>exact False.elim h
   |cont=>exact False.elim h
   |ret u =>
    obtain⟨v,H',os,bare,un,hok',r',q⟩:=h;have q':v = .bl true:=q;subst q';obtain rfl:u=Value.bool true:=r';have kept:∀b o,b∉Ps->s₁.heap.get? b=some o->s'.heap.get? b=some o:=λb o hb e=>by
     rcases hO b hb with z|⟨_,_,ob,xs,z⟩
     .exact un.keep b o e z (by intro z;exact absurd (show b∈([]:List Addr) from z) (by simp)) (by simp)
     .have z2:=un.frzs b ob _ z;obtain⟨e1,_⟩:=hok b _ z;obtain⟨e2,_⟩:=hok' b _ z2;rw[e] at e1;cases e1;exact e2
    have tb:∀Pt∈Ps,∃more,s'.heap.get? Pt=some { cls := .none,data := .fields (#[]++more) }:=λPt h=>by obtain⟨more,hm⟩:=un.tbls Pt _ (hT Pt h);obtain⟨em,_⟩:=hok' Pt _ hm;exact⟨more,em⟩
    refine⟨rfl,⟨λb o e=>?_,λb o e=>?_⟩,os,bare⟩
    .by_cases hb:b∈Ps
     .obtain⟨more,em⟩:=tb b hb;have hp:=hP b hb;rw[hp] at e;cases e;obtain⟨c,hc⟩:=C b hb;exact .inr (.inl ⟨(hc.tab hp).isCodeTable,rfl,#[],more,rfl,em⟩)
     .exact .inl (kept b o hb e)
    .by_cases hb:b∈Ps
     .obtain⟨more,em⟩:=tb b hb;exact⟨_,em⟩
     .exact⟨o,kept b o hb e⟩
 have tV:∀(H:Hp) (Pt:Addr),Pt∈Ps->bT P w H s₁.heap Pt (.tbl #[]):=λH Pt h=>⟨hP Pt h,trivial,λpos cv q=>by simp[codeAmong] at q⟩
 cases hk:K.lookup a with
 |some o =>
  have e:=KX a o hk;rw[ha] at e;cases e;refine core (λb=>if b∈Ps then some (.tbl #[]) else none) (.inr ⟨_,vs.toArray,_,hk,rfl,rfl,rfl,by rw[d9,lenV];exact hl',by simpa using rv⟩) (λb u z=>?_) (λPt h=>if_pos h) (λb hb => .inl (if_neg hb));by_cases hb:b∈Ps
  .have z':=(if_pos hb).symm.trans z;cases z';exact tV _ b hb
  .have z':=(if_neg hb).symm.trans z;cases z'
 |none =>
  refine core (λb=>if b∈Ps then some (.tbl #[]) else if b=a then some (.frz { cls := .type "list",data := .seq vs.toArray } (.lst (ns.map V.int))) else none) (.inl ⟨{ cls := .type "list",data := .seq vs.toArray },(if_neg hPa).trans (if_pos rfl)⟩) (λb u z=>?_) (λPt h=>if_pos h) (λb hb=>?_)
  .by_cases hb:b∈Ps
   .have z':=(if_pos hb).symm.trans z;cases z';exact tV _ b hb
   .have z1:=(if_neg hb).symm.trans z;by_cases hba:b=a
    .have z':=(if_pos hba).symm.trans z1;cases z';subst hba;exact⟨ha,by rw[cY];exact hl',vs,_,rv,ha⟩
    .have z':=(if_neg hba).symm.trans z1;cases z'
  .by_cases hba:b=a
   .exact .inr ⟨hba,hk,_,_,(if_neg hb).trans (if_pos hba)⟩
   .exact .inl ((if_neg hb).trans (if_neg hba))
theorem zop{ys:List Str}(hd:(ys.map (iZ K)).Nodup)(hz:qF K H a (ns.map V.int))(ht:∀Pt∈ys.map (iZ K),∃ps,H Pt=some (.tbl ps)):
 aA K H (a::ys.map (iZ K)) (.frz (ns.map D.int)::ys.map O.tbl):=by
 refine⟨by simp,λi j o o' b h1 h2 w1 w2 h3 h4=>?_,λi o b h1 h2=>?_⟩
 .rcases i with _|i
  .cases h1;cases w1
  .rcases j with _|j
   .cases h2;cases w2
   .rw[List.getElem?_cons_succ] at h3 h4;rw[(List.getElem?_inj (fC.mp h3).1 hd).mp (h3.trans h4.symm)]
 .rcases i with _|i
  .cases h1;cases h2;exact⟨_,hz,Vt ns⟩
  .rw[List.getElem?_cons_succ,fW] at h1 h2;cases q:ys[i]? with
   |none=>rw[q] at h1;cases h1
   |some y =>
    rw[q] at h1 h2;cases h1;cases h2;exact⟨rfl,ht _ (List.mem_map_of_mem (List.mem_of_getElem? q))⟩
end
noncomputable def ztM(xb:FgA->Bool)(ms:List (Str×Str×Stmt))(ds:List (Str×Stmt))(blt:List Str)(ts:List (Str×Stmt)):Hook where
 α:=(List xP×List (Option (Option Value)))×List (xP×(Option Obj×Bool))×(List xP×Bool)
 obs:=λs=>(sV ds blt s,zK (ts.map (·.1)) s,rM xb ms s)
 val:=λ_=>(sX ds blt,Er ts,vQ ms)
 says:=λ_ h=>∃K:FgA,K.In h/\(((∀y∈ds,fB K y.1 y.2)/\∀y∈blt,nsIn K mainGlobals y=some none)/\(∀y∈ms,gZ K y.1 y.2.1 y.2.2)/\xb K=true)/\∀y∈ts,∃c Pt:Addr,sZ K y.1 y.2 c/\codeHdIn K c Pt=true/\K.lookup Pt=none/\h.get? Pt=some (tabObj #[])
 of:=λ_ s e=>⟨jf s.heap,zlK _,⟨⟨λy hy=>fB.of_seenH (List.map_inj_left.mp (Prod.mk.inj (Prod.mk.inj e).1).1 y hy),List.map_inj_left.mp (Prod.mk.inj (Prod.mk.inj e).1).2⟩,
  λy hy=>gZ.of_seen (List.map_inj_left.mp (Prod.mk.inj (Prod.mk.inj (Prod.mk.inj e).2).2).1 y hy),(Prod.mk.inj (Prod.mk.inj (Prod.mk.inj e).2).2).2⟩,λy hy=>by
   have e2:=(Prod.mk.inj (Prod.mk.inj e).2).1;unfold zK Er at e2;rw[List.map_map] at e2;have e3:=List.map_inj_left.mp e2 y hy;exact zis (fB.of_seen (Prod.mk.inj e3).1) (Prod.mk.inj e3).2⟩
 keeps:=λ_ _ _ ⟨K,a,b,c⟩ k=>⟨K,a.keeps k,b,λy hy=>let ⟨c,Pt,z1,z2,z3,z4⟩:=c y hy;⟨c,Pt,z1,z2,z3,k _ _ z4⟩⟩
theorem left5{p:Program}{loose:List Str}{xb:FgA->Bool}{ms:List (Str×Str×Stmt)}{d1 d2:List (Str×Stmt)}{blt:List Str}{ts:List (Str×Stmt)}{N:Nat}(a:LeftO p q loose (λ_=>true) (λ_=>()) (λ_=>()) N)(b1:∀w,(openEnds treeTable p w N).map (sV d1 blt)=some (sX d1 blt))(b2:∀w,(openEnds treeTable p w N).map (sV d2 [])=some (sX d2 []))(c1:∀w,(openEnds treeTable p w N).map (zK (ts.map (·.1)))=some (Er ts))(c2:∀w,(openEnds treeTable p w N).map (rM xb ms)=some (vQ ms)):
 LeftO p q loose (λ_=>true) (ztM xb ms (d1++d2) blt ts).obs (ztM xb ms (d1++d2) blt ts).val N:=by
 intro w;obtain⟨s,e,h1⟩:=bf.mp (a w);obtain⟨s2,e2,h2⟩:=bf.mp (b1 w);obtain⟨s3,e3,h3⟩:=bf.mp (b2 w);obtain⟨s4,e4,h4⟩:=bf.mp (c1 w);obtain⟨s5,e5,h5⟩:=bf.mp (c2 w);rw[e] at e2 e3 e4 e5;cases e2;cases e3;cases e4;cases e5;rw[e];have g1:=(Prod.mk.inj h1).1;have g2:=Prod.mk.inj h2;have g3:=Prod.mk.inj h3;have g:sV (d1++d2) blt s=sX (d1++d2) blt:=by unfold sV sX;rw[mG,mG,g2.1,g3.1,g2.2]
 show some (_,(sV (d1++d2) blt s,zK (ts.map (·.1)) s,rM xb ms s))=_;rw[g1,g,h4,h5];rfl
theorem zjD{xb:FgA->Bool}{ms:List (Str×Str×Stmt)}{l:PySem.W.OpenLaw}{loose:List Str}{XP:(Str->Option Value)->Heap->Prop}{d:DefRec}{ds:List (Str×Stmt)}{blt:List Str}{ts:List (Str×Stmt)}(hn:l.most=some 63)(hdf:d.params.defaults=[])(hr:bM k callerA)(F:∀(w:World) (mg:Str->Option Value) (fa:Addr) (h:Heap) (K:FgA),K.In h->h.Ns mainGlobals mg->mg d.name=some (.ref fa)->(∀y∈ds,fB K y.1 y.2)->(∀y∈blt,nsIn K mainGlobals y=some none)->(∀y∈ms,gZ K y.1 y.2.1 y.2.2)->xb K=true ->
  (∀y∈ts,∃c,sZ K y.1 y.2 c/\∀h:Heap,K.In h->CodeHd h c (iZ K y.1)) ->
  ∃(fd:FuncData),(∀(s:Shared) (u:Value),BindsTo s fd ⟨[u],[]⟩ [(x,u)])/\∀base:Heap,Mod K mg base->BM base mg->di l.prog w K mg base iV k fa fd [x] (Eu K 63 ((ts.map (·.1)).map (iZ K)))):
 PySem.W.WalkO q loose XP (ztM xb ms ds blt ts).says l.row.toRowW d [] (λf vs=>PySem.call f vs):=by
 refine Zh.ziM hn hdf λw s₀ s₁ mg mb fa o pm cd doc a vs ns G Y ho hd hcd hmg hobj hints hlen hg=>?_;obtain⟨K,KX,⟨⟨hD,hB⟩,hM,hX⟩,hT⟩:=Y;have hT':∀y∈ts,∃c,sZ K y.1 y.2 c/\codeHdIn K c (iZ K y.1)=true/\K.lookup (iZ K y.1)=none/\s₁.heap.get? (iZ K y.1)=some (tabObj #[]):=λy hy=>by obtain⟨c,Pt,z1,z2,z3,z4⟩:=hT y hy;have ePt:=zmn z1 z2;subst ePt;exact⟨c,z1,z2,z3,z4⟩
 obtain⟨fd,hb,hF⟩:=F w mg fa _ K KX G.T.g hmg hD hB hM hX λy hy=>by obtain⟨c,z1,z2,_⟩:=hT' y hy;exact⟨c,z1,λh X=>codeHd_of_K X z2⟩
 have hbm:BM s₁.heap mg:=by obtain⟨bm,ob,b1,b2,b3,b4,b5,b6⟩:=G.T.bmain;exact⟨bm,ob,b1,b2,b3,b4,b5,b6⟩
 have at_:∀Pt∈(ts.map (·.1)).map (iZ K),∃y∈ts,Pt=iZ K y.1:=λPt h=>by rw[List.map_map] at h;obtain⟨y,hy,rfl⟩:=List.mem_map.mp h;exact⟨y,hy,rfl⟩
 refine zj6 KX G.T.g G.T.b G.T.builtins G.T.nolimit hg hobj hints hlen hr (λPt h=>?_) (λPt h=>?_) (λPt h=>?_) hbm hF hb
 .obtain⟨y,hy,rfl⟩:=at_ Pt h;obtain⟨c,z1,z2,z3,z4⟩:=hT' y hy;exact z4
 .obtain⟨y,hy,rfl⟩:=at_ Pt h;obtain⟨c,z1,z2,z3,z4⟩:=hT' y hy;exact z3
 .obtain⟨y,hy,rfl⟩:=at_ Pt h;obtain⟨c,z1,z2,z3,z4⟩:=hT' y hy;exact⟨c,codeHd_of_K KX z2⟩
end MX
end
section
namespace MX
open PySem PySem.Spec PySem.W PySem.Calls PyProof.Rows L2
theorem zj7{P:Program}{p:Str}{m n:Nat}{blt:List Str}{E:CE}{fa:Addr}{ys:List Str}(KX:K.In h)(G:h.Ns mainGlobals mg)(gJ:∀y∈blt,mg y=none)(hfa:mg x=some (.ref fa))(hD:fB K x st)(hnd:(ys.map (iZ K)).Nodup)(hb0:pX x st [p])(S:oW (iH (b7 st).names) [p] (b7 st))(hu:(b7 st).names.all (λy=>decide ((b7 st).names.lookup y.1=some y.2))=true)(hn:(iH (b7 st).names).length=n)(hb:jD m (pW st fns blt E) (iQ st)=some fb)(hs:∀base:Heap,Mod K mg base->BM base mg->cJ P w K mg base k fns/\fZ P w K mg base k E)(hφ:∀ns:List Int,ns.length<=63->∃Z' iD,fb (oA n [.ref 0]) (.frz (ns.map D.int)::ys.map O.tbl)=some (.rt (.bl true),Z',iD)):
 ∃(fd:FuncData),(∀(s:Shared) (v:Value),BindsTo s fd ⟨[v],[]⟩ [(p,v)])/\∀base:Heap,Mod K mg base->BM base mg->di P w K mg base iV (k+1) fa fd [p] (Eu K 63 (ys.map (iZ K))):=by
 obtain⟨f,fd,ha,F⟩:=hD;have e:=hfa.symm.trans (PySem.W.mg_of KX G ha);cases e;obtain⟨oc,od,kV,doc,pm,an,pJ,ct,osl,rfl,lk,pB⟩:=F.ex;refine⟨_,λs v => .of_eq (hb0 kV doc pm an pJ ct [v] rfl),λbase M B=>?_⟩;refine Iz lk pB S (λvs H Q E h=>?_) (λA outer s H vs Q E' hr h=>?_)
 .obtain⟨_,a,ns,rfl,_⟩:=h;rfl
 obtain⟨htab,a,ns,rfl,hz,hl,kk⟩:=h;obtain⟨f1,f2⟩:=hs base M B;refine⟨Ca K fb,((Gg m _ _ (J9 (CX:=iV) S hu f1 gJ f2 hr).2 PassesOwn.never).2 _ fb hb).nox,?_⟩;obtain⟨Z',iD,e⟩:=hφ ns hl;have e0:qb (iH (b7 st).names) [D.ref 0]=oA n [D.ref 0]:=by unfold qb oA;rw[hn]
 rw[<-e0] at e;refine⟨_,_,_,_,Z',iD,Kv (K:=K) (α:=a::ys.map (iZ K)) (.cons (.ref rfl) .nil),zop (K:=K) (H:=H) hnd hz htab,e,λσ2 H2 α2 v2 s2 x2 v rv=>?_⟩;cases rv;exact kk H2
end MX
end
end
section
namespace MX.P
open PySem L2 MX
def Wr:SF:=aC (bJ (eX (fK (aj 0)) (aH 0) dW (eB aG (aj 0) (aj 1)) [none,some 1])) aQ
def GD:GN:=fnOf 2 Wr
def Wm:SF:=aC (aX (eX (iY (ak (kq 3) au)) (aH 0) dW (eN pZ (ak (eN (aY 2 GD) (ak (aj 1) (ak (aj 0) au))) au)) [none,some 0]) (aH 1)) (aC (aX (eX (iY (ak (kq 3) au)) (aH 0) dW (eN lC (ak (eN (aY 2 GD) (ak (aj 1) (ak (aj 0) au))) au)) [none,some 0]) (aH 2)) (aC (bJ (eN bZ (ak (eN qR (ak (aj 1) au)) (ak (eN qR (ak (aj 2) au)) au)))) aQ))
def yS:GN:=fnOf 3 Wm
def WW:SF:=aC (bJ (eN uO (ak (eX (qI (ak (aj 0) (ak (aj 1) au))) (iB 2 (cQ (aH 0) (cQ (aH 1) iR))) dW (eB (bA .LtE) (aj 0) (aj 1)) [none,none]) au))) aQ
def Mt:GN:=fnOf 2 WW
def Li:SF:=aC (dw (bK (eB (bA .Eq) (mz (aj 0) nP (lX (kq 1))) (eN bZ (ak (eC (.str "box")) au)))) (aC (bJ (sO (eB (bA .Eq) (eN jq (ak (aj 0) au)) (kq 3)) (eN (aY 2 Mt) (ak (eB aG (aj 0) (kq 1)) (ak (eB aG (aj 0) (kq 2)) au))))) aQ) aQ) (aC (bJ (sO (eB (bA .Eq) (mz (aj 0) nP (lX (kq 1))) (eN bZ (ak (eC (.str "triangle")) au))) (eB (bA .Eq) (eN jq (ak (aj 0) au)) (kq 4)))) aQ)
def yP:GN:=fnOf 1 Li
def Xm:SF:=aC (dw (vm (kJ (eN (aY 1 yP) (ak (aj 0) au)))) (aC u6 aQ) aQ) aQ
def Nt:GN:=fnOf 1 Xm
def Uo:SF:=aC (mY (eN (aY 1 Nt) (ak (aj 0) au))) (aC (bJ (eN (aY 1 yS) (ak (eN qL (ak (mz (aj 0) (lX (kq 1)) nP) au)) au))) aQ)
def vC:GN:=fnOf 1 Uo
def K3:SF:=aC (dw (bK (eB (bA .Eq) (aj 0) (eN gR au))) (aC (bJ (eB (aB .Mult) (aj 1) (kq 7919))) aQ) aQ) (aC (bJ (eB (aB .Add) (eB aG (aj 0) (eB (aB .Mod) (aj 1) (eN jq (ak (aj 0) au)))) (eB (aB .Mult) (eB (aB .FloorDiv) (aj 1) (eN jq (ak (aj 0) au))) (kq 104729)))) aQ)
def tR:GN:=fnOf 2 K3
def LC:SF:=aC (aX (eB (aB .Mod) (eB (aB .Add) (eB (aB .Mult) (aj 0) (kq 6364136223846793005)) (eB (aB .Mult) (eB (aB .Add) (aj 1) (kq 1)) (kq 1442695040888963407))) (kq 340282366920938463463374607431768211507)) (aH 2)) (aC (bJ (eB (aB .Mod) (eB (aB .Mult) (aj 2) (aj 2)) (kq 340282366920938463463374607431768211297))) aQ)
def vN:GN:=fnOf 3 LC
def Xk:SF:=aC (jV (bK (eB (bA .NotEq) (aj 1) (kq 0))) (aC (aX (eB (aB .Mod) (aj 0) (aj 1)) (aH 2)) (aC (aX (aj 1) (aH 0)) (aC (aX (aj 2) (aH 1)) aQ)))) (aC (bJ (eN uN (ak (aj 0) au))) aQ)
def GQ:GN:=fnOf 3 Xk
def Xd:SF:=aC (aX (eN (aY 2 GQ) (ak (eB aG (aj 0) (kq 0)) (ak (eB aG (aj 0) (kq 1)) au))) (aH 1)) (aC (bJ (eN bZ (ak (eB (aB .FloorDiv) (eB aG (aj 0) (kq 0)) (aj 1)) (ak (eB (aB .FloorDiv) (eB aG (aj 0) (kq 1)) (aj 1)) au)))) aQ)
def tQ:GN:=fnOf 2 Xd
def J8:SF:=aC (bJ (eB (bA .Lt) (eB (aB .Mult) (eB aG (aj 0) (kq 0)) (eB aG (aj 1) (kq 1))) (eB (aB .Mult) (eB aG (aj 1) (kq 0)) (eB aG (aj 0) (kq 1))))) aQ
def tM:GN:=fnOf 2 J8
def Lr:SF:=aC (bJ (eN bZ (ak (eB (aB .Sub) (eB aG (aj 1) (kq 0)) (eB aG (aj 0) (kq 0))) (ak (eB (aB .Sub) (eB aG (aj 1) (kq 1)) (eB aG (aj 0) (kq 1))) (ak (eB (aB .Sub) (eB aG (aj 1) (kq 2)) (eB aG (aj 0) (kq 2))) au))))) aQ
def fG:GN:=fnOf 2 Lr
def Iu:SF:=aC (bJ (eB (aB .Add) (eB (aB .Add) (eB (aB .Mult) (eB aG (aj 0) (kq 0)) (eB aG (aj 1) (kq 0))) (eB (aB .Mult) (eB aG (aj 0) (kq 1)) (eB aG (aj 1) (kq 1)))) (eB (aB .Mult) (eB aG (aj 0) (kq 2)) (eB aG (aj 1) (kq 2))))) aQ
def fX:GN:=fnOf 2 Iu
def JD:SF:=aC (bJ (eN bZ (ak (eB (aB .Sub) (eB (aB .Mult) (eB aG (aj 0) (kq 1)) (eB aG (aj 1) (kq 2))) (eB (aB .Mult) (eB aG (aj 0) (kq 2)) (eB aG (aj 1) (kq 1)))) (ak (eB (aB .Sub) (eB (aB .Mult) (eB aG (aj 0) (kq 2)) (eB aG (aj 1) (kq 0))) (eB (aB .Mult) (eB aG (aj 0) (kq 0)) (eB aG (aj 1) (kq 2)))) (ak (eB (aB .Sub) (eB (aB .Mult) (eB aG (aj 0) (kq 0)) (eB aG (aj 1) (kq 1))) (eB (aB .Mult) (eB aG (aj 0) (kq 1)) (eB aG (aj 1) (kq 0)))) au))))) aQ
def jz:GN:=fnOf 2 JD
def Mh:SF:=aC (dw (bK (eB (bA .Gt) (aj 1) (kq 0))) (aC (bJ (eN bZ (ak (eN bZ (ak (eB (aB .Sub) (aj 2) (aj 0)) (ak (aj 1) au))) (ak (eN bZ (ak (eB (aB .Sub) (aj 3) (aj 0)) (ak (aj 1) au))) au)))) aQ) aQ) (aC (bJ (eN bZ (ak (eN bZ (ak (eB (aB .Sub) (aj 0) (aj 3)) (ak (eU uQ (aj 1)) au))) (ak (eN bZ (ak (eB (aB .Sub) (aj 0) (aj 2)) (ak (eU uQ (aj 1)) au))) au)))) aQ)
def Mj:GN:=fnOf 4 Mh
def K6:SF:=aX (eN bZ (ak (kq 0) (ak (kq 1) au))) (aH 2)
def K7:SF:=aX (eC .non) (aH 3)
def Ba:SF:=dw (bK (eB (bA .Eq) (aj 5) (kq 0))) (aC (dw (gB (bK (eB (bA .Lt) (aj 4) (aj 6))) (bK (eB (bA .Gt) (aj 4) (aj 7)))) (aC (bJ (eC .non)) aQ) aQ) (aC o5 aQ)) aQ
def MT:SF:=aX (eN (aY 4 Mj) (ak (aj 4) (ak (aj 5) (ak (aj 6) (ak (aj 7) au))))) (aH 8)
def M4:SF:=dw (kJ (eN (aY 2 tM) (ak (aj 2) (ak (eB aG (aj 8) (kq 0)) au)))) (aC (aX (eB aG (aj 8) (kq 0)) (aH 2)) aQ) aQ
def Mp:SF:=dw (gB (bK (eB (bA .Is) (aj 3) (eC .non))) (kJ (eN (aY 2 tM) (ak (eB aG (aj 8) (kq 1)) (ak (aj 3) au))))) (aC (aX (eB aG (aj 8) (kq 1)) (aH 3)) aQ) aQ
def qp:SF:=aC Ba (aC MT (aC M4 (aC Mp aQ)))
def K8:SF:=jM (qI (ak (eB aG (aj 0) (kq 0)) (ak (eB aG (aj 0) (kq 1)) (ak (eB aG (aj 1) (kq 0)) (ak (eB aG (aj 1) (kq 1)) au))))) (iB 4 (cQ (aH 4) (cQ (aH 5) (cQ (aH 6) (cQ (aH 7) iR))))) qp
def Ar:SF:=dw (kJ (eN (aY 2 tM) (ak (aj 3) (ak (aj 2) au)))) (aC (bJ (eC .non)) aQ) aQ
def WR:SF:=bJ (eN bZ (ak (aj 2) (ak (aj 3) au)))
def Gk:SF:=aC K6 (aC K7 (aC K8 (aC Ar (aC WR aQ))))
def vH:GN:=fnOf 9 Gk
def K5:SF:=aC (aX (eN (aY 2 vH) (ak (aj 0) (ak (aj 1) au))) (aH 2)) (aC (dw (bK (eB (bA .Is) (aj 2) (eC .non))) (aC (bJ (eC .non)) aQ) aQ) (aC (bJ (eN (aY 1 tQ) (ak (eB aG (aj 2) (kq 0)) au))) aQ))
def K9:GN:=fnOf 3 K5
def Lh:SF:=aC (bJ (eN gR (ak (eN bZ (ak (eB aG (aj 0) (kq 0)) (ak (eB aG (aj 0) (kq 1)) au))) (ak (eN bZ (ak (eB aG (aj 0) (kq 1)) (ak (eB aG (aj 0) (kq 2)) au))) (ak (eN bZ (ak (eB aG (aj 0) (kq 2)) (ak (eB aG (aj 0) (kq 0)) au))) au))))) aQ
def vJ:GN:=fnOf 1 Lh
def Gy:SF:=aC (aX (eB aG (aj 0) (kq 1)) (aH 3)) (aC (aX (eN (aY 2 fG) (ak (eB aG (aj 0) (kq 0)) (ak (aj 1) au))) (aH 4)) (aC (dw (bK (eB (bA .NotEq) (eN (aY 2 jz) (ak (aj 4) (ak (aj 3) au))) (eN bZ (ak (kq 0) (ak (kq 0) (ak (kq 0) au)))))) (aC (bJ (eC .non)) aQ) aQ) (aC (aX (eN bZ (ak (eN (aY 2 fX) (ak (aj 4) (ak (aj 3) au))) (ak (eN (aY 2 fX) (ak (eN (aY 2 fG) (ak (eB aG (aj 0) (kq 0)) (ak (aj 2) au))) (ak (aj 3) au))) au))) (aH 5)) (aC (dw (bK (eB (bA .Lt) (eN lC (ak (aj 5) au)) (kq 0))) (aC (bJ (eC .non)) aQ) aQ) (aC (bJ (eN (aY 1 tQ) (ak (eN bZ (ak (eN lC (ak (eN pZ (ak (aj 5) au)) (ak (kq 0) au))) (ak (eN (aY 2 fX) (ak (aj 3) (ak (aj 3) au))) au))) au))) aQ)))))
def Lz:GN:=fnOf 6 Gy
def vM:SF:=aC (aX (eB aG (aj 0) (kq 1)) (aH 3)) (aC (aX (eN (aY 2 fG) (ak (aj 1) (ak (aj 2) au))) (aH 4)) (aC (aX (eN (aY 2 jz) (ak (aj 3) (ak (aj 4) au))) (aH 5)) (aC (dw (bK (eB (bA .Eq) (aj 5) (eN bZ (ak (kq 0) (ak (kq 0) (ak (kq 0) au)))))) (aC (bJ (eN (aY 3 Lz) (ak (aj 0) (ak (aj 1) (ak (aj 2) au))))) aQ) aQ) (aC (aX (eN (aY 2 fG) (ak (eB aG (aj 0) (kq 0)) (ak (aj 1) au))) (aH 6)) (aC (dw (bK (eB (bA .NotEq) (eN (aY 2 fX) (ak (aj 6) (ak (aj 5) au))) (kq 0))) (aC (bJ (eC .non)) aQ) aQ) (aC (aX (eN (aY 2 fX) (ak (aj 5) (ak (aj 5) au))) (aH 7)) (aC (aX (eN (aY 2 fX) (ak (eN (aY 2 jz) (ak (aj 6) (ak (aj 4) au))) (ak (aj 5) au))) (aH 8)) (aC (aX (eN (aY 2 fX) (ak (eN (aY 2 jz) (ak (aj 6) (ak (aj 3) au))) (ak (aj 5) au))) (aH 9)) (aC (dw (gB (bK (eB (bA .Lt) (aj 8) (kq 0))) (gB (bK (eB (bA .Lt) (aj 9) (kq 0))) (bK (eB (bA .Gt) (aj 9) (aj 7))))) (aC (bJ (eC .non)) aQ) aQ) (aC (bJ (eN (aY 1 tQ) (ak (eN bZ (ak (aj 8) (ak (aj 7) au))) au))) aQ))))))))))
def Mi:GN:=fnOf 10 vM
def Xz:SF:=aX (eC .non) (aH 2)
def M5:SF:=aX (eN (aY 3 Mi) (ak (aj 0) (ak (aj 3) (ak (aj 4) au)))) (aH 5)
def rm:SF:=dw (vh (bK (eB (bA .IsNot) (aj 5) (eC .non))) (gB (bK (eB (bA .Is) (aj 2) (eC .non))) (kJ (eN (aY 2 tM) (ak (aj 5) (ak (aj 2) au)))))) (aC (aX (aj 5) (aH 2)) aQ) aQ
def NT:SF:=aC M5 (aC rm aQ)
def Mg:SF:=jM (fK (eN (aY 1 vJ) (ak (aj 1) au))) (iB 2 (cQ (aH 3) (cQ (aH 4) iR))) NT
def XC:SF:=bJ (aj 2)
def Xf:SF:=aC Xz (aC Mg (aC XC aQ))
def yU:GN:=fnOf 6 Xf
def MP:SF:=aC (aX (eX (fK (aj 2)) (aH 0) dW (eN (aY 2 fG) (ak (aj 1) (ak (aj 0) au))) [none,some 0]) (aH 3)) (aC (aX (eX (fK (eN (aY 1 vJ) (ak (aj 3) au))) (iB 2 (cQ (aH 0) (cQ (aH 1) iR))) dW (eN (aY 2 fX) (ak (aj 2) (ak (eN (aY 2 jz) (ak (aj 0) (ak (aj 1) au))) au))) [none,none,some 1]) (aH 4)) (aC (bJ (uo (eB (bA .GtE) (eN pZ (ak (aj 4) au)) (kq 0)) (eB (bA .LtE) (eN lC (ak (aj 4) au)) (kq 0)))) aQ))
def qt:GN:=fnOf 5 MP
def Nf:SF:=aC (dw (kJ (eN (aY 3 qt) (ak (eB aG (aj 0) (kq 0)) (ak (aj 2) (ak (aj 1) au))))) (aC (bJ (eN bZ (ak (kq 0) (ak (kq 1) au)))) aQ) aQ) (aC (bJ (eN (aY 2 yU) (ak (aj 0) (ak (aj 1) au)))) aQ)
def zf:GN:=fnOf 3 Nf
def qm:SF:=aC (aX (eN (aY 2 jz) (ak (eN (aY 2 fG) (ak (eB aG (aj 1) (kq 0)) (ak (eB aG (aj 1) (kq 1)) au))) (ak (eN (aY 2 fG) (ak (eB aG (aj 1) (kq 0)) (ak (eB aG (aj 1) (kq 2)) au))) au))) (aH 2)) (aC (dw (bK (eB (bA .Eq) (aj 2) (eN bZ (ak (kq 0) (ak (kq 0) (ak (kq 0) au)))))) (aC (bJ (eN (aY 2 yU) (ak (aj 0) (ak (aj 1) au)))) aQ) aQ) (aC (aX (eN (aY 2 fX) (ak (eN (aY 2 fG) (ak (eB aG (aj 0) (kq 0)) (ak (eB aG (aj 1) (kq 0)) au))) (ak (aj 2) au))) (aH 3)) (aC (aX (eN (aY 2 fX) (ak (eB aG (aj 0) (kq 1)) (ak (aj 2) au))) (aH 4)) (aC (dw (bK (eB (bA .Eq) (aj 4) (kq 0))) (aC (bJ (uq (bK (eB (bA .Eq) (aj 3) (kq 0))) (eN (aY 3 zf) (ak (aj 0) (ak (aj 1) (ak (aj 2) au)))) (eC .non))) aQ) aQ) (aC (dw (bK (eB (bA .Lt) (aj 4) (kq 0))) (aC (aX (eU uQ (aj 3)) (aH 3)) (aC (aX (eU uQ (aj 4)) (aH 4)) aQ)) aQ) (aC (dw (gB (bK (eB (bA .Lt) (aj 3) (kq 0))) (vm (kJ (eN (aY 3 qt) (ak (eB aG (aj 0) (kq 0)) (ak (eB aG (aj 0) (kq 1)) (ak (aj 1) au))))))) (aC (bJ (eC .non)) aQ) aQ) (aC (bJ (eN (aY 1 tQ) (ak (eN bZ (ak (aj 3) (ak (aj 4) au))) au))) aQ)))))))
def n6:GN:=fnOf 5 qm
def Xn:SF:=aC (dw (bK (eB (bA .Eq) (eB aG (aj 0) (kq 1)) (eN bZ (ak (kq 0) (ak (kq 0) (ak (kq 0) au)))))) (aC u6 aQ) aQ) aQ
def Nu:GN:=fnOf 1 Xn
def KR:SF:=aC (dw (bK (eB (bA .Eq) (eB aG (aj 1) (kq 0)) (eC (.str "box")))) (aC (bJ (eN (aY 2 K9) (ak (aj 0) (ak (mz (aj 1) (lX (kq 1)) nP) au)))) aQ) aQ) (aC (bJ (eN (aY 2 n6) (ak (aj 0) (ak (mz (aj 1) (lX (kq 1)) nP) au)))) aQ)
def Am:GN:=fnOf 2 KR
def LK:SF:=aC (aX (eN uN (ak (aj 0) au)) (aH 2)) (aC (aX (eN uN (ak (aj 1) au)) (aH 3)) (aC (jV (bK (eB (bA .NotEq) (aj 3) (kq 0))) (aC (aX (eB (aB .Sub) (aj 2) (eB (aB .Mult) (eB (aB .FloorDiv) (aj 2) (aj 3)) (aj 3))) (aH 4)) (aC (aX (aj 3) (aH 2)) (aC (aX (aj 4) (aH 3)) aQ)))) (aC (dw (bK (eB (bA .Lt) (aj 1) (kq 0))) (aC (aX (eB (aB .Sub) (kq 0) (aj 2)) (aH 2)) aQ) aQ) (aC (bJ (eN bZ (ak (eB (aB .FloorDiv) (aj 0) (aj 2)) (ak (eB (aB .FloorDiv) (aj 1) (aj 2)) au)))) aQ))))
def LR:GN:=fnOf 5 LK
def Wd:SF:=aC (bJ (eN qR (ak (eX (iY (ak (kq 3) au)) (aH 0) dW (eB (aB .Sub) (eB aG (aj 2) (aj 0)) (eB aG (aj 1) (aj 0))) [none,some 0,some 1]) au))) aQ
def yO:GN:=fnOf 2 Wd
def K4:SF:=aC (bJ (eB (aB .Sub) (eB (aB .Mult) (eB aG (aj 0) (aj 2)) (eB aG (aj 1) (aj 3))) (eB (aB .Mult) (eB aG (aj 0) (aj 3)) (eB aG (aj 1) (aj 2))))) aQ
def yV:GN:=fnOf 4 K4
def zgn:SF:=dw (gB (bK (eB (bA .Lt) (eB aG (aj 0) (aj 4)) (eB (aB .Mult) (eN pZ (ak (eN gR (ak (eB aG (aj 2) (aj 4)) (ak (eB aG (aj 3) (aj 4)) au))) au)) (aj 1)))) (bK (eB (bA .Gt) (eB aG (aj 0) (aj 4)) (eB (aB .Mult) (eN lC (ak (eN gR (ak (eB aG (aj 2) (aj 4)) (ak (eB aG (aj 3) (aj 4)) au))) au)) (aj 1))))) (aC (bJ (eC (.bl false))) aQ) aQ
def zic:SF:=aC zgn aQ
def ziT:SF:=jM (iY (ak (kq 3) au)) (aH 4) zic
def ziS:SF:=aX (eX (iY (ak (kq 3) au)) (aH 0) dW (eB (aB .Sub) (eB aG (aj 2) (aj 0)) (eB (aB .Mult) (eB aG (aj 1) (aj 0)) (aj 3))) [none,some 2,some 0,some 1]) (aH 5)
def ziR:SF:=aX (eN (aY 2 yO) (ak (aj 2) (ak (aj 3) au))) (aH 6)
def ziQ:SF:=bJ (eN uO (ak (eX (iY (ak (kq 3) au)) (aH 0) dW (eB (bA .Eq) (eN (aY 4 yV) (ak (aj 1) (ak (aj 2) (ak (aj 0) (ak (eB (aB .Mod) (eB (aB .Add) (aj 0) (kq 1)) (kq 3)) au))))) (kq 0)) [none,some 5,some 6]) au))
def zme:SF:=aC ziT (aC ziS (aC ziR (aC ziQ aQ)))
def Gn:GN:=fnOf 7 zme
def XS:SF:=aX (aj 2) (iB 3 (cQ (aH 3) (cQ (aH 4) (cQ (aH 5) iR))))
def X3:SF:=aX (eN (aY 2 yO) (ak (aj 3) (ak (aj 4) au))) (aH 6)
def X4:SF:=aX (eN (aY 2 yO) (ak (aj 3) (ak (aj 5) au))) (aH 7)
def X5:SF:=aX (eX (iY (ak (kq 3) au)) (aH 0) dW (eB (aB .Sub) (eB aG (aj 2) (aj 0)) (eB (aB .Mult) (eB aG (aj 1) (aj 0)) (aj 3))) [none,some 3,some 0,some 1]) (aH 8)
def Yp:SF:=aX (eN (aY 4 yV) (ak (aj 6) (ak (aj 7) (ak (aj 9) (ak (aj 10) au))))) (aH 11)
def Yq:SF:=dw (bK (eB (bA .NotEq) (aj 11) (kq 0))) (aC (aX (eN (aY 4 yV) (ak (aj 8) (ak (aj 7) (ak (aj 9) (ak (aj 10) au))))) (aH 12)) (aC (aX (eN (aY 4 yV) (ak (aj 6) (ak (aj 8) (ak (aj 9) (ak (aj 10) au))))) (aH 13)) (aC (dw (bK (eB (bA .Lt) (aj 11) (kq 0))) (aC u6 aQ) aQ) (aC (dw (gB (bK (eB (bA .Lt) (aj 12) (kq 0))) (gB (bK (eB (bA .Lt) (aj 13) (kq 0))) (bK (eB (bA .Gt) (eB (aB .Add) (aj 12) (aj 13)) (eB (aB .Mult) (aj 11) (aj 1)))))) (aC (bJ (eC (.bl false))) aQ) aQ) (aC (aX (eX (iY (ak (kq 3) au)) (aH 0) dW (eB (aB .Add) (eB (aB .Mult) (aj 2) (eB aG (aj 4) (aj 0))) (eB (aB .Mult) (aj 3) (eB aG (aj 1) (aj 0)))) [none,some 7,some 12,some 13,some 6]) (aH 14)) (aC (bJ (eB (bA .Eq) (aj 14) (eX (fK (aj 8)) (aH 0) dW (eB (aB .Mult) (aj 0) (aj 1)) [none,some 11]))) aQ)))))) aQ
def Yt:SF:=aC Yp (aC Yq aQ)
def X6:SF:=jM (fK (eN gR (ak (eN bZ (ak (kq 0) (ak (kq 1) au))) (ak (eN bZ (ak (kq 1) (ak (kq 2) au))) (ak (eN bZ (ak (kq 2) (ak (kq 0) au))) au))))) (iB 2 (cQ (aH 9) (cQ (aH 10) iR))) Yt
def zd7:SF:=bJ (uo (eN (aY 4 Gn) (ak (aj 0) (ak (aj 1) (ak (aj 3) (ak (aj 4) au))))) (uo (eN (aY 4 Gn) (ak (aj 0) (ak (aj 1) (ak (aj 4) (ak (aj 5) au))))) (eN (aY 4 Gn) (ak (aj 0) (ak (aj 1) (ak (aj 5) (ak (aj 3) au)))))))
def Nx:SF:=aC XS (aC X3 (aC X4 (aC X5 (aC X6 (aC zd7 aQ)))))
def M6:GN:=fnOf 15 Nx
def NP:SF:=aC (oU "Tree" "box" (aj 0) (aj 1)) (aC (oU "Tree" "number" (aj 0) (aj 2)) (aC (oU "Tree" "halves" (aj 0) (aj 3)) aQ))
def yZ:GN:=fnOf 4 NP
def Xe:SF:=aC (aX (eX (qI (ak (eB aG (aj 0) (kq 0)) (ak (eB aG (aj 0) (kq 1)) au))) (iB 2 (cQ (aH 0) (cQ (aH 1) iR))) dW (eB (aB .Sub) (aj 1) (aj 0)) [none,none]) (aH 1)) (aC (bJ (eM ye (aj 1) (ak (eN lC (ak (aj 1) au)) au))) aQ)
def Mu:GN:=fnOf 2 Xe
def oh(φ:GN):SF:=aC (dw (bK (eB (bA .Eq) (eN jq (ak (aj 0) au)) (kq 1))) (aC (bJ (eB aG (aj 0) (kq 0))) aQ) aQ) (aC (aX (eN (aY 1 yS) (ak (eB (aB .Add) (eX (fK (aj 0)) (aH 0) dW (eB aG (gP "Tree" "box" (aj 0)) (kq 0)) [none]) (eX (fK (aj 0)) (aH 0) dW (eB aG (gP "Tree" "box" (aj 0)) (kq 1)) [none])) au)) (aH 1)) (aC (aX (eN (aY 1 Mu) (ak (aj 1) au)) (aH 4)) (aC (aX (wY (aj 0) [4] (eB (aB .Add) (eB aG (eB aG (gP "Tree" "box" (aj 0)) (kq 0)) (aj 1)) (eB aG (eB aG (gP "Tree" "box" (aj 0)) (kq 1)) (aj 1)))) (aH 2)) (aC (aX (eB (aB .FloorDiv) (eN jq (ak (aj 2) au)) (kq 2)) (aH 3)) (aC (bJ (pI "Tree" 4 yZ (ak (aj 1) (ak (eC .non) (ak (eN bZ (ak (eN (aY 1 φ) (ak (mz (aj 2) nP (lX (aj 3))) au)) (ak (eN (aY 1 φ) (ak (mz (aj 2) (lX (aj 3)) nP) au)) au))) au))))) aQ)))))
noncomputable def jy:Nat->GN
 |0=>λ_ _=>none
 |k+1=>oR "tree_over" 5 (oh (jy k))
def ziE:GN:=jy 6
def Mq:SF:=aX (eX (pA (aj 0)) (iB 2 (cQ (aH 0) (cQ (aH 1) iR))) dW (pI "Tree" 4 yZ (ak (aj 1) (ak (aj 0) (ak (eN bZ au) au)))) [none,none]) (aH 1)
def Bb:SF:=bJ (uq (bK (eB (bA .Eq) (eN jq (ak (aj 1) au)) (kq 0))) (eC .non) (eN (aY 1 ziE) (ak (aj 1) au)))
def LQ:SF:=aC Mq (aC Bb aQ)
def GJ:GN:=fnOf 2 LQ
def Nk:SF:=aC (oU "Scene" "kept" (aj 0) (eN qL (ak (aj 1) au))) (aC (oU "Scene" "tree" (aj 0) (eN (aY 1 GJ) (ak (eX (fK (gP "Scene" "kept" (aj 0))) (aH 0) dW (eN (aY 1 vC) (ak (aj 0) au)) [none]) au))) aQ)
def GR:GN:=fnOf 2 Nk
def Np:SF:=aX (eN gR au) (aH 2)
def Nq:SF:=aX (uq (bK (eB (bA .Is) (aj 0) (eC .non))) (eN gR au) (eN gR (ak (aj 0) au))) (aH 3)
def Ng:SF:=aX (Du nq (aj 3)) (aH 4)
def zb:SF:=dw (bK (eB (bA .Is) (eN (aY 2 vH) (ak (aj 1) (ak (gP "Tree" "box" (aj 4)) au))) (eC .non))) (aC o5 aQ) aQ
def Bh:SF:=dw (bK (eB (bA .Is) (gP "Tree" "number" (aj 4)) (eC .non))) (aC (mY (eM yj (aj 3) (ak (gP "Tree" "halves" (aj 4)) au))) aQ) (aC (mY (eM qe (aj 2) (ak (gP "Tree" "number" (aj 4)) au))) aQ)
def tO:SF:=aC Ng (aC zb (aC Bh aQ))
def Xl:SF:=jV (bK (eB (bA .Gt) (eN jq (ak (aj 3) au)) (kq 0))) tO
def Nr:SF:=bJ (aj 2)
def XD:SF:=aC Np (aC Nq (aC Xl (aC Nr aQ)))
def GK:GN:=fnOf 5 XD
def Mw:SF:=mY (eN (aY 1 Nu) (ak (aj 1) au))
def Mx:SF:=aX (eN gR au) (aH 2)
def Nv:SF:=aX (eN (aY 2 Am) (ak (aj 1) (ak (eB aG (gP "Scene" "kept" (aj 0)) (aj 3)) au))) (aH 4)
def Bg:SF:=dw (bK (eB (bA .IsNot) (aj 4) (eC .non))) (aC (mY (eM qe (aj 2) (ak (eN bZ (ak (aj 4) (ak (aj 3) au))) au))) aQ) aQ
def yX:SF:=aC Nv (aC Bg aQ)
def Mz:SF:=jM (fK (eN (aY 2 GK) (ak (gP "Scene" "tree" (aj 0)) (ak (aj 1) au)))) (aH 3) yX
def MF:SF:=bJ (aj 2)
def Lk:SF:=aC Mw (aC Mx (aC Mz (aC MF aQ)))
def Az:GN:=fnOf 5 Lk
def V6:SF:=aC (dw (kJ (eN (aY 2 tM) (ak (eB aG (aj 0) (kq 0)) (ak (eB aG (aj 1) (kq 0)) au)))) (aC (bJ (eC (.bl true))) aQ) aQ) (aC (bJ (sO (eB (bA .Eq) (eB aG (aj 0) (kq 0)) (eB aG (aj 1) (kq 0))) (eB (bA .Lt) (eB aG (aj 0) (kq 1)) (eB aG (aj 1) (kq 1))))) aQ)
def Gu:GN:=fnOf 2 V6
def Ml:SF:=aX (eC .non) (aH 2)
def M7:SF:=dw (gB (bK (eB (bA .Is) (aj 2) (eC .non))) (kJ (eN (aY 2 Gu) (ak (aj 3) (ak (aj 2) au))))) (aC (aX (aj 3) (aH 2)) aQ) aQ
def za:SF:=aC M7 aQ
def Ny:SF:=jM (fK (lV "Scene" "hits" 2 Az (aj 0) (ak (aj 1) au))) (aH 3) za
def Nz:SF:=bJ (aj 2)
def MK:SF:=aC Ml (aC Ny (aC Nz aQ))
def Bc:GN:=fnOf 4 MK
def Gv:SF:=aC (aX (uM (eX (fK (aj 0)) (aH 0) dW (eB aG (eB aG (aj 0) (kq 0)) (kq 1)) [none]) (kq 1)) (aH 1)) (aC (aX (eB (aB .Mult) (aj 1) (aj 1)) (aH 2)) (aC (bJ (wY (aj 0) [2] (eN bZ (ak (eB (aB .FloorDiv) (eB (aB .Mult) (eB aG (eB aG (aj 0) (kq 0)) (kq 0)) (aj 1)) (eB aG (eB aG (aj 0) (kq 0)) (kq 1))) (ak (eB aG (aj 0) (kq 1)) au))))) aQ))
def Gx:GN:=oR "in_order" 3 Gv
def GX:SF:=aC (bJ (eN (aY 1 Gx) (ak (lV "Scene" "hits" 2 Az (aj 0) (ak (aj 1) au)) au))) aQ
def Mr:GN:=fnOf 2 GX
def XH:SF:=aX (eN gR au) (aH 3)
def XQ:SF:=aX (eN gR au) (aH 5)
def Yo:SF:=mY (eM qe (aj 5) (ak (eB (aB .Sub) (eB (aB .Mod) (eN (aY 2 vN) (ak (eN (aY 2 tR) (ak (aj 0) (ak (eB (aB .Add) (eB (aB .Mult) (kq 4) (aj 4)) (aj 6)) au))) (ak (eB (aB .Add) (eB (aB .Mult) (kq 4) (aj 4)) (aj 6)) au))) (kq 41)) (kq 20)) au))
def Nb:SF:=aC Yo aQ
def M9:SF:=jM (iY (ak (eB (aB .Add) (aj 1) (kq 1)) au)) (aH 6) Nb
def XR:SF:=mY (eM qe (aj 3) (ak (aj 5) au))
def Nm:SF:=aC XQ (aC M9 (aC XR aQ))
def XJ:SF:=jM (iY (ak (eB (aB .Add) (aj 2) (kq 1)) au)) (aH 4) Nm
def Xj:SF:=bJ (aj 3)
def MN:SF:=aC XH (aC XJ (aC Xj aQ))
def Ms:GN:=fnOf 7 MN
def Lq:SF:=aC (bJ (eN bZ (ak (eB aG (eB aG (aj 0) (aj 2)) (aj 1)) (ak (eB aG (eB aG (aj 0) (aj 2)) (eB (aB .Add) (aj 1) (kq 1))) (ak (eB aG (eB aG (aj 0) (eB (aB .Add) (aj 2) (kq 1))) (eB (aB .Add) (aj 1) (kq 1))) (ak (eB aG (eB aG (aj 0) (eB (aB .Add) (aj 2) (kq 1))) (aj 1)) au)))))) aQ
def Gz:GN:=fnOf 3 Lq
def Lg:SF:=aC (bJ (eB (aB .Mod) (eN (aY 2 vN) (ak (eN (aY 2 tR) (ak (aj 0) (ak (eB (aB .Add) (eB (aB .Add) (kq 20) (eB (aB .Mult) (kq 3) (aj 2))) (aj 1)) au))) (ak (eB (aB .Add) (eB (aB .Mult) (kq 3) (aj 2)) (aj 1)) au))) (kq 2))) aQ
def Gw:GN:=fnOf 3 Lg
def Yd:SF:=aX (eN (aY 2 tR) (ak (aj 0) (ak (kq 0) au))) (aH 4)
def Ye:SF:=aX (eB (aB .Mod) (aj 4) (kq 1000000007)) (aH 5)
def Yg:SF:=aX (eB (aB .Sub) (kq 0) (eB (aB .Mod) (aj 4) (kq 998244353))) (aH 6)
def Yh:SF:=aX (eN gR au) (aH 7)
def Nh:SF:=aX (eB (aB .Mod) (aj 8) (aj 2)) (aH 9)
def Ni:SF:=aX (eB (aB .FloorDiv) (aj 8) (aj 2)) (aH 10)
def Nj:SF:=aX (eN (aY 3 Gz) (ak (aj 1) (ak (aj 9) (ak (aj 10) au)))) (iB 4 (cQ (aH 11) (cQ (aH 12) (cQ (aH 13) (cQ (aH 14) iR)))))
def Yk:SF:=aX (eN bZ (ak (eB (aB .Add) (aj 5) (eB (aB .Mult) (kq 4) (aj 9))) (ak (eB (aB .Add) (aj 6) (eB (aB .Mult) (kq 4) (aj 10))) (ak (aj 11) au)))) (aH 15)
def Yl:SF:=aX (eN bZ (ak (eB (aB .Add) (eB (aB .Add) (aj 5) (eB (aB .Mult) (kq 4) (aj 9))) (kq 4)) (ak (eB (aB .Add) (aj 6) (eB (aB .Mult) (kq 4) (aj 10))) (ak (aj 12) au)))) (aH 16)
def Ym:SF:=aX (eN bZ (ak (eB (aB .Add) (eB (aB .Add) (aj 5) (eB (aB .Mult) (kq 4) (aj 9))) (kq 4)) (ak (eB (aB .Add) (eB (aB .Add) (aj 6) (eB (aB .Mult) (kq 4) (aj 10))) (kq 4)) (ak (aj 13) au)))) (aH 17)
def Yn:SF:=aX (eN bZ (ak (eB (aB .Add) (aj 5) (eB (aB .Mult) (kq 4) (aj 9))) (ak (eB (aB .Add) (eB (aB .Add) (aj 6) (eB (aB .Mult) (kq 4) (aj 10))) (kq 4)) (ak (aj 14) au)))) (aH 18)
def N5:SF:=dw (bK (eB (bA .Eq) (eN (aY 3 Gw) (ak (aj 0) (ak (aj 9) (ak (aj 10) au)))) (kq 0))) (aC (aX (eB (aB .Add) (aj 7) (eN gR (ak (eN bZ (ak (aj 15) (ak (aj 16) (ak (aj 17) au)))) (ak (eN bZ (ak (aj 15) (ak (aj 17) (ak (aj 18) au)))) au)))) (aH 7)) aQ) (aC (aX (eB (aB .Add) (aj 7) (eN gR (ak (eN bZ (ak (aj 15) (ak (aj 16) (ak (aj 18) au)))) (ak (eN bZ (ak (aj 16) (ak (aj 17) (ak (aj 18) au)))) au)))) (aH 7)) aQ)
def G4:SF:=aC Nh (aC Ni (aC Nj (aC Yk (aC Yl (aC Ym (aC Yn (aC N5 aQ)))))))
def Yi:SF:=jM (iY (ak (eB (aB .Mult) (aj 2) (aj 3)) au)) (aH 8) G4
def Yj:SF:=bJ (aj 7)
def NQ:SF:=aC Yd (aC Ye (aC Yg (aC Yh (aC Yi (aC Yj aQ)))))
def NZ:GN:=fnOf 19 NQ
def Bf:SF:=aC (dw (gB (bK (eB (bA .Lt) (aj 1) (kq 0))) (gB (bK (eB (bA .Gt) (aj 1) (kq 4))) (gB (bK (eB (bA .Lt) (aj 2) (kq 0))) (bK (eB (bA .Gt) (aj 2) (kq 4)))))) (aC (bJ (eN gR au)) aQ) aQ) (aC (aX (eB aG (eN gR (ak (eB (aB .Sub) (aj 1) (aj 2)) (ak (eB (aB .Sub) (eB (aB .Sub) (kq 4) (aj 1)) (aj 2)) au))) (aj 0)) (aH 3)) (aC (bJ (eB (aB .Add) (eB (aB .Mult) (eN gR (ak (kq 0) au)) (eN uP (ak (eB (bA .GtE) (aj 3) (kq 0)) au))) (eB (aB .Mult) (eN gR (ak (kq 1) au)) (eN uP (ak (eB (bA .LtE) (aj 3) (kq 0)) au))))) aQ))
def Ly:GN:=fnOf 4 Bf
def Lp:SF:=aC (aX (aj 3) (iB 2 (cQ (aH 4) (cQ (aH 5) iR)))) (aC (aX (aj 2) (iB 4 (cQ (aH 6) (cQ (aH 7) (cQ (aH 8) (cQ (aH 9) iR)))))) (aC (dw (vh (bK (eB (bA .Eq) (aj 0) (kq 0))) (bK (eB (bA .Eq) (aj 1) (kq 0)))) (aC (bJ (eB (aB .Add) (eB (aB .Add) (eB (aB .Mult) (kq 4) (aj 6)) (eB (aB .Mult) (eB (aB .Sub) (aj 7) (aj 6)) (aj 4))) (eB (aB .Mult) (eB (aB .Sub) (aj 8) (aj 7)) (aj 5)))) aQ) aQ) (aC (dw (bK (eB (bA .Eq) (aj 0) (kq 0))) (aC (bJ (eB (aB .Add) (eB (aB .Add) (eB (aB .Mult) (kq 4) (aj 6)) (eB (aB .Mult) (eB (aB .Sub) (aj 8) (aj 9)) (aj 4))) (eB (aB .Mult) (eB (aB .Sub) (aj 9) (aj 6)) (aj 5)))) aQ) aQ) (aC (dw (bK (eB (bA .Eq) (aj 1) (kq 0))) (aC (bJ (eB (aB .Add) (eB (aB .Add) (eB (aB .Mult) (kq 4) (aj 6)) (eB (aB .Mult) (eB (aB .Sub) (aj 7) (aj 6)) (aj 4))) (eB (aB .Mult) (eB (aB .Sub) (aj 9) (aj 6)) (aj 5)))) aQ) aQ) (aC (bJ (eB (aB .Add) (eB (aB .Add) (eB (aB .Mult) (kq 4) (aj 8)) (eB (aB .Mult) (eB (aB .Sub) (aj 9) (aj 8)) (eB (aB .Sub) (kq 4) (aj 4)))) (eB (aB .Mult) (eB (aB .Sub) (aj 7) (aj 8)) (eB (aB .Sub) (kq 4) (aj 5))))) aQ)))))
def Lx:GN:=fnOf 10 Lp
def Xu:SF:=aX (aj 2) (iB 2 (cQ (aH 4) (cQ (aH 5) iR)))
def Xv:SF:=aX (eC .non) (aH 6)
def Xw:SF:=aX (eN gR au) (aH 7)
def X7:SF:=aX (eB (aB .Sub) (eB aG (aj 3) (kq 0)) (eB (aB .Mult) (kq 4) (eB (aB .Mod) (aj 8) (aj 4)))) (aH 9)
def X8:SF:=aX (eB (aB .Sub) (eB aG (aj 3) (kq 1)) (eB (aB .Mult) (kq 4) (eB (aB .FloorDiv) (aj 8) (aj 4)))) (aH 10)
def Yb:SF:=aX (eN (aY 3 Gw) (ak (aj 0) (ak (eB (aB .Mod) (aj 8) (aj 4)) (ak (eB (aB .FloorDiv) (aj 8) (aj 4)) au)))) (aH 11)
def Yr:SF:=mY (eM qe (aj 7) (ak (eB (aB .Add) (eB (aB .Mult) (kq 2) (aj 8)) (aj 12)) au))
def Ys:SF:=aX (eN (aY 4 Lx) (ak (aj 11) (ak (aj 12) (ak (eN (aY 3 Gz) (ak (aj 1) (ak (eB (aB .Mod) (aj 8) (aj 4)) (ak (eB (aB .FloorDiv) (aj 8) (aj 4)) au)))) (ak (eN bZ (ak (aj 9) (ak (aj 10) au))) au))))) (aH 6)
def M8:SF:=aC Yr (aC Ys aQ)
def Yc:SF:=jM (fK (eN (aY 3 Ly) (ak (aj 11) (ak (aj 9) (ak (aj 10) au))))) (aH 12) M8
def GP:SF:=aC X7 (aC X8 (aC Yb (aC Yc aQ)))
def Xx:SF:=jM (iY (ak (eB (aB .Mult) (aj 4) (aj 5)) au)) (aH 8) GP
def Xy:SF:=bJ (eN bZ (ak (aj 6) (ak (aj 7) au)))
def Ln:SF:=aC Xu (aC Xv (aC Xw (aC Xx (aC Xy aQ))))
def Lw:GN:=fnOf 13 Ln
def Xo:SF:=aX (eN (aY 2 vN) (ak (eN (aY 2 tR) (ak (aj 0) (ak (kq 50) au))) (ak (kq 50) au))) (aH 3)
def Xp:SF:=aX (eB aG (eB aG (aj 1) (kq 0)) (kq 0)) (iB 3 (cQ (aH 4) (cQ (aH 5) (cQ (aH 6) iR))))
def MJ:SF:=aX (eN bZ (ak (eB (aB .Add) (aj 4) (eB (aB .Mod) (aj 3) (eB (aB .Add) (eB (aB .Mult) (kq 4) (eB aG (aj 2) (kq 0))) (kq 1)))) (ak (eB (aB .Add) (aj 5) (eB (aB .Mod) (eB (aB .FloorDiv) (aj 3) (kq 13)) (eB (aB .Add) (eB (aB .Mult) (kq 4) (eB aG (aj 2) (kq 1))) (kq 1)))) (ak (eB (aB .Add) (kq 21) (eB (aB .Mod) (eB (aB .FloorDiv) (aj 3) (kq 169)) (kq 50))) au)))) (aH 7)
def Xq:SF:=aX (eB (aB .Sub) (eB (aB .Sub) (kq 0) (kq 21)) (eB (aB .Mod) (eB (aB .FloorDiv) (aj 3) (kq 1428050)) (kq 50))) (aH 8)
def Mf:SF:=aX (eN bZ (ak (eB (aB .Add) (aj 4) (eB (aB .Mod) (eB (aB .FloorDiv) (aj 3) (kq 8450)) (eB (aB .Add) (eB (aB .Mult) (kq 4) (eB aG (aj 2) (kq 0))) (kq 1)))) (ak (eB (aB .Add) (aj 5) (eB (aB .Mod) (eB (aB .FloorDiv) (aj 3) (kq 109850)) (eB (aB .Add) (eB (aB .Mult) (kq 4) (eB aG (aj 2) (kq 1))) (kq 1)))) (ak (aj 8) au)))) (aH 9)
def Xr:SF:=bJ (eN bZ (ak (aj 7) (ak (eN (aY 2 yO) (ak (aj 7) (ak (aj 9) au))) au)))
def zdt:SF:=aC Xo (aC Xp (aC MJ (aC Xq (aC Mf (aC Xr aQ)))))
def Ls:GN:=fnOf 10 zdt
def V7:SF:=aX (eN (aY 2 vN) (ak (eN (aY 2 tR) (ak (aj 0) (ak (kq 60) au))) (ak (kq 60) au))) (aH 1)
def V8:SF:=aX (eN bZ (ak (eB (aB .Add) (kq 1) (eB (aB .Mod) (aj 1) (kq 3))) (ak (eB (aB .Add) (kq 1) (eB (aB .Mod) (eB (aB .FloorDiv) (aj 1) (kq 3)) (kq 3))) au))) (aH 2)
def V9:SF:=aX (eN (aY 3 Ms) (ak (aj 0) (ak (eB aG (aj 2) (kq 0)) (ak (eB aG (aj 2) (kq 1)) au)))) (aH 3)
def Wa:SF:=aX (eN (aY 4 NZ) (ak (aj 0) (ak (aj 3) (ak (eB aG (aj 2) (kq 0)) (ak (eB aG (aj 2) (kq 1)) au))))) (aH 4)
def Wb:SF:=aX (pI "Scene" 2 GR (ak (eX (fK (aj 4)) (aH 0) dW (eB (aB .Add) (eN bZ (ak (eC (.str "triangle")) au)) (aj 0)) [none]) au)) (aH 5)
def Wc:SF:=aX (eB aG (eB aG (aj 4) (kq 0)) (kq 0)) (iB 3 (cQ (aH 6) (cQ (aH 7) (cQ (aH 8) iR))))
def WX:SF:=aX (eN (aY 2 vN) (ak (eN (aY 2 tR) (ak (aj 0) (ak (eB (aB .Add) (kq 40) (aj 9)) au))) (ak (aj 9) au))) (aH 10)
def WY:SF:=aX (eN bZ (ak (eB (aB .Mod) (aj 10) (eB (aB .Add) (eB (aB .Mult) (kq 4) (eB aG (aj 2) (kq 0))) (kq 1))) (ak (eB (aB .Mod) (eB (aB .FloorDiv) (aj 10) (kq 13)) (eB (aB .Add) (eB (aB .Mult) (kq 4) (eB aG (aj 2) (kq 1))) (kq 1))) au))) (aH 11)
def W7:SF:=aX (eB (aB .Add) (kq 21) (eB (aB .Mod) (eB (aB .FloorDiv) (aj 10) (kq 169)) (kq 100))) (aH 12)
def W8:SF:=aX (eB (aB .Add) (kq 1) (eB (aB .Mod) (eB (aB .FloorDiv) (aj 10) (kq 16900)) (kq 5))) (aH 13)
def W9:SF:=aX (eN (aY 4 Lw) (ak (aj 0) (ak (aj 3) (ak (aj 2) (ak (aj 11) au))))) (iB 2 (cQ (aH 14) (cQ (aH 15) iR)))
def Xa:SF:=aX (eN (aY 2 LR) (ak (eB (aB .Sub) (eB (aB .Mult) (kq 4) (aj 12)) (aj 14)) (ak (eB (aB .Mult) (kq 4) (aj 13)) au))) (aH 16)
def Xb:SF:=aX (eN bZ (ak (eN bZ (ak (eB (aB .Add) (aj 6) (eB aG (aj 11) (kq 0))) (ak (eB (aB .Add) (aj 7) (eB aG (aj 11) (kq 1))) (ak (aj 12) au)))) (ak (eN bZ (ak (kq 0) (ak (kq 0) (ak (eB (aB .Sub) (kq 0) (aj 13)) au)))) au))) (aH 17)
def Xc:SF:=dw (gB (bK (eB (bA .NotEq) (lV "Scene" "first" 2 Bc (aj 5) (ak (aj 17) au)) (eN bZ (ak (aj 16) (ak (eB aG (aj 15) (kq 0)) au))))) (bK (eB (bA .NotEq) (lV "Scene" "every" 2 Mr (aj 5) (ak (aj 17) au)) (eX (fK (aj 15)) (aH 0) dW (eN bZ (ak (aj 1) (ak (aj 0) au))) [none,some 16])))) (aC (bJ (eC (.bl false))) aQ) aQ
def GC:SF:=aC WX (aC WY (aC W7 (aC W8 (aC W9 (aC Xa (aC Xb (aC Xc aQ)))))))
def WM:SF:=jM (iY (ak (kq 3) au)) (aH 9) GC
def WN:SF:=aX (eN (aY 3 Ls) (ak (aj 0) (ak (aj 4) (ak (aj 2) au)))) (aH 17)
def WQ:SF:=aX (lV "Scene" "first" 2 Bc (aj 5) (ak (aj 17) au)) (aH 18)
def Wn:SF:=dw (gB (bK (eB (bA .Is) (aj 18) (eC .non))) (gB (bK (eB (bA .LtE) (eB aG (eB aG (aj 18) (kq 0)) (kq 0)) (kq 0))) (bK (eB (bA .GtE) (eB aG (eB aG (aj 18) (kq 0)) (kq 0)) (eB aG (eB aG (aj 18) (kq 0)) (kq 1)))))) (aC (bJ (eC (.bl false))) aQ) aQ
def Wo:SF:=aX (eN qR (ak (eX (iY (ak (kq 3) au)) (aH 0) dW (eB (aB .Add) (eB (aB .Mult) (eB aG (eB aG (aj 2) (kq 0)) (aj 0)) (eB aG (eB aG (aj 1) (kq 0)) (kq 1))) (eB (aB .Mult) (eB aG (eB aG (aj 2) (kq 1)) (aj 0)) (eB aG (eB aG (aj 1) (kq 0)) (kq 0)))) [none,some 18,some 17]) au)) (aH 19)
def Wq:SF:=bJ (eN (aY 3 M6) (ak (aj 19) (ak (eB aG (eB aG (aj 18) (kq 0)) (kq 1)) (ak (eB aG (aj 4) (eB aG (aj 18) (kq 1))) au))))
def Gj:SF:=aC V7 (aC V8 (aC V9 (aC Wa (aC Wb (aC Wc (aC WM (aC WN (aC WQ (aC Wn (aC Wo (aC Wq aQ)))))))))))
end MX.P
end
section
namespace MX
open PySem L2
def m6{p:Prop}{i:Decidable p}(h:p):@decide p i=true:=decide_eq_true h
def jt{p:Prop}{i:Decidable p}(h:¬p):@decide p i=false:=decide_eq_false h
section
variable {Z σ1:Sg}{S S1 S2:So}{x y z d:D}{xs ds:List D}{fa fb fe fo:EF}{aa:AF}
theorem aF{g:G2}{r:Option (D×So)}(h1:fa Z S=some (x,S1))(h2:fb Z S1=some (y,S2))(h3:g x y S2=r):eB g fa fb Z S=r:=by unfold eB;rw[h1];simp only[cu];rw[h2];simp only[cu];exact h3
def ZP{g:D->So->Option (D×So)}{r:Option (D×So)}(h1:fa Z S=some (x,S1))(h3:g x S1=r):eU g fa Z S=r:=by unfold eU;rw[h1];simp only[cu];exact h3
def bB{g:GN}{r:Option (D×So)}(h1:aa Z S=some (ds,S1))(h2:g ds S1=r):eN g aa Z S=r:=by unfold eN;rw[h1];simp only[cu];exact h2
def aJ{fr:AF}(h1:fa Z S=some (x,S1))(h2:fr Z S1=some (xs,S2)):ak fa fr Z S=some (x::xs,S2):=by unfold ak;rw[h1];simp only[cu];rw[h2];rfl
def aZ:au Z S=some ([],S):=rfl
def aN:eC d Z S=some (d,S):=rfl
def aq{i:Nat}(h:Z[i]?=some (some d)):aj i Z S=some (d,S):=by unfold aj;rw[h]
def dj{n:Nat}{φ:GN}{r:Option (D×So)}(h1:ds.length=n)(h2:φ ds S=r):aY n φ ds S=r:=by unfold aY;rw[if_pos h1];exact h2
noncomputable def pR{α:Type}(b:Bool)(x y:α):α:=if b=true then x else y
def jb{α:Type}{b:Bool}{x y r:α}(h:b=true)(hx:x=r):pR b x y=r:=by unfold pR;rw[if_pos h];exact hx
def fM{α:Type}{b:Bool}{x y r:α}(h:b=false)(hx:y=r):pR b x y=r:=by unfold pR;rw[if_neg (by rw[h];exact gK)];exact hx
theorem z7{t:TF}{b:Bool}{r:Option (D×So)}(h1:t Z S=some (b,S1))(h2:pR b (fa Z S1) (fb Z S1)=r):uq t fa fb Z S=r:=by unfold uq;rw[h1];simp only[cu];exact h2
theorem Sv{b:Bool}{r:Option (D×So)}(h1:fa Z S=some (.bl b,S1))(h2:pR b (fb Z S1) (some (.bl false,S1))=r):sO fa fb Z S=r:=by unfold sO;rw[h1];simp only[cu];cases b<;>exact h2
theorem Je{b:Bool}{r:Option (D×So)}(h1:fa Z S=some (.bl b,S1))(h2:pR b (some (.bl true,S1)) (fb Z S1)=r):uo fa fb Z S=r:=by unfold uo;rw[h1];simp only[cu];cases b<;>exact h2
def dM{b:Bool}(h1:fa Z S=some (.bl b,S1)):bK fa Z S=some (b,S1):=by unfold bK;rw[h1];rfl
def JN{b:Bool}(h1:fa Z S=some (x,S1))(h2:rB x S1=some b):kJ fa Z S=some (b,S1):=by unfold kJ;rw[h1];simp only[cu];rw[h2];rfl
def zp0{t:TF}{b:Bool}(h1:t Z S=some (b,S1)):vm t Z S=some (!b,S1):=by unfold vm;rw[h1];rfl
theorem zp1{t u:TF}{b:Bool}{r:Option (Bool×So)}(h1:t Z S=some (b,S1))(h2:pR b (u Z S1) (some (false,S1))=r):vh t u Z S=r:=by unfold vh;rw[h1];simp only[cu];exact h2
theorem jT{t u:TF}{b:Bool}{r:Option (Bool×So)}(h1:t Z S=some (b,S1))(h2:pR b (some (true,S1)) (u Z S1)=r):gB t u Z S=r:=by unfold gB;rw[h1];simp only[cu];exact h2
def yw:dW Z S=some (true,S):=rfl
abbrev SR:=Option (Fl×Sg×So)
noncomputable def rG(fl:Fl)(g:SF)(Z:Sg)(S:So):SR:=match fl with
 |.nx=>g Z S
 |fl=>some (fl,Z,S)
def aR{g:SF}{r:SR}(h:g Z S=r):rG .nx g Z S=r:=h
def dY{g:SF}:rG (.rt z) g Z S=some (.rt z,Z,S):=rfl
def Jw{g:SF}:rG .ct g Z S=some (.ct,Z,S):=rfl
def aM{f g:SF}{fl:Fl}{r:SR}(h1:f Z S=some (fl,σ1,S1))(h2:rG fl g σ1 S1=r):aC f g Z S=r:=by unfold aC;rw[h1];simp only[cu];cases fl<;>exact h2
def fD:aQ Z S=some (.nx,Z,S):=rfl
def Sy:o5 Z S=some (.ct,Z,S):=rfl
def fQ(h:fe Z S=some (x,S1)):bJ fe Z S=some (.rt x,Z,S1):=by unfold bJ;rw[h];rfl
def qZ(h:fe Z S=some (x,S1)):mY fe Z S=some (.nx,Z,S1):=by unfold mY;rw[h];rfl
def bN{g:GF}(h1:fe Z S=some (x,S1))(h2:g x Z S1=some (σ1,S2)):aX fe g Z S=some (.nx,σ1,S2):=by unfold aX;rw[h1];simp only[cu];rw[h2];rfl
def gk{t:TF}{f g:SF}{b:Bool}{r:SR}(h1:t Z S=some (b,S1))(h2:pR b (f Z S1) (g Z S1)=r):dw t f g Z S=r:=by unfold dw;rw[h1];simp only[cu];exact h2
def bY{i:Nat}(h:Z.set i (some d)=σ1):aH i d Z S=some (σ1,S):=by unfold aH;rw[h]
def RM{n:Nat}{fr:oJ}{r:Option (Sg×So)}(h1:ds.length=n)(h2:fr ds Z S=r):iB n fr (.tup ds) Z S=r:=by unfold iB;simp only;rw[if_pos h1];exact h2
def T9:iR [] Z S=some (Z,S):=rfl
def Kz{f:GF}{fr:oJ}{r:Option (Sg×So)}(h1:f d Z S=some (σ1,S1))(h2:fr ds σ1 S1=r):cQ f fr (d::ds) Z S=r:=by unfold cQ;simp only;rw[h1];exact h2
def eE{i j:Int}:aB .Add (.int i) (.int j) S=some (.int (i+j),S):=rfl
theorem Fq{n m:Nat}{xs ys:List D}(h1:S[n]?=some (.lst xs))(h2:S[m]?=some (.lst ys))(h:xs.length+ys.length<=sizeLine):aB .Add (.ref n) (.ref m) S=some (.ref S.length,S++[.lst (xs++ys)]):=by unfold aB pG;simp only;rw[h1,h2];simp only;rw[if_pos h]
theorem zp8{xs ys:List D}(h0:xs≠[])(h:xs.length+ys.length<=sizeLine):aB .Add (.tup xs) (.tup ys) S=some (.tup (xs++ys),S):=by unfold aB pG;simp only;rw[if_pos ⟨h0,h⟩]
def nU{i j:Int}:aB .Sub (.int i) (.int j) S=some (.int (i - j),S):=rfl
def fL{i j:Int}(h:cg i j=true):aB .Mult (.int i) (.int j) S=some (.int (i*j),S):=by unfold aB pC;simp only;rw[if_pos h]
def vq{i j:Int}(h:dh j=true):aB .FloorDiv (.int i) (.int j) S=some (.int (i.fdiv j),S):=by unfold aB rW;simp only;rw[if_pos h]
def qj{i j:Int}(h:j≠0):aB .Mod (.int i) (.int j) S=some (.int (i.fmod j),S):=by unfold aB rQ;simp only;rw[if_pos h]
def qi{i j:Int}:bA .Lt (.int i) (.int j) S=some (.bl (decide (i<j)),S):=rfl
def Jb{i j:Int}:bA .LtE (.int i) (.int j) S=some (.bl (decide (i<=j)),S):=rfl
def tK{i j:Int}:bA .Gt (.int i) (.int j) S=some (.bl (decide (j<i)),S):=rfl
def Ja{i j:Int}:bA .GtE (.int i) (.int j) S=some (.bl (decide (j<=i)),S):=rfl
def zV{i j:Int}:bA .Eq (.int i) (.int j) S=some (.bl (decide (i=j)),S):=rfl
def ZQ{i j:Int}:bA .NotEq (.int i) (.int j) S=some (.bl (!decide (i=j)),S):=rfl
def tH:bA .Is x .non S=some (.bl (mX x),S):=by cases x<;>rfl
def JX:bA .IsNot x .non S=some (.bl (!mX x),S):=by cases x<;>rfl
def ZL{i:Int}:uQ (.int i) S=some (.int (-i),S):=rfl
def cW{i:Int}(h:gq xs i=some z):aG (.tup xs) (.int i) S=some (z,S):=by unfold aG;simp only;rw[h];rfl
def nT{n:Nat}{i:Int}(h1:S[n]?=some (.lst xs))(h:gq xs i=some z):aG (.ref n) (.int i) S=some (z,S):=by unfold aG;simp only;rw[h1];simp only;rw[h];rfl
def RN{n:Nat}{i:Int}(h1:S[n]?=some (.frz xs))(h:gq xs i=some z):aG (.ref n) (.int i) S=some (z,S):=by unfold aG;simp only;rw[h1];simp only;rw[h];rfl
def gH(h:ds.length<=sizeLine):bZ ds S=some (.tup ds,S):=by unfold bZ;rw[if_pos h]
def lH(h:ds.length<=sizeLine):gR ds S=some (.ref S.length,S++[.lst ds]):=by unfold gR;rw[if_pos h]
def zp3:jq [.tup xs] S=some (.int xs.length,S):=rfl
def qY{n:Nat}(h1:S[n]?=some (.lst xs)):jq [.ref n] S=some (.int xs.length,S):=by unfold jq;simp only;rw[h1]
def JL{n:Nat}(h1:S[n]?=some (.frz xs)):jq [.ref n] S=some (.int xs.length,S):=by unfold jq;simp only;rw[h1]
def Vd{n:Nat}(h1:S[n]?=some (.lst xs)):qR [.ref n] S=some (.tup xs,S):=by unfold qR;simp only;rw[h1]
def Ua{n:Nat}(h1:S[n]?=some (.lst xs)):qL [.ref n] S=some (.ref S.length,S++[.lst xs]):=by unfold qL;simp only;rw[h1]
def Ub:qL [.tup xs] S=some (.ref S.length,S++[.lst xs]):=rfl
def zp2{i j:Int}:lC [.int i,.int j] S=some (.int (if j>i then j else i),S):=rfl
def RJ{i:Int}:uN [.int i] S=some (.int (if i<0 then -i else i),S):=rfl
theorem JM{n:Nat}{ns:List Int}{m:Int}(h1:S[n]?=some (.lst (ns.map .int)))(h:jL ns=some m):pZ [.ref n] S=some (.int m,S):=by unfold pZ rR;simp only;rw[h1];simp only;rw[KC];simp only[cu];rw[h];rfl
theorem Sx{n:Nat}{ns:List Int}{m:Int}(h1:S[n]?=some (.lst (ns.map .int)))(h:je ns=some m):lC [.ref n] S=some (.int m,S):=by unfold lC pF;simp only;rw[h1];simp only;rw[KC];simp only[cu];rw[h];rfl
theorem zp7{n:Nat}{bs:List Bool}(h1:S[n]?=some (.lst xs))(h2:zO xs=some bs):uO [.ref n] S=some (.bl (bs.all id),S):=by unfold uO;simp only;rw[h1];simp only;rw[h2];rfl
theorem Uc{n:Nat}{ns:List Int}{m:Int}(h1:S[n]?=some (.lst xs))(h2:mW xs=some ns)(h:je ns=some m):lC [.ref n] S=some (.int m,S):=by unfold lC pF;simp only;rw[h1];simp only;rw[h2];simp only[cu];rw[h];rfl
def znp{i j:Int}:pZ [.tup [.int i,.int j]] S=some (.int (if j<i then j else i),S):=rfl
def znq{i j:Int}:lC [.tup [.int i,.int j]] S=some (.int (if j>i then j else i),S):=rfl
theorem Al{n:Nat}(h1:S[n]?=some (.lst xs))(h:xs.length<sizeLine){S3:So}(h3:S.set n (.lst (xs++[d]))=S3):qe (.ref n) [d] S=some (.non,S3):=by unfold qe;simp only;rw[h1];simp only;rw[if_pos h,h3]
theorem vo{g:GM}{n:Nat}{r:Option (D×So)}(h1:fo Z S=some (.ref n,S1))(h2:S1[n]?=some (.lst xs))(h3:aa Z S1=some (ds,S2))(h4:g (.ref n) ds S2=r):eM g fo aa Z S=r:=by unfold eM;rw[h1];simp only[cu];rw[h2];simp only;rw[h3];exact h4
theorem Fd{fl fh:PF}{l h:Option Int}{S3:So}{r:Option (D×So)}(h1:fe Z S=some (x,S1))(h2:fl Z S1=some (l,S2))(h3:fh Z S2=some (h,S3))(h4:ug x l h S3=r):mz fe fl fh Z S=r:=by unfold mz;rw[h1];simp only[cu];rw[h2];simp only[cu];rw[h3];exact h4
def JZ:nP Z S=some (none,S):=rfl
def J0{i:Int}(h:fe Z S=some (.int i,S1)):lX fe Z S=some (some i,S1):=by unfold lX;rw[h];rfl
theorem Ra{l h:Option Int}{ys:List D}(hc:¬(HT.sIx xs.length 0 l=0/\HT.sIx xs.length xs.length h=xs.length))(e:jP xs l h=ys):ug (.tup xs) l h S=some (.tup ys,S):=by unfold ug;simp only;rw[if_pos hc,e]
theorem Jg{n:Nat}{l h:Option Int}{ys:List D}(h1:S[n]?=some (.lst xs))(e:jP xs l h=ys):ug (.ref n) l h S=some (.ref S.length,S++[.lst ys]):=by unfold ug;simp only;rw[h1];simp only;rw[e]
theorem JW:jP (x::xs) (some 1) none=xs:=by
 unfold jP;have h1:HT.sIx (x::xs).length 0 (some 1)=1:=by
  unfold HT.sIx;simp
  try omega
 have h2:HT.sIx (x::xs).length (x::xs).length none=(x::xs).length:=rfl;rw[h1,h2];simp
theorem T6:jP (x::xs) none (some 1)=[x]:=by
 unfold jP;have h1:HT.sIx (x::xs).length (x::xs).length (some 1)=1:=by
  unfold HT.sIx;simp
  try omega
 have h2:HT.sIx (x::xs).length 0 none=0:=rfl;rw[h1,h2];simp
theorem vA{j:Int}(h1:aa Z S=some ([.int j],S1))(hb : -(2 ^ 62)<=j/\j<2 ^ 62):iY aa Z S=some (.fix (dG 0 j.toNat),S1):=by unfold iY;rw[h1];simp only[cu];rw[if_pos hb]
def zns(h1:fe Z S=some (.tup xs,S1)):fK fe Z S=some (.fix xs,S1):=by unfold fK;rw[h1];rfl
def lZ{n:Nat}(h1:fe Z S=some (.ref n,S1))(h2:S1[n]?=some (.lst xs)):fK fe Z S=some (.lst n,S1):=by unfold fK;rw[h1];simp only[cu];rw[h2]
theorem zp5{xss:List (List D)}(h1:aa Z S=some (ds,S1))(h2:2<=ds.length/\ds.length<=4)(h3:qO S1 ds=some xss):qI aa Z S=some (.zip ds,S1):=by unfold qI;rw[h1];simp only[cu];rw[if_pos h2,h3];rfl
theorem yq{fi:IF}{g:GF}{t:TF}{src:List (Option Nat)}{j:zF}{n:Nat}{ys:List D}(h1:fi Z S=some (j,S1))(h2:qG j S1=some n)(hn:n<=sizeLine)(hτ:qJ src Z=σ1)(h3:jC (dH j) g t fe n 0 σ1 S1 []=some (ys,S2)):eX fi g t fe src Z S=some (.ref S2.length,S2++[.lst ys]):=by subst hτ;unfold eX Hg;rw[h1];simp only[cu];rw[h2];simp only[cu];rw[if_pos hn,h3];rfl
def Fe{nx:Nat->So->Option (Option D)}{g:GF}{t:TF}{i:Nat}{acc:List D}(h:nx i S=some none):jC nx g t fe 0 i Z S acc=some (acc,S):=by unfold jC;rw[h]
theorem yu{nx:Nat->So->Option (Option D)}{g:GF}{t:TF}{k i:Nat}{acc acc':List D}{r:Option (List D×So)}{S3:So}(h:nx i S=some (some d))(h1:g d Z S=some (σ1,S1))(h2:t σ1 S1=some (true,S2))(h3:fe σ1 S2=some (x,S3))(ha:acc++[x]=acc')(h4:jC nx g t fe k (i+1) σ1 S3 acc'=r):jC nx g t fe (k+1) i Z S acc=r:=by unfold jC;rw[h];simp only;rw[h1];simp only[cu];rw[h2];simp only[cu,if_true];rw[h3];rw[<-ha] at h4;exact h4
theorem lG{fi:IF}{g:GF}{f:SF}{j:zF}{n:Nat}{r:SR}(h1:fi Z S=some (j,S1))(h2:qG j S1=some n)(h3:jJ (dH j) g f n 0 Z S1=r):jM fi g f Z S=r:=by unfold jM;rw[h1];simp only[cu];rw[h2];exact h3
def JK{nx:Nat->So->Option (Option D)}{g:GF}{f:SF}{i:Nat}(h:nx i S=some none):jJ nx g f 0 i Z S=some (.nx,Z,S):=by unfold jJ;rw[h]
noncomputable def wU(fl:Fl)(nx:Nat->So->Option (Option D))(g:GF)(f:SF)(k i:Nat)(Z:Sg)(S:So):SR:=match fl with
 |.nx=>jJ nx g f k i Z S
 |.ct=>jJ nx g f k i Z S
 |.bk=>some (.nx,Z,S)
 |.rt d=>some (.rt d,Z,S)
theorem lY{nx:Nat->So->Option (Option D)}{g:GF}{f:SF}{k i:Nat}{fl:Fl}{σ2:Sg}{r:SR}(h:nx i S=some (some d))(h1:g d Z S=some (σ1,S1))(h2:f σ1 S1=some (fl,σ2,S2))(h3:wU fl nx g f k (i+1) σ2 S2=r):jJ nx g f (k+1) i Z S=r:=by unfold jJ;rw[h];simp only;rw[h1];simp only[cu];rw[h2];simp only[cu];cases fl<;>exact h3
def Ft{nx:Nat->So->Option (Option D)}{g:GF}{f:SF}{k i:Nat}{r:SR}(h:jJ nx g f k i Z S=r):wU .nx nx g f k i Z S=r:=h
def Ab{nx:Nat->So->Option (Option D)}{g:GF}{f:SF}{k i:Nat}:wU (.rt z) nx g f k i Z S=some (.rt z,Z,S):=rfl
def zrQ{i:Nat}(h:xs[i]?=some d):dH (.fix xs) i S=some (some d):=by show some xs[i]?=_;rw[h]
def tL{n i:Nat}(h1:S[n]?=some (.lst xs))(h:xs[i]?=some d):dH (.lst n) i S=some (some d):=by unfold dH;simp only;rw[h1];simp only;rw[h]
def ZW{n i:Nat}{lo:Int}{z:Int}(h:i<n)(hz:lo+(i:Nat)=z):dH (.fix (dG lo n)) i S=some (some (.int z)):=by unfold dH;simp only;rw[Le,if_pos h,hz]
def b8{o:O}:(S++[o])[S.length]?=some o:=by simp
def dZ{o p:O}{n:Nat}(h:S[n]?=some o):(S++[p])[n]?=some o:=by rw[lR (fC.mp h).1];exact h
end
noncomputable def dJ:Nat->D->Bool
 |_,.non=>true
 |_,.int _=>true
 |_,.str x=>PyData.strOk x
 |n+1,.tup xs=>xs.all (dJ n)
 |_,_=>false
noncomputable def lK:Nat->D->PyData
 |_,.int i => .int i
 |_,.str x => .str x
 |n+1,.tup xs => .tuple (xs.map (lK n))
 |_,_ => .none
theorem FN{f:D->Option PyData}{g:D->PyData}:∀{xs:List D},(∀d∈xs,f d=some (g d))->nO f xs=some (xs.map g)
 |[],_=>rfl
 |d::r,h=>by unfold nO;rw[h d eZ,FN (xs:=r) λe he=>h e (cU _ he)];rfl
theorem z8{S:So}:∀{n:Nat} {d:D},dJ n d=true->eV S (n+1) d=some (lK n d)
 |n,.obj _ _ _,h=>by cases n<;>cases h
 |n,.non,_=>by simp[eV];cases n<;>rfl
 |n,.int i,_=>by simp[eV];cases n<;>rfl
 |n,.str x,_=>by simp[eV];cases n<;>rfl
 |n+1,.tup xs,h=>by unfold dJ at h;rw[List.all_eq_true] at h;unfold eV;rw[FN λd hd=>z8 (h d hd)];rfl
 |0,.tup xs,h=>by simp[dJ] at h
 |_,.bl _,h=>by simp[dJ] at h
 |_,.ref _,h=>by simp[dJ] at h
 |_,.ty _,h=>by simp[dJ] at h
 |_,.adr _,h=>by simp[dJ] at h
theorem zev{S:So}:∀{n m:Nat} {d:D} {p:PyData},eV S n d=some p->n<=m->eV S m d=some p
 |0,_,_,_,h,_=>by simp[eV] at h
 |n+1,0,_,_,_,hm=>by omega
 |n+1,m+1,d,p,h,hm=>by
  have aux:∀{xs:List D} {ps:List PyData},nO (eV S n) xs=some ps->nO (eV S m) xs=some ps:=λ{xs}=>by
   induction xs with
   |nil=>intro ps e;exact e
   |cons x r ih =>
    intro ps e;simp only[nO,bC,bf] at e ⊢;obtain⟨q,e1,qs,e2,e3⟩:=e;exact⟨q,zev e1 (by omega),qs,ih e2,e3⟩
  cases d with
  |tup xs =>
   simp only[eV,bf] at h ⊢;obtain⟨ps,e1,e2⟩:=h;exact⟨ps,aux e1,e2⟩
  |ref k =>
   simp only[eV] at h ⊢;split at h
   .rename_i q;simp only[bf] at h ⊢;obtain⟨ps,e1,e2⟩:=h;exact⟨ps,aux e1,e2⟩
   .rename_i q;simp only[bf] at h ⊢;obtain⟨ps,e1,e2⟩:=h;exact⟨ps,aux e1,e2⟩
   .cases h
  |non=>simpa[eV] using h
  |bl b=>simpa[eV] using h
  |int i=>simpa[eV] using h
  |str x=>simpa[eV] using h
  |obj _ _ _=>simp[eV] at h
  |ty x=>simp[eV] at h
  |adr x=>simp[eV] at h
theorem QG{ps:List PyData}(h:∀p∈ps,PyData.canLay0 p=true):PyData.canLayAll0 ps=true:=by
 induction ps with
 |nil=>rfl
 |cons p r ih=>unfold PyData.canLayAll0;rw[h p eZ,ih λq hq=>h q (cU _ hq)];rfl
theorem QK{ps:List PyData}{n:Nat}(h:∀p∈ps,PyData.depth p<=n):PyData.depthAll ps<=n:=by
 induction ps with
 |nil=>exact Nat.zero_le _
 |cons p r ih=>unfold PyData.depthAll;exact Nat.max_le.mpr ⟨h p eZ,ih λq hq=>h q (cU _ hq)⟩
theorem zY:∀{n:Nat} {d:D},dJ n d=true->PyData.canLay0 (lK n d)=true/\PyData.depth (lK n d)<=n
 |n,.obj _ _ _,h=>by cases n<;>cases h
 |n,.non,_=>by cases n<;>exact⟨rfl,Nat.zero_le _⟩
 |n,.int i,_=>by cases n<;>exact⟨rfl,Nat.zero_le _⟩
 |n,.str x,h=>by
  have h':PyData.strOk x=true:=by cases n<;>simpa[dJ] using h
  cases n<;>exact⟨h',Nat.zero_le _⟩
 |n+1,.tup xs,h=>by
  unfold dJ at h;rw[List.all_eq_true] at h;constructor
  .show PyData.canLayAll0 (xs.map (lK n))=true;refine QG λp hp=>?_;obtain⟨d,hd,rfl⟩:=List.mem_map.mp hp;exact(zY (h d hd)).1
  .show PyData.depthAll (xs.map (lK n))+1<=n+1;refine Nat.succ_le_succ (QK λp hp=>?_);obtain⟨d,hd,rfl⟩:=List.mem_map.mp hp;exact(zY (h d hd)).2
 |0,.tup xs,h=>by simp[dJ] at h
 |_,.bl _,h=>by simp[dJ] at h
 |_,.ref _,h=>by simp[dJ] at h
 |_,.ty _,h=>by simp[dJ] at h
 |_,.adr _,h=>by simp[dJ] at h
theorem VN{n:Nat}{d:D}(h:dJ n d=true)(hn:n<=64):SeqAt.shaped (lK n d)=true:=by unfold SeqAt.shaped;obtain⟨a,b⟩:=zY h;rw[a,Bool.true_and];exact decide_eq_true (by omega)
theorem Sd{f:D->PyData}{xs:List D}:∀{ys:List D},(∀x∈xs,∀y∈ys,(PyData.eqv (f x) (f y)=true↔x=y))->(PyData.eqvAll (xs.map f) (ys.map f)=true↔xs=ys):=by
 induction xs with
 |nil=>intro ys h;cases ys<;>simp[PyData.eqvAll]
 |cons x r ih =>
  intro ys h;cases ys with
  |nil=>simp[PyData.eqvAll]
  |cons y s =>
   simp only[iJ,PyData.eqvAll,dD,List.cons.injEq];rw[h x eZ y eZ,ih λa ha b hb=>h a (cU _ ha) b (cU _ hb)]
theorem Ss:∀{n:Nat} {x y:D},dJ n x=true->dJ n y=true->(PyData.eqv (lK n x) (lK n y)=true↔x=y):=by
 intro n
 induction n with
 |zero =>
  intro x y hx hy;cases x<;>cases y<;>simp_all [dJ,lK,PyData.eqv]
 |succ n ih =>
  intro x y hx hy;cases x<;>cases y<;>simp_all [dJ,lK,PyData.eqv];exact Sd λa ha b hb=>ih (hx a ha) (hy b hb)
open Classical in
theorem R9{S:So}{x y:D}(n:Nat)(hx:dJ n x=true)(hy:dJ n y=true)(hn:n<=23:=by decide):mq S x y=some (decide (x=y)):=by unfold mq;rw[zev (z8 hx) (by omega),zev (z8 hy) (by omega)];simp only[cu];rw[if_pos ⟨VN hx (by omega),VN hy (by omega)⟩];congr 1;rw[Bool.eq_iff_iff,Ss hx hy,oK]
open Classical in
theorem R8{S:So}{n m:Nat}{xs ys:List D}(k:Nat)(h1:S[n]?=some (.lst xs)\/S[n]?=some (.frz xs))(h2:S[m]?=some (.lst ys)\/S[m]?=some (.frz ys))(hx:∀x∈xs,dJ k x=true)(hy:∀y∈ys,dJ k y=true)(hk:k<=20:=by decide):
 mq S (.ref n) (.ref m)=some (decide (xs=ys)):=by
 have e1:eV S (k+2) (.ref n)=some (.list (xs.map (lK k))):=by unfold eV;rcases h1 with h1|h1<;>(rw[h1];simp only;rw[FN λd hd=>z8 (hx d hd)];rfl)
 have e2:eV S (k+2) (.ref m)=some (.list (ys.map (lK k))):=by unfold eV;rcases h2 with h2|h2<;>(rw[h2];simp only;rw[FN λd hd=>z8 (hy d hd)];rfl)
 have sh:∀zs:List D,(∀z∈zs,dJ k z=true)->SeqAt.shaped (.list (zs.map (lK k)))=true:=λzs hz=>by
  unfold SeqAt.shaped;rw[dD];constructor
  .show PyData.canLayAll0 _=true;refine QG λp hp=>?_;obtain⟨d,hd,rfl⟩:=List.mem_map.mp hp;exact(zY (hz d hd)).1
  .refine decide_eq_true ?_;show PyData.depthAll _+1<=64;have:PyData.depthAll (zs.map (lK k))<=k:=QK λp hp=>by obtain⟨d,hd,rfl⟩:=List.mem_map.mp hp;exact(zY (hz d hd)).2
   omega
 unfold mq;rw[zev e1 (by omega),zev e2 (by omega)];simp only[cu];rw[if_pos ⟨sh xs hx,sh ys hy⟩];congr 1;rw[Bool.eq_iff_iff,oK];show PyData.eqvAll _ _=true↔_;exact Sd λa ha b hb=>Ss (hx a ha) (hy b hb)
section
variable {S:So}{x y:D}
noncomputable def Cv:D->D->Bool
 |.int _,.int _=>false
 |_,_=>true
open Classical in
theorem Jf(h:Cv x y=true)(n:Nat)(hx:dJ n x=true)(hy:dJ n y=true)(hn:n<=23):bA .Eq x y S=some (.bl (decide (x=y)),S):=by
 have e:bA .Eq x y S=(mq S x y).map λb=>(.bl b,S):=by cases x<;>cases y<;>first|rfl|cases h
 rw[e,R9 n hx hy hn];rfl
open Classical in
theorem RP(h:Cv x y=true)(n:Nat)(hx:dJ n x=true)(hy:dJ n y=true)(hn:n<=23):bA .NotEq x y S=some (.bl (!decide (x=y)),S):=by
 have e:bA .NotEq x y S=(mq S x y).map λb=>(.bl (!b),S):=by cases x<;>cases y<;>first|rfl|cases h
 rw[e,R9 n hx hy hn];rfl
open Classical in
theorem RL{n m:Nat}{xs ys:List D}(k:Nat)(h1:S[n]?=some (.lst xs)\/S[n]?=some (.frz xs))(h2:S[m]?=some (.lst ys)\/S[m]?=some (.frz ys))(hx:∀x∈xs,dJ k x=true)(hy:∀y∈ys,dJ k y=true)(hk:k<=20):
 bA .Eq (.ref n) (.ref m) S=some (.bl (decide (xs=ys)),S):=by
 show(mq S (.ref n) (.ref m)).map _=_;rw[R8 k h1 h2 hx hy hk];rfl
open Classical in
theorem ZK{n m:Nat}{xs ys:List D}(k:Nat)(h1:S[n]?=some (.lst xs)\/S[n]?=some (.frz xs))(h2:S[m]?=some (.lst ys)\/S[m]?=some (.frz ys))(hx:∀x∈xs,dJ k x=true)(hy:∀y∈ys,dJ k y=true)(hk:k<=20):
 bA .NotEq (.ref n) (.ref m) S=some (.bl (!decide (xs=ys)),S):=by
 show(mq S (.ref n) (.ref m)).map _=_;rw[R8 k h1 h2 hx hy hk];rfl
end
end MX
end
section
namespace MX
open PySem L2
open Builtin.Int (intBits)
def Bd(k:Nat)(x:Int):Prop:=x.natAbs<2 ^ k
def Bd.le{k l:Nat}{x:Int}(h:Bd k x)(hl:k<=l):Bd l x:=dU h (Nat.pow_le_pow_right (by decide) hl)
theorem Bd.add{k l:Nat}{x y:Int}(h:Bd k x)(g:Bd l y):Bd (max k l+1) (x+y):=by
 have h1:=h.le (Nat.le_max_left k l);have h2:=g.le (Nat.le_max_right k l);unfold Bd at *
 rw[Nat.pow_succ];have:=Int.natAbs_add_le x y;omega
def Bd.neg{k:Nat}{x:Int}(h:Bd k x):Bd k (-x):=by unfold Bd at *;rw[Int.natAbs_neg];exact h
def Bd.sub{k l:Nat}{x y:Int}(h:Bd k x)(g:Bd l y):Bd (max k l+1) (x - y):=by rw[Int.sub_eq_add_neg];exact h.add g.neg
def Bd.mul{k l:Nat}{x y:Int}(h:Bd k x)(g:Bd l y):Bd (k+l) (x*y):=by
 unfold Bd at *
 rw[Int.natAbs_mul,Nat.pow_add];exact Nat.mul_lt_mul'' h g
def Bd.lit(x:Int):Bd (intBits x) x:=by
 unfold Bd intBits;split
 .rename_i h;have:x=0:=by simpa using h
  subst this;decide
 .exact Nat.lt_log2_self
theorem Bd.fmod{m x:Int}(h:0<m):Bd (intBits m) (x.fmod m):=by
 have h1:=Int.fmod_nonneg_of_pos x h;have h2:=Int.fmod_lt_of_pos x h;have h3:=Bd.lit m;unfold Bd at *
 omega
def zno{x y:Int}(hy:0<y):(x.fdiv y).natAbs<=x.natAbs:=by rw[Int.fdiv_eq_ediv_of_nonneg _ (by omega)];exact Int.natAbs_ediv_le_natAbs x y
def Bd.fdiv{k:Nat}{x y:Int}(h:Bd k x)(hy:0<y):Bd k (x.fdiv y):=Ed (zno hy) h
theorem Bd.bits{k:Nat}{x:Int}(h:Bd k x):intBits x<=k:=by
 unfold Bd at h;unfold intBits;split
 .exact Nat.zero_le _
 .rename_i hn;have hx:x.natAbs≠0:=λe=>hn (by have:=Int.natAbs_eq_zero.mp e;subst this;rfl);exact(Nat.log2_lt hx).mpr h
theorem vD{k l:Nat}{x y:Int}(h:Bd k x)(g:Bd l y)(hl:k+l<=134217728):cg x y=true:=by unfold cg;have h1:=h.bits;have h2:=g.bits;rw[lg];exact .inr (decide_eq_true (by omega))
def Ju{x y:Int}(h:intBits y<=64):cg x y=true:=by unfold cg;rw[lg,lg];exact .inl (.inr (decide_eq_true h))
def ql{x y:Int}(h:intBits x<=64):cg x y=true:=by unfold cg;rw[lg,lg];exact .inl (.inl (decide_eq_true h))
theorem yL{k:Nat}{y:Int}(h:Bd k y)(h0:y≠0)(hl:k<=8000):dh y=true:=by unfold dh;have:=h.bits;rw[dD];exact⟨decide_eq_true h0,decide_eq_true (by omega)⟩
abbrev P3(x y z:Int):D := .tup [.int x,.int y,.int z]
abbrev R2(x y:Int):D := .tup [.int x,.int y]
end MX
namespace MX
open PySem L2
theorem D.lo_mono:∀{d:D} {n m:Nat},n<=m->D.lo n d=true->D.lo m d=true:=by
 have key:∀(k:Nat) (d:D) (n m:Nat),sizeOf d<=k->n<=m->D.lo n d=true->D.lo m d=true:=by
  intro k
  induction k with
  |zero=>intro d n m hk;cases d<;>simp at hk
  |succ k ih =>
   intro d n m hk hm h;cases d with
   |tup xs =>
    rw[D.lo] at h ⊢;have aux:∀ys:List D,sizeOf ys<=k->c7 n ys=true->c7 m ys=true:=by
     intro ys
     induction ys with
     |nil=>intro _ _;simp[c7]
     |cons y r ihr =>
      intro hs hl;rw[c7,dD] at hl ⊢;simp at hs;exact⟨ih y n m (by omega) hm hl.1,ihr (by omega) hl.2⟩
    exact aux xs (by simp at hk;omega) h
   |obj _ _ xs =>
    rw[D.lo] at h ⊢;have aux:∀ys:List D,sizeOf ys<=k->c7 n ys=true->c7 m ys=true:=by
     intro ys
     induction ys with
     |nil=>intro _ _;simp[c7]
     |cons y r ihr =>
      intro hs hl;rw[c7,dD] at hl ⊢;simp at hs;exact⟨ih y n m (by omega) hm hl.1,ihr (by omega) hl.2⟩
    exact aux xs (by simp at hk;omega) h
   |ref j=>rw[D.lo] at h ⊢;exact decide_eq_true (dU (of_decide_eq_true h) hm)
   |_=>simp[D.lo]
 exact λ{d n m} hm h=>key (sizeOf d) d n m (bH _) hm h
def ju{n:Nat}:∀{xs:List D},c7 n xs=true↔∀x∈xs,D.lo n x=true
 |[]=>by simp[c7]
 |x::r=>by rw[c7,dD,ju (xs:=r)];simp
def Ko{n m:Nat}{xs:List D}(hm:n<=m)(h:c7 n xs=true):c7 m xs=true:=ju.mpr λx hx=>D.lo_mono hm (ju.mp h x hx)
theorem O.lo_mono{n m:Nat}{o:O}(hm:n<=m)(h:O.lo n o=true):O.lo m o=true:=by
 cases o with
 |lst xs=>exact Ko hm h
 |frz xs=>exact Ko hm h
 |ins C fs=>exact Ko hm h
 |dct xs=>rfl
 |tbl x=>rfl
theorem Rm:∀{n m:Nat} {d:D},dJ n d=true->D.lo m d=true
 |n,_,.obj _ _ _,h=>by cases n<;>cases h
 |_,_,.non,_=>by simp[D.lo]
 |_,_,.int _,_=>by simp[D.lo]
 |_,_,.str _,_=>by simp[D.lo]
 |n+1,m,.tup xs,h=>by unfold dJ at h;rw[List.all_eq_true] at h;rw[D.lo];exact ju.mpr λx hx=>Rm (h x hx)
 |0,_,.tup xs,h=>by simp[dJ] at h
 |_,_,.bl _,h=>by simp[dJ] at h
 |_,_,.ref _,h=>by simp[dJ] at h
 |_,_,.ty _,h=>by simp[dJ] at h
 |_,_,.adr _,h=>by simp[dJ] at h
theorem WF.snoc{S:So}{o:O}(h:WF S)(ho:O.lo S.length o=true):WF (S++[o]):=λp hp=>by
 rw[iW,List.length_singleton];rcases lq.mp hp with hp|hp
 .exact O.lo_mono (Nat.le_succ _) (h p hp)
 .rw[List.mem_singleton.mp hp];exact O.lo_mono (Nat.le_succ _) ho
def yx(n:Nat)(ns:List Int):O.lo n (.lst (ns.map .int))=true:=ju.mpr λx hx=>by obtain⟨i,_,rfl⟩:=List.mem_map.mp hx;simp[D.lo]
end MX
namespace MX.P
open PySem L2 MX
abbrev Pt:=Int×Int×Int
abbrev pD(p:Pt):D:=P3 p.1 p.2.1 p.2.2
def lo_pts(n:Nat)(pts:List Pt):O.lo n (.lst (pts.map pD))=true:=ju.mpr λx hx=>by obtain⟨i,_,rfl⟩:=List.mem_map.mp hx;simp[D.lo,c7]
theorem zrY{fe:EF}{S:So}{m:Nat}{rest:Sg}(h:Nat->D)(hstep:∀k:Nat,k<m->fe (some (.int (k:Nat))::rest) S=some (h k,S)):
 jC (dH (.fix (dG 0 m))) (aH 0) dW fe m 0 (none::rest) S []=some ((List.range m).map h,S):=by
 have hl:(dG 0 m).length=m:=by simp[dG]
 have:=Gb (nx:=dH (.fix (dG 0 m))) (g:=aH 0) (t:=dW) (fe:=fe) (S:=S) (xs:=dG 0 m) (λτ=>∃v,τ=v::rest) (λ_=>true) (λd=>match d with|.int i=>h i.toNat|_ => .non)
  (λi=>rfl) (λd hd τ hT=>?_) m 0 (none::rest) [] ⟨none,rfl⟩ (by rw[hl];omega)
 .rw[this,sI,List.drop_zero,List.filter_eq_self.mpr (λ_ _=>rfl)];congr 2;unfold dG;rw[List.map_map];refine List.map_congr_left λk _=>?_;show h ((0:Int)+(k:Nat)).toNat=h k;congr 1;omega
 .obtain⟨v,rfl⟩:=hT;unfold dG at hd;obtain⟨k,hk,rfl⟩:=List.mem_map.mp hd;refine⟨some (.int ((0:Int)+(k:Nat)))::rest,rfl,⟨_,rfl⟩,rfl,λ_=>?_⟩;have e:((0:Int)+(k:Nat))=(k:Nat):=by omega
  rw[e,hstep k (List.mem_range.mp hk)];congr
end MX.P
end
open MX
namespace MX
open Lean
def tF(k:String)(l:List Syntax):Syntax:=.node .none ("Lean.Parser.T"++k).toName l.toArray
def tI(l:List Syntax):Syntax:=.node .none `null l.toArray
def tJ(s:String):Syntax:=.atom .none s
def tN(l:List Syntax):Syntax:=tF "actic.tacticSeq" [tF "actic.tacticSeq1Indented" [tI (l.intersperse (tJ ";"))]]
def tS(s w:String)(f:String→Syntax):List Syntax:=(s.splitOn w).map f
def tT(w:String):Syntax:=
 let l:=tS (w.drop 1).toString "," λm=>if m=="" then tF "erm.hole" [tJ "_"] else (mkCIdent (if m.startsWith "." then (m.drop 1).toName else `MX++m.toName)).raw
 let e s (l:List Syntax):=tF ("actic."++s) (tJ s::l)
 let t s:=e s [tF "erm.app" [l.headD default,tI l.tail]]
 let t s:=if l.tail.isEmpty then e s [l.headD default] else t s
 let r x:=tF "actic.withReducible" [tJ "with_reducible",tN [x]]
 let o:=tF "actic.optConfig" [tI []]
 let a:=e "assumption" []
 match w.front with
 |'='=>r (t "exact")
 |'+'=>r (t "apply")
 |'!'=>t "exact"
 |'*'=>t "apply"
 |'~'=>tF "actic.tacticRfl" [tJ "rfl"]
 |'@'=>a
 |'&'=>r a
 |'%'=>e "decide" [o]
 |'^'=>e "omega" [o]
 |'<'=>e "simp" [o,tI [],tI [tJ "only"],tI [tJ "[",tI ((l.map λx=>tF "actic.simpLemma" [tI [],tI [],x]).intersperse (tJ ",")),tJ "]"],tI []]
 |_=>.node .none `PySem.W.tacticWtm_at_ #[tJ "wtm_at",(Syntax.mkStrLit w).raw]
def uA(s w:String)(f:String→List Syntax):List Syntax:=match s.splitOn w with|[a]=>f a|l=>[tF "actic.first" [tJ "first",tI (l.map λa=>.node .none `group #[tJ "|",tN (f a)])]]
def uB(l:List Syntax):List Syntax:=match l with|a::l=>a::l.map λx=>tF "actic.focus" [tJ "focus",tN [x]]|_=>l
def uC(s:TSyntax `str)(t:String):MacroM Syntax:=match (t.splitOn "#").find? (·.startsWith s.getString) with|some e=>pure (tF "actic.paren" [tJ "(",tN (uA (e.drop 1).toString "|" λs=>uB (((s.splitOn " ").map λs=>uA s "/" λa=>[tT a]).flatten)),tJ ")"])|_=>Macro.throwUnsupported
end MX
local macro_rules|`(tactic|wtm_at "B")=>`(tactic|simp only [Nat.reduceAdd, Nat.reduceMax, Nat.max_self]; omega)|`(tactic|wtm_at "C")=>`(tactic|refine Jf ?_ 8 ?_ ?_ ?_<;>first | decide +kernel | rfl | decide)|`(tactic|wtm_at "D")=>`(tactic|refine RP ?_ 8 ?_ ?_ ?_<;>first | decide +kernel | rfl | decide)|`(tactic|wtm_at "E")=>`(tactic|simp only [List.set_cons_zero, List.set_cons_succ, List.set]; done)|`(tactic|wtm_at "F")=>`(tactic|simp only [List.getElem?_cons_zero, List.getElem?_cons_succ]; done)|`(tactic|wtm_at "H")=>`(tactic|simp; rfl)|`(tactic|wtm_at "I")=>`(tactic|simp [List.take_append])|`(tactic|wtm_at "J")=>`(tactic|exact ⟨rfl, rfl, rfl, by decide +kernel, by kernel_rfl, by decide +kernel, by decide +kernel⟩)|`(tactic|wtm_at "K")=>`(tactic|exact ⟨by first | exact MX.zvE λ_ _ _ _ _ _ _ => rfl | exact MX.bind2 λ_ _ _ _ _ _ _ _ => rfl | exact MX.bind3 λ_ _ _ _ _ _ _ _ _ => rfl | exact MX.bind4 λ_ _ _ _ _ _ _ _ _ _ => rfl, by wtm_at "A", by decide +kernel, by kernel_rfl, by kernel_rfl⟩)|`(tactic|wtm_at $s)=>uC s "p~|@|*m6 @/~/^|*jt @/^|<.Bool.not_eq_true',.Bool.not_eq_false',.Bool.not_true,.Bool.not_false,.oK,.decide_eq_false_iff_not,mX @/^#e@|!b8|*dZ e#f@|+Bd.mul f f|+Bd.add f f|+Bd.sub f f|+Bd.neg f|+Bd.fmod %|+Bd.fmodV @/% f|+Bd.fdiv f %/@/^|!Bd.lit,#u*Bd.le f %/B#k@|~|e|*Ju %|*ql %|*vD f f %/^|u|%|^#l@|+WF.snoc l !yx,,/@/~#g=eE|=nU|=qi|=Jb|=tK|=Ja|=zV|=ZQ|=tH|=JX|=ZL|+fL k|+qj k|+vq %/k|+cW &/~|+nT e &/~|+RN e &/~|C|D#m+gH *.xV ~|+lH *.xV ~|=zp3|=znp|=znq|=zp2|=RJ|=Ub|+qY e|+JL e|+Vd e|+Ua e|+zp7 e ~|+Uc e ~ ~|+dj ~ d#q~|&|*m6 &|*jt &|*m6 ~#i*jb q a|*fM q a|*jb p a|*fM p a#vE|<.List.set_cons_zero,.List.set_cons_succ,.List.set ~|~#h+bY v|+RM ~ h|+Kz h h|=T9#a=aN|+aq ~|+aF a a g|+bB a m|+aJ a a|=aZ|+aM a n|+fQ a|=fD|=Sy|+bN a h|+gk a i|+qZ a|+dM a|+zp0 a|+zp1 a i|+jT a i|+JN a ~|+ZP a g|+Sv a i|+Je a i|+z7 a i|+Fd a a a w|=JZ|+J0 a|+yq j ~ *.xV ~ <qJ,.iJ,.List.map_nil,.cu,.Option.bind_none,.List.getElem?_cons_zero,.List.getElem?_cons_succ,.Option.join_some ~ r|+lG j ~ o|=yw|!.rfl#j+vA a %|+zns a|+zp5 a *.And.intro *.xV ~ *.xV ~ ~|+lZ a e#r*yu s h a a <.sI,.List.cons_append ~ r|*Fe ~#tF|<.List.getElem?_cons_zero,.List.getElem?_cons_succ ~|~#s+ZW % H/~|+zrQ t|+tL e t|~#o*lY s h a x|*JK ~#x=Ab|+Ft o#w+Ra *.of_decide_eq_false ~ !JW/!T6|+Jg e !JW/!T6/~#n!dY|+aR a|=Jw#b<oA,.iJ,.List.map_nil,.jo,.zJ,.Nat.reduceAdd,.Nat.reduceSub,.Nat.zero_add,.Nat.sub_self,.List.replicate,.List.cons_append,.sI,.List.append_nil#c!.mF|I#y@"
section
namespace MX.P
open PySem L2 MX
theorem zgi(a b c d e f:Int)(S:So):fG [P3 a b c,P3 d e f] S=some (P3 (d - a) (e - b) (f - c),S):=by refine cG (Z':=[some (P3 a b c),some (P3 d e f)]) (S':=S) ?_ (by simp) rfl;show Lr [some (P3 a b c),some (P3 d e f)] S=_;unfold Lr;wtm_at "a"
theorem zqT{k l:Nat}{a b c d e f:Int}(ha:Bd k a)(hb:Bd k b)(hc:Bd k c)(hd:Bd l d)(he:Bd l e)(hf:Bd l f)(hk:k+l<=134217728)(S:So):fX [P3 a b c,P3 d e f] S=some (.int (a*d+b*e+c*f),S):=by refine cG (Z':=[some (P3 a b c),some (P3 d e f)]) (S':=S) ?_ (by simp) rfl;show Iu [some (P3 a b c),some (P3 d e f)] S=_;unfold Iu;wtm_at "a"
theorem zmv{k l:Nat}{a b c d e f:Int}(ha:Bd k a)(hb:Bd k b)(hc:Bd k c)(hd:Bd l d)(he:Bd l e)(hf:Bd l f)(hk:k+l<=134217728)(S:So):jz [P3 a b c,P3 d e f] S=some (P3 (b*f - c*e) (c*d - a*f) (a*e - b*d),S):=by refine cG (Z':=[some (P3 a b c),some (P3 d e f)]) (S':=S) ?_ (by simp) rfl;show JD [some (P3 a b c),some (P3 d e f)] S=_;unfold JD;wtm_at "a"
theorem sp_is_less{k l:Nat}{a b c d:Int}(ha:Bd k a)(hb:Bd k b)(hc:Bd l c)(hd:Bd l d)(hk:k+l<=134217728)(S:So):tM [R2 a b,R2 c d] S=some (.bl (decide (a*d<c*b)),S):=by refine cG (Z':=[some (R2 a b),some (R2 c d)]) (S':=S) ?_ (by simp) rfl;show J8 [some (R2 a b),some (R2 c d)] S=_;unfold J8;wtm_at "a"
noncomputable def sY(c k:Int):Int:=(((c*6364136223846793005+(k+1)*1442695040888963407).fmod 340282366920938463463374607431768211507)*((c*6364136223846793005+(k+1)*1442695040888963407).fmod 340282366920938463463374607431768211507)).fmod 340282366920938463463374607431768211297
theorem sp_drawn(c k:Int)(S:So):vN [.int c,.int k] S=some (.int (sY c k),S):=by refine cG (Z':=[some (.int c),some (.int k),some (.int ((c*6364136223846793005+(k+1)*1442695040888963407).fmod 340282366920938463463374607431768211507))]) (S':=S) ?_ (by simp) rfl;show LC [some (.int c),some (.int k),none] S=_;unfold LC;wtm_at "a"
end MX.P
end
section
local macro_rules|`(tactic|wtm_at $s)=>uC s "d!P.sp_drawn,,,"
namespace MX.P
open PySem L2 MX
noncomputable def iI(ns:List Int)(k:Int):Int:=if ns=[] then k*7919 else(ns[(k.fmod ns.length).toNat]?.getD 0)+k.fdiv ns.length*104729
def rK(k:Nat)(ns:List Int):∀x∈ns.map D.int,dJ k x=true:=λx hx=>by obtain⟨n,_,rfl⟩:=List.mem_map.mp hx;cases k<;>rfl
theorem yF{ns:List Int}(hn:ns.length<=63)(k:Int){S:So}(h:S[0]?=some (.frz (ns.map .int))):tR [.ref 0,.int k] S=some (.int (iI ns k),S):=by
 have e1:bK (eB (bA .Eq) (aj 0) (eN gR au)) [some (.ref 0),some (.int k)] S=some (decide (ns.map D.int=[]),S++[.lst []]):=by
  apply dM;apply aF
  .wtm_at "a"
  .wtm_at "a"
  .rw[RL 0 (.inr (dZ h)) (.inl b8) (rK 0 ns) (by simp) (by decide)]
 by_cases hz:ns=[]
 .apply cG
  .wtm_at "b"
   unfold K3;apply aM
   .apply gk
    .exact e1
    .apply jb
     .simp[hz]
     .wtm_at "a"
   .have:iI ns k=k*7919:=by unfold iI;rw[if_pos hz]
    rw[this];wtm_at "n"
  .simp
  .rfl
 .have hl:0<ns.length:=List.length_pos_iff.mpr hz;have hl':(0:Int)<((ns.map D.int).length:Int):=by simp;omega
  have h1:=Int.fmod_nonneg_of_pos k hl';have h2:=Int.fmod_lt_of_pos k hl';have hb:Bd 7 ((ns.map D.int).length:Int):=by unfold Bd;simp;omega
  have e2:gq (ns.map D.int) (k.fmod ((ns.map D.int).length:Int))=some (.int (ns[(k.fmod ns.length).toNat]?.getD 0)):=by
   unfold gq ud;rw[if_pos h1,if_pos h2];simp only[cY] at h2 h1 ⊢;simp only[cu,fW];have:(k.fmod (ns.length:Int)).toNat<ns.length:=by omega
   rw[fJ this];rfl
  apply cG
  .wtm_at "b"
   unfold K3;apply aM
   .apply gk
    .exact e1
    .apply fM
     .simp[hz]
     .wtm_at "a"
   .apply aR;apply aM
    .apply fQ;apply aF
     .apply aF
      .wtm_at "a"
      .apply aF
       .wtm_at "a"
       .apply bB
        .wtm_at "a"
        .exact JL (dZ h)
       .exact qj (by omega)
      .exact RN (dZ h) e2
     .apply aF
      .apply aF
       .wtm_at "a"
       .apply bB
        .wtm_at "a"
        .exact JL (dZ h)
       .exact vq (yL hb (by omega) (by decide))
      .wtm_at "a"
      .exact fL (Ju (by decide))
     .exact eE
    .have:iI ns k=(ns[(k.fmod ns.length).toNat]?.getD 0)+k.fdiv ((ns.map D.int).length:Int)*104729:=by unfold iI;rw[if_neg hz,cY]
     rw[this];exact dY
  .simp
  .rfl
end MX.P
end
section
namespace MX.P
open PySem L2 MX
noncomputable def co(k:Int)(p:Pt):Int:=if k=0 then p.1 else if k=1 then p.2.1 else p.2.2
theorem vz{k:Int}(h0:0<=k)(h2:k<=2)(p:Pt):gq [D.int p.1,.int p.2.1,.int p.2.2] k=some (.int (co k p)):=by
 have:k=0\/k=1\/k=2:=by omega
 rcases this with rfl|rfl|rfl<;>rfl
theorem zpM{Z:Sg}{S:So}{i j n:Nat}{k:Int}{pts:List Pt}(hi:Z[i]?=some (some (.ref n)))(hj:Z[j]?=some (some (.int k)))(hn:S[n]?=some (.lst (pts.map pD)))(hl:pts.length<=1000)(h0:0<=k)(h2:k<=2):
 eX (fK (aj i)) (aH 0) dW (eB aG (aj 0) (aj 1)) [none,some j] Z S=some (.ref S.length,S++[.lst ((pts.map (co k)).map .int)]):=by
 have key:jC (dH (.lst n)) (aH 0) dW (eB aG (aj 0) (aj 1)) (pts.map pD).length 0 [none,some (.int k)] S []=some ((pts.map (co k)).map .int,S):=by
  have:=Gb (nx:=dH (.lst n)) (g:=aH 0) (t:=dW) (fe:=eB aG (aj 0) (aj 1)) (S:=S) (xs:=pts.map pD) (λτ=>∃v,τ=[v,some (.int k)]) (λ_=>true) (λd=>match d with|.tup xs=>(gq xs k).getD .non|_ => .non)
   (λi=>by unfold dH;simp only;rw[hn]) (λd hd τ hT=>?_) (pts.map pD).length 0 [none,some (.int k)] [] ⟨none,rfl⟩ (by simp)
  .rw[this];congr 2;rw[sI,List.drop_zero,List.filter_eq_self.mpr (λ_ _=>rfl),List.map_map,List.map_map];refine List.map_congr_left λp _=>?_;show(gq [D.int p.1,.int p.2.1,.int p.2.2] k).getD .non=_;rw[vz h0 h2];rfl
  .obtain⟨v,rfl⟩:=hT;obtain⟨p,_,rfl⟩:=List.mem_map.mp hd;refine⟨[some (pD p),some (.int k)],rfl,⟨_,rfl⟩,rfl,λ_=>?_⟩;apply aF
   .wtm_at "a"
   .wtm_at "a"
   .show aG (.tup [D.int p.1,.int p.2.1,.int p.2.2]) (.int k) S=_;rw[cW (vz h0 h2 p)];show _=some ((gq [D.int p.1,.int p.2.1,.int p.2.2] k).getD .non,S);rw[vz h0 h2];rfl
 apply yq
 .exact lZ (aq hi) hn
 .show(match S[n]? with|some (.lst xs)=>some xs.length|some (.frz xs)=>some xs.length|_=>none)=_;rw[hn]
 .rw[sizeLine_eq,cY];omega
 .simp only[qJ,iJ,List.map_nil,cu,Option.bind_none,hj,Option.join_some];rfl
 .exact key
theorem sp_numbers_at{S:So}{n:Nat}{k:Int}{pts:List Pt}(hS:WF S)(hn:S[n]?=some (.lst (pts.map pD)))(hl:pts.length<=1000)(h0:0<=k)(h2:k<=2):
 GD [.ref n,.int k] S=some (.ref S.length,S++[.lst ((pts.map (co k)).map .int)]):=by
 apply nZ
 .wtm_at "b"
  unfold Wr;apply aM
  .apply fQ;exact zpM rfl rfl hn hl h0 h2
  .exact dY
 .intro h;simp[D.lo] at h
 .simp
 .simp[D.lo]
 .exact hS.snoc (yx _ _)
def Jd{ns:List Int}(h:ns≠[]):∃m,jL ns=some m:=by cases ns with|nil=>exact absurd rfl h|cons _ _=>exact⟨_,rfl⟩
def zX{ns:List Int}(h:ns≠[]):∃m,je ns=some m:=by cases ns with|nil=>exact absurd rfl h|cons _ _=>exact⟨_,rfl⟩
end MX.P
local macro_rules|`(tactic|wtm_at $s)=>uC s "d*P.sp_numbers_at l e @ % %#m+JM e @|+Sx e @"
namespace MX.P
theorem zgQ{S:So}{n:Nat}{pts:List Pt}{a0 a1 a2 b0 b1 b2:Int}(hS:WF S)(hn:S[n]?=some (.lst (pts.map pD)))(hl:pts.length<=1000)(h0:jL (pts.map (co 0))=some a0)(h1:jL (pts.map (co 1))=some a1)(h2:jL (pts.map (co 2))=some a2)(g0:je (pts.map (co 0))=some b0)(g1:je (pts.map (co 1))=some b1)(g2:je (pts.map (co 2))=some b2):
 yS [.ref n] S=some (.tup [P3 a0 a1 a2,P3 b0 b1 b2],S):=by
 apply cG
 .wtm_at "b"
  unfold Wm;wtm_at "a"
 .wtm_at "c"
 .rfl
theorem sp_are_in_order{S:So}{a b c d e f:Int}:Mt [P3 a b c,P3 d e f] S=some (.bl ([decide (a<=d),decide (b<=e),decide (c<=f)].all id),S):=by
 apply cG
 .wtm_at "b"
  unfold WW;wtm_at "a"
 .wtm_at "c"
 .rfl
theorem zjG:¬(D.tup [.str "triangle"]=D.tup [.str "box"]):=by intro h;simp only[D.tup.injEq,List.cons.injEq,D.str.injEq,and_true] at h;exact absurd h (by decide +kernel)
end MX.P
local macro_rules|`(tactic|wtm_at $s)=>uC s "d!P.sp_are_in_order"
namespace MX.P
theorem zfz{S:So}{a b c:D}:yP [.tup [.str "triangle",a,b,c]] S=some (.bl true,S):=by
 have:=zjG;apply cG
 .wtm_at "b"
  unfold Li;wtm_at "a"
 .wtm_at "c"
 .rfl
theorem zfA{S:So}{a b c d e f:Int}(h1:a<=d)(h2:b<=e)(h3:c<=f):yP [.tup [.str "box",P3 a b c,P3 d e f]] S=some (.bl true,S):=by
 have h:[decide (a<=d),decide (b<=e),decide (c<=f)].all id=true:=by simp[h1,h2,h3]
 apply cG
 .wtm_at "b"
  unfold Li;rw[<-h];wtm_at "a"
 .wtm_at "c"
 .rfl
end MX.P
end
section
local macro_rules|`(tactic|wtm_at $s)=>uC s "d&"
namespace MX.P
open PySem L2 MX
def zez{S:So}{sh:D}(h:yP [sh] S=some (.bl true,S)):Nt [sh] S=some (.non,S):=by
 apply Wk
 .wtm_at "b"
  unfold Xm;wtm_at "a"
 .wtm_at "c"
structure mD(pts:List Pt)(lo hi:Pt):Prop where
 h0:jL (pts.map (co 0))=some lo.1
 h1:jL (pts.map (co 1))=some lo.2.1
 h2:jL (pts.map (co 2))=some lo.2.2
 g0:je (pts.map (co 0))=some hi.1
 g1:je (pts.map (co 1))=some hi.2.1
 g2:je (pts.map (co 2))=some hi.2.2
theorem Q9{pts:List Pt}(h:pts≠[]):∃lo hi,mD pts lo hi:=by have hk:∀k,pts.map (co k)≠[]:=λk e=>h (List.map_eq_nil_iff.mp e);obtain⟨a,ha⟩:=Jd (hk 0);obtain⟨b,hb⟩:=Jd (hk 1);obtain⟨c,hc⟩:=Jd (hk 2);obtain⟨d,hd⟩:=zX (hk 0);obtain⟨e,he⟩:=zX (hk 1);obtain⟨f,hf⟩:=zX (hk 2);exact⟨(a,b,c),(d,e,f),⟨ha,hb,hc,hd,he,hf⟩⟩
def Ru{S:So}{n:Nat}{pts:List Pt}{lo hi:Pt}(hS:WF S)(hn:S[n]?=some (.lst (pts.map pD)))(hl:pts.length<=1000)(B:mD pts lo hi):yS [.ref n] S=some (.tup [pD lo,pD hi],S) :=
 zgQ hS hn hl B.h0 B.h1 B.h2 B.g0 B.g1 B.g2
theorem U5{S:So}{nm:Str}{pts:List Pt}{lo hi:Pt}(hS:WF S)(hl:pts.length<=1000)(hp:pts≠[])(B:mD pts lo hi)(h:yP [.tup (.str nm::pts.map pD)] S=some (.bl true,S)):vC [.tup (.str nm::pts.map pD)] S=some (.tup [pD lo,pD hi],S):=by
 have h1:=zez h;apply cG
 .wtm_at "b"
  unfold Uo;apply aM
  .apply qZ;apply bB
   .wtm_at "a"
   .exact dj rfl h1
  .apply aR;apply aM
   .apply fQ;apply bB
    .apply aJ
     .apply bB
      .apply aJ
       .apply Fd
        .wtm_at "a"
        .wtm_at "a"
        .wtm_at "a"
        .refine Ra (ys:=pts.map pD) ?_ JW
         rintro⟨e1,e2⟩
         have:HT.sIx (D.str nm::pts.map pD).length 0 (some 1)=1:=by unfold HT.sIx;simp
         omega
       .wtm_at "a"
      .exact Ub
     .wtm_at "a"
    .exact dj rfl (Ru (hS.snoc (lo_pts _ _)) b8 hl B)
   .exact dY
 .wtm_at "c"
 .rfl
noncomputable def cV(a b:Int):Int×Int:=((Rat.divInt a b).num,((Rat.divInt a b).den:Int))
def Ag{a b c d:Int}(hb:b≠0)(hd:d≠0)(h:a*d=c*b):cV a b=cV c d:=by unfold cV;rw[(Rat.divInt_eq_divInt_iff hb hd).mpr h]
theorem yJ{a b:Int}(hb:0<b):cV a b=(a / ((Nat.gcd a.natAbs b.natAbs:Nat):Int),b / ((Nat.gcd a.natAbs b.natAbs:Nat):Int)):=by
 unfold cV;rw[Rat.num_divInt,Rat.den_divInt,if_neg (by omega),Int.sign_eq_one_of_pos hb,Int.one_mul,Int.gcd_eq_natAbs_gcd_natAbs,Nat.gcd_comm];congr 1;have:(b.natAbs:Int)=b:=by omega
 rw[Int.natCast_ediv,this]
def SX{a b:Int}(hb:b≠0):0<Nat.gcd a.natAbs b.natAbs:=Nat.gcd_pos_of_pos_right _ (by omega)
def zlH(a b:Int):((Nat.gcd a.natAbs b.natAbs:Nat):Int) ∣ a:=by exact Int.ofNat_dvd_left.mpr (Nat.gcd_dvd_left _ _)
def zlG(a b:Int):((Nat.gcd a.natAbs b.natAbs:Nat):Int) ∣ b:=by exact Int.ofNat_dvd_left.mpr (Nat.gcd_dvd_right _ _)
def vO(a b:Int):0<(cV a b).2:=by unfold cV;have:=(Rat.divInt a b).den_pos;simp only;omega
theorem VL{a b:Int}(hb:b≠0):(cV a b).1*b=a*(cV a b).2:=by unfold cV;have h:=(Rat.divInt a b).num_divInt_den;have:=(Rat.divInt_eq_divInt_iff (by have:=(Rat.divInt a b).den_pos;omega) hb).mp h;exact this
def KJ(a b:Int):cV (cV a b).1 (cV a b).2=cV a b:=by unfold cV;simp only[Rat.num_divInt_den]
def yW{a b:Int}(ha:0<=a)(hb:0<b):0<=(cV a b).1:=by rw[yJ hb];exact Int.ediv_nonneg ha (by omega)
def Bd.of_le{k:Nat}{x y:Int}(h:Bd k y)(hx:x.natAbs<=y.natAbs):Bd k x:=Ed hx h
theorem Fx{k:Nat}{a b:Int}(ha:Bd k a)(hb:Bd k b)(h:0<b):Bd k (cV a b).1/\Bd k (cV a b).2:=by rw[yJ h];exact⟨Bd.of_le ha (Int.natAbs_ediv_le_natAbs _ _),Bd.of_le hb (Int.natAbs_ediv_le_natAbs _ _)⟩
theorem Rf{k:Nat}{a b:Int}(hb:Bd k b)(h:b≠0):Bd k ((Nat.gcd a.natAbs b.natAbs:Nat):Int):=by refine Bd.of_le hb ?_;show Nat.gcd a.natAbs b.natAbs<=b.natAbs;exact Nat.le_of_dvd (by omega) (Nat.gcd_dvd_right _ _)
theorem Q5:∀(N:Nat) (m n:Nat) (r:Option D) (S:So),n<=N->∃r',jV (bK (eB (bA .NotEq) (aj 1) (kq 0))) (aC (aX (eB (aB .Mod) (aj 0) (aj 1)) (aH 2)) (aC (aX (aj 1) (aH 0)) (aC (aX (aj 2) (aH 1)) aQ)))
 [some (.int (m:Nat)),some (.int (n:Nat)),r] S=some (.nx,[some (.int (Nat.gcd m n:Nat)),some (.int 0),r'],S)
 |N,m,0,r,S,_=>by
  refine⟨r,?_⟩;rw[Nat.gcd_zero_right];apply Fz;apply dM;apply aF
  .wtm_at "a"
  .wtm_at "a"
  .rfl
 |0,_,n+1,_,_,h=>by omega
 |N+1,m,n+1,r,S,h=>by
  obtain⟨r',e⟩:=Q5 N (n+1) (m % (n+1)) (some (.int ((m % (n+1):Nat):Int))) S (by have:=Nat.mod_lt m (show 0<n+1 by omega);omega);refine⟨r',?_⟩;have hg:Nat.gcd m (n+1)=Nat.gcd (n+1) (m % (n+1)):=by rw[Nat.gcd_comm m,Nat.gcd_rec,Nat.gcd_comm]
  rw[hg];have hm:((m:Nat):Int).fmod ((n+1:Nat):Int)=((m % (n+1):Nat):Int):=by rw[Int.fmod_eq_emod_of_nonneg _ (by omega)];rfl
  refine Kc (σ1:=[]) (fl := .nx) (S1:=S) (S2:=S) ?_ ?_ (.inl rfl) e
  .apply dM;have:D.bl true = .bl (!decide (((n+1:Nat):Int)=0)):=by rw[jt (by omega)];rfl
   rw[this];apply aF
   .wtm_at "a"
   .wtm_at "a"
   .wtm_at "g"
  .rw[<-hm];have h0:((n+1:Nat):Int)≠0:=by omega
   wtm_at "a"
theorem zeO(m n:Nat)(S:So):GQ [.int (m:Nat),.int (n:Nat)] S=some (.int (Nat.gcd m n:Nat),S):=by
 obtain⟨r',e⟩:=Q5 n m n none S (bH _);apply cG
 .wtm_at "b"
  unfold Xk;apply aM
  .exact e
  .apply aR;apply aM
   .apply fQ;apply bB
    .wtm_at "a"
    .exact RJ
   .have:(if((Nat.gcd m n:Nat):Int)<0 then -((Nat.gcd m n:Nat):Int) else((Nat.gcd m n:Nat):Int))=((Nat.gcd m n:Nat):Int):=if_neg (by omega);rw[this];exact dY
 .wtm_at "c"
 .rfl
abbrev rD(p:Int×Int):D:=R2 p.1 p.2
theorem Bj{k:Nat}{a b:Int}(ha:0<=a)(hb:0<b)(hk:Bd k b)(h8:k<=8000)(S:So):tQ [R2 a b] S=some (rD (cV a b),S):=by
 have e:GQ [.int a,.int b] S=some (.int ((Nat.gcd a.natAbs b.natAbs:Nat):Int),S):=by
  have:=zeO a.natAbs b.natAbs S;have h1:(a.natAbs:Int)=a:=by omega
  have h2:(b.natAbs:Int)=b:=by omega
  rw[h1,h2] at this;exact this
 have hg:=SX (a:=a) (show b≠0 by omega);have hd:dh ((Nat.gcd a.natAbs b.natAbs:Nat):Int)=true:=yL (Rf hk (by omega)) (by omega) h8;apply cG
 .wtm_at "b"
  unfold Xd;rw[yJ hb];rw[<-Int.fdiv_eq_ediv_of_nonneg a (show(0:Int)<=((Nat.gcd a.natAbs b.natAbs:Nat):Int) by omega),<-Int.fdiv_eq_ediv_of_nonneg b (show(0:Int)<=((Nat.gcd a.natAbs b.natAbs:Nat):Int) by omega)];wtm_at "a"
 .wtm_at "c"
 .rfl
theorem Q6{k:Nat}(hk:k<=8000):∀(N:Nat) (m n:Nat) (x y:D) (r:Option D) (S:So),n<=N->Bd k (m:Int)->Bd k (n:Int)->∃r',jV (bK (eB (bA .NotEq) (aj 3) (kq 0))) (aC (aX (eB (aB .Sub) (aj 2) (eB (aB .Mult) (eB (aB .FloorDiv) (aj 2) (aj 3)) (aj 3))) (aH 4)) (aC (aX (aj 3) (aH 2)) (aC (aX (aj 4) (aH 3)) aQ)))
 [some x,some y,some (.int (m:Nat)),some (.int (n:Nat)),r] S=some (.nx,[some x,some y,some (.int (Nat.gcd m n:Nat)),some (.int 0),r'],S)
 |N,m,0,x,y,r,S,_,_,_=>by
  refine⟨r,?_⟩;rw[Nat.gcd_zero_right];apply Fz;apply dM;apply aF
  .wtm_at "a"
  .wtm_at "a"
  .rfl
 |0,_,n+1,_,_,_,_,h,_,_=>by omega
 |N+1,m,n+1,x,y,r,S,h,bm,bn=>by
  have hlt:=Nat.mod_lt m (show 0<n+1 by omega);obtain⟨r',e⟩:=Q6 hk N (n+1) (m % (n+1)) x y (some (.int ((m % (n+1):Nat):Int))) S (by omega) bn (Bd.of_le bn (show m % (n+1)<=n+1 by omega));refine⟨r',?_⟩;have hg:Nat.gcd m (n+1)=Nat.gcd (n+1) (m % (n+1)):=by rw[Nat.gcd_comm m,Nat.gcd_rec,Nat.gcd_comm]
  rw[hg];have hm:((m:Nat):Int) - ((m:Nat):Int).fdiv ((n+1:Nat):Int)*((n+1:Nat):Int)=((m % (n+1):Nat):Int):=by rw[Int.fdiv_eq_ediv_of_nonneg _ (by omega)];have:=Int.mul_ediv_add_emod (m:Int) ((n+1:Nat):Int);rw[Int.mul_comm] at this;have e2:((m % (n+1):Nat):Int)=(m:Int) % ((n+1:Nat):Int):=rfl;rw[e2];omega
  have hdv:dh ((n+1:Nat):Int)=true:=yL bn (by omega) hk;have hmu:cg (((m:Nat):Int).fdiv ((n+1:Nat):Int)) ((n+1:Nat):Int)=true:=vD (Bd.fdiv bm (by omega)) bn (by omega);refine Kc (σ1:=[]) (fl := .nx) (S1:=S) (S2:=S) ?_ ?_ (.inl rfl) e
  .apply dM;have:D.bl true = .bl (!decide (((n+1:Nat):Int)=0)):=by rw[jt (by omega)];rfl
   rw[this];apply aF
   .wtm_at "a"
   .wtm_at "a"
   .wtm_at "g"
  .rw[<-hm];wtm_at "a"
theorem Ud{x g:Int}(h:g ∣ x)(hg:0<g):x.fdiv (0 - g) = -x / g:=by
 obtain⟨c,rfl⟩:=h;have h1 : -(g*c) / g = -c:=by rw[<-Int.mul_neg,Int.mul_ediv_cancel_left _ (by omega)]
 have h2:(g*c).fdiv (0 - g) = -c:=by
  have:g*c=(0 - g)*(-c):=by grind
  rw[this,Int.mul_fdiv_cancel_left _ (by omega)]
 rw[h1,h2]
theorem zmK{a b:Int}(hb:b<0):cV a b=(-a / ((Nat.gcd a.natAbs b.natAbs:Nat):Int),-b / ((Nat.gcd a.natAbs b.natAbs:Nat):Int)):=by have:=Ag (a:=a) (b:=b) (c := -a) (d := -b) (by omega) (by omega) (by grind);rw[this,yJ (by omega),Int.natAbs_neg,Int.natAbs_neg]
theorem zhx{k:Nat}{a b:Int}(hb:b≠0)(ba:Bd k a)(bb:Bd k b)(h8:k<=8000)(S:So):LR [.int a,.int b] S=some (rD (cV a b),S):=by
 have ea:(if a<0 then -a else a)=((a.natAbs:Nat):Int):=by split<;>omega
 have eb:(if b<0 then -b else b)=((b.natAbs:Nat):Int):=by split<;>omega
 obtain⟨r',e⟩:=Q6 (k:=k) h8 b.natAbs a.natAbs b.natAbs (.int a) (.int b) none S (bH _) (by unfold Bd at *;simpa using ba) (by unfold Bd at *;simpa using bb);have hg:=SX (a:=a) hb;have hgb:=Rf (a:=a) bb hb;have hd:dh ((Nat.gcd a.natAbs b.natAbs:Nat):Int)=true:=yL hgb (by omega) h8;have hd':dh (0 - ((Nat.gcd a.natAbs b.natAbs:Nat):Int))=true:=yL (k:=k) (by rw[Int.zero_sub];exact hgb.neg) (by omega) h8;by_cases hn:b<0
 .apply cG
  .wtm_at "b"
   unfold LK;apply aM
   .wtm_at "a"
   .apply aR;apply aM
    .wtm_at "a"
    .apply aR;rw[ea,eb];apply aM
     .exact e
     .apply aR;rw[zmK hn,<-Ud (zlH a b) (by omega),<-Ud (zlG a b) (by omega)];wtm_at "a"
  .wtm_at "c"
  .rfl
 .apply cG
  .wtm_at "b"
   unfold LK;apply aM
   .wtm_at "a"
   .apply aR;apply aM
    .wtm_at "a"
    .apply aR;rw[ea,eb];apply aM
     .exact e
     .apply aR;rw[yJ (by omega),<-Int.fdiv_eq_ediv_of_nonneg a (show(0:Int)<=((Nat.gcd a.natAbs b.natAbs:Nat):Int) by omega),<-Int.fdiv_eq_ediv_of_nonneg b (show(0:Int)<=((Nat.gcd a.natAbs b.natAbs:Nat):Int) by omega)];wtm_at "a"
  .wtm_at "c"
  .rfl
end MX.P
end
section
local macro_rules|`(tactic|wtm_at $s)=>uC s "d&|+P.sp_is_less & & & & ^"
namespace MX.P
open PySem L2 MX
noncomputable def jc(s w lo hi:Int):Int×Int:=if 0<w then(lo - s,w) else(s - hi,-w)
noncomputable def jA(s w lo hi:Int):Int×Int:=if 0<w then(hi - s,w) else(s - lo,-w)
theorem zfj(s w lo hi:Int)(S:So):Mj [.int s,.int w,.int lo,.int hi] S=some (.tup [rD (jc s w lo hi),rD (jA s w lo hi)],S):=by
 by_cases h:0<w
 .have e1:jc s w lo hi=(lo - s,w):=if_pos h;have e2:jA s w lo hi=(hi - s,w):=if_pos h;rw[e1,e2];apply cG
  .wtm_at "b"
   unfold Mh;wtm_at "a"
  .wtm_at "c"
  .rfl
 .have e1:jc s w lo hi=(s - hi,-w):=if_neg h;have e2:jA s w lo hi=(s - lo,-w):=if_neg h;rw[e1,e2];apply cG
  .wtm_at "b"
   unfold Mh;wtm_at "a"
  .wtm_at "c"
  .rfl
def fj(a b:Int×Int):Prop:=a.1*b.2<b.1*a.2
instance (a b:Int×Int):Decidable (fj a b):=by unfold fj;infer_instance
noncomputable def lD:Option (Int×Int)->D
 |none => .non
 |some p=>rD p
noncomputable def qz(w:Int)(a e:Int×Int):Int×Int:=if fj a e then e else a
noncomputable def su(a:Option (Int×Int))(l:Int×Int):Int×Int:=match a with
 |none=>l
 |some m=>if fj l m then l else m
theorem zjJ{σ0 σ1:D}{f:Int×Int}{l:D}{s lo hi:Int}{t:Option D}{S:So}(h1:lo<=s)(h2:s<=hi):
 qp [some σ0,some σ1,some (rD f),some l,some (.int s),some (.int 0),some (.int lo),some (.int hi),t] S=some (.ct,[some σ0,some σ1,some (rD f),some l,some (.int s),some (.int 0),some (.int lo),some (.int hi),t],S):=by
 unfold qp Ba;wtm_at "a"
theorem zjH{σ0 σ1:D}{f:Int×Int}{l:D}{s lo hi:Int}{t:Option D}{S:So}(h:s<lo\/hi<s):
 qp [some σ0,some σ1,some (rD f),some l,some (.int s),some (.int 0),some (.int lo),some (.int hi),t] S=some (.rt .non,[some σ0,some σ1,some (rD f),some l,some (.int s),some (.int 0),some (.int lo),some (.int hi),t],S):=by
 unfold qp Ba;by_cases h1:s<lo
 .wtm_at "a"
 .have h2:hi<s:=by omega
  wtm_at "a"
theorem Q7{k:Nat}{s w lo hi:Int}(hs:Bd k s)(hw:Bd k w)(hl:Bd k lo)(hh:Bd k hi):Bd (k+1) (jc s w lo hi).1/\Bd (k+1) (jc s w lo hi).2/\Bd (k+1) (jA s w lo hi).1/\Bd (k+1) (jA s w lo hi).2:=by
 unfold jc jA;have a1:=(hl.sub hs).le (show max k k+1<=k+1 by omega);have a2:=(hh.sub hs).le (show max k k+1<=k+1 by omega);have a3:=(hs.sub hh).le (show max k k+1<=k+1 by omega);have a4:=(hs.sub hl).le (show max k k+1<=k+1 by omega);have a5:=hw.le (show k<=k+1 by omega);split
 .exact⟨a1,a5,a2,a5⟩
 .exact⟨a3,a5.neg,a4,a5.neg⟩
def Gm(w:Int)(a e:Int×Int):qz w a e=a\/qz w a e=e:=by unfold qz;split<;>simp
theorem KY(a:Option (Int×Int))(l:Int×Int):su a l=l\/∃m,a=some m/\su a l=m:=by
 unfold su;split
 .exact .inl rfl
 .split
  .exact .inl rfl
  .exact .inr ⟨_,rfl,rfl⟩
theorem zjI{k:Nat}{σ0 σ1:D}{f:Int×Int}{l:Option (Int×Int)}{s w lo hi:Int}{t:Option D}{S:So}(hw:w≠0)(bs:Bd k s)(bw:Bd k w)(bl:Bd k lo)(bh:Bd k hi)(hk:k<=10000)(f1:Bd (k+1) f.1)(f2:Bd (k+1) f.2)(l1:∀m,l=some m->Bd (k+1) m.1/\Bd (k+1) m.2):
 ∃t',qp [some σ0,some σ1,some (rD f),some (lD l),some (.int s),some (.int w),some (.int lo),some (.int hi),t] S
  = some (.nx,[some σ0,some σ1,some (rD (qz w f (jc s w lo hi))),some (rD (su l (jA s w lo hi))),some (.int s),some (.int w),some (.int lo),some (.int hi),t'],S):=by
 obtain⟨b1,b2,b3,b4⟩:=Q7 bs bw bl bh;have tb:=zfj s w lo hi S;generalize jc s w lo hi=e at *
 generalize jA s w lo hi=g at *
 obtain⟨e1,e2⟩:=e;obtain⟨g1,g2⟩:=g;obtain⟨p1,p2⟩:=f;simp only at b1 b2 b3 b4 f1 f2;refine⟨some (.tup [R2 e1 e2,R2 g1 g2]),?_⟩;have s1:∀q:D,Ba [some σ0,some σ1,some (rD (p1,p2)),some q,some (.int s),some (.int w),some (.int lo),some (.int hi),t] S=some (.nx,[some σ0,some σ1,some (rD (p1,p2)),some q,some (.int s),some (.int w),some (.int lo),some (.int hi),t],S):=λq=>by unfold Ba;wtm_at "a"
 have s2:∀q:D,MT [some σ0,some σ1,some (rD (p1,p2)),some q,some (.int s),some (.int w),some (.int lo),some (.int hi),t] S=some (.nx,[some σ0,some σ1,some (rD (p1,p2)),some q,some (.int s),some (.int w),some (.int lo),some (.int hi),some (.tup [R2 e1 e2,R2 g1 g2])],S):=λq=>by unfold MT;wtm_at "a"
 have s3:∀q:D,M4 [some σ0,some σ1,some (rD (p1,p2)),some q,some (.int s),some (.int w),some (.int lo),some (.int hi),some (.tup [R2 e1 e2,R2 g1 g2])] S=some (.nx,[some σ0,some σ1,some (rD (qz w (p1,p2) (e1,e2))),some q,some (.int s),some (.int w),some (.int lo),some (.int hi),some (.tup [R2 e1 e2,R2 g1 g2])],S):=λq=>by
  unfold M4 qz;by_cases hc:p1*e2<e1*p2
  .rw[if_pos (show fj (p1,p2) (e1,e2) from hc)];wtm_at "a"
  .rw[if_neg (show ¬fj (p1,p2) (e1,e2) from hc)];wtm_at "a"
 have s4:∀q:Int×Int,Mp [some σ0,some σ1,some (rD q),some (lD l),some (.int s),some (.int w),some (.int lo),some (.int hi),some (.tup [R2 e1 e2,R2 g1 g2])] S=some (.nx,[some σ0,some σ1,some (rD q),some (rD (su l (g1,g2))),some (.int s),some (.int w),some (.int lo),some (.int hi),some (.tup [R2 e1 e2,R2 g1 g2])],S):=λq=>by
  unfold Mp su;cases l with
  |none =>
   show dw _ _ _ [some σ0,some σ1,some (rD q),some D.non,some (.int s),some (.int w),some (.int lo),some (.int hi),some (.tup [R2 e1 e2,R2 g1 g2])] S=_;wtm_at "a"
  |some m =>
   obtain⟨m1,m2⟩:=m;obtain⟨c1,c2⟩:=l1 _ rfl;simp only at c1 c2;show dw _ _ _ [some σ0,some σ1,some (rD q),some (R2 m1 m2),some (.int s),some (.int w),some (.int lo),some (.int hi),some (.tup [R2 e1 e2,R2 g1 g2])] S=_;by_cases hc:g1*m2<m1*g2
   .simp only;rw[if_pos (show fj (g1,g2) (m1,m2) from hc)];wtm_at "a"
   .simp only;rw[if_neg (show ¬fj (g1,g2) (m1,m2) from hc)];wtm_at "a"
 unfold qp;exact aM (s1 _) (aR (aM (s2 _) (aR (aM (s3 _) (aR (aM (s4 _) (aR fD)))))))
abbrev Ax:=(Int×Int)×Option (Int×Int)
noncomputable def eH(a:Ax)(s w lo hi:Int):Option Ax:=if w=0 then(if s<lo\/hi<s then none else some a) else some (qz w a.1 (jc s w lo hi),some (su a.2 (jA s w lo hi)))
def zG(k:Nat)(a:Ax):Prop:=Bd k a.1.1/\Bd k a.1.2/\∀m,a.2=some m->Bd k m.1/\Bd k m.2
theorem yH{k:Nat}{a a':Ax}{s w lo hi:Int}(hs:Bd k s)(hw:Bd k w)(hl:Bd k lo)(hh:Bd k hi)(h:zG (k+1) a)(e:eH a s w lo hi=some a'):zG (k+1) a':=by
 obtain⟨b1,b2,b3,b4⟩:=Q7 hs hw hl hh;unfold eH at e;split at e
 .split at e
  .cases e
  .cases e;exact h
 .cases e;refine⟨?_,?_,λm hm=>?_⟩
  .rcases Gm w a.1 (jc s w lo hi) with q|q<;>simp only[q]
   .exact h.1
   .exact b1
  .rcases Gm w a.1 (jc s w lo hi) with q|q<;>simp only[q]
   .exact h.2.1
   .exact b2
  .cases hm;rcases KY a.2 (jA s w lo hi) with q|⟨m,q1,q⟩<;>simp only[q]
   .exact⟨b3,b4⟩
   .exact h.2.2 m q1
def sE(ray box:D)(a:Ax)(Z:Sg):Prop:=∃j4 j5 j6 j7 j8:Option D,Z=[some ray,some box,some (rD a.1),some (lD a.2),j4,j5,j6,j7,j8]
abbrev Dp:GF:=iB 4 (cQ (aH 4) (cQ (aH 5) (cQ (aH 6) (cQ (aH 7) iR))))
theorem Ku{k:Nat}{ray box:D}{a:Ax}{Z:Sg}{s w lo hi:Int}{S:So}(hs:Bd k s)(hw:Bd k w)(hl:Bd k lo)(hh:Bd k hi)(hk:k<=10000)(hb:zG (k+1) a)(h:sE ray box a Z):
 ∃σ1,Dp (.tup [.int s,.int w,.int lo,.int hi]) Z S=some (σ1,S) /\
  match eH a s w lo hi with
  |none=>∃σ2,qp σ1 S=some (.rt .non,σ2,S)
  |some a'=>∃fl σ2,qp σ1 S=some (fl,σ2,S)/\(fl = .nx\/fl = .ct)/\sE ray box a' σ2:=by
 obtain⟨j4,j5,j6,j7,j8,rfl⟩:=h;refine⟨[some ray,some box,some (rD a.1),some (lD a.2),some (.int s),some (.int w),some (.int lo),some (.int hi),j8],rfl,?_⟩;unfold eH;by_cases h0:w=0
 .subst h0;rw[if_pos rfl];by_cases hc:s<lo\/hi<s
  .rw[if_pos hc];exact⟨_,zjH hc⟩
  .rw[if_neg hc];exact⟨_,_,zjJ (by omega) (by omega),.inr rfl,_,_,_,_,_,rfl⟩
 .rw[if_neg h0];obtain⟨t',e⟩:=zjI (σ0:=ray) (σ1:=box) (t:=j8) (S:=S) h0 hs hw hl hh hk hb.1 hb.2.1 hb.2.2;exact⟨_,_,e,.inl rfl,_,_,_,_,_,rfl⟩
noncomputable def gQ(o d lo hi:Pt):Option ((Int×Int)×(Int×Int)) :=
 (eH ((0,1),none) o.1 d.1 lo.1 hi.1).bind λa=>(eH a o.2.1 d.2.1 lo.2.1 hi.2.1).bind λb=>(eH b o.2.2 d.2.2 lo.2.2 hi.2.2).bind λc=>match c.2 with
  |none=>none
  |some l=>if fj l c.1 then none else some (c.1,l)
noncomputable def En:Option ((Int×Int)×(Int×Int))->D
 |none => .non
 |some p => .tup [rD p.1,rD p.2]
def aU(k:Nat)(p:Pt):Prop:=Bd k p.1/\Bd k p.2.1/\Bd k p.2.2
def aU.le{k l:Nat}{p:Pt}(h:aU k p)(hl:k<=l):aU l p:=⟨h.1.le hl,h.2.1.le hl,h.2.2.le hl⟩
theorem ou{a b:Ax}{s w lo hi:Int}(e:eH a s w lo hi=some b)(h:a.2≠none\/w≠0):b.2≠none:=by
 unfold eH at e;split at e
 .split at e
  .cases e
  .cases e;rcases h with h|h
   .exact h
   .rename_i q _;exact absurd q h
 .cases e;simp
theorem V4{k:Nat}{o d lo hi:Pt}(ho:aU k o)(hd:aU k d)(hl:aU k lo)(hh:aU k hi)(h0:d≠(0,0,0))(hk:k<=10000)(S:So):
 vH [.tup [pD o,pD d],.tup [pD lo,pD hi]] S=some (En (gQ o d lo hi),S):=by
 have s1:K6 [some (.tup [pD o,pD d]),some (.tup [pD lo,pD hi]),none,none,none,none,none,none,none] S=some (.nx,[some (.tup [pD o,pD d]),some (.tup [pD lo,pD hi]),some (R2 0 1),none,none,none,none,none,none],S):=by unfold K6;wtm_at "a"
 have s2:K7 [some (.tup [pD o,pD d]),some (.tup [pD lo,pD hi]),some (R2 0 1),none,none,none,none,none,none] S=some (.nx,[some (.tup [pD o,pD d]),some (.tup [pD lo,pD hi]),some (R2 0 1),some .non,none,none,none,none,none],S):=by unfold K7;wtm_at "a"
 have b0:zG (k+1) ((0,1),none):=by
  refine⟨?_,?_,λm hm=>by cases hm⟩
  .unfold Bd;simp;exact Nat.pos_of_ne_zero (by simp)
  .unfold Bd;simp;
 have st0:sE (.tup [pD o,pD d]) (.tup [pD lo,pD hi]) ((0,1),none) [some (.tup [pD o,pD d]),some (.tup [pD lo,pD hi]),some (R2 0 1),some .non,none,none,none,none,none]:=⟨_,_,_,_,_,rfl⟩
 have it:qI (ak (eB aG (aj 0) (kq 0)) (ak (eB aG (aj 0) (kq 1)) (ak (eB aG (aj 1) (kq 0)) (ak (eB aG (aj 1) (kq 1)) au)))) [some (.tup [pD o,pD d]),some (.tup [pD lo,pD hi]),some (R2 0 1),some .non,none,none,none,none,none] S=some (.zip [pD o,pD d,pD lo,pD hi],S):=by wtm_at "j"
 have n0:dH (.zip [pD o,pD d,pD lo,pD hi]) 0 S=some (some (.tup [.int o.1,.int d.1,.int lo.1,.int hi.1])):=rfl;have n1:dH (.zip [pD o,pD d,pD lo,pD hi]) (0+1) S=some (some (.tup [.int o.2.1,.int d.2.1,.int lo.2.1,.int hi.2.1])):=rfl;have n2:dH (.zip [pD o,pD d,pD lo,pD hi]) (0+1+1) S=some (some (.tup [.int o.2.2,.int d.2.2,.int lo.2.2,.int hi.2.2])):=rfl;have n3:dH (.zip [pD o,pD d,pD lo,pD hi]) (0+1+1+1) S=some none:=rfl;obtain⟨σ1,g1,t1⟩:=Ku (S:=S) ho.1 hd.1 hl.1 hh.1 hk b0 st0;have loop:match(eH ((0,1),none) o.1 d.1 lo.1 hi.1).bind λa=>(eH a o.2.1 d.2.1 lo.2.1 hi.2.1).bind λb=>eH b o.2.2 d.2.2 lo.2.2 hi.2.2 with
  |none=>∃Z',K8 [some (.tup [pD o,pD d]),some (.tup [pD lo,pD hi]),some (R2 0 1),some .non,none,none,none,none,none] S=some (.rt .non,Z',S)
  |some c=>∃Z',K8 [some (.tup [pD o,pD d]),some (.tup [pD lo,pD hi]),some (R2 0 1),some .non,none,none,none,none,none] S=some (.nx,Z',S)/\sE (.tup [pD o,pD d]) (.tup [pD lo,pD hi]) c Z'/\zG (k+1) c/\c.2≠none:=by
  cases e1:eH ((0,1),none) o.1 d.1 lo.1 hi.1 with
  |none =>
   rw[e1] at t1;obtain⟨σ2,t1⟩:=t1;exact⟨σ2,lG it rfl (lY n0 g1 t1 Ab)⟩
  |some a =>
   rw[e1] at t1;obtain⟨fl,σ2,t1,hfl,st1⟩:=t1;have b1:=yH ho.1 hd.1 hl.1 hh.1 b0 e1;obtain⟨σ3,g2,t2⟩:=Ku (S:=S) ho.2.1 hd.2.1 hl.2.1 hh.2.1 hk b1 st1;simp only[cu];cases e2:eH a o.2.1 d.2.1 lo.2.1 hi.2.1 with
   |none =>
    rw[e2] at t2;obtain⟨σ4,t2⟩:=t2;refine⟨σ4,lG it rfl (lY n0 g1 t1 ?_)⟩;rcases hfl with rfl|rfl<;>exact lY n1 g2 t2 Ab
   |some b =>
    rw[e2] at t2;obtain⟨fl2,σ4,t2,Dg,st2⟩:=t2;have b2:=yH ho.2.1 hd.2.1 hl.2.1 hh.2.1 b1 e2;obtain⟨σ5,g3,t3⟩:=Ku (S:=S) ho.2.2 hd.2.2 hl.2.2 hh.2.2 hk b2 st2;simp only[cu];cases e3:eH b o.2.2 d.2.2 lo.2.2 hi.2.2 with
    |none =>
     rw[e3] at t3;obtain⟨σ6,t3⟩:=t3;refine⟨σ6,lG it rfl (lY n0 g1 t1 ?_)⟩;rcases hfl with rfl|rfl<;>refine lY n1 g2 t2 ?_<;>rcases Dg with rfl|rfl<;>exact lY n2 g3 t3 Ab
    |some c =>
     rw[e3] at t3;obtain⟨Qk,σ6,t3,Qd,st3⟩:=t3;refine⟨σ6,lG it rfl (lY n0 g1 t1 ?_),st3,yH ho.2.2 hd.2.2 hl.2.2 hh.2.2 b2 e3,?_⟩
     .rcases hfl with rfl|rfl<;>refine lY n1 g2 t2 ?_<;>rcases Dg with rfl|rfl<;>refine lY n2 g3 t3 ?_<;>rcases Qd with rfl|rfl<;>exact JK (g:=Dp) (f:=qp) n3
     .by_cases q1:d.1=0
      .by_cases q2:d.2.1=0
       .have q3:d.2.2≠0:=λq3=>h0 (by show(d.1,d.2.1,d.2.2)=_;rw[q1,q2,q3]);exact ou e3 (.inr q3)
       .exact ou e3 (.inl (ou e2 (.inr q2)))
      .exact ou e3 (.inl (ou e2 (.inl (ou e1 (.inr q1)))))
 unfold gQ;have eb:((eH ((0,1),none) o.1 d.1 lo.1 hi.1).bind λa=>(eH a o.2.1 d.2.1 lo.2.1 hi.2.1).bind λb=>(eH b o.2.2 d.2.2 lo.2.2 hi.2.2).bind λc=>(match c.2 with
  |none=>none
  |some l=>if fj l c.1 then none else some (c.1,l):Option ((Int×Int)×(Int×Int))))=((eH ((0,1),none) o.1 d.1 lo.1 hi.1).bind λa=>(eH a o.2.1 d.2.1 lo.2.1 hi.2.1).bind λb=>eH b o.2.2 d.2.2 lo.2.2 hi.2.2).bind λc=>(match c.2 with
  |none=>none
  |some l=>if fj l c.1 then none else some (c.1,l)):=by
  simp only[Option.bind_assoc]
 rw[eb];cases e:(eH ((0,1),none) o.1 d.1 lo.1 hi.1).bind λa=>(eH a o.2.1 d.2.1 lo.2.1 hi.2.1).bind λb=>eH b o.2.2 d.2.2 lo.2.2 hi.2.2 with
 |none =>
  rw[e] at loop;obtain⟨Z',loop⟩:=loop;apply cG
  .wtm_at "b"
   unfold Gk;exact aM s1 (aR (aM s2 (aR (aM loop dY))))
  .wtm_at "c"
  .rfl
 |some c =>
  rw[e] at loop;obtain⟨Z',loop,⟨j4,j5,j6,j7,j8,rfl⟩,hb,hn⟩:=loop;obtain⟨⟨f1,f2⟩,l⟩:=c;cases l with
  |none=>exact absurd rfl hn
  |some l =>
   obtain⟨l1,l2⟩:=l;obtain⟨c1,c2,c3⟩:=hb;obtain⟨c3,c4⟩:=c3 _ rfl;simp only at c1 c2 c3 c4;simp only[cu];by_cases hc:l1*f2<f1*l2
   .rw[if_pos (show fj (l1,l2) (f1,f2) from hc)];apply cG
    .wtm_at "b"
     unfold Gk;refine aM s1 (aR (aM s2 (aR (aM loop (aR (aM (fl := .rt .non) (S1:=S) (σ1:=[some (.tup [pD o,pD d]),some (.tup [pD lo,pD hi]),some (R2 f1 f2),some (R2 l1 l2),j4,j5,j6,j7,j8]) ?_ dY))))));show Ar [some (.tup [pD o,pD d]),some (.tup [pD lo,pD hi]),some (R2 f1 f2),some (R2 l1 l2),j4,j5,j6,j7,j8] S=_;unfold Ar;wtm_at "a"
    .wtm_at "c"
    .rfl
   .rw[if_neg (show ¬fj (l1,l2) (f1,f2) from hc)];apply cG
    .wtm_at "b"
     unfold Gk;refine aM s1 (aR (aM s2 (aR (aM loop (aR (aM (fl := .nx) (S1:=S) (σ1:=[some (.tup [pD o,pD d]),some (.tup [pD lo,pD hi]),some (R2 f1 f2),some (R2 l1 l2),j4,j5,j6,j7,j8]) ?_ (aR (aM (fl := .rt (.tup [R2 f1 f2,R2 l1 l2])) (S1:=S) (σ1:=[some (.tup [pD o,pD d]),some (.tup [pD lo,pD hi]),some (R2 f1 f2),some (R2 l1 l2),j4,j5,j6,j7,j8]) ?_ dY))))))))
     .show Ar [some (.tup [pD o,pD d]),some (.tup [pD lo,pD hi]),some (R2 f1 f2),some (R2 l1 l2),j4,j5,j6,j7,j8] S=_;unfold Ar;wtm_at "a"
     .unfold WR;wtm_at "a"
    .wtm_at "c"
    .rfl
end MX.P
end
section
local macro_rules|`(tactic|wtm_at $s)=>uC s "d&"
namespace MX.P
open PySem L2 MX
structure xM(k:Nat)(p:(Int×Int)×(Int×Int)):Prop where
 f0:0<=p.1.1
 f2:0<p.1.2
 l0:0<=p.2.1
 l2:0<p.2.2
 b1:Bd k p.1.1
 b2:Bd k p.1.2
 b3:Bd k p.2.1
 b4:Bd k p.2.2
def Te{s w lo hi:Int}(h:w≠0):0<(jc s w lo hi).2/\0<(jA s w lo hi).2:=by unfold jc jA;split<;>simp<;>omega
def Hx(a:Ax):Prop:=0<=a.1.1/\0<a.1.2/\∀m,a.2=some m->0<m.2
theorem FW{a a':Ax}{s w lo hi:Int}(h:Hx a)(e:eH a s w lo hi=some a'):Hx a':=by
 unfold eH at e;split at e
 .split at e
  .cases e
  .cases e;exact h
 .rename_i hw;cases e;obtain⟨p1,p2⟩:=Te (s:=s) (lo:=lo) (hi:=hi) hw;refine⟨?_,?_,λm hm=>?_⟩
  .simp only;unfold qz;split
   .rename_i hc;unfold fj at hc;have:=h.1;have h2:=h.2.1;have h3:0<=a.1.1*(jc s w lo hi).2:=Int.mul_nonneg this (by omega);have h4:0<(jc s w lo hi).1*a.1.2:=by omega
    exact Int.le_of_lt (Int.pos_of_mul_pos_left h4 h2)
   .exact h.1
  .rcases Gm w a.1 (jc s w lo hi) with q|q<;>simp only[q]
   .exact h.2.1
   .exact p1
  .cases hm;rcases KY a.2 (jA s w lo hi) with q|⟨m,q1,q⟩<;>simp only[q]
   .exact p2
   .exact h.2.2 m q1
def leQ(a b:Int×Int):Prop:=a.1*b.2<=b.1*a.2
def oX{a b:Int×Int}(h:¬fj b a):leQ a b:=by unfold fj at h;unfold leQ;omega
def Uz{a b:Int×Int}(h:leQ a b):¬fj b a:=by unfold leQ at h;unfold fj;omega
def zm8(a:Int×Int):leQ a a:=Int.le_refl _
theorem yQ{a b c:Int×Int}(ha:0<a.2)(hb:0<b.2)(hc:0<c.2)(h1:leQ a b)(h2:leQ b c):leQ a c:=by
 unfold leQ at *
 have e1:=Int.mul_le_mul_of_nonneg_right h1 (Int.le_of_lt hc);have e2:=Int.mul_le_mul_of_nonneg_right h2 (Int.le_of_lt ha);refine Int.le_of_mul_le_mul_right (a:=b.2) ?_ hb;have i1:a.1*c.2*b.2=a.1*b.2*c.2:=by grind
 have i2:c.1*a.2*b.2=c.1*b.2*a.2:=by grind
 have i3:b.1*a.2*c.2=b.1*c.2*a.2:=by grind
 omega
def zjS{a b:Int×Int}(ha:0<a.2)(hb:0<b.2)(h1:leQ a b)(h2:leQ b a):cV a.1 a.2=cV b.1 b.2:=by
 unfold leQ at *
 exact Ag (by omega) (by omega) (by omega)
def zpL{a:Int×Int}(ha:0<a.2):leQ a (cV a.1 a.2)/\leQ (cV a.1 a.2) a:=by have:=VL (a:=a.1) (b:=a.2) (by omega);unfold leQ;omega
theorem U3{k:Nat}{o d lo hi:Pt}{p:(Int×Int)×(Int×Int)}(ho:aU k o)(hd:aU k d)(hl:aU k lo)(hh:aU k hi)(e:gQ o d lo hi=some p):xM (k+1) p:=by
 unfold gQ at e;simp only[bC] at e;obtain⟨a,e1,b,e2,c,e3,e4⟩:=e;have b0:zG (k+1) ((0,1),none):=by
  refine⟨?_,?_,λm hm=>by cases hm⟩
  .unfold Bd;simp;exact Nat.pos_of_ne_zero (by simp)
  .unfold Bd;simp
 have p0:Hx ((0,1),none):=⟨by simp,by simp,λm hm=>by cases hm⟩
 have b3:=yH ho.2.2 hd.2.2 hl.2.2 hh.2.2 (yH ho.2.1 hd.2.1 hl.2.1 hh.2.1 (yH ho.1 hd.1 hl.1 hh.1 b0 e1) e2) e3;have p3:=FW (FW (FW p0 e1) e2) e3;split at e4
 .cases e4
 .rename_i l hl';split at e4
  .cases e4
  .rename_i hc;cases e4;obtain⟨q1,q2⟩:=b3.2.2 _ hl';have q3:=p3.2.2 _ hl';have hle:=oX hc;refine⟨p3.1,p3.2.1,?_,q3,b3.1,b3.2.1,q1,q2⟩;unfold leQ at hle;have h1:0<=c.1.1*l.2:=Int.mul_nonneg p3.1 (by omega);have h2:0<=l.1*c.1.2:=by omega
   refine Int.le_of_mul_le_mul_right (a:=c.1.2) ?_ p3.2.1;simpa using h2
noncomputable def Pu:Option ((Int×Int)×(Int×Int))->D
 |none => .non
 |some p=>rD (cV p.1.1 p.1.2)
theorem zhw{k:Nat}{o d lo hi:Pt}(ho:aU k o)(hd:aU k d)(hl:aU k lo)(hh:aU k hi)(h0:d≠(0,0,0))(hk:k<=7000)(S:So):
 K9 [.tup [pD o,pD d],.tup [pD lo,pD hi]] S=some (Pu (gQ o d lo hi),S):=by
 have hs:=V4 ho hd hl hh h0 (by omega) S;cases e:gQ o d lo hi with
 |none =>
  rw[e] at hs;have hs:vH [.tup [pD o,pD d],.tup [pD lo,pD hi]] S=some (.non,S):=hs;apply cG
  .wtm_at "b"
   unfold K5;wtm_at "a"
  .wtm_at "c"
  .rfl
 |some p =>
  rw[e] at hs;have ok:=U3 ho hd hl hh e;obtain⟨⟨f1,f2⟩,⟨l1,l2⟩⟩:=p;have hs:vH [.tup [pD o,pD d],.tup [pD lo,pD hi]] S=some (.tup [R2 f1 f2,R2 l1 l2],S):=hs;have t1:=Bj ok.f0 ok.f2 ok.b2 (show k+1<=8000 by omega) S;simp only at t1;apply cG
  .wtm_at "b"
   unfold K5;wtm_at "a"
  .wtm_at "c"
  .rfl
theorem Z5{d:Pt}(h:d≠(0,0,0)):¬(pD d=P3 0 0 0):=λe=>by simp only[D.tup.injEq,List.cons.injEq,D.int.injEq,and_true] at e;exact h (by show(d.1,d.2.1,d.2.2)=_;rw[e.1,e.2.1,e.2.2])
theorem zey{o d:Pt}(h0:d≠(0,0,0))(S:So):Nu [.tup [pD o,pD d]] S=some (.non,S):=by
 have hne:=Z5 h0;apply Wk
 .wtm_at "b"
  unfold Xn;wtm_at "a"
 .wtm_at "c"
theorem zgk{k:Nat}{o d lo hi:Pt}(ho:aU k o)(hd:aU k d)(hl:aU k lo)(hh:aU k hi)(h0:d≠(0,0,0))(hk:k<=7000)(S:So):
 Am [.tup [pD o,pD d],.tup [.str "box",pD lo,pD hi]] S=some (Pu (gQ o d lo hi),S):=by
 have hm:=zhw ho hd hl hh h0 hk S;apply cG
 .wtm_at "b"
  unfold KR;wtm_at "a"
 .wtm_at "c"
 .cases gQ o d lo hi<;>rfl
end MX.P
end
section
namespace MX.P
open PySem L2 MX
noncomputable def wb(a b:Pt):Pt:=(b.1 - a.1,b.2.1 - a.2.1,b.2.2 - a.2.2)
noncomputable def aO(a b:Pt):Int:=a.1*b.1+a.2.1*b.2.1+a.2.2*b.2.2
noncomputable def aL(a b:Pt):Pt:=(a.2.1*b.2.2 - a.2.2*b.2.1,a.2.2*b.1 - a.1*b.2.2,a.1*b.2.1 - a.2.1*b.1)
theorem aU.wb{k l:Nat}{a b:Pt}(ha:aU k a)(hb:aU l b):aU (max k l+1) (wb a b) :=
 ⟨(hb.1.sub ha.1).le (by omega),(hb.2.1.sub ha.2.1).le (by omega),(hb.2.2.sub ha.2.2).le (by omega)⟩
theorem aU.cross{k l:Nat}{a b:Pt}(ha:aU k a)(hb:aU l b):aU (k+l+1) (aL a b) :=
 ⟨((ha.2.1.mul hb.2.2).sub (ha.2.2.mul hb.2.1)).le (by omega),((ha.2.2.mul hb.1).sub (ha.1.mul hb.2.2)).le (by omega),((ha.1.mul hb.2.1).sub (ha.2.1.mul hb.1)).le (by omega)⟩
theorem aU.dot{k l:Nat}{a b:Pt}(ha:aU k a)(hb:aU l b):Bd (k+l+2) (aO a b) :=
 (((ha.1.mul hb.1).add (ha.2.1.mul hb.2.1)).add (ha.2.2.mul hb.2.2)).le (by omega)
def sp_wb(a b:Pt)(S:So):fG [pD a,pD b] S=some (pD (wb a b),S):=zgi _ _ _ _ _ _ _
def sp_vdot{k l:Nat}{a b:Pt}(ha:aU k a)(hb:aU l b)(h:k+l<=134217728)(S:So):fX [pD a,pD b] S=some (.int (aO a b),S):=zqT ha.1 ha.2.1 ha.2.2 hb.1 hb.2.1 hb.2.2 h S
def sp_vcross{k l:Nat}{a b:Pt}(ha:aU k a)(hb:aU l b)(h:k+l<=134217728)(S:So):jz [pD a,pD b] S=some (pD (aL a b),S):=zmv ha.1 ha.2.1 ha.2.2 hb.1 hb.2.1 hb.2.2 h S
theorem Z4{a b:Pt}:pD a=pD b↔a=b:=by
 constructor
 .intro h;simp only[D.tup.injEq,List.cons.injEq,D.int.injEq,and_true] at h;exact Prod.ext h.1 (Prod.ext h.2.1 h.2.2)
 .intro h;rw[h]
def yC{a:Pt}:pD a=P3 0 0 0↔a=(0,0,0):=Z4 (b:=(0,0,0))
noncomputable def jR(a b:Int):Int:=if b>a then b else a
noncomputable def pU(a b:Int):Int:=if b<a then b else a
abbrev Tq:=Option (Int×Int)
noncomputable def Oc:Tq->D
 |none => .non
 |some p=>rD (cV p.1 p.2)
noncomputable def yd(o d a b:Pt):Tq :=
 if aL (wb o a) d=(0,0,0) then
  if jR (aO (wb o a) d) (aO (wb o b) d)<0 then none else some (jR (pU (aO (wb o a) d) (aO (wb o b) d)) 0,aO d d)
 else none
noncomputable def oN(o d a b:Pt):Tq :=
 if aL d (wb a b)=(0,0,0) then yd o d a b
 else if aO (wb o a) (aL d (wb a b))=0 then
  if aO (aL (wb o a) (wb a b)) (aL d (wb a b))<0\/aO (aL (wb o a) d) (aL d (wb a b))<0\/aO (aL d (wb a b)) (aL d (wb a b))<aO (aL (wb o a) d) (aL d (wb a b)) then none
  else some (aO (aL (wb o a) (wb a b)) (aL d (wb a b)),aO (aL d (wb a b)) (aL d (wb a b)))
 else none
theorem Gh(x:Int):0<=x*x:=by
 by_cases h:0<=x
 .exact Int.mul_nonneg h h
 .have:=Int.mul_nonneg (show 0 <= -x by omega) (show 0 <= -x by omega)
  rwa [Int.neg_mul_neg] at this
def Jp{x:Int}(h:x≠0):0<x*x:=by
 have h1:=Gh x;have:x*x≠0:=λe=>by rcases Int.mul_eq_zero.mp e with e|e<;>exact h e
 omega
theorem vL{a:Pt}(h:a≠(0,0,0)):0<aO a a:=by
 unfold aO;have h1:=Gh a.1;have h2:=Gh a.2.1;have h3:=Gh a.2.2;by_cases q1:a.1=0
 .by_cases q2:a.2.1=0
  .have q3:a.2.2≠0:=λq3=>h (by show(a.1,a.2.1,a.2.2)=_;rw[q1,q2,q3]);have:=Jp q3;omega
  .have:=Jp q2;omega
 .have:=Jp q1;omega
end MX.P
local macro_rules|`(tactic|wtm_at $s)=>uC s "d=P.sp_wb,,,|+P.sp_vdot & & ^|+P.sp_vcross & & ^|&"
namespace MX.P
open PySem L2 MX
theorem zgl{k:Nat}{o d a b:Pt}(ho:aU k o)(hd:aU k d)(ha:aU k a)(hb:aU k b)(h0:d≠(0,0,0))(hk:k<=1500)(S:So):
 Lz [.tup [pD o,pD d],pD a,pD b] S=some (Oc (yd o d a b),S):=by
 have w1:=(ho.wb ha).le (show max k k+1<=k+1 by omega);have w2:=(ho.wb hb).le (show max k k+1<=k+1 by omega);have hdd:=hd.dot hd;have hpos:=vL h0;unfold yd;by_cases hc:aL (wb o a) d=(0,0,0)
 .rw[if_pos hc];have hc':pD (aL (wb o a) d)=P3 0 0 0:=yC.mpr hc;by_cases hm:jR (aO (wb o a) d) (aO (wb o b) d)<0
  .rw[if_pos hm];unfold jR at hm;apply cG
   .wtm_at "b"
    unfold Gy;wtm_at "a"
   .wtm_at "c"
   .rfl
  .rw[if_neg hm];have hnn:0<=jR (pU (aO (wb o a) d) (aO (wb o b) d)) 0:=by unfold jR;split<;>omega
   have hl:=Bj hnn hpos hdd (show k+k+2<=8000 by omega) S;unfold jR pU at hl;unfold jR at hm;apply cG
   .wtm_at "b"
    unfold Gy;wtm_at "a"
   .wtm_at "c"
   .rfl
 .rw[if_neg hc];have hc':¬pD (aL (wb o a) d)=P3 0 0 0:=λe=>hc (yC.mp e);apply cG
  .wtm_at "b"
   unfold Gy;wtm_at "a"
  .wtm_at "c"
  .rfl
end MX.P
end
section
local macro_rules|`(tactic|wtm_at $s)=>uC s "d=P.sp_wb,,,|+P.sp_vdot & & ^|+P.sp_vcross & & ^|&"
namespace MX.P
open PySem L2 MX
theorem zfk{k:Nat}{o d a b:Pt}(ho:aU k o)(hd:aU k d)(ha:aU k a)(hb:aU k b)(h0:d≠(0,0,0))(hk:k<=1500)(S:So):
 Mi [.tup [pD o,pD d],pD a,pD b] S=some (Oc (oN o d a b),S):=by
 have w1:=(ho.wb ha).le (show max k k+1<=k+1 by omega);have w2:=(ha.wb hb).le (show max k k+1<=k+1 by omega);have w3:=hd.cross w2;have w4:=w1.cross w2;have w5:=w1.cross hd;have hdd:=w3.dot w3;have hal:=zgl ho hd ha hb h0 hk S;unfold oN;by_cases hc:aL d (wb a b)=(0,0,0)
 .rw[if_pos hc];have hc':pD (aL d (wb a b))=P3 0 0 0:=yC.mpr hc;apply cG
  .wtm_at "b"
   unfold vM;wtm_at "a"
  .wtm_at "c"
  .cases yd o d a b<;>rfl
 .rw[if_neg hc];have hpos:=vL hc;have hc':¬pD (aL d (wb a b))=P3 0 0 0:=λe=>hc (yC.mp e);by_cases hq:aO (wb o a) (aL d (wb a b))=0
  .rw[if_pos hq];by_cases p1:aO (aL (wb o a) (wb a b)) (aL d (wb a b))<0
   .rw[if_pos (.inl p1)];apply cG
    .wtm_at "b"
     unfold vM;wtm_at "a"
    .wtm_at "c"
    .rfl
   .by_cases p2:aO (aL (wb o a) d) (aL d (wb a b))<0
    .rw[if_pos (.inr (.inl p2))];apply cG
     .wtm_at "b"
      unfold vM;wtm_at "a"
     .wtm_at "c"
     .rfl
    .by_cases p3:aO (aL d (wb a b)) (aL d (wb a b))<aO (aL (wb o a) d) (aL d (wb a b))
     .rw[if_pos (.inr (.inr p3))];apply cG
      .wtm_at "b"
       unfold vM;wtm_at "a"
      .wtm_at "c"
      .rfl
     .rw[if_neg (by rintro(q|q|q);exact p1 q;exact p2 q;exact p3 q)];have hl:=Bj (show 0<=aO (aL (wb o a) (wb a b)) (aL d (wb a b)) by omega) hpos hdd (show k+(k+1)+1+(k+(k+1)+1)+2<=8000 by omega) S;apply cG
      .wtm_at "b"
       unfold vM;wtm_at "a"
      .wtm_at "c"
      .rfl
  .rw[if_neg hq];apply cG
   .wtm_at "b"
    unfold vM;wtm_at "a"
   .wtm_at "c"
   .rfl
def oY(k:Nat)(t:Tq):Prop:=∀p,t=some p->0<=p.1/\0<p.2/\Bd k p.1/\Bd k p.2
theorem yE{k:Nat}{o d a b:Pt}(ho:aU k o)(hd:aU k d)(ha:aU k a)(hb:aU k b)(h0:d≠(0,0,0)):oY (4*k+10) (oN o d a b):=by
 have w1:=(ho.wb ha).le (show max k k+1<=k+1 by omega);have w0:=(ho.wb hb).le (show max k k+1<=k+1 by omega);have w2:=(ha.wb hb).le (show max k k+1<=k+1 by omega);have w3:=hd.cross w2;have w4:=w1.cross w2;have hdd:=w3.dot w3;have h1:=vL h0;intro p hp;unfold oN at hp;split at hp
 .unfold yd at hp;split at hp
  .split at hp
   .cases hp
   .cases hp;have a1:=w1.dot hd;have a2:=w0.dot hd;refine⟨?_,h1,?_,(hd.dot hd).le (by omega)⟩
    .simp only;unfold jR;split<;>omega
    .simp only;have hz:Bd (4*k+10) 0:=(Bd.lit 0).le (Nat.zero_le _);have e1:=a1.le (show k+1+k+2<=4*k+10 by omega);have e2:=a2.le (show k+1+k+2<=4*k+10 by omega);unfold jR pU;split<;>split<;>assumption
  .cases hp
 .rename_i hc;have hpos:=vL hc;split at hp
  .split at hp
   .cases hp
   .rename_i hn;cases hp;refine⟨?_,hpos,(w4.dot w3).le (by omega),hdd.le (by omega)⟩;simp only;exact Int.not_lt.mp λq=>hn (.inl q)
  .cases hp
noncomputable def mQ(t:Tq):Tq:=t.map λp=>cV p.1 p.2
noncomputable def tD(t:Tq):D:=match t with
 |none => .non
 |some p=>rD p
def zqB(t:Tq):Oc t=tD (mQ t):=by cases t<;>rfl
noncomputable def pick(best new:Tq):Tq:=match new with
 |none=>best
 |some t=>match best with
  |none=>some t
  |some b=>if fj t b then some t else some b
noncomputable def p8(o d a b c:Pt):Tq:=pick (pick (pick none (mQ (oN o d a b))) (mQ (oN o d b c))) (mQ (oN o d c a))
theorem yD{k:Nat}{t:Tq}(h:oY k t):oY k (mQ t):=λp hp=>by
 unfold mQ at hp;cases t with
 |none=>cases hp
 |some q =>
  cases hp;obtain⟨h1,h2,h3,h4⟩:=h q rfl;obtain⟨b1,b2⟩:=Fx h3 h4 h2;exact⟨yW h1 h2,vO _ _,b1,b2⟩
def Af{k:Nat}{s t:Tq}(h:oY k s)(g:oY k t):oY k (pick s t):=by
 unfold pick;split
 .exact h
 .split
  .exact g
  .split
   .exact g
   .exact h
abbrev eL(a b c:Pt):O := .lst [.tup [pD a,pD b],.tup [pD b,pD c],.tup [pD c,pD a]]
theorem S9{n:Nat}{xs:List D}{S:So}(h:S[n]?=some (.lst xs)):qG (.lst n) S=some xs.length:=by show(match S[n]? with|some (.lst xs)=>some xs.length|some (.frz xs)=>some xs.length|_=>none)=_;rw[h]
def TQ{n i:Nat}{xs:List D}{S:So}(h:S[n]?=some (.lst xs))(hi:xs[i]?=none):dH (.lst n) i S=some none:=by unfold dH;simp only;rw[h];simp only;rw[hi]
theorem zii{a b c:Pt}{S:So}(hS:WF S):vJ [.tup [pD a,pD b,pD c]] S=some (.ref S.length,S++[eL a b c]):=by
 apply nZ
 .wtm_at "b"
  unfold Lh;wtm_at "a"
 .intro h;simp[D.lo] at h
 .simp
 .simp[D.lo]
 .exact hS.snoc rfl
theorem zhy{a b c:Pt}{n:Nat}{S:So}(hS:WF S)(hn:S[n]?=some (.lst [pD a,pD b,pD c])):vJ [.ref n] S=some (.ref S.length,S++[eL a b c]):=by
 apply nZ
 .wtm_at "b"
  unfold Lh;wtm_at "a"
 .intro h;simp[D.lo] at h
 .simp
 .simp[D.lo]
 .exact hS.snoc rfl
theorem Ky{k:Nat}{o d p q:Pt}{tr:D}{best:Tq}{x5:Option D}(ho:aU k o)(hd:aU k d)(hp:aU k p)(hq:aU k q)(h0:d≠(0,0,0))(hk:k<=1500)(hb:oY (4*k+10) best)(S:So):
 ∃y,NT [some (.tup [pD o,pD d]),some tr,some (tD best),some (pD p),some (pD q),x5] S=some (.nx,[some (.tup [pD o,pD d]),some tr,some (tD (pick best (mQ (oN o d p q)))),some (pD p),some (pD q),y],S):=by
 have hs:=zfk ho hd hp hq h0 hk S;rw[zqB] at hs;have hb':=yD (yE ho hd hp hq h0);generalize mQ (oN o d p q)=t at *
 have s1:M5 [some (.tup [pD o,pD d]),some tr,some (tD best),some (pD p),some (pD q),x5] S=some (.nx,[some (.tup [pD o,pD d]),some tr,some (tD best),some (pD p),some (pD q),some (tD t)],S):=by unfold M5;wtm_at "a"
 refine⟨some (tD t),?_⟩;unfold NT;refine aM s1 (aR (aM ?_ (aR fD)));unfold pick;cases t with
 |none =>
  show rm [some (.tup [pD o,pD d]),some tr,some (tD best),some (pD p),some (pD q),some .non] S=some (_,[some (.tup [pD o,pD d]),some tr,some (tD best),some (pD p),some (pD q),some .non],_);unfold rm;wtm_at "a"
 |some t =>
  obtain⟨t1,t2⟩:=t;obtain⟨_,_,b1,b2⟩:=hb' _ rfl;cases best with
  |none =>
   show rm [some (.tup [pD o,pD d]),some tr,some .non,some (pD p),some (pD q),some (R2 t1 t2)] S=some (_,[some (.tup [pD o,pD d]),some tr,some (R2 t1 t2),some (pD p),some (pD q),some (R2 t1 t2)],_);unfold rm;wtm_at "a"
  |some m =>
   obtain⟨m1,m2⟩:=m;obtain⟨_,_,c1,c2⟩:=hb _ rfl;have hless:=sp_is_less b1 b2 c1 c2 (show 4*k+10+(4*k+10)<=134217728 by omega) S;simp only at hless;by_cases hc:t1*m2<m1*t2
   .simp only;rw[if_pos (show fj (t1,t2) (m1,m2) from hc)];show rm [some (.tup [pD o,pD d]),some tr,some (R2 m1 m2),some (pD p),some (pD q),some (R2 t1 t2)] S=some (_,[some (.tup [pD o,pD d]),some tr,some (R2 t1 t2),some (pD p),some (pD q),some (R2 t1 t2)],_);unfold rm;wtm_at "a"
   .simp only;rw[if_neg (show ¬fj (t1,t2) (m1,m2) from hc)];show rm [some (.tup [pD o,pD d]),some tr,some (R2 m1 m2),some (pD p),some (pD q),some (R2 t1 t2)] S=some (_,[some (.tup [pD o,pD d]),some tr,some (R2 m1 m2),some (pD p),some (pD q),some (R2 t1 t2)],_);unfold rm;wtm_at "a"
theorem XM{k:Nat}{o d a b c:Pt}(ho:aU k o)(hd:aU k d)(ha:aU k a)(hb:aU k b)(hc:aU k c)(h0:d≠(0,0,0))(hk:k<=1500)(S:So)(hS:WF S):
 yU [.tup [pD o,pD d],.tup [pD a,pD b,pD c]] S=some (tD (p8 o d a b c),S):=by
 have n0:oY (4*k+10) none:=λp hp=>by cases hp
 have n1:=Af n0 (yD (yE ho hd ha hb h0));have n2:=Af n1 (yD (yE ho hd hb hc h0));obtain⟨y1,e1⟩:=Ky (tr := .tup [pD a,pD b,pD c]) (x5:=none) ho hd ha hb h0 hk n0 (S++[eL a b c]);obtain⟨y2,e2⟩:=Ky (tr := .tup [pD a,pD b,pD c]) (x5:=y1) ho hd hb hc h0 hk n1 (S++[eL a b c]);obtain⟨y3,e3⟩:=Ky (tr := .tup [pD a,pD b,pD c]) (x5:=y2) ho hd hc ha h0 hk n2 (S++[eL a b c]);have hz:D.lo S.length (tD (p8 o d a b c))=true:=by cases p8 o d a b c<;>rfl
 have hn:(S++[eL a b c])[S.length]?=some (eL a b c):=b8;have ed:=zii (a:=a) (b:=b) (c:=c) hS;have it:fK (eN (aY 1 vJ) (ak (aj 1) au)) [some (.tup [pD o,pD d]),some (.tup [pD a,pD b,pD c]),some .non,none,none,none] S=some (.lst S.length,S++[eL a b c]):=by wtm_at "j"
 have s2:Mg [some (.tup [pD o,pD d]),some (.tup [pD a,pD b,pD c]),some .non,none,none,none] S=some (.nx,[some (.tup [pD o,pD d]),some (.tup [pD a,pD b,pD c]),some (tD (p8 o d a b c)),some (pD c),some (pD a),y3],S++[eL a b c]):=by unfold Mg;refine lG it (n:=3) (S9 hn) ?_;exact lY (d := .tup [pD a,pD b]) (tL hn rfl) rfl e1 (Ft (lY (d := .tup [pD b,pD c]) (tL hn rfl) rfl e2 (Ft (lY (d := .tup [pD c,pD a]) (tL hn rfl) rfl e3 (Ft (JK (TQ hn rfl)))))))
 refine cG (Z':=[some (.tup [pD o,pD d]),some (.tup [pD a,pD b,pD c]),some (tD (p8 o d a b c)),some (pD c),some (pD a),y3]) (S':=S++[eL a b c]) ?_ (by simp) hz;wtm_at "b"
 unfold Xf Xz XC;exact aM (bN aN rfl) (aR (aM s2 (aR (aM (fQ (aq rfl)) dY))))
noncomputable def cL(o w p q:Pt):Int:=aO w (aL (wb o p) (wb o q))
noncomputable def cI(o w a b c:Pt):Bool:=(decide (0<=cL o w a b)&&decide (0<=cL o w b c)&&decide (0<=cL o w c a))||(decide (cL o w a b<=0)&&decide (cL o w b c<=0)&&decide (cL o w c a<=0))
theorem XF{k l:Nat}{o w a b c:Pt}(ho:aU k o)(hw:aU l w)(ha:aU k a)(hb:aU k b)(hc:aU k c)(hk:k<=10000)(hl:l<=30000)(S:So)(hS:WF S):
 qt [pD o,pD w,.tup [pD a,pD b,pD c]] S=some (.bl (cI o w a b c),S):=by
 have w1:=(ho.wb ha).le (show max k k+1<=k+1 by omega);have w2:=(ho.wb hb).le (show max k k+1<=k+1 by omega);have w3:=(ho.wb hc).le (show max k k+1<=k+1 by omega);have c1:=w1.cross w2;have c2:=w2.cross w3;have c3:=w3.cross w1;have em:jL [cL o w a b,cL o w b c,cL o w c a]=some (if cL o w c a<(if cL o w b c<cL o w a b then cL o w b c else cL o w a b) then cL o w c a else(if cL o w b c<cL o w a b then cL o w b c else cL o w a b)):=rfl;have eM:je [cL o w a b,cL o w b c,cL o w c a]=some (if cL o w c a>(if cL o w b c>cL o w a b then cL o w b c else cL o w a b) then cL o w c a else(if cL o w b c>cL o w a b then cL o w b c else cL o w a b)):=rfl;generalize hx:(if cL o w c a<(if cL o w b c<cL o w a b then cL o w b c else cL o w a b) then cL o w c a else(if cL o w b c<cL o w a b then cL o w b c else cL o w a b))=x at em;generalize hy:(if cL o w c a>(if cL o w b c>cL o w a b then cL o w b c else cL o w a b) then cL o w c a else(if cL o w b c>cL o w a b then cL o w b c else cL o w a b))=y at eM;have e1:cI o w a b c=(decide (0<=x)||decide (y<=0)):=by unfold cI;rw[Bool.eq_iff_iff];simp only[lg,dD,oK];subst hx hy;split<;>split<;>split<;>split<;>omega
 unfold cL at em eM;have gone:∃S1,eX (fK (aj 2)) (aH 0) dW (eN (aY 2 fG) (ak (aj 1) (ak (aj 0) au))) [none,some 0] [some (pD o),some (pD w),some (.tup [pD a,pD b,pD c]),none,none] S=some (.ref S.length,S1)/\S1=S++[.lst [pD (wb o a),pD (wb o b),pD (wb o c)]]:=by refine⟨_,?_,rfl⟩;wtm_at "a"
 obtain⟨S1,g1,g2⟩:=gone;have hS1:S1[S.length]?=some (.lst [pD (wb o a),pD (wb o b),pD (wb o c)]):=by rw[g2];exact b8
 have hW1:WF S1:=by rw[g2];exact hS.snoc rfl
 have ed:=zhy hW1 hS1;have hn2:(S1++[eL (wb o a) (wb o b) (wb o c)])[S1.length]?=some (eL (wb o a) (wb o b) (wb o c)):=b8;have sides:eX (fK (eN (aY 1 vJ) (ak (aj 3) au))) (iB 2 (cQ (aH 0) (cQ (aH 1) iR))) dW (eN (aY 2 fX) (ak (aj 2) (ak (eN (aY 2 jz) (ak (aj 0) (ak (aj 1) au))) au))) [none,none,some 1]
  [some (pD o),some (pD w),some (.tup [pD a,pD b,pD c]),some (.ref S.length),none] S1=some (.ref (S1++[eL (wb o a) (wb o b) (wb o c)]).length,S1++[eL (wb o a) (wb o b) (wb o c)]++[.lst ([aO w (aL (wb o a) (wb o b)),aO w (aL (wb o b) (wb o c)),aO w (aL (wb o c) (wb o a))].map D.int)]):=by
  refine yq (j := .lst S1.length) (n:=3) (S1:=S1++[eL (wb o a) (wb o b) (wb o c)]) ?_ (S9 hn2) (xV rfl) rfl ?_
  .exact lZ (bB (aJ (aq rfl) aZ) (dj rfl ed)) hn2
  .have one:∀(x y:Pt),aU (k+1) x->aU (k+1) y->eN (aY 2 fX) (ak (aj 2) (ak (eN (aY 2 jz) (ak (aj 0) (ak (aj 1) au))) au)) [some (pD x),some (pD y),some (pD w)] (S1++[eL (wb o a) (wb o b) (wb o c)])=some (.int (aO w (aL x y)),S1++[eL (wb o a) (wb o b) (wb o c)]):=λx y hx hy=>by have hxy:=hx.cross hy;wtm_at "a"
   refine yu (tL hn2 rfl) rfl yw (one _ _ w1 w2) rfl ?_;refine yu (tL hn2 rfl) rfl yw (one _ _ w2 w3) rfl ?_;refine yu (tL hn2 rfl) rfl yw (one _ _ w3 w1) rfl ?_;exact Fe (TQ hn2 rfl)
 rw[e1];have iU:∀o1 o2:O,(S1++[o1]++[o2]).take S.length=S:=λo1 o2=>by rw[g2];simp
 by_cases hxx:0<=x
 .rw[m6 hxx,Bool.true_or];apply cG
  .wtm_at "b"
   unfold MP;apply aM
   .exact bN g1 rfl
   .apply aR;apply aM
    .exact bN sides rfl
    .apply aR;apply aM
     .apply fQ;apply Je
      .apply aF
       .apply bB
        .wtm_at "a"
        .exact JM b8 em
       .wtm_at "a"
       .wtm_at "g"
      .apply jb
       .exact m6 hxx
       .rfl
     .exact dY
  .exact iU _ _
  .rfl
 .rw[jt hxx,Bool.false_or];apply cG
  .wtm_at "b"
   unfold MP;apply aM
   .exact bN g1 rfl
   .apply aR;apply aM
    .exact bN sides rfl
    .apply aR;apply aM
     .apply fQ;apply Je
      .apply aF
       .apply bB
        .wtm_at "a"
        .exact JM b8 em
       .wtm_at "a"
       .wtm_at "g"
      .apply fM
       .exact jt hxx
       .apply aF
        .apply bB
         .wtm_at "a"
         .exact Sx b8 eM
        .wtm_at "a"
        .wtm_at "g"
     .exact dY
  .exact iU _ _
  .rfl
noncomputable def yp(o d a b c up:Pt):Tq:=if cI o up a b c=true then some (0,1) else p8 o d a b c
theorem zmg{o d t up:D}{S:So}(hg:qt [o,up,t] S=some (.bl true,S)):zf [.tup [o,d],t,up] S=some (R2 0 1,S):=by
 apply cG
 .wtm_at "b"
  unfold Nf;wtm_at "a"
 .wtm_at "c"
 .rfl
theorem zmh{o d t up r:D}{S:So}(hg:qt [o,up,t] S=some (.bl false,S))(he:yU [.tup [o,d],t] S=some (r,S))(hr:D.lo S.length r=true):zf [.tup [o,d],t,up] S=some (r,S):=by
 apply cG
 .wtm_at "b"
  unfold Nf;apply aM
  .apply gk
   .wtm_at "a"
   .apply fM
    .rfl
    .wtm_at "a"
  .apply aR;apply aM
   .wtm_at "a"
   .wtm_at "n"
 .wtm_at "c"
 .exact hr
def zU(n:Nat)(t:Tq):D.lo n (tD t)=true:=by cases t<;>rfl
theorem zfy{k l:Nat}{o d a b c up:Pt}(ho:aU k o)(hd:aU k d)(ha:aU k a)(hb:aU k b)(hc:aU k c)(hu:aU l up)(h0:d≠(0,0,0))(hk:k<=1500)(hl:l<=30000)(S:So)(hS:WF S):
 zf [.tup [pD o,pD d],.tup [pD a,pD b,pD c],pD up] S=some (tD (yp o d a b c up),S):=by
 have hg:=XF ho hu ha hb hc (by omega) hl S hS;have he:=XM ho hd ha hb hc h0 hk S hS;unfold yp;by_cases q:cI o up a b c=true
 .rw[if_pos q];rw[q] at hg;exact zmg hg
 .rw[if_neg q];have q':cI o up a b c=false:=by simpa using q
  rw[q'] at hg;exact zmh hg he (zU _ _)
noncomputable def kj(o d a b c:Pt):Tq :=
 if aL (wb a b) (wb a c)=(0,0,0) then p8 o d a b c
 else if aO d (aL (wb a b) (wb a c))=0 then
  if aO (wb o a) (aL (wb a b) (wb a c))=0 then yp o d a b c (aL (wb a b) (wb a c)) else none
 else if aO d (aL (wb a b) (wb a c))<0 then
  if -aO (wb o a) (aL (wb a b) (wb a c))<0\/cI o d a b c=false then none else some (cV (-aO (wb o a) (aL (wb a b) (wb a c))) (-aO d (aL (wb a b) (wb a c))))
 else if aO (wb o a) (aL (wb a b) (wb a c))<0\/cI o d a b c=false then none else some (cV (aO (wb o a) (aL (wb a b) (wb a c))) (aO d (aL (wb a b) (wb a c))))
theorem zmm{o d a b c up:Pt}{r:D}{S:So}(hup:up=aL (wb a b) (wb a c))(hz:up=(0,0,0)){k:Nat}(w1:aU k (wb a b))(w2:aU k (wb a c))(hk:k<=10000)(he:yU [.tup [pD o,pD d],.tup [pD a,pD b,pD c]] S=some (r,S))(hr:D.lo S.length r=true):
 n6 [.tup [pD o,pD d],.tup [pD a,pD b,pD c]] S=some (r,S):=by
 have hz':pD (aL (wb a b) (wb a c))=P3 0 0 0:=yC.mpr (hup ▸ hz);apply cG
 .wtm_at "b"
  unfold qm;wtm_at "a"
 .wtm_at "c"
 .exact hr
end MX.P
end
section
local macro_rules|`(tactic|wtm_at $s)=>uC s "d&"
namespace MX.P
open PySem L2 MX
section
variable {o d a b c e1 e2 q r:D}{u:Pt}{U V:Int}{S:So}
theorem zqz(h1:fG [a,b] S=some (e1,S))(h2:fG [a,c] S=some (e2,S))(h3:jz [e1,e2] S=some (pD u,S))(hu:¬pD u=P3 0 0 0)(h4:fG [o,a] S=some (q,S))(h5:fX [q,pD u] S=some (.int U,S))(h6:fX [d,pD u] S=some (.int V,S))(hV:V=0)(hU:U=0)(hr:zf [.tup [o,d],.tup [a,b,c],pD u] S=some (r,S))(hl:D.lo S.length r=true):n6 [.tup [o,d],.tup [a,b,c]] S=some (r,S):=by
 apply cG
 .wtm_at "b"
  unfold qm;wtm_at "a"
 .wtm_at "c"
 .exact hl
theorem zoh(h1:fG [a,b] S=some (e1,S))(h2:fG [a,c] S=some (e2,S))(h3:jz [e1,e2] S=some (pD u,S))(hu:¬pD u=P3 0 0 0)(h4:fG [o,a] S=some (q,S))(h5:fX [q,pD u] S=some (.int U,S))(h6:fX [d,pD u] S=some (.int V,S))(hV:V=0)(hU:¬U=0):n6 [.tup [o,d],.tup [a,b,c]] S=some (.non,S):=by
 apply cG
 .wtm_at "b"
  unfold qm;wtm_at "a"
 .wtm_at "c"
 .rfl
theorem zqy(h1:fG [a,b] S=some (e1,S))(h2:fG [a,c] S=some (e2,S))(h3:jz [e1,e2] S=some (pD u,S))(hu:¬pD u=P3 0 0 0)(h4:fG [o,a] S=some (q,S))(h5:fX [q,pD u] S=some (.int U,S))(h6:fX [d,pD u] S=some (.int V,S))(Di:¬V=0)(hV:V<0)(hU : -U<0):n6 [.tup [o,d],.tup [a,b,c]] S=some (.non,S):=by
 apply cG
 .wtm_at "b"
  unfold qm;wtm_at "a"
 .wtm_at "c"
 .rfl
theorem zqw(h1:fG [a,b] S=some (e1,S))(h2:fG [a,c] S=some (e2,S))(h3:jz [e1,e2] S=some (pD u,S))(hu:¬pD u=P3 0 0 0)(h4:fG [o,a] S=some (q,S))(h5:fX [q,pD u] S=some (.int U,S))(h6:fX [d,pD u] S=some (.int V,S))(Di:¬V=0)(hV:V<0)(hU:¬-U<0)(hg:qt [o,d,.tup [a,b,c]] S=some (.bl false,S)):n6 [.tup [o,d],.tup [a,b,c]] S=some (.non,S):=by
 apply cG
 .wtm_at "b"
  unfold qm;wtm_at "a"
 .wtm_at "c"
 .rfl
theorem zqx(h1:fG [a,b] S=some (e1,S))(h2:fG [a,c] S=some (e2,S))(h3:jz [e1,e2] S=some (pD u,S))(hu:¬pD u=P3 0 0 0)(h4:fG [o,a] S=some (q,S))(h5:fX [q,pD u] S=some (.int U,S))(h6:fX [d,pD u] S=some (.int V,S))(Di:¬V=0)(hV:V<0)(hU:¬-U<0)(hg:qt [o,d,.tup [a,b,c]] S=some (.bl true,S))(hq:tQ [.tup [.int (-U),.int (-V)]] S=some (r,S))(hl:D.lo S.length r=true):n6 [.tup [o,d],.tup [a,b,c]] S=some (r,S):=by
 apply cG
 .wtm_at "b"
  unfold qm;wtm_at "a"
 .wtm_at "c"
 .exact hl
theorem zqv(h1:fG [a,b] S=some (e1,S))(h2:fG [a,c] S=some (e2,S))(h3:jz [e1,e2] S=some (pD u,S))(hu:¬pD u=P3 0 0 0)(h4:fG [o,a] S=some (q,S))(h5:fX [q,pD u] S=some (.int U,S))(h6:fX [d,pD u] S=some (.int V,S))(Di:¬V=0)(hV:¬V<0)(hU:U<0):n6 [.tup [o,d],.tup [a,b,c]] S=some (.non,S):=by
 apply cG
 .wtm_at "b"
  unfold qm;wtm_at "a"
 .wtm_at "c"
 .rfl
theorem zqt(h1:fG [a,b] S=some (e1,S))(h2:fG [a,c] S=some (e2,S))(h3:jz [e1,e2] S=some (pD u,S))(hu:¬pD u=P3 0 0 0)(h4:fG [o,a] S=some (q,S))(h5:fX [q,pD u] S=some (.int U,S))(h6:fX [d,pD u] S=some (.int V,S))(Di:¬V=0)(hV:¬V<0)(hU:¬U<0)(hg:qt [o,d,.tup [a,b,c]] S=some (.bl false,S)):n6 [.tup [o,d],.tup [a,b,c]] S=some (.non,S):=by
 apply cG
 .wtm_at "b"
  unfold qm;wtm_at "a"
 .wtm_at "c"
 .rfl
theorem zqu(h1:fG [a,b] S=some (e1,S))(h2:fG [a,c] S=some (e2,S))(h3:jz [e1,e2] S=some (pD u,S))(hu:¬pD u=P3 0 0 0)(h4:fG [o,a] S=some (q,S))(h5:fX [q,pD u] S=some (.int U,S))(h6:fX [d,pD u] S=some (.int V,S))(Di:¬V=0)(hV:¬V<0)(hU:¬U<0)(hg:qt [o,d,.tup [a,b,c]] S=some (.bl true,S))(hq:tQ [.tup [.int U,.int V]] S=some (r,S))(hl:D.lo S.length r=true):n6 [.tup [o,d],.tup [a,b,c]] S=some (r,S):=by
 apply cG
 .wtm_at "b"
  unfold qm;wtm_at "a"
 .wtm_at "c"
 .exact hl
end
theorem zeN{k:Nat}{o d a b c:Pt}(ho:aU k o)(hd:aU k d)(ha:aU k a)(hb:aU k b)(hc:aU k c)(h0:d≠(0,0,0))(hk:k<=1500)(S:So)(hS:WF S):
 n6 [.tup [pD o,pD d],.tup [pD a,pD b,pD c]] S=some (tD (kj o d a b c),S):=by
 have w1:=ha.wb hb;have w2:=ha.wb hc;have w3:=ho.wb ha;have wu:=w1.cross w2;have bU:=w3.dot wu;have bV:=hd.dot wu;have h1:=sp_wb a b S;have h2:=sp_wb a c S;have h3:=sp_vcross w1 w2 (by omega) S;have h4:=sp_wb o a S;have h5:=sp_vdot w3 wu (by omega) S;have h6:=sp_vdot hd wu (by omega) S;have hg:=XF ho hd ha hb hc (by omega) (by omega) S hS;have he:=XM ho hd ha hb hc h0 hk S hS;have hw:=zfy ho hd ha hb hc wu h0 hk (by omega) S hS;unfold kj;generalize hu:aL (wb a b) (wb a c)=u at *
 by_cases q0:u=(0,0,0)
 .rw[if_pos q0];exact zmm hu.symm q0 w1 w2 (by omega) he (zU _ _)
 .rw[if_neg q0];have hne:¬pD u=P3 0 0 0:=λh=>q0 (yC.mp h);generalize aO (wb o a) u=U at *
  generalize aO d u=V at *
  by_cases v0:V=0
  .rw[if_pos v0];by_cases u0:U=0
   .rw[if_pos u0];exact zqz h1 h2 h3 hne h4 h5 h6 v0 u0 hw (zU _ _)
   .rw[if_neg u0];exact zoh h1 h2 h3 hne h4 h5 h6 v0 u0
  .rw[if_neg v0];by_cases vn:V<0
   .rw[if_pos vn];by_cases un : -U<0
    .rw[if_pos (Or.inl un)];exact zqy h1 h2 h3 hne h4 h5 h6 v0 vn un
    .by_cases gg:cI o d a b c=false
     .rw[if_pos (Or.inr gg)];rw[gg] at hg;exact zqw h1 h2 h3 hne h4 h5 h6 v0 vn un hg
     .rw[if_neg (λh=>h.elim un gg)];have Qh:cI o d a b c=true:=by simpa using gg
      rw[Qh] at hg;exact zqx h1 h2 h3 hne h4 h5 h6 v0 vn un hg (Bj (by omega) (by omega) bV.neg (by omega) S) (zU S.length (some (cV (-U) (-V))))
   .rw[if_neg vn];by_cases un:U<0
    .rw[if_pos (Or.inl un)];exact zqv h1 h2 h3 hne h4 h5 h6 v0 vn un
    .by_cases gg:cI o d a b c=false
     .rw[if_pos (Or.inr gg)];rw[gg] at hg;exact zqt h1 h2 h3 hne h4 h5 h6 v0 vn un hg
     .rw[if_neg (λh=>h.elim un gg)];have Qh:cI o d a b c=true:=by simpa using gg
      rw[Qh] at hg;exact zqu h1 h2 h3 hne h4 h5 h6 v0 vn un hg (Bj (by omega) (by omega) bV (by omega) S) (zU S.length (some (cV U V)))
theorem znt{k:Nat}{o d a b c:Pt}(ho:aU k o)(hd:aU k d)(ha:aU k a)(hb:aU k b)(hc:aU k c)(h0:d≠(0,0,0)):oY (4*k+10) (p8 o d a b c) :=
 Af (Af (Af (λp hp=>by cases hp) (yD (yE ho hd ha hb h0))) (yD (yE ho hd hb hc h0))) (yD (yE ho hd hc ha h0))
theorem Fp{k:Nat}{o d a b c:Pt}(ho:aU k o)(hd:aU k d)(ha:aU k a)(hb:aU k b)(hc:aU k c)(h0:d≠(0,0,0)):oY (4*k+10) (kj o d a b c):=by
 have eb:=znt ho hd ha hb hc h0;have w1:=(ha.wb hb).le (show max k k+1<=k+1 by omega);have w2:=(ha.wb hc).le (show max k k+1<=k+1 by omega);have w3:=(ho.wb ha).le (show max k k+1<=k+1 by omega);have wu:=w1.cross w2;have bU:=(w3.dot wu).le (show k+1+(k+1+(k+1)+1)+2<=4*k+10 by omega);have bV:=(hd.dot wu).le (show k+(k+1+(k+1)+1)+2<=4*k+10 by omega);unfold kj yp;intro p hp;split at hp
 .exact eb p hp
 .split at hp
  .split at hp
   .split at hp
    .cases hp;exact⟨by decide,by decide,(Bd.lit 0).le (Nat.zero_le _),(Bd.lit 1).le (show 1<=4*k+10 by omega)⟩
    .exact eb p hp
   .cases hp
  .rename_i hV;split at hp
   .rename_i hn;split at hp
    .cases hp
    .rename_i hb;cases hp;obtain⟨b1,b2⟩:=Fx bU.neg bV.neg (by omega);exact⟨yW (Int.not_lt.mp λq=>hb (.inl q)) (by omega),vO _ _,b1,b2⟩
   .rename_i hn;split at hp
    .cases hp
    .rename_i hb;cases hp;obtain⟨b1,b2⟩:=Fx bU bV (by omega);exact⟨yW (Int.not_lt.mp λq=>hb (.inl q)) (by omega),vO _ _,b1,b2⟩
theorem zgj{k:Nat}{o d a b c:Pt}(ho:aU k o)(hd:aU k d)(ha:aU k a)(hb:aU k b)(hc:aU k c)(h0:d≠(0,0,0))(hk:k<=1500)(S:So)(hS:WF S):
 Am [.tup [pD o,pD d],.tup [.str "triangle",pD a,pD b,pD c]] S=some (tD (kj o d a b c),S):=by
 have hm:=zeN ho hd ha hb hc h0 hk S hS;apply cG
 .wtm_at "b"
  unfold KR;have t:bK (eB (bA .Eq) (eB aG (aj 1) (kq 0)) (eC (.str "box"))) [some (.tup [pD o,pD d]),some (.tup [.str "triangle",pD a,pD b,pD c])] S=some (false,S):=by have h:=dM (aF (fa:=eB aG (aj 1) (kq 0)) (fb:=eC (.str "box")) (Z:=[some (.tup [pD o,pD d]),some (.tup [.str "triangle",pD a,pD b,pD c])]) (S:=S) (aF (aq rfl) aN (cW rfl)) aN (Jf (x := .str "triangle") (y := .str "box") rfl 1 (by decide +kernel) (by decide +kernel) (by decide)));rw[h,jt (λe=>by simp only[D.str.injEq] at e;exact absurd e (by decide +kernel))]
  refine aM (gk t (fM rfl fD)) (aR ?_);wtm_at "a"
 .wtm_at "c"
 .cases kj o d a b c<;>rfl
inductive Sh where
 |box (lo hi:Pt)
 |tri (a b c:Pt)
noncomputable def d7:Sh->D
 |.box lo hi => .tup [.str "box",pD lo,pD hi]
 |.tri a b c => .tup [.str "triangle",pD a,pD b,pD c]
noncomputable def Sh.pts:Sh->List Pt
 |.box lo hi=>[lo,hi]
 |.tri a b c=>[a,b,c]
structure uX(k:Nat)(s:Sh):Prop where
 bd:∀p∈s.pts,aU k p
 ord:∀lo hi,s = .box lo hi->lo.1<=hi.1/\lo.2.1<=hi.2.1/\lo.2.2<=hi.2.2
noncomputable def jh(o d:Pt):Sh->Tq
 |.box lo hi=>(gQ o d lo hi).map λp=>cV p.1.1 p.1.2
 |.tri a b c=>kj o d a b c
def ZV(t:Option ((Int×Int)×(Int×Int))):Pu t=tD (t.map λp=>cV p.1.1 p.1.2):=by cases t<;>rfl
theorem zkH{k:Nat}{o d:Pt}{s:Sh}(ho:aU k o)(hd:aU k d)(hs:uX k s)(h0:d≠(0,0,0))(hk:k<=1500)(S:So)(hS:WF S):
 Am [.tup [pD o,pD d],d7 s] S=some (tD (jh o d s),S):=by
 cases s with
 |box lo hi =>
  have:=zgk ho hd (hs.bd lo (by simp[Sh.pts])) (hs.bd hi (by simp[Sh.pts])) h0 (by omega) S;rw[ZV] at this;exact this
 |tri a b c=>exact zgj ho hd (hs.bd a (by simp[Sh.pts])) (hs.bd b (by simp[Sh.pts])) (hs.bd c (by simp[Sh.pts])) h0 hk S hS
theorem Q8{k:Nat}{o d:Pt}{s:Sh}(ho:aU k o)(hd:aU k d)(hs:uX k s)(h0:d≠(0,0,0)):oY (4*k+10) (jh o d s):=by
 cases s with
 |box lo hi =>
  intro p hp;simp only[jh,bf] at hp;obtain⟨q,e,rfl⟩:=hp;have ok:=U3 ho hd (hs.bd lo (by simp[Sh.pts])) (hs.bd hi (by simp[Sh.pts])) e;have b:=Fx (k:=4*k+10) (ok.b1.le (by omega)) (ok.b2.le (by omega)) ok.f2;exact⟨yW ok.f0 ok.f2,vO _ _,b.1,b.2⟩
 |tri a b c=>exact Fp ho hd (hs.bd a (by simp[Sh.pts])) (hs.bd b (by simp[Sh.pts])) (hs.bd c (by simp[Sh.pts])) h0
theorem Kr:∀{ns:List Int} {m:Int},jL ns=some m->m∈ns:=by
 intro ns m h;cases ns with
 |nil=>cases h
 |cons a r =>
  have h':r.foldl (λx y=>if y<x then y else x) a=m:=by simpa[jL] using h
  clear h
  induction r generalizing a with
  |nil=>simp at h';subst h';simp
  |cons b r ih =>
   rw[List.foldl_cons] at h';have:=ih _ h';rcases List.mem_cons.mp this with e|e
   .rw[e];split<;>simp
   .exact cU _ (cU _ e)
theorem Ai:∀{ns:List Int} {m:Int},je ns=some m->m∈ns:=by
 intro ns m h;cases ns with
 |nil=>cases h
 |cons a r =>
  have h':r.foldl (λx y=>if y>x then y else x) a=m:=by simpa[je] using h
  clear h
  induction r generalizing a with
  |nil=>simp at h';subst h';simp
  |cons b r ih =>
   rw[List.foldl_cons] at h';have:=ih _ h';rcases List.mem_cons.mp this with e|e
   .rw[e];split<;>simp
   .exact cU _ (cU _ e)
theorem mD.bd{k:Nat}{pts:List Pt}{lo hi:Pt}(B:mD pts lo hi)(h:∀p∈pts,aU k p):aU k lo/\aU k hi:=by
 have m:∀{j:Int} {x:Int},(0<=j/\j<=2)->x∈pts.map (co j)->Bd k x:=λ{j x} hj hx=>by
  obtain⟨p,hp,rfl⟩:=List.mem_map.mp hx;have:=h p hp;unfold co;split
  .exact this.1
  .split
   .exact this.2.1
   .exact this.2.2
 exact⟨⟨m (by decide) (Kr B.h0),m (by decide) (Kr B.h1),m (by decide) (Kr B.h2)⟩,⟨m (by decide) (Ai B.g0),m (by decide) (Ai B.g1),m (by decide) (Ai B.g2)⟩⟩
theorem zoA{k:Nat}{s:Sh}(hs:uX k s):∃lo hi,mD s.pts lo hi/\aU k lo/\aU k hi/\∀S,WF S->vC [d7 s] S=some (.tup [pD lo,pD hi],S):=by
 obtain⟨lo,hi,B⟩:=Q9 (pts:=s.pts) (by cases s<;>simp[Sh.pts]);refine⟨lo,hi,B,(B.bd hs.bd).1,(B.bd hs.bd).2,λS hS=>?_⟩;cases s with
 |box l h =>
  obtain⟨o1,o2,o3⟩:=hs.ord l h rfl;exact U5 (nm := "box") (pts:=[l,h]) hS (by simp) (by simp) B (zfA o1 o2 o3)
 |tri a b c=>exact U5 (nm := "triangle") (pts:=[a,b,c]) hS (by simp) (by simp) B zfz
inductive Tr where
 |lf (lo hi:Pt) (i:Nat)
 |nd (lo hi:Pt) (l r:Tr)
abbrev HX(b x h:D):D := .obj "Tree" ["box", "number", "halves"] [b,x,h]
noncomputable def bF:Tr->D
 |.lf lo hi i=>HX (.tup [pD lo,pD hi]) (.int (i:Nat)) (.tup [])
 |.nd lo hi l r=>HX (.tup [pD lo,pD hi]) .non (.tup [bF l,bF r])
noncomputable def Tr.lo:Tr->Pt
 |.lf lo _ _=>lo
 |.nd lo _ _ _=>lo
noncomputable def Tr.hi:Tr->Pt
 |.lf _ hi _=>hi
 |.nd _ hi _ _=>hi
def qU(n:Nat):∀t:Tr,D.lo n (bF t)=true
 |.lf lo hi i=>by simp[bF,D.lo,c7]
 |.nd lo hi l r=>by simp[bF,D.lo,c7,qU n l,qU n r]
section
variable {Z σ1:Sg}{S S1 S2:So}{fe fo fv:EF}{d x:D}{C f:Str}{n:Nat}{ds:List D}{fa:AF}{φ:GN}
theorem qX{ks:List Str}{xs:List D}(h1:fe Z S=some (.obj C ks xs,S1))(hl:ks.length=xs.length)(h2:(ks.zip xs).lookup f=some d):gP C f fe Z S=some (d,S1):=by unfold gP;rw[h1];simp only[cu];rw[if_pos ⟨trivial,hl⟩,h2];rfl
theorem JH{fs:List (Str×D)}(h1:fe Z S=some (.ref n,S1))(h2:S1[n]?=some (.ins C fs))(h3:fs.lookup f=some d):gP C f fe Z S=some (d,S1):=by unfold gP;rw[h1];simp only[cu];rw[h2];simp only[if_true];rw[h3];rfl
theorem Aa{fs:List (Str×D)}{S3:So}(h1:fv Z S=some (d,S1))(h2:fo Z S1=some (.ref n,S2))(h3:S2[n]?=some (.ins C fs))(h4:fs.length<3)(h5:S2.set n (.ins C (uT f d fs))=S3):oU C f fo fv Z S=some (.nx,Z,S3):=by unfold oU;rw[h1];simp only[cu];rw[h2];simp only[cu];rw[h3];simp only;rw[if_pos ⟨trivial,h4⟩,h5]
theorem RK(h1:fa Z S=some (ds,S1))(hn:ds.length+1=n)(h2:φ (.ref S1.length::ds) (S1++[.ins C []])=some (.non,S2)):pI C n φ fa Z S=some (nA C S1.length S2):=by unfold pI;rw[h1];simp only[cu];unfold aY;rw[if_pos (by simpa using hn),h2];rfl
theorem z9{fs:List (Str×D)}{m:Str}{r:Option (D×So)}{ds:List D}{k:Nat}(h1:fo Z S=some (.ref k,S1))(h2:S1[k]?=some (.ins C fs))(h3:fs.lookup m=none)(h4:fa Z S1=some (ds,S2))(hn:ds.length+1=n)(h5:φ (.ref k::ds) S2=r):lV C m n φ fo fa Z S=r:=by unfold lV;rw[h1];simp only[cu];rw[h2];simp only;rw[if_pos ⟨trivial,h3⟩,h4];simp only[cu];unfold aY;rw[if_pos (by simpa using hn),h5]
theorem SN{k:Nat}{fb:SF}{S':So}{Z':Sg}(h:fb (oA k ds) S=some (.nx,Z',S'))(hne:¬S'.take S.length=S)(hl:S.length<=S'.length)(hw:WF S'):fnOf k fb ds S=some (.non,S'):=by unfold fnOf;rw[h];simp only;rw[if_neg hne,if_pos ⟨hl,hw⟩]
end
def Kd{S:So}{a b:O}:(S++[a]).set S.length b=S++[b]:=by simp
theorem zoB{S:So}{b x h:D}(hS:WF S)(hlo:c7 S.length [b,x,h]=true):yZ [.ref S.length,b,x,h] (S++[.ins "Tree" []])=some (.non,S++[.ins "Tree" [("box",b),("number",x),("halves",h)]]):=by
 apply SN
 .wtm_at "b"
  unfold NP;refine aM (Aa (aq rfl) (aq rfl) b8 (show(0:Nat)<3 by decide) Kd) (aR ?_);refine aM (Aa (aq rfl) (aq rfl) b8 (show(1:Nat)<3 by decide) Kd) (aR ?_);refine aM (Aa (aq rfl) (aq rfl) b8 (show(2:Nat)<3 by decide) Kd) (aR ?_);rfl
 .intro e;have:=congrArg (λl=>l[S.length]?) e;simp at this
 .simp
 .exact hS.snoc (by
   simpa[O.lo,uT] using hlo)
theorem Vc{Z:Sg}{S S1:So}{fa:AF}{b x h:D}(h1:fa Z S=some ([b,x,h],S1))(hS:WF S1)(hlo:c7 S1.length [b,x,h]=true):pI "Tree" 4 yZ fa Z S=some (HX b x h,S1):=by
 rw[RK (n:=4) h1 rfl (zoB hS hlo)];unfold nA;rw[b8];simp only;rw[if_pos]
 .simp
 .refine⟨trivial,by simp,by simp,by simpa using hlo,?_⟩;rw[List.all_eq_true];intro o ho;have ho':o∈S1:=by simpa using ho
  exact hS o ho'
def zpU{a b c m:Int}(h:m∈[a,b,c]):[a,b,c].idxOf m<=2:=by have:=List.idxOf_lt_length_iff.mpr h;simp only[jo,zJ] at this;omega
theorem znr{S:So}{n:Nat}{xs:List D}{ns:List Int}{m:Int}(h1:S[n]?=some (.lst xs))(h2:mW xs=some ns)(h:m∈ns):ye (.ref n) [.int m] S=some (.int (ns.idxOf m:Nat),S):=by unfold ye;simp only;rw[h1];simp only;rw[h2];simp only[cu];rw[if_pos h]
theorem zkE(lo hi:Pt):∃j:Nat,j<=2/\∀S,Mu [.tup [pD lo,pD hi]] S=some (.int (j:Nat),S):=by
 obtain⟨m,hm⟩:=zX (ns:=[hi.1 - lo.1,hi.2.1 - lo.2.1,hi.2.2 - lo.2.2]) (by simp);have mem:=Ai hm;refine⟨_,zpU mem,λS=>?_⟩;apply cG
 .wtm_at "b"
  unfold Xe;apply aM
  .apply bN
   .wtm_at "a"
   .wtm_at "h"
  .apply aR;apply aM
   .apply fQ;apply vo
    .wtm_at "a"
    .exact b8
    .apply aJ
     .apply bB
      .wtm_at "a"
      .exact Uc b8 rfl hm
     .exact aZ
    .exact znr b8 rfl mem
   .exact dY
 .wtm_at "c"
 .rfl
end MX.P
end
section
variable {A B C d o:MX.P.Pt}{K i j k:Nat}{S:MX.So}{U q s u v w x y:Int}{X:Int×Int->Prop}{a b t:Int×Int}{c h:Bool}{l:List Nat}{ns:List Int}{xs:List MX.D}{z:Nat->Nat->Int}{Z:MX.Sg}
section
namespace MX.P
open PySem L2 MX
end MX.P
local macro_rules|`(tactic|wtm_at $s)=>uC s "d=P.sp_drawn,,,|=P.sp_pt,,,|&"
namespace MX.P
open PySem L2 MX
def co0(p:Pt):co 0 p=p.1:=rfl
def co1(p:Pt):co 1 p=p.2.1:=rfl
def co2(p:Pt):co 2 p=p.2.2:=rfl
end MX.P
local macro_rules|`(tactic|wtm_at $s)=>uC s "d+P.sp_near @ @ % %"
namespace MX.P
end MX.P
end
section
local macro_rules|`(tactic|wtm_at $s)=>uC s "d&"
namespace MX.P
open PySem L2 MX
def lA(s w lo hi:Int)(t:Int×Int):Prop:=lo*t.2<=s*t.2+w*t.1/\s*t.2+w*t.1<=hi*t.2
def inB(o d lo hi:Pt)(t:Int×Int):Prop:=lA o.1 d.1 lo.1 hi.1 t/\lA o.2.1 d.2.1 lo.2.1 hi.2.1 t/\lA o.2.2 d.2.2 lo.2.2 hi.2.2 t
instance (s w lo hi:Int) (t:Int×Int):Decidable (lA s w lo hi t):=by unfold lA;infer_instance
instance (o d lo hi:Pt) (t:Int×Int):Decidable (inB o d lo hi t):=by unfold inB;infer_instance
noncomputable def rZ(j:Int)(o d lo hi:Pt):List (Int×Int):=if co j d=0 then[] else[cV (co j lo - co j o) (co j d),cV (co j hi - co j o) (co j d)]
def YL(o d lo hi:Pt)(t:Int×Int):Prop:=0<=t.1/\inB o d lo hi t
instance (o d lo hi:Pt) (t:Int×Int):Decidable (YL o d lo hi t):=by unfold YL;infer_instance
abbrev cN(o d:Pt):D := .tup [pD o,pD d]
theorem znf{lo hi:Int}(hw:w≠0):lA s w lo hi t↔leQ (jc s w lo hi) t/\leQ t (jA s w lo hi):=by
 unfold lA leQ jc jA;obtain⟨t1,t2⟩:=t;split
 .simp only;constructor
  .rintro⟨h1,h2⟩;constructor<;>grind
  .rintro⟨h1,h2⟩;constructor<;>grind
 .simp only;constructor
  .rintro⟨h1,h2⟩;constructor<;>grind
  .rintro⟨h1,h2⟩;constructor<;>grind
theorem Vg{lo hi:Int}(ht:0<t.2):lA s 0 lo hi t↔lo<=s/\s<=hi:=by unfold lA;simp only[Int.zero_mul,Int.add_zero];rw[Int.mul_le_mul_right ht,Int.mul_le_mul_right ht]
theorem zqk{e:Int×Int}(ha:0<a.2)(he:0<e.2)(ht:0<t.2):leQ (qz w a e) t↔leQ a t/\leQ e t:=by
 unfold qz;split
 .rename_i h;have:leQ a e:=by unfold fj at h;unfold leQ;omega
  exact⟨λq=>⟨yQ ha he ht this q,q⟩,λq=>q.2⟩
 .rename_i h;exact⟨λq=>⟨q,yQ he ha ht (oX h) q⟩,λq=>q.1⟩
theorem RT{a:Option (Int×Int)}{l:Int×Int}(ha:∀m,a=some m->0<m.2)(hl:0<l.2)(ht:0<t.2):leQ t (su a l)↔leQ t l/\∀m,a=some m->leQ t m:=by
 unfold su;split
 .exact⟨λq=>⟨q,λm hm=>by cases hm⟩,λq=>q.1⟩
 .rename_i m;have hm:=ha m rfl;split
  .rename_i h;have:leQ l m:=by unfold fj at h;unfold leQ;omega
   exact⟨λq=>⟨q,λn hn=>by cases hn;exact yQ ht hl hm q this⟩,λq=>q.1⟩
  .rename_i h;exact⟨λq=>⟨yQ ht hm hl q (oX h),λn hn=>by cases hn;exact q⟩,λq=>q.2 m rfl⟩
structure QF(C:Int×Int->Prop)(cs:List (Int×Int))(a:Ax):Prop where
 pos:Hx a
 iff:∀t:Int×Int,0<=t.1->0<t.2->(C t↔leQ a.1 t/\∀l,a.2=some l->leQ t l)
 fm:cV a.1.1 a.1.2∈cs
 lm:∀l,a.2=some l->cV l.1 l.2∈cs
theorem znx{j:Int}{lo hi:Pt}(hw:co j d≠0):cV (jc (co j o) (co j d) (co j lo) (co j hi)).1 (jc (co j o) (co j d) (co j lo) (co j hi)).2∈rZ j o d lo hi/\cV (jA (co j o) (co j d) (co j lo) (co j hi)).1 (jA (co j o) (co j d) (co j lo) (co j hi)).2∈rZ j o d lo hi:=by
 unfold rZ jc jA;rw[if_neg hw];split
 .simp
 .rename_i hn;simp only;rw[Ag (a:=co j o - co j hi) (b := -co j d) (c:=co j hi - co j o) (d:=co j d) (by omega) hw (by grind),Ag (a:=co j o - co j lo) (b := -co j d) (c:=co j lo - co j o) (d:=co j d) (by omega) hw (by grind)];simp
theorem JS{C:Int×Int->Prop}{cs:List (Int×Int)}{a:Ax}{j:Int}{lo hi:Pt}(h:QF C cs a):
 match eH a (co j o) (co j d) (co j lo) (co j hi) with
 |none=>∀t:Int×Int,0<=t.1->0<t.2->¬(C t/\lA (co j o) (co j d) (co j lo) (co j hi) t)
 |some b=>QF (λt=>C t/\lA (co j o) (co j d) (co j lo) (co j hi) t) (cs++rZ j o d lo hi) b:=by
 cases e:eH a (co j o) (co j d) (co j lo) (co j hi) with
 |none =>
  simp only;intro t h0 ht hc;unfold eH at e;split at e
  .rename_i hw;split at e
   .rename_i hx;have:=hc.2;rw[hw,Vg ht] at this;omega
   .cases e
  .cases e
 |some b =>
  simp only;have hp:=FW h.pos e;unfold eH at e;split at e
  .rename_i hw;split at e
   .cases e
   .rename_i hx;cases e;refine⟨h.pos,λt h0 ht=>?_,List.mem_append_left _ h.fm,λl hl=>List.mem_append_left _ (h.lm l hl)⟩;rw[<-h.iff t h0 ht,hw,Vg ht];exact⟨λq=>q.1,λq=>⟨q,by omega,by omega⟩⟩
  .rename_i hw;cases e;obtain⟨p1,p2⟩:=Te (s:=co j o) (lo:=co j lo) (hi:=co j hi) hw;obtain⟨m1,m2⟩:=znx (o:=o) (lo:=lo) (hi:=hi) hw;refine⟨hp,λt h0 ht=>?_,?_,λl hl=>?_⟩
   .simp only;rw[znf hw,h.iff t h0 ht,zqk h.pos.2.1 p1 ht];constructor
    .rintro⟨⟨q1,q2⟩,q3,q4⟩
     exact⟨⟨q1,q3⟩,λl hl=>by cases hl;exact(RT h.pos.2.2 p2 ht).mpr ⟨q4,q2⟩⟩
    .rintro⟨⟨q1,q3⟩,q⟩
     have:=(RT h.pos.2.2 p2 ht).mp (q _ rfl);exact⟨⟨q1,this.2⟩,q3,this.1⟩
   .simp only;rcases Gm (co j d) a.1 (jc (co j o) (co j d) (co j lo) (co j hi)) with q|q<;>rw[q]
    .exact List.mem_append_left _ h.fm
    .exact List.mem_append_right _ m1
   .cases hl;rcases KY a.2 (jA (co j o) (co j d) (co j lo) (co j hi)) with q|⟨m,q1,q⟩<;>rw[q]
    .exact List.mem_append_right _ m2
    .exact List.mem_append_left _ (h.lm m q1)
end MX.P
end
section
namespace MX.P
def nH(k:Int)(d:Pt)(q u v w:Int)(A B C:Pt):Prop:=k*d.1=q*(u*A.1+v*B.1+w*C.1)/\k*d.2.1=q*(u*A.2.1+v*B.2.1+w*C.2.1)/\k*d.2.2=q*(u*A.2.2+v*B.2.2+w*C.2.2)
def jN(d A B C:Pt)(t:Int×Int):Prop:=∃u v w:Int,0<=u/\0<=v/\0<=w/\0<u+v+w/\nH ((u+v+w)*t.1) d t.2 u v w A B C
def zu(d A B:Pt)(t:Int×Int):Prop:=∃u v:Int,0<=u/\0<=v/\0<u+v/\nH ((u+v)*t.1) d t.2 u v 0 A B A
theorem nH.dot{k:Int}(h:nH k d q u v w A B C)(n:Pt):k*aO d n=q*(u*aO A n+v*aO B n+w*aO C n):=by
 obtain⟨h1,h2,h3⟩:=h;have e:k*aO d n=(k*d.1)*n.1+(k*d.2.1)*n.2.1+(k*d.2.2)*n.2.2:=by unfold aO;grind
 rw[e,h1,h2,h3];unfold aO;grind
def QH{k:Int}(hk:0<k)(h:k*x=k*y):x=y:=Int.eq_of_mul_eq_mul_left (by omega) h
def Ij{k:Int}(hk:0<k)(h:0=k*x):x=0:=by
 rcases Int.mul_eq_zero.mp h.symm with e|e
 .omega
 .exact e
def Inv(X:Int×Int->Prop):Prop:=∀t r:Int×Int,0<t.2->0<r.2->t.1*r.2=r.1*t.2->X t->X r
theorem T5{q:Int}{r:Int×Int}(ht:0<t.2)(e:t.1*r.2=r.1*t.2)(h:nH (s*t.1) d t.2 u v w A B C):nH (s*r.1) d r.2 u v w A B C:=by
 obtain⟨h1,h2,h3⟩:=h;have f:∀x y:Int,s*t.1*x=t.2*y->s*r.1*x=r.2*y:=λx y h=>by
  refine QH ht ?_;have e1:t.2*(s*r.1*x)=s*x*(r.1*t.2):=by grind
  have e2:t.2*(r.2*y)=r.2*(t.2*y):=by grind
  rw[e1,e2,<-e,<-h];grind
 exact⟨f _ _ h1,f _ _ h2,f _ _ h3⟩
def JR(d A B C:Pt):Inv (jN d A B C):=λt r ht _ e ⟨u,v,w,h1,h2,h3,h4,h⟩=>⟨u,v,w,h1,h2,h3,h4,T5 (q:=0) ht e h⟩
def zpS(d A B:Pt):Inv (zu d A B):=λt r ht _ e ⟨u,v,h1,h2,h4,h⟩=>⟨u,v,h1,h2,h4,T5 (q:=0) ht e h⟩
theorem zr8(h:zu d A B t):jN d A B C t:=by obtain⟨u,v,h1,h2,h4,c1,c2,c3⟩:=h;refine⟨u,v,0,h1,h2,by omega,by omega,?_,?_,?_⟩<;>grind
theorem zr7(h:zu d B C t):jN d A B C t:=by obtain⟨u,v,h1,h2,h4,c1,c2,c3⟩:=h;refine⟨0,u,v,by omega,h1,h2,by omega,?_,?_,?_⟩<;>grind
theorem zr6(h:zu d C A t):jN d A B C t:=by obtain⟨u,v,h1,h2,h4,c1,c2,c3⟩:=h;refine⟨v,0,u,h2,by omega,h1,by omega,?_,?_,?_⟩<;>grind
def oH(m:Tq)(X:Int×Int->Prop):Prop:=match m with
 |none=>∀t:Int×Int,0<=t.1->0<t.2->¬X t
 |some r=>0<=r.1/\0<r.2/\X r/\∀t:Int×Int,0<=t.1->0<t.2->X t->leQ r t
theorem zrX{c:Int×Int}(ha:0<a.2)(hb:0<b.2)(hc:0<c.2)(h1:leQ a b)(h2:leQ b c):leQ a c:=by
 unfold leQ at *
 have h3:=Int.mul_le_mul_of_nonneg_right h1 (show 0<=c.2 by omega);have h4:=Int.mul_le_mul_of_nonneg_right h2 (show 0<=a.2 by omega);have e1:a.1*b.2*c.2=b.2*(a.1*c.2):=by grind
 have e2:c.1*b.2*a.2=b.2*(c.1*a.2):=by grind
 have e3:b.1*a.2*c.2=b.1*c.2*a.2:=by grind
 refine Int.le_of_mul_le_mul_left (a:=b.2) ?_ hb;omega
theorem oH.red{m:Tq}(hi:Inv X)(hm:oH m X):oH (mQ m) X:=by
 cases m with
 |none=>exact hm
 |some r =>
  obtain⟨h1,h2,h3,h4⟩:=hm;have hp:=vO r.1 r.2;have hc:=VL (a:=r.1) (b:=r.2) (by omega);refine⟨yW h1 h2,hp,hi r _ h2 hp hc.symm h3,λt g1 g2 g3=>zrX hp h2 g2 ?_ (h4 t g1 g2 g3)⟩;unfold leQ;show(cV r.1 r.2).1*r.2<=r.1*(cV r.1 r.2).2;omega
def qM(m:Tq):Prop:=∀r,m=some r->cV r.1 r.2=r
theorem oH.uniq{m n:Tq}(hm:oH m X)(hn:oH n X)(r1:qM m)(r2:qM n):m=n:=by
 cases m with
 |none =>
  cases n with
  |none=>rfl
  |some r=>exact absurd hn.2.2.1 (hm r hn.1 hn.2.1)
 |some s =>
  cases n with
  |none=>exact absurd hm.2.2.1 (hn s hm.1 hm.2.1)
  |some r =>
   have a1:=hm.2.2.2 r hn.1 hn.2.1 hn.2.2.1;have a2:=hn.2.2.2 s hm.1 hm.2.1 hm.2.2.1;have p1:=hm.2.1;have p2:=hn.2.1;have e:=Ag (a:=s.1) (b:=s.2) (c:=r.1) (d:=r.2) (by omega) (by omega) (by unfold leQ at a1 a2;omega);rw[r1 s rfl,r2 r rfl] at e;rw[e]
def Aj(m:Tq):qM (mQ m):=λr hr=>by
 cases m with
 |none=>cases hr
 |some p=>cases hr;exact KJ _ _
def Ka{m n:Tq}(hm:qM m)(hn:qM n):qM (pick m n):=by
 unfold pick;split
 .exact hm
 .split
  .exact hn
  .split
   .exact hn
   .exact hm
def Tg{a b:Pt}(h1:a.1=b.1)(h2:a.2.1=b.2.1)(h3:a.2.2=b.2.2):a=b:=Prod.ext h1 (Prod.ext h2 h3)
theorem lag(x d e:Pt):aO (aL d e) (aL d e)*x.1=aO (aL x e) (aL d e)*d.1 - aO (aL x d) (aL d e)*e.1+aO x (aL d e)*(aL d e).1
 /\ aO (aL d e) (aL d e)*x.2.1=aO (aL x e) (aL d e)*d.2.1 - aO (aL x d) (aL d e)*e.2.1+aO x (aL d e)*(aL d e).2.1
 /\ aO (aL d e) (aL d e)*x.2.2=aO (aL x e) (aL d e)*d.2.2 - aO (aL x d) (aL d e)*e.2.2+aO x (aL d e)*(aL d e).2.2:=by
 simp only[aO,aL];refine⟨?_,?_,?_⟩<;>grind
def Zq(o a b:Pt):wb a b=((wb o b).1 - (wb o a).1,(wb o b).2.1 - (wb o a).2.1,(wb o b).2.2 - (wb o a).2.2):=by refine Tg ?_ ?_ ?_<;>simp only[wb]<;>omega
noncomputable def bD(b a:Pt):Pt:=(b.1 - a.1,b.2.1 - a.2.1,b.2.2 - a.2.2)
def zW(o a b:Pt):wb a b=bD (wb o b) (wb o a):=Zq o a b
theorem zq1(hz:aO A (aL d (bD B A))=0)(h1:0<=aO (aL A d) (aL d (bD B A)))(h2:aO (aL A d) (aL d (bD B A))<=aO (aL d (bD B A)) (aL d (bD B A)))(h3:0<aO (aL d (bD B A)) (aL d (bD B A))):
 zu d A B (aO (aL A (bD B A)) (aL d (bD B A)),aO (aL d (bD B A)) (aL d (bD B A))):=by
 obtain⟨l1,l2,l3⟩:=lag A d (bD B A);rw[hz] at l1 l2 l3;generalize aO (aL d (bD B A)) (aL d (bD B A))=N at *
 generalize aO (aL A (bD B A)) (aL d (bD B A))=T at *
 generalize aO (aL A d) (aL d (bD B A))=Sh at *
 refine⟨N - Sh,Sh,by omega,h1,by omega,?_,?_,?_⟩<;>simp only[bD] at * <;> grind
theorem TV{x:Pt}(h:aL x d=(0,0,0)):aO d d*x.1=aO x d*d.1/\aO d d*x.2.1=aO x d*d.2.1/\aO d d*x.2.2=aO x d*d.2.2:=by
 have p1:(aL x d).1=0:=by rw[h]
 have p2:(aL x d).2.1=0:=by rw[h]
 have p3:(aL x d).2.2=0:=by rw[h]
 simp only[aL,aO] at *
 refine⟨?_,?_,?_⟩<;>grind
theorem zqc(hp:aL d (bD B A)=(0,0,0))(h:aL A d=(0,0,0)):aL B d=(0,0,0):=by
 have p1:(aL d (bD B A)).1=0:=by rw[hp]
 have p2:(aL d (bD B A)).2.1=0:=by rw[hp]
 have p3:(aL d (bD B A)).2.2=0:=by rw[hp]
 have q1:(aL A d).1=0:=by rw[h]
 have q2:(aL A d).2.1=0:=by rw[h]
 have q3:(aL A d).2.2=0:=by rw[h]
 simp only[aL,bD] at *
 refine Tg ?_ ?_ ?_<;>grind
def VG(o d a b c:Pt):qM (p8 o d a b c):=Ka (Ka (Ka (λ_ h=>by cases h) (Aj _)) (Aj _)) (Aj _)
def Ak(d A B C:Pt):aO d (aL A B)+aO d (aL B C)+aO d (aL C A)=aO d (aL (bD B A) (bD C A)):=by simp only[aO,aL,bD];grind
theorem KN(n A B C:Pt):aO n (aL B C)*A.1+aO n (aL C A)*B.1+aO n (aL A B)*C.1=aO A (aL (bD B A) (bD C A))*n.1
 /\ aO n (aL B C)*A.2.1+aO n (aL C A)*B.2.1+aO n (aL A B)*C.2.1=aO A (aL (bD B A) (bD C A))*n.2.1
 /\ aO n (aL B C)*A.2.2+aO n (aL C A)*B.2.2+aO n (aL A B)*C.2.2=aO A (aL (bD B A) (bD C A))*n.2.2:=by
 simp only[aO,aL,bD];refine⟨?_,?_,?_⟩<;>grind
theorem zku(hq:0<t.2)(h:jN d A B C t):∃u v w:Int,0<=u/\0<=v/\0<=w/\0<u+v+w
 /\ t.1*aO d (aL (bD B A) (bD C A))=t.2*aO A (aL (bD B A) (bD C A))
 /\ (u+v+w)*aO d (aL B C)=u*aO d (aL (bD B A) (bD C A))
 /\ (u+v+w)*aO d (aL C A)=v*aO d (aL (bD B A) (bD C A))
 /\ (u+v+w)*aO d (aL A B)=w*aO d (aL (bD B A) (bD C A)):=by
 obtain⟨u,v,w,u0,v0,w0,hs,c⟩:=h;refine⟨u,v,w,u0,v0,w0,hs,?_⟩;have c0:=c.dot (aL (bD B A) (bD C A));have b0:aO B (aL (bD B A) (bD C A))=aO A (aL (bD B A) (bD C A)):=by simp only[aO,aL,bD];grind
 have d0:aO C (aL (bD B A) (bD C A))=aO A (aL (bD B A) (bD C A)):=by simp only[aO,aL,bD];grind
 rw[b0,d0] at c0;have cA:=c.dot (aL A d);have cB:=c.dot (aL B d);have cC:=c.dot (aL C d);have z:∀X:Pt,aO d (aL X d)=0:=λX=>by simp only[aO,aL];grind
 have y:∀X:Pt,aO X (aL X d)=0:=λX=>by simp only[aO,aL];grind
 have x:∀X Y:Pt,aO X (aL Y d)=aO d (aL X Y):=λX Y=>by simp only[aO,aL];grind
 have s:∀X Y:Pt,aO d (aL X Y) = - aO d (aL Y X):=λX Y=>by simp only[aO,aL];grind
 rw[z,y,x B A,x C A,s B A] at cA;rw[z,y,x A B,x C B,s C B] at cB;rw[z,y,x A C,x B C,s A C] at cC;have e:=Ak d A B C;generalize aO d (aL (bD B A) (bD C A))=V at *
 generalize aO A (aL (bD B A) (bD C A))=U at *
 generalize aO d (aL A B)=s1 at *
 generalize aO d (aL B C)=s2 at *
 generalize aO d (aL C A)=s3 at *
 have kA:w*s3 - v*s1=0:=Ij hq (by grind);have kB:u*s1 - w*s2=0:=Ij hq (by grind);have kC:v*s2 - u*s3=0:=Ij hq (by grind);refine⟨?_,?_,?_,?_⟩
 .refine QH hs ?_;grind
 .subst e;grind
 .subst e;grind
 .subst e;grind
theorem zqA(h1:0<=aO d (aL A B))(h2:0<=aO d (aL B C))(h3:0<=aO d (aL C A))(hV:0<aO d (aL (bD B A) (bD C A))):jN d A B C (aO A (aL (bD B A) (bD C A)),aO d (aL (bD B A) (bD C A))):=by
 obtain⟨m1,m2,m3⟩:=KN d A B C;have e:=Ak d A B C;generalize aO d (aL (bD B A) (bD C A))=V at *
 generalize aO A (aL (bD B A) (bD C A))=U at *
 generalize aO d (aL A B)=s1 at *
 generalize aO d (aL B C)=s2 at *
 generalize aO d (aL C A)=s3 at *
 refine⟨s2,s3,s1,h2,h3,h1,by omega,?_,?_,?_⟩<;>simp only<;>grind
theorem zoj(h1:aO d (aL A B)<=0)(h2:aO d (aL B C)<=0)(h3:aO d (aL C A)<=0)(hV:aO d (aL (bD B A) (bD C A))<0):jN d A B C (-aO A (aL (bD B A) (bD C A)),-aO d (aL (bD B A) (bD C A))):=by
 obtain⟨m1,m2,m3⟩:=KN d A B C;have e:=Ak d A B C;generalize aO d (aL (bD B A) (bD C A))=V at *
 generalize aO A (aL (bD B A) (bD C A))=U at *
 generalize aO d (aL A B)=s1 at *
 generalize aO d (aL B C)=s2 at *
 generalize aO d (aL C A)=s3 at *
 refine⟨-s2,-s3,-s1,by omega,by omega,by omega,by omega,?_,?_,?_⟩<;>simp only<;>grind
section
variable {d A B C:Pt}
abbrev qu(A B C:Pt):Pt:=aL (bD B A) (bD C A)
def yR(hs:0<s)(h:s*x=y)(hy:0<=y):0<=x:=by refine Int.le_of_mul_le_mul_left (a:=s) ?_ hs;omega
end
theorem J7(o w a b c:Pt):cI o w a b c=true↔(0<=cL o w a b/\0<=cL o w b c/\0<=cL o w c a)\/(cL o w a b<=0/\cL o w b c<=0/\cL o w c a<=0):=by unfold cI;simp only[lg,dD,oK,and_assoc]
theorem Jz(o d a b c:Pt):qM (kj o d a b c):=by
 unfold kj yp;intro r hr;split at hr
 .exact VG _ _ _ _ _ r hr
 .split at hr
  .split at hr
   .split at hr
    .cases hr;decide
    .exact VG _ _ _ _ _ r hr
   .cases hr
  .split at hr
   .split at hr
    .cases hr
    .cases hr;exact KJ _ _
   .split at hr
    .cases hr
    .cases hr;exact KJ _ _
theorem Js{s p dx l h a b c:Int}(u0:0<=u)(v0:0<=v)(w0:0<=w)(hs:0<u+v+w)(hq:0<q)(e:(u+v+w)*p*dx=q*(u*(a - x)+v*(b - x)+w*(c - x)))(ha:l<=a/\a<=h)(hb:l<=b/\b<=h)(hc:l<=c/\c<=h):l*q<=x*q+dx*p/\x*q+dx*p<=h*q:=by
 have e1:(u+v+w)*(x*q+dx*p)=q*(u*a+v*b+w*c):=by grind
 have g1:=Int.mul_le_mul_of_nonneg_left ha.1 u0;have g2:=Int.mul_le_mul_of_nonneg_left hb.1 v0;have g3:=Int.mul_le_mul_of_nonneg_left hc.1 w0;have g4:=Int.mul_le_mul_of_nonneg_left ha.2 u0;have g5:=Int.mul_le_mul_of_nonneg_left hb.2 v0;have g6:=Int.mul_le_mul_of_nonneg_left hc.2 w0;have g7:=Int.mul_le_mul_of_nonneg_left (show u*l+v*l+w*l<=u*a+v*b+w*c by omega) (show 0<=q by omega);have g8:=Int.mul_le_mul_of_nonneg_left (show u*a+v*b+w*c<=u*h+v*h+w*h by omega) (show 0<=q by omega);constructor
 .refine Int.le_of_mul_le_mul_left (a:=u+v+w) ?_ hs;have:(u+v+w)*(l*q)=q*(u*l+v*l+w*l):=by grind
  omega
 .refine Int.le_of_mul_le_mul_left (a:=u+v+w) ?_ hs;have:(u+v+w)*(h*q)=q*(u*h+v*h+w*h):=by grind
  omega
end MX.P
end
section
namespace MX.P
open PySem L2 MX
theorem KZ{lo hi:Pt}(h0:d≠(0,0,0)):oH ((gQ o d lo hi).map (·.1)) (inB o d lo hi):=by
 have i0:QF (λ_=>True) [(0,1)] ((0,1),none):=by
  refine⟨⟨by simp,by simp,λm hm=>by cases hm⟩,λt h1 h2=>?_,?_,λl hl=>by cases hl⟩
  .simp only[true_iff];refine⟨?_,λl hl=>by cases hl⟩;unfold leQ;simp;omega
  .rw[yJ (by decide)];decide
 have j1:=JS (j:=0) (o:=o) (d:=d) (lo:=lo) (hi:=hi) i0;unfold gQ;cases e1:eH ((0,1),none) o.1 d.1 lo.1 hi.1 with
 |none =>
  rw[show eH ((0,1),none) (co 0 o) (co 0 d) (co 0 lo) (co 0 hi)=none from e1] at j1;exact λt q1 q2 q=>j1 t q1 q2 ⟨trivial,q.1⟩
 |some a =>
  rw[show eH ((0,1),none) (co 0 o) (co 0 d) (co 0 lo) (co 0 hi)=some a from e1] at j1;have j2:=JS (j:=1) (o:=o) (d:=d) (lo:=lo) (hi:=hi) j1;simp only[cu];cases e2:eH a o.2.1 d.2.1 lo.2.1 hi.2.1 with
  |none =>
   rw[show eH a (co 1 o) (co 1 d) (co 1 lo) (co 1 hi)=none from e2] at j2;exact λt q1 q2 q=>j2 t q1 q2 ⟨⟨trivial,q.1⟩,q.2.1⟩
  |some b =>
   rw[show eH a (co 1 o) (co 1 d) (co 1 lo) (co 1 hi)=some b from e2] at j2;have j3:=JS (j:=2) (o:=o) (d:=d) (lo:=lo) (hi:=hi) j2;simp only[cu];cases e3:eH b o.2.2 d.2.2 lo.2.2 hi.2.2 with
   |none =>
    rw[show eH b (co 2 o) (co 2 d) (co 2 lo) (co 2 hi)=none from e3] at j3;exact λt q1 q2 q=>j3 t q1 q2 ⟨⟨⟨trivial,q.1⟩,q.2.1⟩,q.2.2⟩
   |some c =>
    rw[show eH b (co 2 o) (co 2 d) (co 2 lo) (co 2 hi)=some c from e3] at j3;simp only[cu];have hn:c.2≠none:=by
     by_cases q1:d.1=0
     .by_cases q2:d.2.1=0
      .have q3:d.2.2≠0:=λq3=>h0 (by show(d.1,d.2.1,d.2.2)=_;rw[q1,q2,q3]);exact ou e3 (.inr q3)
      .exact ou e3 (.inl (ou e2 (.inr q2)))
     .exact ou e3 (.inl (ou e2 (.inl (ou e1 (.inr q1)))))
    have hB:∀t:Int×Int,0<=t.1->0<t.2->(inB o d lo hi t↔leQ c.1 t/\∀l,c.2=some l->leQ t l):=λt q1 q2=>by rw[<-j3.iff t q1 q2];exact⟨λq=>⟨⟨⟨trivial,q.1⟩,q.2.1⟩,q.2.2⟩,λq=>⟨q.1.1.2,q.1.2,q.2⟩⟩
    cases hl:c.2 with
    |none=>exact absurd hl hn
    |some l =>
     simp only;have bO:=j3.pos.2.2 l hl;have wQ:=j3.pos.2.1;have f0:=j3.pos.1;by_cases hc:fj l c.1
     .rw[if_pos hc];intro t q1 q2 q;have:=(hB t q1 q2).mp q;exact Uz (yQ wQ q2 bO this.1 (this.2 l hl)) hc
     .rw[if_neg hc];have hfl:=oX hc;exact⟨f0,wQ,(hB _ f0 wQ).mpr ⟨zm8 _,λl' hl'=>by rw[hl] at hl';cases hl';exact hfl⟩,λt q1 q2 q=>((hB t q1 q2).mp q).1⟩
theorem zpT(o d lo hi:Pt):Inv (inB o d lo hi):=λt r ht hr e h=>by
 have f:∀s w l u:Int,lA s w l u t->lA s w l u r:=λs w l u ⟨h1,h2⟩=>by
  have k:t.2*(s*r.2+w*r.1)=r.2*(s*t.2+w*t.1):=by
   have:t.2*(s*r.2+w*r.1)=s*(t.2*r.2)+w*(r.1*t.2):=by grind
   rw[this,<-e];grind
  have g1:=Int.mul_le_mul_of_nonneg_left h1 (show 0<=r.2 by omega);have g2:=Int.mul_le_mul_of_nonneg_left h2 (show 0<=r.2 by omega);have k1:t.2*(l*r.2)=r.2*(l*t.2):=by grind
  have k2:t.2*(u*r.2)=r.2*(u*t.2):=by grind
  exact⟨Int.le_of_mul_le_mul_left (a:=t.2) (by omega) ht,Int.le_of_mul_le_mul_left (a:=t.2) (by omega) ht⟩
 exact⟨f _ _ _ _ h.1,f _ _ _ _ h.2.1,f _ _ _ _ h.2.2⟩
end MX.P
end
section
namespace MX.P
def jm(m:Tq)(X:Int×Int->Prop):Prop:=∀r,m=some r->0<=r.1/\0<r.2/\X r
theorem jm.pick{m n:Tq}{X:Int×Int->Prop}(hm:jm m X)(hn:jm n X):jm (pick m n) X:=by
 intro r h;unfold P.pick at h;cases n with
 |none=>exact hm r h
 |some t =>
  cases m with
  |none=>exact hn r h
  |some b =>
   simp only at h;split at h
   .exact hn r h
   .exact hm r h
theorem jm.red{m:Tq}(hi:Inv X)(hm:jm m X):jm (mQ m) X:=by intro r h;obtain⟨p,e,rfl⟩:=bf.mp h;obtain⟨h1,h2,h3⟩:=hm p e;have:=zpL (a:=p) h2;unfold leQ at this;exact⟨yW h1 h2,vO _ _,hi p _ h2 (vO _ _) (by omega) h3⟩
def jm.sub{m:Tq}{Y:Int×Int->Prop}(hm:jm m X)(h:∀t,X t->Y t):jm m Y:=λr e=>⟨(hm r e).1,(hm r e).2.1,h _ (hm r e).2.2⟩
theorem zoM{a b:Pt}(h0:d≠(0,0,0)):jm (oN o d a b) (zu d (wb o a) (wb o b)):=by
 have hD:=vL h0;intro r h;unfold oN yd at h;rw[zW o a b] at h;generalize wb o a=A at *
 generalize wb o b=B at *
 split at h
 .rename_i hp;split at h
  .rename_i hc;have la:=TV hc;have lb:=TV (zqc hp hc);generalize aO d d=N at *
   generalize aO A d=x at *
   generalize aO B d=y at *
   split at h
   .cases h
   .rename_i hm;cases h;have hm':0<=x\/0<=y:=by unfold jR at hm;split at hm<;>omega
    have hmn:(jR (pU x y) 0=x/\0<=x/\x<=y)\/(jR (pU x y) 0=y/\0<=y/\y<=x)\/(jR (pU x y) 0=0/\x<0/\0<=y)\/(jR (pU x y) 0=0/\y<0/\0<=x):=by unfold jR pU;split<;>split<;>omega
    have hge:0<=jR (pU x y) 0:=by rcases hmn with h|h|h|h<;>omega
    refine⟨hge,hD,?_⟩;obtain⟨a1,a2,a3⟩:=la;obtain⟨b1,b2,b3⟩:=lb;rcases hmn with⟨e,_⟩|⟨e,_⟩|⟨e,_⟩|⟨e,_⟩<;>rw[e]
    .exact⟨1,0,by omega,by omega,by omega,by simp only;grind,by simp only;grind,by simp only;grind⟩
    .exact⟨0,1,by omega,by omega,by omega,by simp only;grind,by simp only;grind,by simp only;grind⟩
    .exact⟨y,-x,by omega,by omega,by omega,by simp only;grind,by simp only;grind,by simp only;grind⟩
    .exact⟨-y,x,by omega,by omega,by omega,by simp only;grind,by simp only;grind,by simp only;grind⟩
  .cases h
 .rename_i hp;have hU:=vL hp;split at h
  .rename_i hz;split at h
   .cases h
   .rename_i hb;cases h;exact⟨by simp only;omega,hU,zq1 hz (by omega) (by omega) hU⟩
  .cases h
theorem zl0{a b c:Pt}(h0:d≠(0,0,0)):jm (p8 o d a b c) (jN d (wb o a) (wb o b) (wb o c)):=by have s:=λx y:Pt=>jm.red (zpS d (wb o x) (wb o y)) (zoM (o:=o) (a:=x) (b:=y) h0);exact jm.pick (jm.pick (jm.pick (λr h=>by cases h) ((s a b).sub λt=>zr8)) ((s b c).sub λt=>zr7)) ((s c a).sub λt=>zr6)
theorem JB{a b c:Pt}(h0:d≠(0,0,0)):jm (kj o d a b c) (jN d (wb o a) (wb o b) (wb o c)):=by
 have ef:=zl0 (o:=o) (a:=a) (b:=b) (c:=c) h0;have gd:=J7 o d a b c;have gn:=J7 o (qu (wb o a) (wb o b) (wb o c)) a b c;intro r h;unfold kj yp at h;unfold cL at gd gn;rw[zW o a b,zW o a c] at h;generalize wb o a=A at *
 generalize wb o b=B at *
 generalize wb o c=C at *
 split at h
 .exact ef r h
 .rename_i hf;have hN:0<aO (qu A B C) (qu A B C):=vL hf;split at h
  .split at h
   .rename_i hU;have sn:aO (qu A B C) (aL A B)+aO (qu A B C) (aL B C)+aO (qu A B C) (aL C A)=aO (qu A B C) (qu A B C):=Ak (qu A B C) A B C;split at h
    .rename_i hg;cases h;refine⟨Int.le_refl _,by decide,?_⟩;obtain⟨m1,m2,m3⟩:=KN (qu A B C) A B C;rw[show aO A (aL (bD B A) (bD C A))=0 from hU] at m1 m2 m3;rcases gn.mp hg with g|g
     .exact⟨_,_,_,g.2.1,g.2.2,g.1,by omega,by simp only;grind,by simp only;grind,by simp only;grind⟩
     .omega
    .exact ef r h
   .cases h
  .rename_i hV;have sn:=Ak d A B C;have go:∀P:Prop,¬(P\/cI o d a b c=false)->cI o d a b c=true:=λP hb=>by
    rcases Bool.eq_false_or_eq_true (cI o d a b c) with q|q
    .exact q
    .exact absurd (.inr q) hb
   split at h
   .rename_i Y7;split at h
    .cases h
    .rename_i hb;refine jm.red (m:=some (_,_)) (JR _ _ _ _) (λp hp=>?_) r h;cases hp;refine⟨Int.not_lt.mp λq=>hb (.inl q),by simp only;omega,?_⟩;rcases gd.mp (go _ hb) with g|g
     .omega
     .exact zoj g.1 g.2.1 g.2.2 Y7
   .rename_i Y7;split at h
    .cases h
    .rename_i hb;have Y6:0<aO d (aL (bD B A) (bD C A)):=by omega
     refine jm.red (m:=some (_,_)) (JR _ _ _ _) (λp hp=>?_) r h;cases hp;refine⟨Int.not_lt.mp λq=>hb (.inl q),Y6,?_⟩;rcases gd.mp (go _ hb) with g|g
     .exact zqA g.1 g.2.1 g.2.2 Y6
     .omega
def Fi(hs:0<s)(h:s*x=y)(hy:y<=0):x<=0:=by have:=yR (x := -x) hs (by rw[Int.mul_neg,h]) (show 0 <= -y by omega);omega
theorem U8{a b c:Pt}(h0:d≠(0,0,0))(hV:aO d (aL (wb a b) (wb a c))≠0):oH (kj o d a b c) (jN d (wb o a) (wb o b) (wb o c)):=by
 have gd:=J7 o d a b c;have sn:=JB (o:=o) (a:=a) (b:=b) (c:=c) h0;unfold cL at gd;unfold kj at sn ⊢;rw[if_neg (λe=>hV (by rw[e];simp[aO])),if_neg hV] at sn ⊢;rw[zW o a b,zW o a c] at hV sn ⊢;have key:∀t:Int×Int,0<t.2->jN d (wb o a) (wb o b) (wb o c) t->cI o d a b c=true/\t.1*aO d (aL (bD (wb o b) (wb o a)) (bD (wb o c) (wb o a)))=t.2*aO (wb o a) (aL (bD (wb o b) (wb o a)) (bD (wb o c) (wb o a))):=by
  intro t t1 ht;obtain⟨u,v,w,u0,v0,w0,hs,e0,e1,e2,e3⟩:=zku t1 ht;refine⟨gd.mpr ?_,e0⟩;generalize aO d (aL (bD (wb o b) (wb o a)) (bD (wb o c) (wb o a)))=V at *
  rcases Int.le_total 0 V with h|h
  .exact .inl ⟨yR hs e3 (Int.mul_nonneg w0 h),yR hs e1 (Int.mul_nonneg u0 h),yR hs e2 (Int.mul_nonneg v0 h)⟩
  .exact .inr ⟨Fi hs e3 (Int.mul_nonpos_of_nonneg_of_nonpos w0 h),Fi hs e1 (Int.mul_nonpos_of_nonneg_of_nonpos u0 h),Fi hs e2 (Int.mul_nonpos_of_nonneg_of_nonpos v0 h)⟩
 generalize aO d (aL (bD (wb o b) (wb o a)) (bD (wb o c) (wb o a)))=V at *
 generalize aO (wb o a) (aL (bD (wb o b) (wb o a)) (bD (wb o c) (wb o a)))=U at *
 generalize hm:(if V<0 then if -U<0\/cI o d a b c=false then none else some (cV (-U) (-V)) else if U<0\/cI o d a b c=false then none else some (cV U V):Tq)=m at *
 cases m with
 |some r =>
  obtain⟨r0,r1,hr⟩:=sn r rfl;refine⟨r0,r1,hr,λt t0 t1 ht=>Int.le_of_eq ?_⟩;have e1:=(key r r1 hr).2;have e2:=(key t t1 ht).2;refine Int.eq_of_mul_eq_mul_left hV ?_;have:V*(r.1*t.2)=r.1*V*t.2:=by rw[Int.mul_left_comm,<-Int.mul_assoc]
  rw[this,e1];have:V*(t.1*r.2)=t.1*V*r.2:=by rw[Int.mul_left_comm,<-Int.mul_assoc]
  rw[this,e2];simp only[Int.mul_assoc,Int.mul_comm,Int.mul_left_comm]
 |none =>
  intro t t0 t1 ht;obtain⟨g,e⟩:=key t t1 ht;rw[g] at hm;rcases(show V<0\/0<V by omega) with h|h
  .rw[if_pos h] at hm;have:=Fi t1 e.symm (Int.mul_nonpos_of_nonneg_of_nonpos t0 (Int.le_of_lt h));rw[if_neg (by simp;omega)] at hm;cases hm
  .rw[if_neg (by omega)] at hm;have:=yR t1 e.symm (Int.mul_nonneg t0 (Int.le_of_lt h));rw[if_neg (by simp;omega)] at hm;cases hm
end MX.P
end
section
namespace MX.P
open PySem L2 MX
def qx(a b:Pt):Prop:=a.1<=b.1/\a.2.1<=b.2.1/\a.2.2<=b.2.2
theorem J6:∀(r:List Int) (a:Int),r.foldl (λx y=>if y<x then y else x) a<=a/\∀x∈r,r.foldl (λx y=>if y<x then y else x) a<=x
 |[],a=>⟨Int.le_refl _,λ_ h=>by cases h⟩
 |b::r,a=>by
  obtain⟨h1,h2⟩:=J6 r (if b<a then b else a);rw[List.foldl_cons];have k:(if b<a then b else a)<=a/\(if b<a then b else a)<=b:=by split<;>omega
  refine⟨Int.le_trans h1 k.1,λx hx=>?_⟩;rcases List.mem_cons.mp hx with rfl|hx
  .exact Int.le_trans h1 k.2
  .exact h2 x hx
theorem J5:∀(r:List Int) (a:Int),a<=r.foldl (λx y=>if y>x then y else x) a/\∀x∈r,x<=r.foldl (λx y=>if y>x then y else x) a
 |[],a=>⟨Int.le_refl _,λ_ h=>by cases h⟩
 |b::r,a=>by
  obtain⟨h1,h2⟩:=J5 r (if b>a then b else a);rw[List.foldl_cons];have k:a<=(if b>a then b else a)/\b<=(if b>a then b else a):=by split<;>omega
  refine⟨Int.le_trans k.1 h1,λx hx=>?_⟩;rcases List.mem_cons.mp hx with rfl|hx
  .exact Int.le_trans k.2 h1
  .exact h2 x hx
theorem Jt{m:Int}(h:jL ns=some m):∀x∈ns,m<=x:=by
 cases ns with
 |nil=>cases h
 |cons a r =>
  have h':r.foldl (λx y=>if y<x then y else x) a=m:=by simpa[jL] using h
  subst h';intro x hx;rcases List.mem_cons.mp hx with rfl|hx
  .exact(J6 r _).1
  .exact(J6 r _).2 x hx
theorem FT{m:Int}(h:je ns=some m):∀x∈ns,x<=m:=by
 cases ns with
 |nil=>cases h
 |cons a r =>
  have h':r.foldl (λx y=>if y>x then y else x) a=m:=by simpa[je] using h
  subst h';intro x hx;rcases List.mem_cons.mp hx with rfl|hx
  .exact(J5 r _).1
  .exact(J5 r _).2 x hx
def mD.has{pts:List Pt}{lo hi p:Pt}(B:mD pts lo hi)(hp:p∈pts):qx lo p/\qx p hi :=
 ⟨⟨Jt B.h0 (co 0 p) (List.mem_map_of_mem hp),Jt B.h1 (co 1 p) (List.mem_map_of_mem hp),Jt B.h2 (co 2 p) (List.mem_map_of_mem hp)⟩,
  ⟨FT B.g0 (co 0 p) (List.mem_map_of_mem hp),FT B.g1 (co 1 p) (List.mem_map_of_mem hp),FT B.g2 (co 2 p) (List.mem_map_of_mem hp)⟩⟩
theorem Uh{lo hi lo' hi':Pt}(hq:0<t.2)(h1:qx lo lo')(h2:qx hi' hi)(h:inB o d lo' hi' t):inB o d lo hi t:=by
 have f:∀s w l u l' u':Int,l<=l'->u'<=u->lA s w l' u' t->lA s w l u t:=λs w l u l' u' a b ⟨h1,h2⟩ =>
  ⟨Int.le_trans (Int.mul_le_mul_of_nonneg_right a (by omega)) h1,Int.le_trans h2 (Int.mul_le_mul_of_nonneg_right b (by omega))⟩
 exact⟨f _ _ _ _ _ _ h1.1 h2.1 h.1,f _ _ _ _ _ _ h1.2.1 h2.2.1 h.2.1,f _ _ _ _ _ _ h1.2.2 h2.2.2 h.2.2⟩
theorem U7{lo hi:Pt}(h0:d≠(0,0,0))(h1:0<=t.1)(h2:0<t.2)(h:inB o d lo hi t):gQ o d lo hi≠none:=λe=>by have f:=KZ (o:=o) (lo:=lo) (hi:=hi) h0;rw[e] at f;exact f t h1 h2 h
theorem zkD{lo hi lo' hi':Pt}(h0:d≠(0,0,0))(h1:qx lo lo')(h2:qx hi' hi)(e:gQ o d lo hi=none):gQ o d lo' hi'=none:=by
 cases e':gQ o d lo' hi' with
 |none=>rfl
 |some p =>
  have f:=KZ (o:=o) (lo:=lo') (hi:=hi') h0;rw[e'] at f;exact absurd e (U7 h0 f.1 f.2.1 (Uh f.2.1 h1 h2 f.2.2.1))
noncomputable def CP(o d:Pt):Sh->Int×Int->Prop
 |.box lo hi=>inB o d lo hi
 |.tri a b c=>jN d (wb o a) (wb o b) (wb o c)
def Rx(o d lo hi:Pt):jh o d (.box lo hi)=mQ ((gQ o d lo hi).map (·.1)):=by show(gQ o d lo hi).map (λp=>cV p.1.1 p.1.2)=_;cases gQ o d lo hi<;>rfl
theorem Ry(h0:d≠(0,0,0))(s:Sh):jm (jh o d s) (CP o d s):=by
 cases s with
 |box lo hi =>
  rw[Rx];refine jm.red (zpT o d lo hi) λr e=>?_;have f:=KZ (o:=o) (lo:=lo) (hi:=hi) h0;rw[e] at f;exact⟨f.1,f.2.1,f.2.2.1⟩
 |tri a b c=>exact JB h0
def zqD(o d:Pt)(s:Sh):qM (jh o d s):=by
 cases s with
 |box lo hi=>rw[Rx];exact Aj _
 |tri a b c=>exact Jz o d a b c
theorem zqZ{lo hi:Pt}{s:Sh}(B:mD s.pts lo hi)(hq:0<t.2)(h:CP o d s t):inB o d lo hi t:=by
 cases s with
 |box l u=>exact Uh hq (B.has (p:=l) (by simp[Sh.pts])).1 (B.has (p:=u) (by simp[Sh.pts])).2 h
 |tri a b c =>
  obtain⟨a1,a2⟩:=B.has (p:=a) (by simp[Sh.pts]);obtain⟨b1,b2⟩:=B.has (p:=b) (by simp[Sh.pts]);obtain⟨c1,c2⟩:=B.has (p:=c) (by simp[Sh.pts]);obtain⟨u,v,w,u0,v0,w0,hs,e1,e2,e3⟩:=h;exact⟨Js (s:=0) u0 v0 w0 hs hq e1 ⟨a1.1,a2.1⟩ ⟨b1.1,b2.1⟩ ⟨c1.1,c2.1⟩,Js (s:=0) u0 v0 w0 hs hq e2 ⟨a1.2.1,a2.2.1⟩ ⟨b1.2.1,b2.2.1⟩ ⟨c1.2.1,c2.2.1⟩,Js (s:=0) u0 v0 w0 hs hq e3 ⟨a1.2.2,a2.2.2⟩ ⟨b1.2.2,b2.2.2⟩ ⟨c1.2.2,c2.2.2⟩⟩
theorem zoH{lo hi:Pt}{s:Sh}(h0:d≠(0,0,0))(B:mD s.pts lo hi)(h:jh o d s≠none):gQ o d lo hi≠none:=by
 cases e:jh o d s with
 |none=>exact absurd e h
 |some p =>
  obtain⟨f1,f2,f3⟩:=Ry h0 s p e;exact U7 h0 f1 f2 (zqZ B f2 f3)
end MX.P
end
section
local macro_rules|`(tactic|wtm_at $s)=>uC s "d&"
namespace MX.P
open PySem L2 MX
theorem R4{α:Type}{nx:Nat->So->Option (Option D)}{fe:EF}{S:So}{rest:Sg}(qs:List α)(enc g:α->D)(hnx:∀i:Nat,nx i S=some ((qs.map enc)[i]?))(hstep:∀q∈qs,fe (some (enc q)::rest) S=some (g q,S)):
 ∀(n i:Nat) (v:Option D) (acc:List D),i+n=qs.length->jC nx (aH 0) dW fe n i (v::rest) S acc=some (acc++(qs.drop i).map g,S)
 |0,i,v,acc,h=>by rw[Fe (by rw[hnx,j9 (by simp;omega)]),List.drop_of_length_le (by omega)];simp
 |n+1,i,v,acc,h=>by
  have hi:i<qs.length:=by omega
  have e:(qs.map enc)[i]?=some (enc qs[i]):=by simp[hi]
  refine(yu (by rw[hnx,e]) (bY rfl) yw (hstep _ (List.getElem_mem hi)) rfl (R4 qs enc g hnx hstep n (i+1) (some (enc qs[i])) (acc++[g qs[i]]) (by omega))).trans ?_;rw[List.drop_eq_getElem_cons hi,iJ,dI];rfl
theorem vB{α:Type}{S1:So}{fi:IF}{fe:EF}{src:List (Option Nat)}{n:Nat}{rest:Sg}(qs:List α)(enc g:α->D)(h1:fi Z S=some (.lst n,S1))(hn:S1[n]?=some (.lst (qs.map enc)))(hl:qs.length<=1000)(hτ:qJ src Z=none::rest)(hstep:∀q∈qs,fe (some (enc q)::rest) S1=some (g q,S1)):eX fi (aH 0) dW fe src Z S=some (.ref S1.length,S1++[.lst (qs.map g)]):=by
 have key:=R4 (nx:=dH (.lst n)) (S:=S1) (rest:=rest) (fe:=fe) qs enc g (λi=>by unfold dH;simp only;rw[hn]) hstep qs.length 0 none [] (by omega);refine yq (n:=qs.length) h1 ?_ (by rw[sizeLine_eq];omega) hτ ?_
 .show(match S1[n]? with|some (.lst xs)=>some xs.length|some (.frz xs)=>some xs.length|_=>none)=_;rw[hn];simp
 .rw[key];simp
abbrev Lf:=Pt×Pt×Nat
noncomputable def eF(q:Lf):Tr := .lf q.1 q.2.1 q.2.2
noncomputable def Tr.leaves:Tr->List Lf
 |.lf lo hi i=>[(lo,hi,i)]
 |.nd _ _ l r=>l.leaves++r.leaves
noncomputable def sy(k:Nat):Tr->Prop
 |.lf lo hi _=>aU k lo/\aU k hi
 |.nd lo hi l r=>(aU k lo/\aU k hi)/\sy k l/\sy k r/\∀q∈l.leaves++r.leaves,qx lo q.1/\qx q.2.1 hi
def ZF{h:Nat}(hl:h<=xs.length):jP xs none (some (h:Nat))=xs.take h:=by unfold jP;rw[HT.zkS,HT.zi4];simp[Nat.min_eq_left hl]
theorem znu{h:Nat}(hl:h<=xs.length):jP xs (some (h:Nat)) none=xs.drop h:=by unfold jP;rw[HT.zkS,HT.zi4,Nat.min_eq_left hl];rw[List.take_of_length_le (by simp)]
def lJ{x:Str}{G:So}(h:jK x S=true):jK x (S++G)=true:=by
 unfold jK at *
 rw[List.any_append,h];rfl
theorem QV{S1:So}{fe fb:EF}{src:List Nat}{n:Nat}{iC kz:List D}(h1:fe Z S=some (.ref n,S1))(h2:pK src Z=some iC)(h3:v9 iC=true)(hn:S1[n]?=some (.lst xs))(hl:xs.length<64)(hk:p7 (sU fb iC) S1 xs=some kz)(ho:(kz.all nM||kz.all mK)=true):
 wY fe src fb Z S=some (.ref S1.length,S1++[.lst ((iw kz).map λi=>xs.getD i .non)]):=by
 unfold wY;rw[h1];simp only[cu];rw[h2];simp only[cu];rw[if_pos h3,hn];simp only;rw[if_pos hl,hk];simp only[cu];rw[if_pos ho]
def Km{α:Type}{ψ:GN}{S:So}{enc g:α->D}:∀{qs:List α},(∀q∈qs,ψ [enc q] S=some (g q,S))->p7 ψ S (qs.map enc)=some (qs.map g)
 |[],_=>rfl
 |q::r,h=>zj8 (h q (eZ ..)) (Km λy hy=>h y (cU _ hy))
theorem Vr{α:Type}(a0:α)(qs:List α)(h:l.Perm (List.range qs.length)):(l.map λi=>qs.getD i a0).Perm qs:=by
 have h1:=h.map λi=>qs.getD i a0;have h2:(List.range qs.length).map (λi=>qs.getD i a0)=qs:=by
  apply List.ext_getElem?;intro i;by_cases hi:i<qs.length
  .simp[hi]
  .rw[j9 (by simp;omega),j9 (by omega)]
 rw[h2] at h1;exact h1
theorem UG{α:Type}{enc:α->D}(a0:α)(qs:List α)(h:∀i∈l,i<qs.length):(l.map λi=>(qs.map enc).getD i .non)=(l.map λi=>qs.getD i a0).map enc:=by rw[List.map_map];refine List.map_congr_left λi hi=>?_;have:=h i hi;simp[List.getD_eq_getElem?_getD,this]
theorem znC{q:Lf}(hj:j<=2)(S:So):sU (eB (aB .Add) (eB aG (eB aG (gP "Tree" "box" (aj 0)) (kq 0)) (aj 1)) (eB aG (eB aG (gP "Tree" "box" (aj 0)) (kq 1)) (aj 1))) [.int (j:Nat)] [bF (eF q)] S=some (.int (co j q.1+co j q.2.1),S):=by show eB _ _ _ [some (bF (eF q)),some (.int (j:Nat))] S=_;refine aF (aF (aF (qX (d := .tup [pD q.1,pD q.2.1]) (aq rfl) rfl rfl) aN (cW (z:=pD q.1) rfl)) (aq rfl) (cW (vz (by omega) (by omega) q.1))) (aF (aF (qX (d := .tup [pD q.1,pD q.2.1]) (aq rfl) rfl rfl) aN (cW (z:=pD q.2.1) rfl)) (aq rfl) (cW (vz (by omega) (by omega) q.2.1))) eE
theorem Fo(n:Nat)(qs:List Lf):O.lo n (.lst (qs.map λq=>bF (eF q)))=true:=by show c7 n _=true;rw[ju];intro x hx;obtain⟨q,_,rfl⟩:=List.mem_map.mp hx;exact qU n _
theorem Fj{α:Type}(n:Nat)(qs:List α)(f:α->Pt):c7 n (qs.map λq=>pD (f q))=true:=by rw[ju];intro x hx;obtain⟨p,_,rfl⟩:=List.mem_map.mp hx;simp[D.lo,c7]
theorem zpI{n:Nat}{ys:List D}(h1:c7 n xs=true)(h2:c7 n ys=true):c7 n (xs++ys)=true:=by
 rw[ju] at *
 intro x hx;rcases lq.mp hx with h|h
 .exact h1 x h
 .exact h2 x h
theorem zow:∀(k:Nat) (qs:List Lf) (n:Nat) (S:So),WF S->jK "tree_over" S=true->S[n]?=some (.lst (qs.map λq=>bF (eF q)))->1<=qs.length->qs.length<=2 ^ k->qs.length<=60->(∀q∈qs,aU K q.1/\aU K q.2.1) ->
 ∃t,jy (k+1) [.ref n] S=some (bF t,S)/\sy K t/\t.leaves.Perm qs:=by
 intro k
 induction k with
 |zero =>
  intro qs n S hS hT hn h1 h2 h60 hb;obtain⟨q,rfl⟩:=List.length_eq_one_iff.mp (show qs.length=1 by have:qs.length<=1:=h2;omega);refine⟨eF q,?_,hb q (by simp),List.Perm.refl _⟩;show oR "tree_over" 5 (oh (jy 0)) _ S=_;unfold oR;rw[if_pos hT];apply cG
  .wtm_at "b"
   unfold oh;refine aM (gk (b:=true) (dM ?_) (jb rfl (aM (fQ (aF (aq rfl) aN (nT hn (z:=bF (eF q)) rfl))) dY))) dY;exact aF (bB (aJ (aq rfl) aZ) (qY hn)) aN rfl
  .exact mF
  .exact qU _ _
 |succ k ih =>
  intro qs n S hS hT hn h1 h2 h60 hb;show ∃t,oR "tree_over" 5 (oh (jy (k+1))) _ S=_/\_;unfold oR;rw[if_pos hT];by_cases hL:qs.length=1
  .obtain⟨q,rfl⟩:=List.length_eq_one_iff.mp hL;refine⟨eF q,?_,hb q (by simp),List.Perm.refl _⟩;apply cG
   .wtm_at "b"
    unfold oh;refine aM (gk (b:=true) (dM ?_) (jb rfl (aM (fQ (aF (aq rfl) aN (nT hn (z:=bF (eF q)) rfl))) dY))) dY;exact aF (bB (aJ (aq rfl) aZ) (qY hn)) aN rfl
   .exact mF
   .exact qU _ _
  .obtain⟨lo,hi,B⟩:=Q9 (pts:=qs.map (·.1)++qs.map (·.2.1)) (by
    intro e;have:=congrArg List.length e;rw[iW,cY,cY,zJ] at this;omega)
   have bb:aU K lo/\aU K hi:=B.bd λp hp=>by
    rcases lq.mp hp with hp|hp
    .obtain⟨q,hq,rfl⟩:=List.mem_map.mp hp;exact(hb q hq).1
    .obtain⟨q,hq,rfl⟩:=List.mem_map.mp hp;exact(hb q hq).2
   obtain⟨j,hj,hw⟩:=zkE lo hi;have hm:qs.map (λq=>pD q.1)++qs.map (λq=>pD q.2.1)=(qs.map (·.1)++qs.map (·.2.1)).map pD:=by rw[mG,List.map_map,List.map_map];rfl
   have W1:WF (S++[.lst (qs.map λq=>pD q.1)]):=hS.snoc (Fj _ _ _);have W2:WF (S++[.lst (qs.map λq=>pD q.1)]++[.lst (qs.map λq=>pD q.2.1)]):=W1.snoc (Fj _ _ _);have W3:WF (S++[.lst (qs.map λq=>pD q.1)]++[.lst (qs.map λq=>pD q.2.1)]++[.lst (qs.map (λq=>pD q.1)++qs.map λq=>pD q.2.1)]):=W2.snoc (zpI (Fj _ _ _) (Fj _ _ _));have Dt:eN (aY 1 yS) (ak (eB (aB .Add) (eX (fK (aj 0)) (aH 0) dW (eB aG (gP "Tree" "box" (aj 0)) (kq 0)) [none]) (eX (fK (aj 0)) (aH 0) dW (eB aG (gP "Tree" "box" (aj 0)) (kq 1)) [none])) au) [some (.ref n),none,none,none,none] S=some (.tup [pD lo,pD hi],S++[.lst (qs.map λq=>pD q.1)]++[.lst (qs.map λq=>pD q.2.1)]++[.lst (qs.map (λq=>pD q.1)++qs.map λq=>pD q.2.1)]):=by
    refine bB (aJ (aF (vB qs (λq=>bF (eF q)) (λq=>pD q.1) (lZ (aq rfl) hn) hn (by omega) rfl λq _=>?_) (vB qs (λq=>bF (eF q)) (λq=>pD q.2.1) (lZ (aq rfl) (dZ hn)) (dZ hn) (by omega) rfl λq _=>?_) (Fq (dZ b8) b8 ?_)) aZ) (dj rfl (Ru (pts:=qs.map (·.1)++qs.map (·.2.1)) W3 ?_ ?_ B))
    .exact aF (qX (d := .tup [pD q.1,pD q.2.1]) (aq rfl) rfl rfl) aN (cW rfl)
    .exact aF (qX (d := .tup [pD q.1,pD q.2.1]) (aq rfl) rfl rfl) aN (cW rfl)
    .simp only[cY];rw[sizeLine_eq];omega
    .rw[<-hm];exact b8
    .simp only[iW,cY];omega
   have Dr:bK (eB (bA .Eq) (eN jq (ak (aj 0) au)) (kq 1)) [some (.ref n),none,none,none,none] S=some (false,S):=by have:=dM (aF (bB (aJ (aq (Z:=[some (.ref n),none,none,none,none]) (i:=0) rfl) aZ) (qY hn)) (aN (d := .int 1)) zV);rw[this,jt];rw[cY];omega
   generalize wH:S++[.lst (qs.map λq=>pD q.1)]++[.lst (qs.map λq=>pD q.2.1)]++[.lst (qs.map (λq=>pD q.1)++qs.map λq=>pD q.2.1)]=S3 at W3 Dt;have n3:S3[n]?=some (.lst (qs.map λq=>bF (eF q))):=by rw[<-wH];exact dZ (dZ (dZ hn))
   have T3:jK "tree_over" S3=true:=by rw[<-wH,dI,dI];exact lJ hT
   have tk3:S3.take S.length=S:=by rw[<-wH,dI,dI];simp
   have l3:S.length<=S3.length:=by rw[<-wH];simp
   have kp:=Av (qs.map λq=>D.int (co j q.1+co j q.2.1));rw[cY] at kp;have hlt:∀i∈iw (qs.map λq=>D.int (co j q.1+co j q.2.1)),i<qs.length:=λi hi=>List.mem_range.mp (kp.mem_iff.mp hi);have pp:=Vr ((0,0,0),(0,0,0),0) qs kp;have pe:=UG (enc:=λq=>bF (eF q)) ((0,0,0),(0,0,0),0) qs hlt;generalize hrow:(iw (qs.map λq=>D.int (co j q.1+co j q.2.1))).map (λi=>qs.getD i ((0,0,0),(0,0,0),0))=row at pp pe;have rl:row.length=qs.length:=pp.length_eq;have b4:∀q∈row,aU K q.1/\aU K q.2.1:=λq hq=>hb q (pp.mem_iff.mp hq);have W4:WF (S3++[.lst (row.map λq=>bF (eF q))]):=W3.snoc (Fo _ _);have W5:WF (S3++[.lst (row.map λq=>bF (eF q))]++[.lst ((row.take (qs.length / 2)).map λq=>bF (eF q))]):=W4.snoc (Fo _ _);have W6:WF (S3++[.lst (row.map λq=>bF (eF q))]++[.lst ((row.take (qs.length / 2)).map λq=>bF (eF q))]++[.lst ((row.drop (qs.length / 2)).map λq=>bF (eF q))]):=W5.snoc (Fo _ _);have hp2:2 ^ (k+1)=2 ^ k+2 ^ k:=by rw[Nat.pow_succ];omega
   obtain⟨t1,e1,o1,p1⟩:=ih (row.take (qs.length / 2)) _ _ W5 (by rw[dI];exact lJ T3) b8 (by simp;omega) (by simp;omega) (by simp;omega) (λq hq=>b4 q (List.mem_of_mem_take hq));obtain⟨t2,e2,o2,p2⟩:=ih (row.drop (qs.length / 2)) _ _ W6 (by rw[dI,dI];exact lJ T3) b8 (by simp;omega) (by simp;omega) (by simp;omega) (λq hq=>b4 q (List.mem_of_mem_drop hq));have pq:(t1.leaves++t2.leaves).Perm qs:=((p1.append p2).trans (by rw[List.take_append_drop])).trans pp;refine⟨.nd lo hi t1 t2,?_,⟨bb,o1,o2,λq hq=>?_⟩,pq⟩
   .apply cG (S':=S3++[.lst (row.map λq=>bF (eF q))]++[.lst ((row.take (qs.length / 2)).map λq=>bF (eF q))]++[.lst ((row.drop (qs.length / 2)).map λq=>bF (eF q))])
    .wtm_at "b"
     unfold oh;refine aM (gk Dr (fM rfl fD)) (aR ?_);refine aM (bN Dt (bY rfl)) (aR ?_);refine aM (bN (bB (aJ (aq rfl) aZ) (dj rfl (hw S3))) (bY rfl)) (aR ?_);refine aM (bN (QV (iC:=[.int (j:Nat)]) (aq rfl) rfl rfl n3 (by simp;omega) (Km (g:=λq:Lf=>D.int (co j q.1+co j q.2.1)) λq _=>znC hj S3) (by rw[lg];exact .inl (List.all_eq_true.mpr λx hx=>by obtain⟨q,_,rfl⟩:=List.mem_map.mp hx;rfl))) (bY rfl)) (aR ?_);rw[pe];have hfd:((qs.length:Int)).fdiv 2=((qs.length / 2:Nat):Int):=by rw[Int.fdiv_eq_ediv_of_nonneg _ (by decide)];rfl
     refine aM (bN (aF (bB (aJ (aq rfl) aZ) (qY b8)) aN (vq (by decide))) (bY rfl)) (aR ?_);simp only[cY,rl,hfd];have c1:eN (aY 1 (jy (k+1))) (ak (mz (aj 2) nP (lX (aj 3))) au) [some (.ref n),some (.tup [pD lo,pD hi]),some (.ref S3.length),some (.int ((qs.length / 2:Nat):Int)),some (.int (j:Nat))] (S3++[.lst (row.map λq=>bF (eF q))])=some (bF t1,S3++[.lst (row.map λq=>bF (eF q))]++[.lst ((row.take (qs.length / 2)).map λq=>bF (eF q))]):=by refine bB (aJ (Fd (aq rfl) JZ (J0 (aq rfl)) (Jg b8 ?_)) aZ) (dj rfl e1);rw[ZF (by simp[rl];omega),List.map_take]
     have c2:eN (aY 1 (jy (k+1))) (ak (mz (aj 2) (lX (aj 3)) nP) au) [some (.ref n),some (.tup [pD lo,pD hi]),some (.ref S3.length),some (.int ((qs.length / 2:Nat):Int)),some (.int (j:Nat))] (S3++[.lst (row.map λq=>bF (eF q))]++[.lst ((row.take (qs.length / 2)).map λq=>bF (eF q))])=some (bF t2,S3++[.lst (row.map λq=>bF (eF q))]++[.lst ((row.take (qs.length / 2)).map λq=>bF (eF q))]++[.lst ((row.drop (qs.length / 2)).map λq=>bF (eF q))]):=by refine bB (aJ (Fd (aq rfl) (J0 (aq rfl)) JZ (Jg (dZ b8) ?_)) aZ) (dj rfl e2);rw[znu (by simp[rl];omega),List.map_drop]
     exact aM (fQ (Vc (aJ (aq rfl) (aJ aN (aJ (bB (aJ c1 (aJ c2 aZ)) (gH (by show 2<=sizeLine;decide))) aZ))) W6 (by simp[c7,D.lo,qU]))) dY
    .rw[dI,dI,List.take_append_of_le_length l3];exact tk3
    .exact qU _ (.nd lo hi t1 t2)
   .have hq':=pq.mem_iff.mp hq;exact⟨(B.has (List.mem_append_left _ (List.mem_map_of_mem hq'))).1,(B.has (List.mem_append_right _ (List.mem_map_of_mem hq'))).2⟩
abbrev jX(b:Pt×Pt):D := .tup [pD b.1,pD b.2]
noncomputable def iu(bs:List (Pt×Pt)):List Lf:=bs.zipIdx.map λp=>(p.1.1,p.1.2,p.2)
def m7(bs:List (Pt×Pt)):(iu bs).length=bs.length:=by simp[iu]
def Gq{bs:List (Pt×Pt)}(h:i<bs.length):(iu bs)[i]?=some (bs[i].1,bs[i].2,i):=by simp[iu,h]
theorem Vn{bs:List (Pt×Pt)}{q:Lf}(h:q∈iu bs):q.2.2<bs.length/\(q.1,q.2.1)∈bs:=by obtain⟨i,hi,e⟩:=List.mem_iff_getElem.mp h;rw[m7] at hi;have:=Gq hi;rw[fJ (by rw[m7];exact hi),e] at this;cases this;exact⟨hi,List.getElem_mem hi⟩
theorem R3{S:So}{n:Nat}{bs:List (Pt×Pt)}(hS:WF S)(hn:S[n]?=some (.lst (bs.map jX))):∀(m i:Nat) (τ:Sg) (acc:List D),τ.length=2->i+m=bs.length ->
 jC (dH (.enm n)) (iB 2 (cQ (aH 0) (cQ (aH 1) iR))) dW (pI "Tree" 4 yZ (ak (aj 1) (ak (aj 0) (ak (eN bZ au) au)))) m i τ S acc=some (acc++((iu bs).drop i).map (λq=>bF (eF q)),S)
 |0,i,τ,acc,hτ,h=>by rw[Fe (by unfold dH;simp only;rw[hn];simp;omega),List.drop_of_length_le (by rw[m7];omega)];simp
 |m+1,i,τ,acc,hτ,h=>by
  have hi:i<bs.length:=by omega
  obtain⟨a,b,rfl⟩:∃a b,τ=[a,b]:=by
   match τ,hτ with
   |[a,b],_=>exact⟨a,b,rfl⟩
  have hq:(iu bs)[i]?=some (bs[i].1,bs[i].2,i):=Gq hi;have nx:dH (.enm n) i S=some (some (.tup [.int (i:Nat),jX bs[i]])):=by unfold dH;simp only;rw[hn];simp[hi]
  refine(yu nx (RM rfl (Kz (bY rfl) (Kz (bY rfl) T9))) yw (Vc (aJ (aq rfl) (aJ (aq rfl) (aJ (bB aZ (gH (by show 0<=sizeLine;exact Nat.zero_le _))) aZ))) hS (by simp[c7,D.lo])) rfl (R3 hS hn m (i+1) _ _ rfl (by omega))).trans ?_;rw[List.drop_eq_getElem_cons (l:=iu bs) (i:=i) (by rw[m7];exact hi),iJ,dI];have e2:(iu bs)[i]'(by rw[m7];exact hi)=(bs[i].1,bs[i].2,i):=by rw[fJ (by rw[m7];exact hi)] at hq;exact Option.some.inj hq
  rw[e2];rfl
noncomputable def gC:Option Tr->D
 |none => .non
 |some t=>bF t
noncomputable def zq:Option Tr->List Lf
 |none=>[]
 |some t=>t.leaves
def zrU(n:Nat)(t:Option Tr):D.lo n (gC t)=true:=by
 cases t with
 |none=>simp[gC,D.lo]
 |some t=>exact qU n t
theorem zmx{bs:List (Pt×Pt)}{n:Nat}(hS:WF S)(hT:jK "tree_over" S=true)(hn:S[n]?=some (.lst (bs.map jX)))(hl:bs.length<=32)(hb:∀b∈bs,aU K b.1/\aU K b.2):
 ∃t,GJ [.ref n] S=some (gC t,S)/\(∀t',t=some t'->sy K t')/\(zq t).Perm (iu bs):=by
 have e1:Mq [some (.ref n),none] S=some (.nx,[some (.ref n),some (.ref S.length)],S++[.lst ((iu bs).map λq=>bF (eF q))]):=by
  unfold Mq;refine bN (yq (j := .enm n) (n:=bs.length) (σ1:=[none,none]) ?_ ?_ (by rw[sizeLine_eq];omega) rfl ((R3 hS hn bs.length 0 [none,none] [] rfl (by omega)).trans (by simp))) (bY rfl)
  .unfold pA;rw[aq (d := .ref n) rfl];simp only[cu];rw[hn]
  .show(match S[n]? with|some (.lst xs)=>some xs.length|_=>none)=_;rw[hn];simp
 have W1:WF (S++[.lst ((iu bs).map λq=>bF (eF q))]):=hS.snoc (Fo _ _);have Yu:∀b:Bool,b=decide (bs.length=0)->bK (eB (bA .Eq) (eN jq (ak (aj 1) au)) (kq 0)) [some (.ref n),some (.ref S.length)] (S++[.lst ((iu bs).map λq=>bF (eF q))])=some (b,S++[.lst ((iu bs).map λq=>bF (eF q))]):=λb hb=>by have:=dM (aF (bB (aJ (aq (Z:=[some (.ref n),some (.ref S.length)]) (i:=1) rfl) aZ) (qY (b8 (S:=S) (o := .lst ((iu bs).map λq=>bF (eF q)))))) (aN (d := .int 0)) zV);rw[this,hb];congr 2;rw[cY,m7];simp
 by_cases h0:bs.length=0
 .refine⟨none,?_,λt' e=>(by cases e),by rw[List.eq_nil_of_length_eq_zero h0];exact List.Perm.refl _⟩;apply cG
  .wtm_at "b"
   unfold LQ;have e3:Bb [some (.ref n),some (.ref S.length)] (S++[.lst ((iu bs).map λq=>bF (eF q))])=some (.rt (gC none),[some (.ref n),some (.ref S.length)],S++[.lst ((iu bs).map λq=>bF (eF q))]):=by unfold Bb;exact fQ (z7 (Yu true (by simp[h0])) (jb rfl aN))
   exact aM e1 (aR (aM e3 dY))
  .wtm_at "c"
  .rfl
 .obtain⟨t,e2,o2,p2⟩:=zow (K:=K) 5 (iu bs) S.length (S++[.lst ((iu bs).map λq=>bF (eF q))]) W1 (lJ hT) b8 (by rw[m7];omega) (by rw[m7];omega) (by rw[m7];omega) (λq hq=>hb _ (Vn hq).2);refine⟨some t,?_,λt' e=>(by cases e;exact o2),p2⟩;apply cG
  .wtm_at "b"
   unfold LQ;have e3:Bb [some (.ref n),some (.ref S.length)] (S++[.lst ((iu bs).map λq=>bF (eF q))])=some (.rt (gC (some t)),[some (.ref n),some (.ref S.length)],S++[.lst ((iu bs).map λq=>bF (eF q))]):=by unfold Bb;exact fQ (z7 (Yu false (by simp[h0])) (fM rfl (bB (aJ (aq rfl) aZ) (dj rfl e2))))
   exact aM e1 (aR (aM e3 dY))
  .wtm_at "c"
  .exact qU _ _
noncomputable def Tr.size:Tr->Nat
 |.lf _ _ _=>1
 |.nd _ _ l r=>1+l.size+r.size
noncomputable def kO(ws:List Tr):Nat:=(ws.map Tr.size).sum
def U0:∀t:Tr,1<=t.size
 |.lf _ _ _=>bH _
 |.nd _ _ _ _=>by simp[Tr.size];omega
def Vx(a b:List Tr):kO (a++b)=kO a+kO b:=by simp[kO]
theorem Vm(ws:List Tr):ws.length<=kO ws:=by
 induction ws with
 |nil=>simp[kO]
 |cons t r ih =>
  have:=U0 t;simp only[kO,iJ,List.sum_cons,jo] at *
  omega
noncomputable def aV(i:Nat):D := .int (i:Nat)
section
variable {K:Nat}{o d:Pt}(ho:aU K o)(hd:aU K d)(h0:d≠(0,0,0))(hK:K<=10000)
theorem zmQ{n:Nat}{x:D}{S3:So}(h:S[n]?=some (.lst (xs++[x])))(h3:S.set n (.lst xs)=S3):nq (.ref n) [] S=some (x,S3):=by unfold nq;simp only;rw[h];simp[h3]
def Rq{a b c:O}{n:Nat}(hn:n=S.length+1):(S++[a]++[b]).set n c=S++[a]++[c]:=by subst hn;rw[show S.length+1=(S++[a]).length by simp];simp
def Jx{a b c:O}{n:Nat}(hn:n=S.length):(S++[a]++[b]).set n c=S++[c]++[b]:=by subst hn;simp
noncomputable def Em(o d:Pt)(q:Lf):Bool:=(gQ o d q.1 q.2.1).isSome
noncomputable def lE(o d:Pt)(l:List Lf):List Nat:=(l.filter (Em o d)).map (·.2.2)
theorem zqC:∀{t:Tr},sy K t->∀q∈t.leaves,qx t.lo q.1/\qx q.2.1 t.hi
 |.lf lo hi i,_,q,hq=>by rw[List.mem_singleton.mp hq];exact⟨⟨Int.le_refl _,Int.le_refl _,Int.le_refl _⟩,Int.le_refl _,Int.le_refl _,Int.le_refl _⟩
 |.nd lo hi l r,h,q,hq=>h.2.2.2 q hq
include h0 in
theorem zmC{t:Tr}(ht:sy K t)(e:gQ o d t.lo t.hi=none):lE o d t.leaves=[]:=by unfold lE;rw[List.filter_eq_nil_iff.mpr λq hq=>?_,List.map_nil];have k:=zqC ht q hq;unfold Em;rw[zkD h0 k.1 k.2 e];simp
def UW(a b:List Lf):lE o d (a++b)=lE o d a++lE o d b:=by simp[lE]
def Uy{m:Option ((Int×Int)×(Int×Int))}{b:Bool}(h:mX (En m)=b):m.isSome = !b:=by cases m<;>cases b<;>first|rfl|cases h
abbrev Hf:TF:=bK (eB (bA .Gt) (eN jq (ak (aj 3) au)) (kq 0))
include ho hd h0 hK in
theorem zmi:∀(N:Nat) (ws:List Tr) (fs:List Nat),kO ws<=N->N+fs.length<=1000->(∀t∈ws,sy K t) ->
 ∃fs':List Nat,fs'.Perm (fs++lE o d (ws.flatMap Tr.leaves))/\fs'.length<=fs.length+N/\∀(S:So) (x0 p:Option D),∃p',jV Hf tO [x0,some (.tup [pD o,pD d]),some (.ref S.length),some (.ref (S.length+1)),p] (S++[.lst (fs.map aV)]++[.lst (ws.map bF)]) =
  some (.nx,[x0,some (.tup [pD o,pD d]),some (.ref S.length),some (.ref (S.length+1)),p'],S++[.lst (fs'.map aV)]++[.lst []]):=by
 intro N
 induction N with
 |zero =>
  intro ws fs h1 h2 h3;have hw:ws=[]:=by have:=Vm ws;exact List.eq_nil_of_length_eq_zero (by omega)
  subst hw;refine⟨fs,by simp[lE],by omega,λS x0 p=>⟨p,?_⟩⟩;have l2:(S++[O.lst (fs.map aV)]++[O.lst []])[S.length+1]?=some (.lst []):=by rw[show S.length+1=(S++[O.lst (fs.map aV)]).length by simp];exact b8
  exact Fz (dM (aF (bB (aJ (aq rfl) aZ) (qY l2)) aN rfl))
 |succ N ih =>
  intro ws fs h1 h2 h3;rcases List.eq_nil_or_concat ws with rfl|⟨ws',t,rfl⟩
  .refine⟨fs,by simp[lE],by omega,λS x0 p=>⟨p,?_⟩⟩;have l2:(S++[O.lst (fs.map aV)]++[O.lst []])[S.length+1]?=some (.lst []):=by rw[show S.length+1=(S++[O.lst (fs.map aV)]).length by simp];exact b8
   exact Fz (dM (aF (bB (aJ (aq rfl) aZ) (qY l2)) aN rfl))
  .rw[List.concat_eq_append] at *
   have hsz:=Vx ws' [t];have hpt:=U0 t;have ht:kO [t]=t.size:=by simp[kO]
   have hto:=h3 t (by simp);have htl:aU K t.lo/\aU K t.hi:=by
    cases t with
    |lf lo hi i=>exact hto
    |nd lo hi l r=>exact hto.1
   have fb:∀fx:EF,∀(Z:Sg) (S:So),fx Z S=some (bF t,S)->gP "Tree" "box" fx Z S=some (.tup [pD t.lo,pD t.hi],S):=λfx Z S h=>by cases t<;>exact qX h rfl rfl
   have turn:∀(S:So) (x0 p:Option D) (r:Fl×Sg×So) (fl:Fl) (σ2:Sg) (S2:So),tO [x0,some (.tup [pD o,pD d]),some (.ref S.length),some (.ref (S.length+1)),p] (S++[.lst (fs.map aV)]++[.lst ((ws'++[t]).map bF)])=some (fl,σ2,S2)->(fl = .nx\/fl = .ct)->jV Hf tO σ2 S2=some r ->
    jV Hf tO [x0,some (.tup [pD o,pD d]),some (.ref S.length),some (.ref (S.length+1)),p] (S++[.lst (fs.map aV)]++[.lst ((ws'++[t]).map bF)])=some r:=λS x0 p r fl σ2 S2 e hf hr=>by
    have l2:(S++[O.lst (fs.map aV)]++[O.lst ((ws'++[t]).map bF)])[S.length+1]?=some (.lst ((ws'++[t]).map bF)):=by rw[show S.length+1=(S++[O.lst (fs.map aV)]).length by simp];exact b8
    refine Kc (σ1:=[]) ?_ e hf hr;have:=dM (aF (bB (aJ (aq (Z:=[x0,some (.tup [pD o,pD d]),some (.ref S.length),some (.ref (S.length+1)),p]) (i:=3) rfl) aZ) (qY l2)) (aN (d := .int 0)) tK);rw[show Hf=bK (eB (bA .Gt) (eN jq (ak (aj 3) au)) (kq 0)) from rfl,this,m6];simp
   have st1:∀(S:So) (x0 p:Option D),Ng [x0,some (.tup [pD o,pD d]),some (.ref S.length),some (.ref (S.length+1)),p] (S++[.lst (fs.map aV)]++[.lst ((ws'++[t]).map bF)])=some (.nx,[x0,some (.tup [pD o,pD d]),some (.ref S.length),some (.ref (S.length+1)),some (bF t)],S++[.lst (fs.map aV)]++[.lst (ws'.map bF)]):=λS x0 p=>by
    have l2:(S++[O.lst (fs.map aV)]++[O.lst ((ws'++[t]).map bF)])[S.length+1]?=some (.lst ((ws'++[t]).map bF)):=by rw[show S.length+1=(S++[O.lst (fs.map aV)]).length by simp];exact b8
    unfold Ng;refine bN (x:=bF t) (S1:=S++[.lst (fs.map aV)]++[.lst (ws'.map bF)]) ?_ (bY rfl);unfold Du;rw[aq (d := .ref (S.length+1)) rfl];simp only[cu];rw[l2];simp only;exact zmQ (by rw[l2,mG];rfl) (Rq rfl)
   have sp:=λS=>V4 (lo:=t.lo) (hi:=t.hi) ho hd htl.1 htl.2 h0 hK S;have st2:∀(S:So) (x0:Option D) (b:Bool),mX (En (gQ o d t.lo t.hi))=b->bK (eB (bA .Is) (eN (aY 2 vH) (ak (aj 1) (ak (gP "Tree" "box" (aj 4)) au))) (eC .non)) [x0,some (.tup [pD o,pD d]),some (.ref S.length),some (.ref (S.length+1)),some (bF t)] (S++[.lst (fs.map aV)]++[.lst (ws'.map bF)])=some (b,S++[.lst (fs.map aV)]++[.lst (ws'.map bF)]):=λS x0 b hb=>by rw[<-hb];exact dM (aF (bB (aJ (aq rfl) (aJ (fb _ _ _ (aq rfl)) aZ)) (dj rfl (sp _))) aN tH)
   cases hsp:mX (En (gQ o d t.lo t.hi)) with
   |true =>
    obtain⟨fs',p1,p2,p3⟩:=ih ws' fs (by omega) (by omega) (λt' h=>h3 t' (by simp[h]));refine⟨fs',?_,by omega,λS x0 p=>?_⟩
    .have hn:gQ o d t.lo t.hi=none:=by have:=Uy hsp;cases q:gQ o d t.lo t.hi with|none=>rfl|some _=>rw[q] at this;cases this
     rw[List.flatMap_append,UW,List.flatMap_singleton,zmC h0 hto hn,List.append_nil];exact p1
    .obtain⟨p',e⟩:=p3 S x0 (some (bF t));refine⟨p',turn S x0 p _ .ct _ _ ?_ (.inr rfl) e⟩;unfold tO;refine aM (st1 S x0 p) (aR (aM (fl := .ct) ?_ Jw));unfold zb;exact gk (st2 S x0 true hsp) (jb rfl (aM Sy Jw))
   |false =>
    cases t with
    |lf lo hi i =>
     obtain⟨fs',p1,p2,p3⟩:=ih ws' (fs++[i]) (by omega) (by simp;omega) (λt' h=>h3 t' (by simp[h]));refine⟨fs',?_,by simp at p2;omega,λS x0 p=>?_⟩
     .have hs:lE o d (Tr.leaves (.lf lo hi i))=[i]:=by have:Em o d (lo,hi,i)=true:=Uy hsp;unfold lE Tr.leaves;rw[List.filter_cons_of_pos this];rfl
      rw[List.flatMap_append,UW,List.flatMap_singleton,hs];rw[dI] at p1;exact p1.trans (List.Perm.append_left _ List.perm_append_comm)
     .obtain⟨p',e⟩:=p3 S x0 (some (bF (.lf lo hi i)));refine⟨p',turn S x0 p _ .nx _ _ ?_ (.inl rfl) e⟩;unfold tO;have s2:zb [x0,some (.tup [pD o,pD d]),some (.ref S.length),some (.ref (S.length+1)),some (bF (.lf lo hi i))] (S++[.lst (fs.map aV)]++[.lst (ws'.map bF)])=some (.nx,[x0,some (.tup [pD o,pD d]),some (.ref S.length),some (.ref (S.length+1)),some (bF (.lf lo hi i))],S++[.lst (fs.map aV)]++[.lst (ws'.map bF)]):=by unfold zb;exact gk (st2 S x0 false hsp) (fM rfl fD)
      have s3:Bh [x0,some (.tup [pD o,pD d]),some (.ref S.length),some (.ref (S.length+1)),some (bF (.lf lo hi i))] (S++[.lst (fs.map aV)]++[.lst (ws'.map bF)])=some (.nx,[x0,some (.tup [pD o,pD d]),some (.ref S.length),some (.ref (S.length+1)),some (bF (.lf lo hi i))],S++[.lst ((fs++[i]).map aV)]++[.lst (ws'.map bF)]):=by unfold Bh;have l1:(S++[O.lst (fs.map aV)]++[O.lst (ws'.map bF)])[S.length]?=some (.lst (fs.map aV)):=dZ b8;rw[mG];exact gk (b:=false) (dM (aF (qX (d:=aV i) (aq rfl) rfl rfl) aN tH)) (fM rfl (aM (qZ (vo (aq rfl) l1 (aJ (qX (d:=aV i) (aq rfl) rfl rfl) aZ) (Al l1 (by rw[cY,sizeLine_eq];omega) (Jx rfl)))) (aR fD)))
      exact aM (st1 S x0 p) (aR (aM s2 (aR (aM s3 (aR fD)))))
    |nd lo hi l r =>
     have hsl:kO (ws'++[l,r])<=N:=by
      have e1:=Vx ws' [l,r];have e2:kO [l,r]=l.size+r.size:=by simp[kO]
      have e3:(Tr.nd lo hi l r).size=1+l.size+r.size:=rfl;omega
     obtain⟨fs',p1,p2,p3⟩:=ih (ws'++[l,r]) fs hsl (by omega) (λt' h=>by
      rcases lq.mp h with h|h
      .exact h3 t' (by simp[h])
      .rcases List.mem_cons.mp h with rfl|h
       .exact hto.2.1
       .rw[List.mem_singleton.mp h];exact hto.2.2.1)
     refine⟨fs',?_,by omega,λS x0 p=>?_⟩
     .have hl:(ws'++[l,r]).flatMap Tr.leaves=(ws'++[Tr.nd lo hi l r]).flatMap Tr.leaves:=by simp[Tr.leaves]
      rw[<-hl];exact p1
     .obtain⟨p',e⟩:=p3 S x0 (some (bF (.nd lo hi l r)));refine⟨p',turn S x0 p _ .nx _ _ ?_ (.inl rfl) e⟩;unfold tO;have s2:zb [x0,some (.tup [pD o,pD d]),some (.ref S.length),some (.ref (S.length+1)),some (bF (.nd lo hi l r))] (S++[.lst (fs.map aV)]++[.lst (ws'.map bF)])=some (.nx,[x0,some (.tup [pD o,pD d]),some (.ref S.length),some (.ref (S.length+1)),some (bF (.nd lo hi l r))],S++[.lst (fs.map aV)]++[.lst (ws'.map bF)]):=by unfold zb;exact gk (st2 S x0 false hsp) (fM rfl fD)
      have s3:Bh [x0,some (.tup [pD o,pD d]),some (.ref S.length),some (.ref (S.length+1)),some (bF (.nd lo hi l r))] (S++[.lst (fs.map aV)]++[.lst (ws'.map bF)])=some (.nx,[x0,some (.tup [pD o,pD d]),some (.ref S.length),some (.ref (S.length+1)),some (bF (.nd lo hi l r))],S++[.lst (fs.map aV)]++[.lst ((ws'++[l,r]).map bF)]):=by
       unfold Bh;have l2:(S++[O.lst (fs.map aV)]++[O.lst (ws'.map bF)])[S.length+1]?=some (.lst (ws'.map bF)):=by rw[show S.length+1=(S++[O.lst (fs.map aV)]).length by simp];exact b8
       have hx:yj (.ref (S.length+1)) [.tup [bF l,bF r]] (S++[.lst (fs.map aV)]++[.lst (ws'.map bF)])=some (.non,S++[.lst (fs.map aV)]++[.lst ((ws'++[l,r]).map bF)]):=by have hlw:=Vm ws';unfold yj;simp only;rw[l2];simp only;rw[if_pos (by rw[cY,sizeLine_eq];simp;omega),Rq rfl,mG];rfl
       exact gk (b:=true) (dM (aF (qX (d := .non) (aq rfl) rfl rfl) aN tH)) (jb rfl (aM (qZ (vo (aq rfl) l2 (aJ (qX (d := .tup [bF l,bF r]) (aq rfl) rfl rfl) aZ) hx)) (aR fD)))
      exact aM (st1 S x0 p) (aR (aM s2 (aR (aM s3 (aR fD)))))
end
def Lb:∀t:Tr,t.size+1=2*t.leaves.length
 |.lf _ _ _=>rfl
 |.nd _ _ l r=>by have h1:=Lb l;have h2:=Lb r;simp only[Tr.size,Tr.leaves,iW];omega
theorem Ae(n:Nat)(fs:List Nat):O.lo n (.lst (fs.map aV))=true:=by show c7 n _=true;rw[ju];intro x hx;obtain⟨i,_,rfl⟩:=List.mem_map.mp hx;simp[aV,D.lo]
section
variable {K:Nat}{o d:Pt}(ho:aU K o)(hd:aU K d)(h0:d≠(0,0,0))
include ho hd h0 in
theorem zmw(hK:K<=10000){t:Option Tr}(ht:∀t',t=some t'->sy K t'/\t'.leaves.length<=40):
 ∃fs:List Nat,fs.Perm (lE o d (zq t))/\fs.length<=100/\∀S,WF S->GK [gC t,cN o d] S=some (.ref S.length,S++[.lst (fs.map aV)]++[.lst []]):=by
 have hsz:kO t.toList<=100:=by
  cases t with
  |none=>simp[kO]
  |some t' =>
   have h1:=Lb t';have h2:=(ht t' rfl).2;simp[kO];omega
 obtain⟨fs,p1,p2,p3⟩:=zmi ho hd h0 hK 100 t.toList [] hsz (by simp) (λt' h=>by
  cases t with
  |none=>simp at h
  |some t2 =>
   have:t'=t2:=by simpa using h
   subst this;exact(ht t' rfl).1)
 refine⟨fs,?_,by simpa using p2,λS hS=>?_⟩
 .have e:(t.toList.flatMap Tr.leaves)=zq t:=by cases t<;>simp[zq]
  rw[sI,e] at p1;exact p1
 .obtain⟨p',e⟩:=p3 S (some (gC t)) none;have a1:Np [some (gC t),some (cN o d),none,none,none] S=some (.nx,[some (gC t),some (cN o d),some (.ref S.length),none,none],S++[.lst []]):=by unfold Np;exact bN (bB aZ (lH (Nat.zero_le _))) (bY rfl)
  have a2:Nq [some (gC t),some (cN o d),some (.ref S.length),none,none] (S++[.lst []])=some (.nx,[some (gC t),some (cN o d),some (.ref S.length),some (.ref (S.length+1)),none],S++[.lst []]++[.lst (t.toList.map bF)]):=by
   unfold Nq;have hlen:(S++[O.lst []]).length=S.length+1:=by simp
   rw[<-hlen];cases t with
   |none=>exact bN (z7 (b:=true) (dM (aF (aq rfl) aN tH)) (jb rfl (bB aZ (lH (Nat.zero_le _))))) (bY rfl)
   |some t' =>
    have hn:mX (gC (some t'))=false:=by cases t'<;>rfl
    refine bN (z7 (b:=false) (dM ?_) (fM rfl (bB (aJ (aq rfl) aZ) (lH (by show 1<=sizeLine;decide))))) (bY rfl);rw[<-hn];exact aF (aq rfl) aN tH
  have a3:Xl [some (gC t),some (cN o d),some (.ref S.length),some (.ref (S.length+1)),none] (S++[.lst []]++[.lst (t.toList.map bF)])=some (.nx,[some (gC t),some (cN o d),some (.ref S.length),some (.ref (S.length+1)),p'],S++[.lst (fs.map aV)]++[.lst []]):=e;have a4:Nr [some (gC t),some (cN o d),some (.ref S.length),some (.ref (S.length+1)),p'] (S++[.lst (fs.map aV)]++[.lst []])=some (.rt (.ref S.length),[some (gC t),some (cN o d),some (.ref S.length),some (.ref (S.length+1)),p'],S++[.lst (fs.map aV)]++[.lst []]):=by unfold Nr;exact fQ (aq rfl)
  refine nZ (Z':=[some (gC t),some (cN o d),some (.ref S.length),some (.ref (S.length+1)),p']) ?_ ?_ (by simp) (by simp[D.lo]) ((hS.snoc (Ae _ _)).snoc rfl)
  .wtm_at "b"
   unfold XD;exact aM a1 (aR (aM a2 (aR (aM a3 (aR (aM a4 dY))))))
  .intro h;simp[D.lo] at h
structure jF(S:So)(c:Nat)(shs:List Sh)(t:Option Tr):Prop where
 ins:S[c]?=some (.ins "Scene" [("kept",.ref (c+1)),("tree",gC t)])
 kept:S[c+1]?=some (.lst (shs.map d7))
structure uW(K:Nat)(shs:List Sh)(t:Option Tr):Prop where
 sh:∀s∈shs,uX K s
 tree:∀t',t=some t'->sy K t'/\t'.leaves.length<=40
 lf:∃g:Sh->Pt×Pt,(∀s∈shs,mD s.pts (g s).1 (g s).2)/\(zq t).Perm (iu (shs.map g))
theorem jF.app{c:Nat}{shs:List Sh}{t:Option Tr}(h:jF S c shs t)(G:So):jF (S++G) c shs t:=by
 have g:∀{n:Nat} {o:O},S[n]?=some o->(S++G)[n]?=some o:=λ{n o} e=>by rw[lR (fC.mp e).1];exact e
 exact⟨g h.ins,g h.kept⟩
abbrev cX:=(Int×Int)×Nat
noncomputable def bG(h:cX):D := .tup [rD h.1,aV h.2]
noncomputable def dg(o d:Pt)(shs:List Sh)(i:Nat):Option cX:=(shs[i]?).bind λs=>(jh o d s).map λp=>(p,i)
noncomputable def lu(o d:Pt)(shs:List Sh):List cX:=(List.range shs.length).filterMap (dg o d shs)
theorem zli(bs:List (Pt×Pt)):(iu bs).map (·.2.2)=List.range bs.length:=by
 apply List.ext_getElem?;intro i;by_cases h:i<bs.length
 .rw[fW,Gq h,List.getElem?_range h];rfl
 .rw[j9 (by rw[cY,m7];omega),j9 (by rw[List.length_range];omega)]
theorem SM{α β:Type}{p:α->Bool}{f:α->Nat}{h:Nat->Option β}:∀l:List α,(∀q∈l,p q=false->h (f q)=none)->((l.filter p).map f).filterMap h=(l.map f).filterMap h
 |[],_=>rfl
 |q::r,k=>by
  have ih:=SM r λx hx=>k x (cU _ hx);cases e:p q with
  |true=>rw[List.filter_cons_of_pos e,iJ,iJ,List.filterMap_cons,List.filterMap_cons,ih]
  |false=>rw[List.filter_cons_of_neg (by simp[e]),iJ,List.filterMap_cons,k q (eZ ..) e,ih]
include h0 in
theorem zmD{shs:List Sh}{g:Sh->Pt×Pt}(hg:∀s∈shs,mD s.pts (g s).1 (g s).2):(lE o d (iu (shs.map g))).filterMap (dg o d shs)=lu o d shs:=by
 unfold lE lu;rw[SM,zli,cY];intro q hq e;obtain⟨i,hi,rfl⟩:=List.getElem_of_mem hq;have hi':i<(shs.map g).length:=by rw[<-m7];exact hi
 have hi2:i<shs.length:=by simpa using hi'
 have e2:=Gq hi';rw[fJ hi] at e2;have e3:=Option.some.inj e2;rw[e3] at e ⊢;simp only[List.getElem_map] at e;unfold dg;rw[fJ hi2];have:jh o d shs[i]=none:=Classical.byContradiction λc=>by
  have:=zoH h0 (hg _ (List.getElem_mem hi2)) c;unfold Em at e;simp only at e;cases q:gQ o d (g shs[i]).1 (g shs[i]).2 with
  |none=>exact this q
  |some _=>rw[q] at e;cases e
 show(jh o d shs[i]).map _=none;rw[this];rfl
theorem Ad(n:Nat)(hs:List cX):O.lo n (.lst (hs.map bG))=true:=by show c7 n _=true;rw[ju];intro x hx;obtain⟨i,_,rfl⟩:=List.mem_map.mp hx;simp[bG,aV,D.lo,c7]
include ho hd h0 in
theorem Tp(hK:K<=1500){shs:List Sh}{t:Option Tr}(ok:uW K shs t):
 ∃fs:List Nat,(fs.filterMap (dg o d shs)).Perm (lu o d shs)/\fs.length<=100/\∀S c,WF S->jF S c shs t->Az [.ref c,cN o d] S=some (.ref S.length,S++[.lst ((fs.filterMap (dg o d shs)).map bG)]++[.lst (fs.map aV)]++[.lst []]):=by
 obtain⟨fs,p1,p2,p3⟩:=zmw ho hd h0 (by omega) ok.tree;obtain⟨g,hg,hlf⟩:=ok.lf;have p4:fs.Perm (lE o d (iu (shs.map g))):=p1.trans ((hlf.filter _).map _);have hfs:∀i∈fs,i<shs.length:=λi hi=>by obtain⟨q,hq,rfl⟩:=List.mem_map.mp (p4.mem_iff.mp hi);have:=(Vn (List.mem_filter.mp hq).1).1;simpa using this
 refine⟨fs,by rw[<-zmD h0 hg];exact p4.filterMap _,p2,λS c hS sc=>?_⟩;have hrs:=zey (o:=o) h0 S;have a1:Mw [some (.ref c),some (cN o d),none,none,none] S=some (.nx,[some (.ref c),some (cN o d),none,none,none],S):=by unfold Mw;exact qZ (bB (aJ (aq rfl) aZ) (dj rfl hrs))
 have a2:Mx [some (.ref c),some (cN o d),none,none,none] S=some (.nx,[some (.ref c),some (cN o d),some (.ref S.length),none,none],S++[.lst []]):=by unfold Mx;exact bN (bB aZ (lH (Nat.zero_le _))) (bY rfl)
 have W1:WF (S++[.lst []]):=hS.snoc rfl;have zp:=sc.app [.lst []];have it:fK (eN (aY 2 GK) (ak (gP "Scene" "tree" (aj 0)) (ak (aj 1) au))) [some (.ref c),some (cN o d),some (.ref S.length),none,none] (S++[.lst []])=some (.lst (S.length+1),S++[.lst []]++[.lst (fs.map aV)]++[.lst []]):=by
  have hlen:(S++[O.lst []]).length=S.length+1:=by simp
  rw[<-hlen];exact lZ (bB (aJ (JH (aq rfl) zp.ins rfl) (aJ (aq rfl) aZ)) (dj rfl (p3 _ W1))) (dZ b8)
 have inv:=q8 (nx:=dH (.lst (S.length+1))) (g:=aH 3) (f:=yX) (xs:=fs.map aV)
  (λi Z S'=>∃a b,Z=[some (.ref c),some (cN o d),some (.ref S.length),a,b]/\S'=S++[.lst (((fs.take i).filterMap (dg o d shs)).map bG)]++[.lst (fs.map aV)]++[.lst []])
  (λi Z S' ⟨a,b,_,e⟩=>by
   subst e;have l:(S++[O.lst (((fs.take i).filterMap (dg o d shs)).map bG)]++[O.lst (fs.map aV)]++[O.lst []])[S.length+1]?=some (.lst (fs.map aV)):=by rw[show S.length+1=(S++[O.lst (((fs.take i).filterMap (dg o d shs)).map bG)]).length by simp];exact dZ b8
   unfold dH;simp only;rw[l])
  (λi dd Z S' hi ⟨a,b,e1,e2⟩=>?_) fs.length 0 [some (.ref c),some (cN o d),some (.ref S.length),none,none] (S++[.lst []]++[.lst (fs.map aV)]++[.lst []]) ⟨none,none,rfl,rfl⟩ (by simp)
 .obtain⟨Z',S',e,a,b,rfl,rfl⟩:=inv;rw[cY,mF] at e;have a3:Mz [some (.ref c),some (cN o d),some (.ref S.length),none,none] (S++[.lst []])=some (.nx,[some (.ref c),some (cN o d),some (.ref S.length),a,b],S++[.lst ((fs.filterMap (dg o d shs)).map bG)]++[.lst (fs.map aV)]++[.lst []]):=by
   unfold Mz;refine lG it (n:=fs.length) ?_ e;have l:(S++[O.lst []]++[O.lst (fs.map aV)]++[O.lst []])[S.length+1]?=some (.lst (fs.map aV)):=by rw[show S.length+1=(S++[O.lst []]).length by simp];exact dZ b8
   unfold qG;simp only;rw[l];simp
  have a4:MF [some (.ref c),some (cN o d),some (.ref S.length),a,b] (S++[.lst ((fs.filterMap (dg o d shs)).map bG)]++[.lst (fs.map aV)]++[.lst []])=some (.rt (.ref S.length),[some (.ref c),some (cN o d),some (.ref S.length),a,b],S++[.lst ((fs.filterMap (dg o d shs)).map bG)]++[.lst (fs.map aV)]++[.lst []]):=by unfold MF;exact fQ (aq rfl)
  refine nZ (Z':=[some (.ref c),some (cN o d),some (.ref S.length),a,b]) ?_ ?_ (by simp) (by simp[D.lo]) (((hS.snoc (Ad _ _)).snoc (Ae _ _)).snoc rfl)
  .wtm_at "b"
   unfold Lk;exact aM a1 (aR (aM a2 (aR (aM a3 (aR (aM a4 dY))))))
  .intro h;simp[D.lo] at h
 .subst e1 e2;have hi':i<fs.length:=by have:=(fC.mp hi).1;simpa using this
  have hd':dd=aV fs[i]:=by rw[fW,fJ hi'] at hi;exact(Option.some.inj hi).symm
  subst hd';have hj:=hfs fs[i] (List.getElem_mem hi');have hWS:WF (S++[.lst (((fs.take i).filterMap (dg o d shs)).map bG)]++[.lst (fs.map aV)]++[.lst []]):=((hS.snoc (Ad _ _)).snoc (Ae _ _)).snoc rfl;have YB:jF (S++[.lst (((fs.take i).filterMap (dg o d shs)).map bG)]++[.lst (fs.map aV)]++[.lst []]) c shs t:=by rw[dI,dI];exact sc.app _
  have tm:=zkH ho hd (ok.sh _ (List.getElem_mem hj)) h0 hK _ hWS;have hix:gq (shs.map d7) ((fs[i]:Nat):Int)=some (d7 shs[fs[i]]):=yG (by simp[hj]);have b1:Nv [some (.ref c),some (cN o d),some (.ref S.length),some (aV fs[i]),b] (S++[.lst (((fs.take i).filterMap (dg o d shs)).map bG)]++[.lst (fs.map aV)]++[.lst []])=some (.nx,[some (.ref c),some (cN o d),some (.ref S.length),some (aV fs[i]),some (tD (jh o d shs[fs[i]]))],S++[.lst (((fs.take i).filterMap (dg o d shs)).map bG)]++[.lst (fs.map aV)]++[.lst []]):=by unfold Nv;exact bN (bB (aJ (aq rfl) (aJ (aF (JH (aq rfl) YB.ins rfl) (aq rfl) (nT YB.kept hix)) aZ)) (dj rfl tm)) (bY rfl)
  have tk:fs.take (i+1)=fs.take i++[fs[i]]:=by rw[List.take_add_one,fJ hi'];rfl
  have hat:dg o d shs fs[i]=(jh o d shs[fs[i]]).map λp=>(p,fs[i]):=by unfold dg;rw[fJ hj];rfl
  cases ht:jh o d shs[fs[i]] with
  |none =>
   rw[ht] at b1 hat
   have b2:Bg [some (.ref c),some (cN o d),some (.ref S.length),some (aV fs[i]),some (tD none)] (S++[.lst (((fs.take i).filterMap (dg o d shs)).map bG)]++[.lst (fs.map aV)]++[.lst []])=some (.nx,[some (.ref c),some (cN o d),some (.ref S.length),some (aV fs[i]),some (tD none)],S++[.lst (((fs.take i).filterMap (dg o d shs)).map bG)]++[.lst (fs.map aV)]++[.lst []]):=by unfold Bg;exact gk (b:=false) (dM (aF (aq rfl) aN JX)) (fM rfl fD)
   have b3:yX [some (.ref c),some (cN o d),some (.ref S.length),some (aV fs[i]),b] (S++[.lst (((fs.take i).filterMap (dg o d shs)).map bG)]++[.lst (fs.map aV)]++[.lst []])=some (.nx,[some (.ref c),some (cN o d),some (.ref S.length),some (aV fs[i]),some (tD none)],S++[.lst (((fs.take i).filterMap (dg o d shs)).map bG)]++[.lst (fs.map aV)]++[.lst []]):=by unfold yX;exact aM b1 (aR (aM b2 (aR fD)))
   refine⟨_,_,.nx,_,_,bY rfl,b3,.inl rfl,some (aV fs[i]),some (tD none),rfl,?_⟩
   .rw[tk,List.filterMap_append];simp[hat]
  |some p =>
   rw[ht] at b1 hat
   have b2:Bg [some (.ref c),some (cN o d),some (.ref S.length),some (aV fs[i]),some (tD (some p))] (S++[.lst (((fs.take i).filterMap (dg o d shs)).map bG)]++[.lst (fs.map aV)]++[.lst []])=some (.nx,[some (.ref c),some (cN o d),some (.ref S.length),some (aV fs[i]),some (tD (some p))],S++[.lst (((fs.take i).filterMap (dg o d shs)).map bG++[bG (p,fs[i])])]++[.lst (fs.map aV)]++[.lst []]):=by
    unfold Bg;have l1:(S++[O.lst (((fs.take i).filterMap (dg o d shs)).map bG)]++[O.lst (fs.map aV)]++[O.lst []])[S.length]?=some (.lst (((fs.take i).filterMap (dg o d shs)).map bG)):=dZ (dZ b8);refine gk (b:=true) (dM (aF (aq rfl) aN JX)) (jb rfl (aM (qZ (vo (aq rfl) l1 (aJ (bB (aJ (aq rfl) (aJ (aq rfl) aZ)) (gH (by show 2<=sizeLine;decide))) aZ) (Al l1 ?_ ?_))) (aR fD)))
    .rw[cY,sizeLine_eq];have:=List.length_filterMap_le (dg o d shs) (fs.take i);have h2:(fs.take i).length<=100:=by simp;omega
     omega
    .rw[List.set_append_left _ _ (by simp),List.set_append_left _ _ (by simp)];simp[bG,tD]
   have b3:yX [some (.ref c),some (cN o d),some (.ref S.length),some (aV fs[i]),b] (S++[.lst (((fs.take i).filterMap (dg o d shs)).map bG)]++[.lst (fs.map aV)]++[.lst []])=some (.nx,[some (.ref c),some (cN o d),some (.ref S.length),some (aV fs[i]),some (tD (some p))],S++[.lst (((fs.take i).filterMap (dg o d shs)).map bG++[bG (p,fs[i])])]++[.lst (fs.map aV)]++[.lst []]):=by unfold yX;exact aM b1 (aR (aM b2 (aR fD)))
   refine⟨_,_,.nx,_,_,bY rfl,b3,.inl rfl,some (aV fs[i]),some (tD (some p)),rfl,?_⟩
   .rw[tk,List.filterMap_append];simp[hat]
end
open Classical in
noncomputable def lB(h b:cX):Bool:=decide (h.1.1*b.1.2<b.1.1*h.1.2)||(decide (rD h.1=rD b.1)&&decide ((h.2:Int)<(b.2:Int)))
structure xR(k:Nat)(h:cX):Prop where
 a:Bd k h.1.1
 b:Bd k h.1.2
open Classical in
theorem zkG{h b:cX}(h1:xR k h)(h2:xR k b)(hk:k+k<=134217728)(S:So):Gu [bG h,bG b] S=some (.bl (lB h b),S):=by
 have hl:=sp_is_less h1.a h1.b h2.a h2.b hk S;have t:kJ (eN (aY 2 tM) (ak (eB aG (aj 0) (kq 0)) (ak (eB aG (aj 1) (kq 0)) au))) [some (bG h),some (bG b)] S=some (decide (h.1.1*b.1.2<b.1.1*h.1.2),S) :=
  JN (bB (aJ (aF (aq rfl) aN (cW (z:=rD h.1) rfl)) (aJ (aF (aq rfl) aN (cW (z:=rD b.1) rfl)) aZ)) (dj rfl hl)) rfl
 apply cG (S':=S) (Z':=[some (bG h),some (bG b)])
 .wtm_at "b"
  unfold V6;cases hb:decide (h.1.1*b.1.2<b.1.1*h.1.2) with
  |true =>
   rw[hb] at t;have:lB h b=true:=by unfold lB;rw[hb];rfl
   rw[this];exact aM (gk t (jb rfl (aM (fQ aN) dY))) dY
  |false =>
   rw[hb] at t;have e:lB h b=(decide (rD h.1=rD b.1)&&decide ((h.2:Int)<(b.2:Int))):=by unfold lB;rw[hb];rfl
   rw[e];have q:eB (bA .Eq) (eB aG (aj 0) (kq 0)) (eB aG (aj 1) (kq 0)) [some (bG h),some (bG b)] S=some (.bl (decide (rD h.1=rD b.1)),S) :=
    aF (aF (aq rfl) aN (cW (z:=rD h.1) rfl)) (aF (aq rfl) aN (cW (z:=rD b.1) rfl)) (Jf rfl 1 rfl rfl (by decide))
   have l:eB (bA .Lt) (eB aG (aj 0) (kq 1)) (eB aG (aj 1) (kq 1)) [some (bG h),some (bG b)] S=some (.bl (decide ((h.2:Int)<(b.2:Int))),S) :=
    aF (aF (aq rfl) aN (cW (z:=aV h.2) rfl)) (aF (aq rfl) aN (cW (z:=aV b.2) rfl)) qi
   refine aM (gk t (fM rfl fD)) (aR (aM (fQ (Sv q ?_)) dY));cases hd:decide (rD h.1=rD b.1) with
   |true=>exact jb rfl (by rw[l];rfl)
   |false=>exact fM rfl rfl
 .exact mF
 .rfl
noncomputable def mJ:Option cX->D
 |none => .non
 |some h=>bG h
noncomputable def fO(best:Option cX)(h:cX):Option cX:=match best with
 |none=>some h
 |some b=>if lB h b=true then some h else some b
theorem yI:∀(hs:List cX) (b:Option cX) (h:cX),hs.foldl fO b=some h->h∈hs\/b=some h
 |[],b,h,e => .inr e
 |x::r,b,h,e=>by
  rcases yI r (fO b x) h e with q|q
  .exact .inl (cU _ q)
  .cases b with
   |none=>simp only[fO,Option.some.injEq] at q;subst q;exact .inl (eZ ..)
   |some y =>
    simp only[fO] at q;split at q
    .cases q;exact .inl (eZ ..)
    .exact .inr q
def gO(h:cX):Prop:=0<h.1.2/\cV h.1.1 h.1.2=h.1
theorem q9{h b:cX}:lB h b=true↔fj h.1 b.1\/(h.1=b.1/\h.2<b.2):=by
 have e:rD h.1=rD b.1↔h.1=b.1:=⟨λq=>by
  obtain⟨⟨x,y⟩,i⟩:=h;obtain⟨⟨z,w⟩,j⟩:=b;simp[rD] at q;simp[q.1,q.2],λq=>by rw[q]⟩
 unfold lB fj;simp only[lg,dD,oK];exact or_congr Iff.rfl (and_congr e Int.ofNat_lt)
def JP{a b:cX}(ha:gO a)(hb:gO b)(h1:leQ a.1 b.1)(h2:leQ b.1 a.1):a.1=b.1:=by rw[<-ha.2,<-hb.2];exact zjS ha.1 hb.1 h1 h2
def iy(x y:cX):Prop:=¬lB y x=true
theorem Jc{x y z:cX}(gx:gO x)(gy:gO y)(gz:gO z)(h1:iy x y)(h2:iy y z):iy x z:=by
 unfold iy at *
 rw[q9] at *
 have q1:leQ x.1 y.1:=oX λc=>h1 (.inl c);have q2:leQ y.1 z.1:=oX λc=>h2 (.inl c)
 rintro(c|⟨c1,c2⟩)
 .exact Uz (yQ gx.1 gy.1 gz.1 q1 q2) c
 .rw[c1] at q2;have e:=JP gx gy q1 q2;have k1:¬y.2<x.2:=λc=>h1 (.inr ⟨e.symm,c⟩);have k2:¬z.2<y.2:=λc=>h2 (.inr ⟨c1.trans e,c⟩);omega
theorem Uj{x y:cX}(gx:gO x)(gy:gO y)(h1:iy x y)(h2:iy y x):x=y:=by
 unfold iy at *
 rw[q9] at *
 have e:=JP gx gy (oX λc=>h1 (.inl c)) (oX λc=>h2 (.inl c));have k1:¬y.2<x.2:=λc=>h1 (.inr ⟨e.symm,c⟩);have k2:¬x.2<y.2:=λc=>h2 (.inr ⟨e,c⟩);exact Prod.ext e (by omega)
theorem R7{x y:cX}(h:lB y x=true):iy y x:=by
 unfold iy;rw[q9] at *
 unfold fj at *
 rcases h with h|⟨h1,h2⟩
 .rintro(c|⟨c,_⟩)
  .omega
  .rw[c] at h;omega
 .rintro(c|⟨_,c⟩)
  .rw[h1] at c;omega
  .omega
def Ge(x:cX):iy x x:=by unfold iy;rw[q9];unfold fj;omega
theorem zZ:∀(hs:List cX) (b:Option cX),(∀x∈hs,gO x)->(∀y,b=some y->gO y) ->
 (hs.foldl fO b=none->hs=[]/\b=none)/\∀h,hs.foldl fO b=some h->(∀x∈hs,iy h x)/\∀y,b=some y->iy h y
 |[],b,_,_=>⟨λe=>⟨rfl,e⟩,λh e=>⟨λx hx=>(by cases hx),λy hy=>by
  have e':b=some h:=e;rw[e'] at hy;cases hy;exact Ge _⟩⟩
 |x::r,b,g1,g2=>by
  have gx:=g1 x (eZ ..);have step:∃z,fO b x=some z/\gO z/\iy z x/\∀y,b=some y->iy z y:=by
   cases b with
   |none=>exact⟨x,rfl,gx,Ge _,λy hy=>by cases hy⟩
   |some y =>
    have gy:=g2 y rfl;unfold fO;by_cases hs:lB x y=true
    .simp only[if_pos hs];exact⟨x,rfl,gx,Ge _,λz hz=>by cases hz;exact R7 hs⟩
    .simp only[if_neg hs];exact⟨y,rfl,gy,hs,λz hz=>by cases hz;exact Ge _⟩
  obtain⟨z,ez,gz,z1,z2⟩:=step;obtain⟨k1,k2⟩:=zZ r (some z) (λy hy=>g1 y (cU _ hy)) (λy hy=>by cases hy;exact gz);rw[List.foldl_cons,ez];refine⟨λe=>absurd (k1 e).2 (by simp),λh e=>?_⟩;have gh:gO h:=by
   rcases yI r (some z) h e with q|q
   .exact g1 h (cU _ q)
   .cases q;exact gz
  obtain⟨m1,m2⟩:=k2 h e;have hz:=m2 z rfl;refine⟨λy hy=>?_,λy hy=>Jc gh gz (g2 y hy) hz (z2 y hy)⟩;rcases List.mem_cons.mp hy with rfl|hy
  .exact Jc gh gz gx hz z1
  .exact m1 y hy
theorem zkd{l1 l2:List cX}(p:l1.Perm l2)(g:∀x∈l1,gO x):l1.foldl fO none=l2.foldl fO none:=by
 have g':∀x∈l2,gO x:=λx hx=>g x (p.mem_iff.mpr hx);obtain⟨a1,a2⟩:=zZ l1 none g (λy hy=>by cases hy);obtain⟨b1,b2⟩:=zZ l2 none g' (λy hy=>by cases hy);cases e1:l1.foldl fO none with
 |none =>
  have:=(a1 e1).1;subst this;rw[List.nil_perm.mp p];rfl
 |some h =>
  have hm:h∈l1:=by
   rcases yI l1 none h e1 with q|q
   .exact q
   .cases q
  cases e2:l2.foldl fO none with
  |none =>
   rw[(b1 e2).1] at p;rw[List.perm_nil.mp p] at hm;cases hm
  |some k =>
   have km:k∈l2:=by
    rcases yI l2 none k e2 with q|q
    .exact q
    .cases q
   rw[Uj (g h hm) (g' k km) ((a2 h e1).1 k (p.mem_iff.mpr km)) ((b2 k e2).1 h (p.mem_iff.mp hm))]
noncomputable def tG(o d:Pt)(shs:List Sh):Option cX:=(lu o d shs).foldl fO none
section
variable {K:Nat}{o d:Pt}(ho:aU K o)(hd:aU K d)(h0:d≠(0,0,0))
theorem yM{shs:List Sh}{h:cX}:dg o d shs i=some h↔∃s p,shs[i]?=some s/\jh o d s=some p/\h=(p,i):=by
 unfold dg;simp only[bC,bf];constructor
 .rintro⟨s,e1,p,e2,rfl⟩;exact⟨s,p,e1,e2,rfl⟩
 .rintro⟨s,p,e1,e2,rfl⟩;exact⟨s,e1,p,e2,rfl⟩
include h0 in
def yN{shs:List Sh}{h:cX}(e:dg o d shs i=some h):gO h:=by obtain⟨s,p,e1,e2,rfl⟩:=yM.mp e;exact⟨(Ry h0 s p e2).2.1,zqD o d s p e2⟩
theorem Kq{shs:List Sh}{h:cX}:h∈lu o d shs↔∃s p i,shs[i]?=some s/\jh o d s=some p/\h=(p,i):=by
 unfold lu;rw[List.mem_filterMap];constructor
 .rintro⟨i,_,e⟩
  obtain⟨s,p,q⟩:=yM.mp e;exact⟨s,p,i,q⟩
 .rintro⟨s,p,i,q⟩
  exact⟨i,List.mem_range.mpr (fC.mp q.1).1,yM.mpr ⟨s,p,q⟩⟩
include ho hd h0 in
theorem Rh{shs:List Sh}{t:Option Tr}(ok:uW K shs t){h:cX}(e:dg o d shs i=some h):xR (4*K+10) h/\h.2=i:=by unfold dg at e;simp only[bC,bf] at e;obtain⟨s,e1,p,e2,rfl⟩:=e;have b:=Q8 ho hd (ok.sh s (List.mem_of_getElem? e1)) h0 p e2;exact⟨⟨b.2.2.1,b.2.2.2⟩,rfl⟩
include ho hd h0 in
theorem V3(hK:K<=1500){shs:List Sh}{t:Option Tr}(ok:uW K shs t):
 ∀S c,WF S->jF S c shs t->Bc [.ref c,cN o d] S=some (mJ (tG o d shs),S):=by
 obtain⟨fs,p1,p2,p3⟩:=Tp ho hd h0 hK ok;have hb:∀h∈fs.filterMap (dg o d shs),xR (4*K+10) h:=λh hh=>by obtain⟨i,hi,e⟩:=List.mem_filterMap.mp hh;exact(Rh ho hd h0 ok e).1
 have hf:(fs.filterMap (dg o d shs)).foldl fO none=tG o d shs:=zkd p1 λh hh=>by obtain⟨i,hi,e⟩:=List.mem_filterMap.mp hh;exact yN h0 e
 generalize Qc:fs.filterMap (dg o d shs)=hs at *
 have hln:hs.length<=100:=by rw[<-Qc];exact Nat.le_trans (List.length_filterMap_le _ _) p2
 refine λS c hS sc=>?_;rw[<-hf]
 .have hh:=p3 S c hS sc;have a1:Ml [some (.ref c),some (cN o d),none,none] S=some (.nx,[some (.ref c),some (cN o d),some .non,none],S):=by unfold Ml;exact bN aN (bY rfl)
  have l1:(S++[O.lst (hs.map bG)]++[O.lst (fs.map aV)]++[O.lst []])[S.length]?=some (.lst (hs.map bG)):=dZ (dZ b8);have it:fK (lV "Scene" "hits" 2 Az (aj 0) (ak (aj 1) au)) [some (.ref c),some (cN o d),some .non,none] S=some (.lst S.length,S++[.lst (hs.map bG)]++[.lst (fs.map aV)]++[.lst []]) :=
   lZ (z9 (aq rfl) sc.ins rfl (aJ (aq rfl) aZ) rfl hh) l1
  have inv:=q8 (nx:=dH (.lst S.length)) (g:=aH 3) (f:=za) (xs:=hs.map bG)
   (λi Z S'=>∃a,Z=[some (.ref c),some (cN o d),some (mJ ((hs.take i).foldl fO none)),a]/\S'=S++[.lst (hs.map bG)]++[.lst (fs.map aV)]++[.lst []])
   (λi Z S' ⟨a,_,e⟩=>by subst e;unfold dH;simp only;rw[l1])
   (λi dd Z S' hi ⟨a,e1,e2⟩=>?_) hs.length 0 [some (.ref c),some (cN o d),some .non,none] (S++[.lst (hs.map bG)]++[.lst (fs.map aV)]++[.lst []]) ⟨none,rfl,rfl⟩ (by simp)
  .obtain⟨Z',S',e,a,rfl,rfl⟩:=inv;rw[cY,mF] at e;have a2:Ny [some (.ref c),some (cN o d),some .non,none] S=some (.nx,[some (.ref c),some (cN o d),some (mJ (hs.foldl fO none)),a],S++[.lst (hs.map bG)]++[.lst (fs.map aV)]++[.lst []]):=by unfold Ny;refine lG it (n:=hs.length) ?_ e;unfold qG;simp only;rw[l1];simp
   have a3:Nz [some (.ref c),some (cN o d),some (mJ (hs.foldl fO none)),a] (S++[.lst (hs.map bG)]++[.lst (fs.map aV)]++[.lst []])=some (.rt (mJ (hs.foldl fO none)),[some (.ref c),some (cN o d),some (mJ (hs.foldl fO none)),a],S++[.lst (hs.map bG)]++[.lst (fs.map aV)]++[.lst []]):=by unfold Nz;exact fQ (aq rfl)
   apply cG (S':=S++[.lst (hs.map bG)]++[.lst (fs.map aV)]++[.lst []]) (Z':=[some (.ref c),some (cN o d),some (mJ (hs.foldl fO none)),a])
   .wtm_at "b"
    unfold MK;exact aM a1 (aR (aM a2 (aR (aM a3 dY))))
   .rw[dI,dI];simp
   .cases hs.foldl fO none<;>simp[mJ,bG,aV,D.lo,c7]
  .subst e1 e2;have hi':i<hs.length:=by have:=(fC.mp hi).1;simpa using this
   have hd':dd=bG hs[i]:=by rw[fW,fJ hi'] at hi;exact(Option.some.inj hi).symm
   subst hd';have tk:hs.take (i+1)=hs.take i++[hs[i]]:=by rw[List.take_add_one,fJ hi'];rfl
   have fold:(hs.take (i+1)).foldl fO none=fO ((hs.take i).foldl fO none) hs[i]:=by rw[tk,List.foldl_append];rfl
   have bi:=(hb hs[i] (List.getElem_mem hi'))
   cases hbest:(hs.take i).foldl fO none with
   |none =>
    have b1:za [some (.ref c),some (cN o d),some (mJ none),some (bG hs[i])] (S++[.lst (hs.map bG)]++[.lst (fs.map aV)]++[.lst []])=some (.nx,[some (.ref c),some (cN o d),some (mJ (some hs[i])),some (bG hs[i])],S++[.lst (hs.map bG)]++[.lst (fs.map aV)]++[.lst []]):=by unfold za M7;exact aM (gk (b:=true) (jT (b:=true) (dM (aF (aq rfl) aN tH)) (jb rfl rfl)) (jb rfl (aM (bN (aq rfl) (bY rfl)) (aR fD)))) (aR fD)
    exact⟨_,_,.nx,_,_,bY rfl,b1,.inl rfl,_,by rw[fold,hbest];rfl,rfl⟩
   |some b =>
    have hbm:b∈hs:=by
     rcases yI (hs.take i) none b hbest with q|q
     .exact List.mem_of_mem_take q
     .cases q
    have ss:=zkG bi (hb b hbm) (by omega) (S++[.lst (hs.map bG)]++[.lst (fs.map aV)]++[.lst []]);have tt:gB (bK (eB (bA .Is) (aj 2) (eC .non))) (kJ (eN (aY 2 Gu) (ak (aj 3) (ak (aj 2) au)))) [some (.ref c),some (cN o d),some (mJ (some b)),some (bG hs[i])] (S++[.lst (hs.map bG)]++[.lst (fs.map aV)]++[.lst []])=some (lB hs[i] b,S++[.lst (hs.map bG)]++[.lst (fs.map aV)]++[.lst []]) :=
     jT (b:=false) (dM (aF (aq rfl) aN tH)) (fM rfl (JN (bB (aJ (aq rfl) (aJ (aq rfl) aZ)) (dj rfl ss)) rfl))
    have b1:za [some (.ref c),some (cN o d),some (mJ (some b)),some (bG hs[i])] (S++[.lst (hs.map bG)]++[.lst (fs.map aV)]++[.lst []])=some (.nx,[some (.ref c),some (cN o d),some (mJ (fO (some b) hs[i])),some (bG hs[i])],S++[.lst (hs.map bG)]++[.lst (fs.map aV)]++[.lst []]):=by
     unfold za M7;cases hsn:lB hs[i] b with
     |true =>
      have:fO (some b) hs[i]=some hs[i]:=by simp[fO,hsn]
      rw[this];rw[hsn] at tt;exact aM (gk tt (jb rfl (aM (bN (aq rfl) (bY rfl)) (aR fD)))) (aR fD)
     |false =>
      have:fO (some b) hs[i]=some b:=by simp[fO,hsn]
      rw[this];rw[hsn] at tt;exact aM (gk tt (fM rfl fD)) (aR fD)
    exact⟨_,_,.nx,_,_,bY rfl,b1,.inl rfl,_,by rw[fold,hbest],rfl⟩
end
theorem Rn(n:Nat)(shs:List Sh):O.lo n (.lst (shs.map d7))=true:=by show c7 n _=true;rw[ju];intro x hx;obtain⟨s,_,rfl⟩:=List.mem_map.mp hx;cases s<;>simp[d7,D.lo,c7]
theorem Rk(n:Nat)(bs:List (Pt×Pt)):O.lo n (.lst (bs.map jX))=true:=by show c7 n _=true;rw[ju];intro x hx;obtain⟨s,_,rfl⟩:=List.mem_map.mp hx;simp[D.lo,c7]
theorem zmy{m:Nat}{shs:List Sh}(hS:WF S)(hT:jK "tree_over" S=true)(hm:S[m]?=some (.lst (shs.map d7)))(hl:shs.length<=32)(hk:∀s∈shs,uX K s):
 ∃(t:Option Tr) (bs:List (Pt×Pt)),uW K shs t/\GR [.ref S.length,.ref m] (S++[.ins "Scene" []])=some (.non,S++[.ins "Scene" [("kept",.ref (S.length+1)),("tree",gC t)]]++[.lst (shs.map d7)]++[.lst (bs.map jX)]) /\
  WF (S++[.ins "Scene" [("kept",.ref (S.length+1)),("tree",gC t)]]++[.lst (shs.map d7)]++[.lst (bs.map jX)]):=by
 classical
 obtain⟨g,hg0⟩:∃g:Sh->Pt×Pt,∀s∈shs,mD s.pts (g s).1 (g s).2/\aU K (g s).1/\aU K (g s).2/\∀S,WF S->vC [d7 s] S=some (jX (g s),S):=by
  have ex:∀s∈shs,∃b:Pt×Pt,mD s.pts b.1 b.2/\aU K b.1/\aU K b.2/\∀S,WF S->vC [d7 s] S=some (jX b,S):=λs hs=>by obtain⟨lo,hi,b0,b1,b2,e⟩:=zoA (hk s hs);exact⟨(lo,hi),b0,b1,b2,e⟩
  refine⟨λs=>if h:s∈shs then(ex s h).choose else((0,0,0),(0,0,0)),λs hs=>?_⟩;simp only[dif_pos hs];exact(ex s hs).choose_spec
 have hg:=λs hs=>(hg0 s hs).2;have wf:∀(fs:List (Str×D)) (G:So),c7 (S.length+1+G.length) (fs.map (·.2))=true->(∀o∈G,O.lo (S.length+1+G.length) o=true)->WF (S++[.ins "Scene" fs]++G):=λfs G h1 h2 o ho=>by
  have hlen:(S++[O.ins "Scene" fs]++G).length=S.length+1+G.length:=by rw[iW,iW];rfl
  rw[hlen];rcases lq.mp ho with ho|ho
  .rcases lq.mp ho with ho|ho
   .exact O.lo_mono (by omega) (hS o ho)
   .rw[List.mem_singleton.mp ho];exact h1
  .exact h2 o ho
 have Dc:(S++[O.ins "Scene" []]).length=S.length+1:=by simp
 have W2:WF (S++[.ins "Scene" [("kept",.ref (S.length+1))]]++[.lst (shs.map d7)]):=wf _ [_] (by simp[c7,D.lo]) (λo ho=>by rw[List.mem_singleton.mp ho];exact Rn _ _);have W3:WF (S++[.ins "Scene" [("kept",.ref (S.length+1))]]++[.lst (shs.map d7)]++[.lst ((shs.map g).map jX)]):=W2.snoc (Rk _ _);have T3:jK "tree_over" (S++[.ins "Scene" [("kept",.ref (S.length+1))]]++[.lst (shs.map d7)]++[.lst ((shs.map g).map jX)])=true:=by rw[dI,dI];exact lJ hT
 obtain⟨t,e1,e2,e3⟩:=zmx (K:=K) (bs:=shs.map g) W3 T3 b8 (by simpa using hl) (λb hb=>by
  obtain⟨s,hs,rfl⟩:=List.mem_map.mp hb;exact⟨(hg s hs).1,(hg s hs).2.1⟩)
 have Wf:WF (S++[.ins "Scene" [("kept",.ref (S.length+1)),("tree",gC t)]]++[.lst (shs.map d7)]++[.lst ((shs.map g).map jX)]):=by
  rw[dI _ [O.lst (shs.map d7)]];refine wf _ [_,_] ?_ λo ho=>?_
  .simp[c7,D.lo,zrU]
  .rcases List.mem_cons.mp ho with rfl|ho
   .exact Rn _ _
   .rw[List.mem_singleton.mp ho];exact Rk _ _
 refine⟨t,shs.map g,⟨hk,λt' e=>⟨e2 t' e,?_⟩,g,λs hs=>(hg0 s hs).1,e3⟩,?_,Wf⟩
 .have:=e3.length_eq;rw[e,m7,cY] at this;have h2:(zq (some t')).length=t'.leaves.length:=rfl;omega
 .apply SN (Z':=[some (.ref S.length),some (.ref m)])
  .wtm_at "b"
   unfold Nk;have s1:oU "Scene" "kept" (aj 0) (eN qL (ak (aj 1) au)) [some (.ref S.length),some (.ref m)] (S++[.ins "Scene" []])=some (.nx,[some (.ref S.length),some (.ref m)],S++[.ins "Scene" [("kept",.ref (S.length+1))]]++[.lst (shs.map d7)]):=by rw[<-Dc];exact Aa (bB (aJ (aq rfl) aZ) (Ua (dZ hm))) (aq rfl) (dZ b8) (show(0:Nat)<3 by decide) (Jx rfl)
   have k2:(S++[O.ins "Scene" [("kept",.ref (S.length+1))]]++[O.lst (shs.map d7)])[S.length+1]?=some (.lst (shs.map d7)):=by
    have:∀x:O,(S++[x]++[O.lst (shs.map d7)])[S.length+1]?=some (.lst (shs.map d7)):=λx=>by rw[show S.length+1=(S++[x]).length by simp];exact b8
    exact this _
   have s2:eN (aY 1 GJ) (ak (eX (fK (gP "Scene" "kept" (aj 0))) (aH 0) dW (eN (aY 1 vC) (ak (aj 0) au)) [none]) au) [some (.ref S.length),some (.ref m)] (S++[.ins "Scene" [("kept",.ref (S.length+1))]]++[.lst (shs.map d7)])=some (gC t,S++[.ins "Scene" [("kept",.ref (S.length+1))]]++[.lst (shs.map d7)]++[.lst ((shs.map g).map jX)]):=by rw[List.map_map] at e1 ⊢;refine bB (aJ (vB shs d7 (λs=>jX (g s)) (lZ (JH (aq rfl) (dZ b8) rfl) k2) k2 (by omega) rfl λs hs=>?_) aZ) (dj rfl e1);exact bB (aJ (aq rfl) aZ) (dj rfl ((hg s hs).2.2 _ W2))
   refine aM s1 (aR (aM (Aa s2 (aq rfl) (dZ (dZ b8)) (show(1:Nat)<3 by decide) ?_) (aR fD)));rw[List.set_append_left _ _ (by simp),Jx rfl];rfl
  .intro e;have:=congrArg (λl=>l[S.length]?) e;simp at this
  .simp
  .exact Wf
def jY(ns:List Int)(S:So):Prop:=S[0]?=some (.frz (ns.map .int))
def jY.app(h:jY ns S)(G:So):jY ns (S++G):=by
 unfold jY at *
 rw[lR (fC.mp h).1];exact h
theorem zm4{m:Nat}{S0:So}{shs:List Sh}{fa:AF}(hS:WF S)(hT:jK "tree_over" S=true)(hm:S[m]?=some (.lst (shs.map d7)))(hl:shs.length<=32)(hk:∀s∈shs,uX K s)(h1:fa Z S0=some ([.ref m],S)):
 ∃t G,uW K shs t/\pI "Scene" 2 GR fa Z S0=some (.ref S.length,S++G)/\WF (S++G)/\jF (S++G) S.length shs t:=by
 obtain⟨t,bs,ok,e,W⟩:=zmy hS hT hm hl hk;have mk:=RK (C := "Scene") (n:=2) h1 rfl e;have YZ:(S++[O.ins "Scene" [("kept",.ref (S.length+1)),("tree",gC t)]]++[O.lst (shs.map d7)]++[O.lst (bs.map jX)])[S.length]?=some (.ins "Scene" [("kept",.ref (S.length+1)),("tree",gC t)]):=dZ (dZ b8);have kp3:(S++[O.ins "Scene" [("kept",.ref (S.length+1)),("tree",gC t)]]++[O.lst (shs.map d7)]++[O.lst (bs.map jX)])[S.length+1]?=some (.lst (shs.map d7)):=by refine dZ ?_;generalize O.ins "Scene" [("kept",.ref (S.length+1)),("tree",gC t)]=o;rw[show S.length+1=(S++[o]).length by simp];exact b8
 have fz:nA "Scene" S.length (S++[O.ins "Scene" [("kept",.ref (S.length+1)),("tree",gC t)]]++[O.lst (shs.map d7)]++[O.lst (bs.map jX)])=(.ref S.length,S++[O.ins "Scene" [("kept",.ref (S.length+1)),("tree",gC t)]]++[O.lst (shs.map d7)]++[O.lst (bs.map jX)]):=by unfold nA;rw[YZ];simp only;rw[if_neg];intro h;have:=h.2.1;simp at this
 rw[fz] at mk;rw[dI,dI] at *
 exact⟨t,_,ok,mk,W,YZ,kp3⟩
theorem zke(h0:d≠(0,0,0)){shs:List Sh}(e:tG o d shs=none):∀s∈shs,jh o d s=none:=λs hs=>by
 have k:=(zZ (lu o d shs) none (λh hh=>by obtain⟨i,_,q⟩:=List.mem_filterMap.mp hh;exact yN h0 q) (λy hy=>by cases hy)).1 e;obtain⟨i,hi,rfl⟩:=List.getElem_of_mem hs;cases q:jh o d shs[i] with
 |none=>rfl
 |some p =>
  have:(p,i)∈lu o d shs:=Kq.mpr ⟨shs[i],p,i,fJ hi,q,rfl⟩;rw[k.1] at this;cases this
theorem Wj(h0:d≠(0,0,0)){shs:List Sh}{h:cX}(e:tG o d shs=some h):(∃s,shs[h.2]?=some s/\jh o d s=some h.1)/\∀s∈shs,∀p,jh o d s=some p->leQ h.1 p:=by
 have gd:∀x∈lu o d shs,gO x:=λh hh=>by obtain⟨i,_,q⟩:=List.mem_filterMap.mp hh;exact yN h0 q
 have k:=(zZ (lu o d shs) none gd (λy hy=>by cases hy)).2 h e;refine⟨?_,λs hs p hp=>?_⟩
 .rcases yI _ _ _ e with q|q
  .obtain⟨s,p,i,q1,q2,rfl⟩:=Kq.mp q;exact⟨s,q1,q2⟩
  .cases q
 .obtain⟨i,hi,rfl⟩:=List.getElem_of_mem hs;have m:(p,i)∈lu o d shs:=Kq.mpr ⟨shs[i],p,i,fJ hi,hp,rfl⟩;have:=k.1 _ m;unfold iy at this;rw[q9] at this;exact oX λc=>this (.inl c)
end MX.P
end
section
namespace MX.P
open PySem L2 MX
end MX.P
local macro_rules|`(tactic|wtm_at $s)=>uC s "d&#m=P.ev_isi_tup|=P.ev_isi_int|=P.ev_isi_bool"
namespace MX.P
end MX.P
end
section
namespace MX.P
noncomputable def oG(o d:Pt)(t:Int×Int):Pt:=(o.1*t.2+d.1*t.1,o.2.1*t.2+d.2.1*t.1,o.2.2*t.2+d.2.2*t.1)
noncomputable def jQ(P a:Pt)(q:Int):Pt:=(P.1 - a.1*q,P.2.1 - a.2.1*q,P.2.2 - a.2.2*q)
def Cq(R L g:Pt)(q W x y:Int):Prop:=0<=x/\0<=y/\x+y<=W*q/\x*R.1+y*L.1=g.1*W/\x*R.2.1+y*L.2.1=g.2.1*W/\x*R.2.2+y*L.2.2=g.2.2*W
end MX.P
end
section
local macro_rules|`(tactic|wtm_at $s)=>uC s "d&"
namespace MX.P
open PySem L2 MX
def Jy(a b:Pt)(S:So):yO [pD a,pD b] S=some (pD (wb a b),S):=by
 apply cG
 .wtm_at "b"
  unfold Wd;wtm_at "a"
 .wtm_at "c"
 .rfl
end MX.P
end
section
local macro_rules|`(tactic|wtm_at $s)=>uC s "d&"
namespace MX.P
open PySem PySem.Spec L2 MX
theorem KQ{A B:D}(e1:aG A (.int 0) S=some (.int x,S))(e2:aG A (.int 1) S=some (.int y,S))(e3:aG B (.int 0) S=some (.int u,S))(e4:aG B (.int 1) S=some (.int v,S))(b1:cg x v=true)(b2:cg y u=true):yV [A,B,.int 0,.int 1] S=some (.int (x*v - y*u),S):=by
 apply cG (S':=S) (Z':=[some A,some B,some (.int 0),some (.int 1)])
 .show K4 [some A,some B,some (.int 0),some (.int 1)] S=_;unfold K4;exact aM (fQ (aF (aF (aF (aq rfl) (aq rfl) e1) (aF (aq rfl) (aq rfl) e4) (fL b1)) (aF (aF (aq rfl) (aq rfl) e2) (aF (aq rfl) (aq rfl) e3) (fL b2)) nU)) dY
 .exact mF
 .rfl
theorem zoy{P a b c:Pt}(hP:aU 1000 P)(ha:aU 40 a)(hb:aU 40 b)(hc:aU 40 c)(hq:Bd 400 q)(S:So)(hW:(aL (wb a b) (wb a c)).2.2=16)(ok:Cq (wb a b) (wb a c) (jQ P a q) q 16 (aL (jQ P a q) (wb a c)).2.2 (aL (wb a b) (jQ P a q)).2.2):
 M6 [pD P,.int q,.tup [pD a,pD b,pD c]] S=some (.bl true,S):=by
 have gl:eX (iY (ak (kq 3) au)) (aH 0) dW (eB (aB .Sub) (eB aG (aj 2) (aj 0)) (eB (aB .Mult) (eB aG (aj 1) (aj 0)) (aj 3))) [none,some 3,some 0,some 1]
  [some (pD P),some (.int q),some (.tup [pD a,pD b,pD c]),some (pD a),some (pD b),some (pD c),some (pD (wb a b)),some (pD (wb a c)),none,none,none,none,none,none,none] S=some (.ref S.length,S++[.lst [.int (jQ P a q).1,.int (jQ P a q).2.1,.int (jQ P a q).2.2]]):=by
  obtain⟨p1,p2,p3⟩:=hP;obtain⟨a1,a2,a3⟩:=ha;unfold jQ;wtm_at "a"
 have bR:aU 2000 (wb a b):=(ha.wb hb).le (by decide);have bL:aU 2000 (wb a c):=(ha.wb hc).le (by decide);have bg:aU 2000 (jQ P a q):=⟨(hP.1.sub (ha.1.mul hq)).le (by decide),(hP.2.1.sub (ha.2.1.mul hq)).le (by decide),(hP.2.2.sub (ha.2.2.mul hq)).le (by decide)⟩
 have lw1:=λS=>Jy a b S;have lw2:=λS=>Jy a c S;have hW':(wb a b).1*(wb a c).2.1 - (wb a b).2.1*(wb a c).1=16:=hW;have ok':Cq (wb a b) (wb a c) (jQ P a q) q 16 ((jQ P a q).1*(wb a c).2.1 - (jQ P a q).2.1*(wb a c).1) ((wb a b).1*(jQ P a q).2.1 - (wb a b).2.1*(jQ P a q).1):=ok;generalize wb a b=R at *
 generalize wb a c=L at *
 generalize jQ P a q=g at *
 have m:∀{x y:Int},Bd 2000 x->Bd 2000 y->cg x y=true:=λhx hy=>vD hx hy (by decide);have bx:Bd 4002 (g.1*L.2.1 - g.2.1*L.1):=((bg.1.mul bL.2.1).sub (bg.2.1.mul bL.1)).le (by decide);have by':Bd 4002 (R.1*g.2.1 - R.2.1*g.1):=((bR.1.mul bg.2.1).sub (bR.2.1.mul bg.1)).le (by decide);generalize hT:S++[O.lst [.int g.1,.int g.2.1,.int g.2.2]]=T at *
 have hn:T[S.length]?=some (.lst [.int g.1,.int g.2.1,.int g.2.2]):=by rw[<-hT];exact b8
 have hn1:=dZ (p:=O.lst [R2 0 1,R2 1 2,R2 2 0]) hn;have hm:(T++[O.lst [R2 0 1,R2 1 2,R2 2 0]])[T.length]?=some (.lst [R2 0 1,R2 1 2,R2 2 0]):=b8;have tk:∀G,(T++G).take S.length=S:=λG=>by rw[<-hT,dI];simp
 generalize hU:T++[O.lst [R2 0 1,R2 1 2,R2 2 0]]=U at *
 have ix:∀{p:Pt},aG (pD p) (.int 0) U=some (.int p.1,U)/\aG (pD p) (.int 1) U=some (.int p.2.1,U):=λ{p}=>⟨cW rfl,cW rfl⟩
 have ig:aG (.ref S.length) (.int 0) U=some (.int g.1,U)/\aG (.ref S.length) (.int 1) U=some (.int g.2.1,U):=⟨nT hn1 rfl,nT hn1 rfl⟩
 have f1:=KQ (ix (p:=R)).1 ix.2 (ix (p:=L)).1 ix.2 (m bR.1 bL.2.1) (m bR.2.1 bL.1);have f2:=KQ ig.1 ig.2 (ix (p:=L)).1 ix.2 (m bg.1 bL.2.1) (m bg.2.1 bL.1);have f3:=KQ (ix (p:=R)).1 ix.2 ig.1 ig.2 (m bR.1 bg.2.1) (m bR.2.1 bg.1);rw[hW'] at f1;generalize g.1*L.2.1 - g.2.1*L.1=x at *
 generalize R.1*g.2.1 - R.2.1*g.1=y at *
 obtain⟨x0,y0,xy,k1,k2,k3⟩:=ok';have e1:eX (iY (ak (kq 3) au)) (aH 0) dW (eB (aB .Add) (eB (aB .Mult) (aj 2) (eB aG (aj 4) (aj 0))) (eB (aB .Mult) (aj 3) (eB aG (aj 1) (aj 0)))) [none,some 7,some 12,some 13,some 6]
  [some (pD P),some (.int q),some (.tup [pD a,pD b,pD c]),some (pD a),some (pD b),some (pD c),some (pD R),some (pD L),some (.ref S.length),some (.int 0),some (.int 1),some (.int 16),some (.int x),some (.int y),none] U=some (.ref U.length,U++[.lst [.int (x*R.1+y*L.1),.int (x*R.2.1+y*L.2.1),.int (x*R.2.2+y*L.2.2)]]):=by
  obtain⟨r1,r2,r3⟩:=bR;obtain⟨l1,l2,l3⟩:=bL;wtm_at "a"
 rw[k1,k2,k3] at e1;have hn2:=dZ (p:=O.lst [.int (g.1*16),.int (g.2.1*16),.int (g.2.2*16)]) hn1;have e2:=vB (Z:=[some (pD P),some (.int q),some (.tup [pD a,pD b,pD c]),some (pD a),some (pD b),some (pD c),some (pD R),some (pD L),some (.ref S.length),some (.int 0),some (.int 1),some (.int 16),some (.int x),some (.int y),some (.ref U.length)]) (src:=[none,some 11]) (rest:=[some (.int 16)]) (fe:=eB (aB .Mult) (aj 0) (aj 1)) [g.1,g.2.1,g.2.2] D.int (λz=>D.int (z*16)) (lZ (fe:=aj 8) (aq rfl) hn2) hn2 (by show 3<=1000;omega) rfl λz _=>aF (aq rfl) (aq rfl) (fL (Ju (by decide)));have pl:∀z∈[D.int (g.1*16),D.int (g.2.1*16),D.int (g.2.2*16)],dJ 1 z=true:=λz hz=>by simp only[List.mem_cons,xU,or_false] at hz;rcases hz with e|e|e<;>subst e<;>rfl
 have eq:=RL (S:=U++[O.lst [.int (g.1*16),.int (g.2.1*16),.int (g.2.2*16)]]++[O.lst [.int (g.1*16),.int (g.2.1*16),.int (g.2.2*16)]]) 1 (.inl (dZ (b8 (S:=U)))) (.inl b8) pl pl (by decide);rw[m6 rfl] at eq;refine cG (Z':=[some (pD P),some (.int q),some (.tup [pD a,pD b,pD c]),some (pD a),some (pD b),some (pD c),some (pD R),some (pD L),some (.ref S.length),some (.int 0),some (.int 1),some (.int 16),some (.int x),some (.int y),some (.ref U.length)]) (S':=U++[O.lst [.int (g.1*16),.int (g.2.1*16),.int (g.2.2*16)]]++[O.lst [.int (g.1*16),.int (g.2.1*16),.int (g.2.2*16)]]) ?_ (by rw[<-hU,dI,dI];exact tk _) rfl;show Nx [some (pD P),some (.int q),some (.tup [pD a,pD b,pD c]),none,none,none,none,none,none,none,none,none,none,none,none] S=_;unfold Nx XS X3 X4 X5 X6;refine aM (bN (aq rfl) rfl) (aR ?_);refine aM (bN (bB (aJ (aq rfl) (aJ (aq rfl) aZ)) (dj rfl (lw1 _))) rfl) (aR ?_);refine aM (bN (bB (aJ (aq rfl) (aJ (aq rfl) aZ)) (dj rfl (lw2 _))) rfl) (aR (aM (bN gl rfl) (aR ?_)));refine aM (lG (j := .lst T.length) (n:=3) (S1:=U) (by rw[<-hU];exact lZ (by wtm_at "a") b8) ?_ (lY (tL hm rfl) rfl ?_ Ab)) dY
 .unfold qG;simp only;rw[hm];rfl
 unfold Yt Yp Yq;refine aM (bN (bB (aJ (aq rfl) (aJ (aq rfl) (aJ (aq rfl) (aJ (aq rfl) aZ)))) (dj rfl f1)) rfl) (aR (aM (gk (b:=true) (S1:=U) rfl (jb rfl ?_)) dY));refine aM (bN (bB (aJ (aq rfl) (aJ (aq rfl) (aJ (aq rfl) (aJ (aq rfl) aZ)))) (dj rfl f2)) rfl) (aR ?_);refine aM (bN (bB (aJ (aq rfl) (aJ (aq rfl) (aJ (aq rfl) (aJ (aq rfl) aZ)))) (dj rfl f3)) rfl) (aR ?_);refine aM (gk (b:=false) (S1:=U) rfl (fM rfl fD)) (aR ?_);refine aM (gk (b:=false) (jT (dM (aF (aq rfl) aN qi)) (fM (jt (by omega)) (jT (dM (aF (aq rfl) aN qi)) (fM (jt (by omega)) ?_)))) (fM rfl fD)) (aR (aM (bN e1 rfl) (aR (aM (fQ (aF (aq rfl) e2 eq)) dY))));have gt:=tK (S:=U) (i:=x+y) (j:=16*q);rw[jt (by omega)] at gt;exact dM (aF (aF (aq rfl) (aq rfl) eE) (aF (aq rfl) (aq rfl) (fL (ql (by decide)))) gt)
end MX.P
end
section
namespace MX.P
open PySem L2 MX
noncomputable def mL(w:Int)(h:cX):Int×Int:=(h.1.1*(w*w) / h.1.2,(h.2:Int))
theorem Rj{a1 a2 b1 b2:Int}(ha:0<a2)(hb:0<b2)(wa:a2<=w)(wb:b2<=w)(h:a1*b2<b1*a2):a1*(w*w) / a2<b1*(w*w) / b2:=by have hw:0<=w*w:=Int.mul_nonneg (by omega) (by omega);have h1:a1*(w*w) / a2*a2<=a1*(w*w):=Int.ediv_mul_le _ (by omega);generalize a1*(w*w) / a2=q at h1 ⊢;apply Int.lt_of_add_one_le;rw[Int.le_ediv_iff_mul_le hb];apply Int.not_lt.mp;intro c;have h2:q*a2*b2<=a1*(w*w)*b2:=Int.mul_le_mul_of_nonneg_right h1 (by omega);have h3:(w*w)*(a1*b2+1)<=(w*w)*(b1*a2):=Int.mul_le_mul_of_nonneg_left (by omega) hw;have h4:a2*b2<=w*w:=Int.mul_le_mul wa wb (by omega) (by omega);have h5:(b1*(w*w)+1)*a2<=((q+1)*b2)*a2:=Int.mul_le_mul_of_nonneg_right (by omega) (by omega);grind
theorem znb{a b:cX}(ga:gO a)(gb:gO b)(wa:a.1.2<=w)(wb:b.1.2<=w):lW (mL w a) (mL w b)=lB a b:=by
 rw[Bool.eq_iff_iff,q9];have k1:fj a.1 b.1->(mL w a).1<(mL w b).1:=Rj ga.1 gb.1 wa wb;have k2:fj b.1 a.1->(mL w b).1<(mL w a).1:=Rj gb.1 ga.1 wb wa;unfold lW;by_cases h1:fj a.1 b.1
 .have:=k1 h1;rw[if_neg (by omega),decide_eq_true_iff];exact⟨λ_ => .inl h1,λ_=>this⟩
 .by_cases h2:fj b.1 a.1
  .have:=k2 h2;rw[if_neg (by omega),decide_eq_true_iff];refine⟨λz=>by omega,?_⟩
   rintro(z|⟨z,_⟩)
   .exact absurd z h1
   .rw[z] at h2;unfold fj at h2;omega
  .have e:=JP ga gb (oX h2) (oX h1);rw[if_pos (by unfold mL;rw[e]),decide_eq_true_iff];show((a.2:Nat):Int)<((b.2:Nat):Int)↔_;refine⟨λz => .inr ⟨e,by omega⟩,?_⟩
   rintro(z|⟨_,z⟩)
   .exact absurd z h1
   .omega
theorem zrV{c:Int×Int}(h1:lW b a=false)(h2:lW c b=false):lW c a=false:=by
 unfold lW at *
 repeat' split at *
 all_goals simp only[decide_eq_false_iff_not] at *;omega
theorem zpJ(h1:lW a b=true):lW b a=false:=by
 unfold lW at *
 repeat' split at *
 all_goals simp only[decide_eq_false_iff_not,decide_eq_true_iff] at *;omega
theorem zrW(h1:lW a b=false)(h2:lW b a=false):a=b:=by
 unfold lW at *
 apply Prod.ext
 all_goals
  repeat' split at *
  all_goals simp only[decide_eq_false_iff_not] at *;omega
abbrev kI(w:Int)(h:cX):D := .tup [.int (mL w h).1,.int (mL w h).2]
abbrev lz:cX:=((0,1),0)
theorem zmY{hs:List cX}(g:∀h∈hs,gO h/\h.1.2<=w)(nd:(hs.map (·.2)).Nodup):((iw (hs.map (kI w))).map λi=>hs.getD i lz).Perm hs/\((iw (hs.map (kI w))).map λi=>hs.getD i lz).Pairwise iy:=by
 have kp:=Av (hs.map (kI w));rw[cY] at kp;have lt:∀i∈iw (hs.map (kI w)),i<hs.length:=λi hi=>List.mem_range.mp (kp.mem_iff.mp hi);have ka:∀i,i<hs.length->ji ((hs.map (kI w)).getD i .non)=mL w (hs.getD i lz):=λi hi=>by rw[List.getD_eq_getElem?_getD,List.getD_eq_getElem?_getD,fW,fJ hi];rfl
 have gm:∀i,i<hs.length->gO (hs.getD i lz)/\(hs.getD i lz).1.2<=w:=λi hi=>by rw[List.getD_eq_getElem?_getD,fJ hi];exact g _ (List.getElem_mem hi)
 refine⟨Vr lz hs kp,?_⟩;have T:jd (hs.map (kI w)).length (sS (hs.map (kI w))):=⟨λi j k=>zrV,λi j=>zpJ,λi j hi hj h1 h2=>by
  rw[cY] at hi hj;have e:=zrW h1 h2;rw[ka i hi,ka j hj] at e;have e2:(((hs.getD i lz).2:Nat):Int)=(((hs.getD j lz).2:Nat):Int):=congrArg Prod.snd e;have hi':i<(hs.map (·.2)).length:=by simpa using hi
  have hj':j<(hs.map (·.2)).length:=by simpa using hj
  refine(List.getElem_inj (h₀:=hi') (h₁:=hj') nd).mp ?_;rw[List.getElem_map,List.getElem_map];rw[List.getD_eq_getElem?_getD,List.getD_eq_getElem?_getD,fJ hi,fJ hj] at e2;exact Int.ofNat_inj.mp e2⟩
 have up:=zmA T;rw[List.pairwise_map];refine List.Pairwise.imp_of_mem (λ{i j} hi hj h=>?_) up;have hi:=lt i hi;have hj:=lt j hj;unfold sS at h;rw[ka i hi,ka j hj,znb (gm j hj).1 (gm i hi).1 (gm j hj).2 (gm i hi).2] at h;unfold iy;rw[h];simp
noncomputable def oM(t:Int×Int)(l:List cX):Nat->Nat
 |0=>0
 |k+1=>if fj t (l.getD k lz).1 then oM t l k else k+1
theorem Vs(t:Int×Int)(l:List cX):∀k,oM t l k<=k/\(∀i,oM t l k<=i->i<k->fj t (l.getD i lz).1)/\(oM t l k=0\/¬fj t (l.getD (oM t l k - 1) lz).1)
 |0=>⟨bH _,λi _ h=>by omega,.inl rfl⟩
 |k+1=>by
  obtain⟨h1,h2,h3⟩:=Vs t l k;unfold oM;split
  .rename_i c;refine⟨by omega,λi a b=>?_,h3⟩;by_cases hi:i=k
   .rw[hi];exact c
   .exact h2 i a (by omega)
  .rename_i c;exact⟨bH _,λi a b=>by omega,.inr c⟩
noncomputable def nj(h:cX)(l:List cX):List cX:=l.take (oM h.1 l l.length)++h::l.drop (oM h.1 l l.length)
def zlx(h:cX)(l:List cX):(nj h l).Perm (h::l):=by unfold nj;refine List.perm_middle.trans (List.Perm.cons _ ?_);rw[List.take_append_drop]
theorem zpR{h:cX}{l:List cX}(gh:gO h)(gl:∀x∈l,gO x)(hn:∀x∈l,x.2<h.2)(p:l.Pairwise iy):(nj h l).Pairwise iy:=by
 obtain⟨h1,h2,h3⟩:=Vs h.1 l l.length;unfold nj;generalize oM h.1 l l.length=k at *
 have pg:=List.pairwise_iff_getElem.mp p;have ge:∀i (hi:i<l.length),l.getD i lz=l[i]:=λi hi=>by rw[List.getD_eq_getElem?_getD,fJ hi];rfl
 have lo:∀i (hi:i<l.length),i<k->iy l[i] h:=λi hi hk=>by
  have c:=h3.resolve_left (by omega);have hk1:k - 1<l.length:=by omega
  rw[ge _ hk1] at c;have a:iy l[k - 1] h:=by
   unfold iy;rw[q9]
   rintro(z|⟨_,z⟩)
   .exact c z
   .have:=hn _ (List.getElem_mem hk1);omega
  by_cases e:i=k - 1
  .subst e;exact a
  .exact Jc (gl _ (List.getElem_mem hi)) (gl _ (List.getElem_mem hk1)) gh (pg i (k - 1) hi hk1 (by omega)) a
 have hi:∀i (hi:i<l.length),k<=i->iy h l[i]:=λi hi hk=>by have c:=h2 i hk hi;rw[ge i hi] at c;exact R7 (q9.mpr (.inl c))
 rw[List.pairwise_append];refine⟨p.sublist (List.take_sublist _ _),List.pairwise_cons.mpr ⟨λx hx=>?_,p.sublist (List.drop_sublist _ _)⟩,λx hx y hy=>?_⟩
 .obtain⟨i,hi',rfl⟩:=List.mem_iff_getElem.mp hx;rw[List.getElem_drop];exact hi _ _ (by omega)
 .obtain⟨i,hi',rfl⟩:=List.mem_iff_getElem.mp hx;rw[uL] at hi';rw[List.getElem_take];rcases List.mem_cons.mp hy with rfl|hy
  .exact lo i (by omega) (by omega)
  .obtain⟨j,hj',rfl⟩:=List.mem_iff_getElem.mp hy;rw[List.length_drop] at hj';rw[List.getElem_drop];exact pg i (k+j) (by omega) (by omega) (by omega)
noncomputable def lM(o d:Pt)(shs:List Sh):Nat->List cX
 |0=>[]
 |j+1=>match dg o d shs j with
  |none=>lM o d shs j
  |some h=>nj h (lM o d shs j)
theorem Ah(o d:Pt)(shs:List Sh):∀j,(lM o d shs j).Perm ((List.range j).filterMap (dg o d shs))
 |0=>List.Perm.refl _
 |j+1=>by
  rw[List.range_succ,List.filterMap_append];unfold lM;have ih:=Ah o d shs j;split
  .rename_i e;simpa[e] using ih
  .rename_i h e;refine(zlx h _).trans ((List.Perm.cons _ ih).trans ?_);simp only[List.filterMap_cons,e,List.filterMap_nil];exact(List.perm_append_comm (l₁:=[h])).trans (List.Perm.refl _)
section
variable {o d:Pt}{shs:List Sh}(h0:d≠(0,0,0))
include h0 in
theorem Ga{h:cX}(e:h∈lM o d shs j):gO h/\h.2<j/\dg o d shs h.2=some h:=by
 obtain⟨i,hi,e⟩:=List.mem_filterMap.mp ((Ah o d shs j).mem_iff.mp e);have e2:h.2=i:=by obtain⟨s,p,_,_,rfl⟩:=yM.mp e;rfl
 exact⟨yN h0 e,by rw[e2];exact List.mem_range.mp hi,by rw[e2];exact e⟩
include h0 in
theorem Jk:∀j,(lM o d shs j).Pairwise iy
 |0=>List.Pairwise.nil
 |j+1=>by
  unfold lM;split
  .exact Jk j
  .rename_i h e;have e2:h.2=j:=by obtain⟨s,p,_,_,rfl⟩:=yM.mp e;rfl
   exact zpR (yN h0 e) (λx hx=>(Ga h0 hx).1) (λx hx=>by rw[e2];exact(Ga h0 hx).2.1) (Jk j)
include h0 in
theorem zph{hs:List cX}(p:hs.Perm (lu o d shs))(hw:∀h∈hs,h.1.2<=w):((iw (hs.map (kI w))).map λi=>hs.getD i lz)=lM o d shs shs.length:=by
 have q:=p.trans (Ah o d shs shs.length).symm;have gd:∀h∈hs,gO h:=λh hh=>(Ga h0 (q.mem_iff.mp hh)).1;have nd:(hs.map (·.2)).Nodup:=by
  refine(p.map _).nodup_iff.mpr ?_;unfold lu;rw[List.map_filterMap];refine List.Pairwise.sublist ?_ (List.nodup_range (n:=shs.length));have:(λi=>Option.map (λx:cX=>x.2) (dg o d shs i))=λi=>if(dg o d shs i).isSome=true then some i else none:=by
   funext i;cases e:dg o d shs i with
   |none=>rfl
   |some h=>obtain⟨s,p,_,_,rfl⟩:=yM.mp e;rfl
  rw[this];generalize List.range shs.length=l
  induction l with
  |nil=>exact List.Sublist.slnil
  |cons a l ih =>
   rw[List.filterMap_cons];split
   .exact ih.cons _
   .rename_i e;split at e
    .cases e;exact ih.cons₂ _
    .cases e
 obtain⟨a,b⟩:=zmY (λh hh=>⟨gd h hh,hw h hh⟩) nd;refine List.Perm.eq_of_pairwise (λx y hx hy=>Uj (gd x (a.mem_iff.mp hx)) (Ga h0 hy).1) b (Jk h0 _) (a.trans q)
end
end MX.P
end
section
local macro_rules|`(tactic|wtm_at $s)=>uC s "d&"
namespace MX.P
open PySem L2 MX
theorem ZJ{S1:So}{fe fd:EF}{n:Nat}{k:Int}(h1:fe Z S=some (.ref n,S1))(h2:fd Z S1=some (.int k,S1))(hn:S1[n]?=some (.lst (ns.map .int))):∃m,(m∈ns\/m=k)/\(∀a∈ns,a<=m)/\uM fe fd Z S=some (.int m,S1):=by
 have e:uM fe fd Z S=if ns=[] then some (.int k,S1) else(je ns).map λm=>(.int m,S1):=by unfold uM;rw[h1];simp only[cu];rw[h2];simp only[cu];rw[hn];simp only;rw[KC];rfl
 by_cases h:ns=[]
 .subst h;exact⟨k,.inr rfl,λa ha=>(nomatch ha),by rw[e,if_pos rfl]⟩
 .obtain⟨m,q⟩:=zX h;exact⟨m,.inl (Ai q),FT q,by rw[e,if_neg h,q];rfl⟩
theorem znB{h:cX}(g:gO h)(b:xR k h)(bw:Bd (k+k) (w*w))(hk:k<=2000)(S:So):
 sU (eN bZ (ak (eB (aB .FloorDiv) (eB (aB .Mult) (eB aG (eB aG (aj 0) (kq 0)) (kq 0)) (aj 1)) (eB aG (eB aG (aj 0) (kq 0)) (kq 1))) (ak (eB aG (aj 0) (kq 1)) au))) [.int (w*w)] [bG h] S=some (kI w h,S):=by
 show eN _ _ [some (bG h),some (.int (w*w))] S=_;have e0:∀S,eB aG (aj 0) (kq 0) [some (bG h),some (.int (w*w))] S=some (rD h.1,S):=λS=>aF (aq rfl) aN (cW rfl);have hq:h.1.1*(w*w) / h.1.2=(h.1.1*(w*w)).fdiv h.1.2:=(Int.fdiv_eq_ediv_of_nonneg _ (Int.le_of_lt g.1)).symm;unfold kI mL;rw[hq];refine bB (aJ (aF (aF (aF (e0 S) aN (cW rfl)) (aq rfl) (fL (vD b.a bw (by omega)))) (aF (e0 S) aN (cW rfl)) (vq (yL b.b (by have:=g.1;omega) (by omega)))) (aJ (aF (aq rfl) aN (cW rfl)) aZ)) (gH (by show 2<=sizeLine;decide))
theorem zih{hs:List cX}(hg:∀h∈hs,gO h/\xR k h)(hl:hs.length<64)(h1:1<=k)(hk:k<=2000){n:Nat}(hS:WF S)(hT:jK "in_order" S=true)(hn:S[n]?=some (.lst (hs.map bG))):
 ∃w,(∀h∈hs,h.1.2<=w)/\Gx [.ref n] S=some (.ref (S.length+1),S++[.lst (hs.map λh => .int h.1.2)]++[.lst (((iw (hs.map (kI w))).map λi=>hs.getD i lz).map bG)]):=by
 have e1:eX (fK (aj 0)) (aH 0) dW (eB aG (eB aG (aj 0) (kq 0)) (kq 1)) [none] [some (.ref n),none,none] S=some (.ref S.length,S++[.lst (hs.map λh => .int h.1.2)]) :=
  vB hs bG (λh => .int h.1.2) (lZ (aq rfl) hn) hn (by omega) rfl λh _=>aF (aF (aq rfl) aN (cW (z:=rD h.1) rfl)) aN (cW rfl)
 have hm:(S++[O.lst (hs.map λh=>D.int h.1.2)])[S.length]?=some (.lst ((hs.map λh=>h.1.2).map .int)):=by rw[List.map_map];exact b8
 obtain⟨w,w1,w2,e2⟩:=ZJ (k:=1) e1 aN hm;have bw:Bd k w:=by
  rcases w1 with w1|rfl
  .obtain⟨h,hh,rfl⟩:=List.mem_map.mp w1;exact(hg h hh).2.b
  .exact(show Bd 1 1 by unfold Bd;decide).le h1
 have hw:∀h∈hs,h.1.2<=w:=λh hh=>w2 _ (List.mem_map.mpr ⟨h,hh,rfl⟩);refine⟨w,hw,?_⟩;have W1:WF (S++[.lst (hs.map λh=>D.int h.1.2)]):=hS.snoc (by
  have:=yx S.length (hs.map λh=>h.1.2)
  rwa [List.map_map] at this)
 have kp:=Av (hs.map (kI w));rw[cY] at kp;have lt:∀i∈iw (hs.map (kI w)),i<hs.length:=λi hi=>List.mem_range.mp (kp.mem_iff.mp hi);have pe:=UG (enc:=bG) lz hs lt;have ks:p7 (sU (eN bZ (ak (eB (aB .FloorDiv) (eB (aB .Mult) (eB aG (eB aG (aj 0) (kq 0)) (kq 0)) (aj 1)) (eB aG (eB aG (aj 0) (kq 0)) (kq 1))) (ak (eB aG (aj 0) (kq 1)) au))) [.int (w*w)]) (S++[.lst (hs.map λh=>D.int h.1.2)]) (hs.map bG)=some (hs.map (kI w)) :=
  Km λh hh=>znB (hg h hh).1 (hg h hh).2 (bw.mul bw) hk _
 have kk:((hs.map (kI w)).all nM||(hs.map (kI w)).all mK)=true:=by rw[lg];exact .inr (List.all_eq_true.mpr λx hx=>by obtain⟨q,_,rfl⟩:=List.mem_map.mp hx;rfl)
 unfold Gx oR;rw[if_pos hT];refine nZ (Z':=[some (.ref n),some (.int w),some (.int (w*w))]) ?_ ?_ (by simp) (by simp[D.lo]) (W1.snoc (Ad _ _))
 .show Gv [some (.ref n),none,none] S=_;unfold Gv;refine aM (bN e2 (bY rfl)) (aR (aM (bN (aF (aq rfl) (aq rfl) (fL (vD bw bw (by omega)))) (bY rfl)) (aR (aM (fQ ?_) dY))));refine(QV (fe:=aj 0) (iC:=[.int (w*w)]) (Z:=[some (.ref n),some (.int w),some (.int (w*w))]) (src:=[2]) (aq rfl) rfl rfl (dZ hn) (by simp;omega) ks kk).trans ?_;rw[pe,iW];rfl
 .intro h;simp[D.lo] at h;omega
section
variable {K:Nat}{o d:Pt}(ho:aU K o)(hd:aU K d)(h0:d≠(0,0,0))
include ho hd h0 in
theorem zmu(hK:K<=400){shs:List Sh}{t:Option Tr}(ok:uW K shs t)(hl:shs.length<64){c:Nat}(hS:WF S)(hT:jK "in_order" S=true)(sc:jF S c shs t):
 ∃(n:Nat) (G:So),Mr [.ref c,cN o d] S=some (.ref n,S++G)/\WF (S++G)/\S.length<=n/\(S++G)[n]?=some (.lst ((lM o d shs shs.length).map bG)):=by
 obtain⟨fs,p1,p2,p3⟩:=Tp ho hd h0 (by omega) ok;have hh:=p3 S c hS sc;generalize Qc:fs.filterMap (dg o d shs)=hs at *
 have W3:WF (S++[.lst (hs.map bG)]++[.lst (fs.map aV)]++[.lst []]):=((hS.snoc (Ad _ _)).snoc (Ae _ _)).snoc rfl;have n3:(S++[O.lst (hs.map bG)]++[O.lst (fs.map aV)]++[O.lst []])[S.length]?=some (.lst (hs.map bG)):=dZ (dZ b8);have T3:jK "in_order" (S++[O.lst (hs.map bG)]++[O.lst (fs.map aV)]++[O.lst []])=true:=by rw[dI,dI];exact lJ hT
 have hg:∀h∈hs,gO h/\xR (4*K+10) h:=λh hm=>by rw[<-Qc] at hm;obtain⟨i,hi,e⟩:=List.mem_filterMap.mp hm;exact⟨yN h0 e,(Rh ho hd h0 ok e).1⟩
 have ll:hs.length<64:=by have:=(p1.trans (Ah o d shs shs.length).symm).length_eq;have l2:=(Ah o d shs shs.length).length_eq;have l3:=List.length_filterMap_le (dg o d shs) (List.range shs.length);rw[List.length_range] at l3;omega
 obtain⟨w,hw,ei⟩:=zih hg ll (by omega) (by omega) W3 T3 n3;rw[zph h0 p1 hw] at ei;generalize wH:S++[O.lst (hs.map bG)]++[O.lst (fs.map aV)]++[O.lst []]=S3 at *
 have l3:S.length<=S3.length:=by rw[<-wH];simp
 have lw:=yx S3.length (hs.map λh=>h.1.2);rw[List.map_map] at lw;have W5:WF (S3++[.lst (hs.map λh => .int h.1.2)]++[.lst ((lM o d shs shs.length).map bG)]):=(W3.snoc lw).snoc (Ad _ _);have eG:S3++[O.lst (hs.map λh => .int h.1.2)]++[O.lst ((lM o d shs shs.length).map bG)]=S++([O.lst (hs.map bG)]++[O.lst (fs.map aV)]++[O.lst []]++[O.lst (hs.map λh => .int h.1.2)]++[O.lst ((lM o d shs shs.length).map bG)]):=by rw[<-wH];simp only[dI]
 refine⟨S3.length+1,_,?_,by rw[<-eG];exact W5,by omega,?_⟩
 .rw[<-eG];refine nZ (Z':=[some (.ref c),some (cN o d)]) ?_ ?_ (by simp;omega) (by simp[D.lo]) W5
  .show GX [some (.ref c),some (cN o d)] S=_;unfold GX;exact aM (fQ (bB (aJ (z9 (aq rfl) sc.ins rfl (aJ (aq rfl) aZ) rfl hh) aZ) (dj rfl ei))) dY
  .intro h;simp[D.lo] at h;omega
 .rw[<-eG,show S3.length+1=(S3++[O.lst (hs.map λh=>D.int h.1.2)]).length by simp];exact b8
end
end MX.P
end
section
namespace MX.P
noncomputable def gw(c h:Bool)(q U V:Int):Pt:=match c,h with
 |false,false=>(4*q - U,U - V,V)
 |false,true=>(4*q - V,U,V - U)
 |true,false=>(4*q - U - V,U,V)
 |true,true=>(4*q - V,U+V - 4*q,4*q - U)
abbrev Sq:=Int×Int×Int×Int
noncomputable def gc(c h:Bool)(x y:Int)(s:Sq):Pt×Pt×Pt:=match c,h with
 |false,false=>((x,y,s.1),(x+4,y,s.2.1),(x+4,y+4,s.2.2.1))
 |false,true=>((x,y,s.1),(x+4,y+4,s.2.2.1),(x,y+4,s.2.2.2))
 |true,false=>((x,y,s.1),(x+4,y,s.2.1),(x,y+4,s.2.2.2))
 |true,true=>((x+4,y,s.2.1),(x+4,y+4,s.2.2.1),(x,y+4,s.2.2.2))
noncomputable def gh(c h:Bool)(q U V:Int)(s:Sq):Int:=(gw c h q U V).1*(gc c h 0 0 s).1.2.2+(gw c h q U V).2.1*(gc c h 0 0 s).2.1.2.2+(gw c h q U V).2.2*(gc c h 0 0 s).2.2.2.2
def cH(c h:Bool)(q U V:Int):Prop:=0<=(gw c h q U V).1/\0<=(gw c h q U V).2.1/\0<=(gw c h q U V).2.2
theorem wJ{p o d a b c:Int}(x:Int)(e:(u+v+w)*p*d=q*(u*(a - o)+v*(b - o)+w*(c - o))):(u+v+w)*(o*q+d*p - x*q)=q*(u*(a - x)+v*(b - x)+w*(c - x)):=by grind
def Jm(hs:0<s)(hq:0<q)(hu:0<=u)(e:s*U=4*(q*u)):0<=U:=yR hs e (by have:=Int.mul_nonneg (Int.le_of_lt hq) hu;omega)
theorem zr9{z a b c ZZ:Int}(hs:0<u+v+w)(e1:(u+v+w)*x=4*(q*u))(e2:(u+v+w)*y=4*(q*v))(e3:(u+v+w)*z=4*(q*w))(e:(u+v+w)*ZZ=q*(u*a+v*b+w*c)):x*a+y*b+z*c=4*ZZ:=by
 refine Int.eq_of_mul_eq_mul_left (a:=u+v+w) (by omega) ?_;have:(u+v+w)*(x*a+y*b+z*c)=(u+v+w)*x*a+(u+v+w)*y*b+(u+v+w)*z*c:=by simp only[Int.mul_add,Int.mul_assoc]
 rw[this,e1,e2,e3,show(u+v+w)*(4*ZZ)=4*((u+v+w)*ZZ) by rw[Int.mul_left_comm],e];clear this e1 e2 e3 e hs;grind
theorem Zr{V:Int}{s:Sq}(e1:(u+v+w)*U=q*(u*((gc c h x y s).1.1 - x)+v*((gc c h x y s).2.1.1 - x)+w*((gc c h x y s).2.2.1 - x)))(e2:(u+v+w)*V=q*(u*((gc c h x y s).1.2.1 - y)+v*((gc c h x y s).2.1.2.1 - y)+w*((gc c h x y s).2.2.2.1 - y))):
 (u+v+w)*(gw c h q U V).1=4*(q*u)/\(u+v+w)*(gw c h q U V).2.1=4*(q*v)/\(u+v+w)*(gw c h q U V).2.2=4*(q*w):=by
 have a0:∀x:Int,x+4 - x=4:=λx=>by omega
 cases c<;>cases h<;>simp only[gc,gw,Int.sub_self,a0,Int.mul_zero,Int.zero_add,Int.add_zero] at e1 e2 ⊢<;>refine⟨?_,?_,?_⟩<;>clear a0<;>grind
theorem Dl(c h:Bool)(x y:Int)(s:Sq):(gc c h x y s).1.2.2=(gc c h 0 0 s).1.2.2/\(gc c h x y s).2.1.2.2=(gc c h 0 0 s).2.1.2.2/\(gc c h x y s).2.2.2.2=(gc c h 0 0 s).2.2.2.2:=by cases c<;>cases h<;>exact⟨rfl,rfl,rfl⟩
def Ji(c h:Bool)(q U V:Int):(gw c h q U V).1+(gw c h q U V).2.1+(gw c h q U V).2.2=4*q:=by cases c<;>cases h<;>simp only[gw]<;>omega
theorem QX(c h:Bool)(x y q U V:Int)(s:Sq):(gw c h q U V).1*((gc c h x y s).1.1 - x)+(gw c h q U V).2.1*((gc c h x y s).2.1.1 - x)+(gw c h q U V).2.2*((gc c h x y s).2.2.1 - x)=4*U
 /\ (gw c h q U V).1*((gc c h x y s).1.2.1 - y)+(gw c h q U V).2.1*((gc c h x y s).2.1.2.1 - y)+(gw c h q U V).2.2*((gc c h x y s).2.2.2.1 - y)=4*V:=by
 have a0:∀x:Int,x+4 - x=4:=λx=>by omega
 cases c<;>cases h<;>simp only[gc,gw,Int.sub_self,a0]<;>omega
theorem wI{p o d a b c:Int}(x:Int)(hs:u+v+w=4*q)(e:u*(a - x)+v*(b - x)+w*(c - x)=4*(o*q+d*p - x*q)):(u+v+w)*p*d=q*(u*(a - o)+v*(b - o)+w*(c - o)):=by
 have:u*(a - o)+v*(b - o)+w*(c - o)=u*(a - x)+v*(b - x)+w*(c - x)+(u+v+w)*(x - o):=by clear e hs;grind
 rw[this,e,hs];clear this e hs;grind
theorem Hi(hq:0<t.2)(c h:Bool)(x y:Int)(s:Sq):jN d (wb o (gc c h x y s).1) (wb o (gc c h x y s).2.1) (wb o (gc c h x y s).2.2) t ↔
 cH c h t.2 (o.1*t.2+d.1*t.1 - x*t.2) (o.2.1*t.2+d.2.1*t.1 - y*t.2)/\gh c h t.2 (o.1*t.2+d.1*t.1 - x*t.2) (o.2.1*t.2+d.2.1*t.1 - y*t.2) s=4*(o.2.2*t.2+d.2.2*t.1):=by
 obtain⟨g1,g2,g3⟩:=Dl c h x y s;constructor
 .rintro⟨u,v,w,hu,hv,hw,hs,e1,e2,e3⟩
  obtain⟨w1,w2,w3⟩:=Zr (wJ x e1) (wJ y e2);have z:=wJ 0 e3;simp only[wb,Int.sub_zero,Int.zero_mul,g1,g2,g3] at z;exact⟨⟨Jm hs hq hu w1,Jm hs hq hv w2,Jm hs hq hw w3⟩,zr9 hs w1 w2 w3 z⟩
 .rintro⟨⟨h1,h2,h3⟩,e⟩
  have hs:=Ji c h t.2 (o.1*t.2+d.1*t.1 - x*t.2) (o.2.1*t.2+d.2.1*t.1 - y*t.2);obtain⟨x1,x2⟩:=QX c h x y t.2 (o.1*t.2+d.1*t.1 - x*t.2) (o.2.1*t.2+d.2.1*t.1 - y*t.2) s;unfold gh at e;rw[<-g1,<-g2,<-g3] at e;exact⟨_,_,_,h1,h2,h3,by omega,wI x hs x1,wI y hs x2,wI 0 hs (by simp only[Int.sub_zero,Int.zero_mul];exact e)⟩
def Jq{V:Int}(g:cH c h q U V):0<=U/\U<=4*q/\0<=V/\V<=4*q:=by cases c<;>cases h<;>simp only[cH,gw] at g<;>omega
theorem yt{V:Int}{s:Sq}(g:cH c h q (4*q) V):gh c h q (4*q) V s=(4*q - V)*s.2.1+V*s.2.2.1:=by
 cases c<;>cases h<;>simp only[cH,gw,gh,gc] at g ⊢
 .rw[Int.sub_self];omega
 .obtain rfl:V=4*q:=by omega
  rw[Int.sub_self];omega
 .obtain rfl:V=0:=by omega
  simp
 .rw[Int.sub_self,Int.zero_mul,Int.add_zero,show 4*q+V - 4*q=V by omega]
theorem yr{V:Int}{s:Sq}(g:cH c h q 0 V):gh c h q 0 V s=(4*q - V)*s.1+V*s.2.2.2:=by
 cases c<;>cases h<;>simp only[cH,gw,gh,gc] at g ⊢
 .obtain rfl:V=0:=by omega
  simp
 .simp
 .simp
 .obtain rfl:V=4*q:=by omega
  simp
theorem RD{s:Sq}(g:cH c h q U (4*q)):gh c h q U (4*q) s=(4*q - U)*s.2.2.2+U*s.2.2.1:=by
 cases c<;>cases h<;>simp only[cH,gw,gh,gc] at g ⊢
 .obtain rfl:U=4*q:=by omega
  simp
 .rw[Int.sub_self];omega
 .obtain rfl:U=0:=by omega
  simp
 .rw[Int.sub_self,Int.zero_mul,Int.zero_add,show U+4*q - 4*q=U by omega];omega
theorem RG{s:Sq}(g:cH c h q U 0):gh c h q U 0 s=(4*q - U)*s.1+U*s.2.1:=by
 cases c<;>cases h<;>simp only[cH,gw,gh,gc] at g ⊢
 .simp
 .obtain rfl:U=0:=by omega
  simp
 .simp
 .obtain rfl:U=4*q:=by omega
  simp
theorem diag{h':Bool}{V:Int}{s:Sq}(g:cH c h q U V)(g':cH c h' q U V):gh c h q U V s=gh c h' q U V s:=by
 cases c<;>cases h<;>cases h'<;>simp only[cH,gw] at g g'
 all_goals try rfl
 .obtain rfl:U=V:=by omega
  simp only[gh,gw,gc,Int.sub_self];omega
 .obtain rfl:U=V:=by omega
  simp only[gh,gw,gc,Int.sub_self];omega
 .obtain rfl:U=4*q - V:=by omega
  simp only[gh,gw,gc];rw[show 4*q - (4*q - V) - V=0 by omega,show 4*q - V+V - 4*q=0 by omega,show 4*q - (4*q - V)=V by omega];omega
 .obtain rfl:U=4*q - V:=by omega
  simp only[gh,gw,gc];rw[show 4*q - (4*q - V) - V=0 by omega,show 4*q - V+V - 4*q=0 by omega,show 4*q - (4*q - V)=V by omega];omega
abbrev gW(z:Nat->Nat->Int)(i j:Nat):Sq:=(z i j,z (i+1) j,z (i+1) (j+1),z i (j+1))
abbrev uE(c:Nat->Nat->Bool)(q P R:Int)(i j:Nat)(h:Bool):Prop:=cH (c i j) h q (P - 4*(i:Nat)*q) (R - 4*(j:Nat)*q)
abbrev uF(z:Nat->Nat->Int)(c:Nat->Nat->Bool)(q P R:Int)(i j:Nat)(h:Bool):Int:=gh (c i j) h q (P - 4*(i:Nat)*q) (R - 4*(j:Nat)*q) (gW z i j)
theorem nxt{P:Int}(hq:0<q)(h1:0<=P - 4*(i:Nat)*q)(h2:P - 4*(i:Nat)*q<=4*q)(h3:0<=P - 4*(k:Nat)*q)(h4:P - 4*(k:Nat)*q<=4*q):
 k=i\/(k=i+1/\P - 4*(i:Nat)*q=4*q/\P - 4*(k:Nat)*q=0)\/(i=k+1/\P - 4*(k:Nat)*q=4*q/\P - 4*(i:Nat)*q=0):=by
 have key:∀a b:Nat,a<b->0<=P - 4*(b:Nat)*q->P - 4*(a:Nat)*q<=4*q->b=a+1/\P - 4*(a:Nat)*q=4*q/\P - 4*(b:Nat)*q=0:=by
  intro a b hab hb ha;obtain⟨e,rfl⟩:∃e:Nat,b=a+1+e:=⟨b - a - 1,by omega⟩
  have he:4*((a+1+e:Nat):Int)*q=4*(a:Nat)*q+4*q+4*((e:Nat)*q):=by rw[show((a+1+e:Nat):Int)=(a:Nat)+1+(e:Nat) by omega];clear hb ha;grind
  rw[he] at hb ⊢;have:0<=(e:Int)*q:=Int.mul_nonneg (by omega) (by omega);have e0:(e:Int)*q=0:=by omega
  rcases Int.mul_eq_zero.mp e0 with h|h
  .exact⟨by omega,by omega,by omega⟩
  .omega
 rcases Nat.lt_trichotomy i k with h|h|h
 .exact .inr (.inl (key i k h h3 h2))
 .exact .inl h.symm
 .exact .inr (.inr (key k i h h1 h4))
theorem agree{c:Nat->Nat->Bool}{P R:Int}(hq:0<q){l:Nat}{h':Bool}(g:uE c q P R i j h)(g':uE c q P R k l h'):uF z c q P R i j h=uF z c q P R k l h':=by
 have b:=Jq g;have b':=Jq g';have nx:=nxt hq b.1 b.2.1 b'.1 b'.2.1;have ny:=nxt hq b.2.2.1 b.2.2.2 b'.2.2.1 b'.2.2.2;clear b b';rcases nx with rfl|⟨rfl,x1,x2⟩|⟨rfl,x1,x2⟩<;>rcases ny with rfl|⟨rfl,y1,y2⟩|⟨rfl,y1,y2⟩<;>simp only[uE,uF] at g g' ⊢
 .exact diag g g'
 .rw[y1] at g ⊢;rw[y2] at g' ⊢;rw[RD g,RG g']
 .rw[y2] at g ⊢;rw[y1] at g' ⊢;rw[RG g,RD g']
 .rw[x1] at g ⊢;rw[x2] at g' ⊢;rw[yt g,yr g']
 .rw[x1,y1] at g ⊢;rw[x2,y2] at g' ⊢;rw[yt g,yr g'];simp
 .rw[x1,y2] at g ⊢;rw[x2,y1] at g' ⊢;rw[yt g,yr g'];simp
 .rw[x2] at g ⊢;rw[x1] at g' ⊢;rw[yr g,yt g']
 .rw[x2,y1] at g ⊢;rw[x1,y2] at g' ⊢;rw[yr g,yt g'];simp
 .rw[x2,y2] at g ⊢;rw[x1,y1] at g' ⊢;rw[yr g,yt g'];simp
theorem Ez(hz:∀i j,-20<=z i j/\z i j<=20){V:Int}(g:cH c h q U V): -(80*q)<=gh c h q U V (gW z i j)/\gh c h q U V (gW z i j)<=80*q:=by
 have key:∀w a:Int,0<=w -> -20<=a/\a<=20 -> -(20*w)<=w*a/\w*a<=20*w:=λw a hw ha=>by have h1:=Int.mul_le_mul_of_nonneg_left ha.1 hw;have h2:=Int.mul_le_mul_of_nonneg_left ha.2 hw;omega
 have hs:=Ji c h q U V;have zc:∀x∈[(gc c h 0 0 (gW z i j)).1.2.2,(gc c h 0 0 (gW z i j)).2.1.2.2,(gc c h 0 0 (gW z i j)).2.2.2.2],-20<=x/\x<=20:=by cases c<;>cases h<;>simp only[gc,List.mem_cons,List.not_mem_nil,or_false]<;>rintro x (rfl|rfl|rfl)<;>exact hz _ _
 have k1:=key _ _ g.1 (zc _ (eZ ..));have k2:=key _ _ g.2.1 (zc _ (cU _ (eZ ..)));have k3:=key _ _ g.2.2 (zc _ (cU _ (cU _ (eZ ..))));unfold gh;omega
abbrev NN:Int:=5354228880
theorem ZG{d:Int}(h : -24<=d/\d<=24):d=0\/d ∣ NN:=by
 have key:∀n:Fin 25,n.val=0\/n.val ∣ 5354228880:=by decide
 rcases key ⟨d.natAbs,by omega⟩ with h|h
 .exact .inl (by simp only at h;omega)
 .exact .inr (Int.natAbs_dvd.mp (Int.ofNat_dvd.mpr h))
theorem Gf{a d:Int}(h : -24<=d/\d<=24):(0<=a*NN+s*d/\0<=a*NN+(s+1)*d)\/(a*NN+s*d<=0/\a*NN+(s+1)*d<=0):=by
 have e2:(s+1)*d=s*d+d:=by rw[Int.add_mul,Int.one_mul]
 rcases ZG h with rfl|⟨m,hm⟩
 .simp only[Int.mul_zero];omega
 .have e:a*NN+s*d=d*(a*m+s):=by rw[hm,Int.mul_add,Int.mul_comm d s,Int.mul_left_comm]
  have e':a*NN+(s+1)*d=d*(a*m+s+1):=by rw[e2,<-Int.add_assoc,e,Int.mul_add d (a*m+s),Int.mul_one]
  rw[e,e'];generalize a*m+s=k;have p:∀x y:Int,0<=x->0<=y->0<=x*y:=λx y=>Int.mul_nonneg;have n:∀x y:Int,0<=x->y<=0->x*y<=0:=λx y=>Int.mul_nonpos_of_nonneg_of_nonpos;have n':∀x y:Int,x<=0->0<=y->x*y<=0:=λx y=>Int.mul_nonpos_of_nonpos_of_nonneg;have p':∀x y:Int,x<=0->y<=0->0<=x*y:=λx y=>Int.mul_nonneg_of_nonpos_of_nonpos;rcases Int.le_total 0 d with hd|hd<;>rcases(show 0<=k\/k+1<=0 by omega) with hk|hk
  .exact .inl ⟨p _ _ hd hk,p _ _ hd (by omega)⟩
  .exact .inr ⟨n _ _ hd (by omega),n _ _ hd hk⟩
  .exact .inr ⟨n' _ _ hd hk,n' _ _ hd (by omega)⟩
  .exact .inl ⟨p' _ _ hd (by omega),p' _ _ hd hk⟩
theorem lane{W:Nat}(w1:1<=W)(w3:W<=3){d:Int}(hd : -24<=d/\d<=24)(x0:0<=x)(x1:x<=4*(W:Nat))(y0:0<=x+d)(y1:x+d<=4*(W:Nat))(s0:0<=s)(s1:s<NN):
 ∃i:Nat,i<W/\0<=x*NN+d*s - 4*(i:Nat)*NN/\x*NN+d*s - 4*(i:Nat)*NN<=4*NN/\0<=x*NN+d*(s+1) - 4*(i:Nat)*NN/\x*NN+d*(s+1) - 4*(i:Nat)*NN<=4*NN:=by
 have c1:=Gf (a:=x - 4) (s:=s) hd;have c2:=Gf (a:=x - 8) (s:=s) hd;have inn:∀r:Int,0<=r->r<=NN->0<=x*NN+d*r/\x*NN+d*r<=4*(W:Nat)*NN:=by
  intro r r0 r1;have e:x*NN+d*r=x*(NN - r)+(x+d)*r:=by grind
  have a1:=Int.mul_nonneg x0 (show 0<=NN - r by omega);have a2:=Int.mul_nonneg y0 r0;have a3:=Int.mul_le_mul_of_nonneg_right x1 (show 0<=NN - r by omega);have a4:=Int.mul_le_mul_of_nonneg_right y1 r0;have e2:4*(W:Int)*NN=4*(W:Int)*(NN - r)+4*(W:Int)*r:=by grind
  omega
 have i1:=inn s s0 (by omega);have i2:=inn (s+1) (by omega) (by omega);clear inn;rw[Int.mul_comm d] at i1;rw[Int.mul_comm d] at i2;simp only[Int.mul_comm d];generalize s*d=D at *
 generalize (s+1)*d=D' at *
 rw[Int.sub_mul] at c1;rw[Int.sub_mul] at c2;generalize x*NN=XN at *
 rcases c1 with c1|c1
 .rcases c2 with c2|c2
  .rcases(show W=1\/W=2\/W=3 by omega) with rfl|rfl|rfl
   .exact⟨0,by omega,by omega,by omega,by omega,by omega⟩
   .exact⟨1,by omega,by omega,by omega,by omega,by omega⟩
   .exact⟨2,by omega,by omega,by omega,by omega,by omega⟩
  .rcases(show W=1\/1<W by omega) with rfl|hw
   .exact⟨0,by omega,by omega,by omega,by omega,by omega⟩
   .exact⟨1,by omega,by omega,by omega,by omega,by omega⟩
 .exact⟨0,by omega,by omega,by omega,by omega,by omega⟩
theorem half{dx dy:Int}(c:Bool)(hx : -12<=dx/\dx<=12)(hy : -12<=dy/\dy<=12)(bx:0<=x*NN+dx*s - 4*(i:Nat)*NN/\x*NN+dx*s - 4*(i:Nat)*NN<=4*NN/\0<=x*NN+dx*(s+1) - 4*(i:Nat)*NN/\x*NN+dx*(s+1) - 4*(i:Nat)*NN<=4*NN)(by':0<=y*NN+dy*s - 4*(j:Nat)*NN/\y*NN+dy*s - 4*(j:Nat)*NN<=4*NN/\0<=y*NN+dy*(s+1) - 4*(j:Nat)*NN/\y*NN+dy*(s+1) - 4*(j:Nat)*NN<=4*NN):
 ∃h,cH c h NN (x*NN+dx*s - 4*(i:Nat)*NN) (y*NN+dy*s - 4*(j:Nat)*NN)/\cH c h NN (x*NN+dx*(s+1) - 4*(i:Nat)*NN) (y*NN+dy*(s+1) - 4*(j:Nat)*NN):=by
 have c1:=Gf (a:=(x - 4*(i:Nat)) - (y - 4*(j:Nat))) (d:=dx - dy) (s:=s) (by omega);have c2:=Gf (a:=(x - 4*(i:Nat))+(y - 4*(j:Nat)) - 4) (d:=dx+dy) (s:=s) (by omega);simp only[Int.sub_mul,Int.add_mul,Int.mul_sub,Int.mul_add,Int.mul_comm dx,Int.mul_comm dy] at *
 generalize s*dx=A at *
 generalize s*dy=B at *
 generalize x*NN=X at *
 generalize y*NN=Y at *
 generalize 4*(i:Int)*NN=I at *
 generalize 4*(j:Int)*NN=J at *
 generalize NN=N at *
 cases c
 .rcases c1 with c1|c1
  .exact⟨false,by simp only[cH,gw];omega,by simp only[cH,gw];omega⟩
  .exact⟨true,by simp only[cH,gw];omega,by simp only[cH,gw];omega⟩
 .rcases c2 with c2|c2
  .exact⟨true,by simp only[cH,gw];omega,by simp only[cH,gw];omega⟩
  .exact⟨false,by simp only[cH,gw];omega,by simp only[cH,gw];omega⟩
theorem Rg(c h:Bool)(A B q U V U' V':Int):gw c h (q*(A+B)) (B*U+A*U') (B*V+A*V')=(B*(gw c h q U V).1+A*(gw c h q U' V').1,B*(gw c h q U V).2.1+A*(gw c h q U' V').2.1,B*(gw c h q U V).2.2+A*(gw c h q U' V').2.2):=by cases c<;>cases h<;>refine Prod.ext ?_ (Prod.ext ?_ ?_)<;>simp only[gw]<;>grind
theorem zrP{A B V U' V':Int}(hA:0<=A)(hB:0<=B)(g:cH c h q U V)(g':cH c h q U' V'):cH c h (q*(A+B)) (B*U+A*U') (B*V+A*V'):=by unfold cH;rw[Rg];exact⟨Int.add_nonneg (Int.mul_nonneg hB g.1) (Int.mul_nonneg hA g'.1),Int.add_nonneg (Int.mul_nonneg hB g.2.1) (Int.mul_nonneg hA g'.2.1),Int.add_nonneg (Int.mul_nonneg hB g.2.2) (Int.mul_nonneg hA g'.2.2)⟩
theorem ZM(c h:Bool)(A B q U V U' V':Int)(s:Sq):gh c h (q*(A+B)) (B*U+A*U') (B*V+A*V') s=B*gh c h q U V s+A*gh c h q U' V' s:=by unfold gh;rw[Rg];simp only;generalize (gw c h q U V).1=a1;generalize (gw c h q U V).2.1=a2;generalize (gw c h q U V).2.2=a3;generalize (gw c h q U' V').1=b1;generalize (gw c h q U' V').2.1=b2;generalize (gw c h q U' V').2.2=b3;grind
theorem Tf{P:Nat->Prop}:∀n,P 0->¬P n->∃s,s<n/\P s/\¬P (s+1)
 |0,h,h'=>absurd h h'
 |n+1,h,h'=>by
  by_cases hn:P n
  .exact⟨n,by omega,hn,h'⟩
  .obtain⟨s,h1,h2⟩:=Tf n h hn;exact⟨s,by omega,h2⟩
def Cw{o d B A:Int}(q:Int):o*(q*(A+B))+d*(s*(A+B)+A) - x*(q*(A+B))=B*((o - x)*q+d*s)+A*((o - x)*q+d*(s+1)):=by grind
theorem Ug(c h:Bool)(q U V dx dy dz x y:Int)(s:Sq):aO (dx,dy,dz) (aL (wb (gc c h x y s).1 (gc c h x y s).2.1) (wb (gc c h x y s).1 (gc c h x y s).2.2))=16*dz - 4*(gh c h q (U+dx) (V+dy) s - gh c h q U V s):=by cases c<;>cases h<;>simp only[gc,gw,gh,wb,aL,aO]<;>grind
def Eb(W H:Nat)(X Y:Int)(o d:Pt):Prop:=0<=o.1 - X/\o.1 - X<=4*(W:Nat)/\0<=o.1 - X+d.1/\o.1 - X+d.1<=4*(W:Nat)/\0<=o.2.1 - Y/\o.2.1 - Y<=4*(H:Nat)/\0<=o.2.1 - Y+d.2.1/\o.2.1 - Y+d.2.1<=4*(H:Nat)/\21<=o.2.2/\o.2.2+d.2.2 <= -21
def QC(o d:Pt)(g:Pt×Pt×Pt)(t:Int×Int):Prop:=aO d (aL (wb g.1 g.2.1) (wb g.1 g.2.2))≠0/\jN d (wb o g.1) (wb o g.2.1) (wb o g.2.2) t
theorem zkb{W H:Nat}(w1:1<=W)(w3:W<=3)(h1:1<=H)(h3:H<=3)(hz:∀i j,-20<=z i j/\z i j<=20)(c:Nat->Nat->Bool){X Y:Int}(as:Eb W H X Y o d):
 ∃i j h t,i<W/\j<H/\0<=t.1/\0<t.2/\QC o d (gc (c i j) h (X+4*(i:Nat)) (Y+4*(j:Nat)) (gW z i j)) t:=by
 obtain⟨x0,x1,x2,x3,y0,y1,y2,y3,z0,z1⟩:=as;let PX:Int->Int:=λs=>(o.1 - X)*NN+d.1*s;let PY:Int->Int:=λs=>(o.2.1 - Y)*NN+d.2.1*s;have step:∀s:Int,0<=s->s<NN->∃i j h,i<W/\j<H/\uE c NN (PX s) (PY s) i j h/\uE c NN (PX (s+1)) (PY (s+1)) i j h:=by intro s s0 s1;obtain⟨i,hi,b1⟩:=lane w1 w3 (d:=d.1) (s:=s) (by omega) x0 x1 x2 x3 s0 s1;obtain⟨j,hj,b2⟩:=lane h1 h3 (d:=d.2.1) (s:=s) (by omega) y0 y1 y2 y3 s0 s1;obtain⟨h,g1,g2⟩:=half (c i j) (by omega) (by omega) b1 b2;exact⟨i,j,h,hi,hj,g1,g2⟩
 obtain⟨s,sn,⟨i',j',h',g0,u0⟩,nu⟩:=Tf (P:=λs:Nat=>∃i j h,uE c NN (PX (s:Nat)) (PY (s:Nat)) i j h/\uF z c NN (PX (s:Nat)) (PY (s:Nat)) i j h<=4*(o.2.2*NN+d.2.2*(s:Nat))) 5354228880
  (by
   obtain⟨i,j,h,_,_,g,_⟩:=step 0 (by decide) (by decide);have b:=(Ez hz (i:=i) (j:=j) g).2;refine⟨i,j,h,g,Int.le_trans b ?_⟩;have:=Int.mul_le_mul_of_nonneg_right z0 (show(0:Int)<=NN by decide);have h0:d.2.2*((0:Nat):Int)=0:=Int.mul_zero _;have hN:(0:Int)<NN:=by decide
   omega)
  (by
   rintro⟨i,j,h,g,u⟩
   have b:=(Ez hz (i:=i) (j:=j) g).1;have:=Int.mul_le_mul_of_nonneg_right z1 (show(0:Int)<=NN by decide);rw[Int.add_mul] at this;have hN:(0:Int)<NN:=by decide
   have b':=Int.le_trans b u;have e:d.2.2*((5354228880:Nat):Int)=d.2.2*NN:=rfl;omega)
 obtain⟨i,j,h,hi,hj,g,g'⟩:=step (s:Nat) (by omega) (by have:NN=5354228880:=rfl;omega);have u:uF z c NN (PX (s:Nat)) (PY (s:Nat)) i j h<=4*(o.2.2*NN+d.2.2*(s:Nat)):=by rw[agree (by decide) g g0];exact u0
 have v:¬uF z c NN (PX ((s:Nat)+1)) (PY ((s:Nat)+1)) i j h<=4*(o.2.2*NN+d.2.2*((s:Nat)+1)):=λhh=>nu ⟨i,j,h,by exact_mod_cast g',by exact_mod_cast hh⟩;simp only[uF,uE] at u v g g';generalize hA:4*(o.2.2*NN+d.2.2*(s:Nat)) - gh (c i j) h NN (PX (s:Nat) - 4*(i:Nat)*NN) (PY (s:Nat) - 4*(j:Nat)*NN) (gW z i j)=A;generalize hB:gh (c i j) h NN (PX ((s:Nat)+1) - 4*(i:Nat)*NN) (PY ((s:Nat)+1) - 4*(j:Nat)*NN) (gW z i j) - 4*(o.2.2*NN+d.2.2*((s:Nat)+1))=B;have a0:0<=A:=by omega
 have b0:0<B:=by omega
 have s0:(0:Int)<=(s:Nat):=by omega
 refine⟨i,j,h,((s:Nat)*(A+B)+A,NN*(A+B)),hi,hj,Int.add_nonneg (Int.mul_nonneg s0 (by omega)) a0,Int.mul_pos (by decide) (by omega),?_,?_⟩
 .have:=Ug (c i j) h NN (PX (s:Nat) - 4*(i:Nat)*NN) (PY (s:Nat) - 4*(j:Nat)*NN) d.1 d.2.1 d.2.2 (X+4*(i:Nat)) (Y+4*(j:Nat)) (gW z i j);have e1:PX (s:Nat) - 4*(i:Nat)*NN+d.1=PX ((s:Nat)+1) - 4*(i:Nat)*NN:=by simp only[PX,Int.mul_add,Int.mul_one];omega
  have e2:PY (s:Nat) - 4*(j:Nat)*NN+d.2.1=PY ((s:Nat)+1) - 4*(j:Nat)*NN:=by simp only[PY,Int.mul_add,Int.mul_one];omega
  rw[e1,e2] at this;show aO (d.1,d.2.1,d.2.2) _≠0;rw[this];have e3:d.2.2*((s:Nat)+1:Int)=d.2.2*(s:Nat)+d.2.2:=by rw[Int.mul_add,Int.mul_one]
  omega
 rw[Hi (Int.mul_pos (by decide) (by omega))];simp only;have ex:o.1*(NN*(A+B))+d.1*((s:Nat)*(A+B)+A) - (X+4*(i:Nat))*(NN*(A+B))=B*(PX (s:Nat) - 4*(i:Nat)*NN)+A*(PX ((s:Nat)+1) - 4*(i:Nat)*NN):=by rw[Cw];simp only[PX];grind
 have ey:o.2.1*(NN*(A+B))+d.2.1*((s:Nat)*(A+B)+A) - (Y+4*(j:Nat))*(NN*(A+B))=B*(PY (s:Nat) - 4*(j:Nat)*NN)+A*(PY ((s:Nat)+1) - 4*(j:Nat)*NN):=by rw[Cw];simp only[PY];grind
 rw[ex,ey];refine⟨zrP a0 (by omega) g g',?_⟩;rw[ZM];have e1:gh (c i j) h NN (PX (s:Nat) - 4*(i:Nat)*NN) (PY (s:Nat) - 4*(j:Nat)*NN) (gW z i j)=4*(o.2.2*NN+d.2.2*(s:Nat)) - A:=by omega
 have e2:gh (c i j) h NN (PX ((s:Nat)+1) - 4*(i:Nat)*NN) (PY ((s:Nat)+1) - 4*(j:Nat)*NN) (gW z i j)=4*(o.2.2*NN+d.2.2*((s:Nat)+1))+B:=by omega
 rw[e1,e2];clear e1 e2 ex ey hA hB u v g g' nu u0 g0 step sn;grind
end MX.P
end
end
section
namespace MX.P
open PySem L2 MX
theorem QW(c h:Bool)(q U V:Int):gw c h q (U*q) (V*q)=((gw c h 1 U V).1*q,(gw c h 1 U V).2.1*q,(gw c h 1 U V).2.2*q):=by cases c<;>cases h<;>refine Prod.ext ?_ (Prod.ext ?_ ?_)<;>simp only[gw]<;>grind
theorem ZX{c h:Bool}{q U V:Int}(hq:0<q):cH c h q (U*q) (V*q)↔cH c h 1 U V:=by
 have key:∀x:Int,0<=x*q↔0<=x:=λx=>by
  constructor
  .intro h;apply Int.not_lt.mp;intro hx;have:=Int.mul_neg_of_neg_of_pos hx hq;omega
  .intro h;exact Int.mul_nonneg h (by omega)
 unfold cH;rw[QW];simp only[key]
def ZR(c h:Bool)(q U V:Int)(s:Sq):gh c h q (U*q) (V*q) s=gh c h 1 U V s*q:=by unfold gh;rw[QW];simp only[Int.add_mul,Int.mul_assoc,Int.mul_comm q]
theorem JC{x y T f px py:Int}{t:Int×Int}(hq:0<t.2)(c h:Bool)(s:Sq):
 jN (0,0,0 - f) (wb (px,py,T) (gc c h x y s).1) (wb (px,py,T) (gc c h x y s).2.1) (wb (px,py,T) (gc c h x y s).2.2) t↔cH c h 1 (px - x) (py - y)/\(4*T - gh c h 1 (px - x) (py - y) s)*t.2=t.1*(4*f):=by
 rw[Hi hq];simp only[Int.zero_mul,Int.add_zero];rw[<-Int.sub_mul,<-Int.sub_mul,ZX hq,ZR];refine and_congr Iff.rfl ?_;generalize gh c h 1 (px - x) (py - y) s=g;have e:(0 - f)*t.1 = -(t.1*f):=by rw[Int.zero_sub,Int.neg_mul,Int.mul_comm]
 have e2:t.1*(4*f)=4*(t.1*f):=Int.mul_left_comm ..;have e3:(4*T - g)*t.2=4*(T*t.2) - g*t.2:=by rw[Int.sub_mul,Int.mul_assoc]
 rw[e,e2,e3];omega
instance (c h:Bool) (q U V:Int):Decidable (cH c h q U V):=by unfold cH;infer_instance
theorem zoc{x y T f px py:Int}(hf:0<f)(c h:Bool)(s:Sq)(hg:cH c h 1 (px - x) (py - y)->gh c h 1 (px - x) (py - y) s<=4*T):
 kj (px,py,T) (0,0,0 - f) (gc c h x y s).1 (gc c h x y s).2.1 (gc c h x y s).2.2=if cH c h 1 (px - x) (py - y) then some (cV (4*T - gh c h 1 (px - x) (py - y) s) (4*f)) else none:=by
 have h0:((0,0,0 - f):Pt)≠(0,0,0):=λe=>by have:=congrArg (λp:Pt=>p.2.2) e;simp only at this;omega
 have X1:=U8 (o:=(px,py,T)) (a:=(gc c h x y s).1) (b:=(gc c h x y s).2.1) (c:=(gc c h x y s).2.2) h0 (by rw[Ug c h 1 0 0];simp only[Int.add_zero];omega);by_cases g:cH c h 1 (px - x) (py - y)
 .rw[if_pos g];have X2:oH (some (4*T - gh c h 1 (px - x) (py - y) s,4*f)) (jN (0,0,0 - f) (wb (px,py,T) (gc c h x y s).1) (wb (px,py,T) (gc c h x y s).2.1) (wb (px,py,T) (gc c h x y s).2.2)):=by have:=hg g;refine⟨by show 0<=_;omega,by show 0<_;omega,(JC (by show 0<_;omega) c h s).mpr ⟨g,rfl⟩,λt _ t2 ht=>?_⟩;exact Int.le_of_eq ((JC t2 c h s).mp ht).2
  exact oH.uniq (n:=mQ (some (4*T - gh c h 1 (px - x) (py - y) s,4*f))) X1 (oH.red (JR _ _ _ _) X2) (Jz _ _ _ _ _) (Aj _)
 .rw[if_neg g];refine oH.uniq (n:=none) X1 (λt _ t2 ht=>g ((JC t2 c h s).mp ht).1) (Jz _ _ _ _ _) (λ_ h=>by cases h)
theorem Ve{τ:Int×Int}{b:cX}(hb:b.1=τ):∀l:List cX,(∀x∈l,x.1=τ/\b.2<x.2)->l.foldl fO (some b)=some b
 |[],_=>rfl
 |x::l,h=>by
  rw[List.foldl_cons];have hx:=h x (eZ ..);have e:fO (some b) x=some b:=by
   have:lB x b=false:=by
    rw[<-Bool.not_eq_true,q9,hx.1,hb]
    rintro(c|c)
    .unfold fj at c;omega
    .omega
   simp only[fO,this];rfl
  rw[e];exact Ve hb l λy hy=>h y (cU _ hy)
theorem zmR{τ:Int×Int}{l:List cX}(h:∀x∈l,x.1=τ):oM τ l l.length=l.length:=by
 cases e:l.length with
 |zero=>rfl
 |succ k =>
  unfold oM;rw[if_neg];have hk:k<l.length:=by omega
  rw[List.getD_eq_getElem?_getD,fJ hk,Option.getD_some,h _ (List.getElem_mem hk)];unfold fj;omega
theorem T8{o d:Pt}{shs:List Sh}{τ:Int×Int}(h:∀i x,dg o d shs i=some x->x.1=τ):∀j,lM o d shs j=(List.range j).filterMap (dg o d shs)
 |0=>rfl
 |j+1=>by
  have ih:=T8 h j;rw[List.range_succ,List.filterMap_append];unfold lM;cases e:dg o d shs j with
  |none=>simp only[e,List.filterMap_cons,List.filterMap_nil,List.append_nil];exact ih
  |some x =>
   simp only[e,List.filterMap_cons,List.filterMap_nil];unfold nj;rw[ih,h j x e,zmR (τ:=τ),mF,List.drop_length];intro y hy;obtain⟨i,_,ei⟩:=List.mem_filterMap.mp hy;exact h i y ei
structure Gd where
 W:Nat
 H:Nat
 z:Nat->Nat->Int
 c:Nat->Nat->Bool
 X:Int
 Y:Int
namespace Gd
variable (g:Gd)
structure Ok:Prop where
 w1:1<=g.W
 w3:g.W<=3
 h1:1<=g.H
 h3:g.H<=3
 hz:∀i j,-20<=g.z i j/\g.z i j<=20
abbrev ci(k:Nat):Nat:=k / 2 % g.W
abbrev cj(k:Nat):Nat:=k / 2 / g.W
abbrev _root_.MX.P.hlf(k:Nat):Bool:=decide (k % 2=1)
noncomputable def tri(k:Nat):Pt×Pt×Pt:=gc (g.c (g.ci k) (g.cj k)) (hlf k) (g.X+4*(g.ci k:Nat)) (g.Y+4*(g.cj k:Nat)) (gW g.z (g.ci k) (g.cj k))
noncomputable def sh(k:Nat):Sh := .tri (g.tri k).1 (g.tri k).2.1 (g.tri k).2.2
def on(px py:Int)(k:Nat):Prop:=cH (g.c (g.ci k) (g.cj k)) (hlf k) 1 (px - 4*(g.ci k:Nat)) (py - 4*(g.cj k:Nat))
noncomputable def ht(px py:Int)(k:Nat):Int:=gh (g.c (g.ci k) (g.cj k)) (hlf k) 1 (px - 4*(g.ci k:Nat)) (py - 4*(g.cj k:Nat)) (gW g.z (g.ci k) (g.cj k))
instance (px py:Int) (k:Nat):Decidable (g.on px py k):=by unfold on;infer_instance
abbrev n:Nat:=2*(g.W*g.H)
abbrev shs:List Sh:=(List.range g.n).map g.sh
variable {g}
theorem ht_same{px py:Int}{k l:Nat}(h1:g.on px py k)(h2:g.on px py l):g.ht px py k=g.ht px py l:=by have:=agree (z:=g.z) (c:=g.c) (q:=1) (P:=px) (R:=py) (by decide) (i:=g.ci k) (j:=g.cj k) (k:=g.ci l) (l:=g.cj l) (h:=hlf k) (h':=hlf l);simp only[uE,uF,Int.mul_one] at this;exact this h1 h2
def ht_bd(ok:g.Ok){px py:Int}{k:Nat}(h:g.on px py k): -80<=g.ht px py k/\g.ht px py k<=80:=Ez ok.hz h
theorem some_on(ok:g.Ok){px py:Int}(x0:0<=px)(x1:px<=4*(g.W:Nat))(y0:0<=py)(y1:py<=4*(g.H:Nat)):∃k,k<g.n/\g.on px py k:=by
 have key:∀(p:Int) (W:Nat),1<=W->W<=3->0<=p->p<=4*(W:Nat)->∃i,i<W/\0<=p - 4*(i:Nat)/\p - 4*(i:Nat)<=4:=by
  intro p W w1 w3 p0 p1;rcases(show p<=4\/(4<=p/\p<=8)\/8<p by omega) with h|h|h
  .exact⟨0,by omega,by omega,by omega⟩
  .rcases(show W=1\/1<W by omega) with rfl|hw
   .exact⟨0,by omega,by omega,by omega⟩
   .exact⟨1,by omega,by omega,by omega⟩
  .exact⟨2,by omega,by omega,by omega⟩
 obtain⟨i,hi,i1,i2⟩:=key px g.W ok.w1 ok.w3 x0 x1;obtain⟨j,hj,j1,j2⟩:=key py g.H ok.h1 ok.h3 y0 y1;have hh:∃b:Bool,cH (g.c i j) b 1 (px - 4*(i:Nat)) (py - 4*(j:Nat)):=by
  cases g.c i j
  .rcases(show 0<=px - 4*(i:Nat) - (py - 4*(j:Nat))\/px - 4*(i:Nat) - (py - 4*(j:Nat))<=0 by omega) with h|h
   .exact⟨false,by simp only[cH,gw];omega⟩
   .exact⟨true,by simp only[cH,gw];omega⟩
  .rcases(show 0<=px - 4*(i:Nat)+(py - 4*(j:Nat)) - 4\/px - 4*(i:Nat)+(py - 4*(j:Nat)) - 4<=0 by omega) with h|h
   .exact⟨true,by simp only[cH,gw];omega⟩
   .exact⟨false,by simp only[cH,gw];omega⟩
 obtain⟨b,hb⟩:=hh;have hlt:i+g.W*j<g.W*g.H:=by have:=Nat.mul_le_mul_left g.W (show j+1<=g.H by omega);rw[Nat.mul_add,Nat.mul_one] at this;omega
 have e1:(2*(i+g.W*j)+b.toNat) / 2=i+g.W*j:=by cases b<;>simp<;>omega
 refine⟨2*(i+g.W*j)+b.toNat,by have:b.toNat<=1:=Bool.toNat_le b;show _<2*(g.W*g.H);omega,?_⟩;have e2:g.ci (2*(i+g.W*j)+b.toNat)=i:=by unfold ci;rw[e1,Nat.add_mul_mod_self_left,Nat.mod_eq_of_lt hi]
 have e3:g.cj (2*(i+g.W*j)+b.toNat)=j:=by unfold cj;rw[e1,Nat.add_mul_div_left _ _ (by omega),Nat.div_eq_of_lt hi,Nat.zero_add]
 have e4:hlf (2*(i+g.W*j)+b.toNat)=b:=by cases b<;>simp[hlf]<;>omega
 unfold on;rw[e2,e3,e4];exact hb
theorem Uw(ok:g.Ok){px py T f:Int}(hT:21<=T)(hf:0<f)(k:Nat):dg (g.X+px,g.Y+py,T) (0,0,0 - f) g.shs k=if k<g.n/\g.on px py k then some (cV (4*T - g.ht px py k) (4*f),k) else none:=by
 unfold dg;by_cases hk:k<g.n
 .have e:g.shs[k]?=some (g.sh k):=by rw[fW,List.getElem?_range hk];rfl
  rw[e,cu];have ex:g.X+px - (g.X+4*(g.ci k:Nat))=px - 4*(g.ci k:Nat):=by omega
  have ey:g.Y+py - (g.Y+4*(g.cj k:Nat))=py - 4*(g.cj k:Nat):=by omega
  have v:=zoc (x:=g.X+4*(g.ci k:Nat)) (y:=g.Y+4*(g.cj k:Nat)) (T:=T) (px:=g.X+px) (py:=g.Y+py) hf (g.c (g.ci k) (g.cj k)) (hlf k) (gW g.z (g.ci k) (g.cj k)) (λh=>by
   rw[ex,ey] at h ⊢;have:=(ht_bd ok (k:=k) h).2;unfold ht at this;omega)
  rw[ex,ey] at v;have tm:jh (g.X+px,g.Y+py,T) (0,0,0 - f) (g.sh k)=if g.on px py k then some (cV (4*T - g.ht px py k) (4*f)) else none:=v
  rw[tm];by_cases h:g.on px py k
  .rw[if_pos h,if_pos ⟨hk,h⟩];rfl
  .rw[if_neg h,if_neg (λq=>h q.2)];rfl
 .rw[j9 (by rw[cY,List.length_range];omega),if_neg (λq=>hk q.1)];rfl
abbrev nums(g:Gd)(px py:Int)(n:Nat):List Nat:=(List.range n).filter λk=>decide (g.on px py k)
theorem Uv(ok:g.Ok){px py T f h:Int}(hT:21<=T)(hf:0<f)(hh:∀k,g.on px py k->g.ht px py k=h):lu (g.X+px,g.Y+py,T) (0,0,0 - f) g.shs=(g.nums px py g.n).map λk=>(cV (4*T - h) (4*f),k):=by
 unfold lu;rw[cY,List.length_range];have:∀l:List Nat,(∀k∈l,k<g.n)->l.filterMap (dg (g.X+px,g.Y+py,T) (0,0,0 - f) g.shs)=(l.filter λk=>decide (g.on px py k)).map λk=>(cV (4*T - h) (4*f),k):=by
  intro l
  induction l with
  |nil=>intro _;rfl
  |cons k l ih =>
   intro hl;rw[List.filterMap_cons,List.filter_cons,Uw ok hT hf k];have hk:=hl k (eZ ..);have ih':=ih λi hi=>hl i (cU _ hi);by_cases c:g.on px py k
   .rw[if_pos ⟨hk,c⟩,if_pos (decide_eq_true c)];simp only;rw[ih',iJ,hh k c]
   .rw[if_neg (λq=>c q.2),if_neg (by simp[c])];exact ih'
 exact this _ λk hk=>List.mem_range.mp hk
theorem vert_every(ok:g.Ok){px py T f h:Int}(hT:21<=T)(hf:0<f)(hh:∀k,g.on px py k->g.ht px py k=h):lM (g.X+px,g.Y+py,T) (0,0,0 - f) g.shs g.shs.length=(g.nums px py g.n).map λk=>(cV (4*T - h) (4*f),k):=by
 rw[T8 (τ:=cV (4*T - h) (4*f)),<-Uv ok hT hf hh]
 .rfl
 .intro i x e;rw[Uw ok hT hf i] at e;split at e
  .rename_i q;cases e;rw[hh i q.2]
  .cases e
theorem vert_first(ok:g.Ok){px py T f h:Int}(hT:21<=T)(hf:0<f)(hh:∀k,g.on px py k->g.ht px py k=h){m:Nat}{l:List Nat}(e:g.nums px py g.n=m::l):tG (g.X+px,g.Y+py,T) (0,0,0 - f) g.shs=some (cV (4*T - h) (4*f),m):=by unfold tG;rw[Uv ok hT hf hh,e,iJ,List.foldl_cons];show(List.map _ l).foldl fO (some _)=_;refine Ve rfl _ λx hx=>?_;obtain⟨k,hk,rfl⟩:=List.mem_map.mp hx;refine⟨rfl,?_⟩;have pw:(g.nums px py g.n).Pairwise (·<·):=List.Pairwise.filter _ List.pairwise_lt_range;rw[e] at pw;exact(List.pairwise_cons.mp pw).1 k hk
theorem slant(ok:g.Ok){o d:Pt}(as:Eb g.W g.H g.X g.Y o d):∃(t:Int×Int) (k:Nat),tG o d g.shs=some (t,k)/\k<g.n/\0<t.1/\t.1<t.2/\jN d (wb o (g.tri k).1) (wb o (g.tri k).2.1) (wb o (g.tri k).2.2) t:=by
 obtain⟨_,_,_,_,_,_,_,_,z0,z1⟩:=id as;have h0:d≠(0,0,0):=λe=>by rw[e] at z1;simp only at z1;omega
 cases e:tG o d g.shs with
 |none =>
  exfalso;obtain⟨i,j,h,t,hi,hj,t0,t1,ht⟩:=zkb ok.w1 ok.w3 ok.h1 ok.h3 ok.hz g.c as;have hlt:i+g.W*j<g.W*g.H:=by have:=Nat.mul_le_mul_left g.W (show j+1<=g.H by omega);rw[Nat.mul_add,Nat.mul_one] at this;omega
  have e1:(2*(i+g.W*j)+h.toNat) / 2=i+g.W*j:=by cases h<;>simp<;>omega
  have e2:g.ci (2*(i+g.W*j)+h.toNat)=i:=by unfold ci;rw[e1,Nat.add_mul_mod_self_left,Nat.mod_eq_of_lt hi]
  have e3:g.cj (2*(i+g.W*j)+h.toNat)=j:=by unfold cj;rw[e1,Nat.add_mul_div_left _ _ (by omega),Nat.div_eq_of_lt hi,Nat.zero_add]
  have e4:hlf (2*(i+g.W*j)+h.toNat)=h:=by cases h<;>simp[hlf]<;>omega
  have hk:2*(i+g.W*j)+h.toNat<g.n:=by have:h.toNat<=1:=Bool.toNat_le h;show _<2*(g.W*g.H);omega
  have et:g.tri (2*(i+g.W*j)+h.toNat)=gc (g.c i j) h (g.X+4*(i:Nat)) (g.Y+4*(j:Nat)) (gW g.z i j):=by unfold tri;rw[e2,e3,e4]
  rw[<-et] at ht;have nn:=zke h0 e (g.sh (2*(i+g.W*j)+h.toNat)) (List.mem_map.mpr ⟨_,List.mem_range.mpr hk,rfl⟩);have F:=U8 (o:=o) (a:=(g.tri (2*(i+g.W*j)+h.toNat)).1) (b:=(g.tri (2*(i+g.W*j)+h.toNat)).2.1) (c:=(g.tri (2*(i+g.W*j)+h.toNat)).2.2) h0 ht.1;have nn':kj o d (g.tri (2*(i+g.W*j)+h.toNat)).1 (g.tri (2*(i+g.W*j)+h.toNat)).2.1 (g.tri (2*(i+g.W*j)+h.toNat)).2.2=none:=nn;rw[nn'] at F;exact F t t0 t1 ht.2
 |some h =>
  obtain⟨t,k⟩:=h;obtain⟨s,hs,tm⟩:=(Wj h0 e).1;have hk:k<g.n:=by have:=(fC.mp hs).1;rw[cY,List.length_range] at this;exact this
  have es:s=g.sh k:=by rw[fW,List.getElem?_range hk] at hs;exact(Option.some.inj hs).symm
  subst es;obtain⟨t0,t1,ht⟩:=JB h0 t (show kj o d (g.tri k).1 (g.tri k).2.1 (g.tri k).2.2=some t from tm);refine⟨t,k,rfl,hk,?_,?_,ht⟩
  all_goals
   have q:=(Hi t1 _ _ _ _ _).mp ht;have b:=Ez (i:=g.ci k) (j:=g.cj k) ok.hz q.1;rw[q.2] at b
  .rcases(show t.1=0\/0<t.1 by omega) with h|h
   .exfalso;rw[h,Int.mul_zero,Int.add_zero] at b;have:=Int.mul_le_mul_of_nonneg_right z0 (show 0<=t.2 by omega);omega
   .exact h
  .apply Int.not_le.mp;intro h;have a1:=Int.mul_le_mul_of_nonneg_right z1 (show 0<=t.2 by omega);rw[Int.add_mul] at a1;have a2:=Int.mul_le_mul_of_nonpos_left (show d.2.2<=0 by omega) h;omega
end Gd
end MX.P
end
section
local macro_rules|`(tactic|wtm_at $s)=>uC s "d&"
namespace MX.P
open PySem PySem.Spec L2 MX
theorem Dm(c h:Bool)(x y:Int)(s:Sq):(aL (wb (gc c h x y s).1 (gc c h x y s).2.1) (wb (gc c h x y s).1 (gc c h x y s).2.2)).2.2=16:=by cases c<;>cases h<;>simp only[gc,wb,aL]<;>grind
def wX{w1 w2 w3 a b c q P:Int}(x:Int)(hs:w1+w2+w3=4*q)(e:w1*(a - x)+w2*(b - x)+w3*(c - x)=4*(P - x*q)):w2*(b - a)+w3*(c - a)=4*(P - a*q):=by grind
theorem O9{R L g:Pt}{q w1 w2 w3:Int}(hs:w1+w2+w3=4*q)(h1:0<=w1)(h2:0<=w2)(h3:0<=w3)(e1:w2*R.1+w3*L.1=4*g.1)(e2:w2*R.2.1+w3*L.2.1=4*g.2.1)(e3:w2*R.2.2+w3*L.2.2=4*g.2.2)(hW:R.1*L.2.1 - R.2.1*L.1=16):
 Cq R L g q 16 (g.1*L.2.1 - g.2.1*L.1) (R.1*g.2.1 - R.2.1*g.1):=by
 have x:g.1*L.2.1 - g.2.1*L.1=4*w2:=by clear e3 hs h1 h2 h3;grind
 have y:R.1*g.2.1 - R.2.1*g.1=4*w3:=by clear e3 hs h1 h2 h3;grind
 unfold Cq;rw[x,y];refine⟨by omega,by omega,by omega,?_,?_,?_⟩<;>simp only[Int.mul_assoc]<;>omega
theorem Pz{o d:Pt}{t:Int×Int}(hq:0<t.2){c h:Bool}{x y:Int}{s:Sq}(hin:jN d (wb o (gc c h x y s).1) (wb o (gc c h x y s).2.1) (wb o (gc c h x y s).2.2) t):
 Cq (wb (gc c h x y s).1 (gc c h x y s).2.1) (wb (gc c h x y s).1 (gc c h x y s).2.2) (jQ (oG o d t) (gc c h x y s).1 t.2) t.2 16 (aL (jQ (oG o d t) (gc c h x y s).1 t.2) (wb (gc c h x y s).1 (gc c h x y s).2.2)).2.2 (aL (wb (gc c h x y s).1 (gc c h x y s).2.1) (jQ (oG o d t) (gc c h x y s).1 t.2)).2.2:=by
 obtain⟨⟨h1,h2,h3⟩,e⟩:=(Hi hq c h x y s).mp hin;have hs:=Ji c h t.2 (o.1*t.2+d.1*t.1 - x*t.2) (o.2.1*t.2+d.2.1*t.1 - y*t.2);obtain⟨x1,x2⟩:=QX c h x y t.2 (o.1*t.2+d.1*t.1 - x*t.2) (o.2.1*t.2+d.2.1*t.1 - y*t.2) s;obtain⟨g1,g2,g3⟩:=Dl c h x y s;unfold gh at e;rw[<-g1,<-g2,<-g3] at e;exact O9 hs h1 h2 h3 (wX x hs x1) (wX y hs x2) (wX 0 hs (by simp only[Int.sub_zero,Int.zero_mul];exact e)) (Dm c h x y s)
noncomputable def gj(ns:List Int)(i j:Nat):Int:=(sY (iI ns (4*(j:Nat)+(i:Nat))) (4*(j:Nat)+(i:Nat))).fmod 41 - 20
noncomputable def pY(ns:List Int)(i j:Nat):Int:=(sY (iI ns (20+3*(j:Nat)+(i:Nat))) (3*(j:Nat)+(i:Nat))).fmod 2
noncomputable def aW(ns:List Int)(W H:Nat):Gd:=⟨W,H,gj ns,λi j=>decide (pY ns i j=1),(iI ns 0).fmod 1000000007,0 - (iI ns 0).fmod 998244353⟩
def fm{a b:Int}(hb:0<b):0<=a.fmod b/\a.fmod b<b:=⟨Int.fmod_nonneg_of_pos a hb,Int.fmod_lt_of_pos a hb⟩
theorem Jh(ns:List Int)(i j:Nat): -20<=gj ns i j/\gj ns i j<=20:=by unfold gj;have:=fm (a:=sY (iI ns (4*(j:Nat)+(i:Nat))) (4*(j:Nat)+(i:Nat))) (b:=41) (by decide);omega
theorem SQ(ns:List Int)(i j:Nat):pY ns i j=0\/pY ns i j=1:=by unfold pY;have:=fm (a:=sY (iI ns (20+3*(j:Nat)+(i:Nat))) (3*(j:Nat)+(i:Nat))) (b:=2) (by decide);omega
abbrev uU(ns:List Int)(W j:Nat):List D:=(List.range (W+1)).map λi => .int (gj ns i j)
def HG(S:So)(n:Nat)(ns:List Int)(W H:Nat):Prop:=∃rs:List Nat,S[n]?=some (.lst (rs.map .ref))/\∀j,j<=H->∃r,rs[j]?=some r/\S[r]?=some (.lst (uU ns W j))
theorem HG.app{S:So}{n:Nat}{ns:List Int}{W H:Nat}(h:HG S n ns W H)(G:So):HG (S++G) n ns W H:=by
 have g:∀{n:Nat} {o:O},S[n]?=some o->(S++G)[n]?=some o:=λ{n o} e=>by rw[lR (fC.mp e).1];exact e
 obtain⟨rs,h1,h2⟩:=h;exact⟨rs,g h1,λj hj=>by obtain⟨r,a,b⟩:=h2 j hj;exact⟨r,a,g b⟩⟩
def zoS{ns:List Int}{W j i:Nat}(hi:i<=W):gq (uU ns W j) (i:Nat)=some (.int (gj ns i j)):=yG (by rw[fW,List.getElem?_range (by omega)];rfl)
theorem HG.at{S:So}{n:Nat}{ns:List Int}{W H i j:Nat}(h:HG S n ns W H)(hi:i<=W)(hj:j<=H){fa fb fc:EF}{Z:Sg}(e1:fa Z S=some (.ref n,S))(e2:fb Z S=some (.int (j:Nat),S))(e3:fc Z S=some (.int (i:Nat),S)):eB aG (eB aG fa fb) fc Z S=some (.int (gj ns i j),S):=by obtain⟨rs,h1,h2⟩:=h;obtain⟨r,a,b⟩:=h2 j hj;refine aF (aF e1 e2 (nT h1 (z := .ref r) (yG ?_))) e3 (nT b (zoS hi));rw[fW,a];rfl
abbrev tY(s:Sq):D := .tup [.int s.1,.int s.2.1,.int s.2.2.1,.int s.2.2.2]
theorem U6{S:So}{n:Nat}{ns:List Int}{W H i j:Nat}(h:HG S n ns W H)(hi:i<W)(hj:j<H):Gz [.ref n,.int (i:Nat),.int (j:Nat)] S=some (tY (gW (gj ns) i j),S):=by
 apply cG (S':=S) (Z':=[some (.ref n),some (.int (i:Nat)),some (.int (j:Nat))])
 .show Lq [some (.ref n),some (.int (i:Nat)),some (.int (j:Nat))] S=_;unfold Lq;have e1:∀{k:Nat},eB (aB .Add) (aj k) (kq 1) [some (.ref n),some (.int (i:Nat)),some (.int (j:Nat))] S=eB (aB .Add) (aj k) (kq 1) [some (.ref n),some (.int (i:Nat)),some (.int (j:Nat))] S:=λ{k}=>rfl;have a1:eB (aB .Add) (aj 1) (kq 1) [some (.ref n),some (.int (i:Nat)),some (.int (j:Nat))] S=some (.int ((i+1:Nat):Int),S):=aF (aq rfl) aN eE;have a2:eB (aB .Add) (aj 2) (kq 1) [some (.ref n),some (.int (i:Nat)),some (.int (j:Nat))] S=some (.int ((j+1:Nat):Int),S):=aF (aq rfl) aN eE;refine aM (fQ (bB (aJ (h.at (i:=i) (j:=j) (by omega) (by omega) (aq rfl) (aq rfl) (aq rfl)) (aJ (h.at (i:=i+1) (j:=j) (by omega) (by omega) (aq rfl) (aq rfl) a1) (aJ (h.at (i:=i+1) (j:=j+1) (by omega) (by omega) (aq rfl) a2 a1) (aJ (h.at (i:=i) (j:=j+1) (by omega) (by omega) (aq rfl) a2 (aq rfl)) aZ)))) (gH (by show 4<=sizeLine;decide)))) dY
 .exact mF
 .rfl
theorem Rv{ns:List Int}(hn:ns.length<=63){S:So}(F:jY ns S)(i j:Nat):Gw [.ref 0,.int (i:Nat),.int (j:Nat)] S=some (.int (pY ns i j),S):=by
 apply cG (S':=S) (Z':=[some (.ref 0),some (.int (i:Nat)),some (.int (j:Nat))])
 .show Lg [some (.ref 0),some (.int (i:Nat)),some (.int (j:Nat))] S=_;unfold Lg;refine aM (fQ (aF (bB (aJ (bB (aJ (aq rfl) (aJ (aF (aF aN (aF aN (aq rfl) (fL (ql (by decide)))) eE) (aq rfl) eE) aZ)) (dj rfl (yF hn _ F))) (aJ (aF (aF aN (aq rfl) (fL (ql (by decide)))) (aq rfl) eE) aZ)) (dj rfl (sp_drawn _ _ _))) aN (qj (by decide)))) dY
 .exact mF
 .rfl
noncomputable def stL(c:Bool)(u v:Int):List Int:=([false,true].filter λh=>decide (cH c h 1 u v)).map λh=>if h then 1 else 0
theorem RQ{S:So}{n:Nat}{xs:List D}{b:Bool}(h:S[n]?=some (.lst xs))(hl:xs.length<=1):aB .Mult (.ref n) (.int (if b then 1 else 0)) S=some (.ref S.length,S++[.lst (if b then xs else[])]):=by
 unfold aB pC;simp only[h];cases b
 .rw[if_pos ⟨by decide,by decide,hl⟩];rfl
 .rw[if_pos ⟨by decide,by decide,hl⟩];rfl
def Sw{b:Bool}{S:So}:uP [.bl b] S=some (.int (if b then 1 else 0),S):=rfl
theorem zqL{c:Bool}{u v:Int}(hu:0<=u/\u<=4)(hv:0<=v/\v<=4):(stL c u v).map D.int=(if decide (0<=(if c then 4 - u - v else u - v)) then[D.int 0] else[])++(if decide ((if c then 4 - u - v else u - v)<=0) then[D.int 1] else[]):=by
 cases c
 .have e1:decide (cH false false 1 u v)=decide (0<=u - v):=decide_eq_decide.mpr (by simp only[cH,gw];omega);have e2:decide (cH false true 1 u v)=decide (u - v<=0):=decide_eq_decide.mpr (by simp only[cH,gw];omega);simp only[stL,List.filter,e1,e2,Bool.false_eq_true,if_false];cases decide (0<=u - v)<;>cases decide (u - v<=0)<;>rfl
 .have e1:decide (cH true false 1 u v)=decide (0<=4 - u - v):=decide_eq_decide.mpr (by simp only[cH,gw];omega);have e2:decide (cH true true 1 u v)=decide (4 - u - v<=0):=decide_eq_decide.mpr (by simp only[cH,gw];omega);simp only[stL,List.filter,e1,e2,if_true];cases decide (0<=4 - u - v)<;>cases decide (4 - u - v<=0)<;>rfl
theorem zoq{c:Bool}{u v:Int}(h:¬((0<=u/\u<=4)/\0<=v/\v<=4)):stL c u v=[]:=by
 have e:∀b,decide (cH c b 1 u v)=false:=λb=>decide_eq_false λg=>by have:=Jq g;omega
 simp only[stL,List.filter,e,List.map_nil]
theorem zkF{ci u v:Int}(hc:ci=0\/ci=1){S:So}(hS:WF S):∃n G,Ly [.int ci,.int u,.int v] S=some (.ref n,S++G)/\WF (S++G)/\S.length<=n/\(S++G)[n]?=some (.lst ((stL (decide (ci=1)) u v).map .int)):=by
 by_cases hr:(0<=u/\u<=4)/\0<=v/\v<=4
 .obtain⟨hu,hv⟩:=hr;obtain⟨sd,hsd,hat⟩:∃sd:Int,sd=(if decide (ci=1) then 4 - u - v else u - v)/\gq [D.int (u - v),D.int (4 - u - v)] ci=some (.int sd):=by
   rcases hc with rfl|rfl
   .exact⟨_,rfl,rfl⟩
   .exact⟨_,rfl,rfl⟩
  have W1:=hS.snoc (o := .lst [D.int (u - v),D.int (4 - u - v)]) rfl;have W2:=W1.snoc (o := .lst [D.int 0]) rfl;have W3:=W2.snoc (o := .lst (if decide (0<=sd) then[D.int 0] else[])) (by cases decide (0<=sd)<;>rfl);have W4:=W3.snoc (o := .lst [D.int 1]) rfl;have W5:=W4.snoc (o := .lst (if decide (sd<=0) then[D.int 1] else[])) (by cases decide (sd<=0)<;>rfl);have W6:=W5.snoc (o := .lst ((stL (decide (ci=1)) u v).map .int)) (yx _ _);generalize Dk:S++[O.lst [D.int (u - v),D.int (4 - u - v)]]++[O.lst [D.int 0]]++[O.lst (if decide (0<=sd) then[D.int 0] else[])]++[O.lst [D.int 1]]++[O.lst (if decide (sd<=0) then[D.int 1] else[])]=S5 at W6;have eG:∃G,S5++[O.lst ((stL (decide (ci=1)) u v).map .int)]=S++G:=by rw[<-Dk];simp only[dI];exact⟨_,rfl⟩
  have l5:S.length<=S5.length:=by rw[<-Dk];simp only[iW];omega
  obtain⟨G,eG⟩:=eG;refine⟨S5.length,G,?_,by rw[<-eG];exact W6,l5,by rw[<-eG];exact b8⟩;rw[<-eG];refine nZ (Z':=[some (.int ci),some (.int u),some (.int v),some (.int sd)]) ?_ ?_ (by rw[iW];omega) (by simp[D.lo]) W6
  .show Bf [some (.int ci),some (.int u),some (.int v),none] S=_;unfold Bf;have t1:(gB (bK (eB (bA .Lt) (aj 1) (kq 0))) (gB (bK (eB (bA .Gt) (aj 1) (kq 4))) (gB (bK (eB (bA .Lt) (aj 2) (kq 0))) (bK (eB (bA .Gt) (aj 2) (kq 4)))))) [some (.int ci),some (.int u),some (.int v),none] S=some (false,S):=by refine jT (dM (aF (aq rfl) aN qi)) (fM (jt (by omega)) ?_);refine jT (dM (aF (aq rfl) aN tK)) (fM (jt (by omega)) ?_);refine jT (dM (aF (aq rfl) aN qi)) (fM (jt (by omega)) ?_);have:=dM (aF (Z:=[some (.int ci),some (.int u),some (.int v),none]) (fa:=aj 2) (fb:=eC (.int 4)) (aq rfl) aN (tK (S:=S) (i:=v) (j:=4)));rw[this,jt (by omega)]
   refine aM (gk t1 (fM rfl fD)) (aR ?_);refine aM (bN (aF (bB (aJ (aF (aq rfl) (aq rfl) nU) (aJ (aF (aF aN (aq rfl) nU) (aq rfl) nU) aZ)) (lH (by show 2<=sizeLine;decide))) (aq rfl) (nT b8 hat)) (bY rfl)) (aR ?_);refine aM (fQ ?_) dY;have r1:eB (aB .Mult) (eN gR (ak (kq 0) au)) (eN uP (ak (eB (bA .GtE) (aj 3) (kq 0)) au)) [some (.int ci),some (.int u),some (.int v),some (.int sd)] (S++[.lst [D.int (u - v),D.int (4 - u - v)]])=some (.ref (S++[O.lst [D.int (u - v),D.int (4 - u - v)]]++[O.lst [D.int 0]]).length,S++[.lst [D.int (u - v),D.int (4 - u - v)]]++[.lst [D.int 0]]++[.lst (if decide (0<=sd) then[D.int 0] else[])]) :=
    aF (bB (aJ aN aZ) (lH (by show 1<=sizeLine;decide))) (bB (aJ (aF (aq rfl) aN Ja) aZ) Sw) (RQ (b:=decide (0<=sd)) b8 (by decide))
   refine aF r1 (aF (bB (aJ aN aZ) (lH (by show 1<=sizeLine;decide))) (bB (aJ (aF (aq rfl) aN Jb) aZ) Sw) (RQ (b:=decide (sd<=0)) b8 (by decide))) ?_;have ad:=Fq (S:=S5) (n:=(S++[O.lst [D.int (u - v),D.int (4 - u - v)]]++[O.lst [D.int 0]]).length) (m:=(S++[O.lst [D.int (u - v),D.int (4 - u - v)]]++[O.lst [D.int 0]]++[O.lst (if decide (0<=sd) then[D.int 0] else[])]++[O.lst [D.int 1]]).length) (xs:=if decide (0<=sd) then[D.int 0] else[]) (ys:=if decide (sd<=0) then[D.int 1] else[]) (by rw[<-Dk];exact dZ (dZ b8)) (by rw[<-Dk];exact b8) (by cases decide (0<=sd)<;>cases decide (sd<=0)<;>decide);rw[Dk,ad,zqL hu hv,<-hsd]
  .intro h;have:=h.2;simp only[D.lo,oK] at this;omega
 .have W1:=hS.snoc (o := .lst []) rfl;refine⟨S.length,[.lst []],?_,W1,bH _,by rw[zoq hr];exact b8⟩;refine nZ (Z':=[some (.int ci),some (.int u),some (.int v),none]) ?_ (by intro h;simp[D.lo] at h) (by simp) (by simp[D.lo]) W1;show Bf [some (.int ci),some (.int u),some (.int v),none] S=_;unfold Bf;have t1:(gB (bK (eB (bA .Lt) (aj 1) (kq 0))) (gB (bK (eB (bA .Gt) (aj 1) (kq 4))) (gB (bK (eB (bA .Lt) (aj 2) (kq 0))) (bK (eB (bA .Gt) (aj 2) (kq 4)))))) [some (.int ci),some (.int u),some (.int v),none] S=some (true,S):=by
   by_cases h1:u<0
   .exact jT (dM (aF (aq rfl) aN qi)) (jb (m6 h1) rfl)
   refine jT (dM (aF (aq rfl) aN qi)) (fM (jt h1) ?_);by_cases h2:4<u
   .exact jT (dM (aF (aq rfl) aN tK)) (jb (m6 h2) rfl)
   refine jT (dM (aF (aq rfl) aN tK)) (fM (jt h2) ?_);by_cases h3:v<0
   .exact jT (dM (aF (aq rfl) aN qi)) (jb (m6 h3) rfl)
   refine jT (dM (aF (aq rfl) aN qi)) (fM (jt h3) ?_);have:=dM (aF (Z:=[some (.int ci),some (.int u),some (.int v),none]) (fa:=aj 2) (fb:=eC (.int 4)) (aq rfl) aN (tK (S:=S) (i:=v) (j:=4)));rw[this,m6 (by omega)]
  exact aM (gk t1 (jb rfl (aM (fQ (bB aZ (lH (Nat.zero_le _)))) dY))) dY
theorem zkJ{ci hi u v:Int}{s:Sq}(hc:ci=0\/ci=1)(hh:hi=0\/hi=1)(bu:Bd 8 u)(bv:Bd 8 v)(b1:Bd 8 s.1)(b2:Bd 8 s.2.1)(b3:Bd 8 s.2.2.1)(b4:Bd 8 s.2.2.2)(S:So):
 Lx [.int ci,.int hi,tY s,.tup [.int u,.int v]] S=some (.int (gh (decide (ci=1)) (decide (hi=1)) 1 u v s),S):=by
 obtain⟨a,b,c,d⟩:=s;have un:aX (aj 3) (iB 2 (cQ (aH 4) (cQ (aH 5) iR))) [some (.int ci),some (.int hi),some (tY (a,b,c,d)),some (.tup [.int u,.int v]),none,none,none,none,none,none] S=some (.nx,[some (.int ci),some (.int hi),some (tY (a,b,c,d)),some (.tup [.int u,.int v]),some (.int u),some (.int v),none,none,none,none],S):=rfl;have un2:aX (aj 2) (iB 4 (cQ (aH 6) (cQ (aH 7) (cQ (aH 8) (cQ (aH 9) iR))))) [some (.int ci),some (.int hi),some (tY (a,b,c,d)),some (.tup [.int u,.int v]),some (.int u),some (.int v),none,none,none,none] S=some (.nx,[some (.int ci),some (.int hi),some (tY (a,b,c,d)),some (.tup [.int u,.int v]),some (.int u),some (.int v),some (.int a),some (.int b),some (.int c),some (.int d)],S):=rfl;apply cG (S':=S) (Z':=[some (.int ci),some (.int hi),some (tY (a,b,c,d)),some (.tup [.int u,.int v]),some (.int u),some (.int v),some (.int a),some (.int b),some (.int c),some (.int d)])
 .show Lp [some (.int ci),some (.int hi),some (tY (a,b,c,d)),some (.tup [.int u,.int v]),none,none,none,none,none,none] S=_;unfold Lp;refine aM un (aR (aM un2 (aR ?_)));have b44:Bd 8 4:=(Bd.lit 4).le (by decide);simp only at b1 b2 b3 b4;rcases hc with rfl|rfl<;>rcases hh with rfl|rfl
  .rw[show gh (decide ((0:Int)=1)) (decide ((0:Int)=1)) 1 u v (a,b,c,d)=4*a+(b - a)*u+(c - b)*v by show(4*1 - u)*a+(u - v)*b+v*c=_;grind];wtm_at "a"
  .rw[show gh (decide ((0:Int)=1)) (decide ((1:Int)=1)) 1 u v (a,b,c,d)=4*a+(c - d)*u+(d - a)*v by show(4*1 - v)*a+u*c+(v - u)*d=_;grind];wtm_at "a"
  .rw[show gh (decide ((1:Int)=1)) (decide ((0:Int)=1)) 1 u v (a,b,c,d)=4*a+(b - a)*u+(d - a)*v by show(4*1 - u - v)*a+u*b+v*d=_;grind];wtm_at "a"
  .rw[show gh (decide ((1:Int)=1)) (decide ((1:Int)=1)) 1 u v (a,b,c,d)=4*c+(d - c)*(4 - u)+(b - c)*(4 - v) by show(4*1 - v)*b+(u+v - 4*1)*c+(4*1 - u)*d=_;grind];wtm_at "a"
 .exact mF
 .rfl
def zoC{S:So}{o o':O}:(S++[o]).set S.length o'=S++[o']:=by simp
theorem Ao{m i:Nat}{dd:D}(h:(dG 0 m)[i]?=some dd):i<m/\dd = .int (i:Nat):=by
 rw[Le] at h;split at h
 .rename_i hi;refine⟨hi,?_⟩;rw[<-Option.some.inj h];congr 1;omega
 .cases h
abbrev xZ(ns:List Int)(W j:Nat):So:=(List.range j).map λt=>O.lst (uU ns W t)
abbrev HN(a j:Nat):List Nat:=(List.range j).map (a+·)
abbrev vd(a j:Nat):List D:=(List.range j).map λt=>D.ref (a+t)
theorem zrj{ns:List Int}(hn:ns.length<=63){W H j:Nat}(hw:W<=3){S:So}(F:jY ns S){a:D}{b:Option D}:
 ∃b',M9 [some (.ref 0),some (.int (W:Nat)),some (.int (H:Nat)),some a,some (.int (j:Nat)),some (.ref S.length),b] (S++[.lst []])=some (.nx,[some (.ref 0),some (.int (W:Nat)),some (.int (H:Nat)),some a,some (.int (j:Nat)),some (.ref S.length),b'],S++[.lst (uU ns W j)]):=by
 have inv:=q8 (nx:=dH (.fix (dG 0 (W+1)))) (g:=aH 6) (f:=Nb) (xs:=dG 0 (W+1))
  (λi Z S'=>∃b',Z=[some (.ref 0),some (.int (W:Nat)),some (.int (H:Nat)),some a,some (.int (j:Nat)),some (.ref S.length),b']/\S'=S++[.lst ((List.range i).map λi => .int (gj ns i j))])
  (λi Z S' _=>rfl)
  (λi dd Z S' hi ⟨b',e1,e2⟩=>?_) (W+1) 0 [some (.ref 0),some (.int (W:Nat)),some (.int (H:Nat)),some a,some (.int (j:Nat)),some (.ref S.length),b] (S++[.lst []]) ⟨b,rfl,rfl⟩ (by simp[dG])
 .obtain⟨Z',S',e,b',rfl,Dj⟩:=inv;rw[show(dG 0 (W+1)).length=W+1 by simp[dG]] at Dj;rw[Dj] at e;refine⟨b',?_⟩;unfold M9;refine lG (n:=W+1) (vA (j:=((W:Nat)+1:Int)) (aJ (aF (aq rfl) aN eE) aZ) (by omega)) ?_ ?_
  .show some (dG 0 ((W:Nat)+1:Int).toNat).length=_;rw[show((W:Nat)+1:Int).toNat=W+1 by omega];simp[dG]
  .rw[show((W:Nat)+1:Int).toNat=W+1 by omega];exact e
 .subst e1 e2;obtain⟨hi',rfl⟩:=Ao hi;have F':jY ns (S++[O.lst ((List.range i).map λi=>D.int (gj ns i j))]):=F.app _;have ix:∀{k:Nat} {x:D},eB (aB .Add) (eB (aB .Mult) (kq 4) (aj 4)) (aj 6) [some (.ref 0),some (.int (W:Nat)),some (.int (H:Nat)),some a,some (.int (j:Nat)),some (.ref S.length),some (.int (i:Nat))] (S++[O.lst ((List.range i).map λi=>D.int (gj ns i j))])=some (.int (4*(j:Nat)+(i:Nat)),S++[O.lst ((List.range i).map λi=>D.int (gj ns i j))]):=λ{_ _}=>aF (aF aN (aq rfl) (fL (ql (by decide)))) (aq rfl) eE;refine⟨_,_,.nx,_,_,bY rfl,?_,.inl rfl,some (.int (i:Nat)),rfl,rfl⟩;unfold Nb Yo;refine aM (qZ (vo (n:=S.length) (xs:=(List.range i).map λi=>D.int (gj ns i j)) (aq rfl) b8 (aJ (aF (aF (bB (aJ (bB (aJ (aq rfl) (aJ (ix (k:=0) (x := .non)) aZ)) (dj rfl (yF hn _ F'))) (aJ (ix (k:=0) (x := .non)) aZ)) (dj rfl (sp_drawn _ _ _))) aN (qj (by decide))) aN nU) aZ) (Al b8 (by rw[cY,List.length_range,sizeLine_eq];omega) zoC))) (aR ?_);rw[List.range_succ,mG];exact fD
def zoR{ns:List Int}{W j n:Nat}:O.lo n (.lst (uU ns W j))=true:=ju.mpr λx hx=>by obtain⟨i,_,rfl⟩:=List.mem_map.mp hx;rfl
def Rt{S G:So}{o o':O}:(S++o::G).set S.length o'=S++o'::G:=by rw[List.set_append_right _ _ (bH _),Nat.sub_self];rfl
theorem zjK{ns:List Int}(hn:ns.length<=63){W H:Nat}(hw:W<=3)(hh:H<=3){S:So}(hS:WF S)(F:jY ns S):
 ∃G,Ms [.ref 0,.int (W:Nat),.int (H:Nat)] S=some (.ref S.length,S++G)/\WF (S++G)/\HG (S++G) S.length ns W H:=by
 have wf:∀j,WF (S ++ .lst (vd (S.length+1) j)::xZ ns W j):=λj p hp=>by
  rw[iW,jo,cY,List.length_range];rcases lq.mp hp with h|h
  .exact O.lo_mono (by omega) (hS p h)
  .rcases List.mem_cons.mp h with rfl|h
   .refine ju.mpr λx hx=>?_;obtain⟨t,ht,rfl⟩:=List.mem_map.mp hx;have:=List.mem_range.mp ht;simp only[D.lo,oK];omega
   .obtain⟨t,_,rfl⟩:=List.mem_map.mp h;exact zoR
 have inv:=q8 (nx:=dH (.fix (dG 0 (H+1)))) (g:=aH 4) (f:=Nm) (xs:=dG 0 (H+1))
  (λj Z S'=>∃b c d,Z=[some (.ref 0),some (.int (W:Nat)),some (.int (H:Nat)),some (.ref S.length),b,c,d]/\S'=S ++ .lst (vd (S.length+1) j)::xZ ns W j)
  (λi Z S' _=>rfl)
  (λj dd Z S' hj ⟨b,c,d,e1,e2⟩=>?_) (H+1) 0 [some (.ref 0),some (.int (W:Nat)),some (.int (H:Nat)),some (.ref S.length),none,none,none] (S++[.lst []]) ⟨none,none,none,rfl,rfl⟩ (by simp[dG])
 .obtain⟨Z',S',e,b,c,d,rfl,Dj⟩:=inv;rw[show(dG 0 (H+1)).length=H+1 by simp[dG]] at Dj;rw[Dj] at e;refine⟨_,?_,wf (H+1),HN (S.length+1) (H+1),?_,λj hj=>?_⟩
  .refine nZ (Z':=[some (.ref 0),some (.int (W:Nat)),some (.int (H:Nat)),some (.ref S.length),b,c,d]) ?_ (by intro h;simp[D.lo] at h) (by simp) (by simp[D.lo]) (wf (H+1));show MN [some (.ref 0),some (.int (W:Nat)),some (.int (H:Nat)),none,none,none,none] S=_;unfold MN XH XJ Xj;refine aM (bN (bB aZ (lH (Nat.zero_le _))) (bY rfl)) (aR (aM (fl := .nx) (lG (n:=H+1) (vA (j:=((H:Nat)+1:Int)) (aJ (aF (aq rfl) aN eE) aZ) (by omega)) ?_ ?_) (aR (aM (fQ (aq rfl)) dY))))
   .show some (dG 0 ((H:Nat)+1:Int).toNat).length=_;rw[show((H:Nat)+1:Int).toNat=H+1 by omega];simp[dG]
   .rw[show((H:Nat)+1:Int).toNat=H+1 by omega];exact e
  .rw[nJ (bH _),Nat.sub_self];show some (O.lst _)=_;unfold HN;rw[List.map_map];rfl
  .refine⟨S.length+1+j,by unfold HN;rw[fW,List.getElem?_range (by omega)];rfl,?_⟩;rw[nJ (by omega),show S.length+1+j - S.length=j+1 by omega,List.getElem?_cons_succ,fW,List.getElem?_range (by omega)];rfl
 .subst e1 e2;obtain⟨hj',rfl⟩:=Ao hj;generalize hS1:S++O.lst (vd (S.length+1) j)::xZ ns W j=S1;have l1:S1.length=S.length+1+j:=by rw[<-hS1];simp[xZ];omega
  have F1:jY ns S1:=by rw[<-hS1];exact F.app _
  obtain⟨d',er⟩:=zrj hn (H:=H) (j:=j) hw F1 (a := .ref S.length) (b:=d);have hm:(S1++[O.lst (uU ns W j)])[S.length]?=some (.lst (vd (S.length+1) j)):=by refine dZ ?_;rw[<-hS1,nJ (bH _),Nat.sub_self];rfl
  refine⟨_,_,.nx,[some (.ref 0),some (.int (W:Nat)),some (.int (H:Nat)),some (.ref S.length),some (.int (j:Nat)),some (.ref S1.length),d'],_,bY rfl,?_,.inl rfl,some (.int (j:Nat)),some (.ref S1.length),d',rfl,rfl⟩;unfold Nm XQ XR;refine aM (bN (bB aZ (lH (Nat.zero_le _))) (bY rfl)) (aR (aM er (aR ?_)));refine aM (qZ (vo (aq rfl) hm (aJ (aq rfl) aZ) (Al hm (by rw[cY,List.length_range,sizeLine_eq];omega) rfl))) (aR ?_);have e:(S1++[O.lst (uU ns W j)]).set S.length (.lst (vd (S.length+1) j++[D.ref S1.length]))=S ++ .lst (vd (S.length+1) (j+1))::xZ ns W (j+1):=by rw[<-hS1,dI,List.cons_append,Rt];simp only[xZ,vd,List.range_succ,mG,iJ,List.map_nil];rw[hS1,l1]
  rw[e];exact fD
structure W3(W:Nat):Prop where
 w1:1<=W
 w3:W<=3
theorem W3.ml{W:Nat}(h:W3 W)(x:Int):cg (W:Int) x=true:=by have:=h.w1;have:=h.w3;rcases(show W=1\/W=2\/W=3 by omega) with rfl|rfl|rfl<;>exact ql (by decide)
def W3.dv{W:Nat}(h:W3 W):dh (W:Int)=true:=by have:=h.w1;have:=h.w3;rcases(show W=1\/W=2\/W=3 by omega) with rfl|rfl|rfl<;>decide
def W3.nz{W:Nat}(h:W3 W):(W:Int)≠0:=by have:=h.w1;omega
def TJ(n W:Nat):((n:Nat):Int).fmod (W:Nat)=((n % W:Nat):Int):=by rw[Int.fmod_eq_emod_of_nonneg _ (by omega)];rfl
def Tz(n W:Nat):((n:Nat):Int).fdiv (W:Nat)=((n / W:Nat):Int):=by rw[Int.fdiv_eq_ediv_of_nonneg _ (by omega)];rfl
abbrev iM(t:Pt×Pt×Pt):D := .tup [pD t.1,pD t.2.1,pD t.2.2]
abbrev mZ(g:Gd)(n:Nat):O := .lst ((List.range n).map λk=>iM (g.tri k))
def zof{g:Gd}{n m:Nat}:O.lo m (mZ g n)=true:=ju.mpr λx hx=>by obtain⟨k,_,rfl⟩:=List.mem_map.mp hx;rfl
theorem zog(g:Gd)(n:Nat):(List.range (2*(n+1))).map (λk=>iM (g.tri k))=(List.range (2*n)).map (λk=>iM (g.tri k))++[iM (gc (g.c (n % g.W) (n / g.W)) false (g.X+4*(n % g.W:Nat)) (g.Y+4*(n / g.W:Nat)) (gW g.z (n % g.W) (n / g.W))),iM (gc (g.c (n % g.W) (n / g.W)) true (g.X+4*(n % g.W:Nat)) (g.Y+4*(n / g.W:Nat)) (gW g.z (n % g.W) (n / g.W)))]:=by
 have e0:2*n / 2=n:=by omega
 have e1:(2*n+1) / 2=n:=by omega
 have h0:hlf (2*n)=false:=by simp[hlf]
 have h1:hlf (2*n+1)=true:=by simp[hlf]
 have t0:g.tri (2*n)=gc (g.c (n % g.W) (n / g.W)) false (g.X+4*(n % g.W:Nat)) (g.Y+4*(n / g.W:Nat)) (gW g.z (n % g.W) (n / g.W)):=by unfold Gd.tri Gd.ci Gd.cj;rw[e0,h0]
 have t1:g.tri (2*n+1)=gc (g.c (n % g.W) (n / g.W)) true (g.X+4*(n % g.W:Nat)) (g.Y+4*(n / g.W:Nat)) (gW g.z (n % g.W) (n / g.W)):=by unfold Gd.tri Gd.ci Gd.cj;rw[e1,h1]
 rw[show 2*(n+1)=2*n+1+1 by omega,List.range_succ,List.range_succ,mG,mG,dI,<-t0,<-t1];rfl
section
variable {ns:List Int}(hn:ns.length<=63){W H:Nat}(hw:W3 W)(hh:W3 H)
abbrev m8(hg:Nat)(W H:Nat)(c0 X Y:Int)(a:Nat)(n i j p q r s t u v w:Option D):Sg:=[some (.ref 0),some (.ref hg),some (.int (W:Nat)),some (.int (H:Nat)),some (.int c0),some (.int X),some (.int Y),some (.ref a),n,i,j,p,q,r,s,t,u,v,w]
def vP(hw:W3 W)(hh:W3 H):W*H<=9:=Nat.mul_le_mul hw.w3 hh.w3
include hn hw hh in
theorem zml{S:So}{hg n a:Nat}(hS:WF S)(F:jY ns S)(h:HG S hg ns W H)(hN:n<W*H)(ha:S[a]?=some (mZ (aW ns W H) (2*n))){c0:Int}{i j p q r s t u v w:Option D}:
 ∃i' j' p' q' r' s' t' u' v' w' G,G4 (m8 hg W H c0 (aW ns W H).X (aW ns W H).Y a (some (.int (n:Nat))) i j p q r s t u v w) S=some (.nx,m8 hg W H c0 (aW ns W H).X (aW ns W H).Y (S.length+1) (some (.int (n:Nat))) i' j' p' q' r' s' t' u' v' w',S++G)/\WF (S++G)/\(S++G)[S.length+1]?=some (mZ (aW ns W H) (2*(n+1))):=by
 have hi:n % W<W:=Nat.mod_lt _ hw.w1;have hj:n / W<H:=Nat.div_lt_of_lt_mul hN;have n9:=vP hw hh;have sq:=U6 h hi hj;have ct:=Rv hn F (n % W) (n / W);have ml:∀x:Int,cg 4 x=true:=λx=>ql (by decide);have Hs:=SQ ns (n % W) (n / W);generalize hX:(aW ns W H).X=X at *
 generalize hY:(aW ns W H).Y=Y at *
 have two:=zog (aW ns W H) n;have e1:(aW ns W H).c (n % (aW ns W H).W) (n / (aW ns W H).W)=decide (pY ns (n % W) (n / W)=1):=rfl;have e2:(aW ns W H).W=W:=rfl;have e3:(aW ns W H).z=gj ns:=rfl;rw[e1,e2,e3,hX,hY] at two;simp only[gW] at two;generalize hm:n % W=m at *
 generalize hk:n / W=k at *
 have b1:∀x y z t u v w x1 x2 x3,Nh (m8 hg W H c0 X Y a (some (.int (n:Nat))) x y z t u v w x1 x2 x3) S=some (.nx,m8 hg W H c0 X Y a (some (.int (n:Nat))) (some (.int (m:Nat))) y z t u v w x1 x2 x3,S):=λx y z t u v w x1 x2 x3=>by have:=qj (S:=S) (i:=((n:Nat):Int)) hw.nz;rw[TJ,hm] at this;unfold Nh;exact bN (aF (aq rfl) (aq rfl) this) (bY rfl)
 have b2:∀x y z t u v w x1 x2 x3,Ni (m8 hg W H c0 X Y a (some (.int (n:Nat))) x y z t u v w x1 x2 x3) S=some (.nx,m8 hg W H c0 X Y a (some (.int (n:Nat))) x (some (.int (k:Nat))) z t u v w x1 x2 x3,S):=λx y z t u v w x1 x2 x3=>by have:=vq (S:=S) (i:=((n:Nat):Int)) hw.dv;rw[Tz,hk] at this;unfold Ni;exact bN (aF (aq rfl) (aq rfl) this) (bY rfl)
 have b3:∀z t u v w x1 x2 x3,Nj (m8 hg W H c0 X Y a (some (.int (n:Nat))) (some (.int (m:Nat))) (some (.int (k:Nat))) z t u v w x1 x2 x3) S=some (.nx,m8 hg W H c0 X Y a (some (.int (n:Nat))) (some (.int (m:Nat))) (some (.int (k:Nat))) (some (.int (gj ns m k))) (some (.int (gj ns (m+1) k))) (some (.int (gj ns (m+1) (k+1)))) (some (.int (gj ns m (k+1)))) w x1 x2 x3,S):=λz t u v w x1 x2 x3=>by unfold Nj;exact bN (bB (aJ (aq rfl) (aJ (aq rfl) (aJ (aq rfl) aZ))) (dj rfl sq)) rfl
 have tp:∀x y z:D,([x,y,z]:List D).length<=sizeLine:=λx y z=>by show 3<=sizeLine;decide
 generalize gj ns m k=z1 at *
 generalize gj ns (m+1) k=z2 at *
 generalize gj ns (m+1) (k+1)=z3 at *
 generalize gj ns m (k+1)=z4 at *
 have W1:=λx y=>hS.snoc (o := .lst [iM x,iM y]) rfl;have W2:=λx y=>(W1 x y).snoc (o:=mZ (aW ns W H) (2*(n+1))) zof;have ln:∀x y:D,((List.range (2*n)).map (λk=>iM ((aW ns W H).tri k))).length+[x,y].length<=sizeLine:=λx y=>by rw[cY,List.length_range,sizeLine_eq];show 2*n+2<=_;omega
 have fin:∃x y,N5 (m8 hg W H c0 X Y a (some (.int (n:Nat))) (some (.int (m:Nat))) (some (.int (k:Nat))) (some (.int z1)) (some (.int z2)) (some (.int z3)) (some (.int z4)) (some (pD (X+4*(m:Nat),Y+4*(k:Nat),z1))) (some (pD (X+4*(m:Nat)+4,Y+4*(k:Nat),z2))) (some (pD (X+4*(m:Nat)+4,Y+4*(k:Nat)+4,z3))) (some (pD (X+4*(m:Nat),Y+4*(k:Nat)+4,z4)))) S =
  some (.nx,m8 hg W H c0 X Y (S++[O.lst [iM x,iM y]]).length (some (.int (n:Nat))) (some (.int (m:Nat))) (some (.int (k:Nat))) (some (.int z1)) (some (.int z2)) (some (.int z3)) (some (.int z4)) (some (pD (X+4*(m:Nat),Y+4*(k:Nat),z1))) (some (pD (X+4*(m:Nat)+4,Y+4*(k:Nat),z2))) (some (pD (X+4*(m:Nat)+4,Y+4*(k:Nat)+4,z3))) (some (pD (X+4*(m:Nat),Y+4*(k:Nat)+4,z4))),S++[.lst [iM x,iM y]]++[mZ (aW ns W H) (2*(n+1))]):=by
  unfold N5;unfold mZ;rw[two];rcases Hs with c0|c0
  .rw[c0] at ct ⊢;refine⟨gc false false (X+4*(m:Nat)) (Y+4*(k:Nat)) (z1,z2,z3,z4),gc false true (X+4*(m:Nat)) (Y+4*(k:Nat)) (z1,z2,z3,z4),?_⟩;exact gk (dM (aF (bB (aJ (aq rfl) (aJ (aq rfl) (aJ (aq rfl) aZ))) (dj rfl ct)) aN zV)) (jb rfl (aM (bN (aF (aq rfl) (bB (aJ (bB (aJ (aq rfl) (aJ (aq rfl) (aJ (aq rfl) aZ))) (gH (tp _ _ _))) (aJ (bB (aJ (aq rfl) (aJ (aq rfl) (aJ (aq rfl) aZ))) (gH (tp _ _ _))) aZ)) (lH (by show 2<=sizeLine;decide))) (Fq (dZ ha) b8 (ln _ _))) (bY rfl)) (aR fD)))
  .rw[c0] at ct ⊢;refine⟨gc true false (X+4*(m:Nat)) (Y+4*(k:Nat)) (z1,z2,z3,z4),gc true true (X+4*(m:Nat)) (Y+4*(k:Nat)) (z1,z2,z3,z4),?_⟩;exact gk (dM (aF (bB (aJ (aq rfl) (aJ (aq rfl) (aJ (aq rfl) aZ))) (dj rfl ct)) aN zV)) (fM rfl (aM (bN (aF (aq rfl) (bB (aJ (bB (aJ (aq rfl) (aJ (aq rfl) (aJ (aq rfl) aZ))) (gH (tp _ _ _))) (aJ (bB (aJ (aq rfl) (aJ (aq rfl) (aJ (aq rfl) aZ))) (gH (tp _ _ _))) aZ)) (lH (by show 2<=sizeLine;decide))) (Fq (dZ ha) b8 (ln _ _))) (bY rfl)) (aR fD)))
 obtain⟨x,y,fin⟩:=fin;rw[show(S++[O.lst [iM x,iM y]]).length=S.length+1 by simp] at fin;refine⟨some (.int (m:Nat)),some (.int (k:Nat)),some (.int z1),some (.int z2),some (.int z3),some (.int z4),some (pD (X+4*(m:Nat),Y+4*(k:Nat),z1)),some (pD (X+4*(m:Nat)+4,Y+4*(k:Nat),z2)),some (pD (X+4*(m:Nat)+4,Y+4*(k:Nat)+4,z3)),some (pD (X+4*(m:Nat),Y+4*(k:Nat)+4,z4)),[.lst [iM x,iM y]]++[mZ (aW ns W H) (2*(n+1))],?_,by rw[<-dI];exact W2 x y,by rw[<-dI,show S.length+1=(S++[O.lst [iM x,iM y]]).length by simp];exact b8⟩;rw[<-dI];unfold G4;refine aM (b1 ..) (aR (aM (b2 ..) (aR (aM (b3 ..) (aR ?_)))));refine aM (by unfold Yk;exact bN (bB (aJ (aF (aq rfl) (aF aN (aq rfl) (fL (ml _))) eE) (aJ (aF (aq rfl) (aF aN (aq rfl) (fL (ml _))) eE) (aJ (aq rfl) aZ))) (gH (tp _ _ _))) (bY rfl)) (aR ?_);refine aM (by unfold Yl;exact bN (bB (aJ (aF (aF (aq rfl) (aF aN (aq rfl) (fL (ml _))) eE) aN eE) (aJ (aF (aq rfl) (aF aN (aq rfl) (fL (ml _))) eE) (aJ (aq rfl) aZ))) (gH (tp _ _ _))) (bY rfl)) (aR ?_);refine aM (by unfold Ym;exact bN (bB (aJ (aF (aF (aq rfl) (aF aN (aq rfl) (fL (ml _))) eE) aN eE) (aJ (aF (aF (aq rfl) (aF aN (aq rfl) (fL (ml _))) eE) aN eE) (aJ (aq rfl) aZ))) (gH (tp _ _ _))) (bY rfl)) (aR ?_);refine aM (by unfold Yn;exact bN (bB (aJ (aF (aq rfl) (aF aN (aq rfl) (fL (ml _))) eE) (aJ (aF (aF (aq rfl) (aF aN (aq rfl) (fL (ml _))) eE) aN eE) (aJ (aq rfl) aZ))) (gH (tp _ _ _))) (bY rfl)) (aR ?_);exact aM fin (aR fD)
include hn hw hh in
theorem zhu{S:So}{hg:Nat}(hS:WF S)(F:jY ns S)(h:HG S hg ns W H):
 ∃a G,NZ [.ref 0,.ref hg,.int (W:Nat),.int (H:Nat)] S=some (.ref a,S++G)/\WF (S++G)/\(S++G)[a]?=some (mZ (aW ns W H) (2*(W*H))):=by
 have n9:=vP hw hh;have inv:=q8 (nx:=dH (.fix (dG 0 (W*H)))) (g:=aH 8) (f:=G4) (xs:=dG 0 (W*H))
  (λn Z S'=>∃a G m i j p q r s t u v w,S.length<=a/\Z=m8 hg W H (iI ns 0) (aW ns W H).X (aW ns W H).Y a m i j p q r s t u v w/\S'=S++G/\WF (S++G)/\(S++G)[a]?=some (mZ (aW ns W H) (2*n)))
  (λi Z S' _=>rfl)
  (λn dd Z S' hi ⟨a,G,m,i,j,p,q,r,s,t,u,v,w,hl,e1,e2,W',e3⟩=>?_) (W*H) 0 (m8 hg W H (iI ns 0) (aW ns W H).X (aW ns W H).Y S.length none none none none none none none none none none none) (S++[.lst []]) ⟨S.length,[.lst []],_,_,_,_,_,_,_,_,_,_,_,bH _,rfl,rfl,hS.snoc rfl,b8⟩ (by simp[dG])
 .obtain⟨Z',S',e,a,G,m,i,j,p,q,r,s,t,u,v,w,hl,rfl,rfl,W',e3⟩:=inv;rw[show(dG 0 (W*H)).length=W*H by simp[dG]] at e3;refine⟨a,G,?_,W',e3⟩;have la:a<(S++G).length:=(fC.mp e3).1;refine nZ (Z':=m8 hg W H (iI ns 0) (aW ns W H).X (aW ns W H).Y a m i j p q r s t u v w) ?_ (by intro h;have:=h.2;simp only[D.lo,oK] at this;omega) (by simp) (by simp only[D.lo,oK];exact la) W';show NQ [some (.ref 0),some (.ref hg),some (.int (W:Nat)),some (.int (H:Nat)),none,none,none,none,none,none,none,none,none,none,none,none,none,none,none] S=_;unfold NQ Yd Ye Yg Yh Yi Yj;refine aM (bN (bB (aJ (aq rfl) (aJ aN aZ)) (dj rfl (yF hn _ F))) (bY rfl)) (aR ?_);refine aM (bN (aF (aq rfl) aN (qj (by decide))) (bY rfl)) (aR ?_);refine aM (bN (aF aN (aF (aq rfl) aN (qj (by decide))) nU) (bY rfl)) (aR ?_);refine aM (bN (bB aZ (lH (Nat.zero_le _))) (bY rfl)) (aR ?_);refine aM (fl := .nx) (lG (n:=W*H) (vA (j:=((W:Nat)*(H:Nat):Int)) (aJ (aF (aq rfl) (aq rfl) (fL (hw.ml _))) aZ) (by rw[<-Int.natCast_mul];omega)) ?_ ?_) (aR (aM (fQ (aq rfl)) dY))
  .show some (dG 0 ((W:Nat)*(H:Nat):Int).toNat).length=_;rw[<-Int.natCast_mul,Int.toNat_natCast];simp[dG]
  .rw[<-Int.natCast_mul,Int.toNat_natCast];exact e
 .subst e1 e2;obtain⟨hi',rfl⟩:=Ao hi;obtain⟨i',j',p',q',r',s',t',u',v',w',G',ev,Dz,e4⟩:=zml hn hw hh W' (F.app G) (h.app G) hi' e3 (c0:=iI ns 0) (i:=i) (j:=j) (p:=p) (q:=q) (r:=r) (s:=s) (t:=t) (u:=u) (v:=v) (w:=w);refine⟨_,_,.nx,_,_,bY rfl,ev,.inl rfl,(S++G).length+1,G++G',_,_,_,_,_,_,_,_,_,_,_,by rw[iW];omega,rfl,by rw[dI],by rw[<-dI];exact Dz,by rw[<-dI];exact e4⟩
end
noncomputable def zm(c:Bool)(u v:Int):List Bool:=[false,true].filter λh=>decide (cH c h 1 u v)
def Qt{x:Int}(h : -100<=x/\x<=100):Bd 8 x:=by show x.natAbs<2 ^ 8;omega
def Fv(n:Nat)(h:Bool):(2*n+h.toNat) / 2=n/\hlf (2*n+h.toNat)=h:=by cases h<;>simp[hlf]<;>omega
theorem IV(g:Gd)(px py:Int)(n:Nat)(h:Bool):g.on px py (2*n+h.toNat)↔cH (g.c (n % g.W) (n / g.W)) h 1 (px - 4*(n % g.W:Nat)) (py - 4*(n / g.W:Nat)):=by unfold Gd.on Gd.ci Gd.cj;rw[(Fv n h).1,(Fv n h).2]
theorem ZS(g:Gd)(px py:Int)(n:Nat)(h:Bool):g.ht px py (2*n+h.toNat)=gh (g.c (n % g.W) (n / g.W)) h 1 (px - 4*(n % g.W:Nat)) (py - 4*(n / g.W:Nat)) (gW g.z (n % g.W) (n / g.W)):=by unfold Gd.ht Gd.ci Gd.cj;rw[(Fv n h).1,(Fv n h).2]
theorem zmZ(g:Gd)(px py:Int)(n:Nat):g.nums px py (2*(n+1))=g.nums px py (2*n)++(zm (g.c (n % g.W) (n / g.W)) (px - 4*(n % g.W:Nat)) (py - 4*(n / g.W:Nat))).map λh=>2*n+h.toNat:=by have e0:decide (g.on px py (2*n))=decide (cH (g.c (n % g.W) (n / g.W)) false 1 (px - 4*(n % g.W:Nat)) (py - 4*(n / g.W:Nat))):=decide_eq_decide.mpr (IV g px py n false);have e1:decide (g.on px py (2*n+1))=decide (cH (g.c (n % g.W) (n / g.W)) true 1 (px - 4*(n % g.W:Nat)) (py - 4*(n / g.W:Nat))):=decide_eq_decide.mpr (IV g px py n true);unfold Gd.nums zm;rw[show 2*(n+1)=2*n+1+1 by omega,List.range_succ,List.range_succ,List.filter_append,List.filter_append,dI];congr 1;simp only[List.filter,e0,e1];cases decide (cH (g.c (n % g.W) (n / g.W)) false 1 (px - 4*(n % g.W:Nat)) (py - 4*(n / g.W:Nat)))<;>cases decide (cH (g.c (n % g.W) (n / g.W)) true 1 (px - 4*(n % g.W:Nat)) (py - 4*(n / g.W:Nat)))<;>rfl
abbrev hop(h:Int)(l:List Nat):D:=if l=[] then .non else .int h
def zpV{h:Int}{l:List Nat}{x:Nat}:hop h (l++[x]) = .int h:=if_neg (by simp)
section
variable {ns:List Int}(hn:ns.length<=63){W H:Nat}(hw:W3 W)(hh:W3 H)
abbrev w6(hg W H:Nat)(px py:Int)(ht:D)(a:Nat)(n u v c h:Option D):Sg:=[some (.ref 0),some (.ref hg),some (.tup [.int (W:Nat),.int (H:Nat)]),some (.tup [.int px,.int py]),some (.int (W:Nat)),some (.int (H:Nat)),some ht,some (.ref a),n,u,v,c,h]
include hn hw hh in
theorem zl1{S G:So}{hg n:Nat}{px py h0:Int}(F:jY ns S)(h:HG S hg ns W H)(hN:n<W*H)(YJ:0<=px/\px<=12)(YH:0<=py/\py<=12)(wD:∀k,(aW ns W H).on px py k->(aW ns W H).ht px py k=h0)(hS:WF (S ++ .lst (((aW ns W H).nums px py (2*n)).map aV)::G)){u v c b:Option D}:
 ∃u' v' c' b' G',GP (w6 hg W H px py (hop h0 ((aW ns W H).nums px py (2*n))) S.length (some (.int (n:Nat))) u v c b) (S ++ .lst (((aW ns W H).nums px py (2*n)).map aV)::G)=some (.nx,w6 hg W H px py (hop h0 ((aW ns W H).nums px py (2*(n+1)))) S.length (some (.int (n:Nat))) u' v' c' b',S ++ .lst (((aW ns W H).nums px py (2*(n+1))).map aV)::G')/\WF (S ++ .lst (((aW ns W H).nums px py (2*(n+1))).map aV)::G'):=by
 have hi:n % W<W:=Nat.mod_lt _ hw.w1;have hj:n / W<H:=Nat.div_lt_of_lt_mul hN;have n9:=vP hw hh;have w3:=hw.w3;have h3:=hh.w3;have ml:∀x:Int,cg 4 x=true:=λx=>ql (by decide);have Hs:=SQ ns (n % W) (n / W);have two:=zmZ (aW ns W H) px py n;have e1:(aW ns W H).c (n % (aW ns W H).W) (n / (aW ns W H).W)=decide (pY ns (n % W) (n / W)=1):=rfl;have e2:(aW ns W H).W=W:=rfl;rw[e1,e2] at two;have ho:∀b:Bool,cH (decide (pY ns (n % W) (n / W)=1)) b 1 (px - 4*(n % W:Nat)) (py - 4*(n / W:Nat))->gh (decide (pY ns (n % W) (n / W)=1)) b 1 (px - 4*(n % W:Nat)) (py - 4*(n / W:Nat)) (gW (gj ns) (n % W) (n / W))=h0:=λb hb=>by rw[<-wD _ ((IV (aW ns W H) px py n b).mpr hb),ZS];rfl
 have bz:∀i j,Bd 8 (gj ns i j):=λi j=>Qt (by have:=Jh ns i j;omega);generalize hl0:(aW ns W H).nums px py (2*n)=l0 at *
 have ll:l0.length<=2*n:=by rw[<-hl0];refine Nat.le_trans (List.length_filter_le _ _) ?_;rw[List.length_range];exact bH _
 have md:=λ(S:So)=>qj (S:=S) (i:=((n:Nat):Int)) hw.nz;have dv:=λ(S:So)=>vq (S:=S) (i:=((n:Nat):Int)) hw.dv;simp only[TJ,Tz] at md dv;have apS:∀{o:O} {G:So},jY ns (S++o::G):=λ{o G}=>F.app _;have apH:∀{o:O} {G:So},HG (S++o::G) hg ns W H:=λ{o G}=>h.app _;generalize hm:n % W=m at *
 generalize hk:n / W=k at *
 have hmi:=hi;have hkj:=hj;clear hi hj;generalize hc:pY ns m k=ci at *
 generalize hU:px - 4*(m:Nat)=U at *
 generalize hV:py - 4*(k:Nat)=V at *
 have bU:Bd 8 U:=Qt (by omega);have bV:Bd 8 V:=Qt (by omega);obtain⟨sn,Gs,es,Ws,hsn,hst⟩:=zkF (u:=U) (v:=V) Hs hS;have eG:∃G2,S++O.lst (l0.map aV)::G++Gs=S++O.lst (l0.map aV)::G2:=⟨G++Gs,by simp⟩
 obtain⟨G2,eG⟩:=eG;rw[eG] at es Ws hst;have sl:S.length<sn:=by rw[iW,jo] at hsn;omega
 have xs:(stL (decide (ci=1)) U V).map D.int=(zm (decide (ci=1)) U V).map λh=>D.int (if h then 1 else 0):=by unfold stL zm;rw[List.map_map];rfl
 rw[xs] at hst;have hst':∀l:List Nat,(S++O.lst (l.map aV)::G2)[sn]?=some (.lst ((zm (decide (ci=1)) U V).map λh=>D.int (if h then 1 else 0))):=λl=>by
  rw[<-hst,nJ (by omega),nJ (by omega)];obtain⟨d,hd⟩:∃d,sn - S.length=d+1:=⟨sn - S.length - 1,by omega⟩
  rw[hd];rfl
 have wfl:∀l:List Nat,WF (S++O.lst (l.map aV)::G2):=λl p hp=>by
  have le:(S++O.lst (l.map aV)::G2).length=(S++O.lst (l0.map aV)::G2).length:=by simp
  rw[le];rcases lq.mp hp with q|q
  .exact Ws p (List.mem_append_left _ q)
  .rcases List.mem_cons.mp q with rfl|q
   .exact Ae _ _
   .exact Ws p (List.mem_append_right _ (cU _ q))
 generalize hB:zm (decide (ci=1)) U V=B at *
 have hBl:B.length<=2:=by rw[<-hB];exact Nat.le_trans (List.length_filter_le _ _) (bH _)
 have hBm:∀b∈B,cH (decide (ci=1)) b 1 U V:=λb hb=>by rw[<-hB] at hb;exact of_decide_eq_true (List.mem_filter.mp hb).2
 have inv:=q8 (nx:=dH (.lst sn)) (g:=aH 12) (f:=M8) (xs:=B.map λh=>D.int (if h then 1 else 0))
  (λi Z S'=>∃b',Z=w6 hg W H px py (hop h0 (l0++(B.take i).map λh=>2*n+h.toNat)) S.length (some (.int (n:Nat))) (some (.int U)) (some (.int V)) (some (.int ci)) b'/\S'=S++O.lst ((l0++(B.take i).map λh=>2*n+h.toNat).map aV)::G2)
  (λi Z S' ⟨b',_,e⟩=>by subst e;unfold dH;simp only;rw[hst'])
  (λi dd Z S' hi ⟨b',e1,e2⟩=>?_) B.length 0 (w6 hg W H px py (hop h0 l0) S.length (some (.int (n:Nat))) (some (.int U)) (some (.int V)) (some (.int ci)) b) (S++O.lst (l0.map aV)::G2) ⟨b,by simp,by simp⟩ (by simp)
 .obtain⟨Z',S',e,b',rfl,rfl⟩:=inv;rw[cY,mF,<-two] at e;refine⟨some (.int U),some (.int V),some (.int ci),b',G2,?_,by rw[two];exact wfl _⟩;unfold GP;refine aM (by unfold X7;exact bN (aF (aF (aq rfl) aN (cW rfl)) (aF aN (aF (aq rfl) (aq rfl) (md _)) (fL (ml _))) nU) (bY rfl)) (aR ?_);refine aM (by unfold X8;exact bN (aF (aF (aq rfl) aN (cW rfl)) (aF aN (aF (aq rfl) (aq rfl) (dv _)) (fL (ml _))) nU) (bY rfl)) (aR ?_);rw[hU,hV];have ct:=Rv hn (apS (o:=O.lst (l0.map aV)) (G:=G)) m k;rw[hc] at ct;refine aM (by unfold Yb;exact bN (bB (aJ (aq rfl) (aJ (aF (aq rfl) (aq rfl) (md _)) (aJ (aF (aq rfl) (aq rfl) (dv _)) aZ))) (dj rfl ct)) (bY rfl)) (aR ?_);refine aM (fl := .nx) ?_ (aR fD);unfold Yc;refine lG (n:=B.length) (lZ (n:=sn) (bB (aJ (aq rfl) (aJ (aq rfl) (aJ (aq rfl) aZ))) (dj rfl es)) (hst' l0)) ?_ e;unfold qG;simp only;rw[hst' l0];simp
 .subst e1 e2;rw[fW] at hi;obtain⟨bb,hb,rfl⟩:=bf.mp hi;obtain⟨hil,hbe⟩:=fC.mp hb;have hon:=hBm bb (List.mem_of_getElem? hb);have tk:B.take (i+1)=B.take i++[bb]:=by rw[List.take_succ,hb];rfl
  have e3:(l0++(B.take (i+1)).map λh=>2*n+h.toNat)=(l0++(B.take i).map λh=>2*n+h.toNat)++[2*n+bb.toNat]:=by rw[tk,mG,dI];rfl
  have l1l:(l0++(B.take i).map λh=>2*n+h.toNat).length<=2*n+2:=by rw[iW,cY,uL];omega
  generalize hl1:(l0++(B.take i).map λh=>2*n+h.toNat)=l1 at *
  rw[e3,zpV];have hm0:(S++O.lst (l1.map aV)::G2)[S.length]?=some (.lst (l1.map aV)):=by rw[nJ (bH _),Nat.sub_self];rfl
  have ap:(S++O.lst (l1.map aV)::G2).set S.length (.lst (l1.map aV++[D.int (2*(n:Nat)+(if bb then 1 else 0))]))=S++O.lst ((l1++[2*n+bb.toNat]).map aV)::G2:=by
   rw[Rt,mG];have:[D.int (2*(n:Nat)+(if bb then 1 else 0))]=[2*n+bb.toNat].map aV:=by cases bb<;>simp[aV]
   rw[this]
  have sq:=U6 (apH (o:=O.lst ((l1++[2*n+bb.toNat]).map aV)) (G:=G2)) hmi hkj;have hx:=zkJ (ci:=ci) (hi:=if bb then 1 else 0) (u:=U) (v:=V) (s:=gW (gj ns) m k) Hs (by cases bb<;>simp) bU bV (bz m k) (bz (m+1) k) (bz (m+1) (k+1)) (bz m (k+1)) (S++O.lst ((l1++[2*n+bb.toNat]).map aV)::G2);have eb:decide ((if bb then(1:Int) else 0)=1)=bb:=by cases bb<;>rfl
  rw[eb,ho bb hon] at hx;refine⟨_,_,.nx,_,_,bY rfl,?_,.inl rfl,some (.int (if bb then 1 else 0)),rfl,rfl⟩;unfold M8;refine aM (by unfold Yr;exact qZ (vo (aq rfl) hm0 (aJ (aF (aF aN (aq rfl) (fL (ql (by decide)))) (aq rfl) eE) aZ) (Al hm0 (by rw[cY,sizeLine_eq];omega) ap))) (aR ?_);refine aM (by unfold Ys;exact bN (bB (aJ (aq rfl) (aJ (aq rfl) (aJ (bB (aJ (aq rfl) (aJ (aF (aq rfl) (aq rfl) (md _)) (aJ (aF (aq rfl) (aq rfl) (dv _)) aZ))) (dj rfl sq)) (aJ (bB (aJ (aq rfl) (aJ (aq rfl) aZ)) (gH (by show 2<=sizeLine;decide))) aZ)))) (dj rfl hx)) (bY rfl)) (aR fD)
include hn hw hh in
theorem zoz{S:So}{hg:Nat}{px py h0:Int}(hS:WF S)(F:jY ns S)(h:HG S hg ns W H)(YJ:0<=px/\px<=12)(YH:0<=py/\py<=12)(wD:∀k,(aW ns W H).on px py k->(aW ns W H).ht px py k=h0):
 ∃G,Lw [.ref 0,.ref hg,.tup [.int (W:Nat),.int (H:Nat)],.tup [.int px,.int py]] S=some (.tup [hop h0 ((aW ns W H).nums px py (2*(W*H))),.ref S.length],S ++ .lst (((aW ns W H).nums px py (2*(W*H))).map aV)::G)/\WF (S ++ .lst (((aW ns W H).nums px py (2*(W*H))).map aV)::G):=by
 have n9:=vP hw hh;have inv:=q8 (nx:=dH (.fix (dG 0 (W*H)))) (g:=aH 8) (f:=GP) (xs:=dG 0 (W*H))
  (λn Z S'=>∃G m u v c b,Z=w6 hg W H px py (hop h0 ((aW ns W H).nums px py (2*n))) S.length m u v c b/\S'=S ++ .lst (((aW ns W H).nums px py (2*n)).map aV)::G/\WF (S ++ .lst (((aW ns W H).nums px py (2*n)).map aV)::G))
  (λi Z S' _=>rfl)
  (λn dd Z S' hi ⟨G,m,u,v,c,b,e1,e2,W'⟩=>?_) (W*H) 0 (w6 hg W H px py .non S.length none none none none none) (S++[.lst []]) ⟨[],_,_,_,_,_,rfl,rfl,hS.snoc rfl⟩ (by simp[dG])
 .obtain⟨Z',S',e,G,m,u,v,c,b,rfl,rfl,W'⟩:=inv;rw[show(dG 0 (W*H)).length=W*H by simp[dG]] at e W';refine⟨G,?_,W'⟩;refine nZ (Z':=w6 hg W H px py (hop h0 ((aW ns W H).nums px py (2*(W*H)))) S.length m u v c b) ?_ (by intro h;have:=h.2;simp[D.lo,c7] at this) (by simp) (by
   show c7 _ [_,_]=true;refine ju.mpr λx hx=>?_;rcases List.mem_cons.mp hx with rfl|hx
   .unfold hop;split<;>rfl
   .rw[List.mem_singleton.mp hx];simp[D.lo]) W'
  show Ln [some (.ref 0),some (.ref hg),some (.tup [.int (W:Nat),.int (H:Nat)]),some (.tup [.int px,.int py]),none,none,none,none,none,none,none,none,none] S=_;unfold Ln Xu Xv Xw Xx Xy;refine aM (fl := .nx) (σ1:=[some (.ref 0),some (.ref hg),some (.tup [.int (W:Nat),.int (H:Nat)]),some (.tup [.int px,.int py]),some (.int (W:Nat)),some (.int (H:Nat)),none,none,none,none,none,none,none]) (S1:=S) rfl (aR ?_);refine aM (bN aN (bY rfl)) (aR ?_);refine aM (bN (bB aZ (lH (Nat.zero_le _))) (bY rfl)) (aR ?_);refine aM (fl := .nx) (lG (n:=W*H) (vA (j:=((W:Nat)*(H:Nat):Int)) (aJ (aF (aq rfl) (aq rfl) (fL (hw.ml _))) aZ) (by rw[<-Int.natCast_mul];omega)) ?_ ?_) (aR (aM (fQ (bB (aJ (aq rfl) (aJ (aq rfl) aZ)) (gH (by show 2<=sizeLine;decide)))) dY))
  .show some (dG 0 ((W:Nat)*(H:Nat):Int).toNat).length=_;rw[<-Int.natCast_mul,Int.toNat_natCast];simp[dG]
  .rw[<-Int.natCast_mul,Int.toNat_natCast];exact e
 .subst e1 e2;obtain⟨hi',rfl⟩:=Ao hi;obtain⟨u',v',c',b',G',ev,Dz⟩:=zl1 hn hw hh F h hi' YJ YH wD W' (u:=u) (v:=v) (c:=c) (b:=b);exact⟨_,_,.nx,_,_,bY rfl,ev,.inl rfl,G',_,_,_,_,_,rfl,rfl,Dz⟩
end
end MX.P
end
section
local macro_rules|`(tactic|wtm_at $s)=>uC s "d&"
namespace MX.K25
open PySem PySem.Spec L2 MX MX.P
def qy{k:Nat}{x:Int}(h : -(2 ^ 31)<=x/\x<=2 ^ 31)(hk:40<=k):Bd k x:=by refine Bd.le (k:=40) ?_ hk;show x.natAbs<2 ^ 40;omega
def md{m b:Int}(hb:0<b):∃x,(∀S,aB .Mod (.int m) (.int b) S=some (.int x,S))/\0<=x/\x<b:=⟨_,λS=>qj (by omega),fm hb⟩
theorem dm{m b:Int}(a:Int)(ha:dh a=true)(hb:0<b):∃q x,(∀S,aB .FloorDiv (.int m) (.int a) S=some (.int q,S))/\(∀S,aB .Mod (.int q) (.int b) S=some (.int x,S))/\0<=x/\x<b:=⟨_,_,λS=>vq ha,λS=>qj (by omega),fm hb⟩
def two{x y:D}:([x,y]:List D).length<=sizeLine:=by show 2<=sizeLine;decide
def thr{x y z:D}:([x,y,z]:List D).length<=sizeLine:=by show 3<=sizeLine;decide
def ml(x:Int):cg 4 x=true:=ql (by decide)
def zoi(c:Bool)(x y:Int)(s:Sq):(gc c false x y s).1=(x,y,s.1):=by cases c<;>rfl
section
variable {ns:List Int}(hn:ns.length<=63){W H:Nat}(hw:W3 W)(hh:W3 H)
def gX:0<=(aW ns W H).X/\(aW ns W H).X<1000000007:=fm (by decide)
theorem gY: -998244353<(aW ns W H).Y/\(aW ns W H).Y<=0:=by have:=fm (a:=iI ns 0) (b:=998244353) (by decide);show -998244353<0 - (iI ns 0).fmod 998244353/\0 - (iI ns 0).fmod 998244353<=0;omega
include hw hh in
def Y8:(aW ns W H).Ok:=⟨hw.w1,hw.w3,hh.w1,hh.w3,Jh ns⟩
include hw hh in
theorem Fp{k:Nat}(hk:k<(aW ns W H).n):aU 40 ((aW ns W H).tri k).1/\aU 40 ((aW ns W H).tri k).2.1/\aU 40 ((aW ns W H).tri k).2.2:=by
 have hx:=gX (ns:=ns) (W:=W) (H:=H);have hy:=gY (ns:=ns) (W:=W) (H:=H);have n9:=vP hw hh;have hk':k / 2<W*H:=by have:k<2*(W*H):=hk;omega
 have hi:k / 2 % W<W:=Nat.mod_lt _ hw.w1;have hj:k / 2 / W<H:=Nat.div_lt_of_lt_mul hk';have w3:=hw.w3;have h3:=hh.w3;have e2:(aW ns W H).W=W:=rfl;have e3:(aW ns W H).z=gj ns:=rfl;unfold Gd.tri Gd.ci Gd.cj;rw[e2,e3];generalize (aW ns W H).X=X at *
 generalize (aW ns W H).Y=Y at *
 generalize k / 2 % W=i at *
 generalize k / 2 / W=j at *
 have p:∀(a b:Int) (u v:Nat),(a=0\/a=4)->(b=0\/b=4)->aU 40 (X+4*(i:Nat)+a,Y+4*(j:Nat)+b,gj ns u v):=λa b u v ha hb=>by have:=Jh ns u v;exact⟨qy (by show _<=X+4*(i:Nat)+a/\X+4*(i:Nat)+a<=_;omega) (bH _),qy (by show _<=Y+4*(j:Nat)+b/\Y+4*(j:Nat)+b<=_;omega) (bH _),qy (by show _<=gj ns u v/\gj ns u v<=_;omega) (bH _)⟩
 have p0:=λu v=>p 0 0 u v (.inl rfl) (.inl rfl);have p1:=λu v=>p 4 0 u v (.inr rfl) (.inl rfl);have p2:=λu v=>p 4 4 u v (.inr rfl) (.inr rfl);have p3:=λu v=>p 0 4 u v (.inl rfl) (.inr rfl);simp only[Int.add_zero] at p0 p1 p3;cases (aW ns W H).c i j<;>cases hlf k<;>simp only[gc,gW]
 .exact⟨p0 _ _,p1 _ _,p2 _ _⟩
 .exact⟨p0 _ _,p2 _ _,p3 _ _⟩
 .exact⟨p0 _ _,p1 _ _,p3 _ _⟩
 .exact⟨p1 _ _,p2 _ _,p3 _ _⟩
include hw hh in
theorem Rr:∀s∈(aW ns W H).shs,uX 40 s:=λs hs=>by
 obtain⟨k,hk,rfl⟩:=List.mem_map.mp hs;have b:=Fp hw hh (List.mem_range.mp hk);refine⟨λp hp=>?_,λlo hi e=>by cases e⟩;have hp':p∈[((aW ns W H).tri k).1,((aW ns W H).tri k).2.1,((aW ns W H).tri k).2.2]:=hp;rcases List.mem_cons.mp hp' with rfl|hp'
 .exact b.1
 .rcases List.mem_cons.mp hp' with rfl|hp'
  .exact b.2.1
  .rw[List.mem_singleton.mp hp'];exact b.2.2
include hw hh in
theorem QM{S:So}{a:Nat}{fe:EF}{Z:Sg}(ha:S[a]?=some (mZ (aW ns W H) (2*(W*H))))(e:fe Z S=some (.ref a,S)):∃z,eB aG (eB aG fe (kq 0)) (kq 0) Z S=some (pD ((aW ns W H).X,(aW ns W H).Y,z),S):=by
 have wp:1<=W*H:=Nat.mul_le_mul hw.w1 hh.w1;have t0:gq ((List.range (2*(W*H))).map λk=>iM ((aW ns W H).tri k)) ((0:Nat):Int)=some (iM ((aW ns W H).tri 0)):=yG (by rw[fW,List.getElem?_range (by omega)];rfl);refine⟨gj ns 0 0,aF (aF e aN (nT ha t0)) aN (cW ?_)⟩;have h1:(aW ns W H).ci 0=0:=by unfold Gd.ci;simp
 have h2:(aW ns W H).cj 0=0:=by unfold Gd.cj;simp
 show some (pD ((aW ns W H).tri 0).1)=_;unfold Gd.tri;rw[h1,h2,show hlf 0=false from rfl,zoi];simp only[Int.mul_zero,Int.add_zero,Int.natCast_zero];rfl
include hn hw hh in
theorem zkK{S:So}{a:Nat}(F:jY ns S)(ha:S[a]?=some (mZ (aW ns W H) (2*(W*H)))):
 ∃o d:Pt,Ls [.ref 0,.ref a,.tup [.int (W:Nat),.int (H:Nat)]] S=some (cN o d,S)/\aU 40 o/\aU 40 d/\Eb W H (aW ns W H).X (aW ns W H).Y o d:=by
 have hx:=gX (ns:=ns) (W:=W) (H:=H);have hy:=gY (ns:=ns) (W:=W) (H:=H);have w3:=hw.w3;have h3:=hh.w3;have dr:=sp_drawn (iI ns 50) 50 S;have cl:=yF hn 50 F;generalize iI ns 50=c50 at *
 generalize sY c50 50=m at *
 obtain⟨z0,p0⟩:=QM hw hh ha (fe:=aj 1) (Z:=[some (.ref 0),some (.ref a),some (.tup [.int (W:Nat),.int (H:Nat)]),some (.int m),none,none,none,none,none,none]) (aq rfl);obtain⟨x1,Cz,f1⟩:=md (m:=m) (b:=4*(W:Nat)+1) (by omega);obtain⟨q2,x2,d2,Cy,f2⟩:=dm (m:=m) (b:=4*(H:Nat)+1) 13 (by decide) (by omega);obtain⟨q3,x3,d3,Pr,f3⟩:=dm (m:=m) (b:=50) 169 (by decide) (by decide);obtain⟨q4,x4,d4,Pq,f4⟩:=dm (m:=m) (b:=50) 1428050 (by decide) (by decide);obtain⟨q5,x5,d5,md5,f5⟩:=dm (m:=m) (b:=4*(W:Nat)+1) 8450 (by decide) (by omega);obtain⟨q6,x6,d6,md6,f6⟩:=dm (m:=m) (b:=4*(H:Nat)+1) 109850 (by decide) (by omega);generalize (aW ns W H).X=X at *
 generalize (aW ns W H).Y=Y at *
 have sb:∀S,aB .Sub (.int (0 - 21)) (.int x4) S=some (.int (-21 - x4),S):=λS=>rfl;generalize hO:((X+x1,Y+x2,21+x3):Pt)=O;generalize hT:((X+x5,Y+x6,-21 - x4):Pt)=T;refine⟨O,wb O T,?_,?_⟩
 .apply cG (S':=S) (Z':=[some (.ref 0),some (.ref a),some (.tup [.int (W:Nat),.int (H:Nat)]),some (.int m),some (.int X),some (.int Y),some (.int z0),some (pD O),some (.int (-21 - x4)),some (pD T)])
  .show zdt [some (.ref 0),some (.ref a),some (.tup [.int (W:Nat),.int (H:Nat)]),none,none,none,none,none,none,none] S=_;unfold zdt;refine aM (by unfold Xo;exact bN (bB (aJ (bB (aJ (aq rfl) (aJ aN aZ)) (dj rfl cl)) (aJ aN aZ)) (dj rfl dr)) (bY rfl)) (aR (aM (by unfold Xp;exact bN p0 rfl) (aR ?_)));have a3:MJ [some (.ref 0),some (.ref a),some (.tup [.int (W:Nat),.int (H:Nat)]),some (.int m),some (.int X),some (.int Y),some (.int z0),none,none,none] S=some (.nx,[some (.ref 0),some (.ref a),some (.tup [.int (W:Nat),.int (H:Nat)]),some (.int m),some (.int X),some (.int Y),some (.int z0),some (pD O),none,none],S):=by rw[<-hO];unfold MJ;exact bN (bB (aJ (aF (aq rfl) (aF (aq rfl) (aF (aF aN (aF (aq rfl) aN (cW rfl)) (fL (ml _))) aN eE) (Cz _)) eE) (aJ (aF (aq rfl) (aF (aF (aq rfl) aN (d2 _)) (aF (aF aN (aF (aq rfl) aN (cW rfl)) (fL (ml _))) aN eE) (Cy _)) eE) (aJ (aF aN (aF (aF (aq rfl) aN (d3 _)) aN (Pr _)) eE) aZ))) (gH thr)) (bY rfl)
   have a5:Mf [some (.ref 0),some (.ref a),some (.tup [.int (W:Nat),.int (H:Nat)]),some (.int m),some (.int X),some (.int Y),some (.int z0),some (pD O),some (.int (-21 - x4)),none] S=some (.nx,[some (.ref 0),some (.ref a),some (.tup [.int (W:Nat),.int (H:Nat)]),some (.int m),some (.int X),some (.int Y),some (.int z0),some (pD O),some (.int (-21 - x4)),some (pD T)],S):=by rw[<-hT];unfold Mf;exact bN (bB (aJ (aF (aq rfl) (aF (aF (aq rfl) aN (d5 _)) (aF (aF aN (aF (aq rfl) aN (cW rfl)) (fL (ml _))) aN eE) (md5 _)) eE) (aJ (aF (aq rfl) (aF (aF (aq rfl) aN (d6 _)) (aF (aF aN (aF (aq rfl) aN (cW rfl)) (fL (ml _))) aN eE) (md6 _)) eE) (aJ (aq rfl) aZ))) (gH thr)) (bY rfl)
   refine aM a3 (aR (aM (by unfold Xq;exact bN (aF (aF aN aN nU) (aF (aF (aq rfl) aN (d4 _)) aN (Pq _)) (sb _)) (bY rfl)) (aR (aM a5 (aR ?_)))));exact aM (by unfold Xr;exact fQ (bB (aJ (aq rfl) (aJ (bB (aJ (aq rfl) (aJ (aq rfl) aZ)) (dj rfl (Jy _ _ _))) aZ)) (gH two))) dY
  .exact mF
  .rfl
 .subst hO hT;simp only[wb,aU,Eb];have b:∀{x:Int},-(2 ^ 31)<=x/\x<=2 ^ 31->Bd 40 x:=λh=>qy h (bH _);exact⟨⟨b (by omega),b (by omega),b (by omega)⟩,⟨b (by omega),b (by omega),b (by omega)⟩,by omega⟩
abbrev u9(mo:Int)(W H hg a c:Nat)(X Y z:Int)(k he pl to fa ht nu ti ra me po:Option D):Sg:=[some (.ref 0),some (.int mo),some (.tup [.int (W:Nat),.int (H:Nat)]),some (.ref hg),some (.ref a),some (.ref c),some (.int X),some (.int Y),some (.int z),k,he,pl,to,fa,ht,nu,ti,ra,me,po]
def zo4(h:cX):dJ 2 (bG h)=true:=rfl
include hn hw hh in
theorem turn{S:So}{mo z:Int}{hg a c:Nat}{t:Option Tr}(hS:WF S)(F:jY ns S)(hT:jK "in_order" S=true)(h:HG S hg ns W H)(ok:uW 40 (aW ns W H).shs t)(sc:jF S c (aW ns W H).shs t)(j:Nat)(he pl to fa ht nu ti ra me po:Option D):
 ∃he' YK Yv Zc ht' YQ ti' YG G,GC (u9 mo W H hg a c (aW ns W H).X (aW ns W H).Y z (some (.int (j:Nat))) he pl to fa ht nu ti ra me po) S=some (.nx,u9 mo W H hg a c (aW ns W H).X (aW ns W H).Y z (some (.int (j:Nat))) he' YK Yv Zc ht' YQ ti' YG me po,S++G)/\WF (S++G):=by
 have hx:=gX (ns:=ns) (W:=W) (H:=H);have hy:=gY (ns:=ns) (W:=W) (H:=H);have zx:(aW ns W H).Ok:=Y8 hw hh;have n9:=vP hw hh;have w3:=hw.w3;have h3:=hh.w3;have dr:=sp_drawn (iI ns (40+(j:Nat))) (j:Nat) S;have cl:=yF hn (40+(j:Nat)) F;generalize iI ns (40+(j:Nat))=c40 at *
 generalize sY c40 (j:Nat)=m at *
 obtain⟨px,Cz,f1⟩:=md (m:=m) (b:=4*(W:Nat)+1) (by omega);obtain⟨q2,py,d2,Cy,f2⟩:=dm (m:=m) (b:=4*(H:Nat)+1) 13 (by decide) (by omega);obtain⟨q3,x3,d3,Pr,f3⟩:=dm (m:=m) (b:=100) 169 (by decide) (by decide);obtain⟨q4,x4,d4,Pq,f4⟩:=dm (m:=m) (b:=5) 16900 (by decide) (by decide);have Ze:21<=21+x3:=by omega
 have fp:0<1+x4:=by omega
 have T2:21+x3<=200:=by omega
 have F2:1+x4<=10:=by omega
 have ad3:∀S,aB .Add (.int 21) (.int x3) S=some (.int (21+x3),S):=λS=>rfl;have ad4:∀S,aB .Add (.int 1) (.int x4) S=some (.int (1+x4),S):=λS=>rfl;generalize 21+x3=T at *
 generalize 1+x4=f at *
 obtain⟨k0,hk0,O7⟩:=Gd.some_on zx f1.1 (by show px<=4*(W:Nat);omega) f2.1 (by show py<=4*(H:Nat);omega);have wD:∀k,(aW ns W H).on px py k->(aW ns W H).ht px py k=(aW ns W H).ht px py k0:=λk hk=>Gd.ht_same hk O7;have hb:=Gd.ht_bd zx O7;generalize (aW ns W H).ht px py k0=h0 at *
 obtain⟨G1,ed,W1⟩:=zoz hn hw hh hS F h (px:=px) (py:=py) ⟨f1.1,by omega⟩ ⟨f2.1,by omega⟩ wD;have vf:=λm l=>Gd.vert_first (m:=m) (l:=l) zx Ze fp wD;have ve:=Gd.vert_every zx Ze fp wD;have hne:k0∈(aW ns W H).nums px py (2*(W*H)):=List.mem_filter.mpr ⟨List.mem_range.mpr hk0,decide_eq_true O7⟩;have hnl:((aW ns W H).nums px py (2*(W*H))).length<=18:=by refine Nat.le_trans (List.length_filter_le _ _) ?_;rw[List.length_range];omega
 have en:(aW ns W H).nums px py (aW ns W H).n=(aW ns W H).nums px py (2*(W*H)):=rfl;rw[en] at vf ve;generalize (aW ns W H).nums px py (2*(W*H))=nl at *
 obtain⟨n0,kZ,rfl⟩:∃n0 kZ,nl=n0::kZ:=by
  cases nl with
  |nil=>cases hne
  |cons x y=>exact⟨x,y,rfl⟩
 have vf:=vf n0 kZ rfl;have P0:hop h0 (n0::kZ) = .int h0:=rfl;rw[P0] at ed;have rat:=λS=>zhx (k:=20) (a:=4*T - h0) (b:=4*f) (by omega) (by show(4*T - h0).natAbs<2 ^ 20;omega) (by show(4*f).natAbs<2 ^ 20;omega) (by decide) S;generalize cV (4*T - h0) (4*f)=τ at *
 have bo:aU 40 ((aW ns W H).X+px,(aW ns W H).Y+py,T):=⟨qy (by show _<=(aW ns W H).X+px/\(aW ns W H).X+px<=_;omega) (bH _),qy (by show _<=(aW ns W H).Y+py/\(aW ns W H).Y+py<=_;omega) (bH _),qy (by show _<=T/\T<=_;omega) (bH _)⟩
 have bd:aU 40 ((0,0,0 - f):Pt):=⟨qy (by show _<=(0:Int)/\(0:Int)<=_;omega) (bH _),qy (by show _<=(0:Int)/\(0:Int)<=_;omega) (bH _),qy (by show _<=0 - f/\0 - f<=_;omega) (bH _)⟩
 have hd0:((0,0,0 - f):Pt)≠(0,0,0):=λe=>by have:=congrArg (λp:Pt=>p.2.2) e;simp only at this;omega
 have sl:(aW ns W H).shs.length<64:=by rw[cY,List.length_range];show 2*(W*H)<64;omega
 have zp:=sc.app (.lst ((n0::kZ).map aV)::G1);have fi:=V3 bo bd hd0 (by decide) ok _ c W1 zp;rw[vf] at fi;obtain⟨en,G2,ee,W2,hen,hel⟩:=zmu bo bd hd0 (by decide) ok sl W1 (lJ hT) zp;rw[ve,List.map_map] at hel;generalize hX:(aW ns W H).X=X at *
 generalize hY:(aW ns W H).Y=Y at *
 generalize hS1:S++O.lst ((n0::kZ).map aV)::G1=S1 at *
 have Pj:S1[S.length]?=some (.lst ((n0::kZ).map aV)):=by rw[<-hS1,nJ (bH _),Nat.sub_self];rfl
 generalize hS2:S1++G2=S2 at *
 have YM:S2[S.length]?=some (.lst ((n0::kZ).map aV)):=by rw[<-hS2,lR (fC.mp Pj).1];exact Pj
 have at0:gq ((n0::kZ).map aV) 0=some (aV n0):=yG (j:=0) rfl;have ne1:bA .NotEq (bG (τ,n0)) (.tup [rD τ,aV n0]) S1=some (.bl false,S1):=by have:=RP (S:=S1) (x:=bG (τ,n0)) (y := .tup [rD τ,aV n0]) rfl 3 rfl rfl (by decide);rw[this,m6 (show bG (τ,n0) = .tup [rD τ,aV n0] from rfl)];rfl
 have lc:=vB (Z:=u9 mo W H hg a c X Y z (some (.int (j:Nat))) (some (.int m)) (some (.tup [.int px,.int py])) (some (.int T)) (some (.int f)) (some (.int h0)) (some (.ref S.length)) (some (rD τ)) (some (cN (X+px,Y+py,T) (0,0,0 - f))) me po) (src:=[none,some 16]) (rest:=[some (rD τ)]) (fe:=eN bZ (ak (aj 1) (ak (aj 0) au))) (n0::kZ) aV (λk=>bG (τ,k)) (lZ (fe:=aj 15) (aq rfl) YM) YM (by omega) rfl λk _=>bB (aJ (aq rfl) (aJ (aq rfl) aZ)) (gH two);have hpl:∀x∈(n0::kZ).map (λk=>bG (τ,k)),dJ 2 x=true:=λx hx=>by obtain⟨k,_,rfl⟩:=List.mem_map.mp hx;exact zo4 _
 have ne2:=ZK (S:=S2++[.lst ((n0::kZ).map λk=>bG (τ,k))]) 2 (n:=en) (m:=S2.length) (xs:=(n0::kZ).map λk=>bG (τ,k)) (ys:=(n0::kZ).map λk=>bG (τ,k)) (.inl (dZ hel)) (.inl b8) hpl hpl (by decide);rw[m6 rfl] at ne2;have W3:=W2.snoc (o := .lst ((n0::kZ).map λk=>bG (τ,k))) (ju.mpr λx hx=>Rm (hpl x hx));have eG:∃G,S2++[O.lst ((n0::kZ).map λk=>bG (τ,k))]=S++G:=by rw[<-hS2,<-hS1];simp only[dI];exact⟨_,rfl⟩
 obtain⟨G,eG⟩:=eG;rw[eG] at lc ne2 W3;refine⟨some (.int m),some (.tup [.int px,.int py]),some (.int T),some (.int f),some (.int h0),some (.ref S.length),some (rD τ),some (cN (X+px,Y+py,T) (0,0,0 - f)),G,?_,W3⟩;unfold GC;refine aM (by unfold WX;exact bN (bB (aJ (bB (aJ (aq rfl) (aJ (aF aN (aq rfl) eE) aZ)) (dj rfl cl)) (aJ (aq rfl) aZ)) (dj rfl dr)) (bY rfl)) (aR ?_);refine aM (by unfold WY;exact bN (bB (aJ (aF (aq rfl) (aF (aF aN (aF (aq rfl) aN (cW rfl)) (fL (ml _))) aN eE) (Cz _)) (aJ (aF (aF (aq rfl) aN (d2 _)) (aF (aF aN (aF (aq rfl) aN (cW rfl)) (fL (ml _))) aN eE) (Cy _)) aZ)) (gH two)) (bY rfl)) (aR ?_);refine aM (by unfold W7;exact bN (aF aN (aF (aF (aq rfl) aN (d3 _)) aN (Pr _)) (ad3 _)) (bY rfl)) (aR ?_);refine aM (by unfold W8;exact bN (aF aN (aF (aF (aq rfl) aN (d4 _)) aN (Pq _)) (ad4 _)) (bY rfl)) (aR ?_);refine aM (by unfold W9;exact bN (bB (aJ (aq rfl) (aJ (aq rfl) (aJ (aq rfl) (aJ (aq rfl) aZ)))) (dj rfl ed)) rfl) (aR ?_);refine aM (by unfold Xa;exact bN (bB (aJ (aF (aF aN (aq rfl) (fL (ml _))) (aq rfl) nU) (aJ (aF aN (aq rfl) (fL (ml _))) aZ)) (dj rfl (rat _))) (bY rfl)) (aR ?_);refine aM (by unfold Xb;exact bN (bB (aJ (bB (aJ (aF (aq rfl) (aF (aq rfl) aN (cW rfl)) eE) (aJ (aF (aq rfl) (aF (aq rfl) aN (cW rfl)) eE) (aJ (aq rfl) aZ))) (gH thr)) (aJ (bB (aJ aN (aJ aN (aJ (aF aN (aq rfl) nU) aZ))) (gH thr)) aZ)) (gH two)) (bY rfl)) (aR ?_);exact aM (by unfold Xc;exact gk (b:=false) (jT (b:=false) (dM (aF (z9 (aq rfl) zp.ins rfl (aJ (aq rfl) aZ) rfl fi) (bB (aJ (aq rfl) (aJ (aF (aq rfl) aN (nT Pj at0)) aZ)) (gH two)) ne1)) (fM rfl (dM (aF (z9 (aq rfl) zp.ins rfl (aJ (aq rfl) aZ) rfl ee) lc ne2)))) (fM rfl fD)) (aR fD)
end
theorem zm9:∀ns:List Int,ns.length<=63->∃Z' iD,Gj (oA 20 [.ref 0]) (.frz (ns.map D.int)::(["tree_over", "in_order"]:List Str).map O.tbl)=some (.rt (.bl true),Z',iD):=by
 intro ns hn;have F0:jY ns (.frz (ns.map D.int)::(["tree_over", "in_order"]:List Str).map O.tbl):=rfl;have T0:∀x∈(["tree_over", "in_order"]:List Str),jK x (.frz (ns.map D.int)::(["tree_over", "in_order"]:List Str).map O.tbl)=true:=by intro x hx;unfold jK;rw[List.any_eq_true];exact⟨.tbl x,cU _ (List.mem_map.mpr ⟨x,hx,rfl⟩),decide_eq_true rfl⟩
 have Tt:=T0 "tree_over" (eZ ..);have Ti:=T0 "in_order" (cU _ (List.mem_singleton.mpr rfl));have W0:WF (.frz (ns.map D.int)::(["tree_over", "in_order"]:List Str).map O.tbl):=by
  intro o ho;rcases List.mem_cons.mp ho with rfl|ho
  .show c7 _ _=true;rw[ju];intro x hx;obtain⟨z,_,rfl⟩:=List.mem_map.mp hx;simp[D.lo]
  .obtain⟨y,_,rfl⟩:=List.mem_map.mp ho;rfl
 clear T0;generalize (.frz (ns.map D.int)::(["tree_over", "in_order"]:List Str).map O.tbl:So)=S0 at *
 have dr:=sp_drawn (iI ns 60) 60 S0;have cl:=yF hn 60 F0;generalize iI ns 60=c60 at *
 generalize sY c60 60=mo at *
 obtain⟨r1,Cz,f1⟩:=md (m:=mo) (b:=3) (by decide);obtain⟨q2,r2,d2,Cy,f2⟩:=dm (m:=mo) (b:=3) 3 (by decide) (by decide);obtain⟨W,hW,w1,w3⟩:∃W:Nat,1+r1=(W:Nat)/\1<=W/\W<=3:=⟨(1+r1).toNat,by omega,by omega,by omega⟩
 obtain⟨H,hH,h1,h3⟩:∃H:Nat,1+r2=(H:Nat)/\1<=H/\H<=3:=⟨(1+r2).toNat,by omega,by omega,by omega⟩
 have hw:W3 W:=⟨w1,w3⟩
 have hh:W3 H:=⟨h1,h3⟩
 have zx:(aW ns W H).Ok:=Y8 hw hh;have n9:=vP hw hh;have wp:1<=W*H:=Nat.mul_le_mul w1 h1;have a1:∀S,aB .Add (.int 1) (.int r1) S=some (.int (W:Nat),S):=λS=>by rw[<-hW];rfl
 have a2:∀S,aB .Add (.int 1) (.int r2) S=some (.int (H:Nat),S):=λS=>by rw[<-hH];rfl
 obtain⟨G1,eh,W1,hg1⟩:=zjK hn w3 h3 W0 F0;have F1:=F0.app G1;have Tt1:=lJ (G:=G1) Tt;have Ti1:=lJ (G:=G1) Ti;generalize hs1:S0++G1=S1 at *
 generalize S0.length=hg at *
 obtain⟨a,G2,et,W2,ha⟩:=zhu hn hw hh W1 F1 hg1;have F2:=F1.app G2;have Tt2:=lJ (G:=G2) Tt1;have Ti2:=lJ (G:=G2) Ti1;have hg2:=hg1.app G2;generalize S1++G2=S2 at *
 have lc:=vB (Z:=[some (.ref 0),some (.int mo),some (.tup [.int (W:Nat),.int (H:Nat)]),some (.ref hg),some (.ref a),none,none,none,none,none,none,none,none,none,none,none,none,none,none,none]) (src:=[none]) (rest:=[]) (fe:=eB (aB .Add) (eN bZ (ak (eC (.str "triangle")) au)) (aj 0)) (List.range (2*(W*H))) (λk=>iM ((aW ns W H).tri k)) (λk=>d7 ((aW ns W H).sh k)) (lZ (fe:=aj 4) (aq rfl) ha) ha (by rw[List.length_range];omega) rfl λk _=>aF (bB (aJ aN aZ) (gH (by show 1<=sizeLine;decide))) (aq rfl) (zp8 (by simp) (by show 4<=sizeLine;decide));have eS:(List.range (2*(W*H))).map (λk=>d7 ((aW ns W H).sh k))=(aW ns W H).shs.map d7:=by rw[List.map_map];rfl
 rw[eS] at lc;have W3:=W2.snoc (o := .lst ((aW ns W H).shs.map d7)) (ju.mpr λx hx=>by
  obtain⟨s,hs,rfl⟩:=List.mem_map.mp hx;obtain⟨k,_,rfl⟩:=List.mem_map.mp hs;rfl)
 have sl:(aW ns W H).shs.length=2*(W*H):=by rw[cY,List.length_range];rfl
 obtain⟨t,G3,ok,mk,W4,sc⟩:=zm4 (K:=40) (shs:=(aW ns W H).shs) W3 (lJ Tt2) b8 (by omega) (Rr hw hh) (aJ lc aZ);generalize hc:(S2++[O.lst ((aW ns W H).shs.map d7)]).length=c at *
 have F4:=(F2.app [O.lst ((aW ns W H).shs.map d7)]).app G3;have Ti4:=lJ (G:=G3) (lJ (G:=[O.lst ((aW ns W H).shs.map d7)]) Ti2);have hg4:=(hg2.app [O.lst ((aW ns W H).shs.map d7)]).app G3;have Qf:(S2++[O.lst ((aW ns W H).shs.map d7)]++G3)[a]?=some (mZ (aW ns W H) (2*(W*H))):=by have l:=(fC.mp ha).1;rw[dI,lR l];exact ha
 generalize S2++[O.lst ((aW ns W H).shs.map d7)]++G3=S4 at *
 obtain⟨z0,p0⟩:=QM hw hh Qf (fe:=aj 4) (Z:=[some (.ref 0),some (.int mo),some (.tup [.int (W:Nat),.int (H:Nat)]),some (.ref hg),some (.ref a),some (.ref c),none,none,none,none,none,none,none,none,none,none,none,none,none,none]) (aq rfl);have inv:=q8 (nx:=dH (.fix (dG 0 3))) (g:=aH 9) (f:=GC) (xs:=dG 0 3)
  (λj Z S'=>∃G k he pl to fa ht nu ti ra,Z=u9 mo W H hg a c (aW ns W H).X (aW ns W H).Y z0 k he pl to fa ht nu ti ra none none/\S'=S4++G/\WF (S4++G))
  (λi Z S' _=>rfl)
  (λj dd Z S' hj ⟨G,k,he,pl,to,fa,ht,nu,ti,ra,e1,e2,W'⟩=>?_) 3 0 (u9 mo W H hg a c (aW ns W H).X (aW ns W H).Y z0 none none none none none none none none none none none) S4 ⟨[],none,none,none,none,none,none,none,none,none,rfl,by simp,by simpa using W4⟩ (by simp[dG])
 .obtain⟨Z',S',el,G,k,he,pl,to,fa,ht,nu,ti,ra,rfl,rfl,W5⟩:=inv;have F5:=F4.app G;have Yz:=sc.app G;have Y5:(S4++G)[a]?=some (mZ (aW ns W H) (2*(W*H))):=by rw[lR (fC.mp Qf).1];exact Qf
  generalize S4++G=S5 at *
  obtain⟨o,d,ea,bo,bd,as⟩:=zkK hn hw hh F5 Y5;have h0:d≠(0,0,0):=λe=>by rw[e] at as;simp only[Eb] at as;omega
  obtain⟨τ,n,ef,hnn,τ0,τ1,hin⟩:=Gd.slant zx as;have fi:=V3 bo bd h0 (by decide) ok S5 c W5 Yz;rw[ef] at fi;have b:=Q8 bo bd (Rr hw hh ((aW ns W H).sh n) (List.mem_map.mpr ⟨n,List.mem_range.mpr hnn,rfl⟩)) h0 τ (by
   obtain⟨s,hs,tm⟩:=(Wj h0 ef).1;have es:s=(aW ns W H).sh n:=by have hs':(aW ns W H).shs[n]?=some s:=hs;rw[fW,List.getElem?_range hnn] at hs';exact(Option.some.inj hs').symm
   rw[<-es];exact tm)
  have bt:=Fp (ns:=ns) hw hh hnn;have bτ1:Bd 400 τ.1:=b.2.2.1.le (by decide);have bτ2:Bd 400 τ.2:=b.2.2.2.le (by decide);have bP:aU 1000 (oG o d τ):=by have m:∀{x y:Int},Bd 40 x->Bd 40 y->Bd 1000 (x*τ.2+y*τ.1):=λhx hy=>((hx.mul bτ2).add (hy.mul bτ1)).le (by decide);exact⟨m bo.1 bd.1,m bo.2.1 bd.2.1,m bo.2.2 bd.2.2⟩
  have atn:gq ((List.range (2*(W*H))).map λk=>iM ((aW ns W H).tri k)) ((n:Nat):Int)=some (iM ((aW ns W H).tri n)):=yG (by rw[fW,List.getElem?_range (show n<2*(W*H) from hnn)];rfl);replace fi:Bc [.ref c,cN o d] S5=some (.tup [rD τ,aV n],S5):=fi;have c1:=Jb (S:=S5) (i:=τ.1) (j:=0);rw[jt (by omega)] at c1;have c2:=Ja (S:=S5) (i:=τ.1) (j:=τ.2);rw[jt (by omega)] at c2;have bc:∀(p:Pt) (k:Int),aU 40 p->Bd 40 (co k p):=λp k hp=>by
   unfold co;split
   .exact hp.1
   .split
    .exact hp.2.1
    .exact hp.2.2
  have lc:=yq (Z:=u9 mo W H hg a c (aW ns W H).X (aW ns W H).Y z0 k he pl to fa ht nu ti (some (cN o d)) (some (.tup [rD τ,aV n])) none) (S:=S5) (fi:=iY (ak (kq 3) au)) (g:=aH 0) (t:=dW) (src:=[none,some 18,some 17]) (n:=3) (vA (j:=3) (aJ aN aZ) (by decide)) rfl (by decide) rfl (zrY (m:=3) (fe:=eB (aB .Add) (eB (aB .Mult) (eB aG (eB aG (aj 2) (kq 0)) (aj 0)) (eB aG (eB aG (aj 1) (kq 0)) (kq 1))) (eB (aB .Mult) (eB aG (eB aG (aj 2) (kq 1)) (aj 0)) (eB aG (eB aG (aj 1) (kq 0)) (kq 0)))) (rest:=[some (.tup [rD τ,aV n]),some (cN o d)]) (λx => .int (co (x:Nat) o*τ.2+co (x:Nat) d*τ.1)) (λx hx=>aF (aF (aF (aF (aq rfl) aN (cW rfl)) (aq rfl) (cW (vz (by omega) (by omega) o))) (aF (aF (aq rfl) aN (cW rfl)) aN (cW rfl)) (fL (vD (bc _ _ bo) bτ2 (by decide)))) (aF (aF (aF (aq rfl) aN (cW rfl)) (aq rfl) (cW (vz (by omega) (by omega) d))) (aF (aF (aq rfl) aN (cW rfl)) aN (cW rfl)) (fL (vD (bc _ _ bd) bτ1 (by decide)))) eE));have it:=zoy (P:=oG o d τ) (q:=τ.2) bP bt.1 bt.2.1 bt.2.2 bτ2 (S5++[.lst [.int (oG o d τ).1,.int (oG o d τ).2.1,.int (oG o d τ).2.2]]) (Dm _ _ _ _ _) (Pz (by omega) hin);refine⟨u9 mo W H hg a c (aW ns W H).X (aW ns W H).Y z0 k he pl to fa ht nu ti (some (cN o d)) (some (.tup [rD τ,aV n])) (some (pD (oG o d τ))),S5++[.lst [.int (oG o d τ).1,.int (oG o d τ).2.1,.int (oG o d τ).2.2]],?_⟩;show Gj [some (.ref 0),none,none,none,none,none,none,none,none,none,none,none,none,none,none,none,none,none,none,none] S0=_;unfold Gj;refine aM (by unfold V7;exact bN (bB (aJ (bB (aJ (aq rfl) (aJ aN aZ)) (dj rfl cl)) (aJ aN aZ)) (dj rfl dr)) (bY rfl)) (aR ?_);refine aM (by unfold V8;exact bN (bB (aJ (aF aN (aF (aq rfl) aN (Cz _)) (a1 _)) (aJ (aF aN (aF (aF (aq rfl) aN (d2 _)) aN (Cy _)) (a2 _)) aZ)) (gH two)) (bY rfl)) (aR ?_);refine aM (by unfold V9;exact bN (bB (aJ (aq rfl) (aJ (aF (aq rfl) aN (cW rfl)) (aJ (aF (aq rfl) aN (cW rfl)) aZ))) (dj rfl eh)) (bY rfl)) (aR ?_);refine aM (by unfold Wa;exact bN (bB (aJ (aq rfl) (aJ (aq rfl) (aJ (aF (aq rfl) aN (cW rfl)) (aJ (aF (aq rfl) aN (cW rfl)) aZ)))) (dj rfl et)) (bY rfl)) (aR ?_);refine aM (by unfold Wb;exact bN mk (bY rfl)) (aR ?_);refine aM (by unfold Wc;exact bN p0 rfl) (aR ?_);refine aM (fl := .nx) (by unfold WM;exact lG (n:=3) (vA (j:=3) (aJ aN aZ) (by decide)) rfl el) (aR ?_);refine aM (by unfold WN;exact bN (bB (aJ (aq rfl) (aJ (aq rfl) (aJ (aq rfl) aZ))) (dj rfl ea)) (bY rfl)) (aR ?_);refine aM (by unfold WQ;exact bN (z9 (aq rfl) Yz.ins rfl (aJ (aq rfl) aZ) rfl fi) (bY rfl)) (aR ?_);refine aM (by unfold Wn;exact gk (b:=false) (jT (b:=false) (dM (aF (aq rfl) aN rfl)) (fM rfl (jT (b:=false) (dM (aF (aF (aF (aq rfl) aN (cW rfl)) aN (cW rfl)) aN c1)) (fM rfl (dM (aF (aF (aF (aq rfl) aN (cW rfl)) aN (cW rfl)) (aF (aF (aq rfl) aN (cW rfl)) aN (cW rfl)) c2)))))) (fM rfl fD)) (aR ?_);refine aM (by unfold Wo;exact bN (bB (aJ lc aZ) (Vd b8)) (bY rfl)) (aR ?_);exact aM (by unfold Wq;exact fQ (bB (aJ (aq rfl) (aJ (aF (aF (aq rfl) aN (cW rfl)) aN (cW rfl)) (aJ (aF (aq rfl) (aF (aq rfl) aN (cW rfl)) (nT (dZ Y5) atn)) aZ))) (dj rfl it))) dY
 .subst e1 e2;obtain⟨hj',rfl⟩:=Ao hj;obtain⟨he',YK,Yv,Zc,ht',YQ,ti',YG,G',ev,Dz⟩:=turn hn hw hh (mo:=mo) (z:=z0) (a:=a) W' (F4.app G) (lJ Ti4) (hg4.app G) ok (sc.app G) j he pl to fa ht nu ti ra none none;exact⟨_,_,.nx,_,_,bY rfl,ev,.inl rfl,G++G',_,_,_,_,_,_,_,_,_,rfl,by rw[dI],by rw[<-dI];exact Dz⟩
end MX.K25
end
section
local macro_rules|`(tactic|wtm_at $s)=>uC s "AJ#zK"
namespace MX.K25
open PySem PySem.Spec PySem.W PyProof.Rows L2 MX MX.P
abbrev LF:=List (Str×Nat×GN)
abbrev F0:LF:=[]
abbrev E0:CE:={ flds:=[("kept", "Scene"),("tree", "Scene"),("box", "Tree"),("number", "Tree"),("halves", "Tree")],gls:=[] }
section
variable {w:World}{K:FgA}{mg:Str->Option Value}{base h:Heap}{k n:Nat}{x:Str}{F:LF}{E:CE}{fb:SF}
abbrev AA(w:World)(K:FgA)(mg:Str->Option Value)(base:Heap)(k:Nat)(F:LF)(E:CE):Prop:=cJ PG w K mg base k F/\fZ PG w K mg base k E
theorem nf(st:Stmt)(ps:List Str)(a:AA w K mg base k F E)(b:K.In h/\h.Ns mainGlobals mg/\∀y∈blt,mg y=none)(hD:fB K x st)(p:pX x st ps/\oW (iH (b7 st).names) ps (b7 st)/\(b7 st).names.all (λy=>decide ((b7 st).names.lookup y.1=some y.2))=true/\(iH (b7 st).names).length=n/\jD 40 (pW st F blt E) (iQ st)=some fb):AA w K mg base (k+1) ((x,ps.length,fnOf n fb)::F) E :=
 ⟨znn a.1 a.2 b.1 b.2.1 b.2.2 hD p.1 p.2.1 p.2.2.1 p.2.2.2.1 p.2.2.2.2,a.2.mono (Nat.le_succ k)⟩
theorem nt{c:Addr}(a:AA w K mg base k F E)(b:K.In h/\h.Ns mainGlobals mg/\∀y∈blt,mg y=none)(hD:sZ K "tree_over" (top 36) c)(hC:CodeHd base c (iZ K "tree_over"))(hB:BM base mg)(hb:jD 40 (rO 40 (top 36) F blt E "leaf") (iQ (top 36))=some fb:=by kernel_rfl):AA w K mg base (k+4) (("tree_over",1,oR "tree_over" 5 fb)::F) E :=
 ⟨Ue (ps:=["leaves"]) a.1 a.2 b.1 b.2.1 b.2.2 hD hC hB (zvE λ_ _ _ _ _ _ _=>rfl) (by exact⟨rfl,rfl,rfl,by decide +kernel,by kernel_rfl,by decide +kernel,by decide +kernel⟩) (by decide +kernel) (λ_ _ _ _ _ _ _ _ _=>rfl) (by kernel_rfl) hb,a.2.mono (Nat.le_add_right k 4)⟩
theorem ziv{c:Addr}(a:AA w K mg base k F E)(b:K.In h/\h.Ns mainGlobals mg/\∀y∈blt,mg y=none)(hD:sZ K "in_order" (top 41) c)(hC:CodeHd base c (iZ K "in_order"))(hB:BM base mg)(hb:jD 40 (rO 40 (top 41) F blt E "hit") (iQ (top 41))=some fb:=by kernel_rfl):AA w K mg base (k+4) (("in_order",1,oR "in_order" 3 fb)::F) E :=
 ⟨Ue (ps:=["hits"]) a.1 a.2 b.1 b.2.1 b.2.2 hD hC hB (zvE λ_ _ _ _ _ _ _=>rfl) (by exact⟨rfl,rfl,rfl,by decide +kernel,by kernel_rfl,by decide +kernel,by decide +kernel⟩) (by decide +kernel) (λ_ _ _ _ _ _ _ _ _=>rfl) (by kernel_rfl) hb,a.2.mono (Nat.le_add_right k 4)⟩
end
abbrev F1:LF:=("_law_drawn",2,vN)::F0
abbrev F2:LF:=("_law_cell",2,tR)::F1
abbrev F3:LF:=("_law_heights",3,Ms)::F2
abbrev F4:LF:=("_law_square",3,Gz)::F3
abbrev F5:LF:=("_law_cut",3,Gw)::F4
abbrev F6:LF:=("_law_triangles",4,NZ)::F5
abbrev E1:CE:={ E0 with mks:=("Tree",4,yZ)::E0.mks }
abbrev F7:LF:=("numbers_at",2,GD)::F6
abbrev F8:LF:=("box_around",1,yS)::F7
abbrev F9:LF:=("widest_place",1,Mu)::F8
abbrev F10:LF:=("tree_over",1,λ_ _=>none)::F9
abbrev F11:LF:=("tree_over",1,jy 1)::F10
abbrev F12:LF:=("tree_over",1,jy 2)::F11
abbrev F13:LF:=("tree_over",1,jy 3)::F12
abbrev F14:LF:=("tree_over",1,jy 4)::F13
abbrev F15:LF:=("tree_over",1,jy 5)::F14
abbrev F16:LF:=("tree_over",1,jy 6)::F15
abbrev F17:LF:=("tree_about",1,GJ)::F16
abbrev F18:LF:=("are_in_order",2,Mt)::F17
abbrev F19:LF:=("is_shape",1,yP)::F18
abbrev F20:LF:=("refuse_no_shape",1,Nt)::F19
abbrev F21:LF:=("bounds",1,vC)::F20
abbrev E2:CE:={ E1 with mks:=("Scene",2,GR)::E1.mks }
abbrev F22:LF:=("_law_stands",3,Ly)::F21
abbrev F23:LF:=("_law_height",4,Lx)::F22
abbrev F24:LF:=("_law_due",4,Lw)::F23
abbrev F25:LF:=("_law_ratio",2,LR)::F24
abbrev F26:LF:=("refuse_standing",1,Nu)::F25
abbrev F27:LF:=("times_between",4,Mj)::F26
abbrev F28:LF:=("is_less",2,tM)::F27
abbrev F29:LF:=("span_in",2,vH)::F28
abbrev F30:LF:=("numbers_along",2,GK)::F29
abbrev F31:LF:=("common_divisor",2,GQ)::F30
abbrev F32:LF:=("lowest_terms",1,tQ)::F31
abbrev F33:LF:=("meets_box",2,K9)::F32
abbrev F34:LF:=("cross",2,jz)::F33
abbrev F35:LF:=("way_between",2,fG)::F34
abbrev F36:LF:=("edges_of",1,vJ)::F35
abbrev F37:LF:=("dot",2,fX)::F36
abbrev F38:LF:=("meets_along",3,Lz)::F37
abbrev F39:LF:=("meets_segment",3,Mi)::F38
abbrev F40:LF:=("meets_edges",2,yU)::F39
abbrev F41:LF:=("goes_through",3,qt)::F40
abbrev F42:LF:=("meets_within_plane",3,zf)::F41
abbrev F43:LF:=("meets_triangle",2,n6)::F42
abbrev F44:LF:=("time_at",2,Am)::F43
abbrev E3:CE:={ E2 with mths:=("hits", "Scene",2,Az)::E2.mths }
abbrev F45:LF:=("is_sooner",2,Gu)::F44
abbrev E4:CE:={ E3 with mths:=("first", "Scene",2,Bc)::E3.mths }
abbrev F46:LF:=("in_order",1,Gx)::F45
abbrev E5:CE:={ E4 with mths:=("every", "Scene",2,Mr)::E4.mths }
abbrev F47:LF:=("_law_way",2,yO)::F46
abbrev F48:LF:=("_law_aslant",3,Ls)::F47
abbrev F49:LF:=("_law_flat",4,yV)::F48
abbrev F50:LF:=("_law_on",4,Gn)::F49
abbrev F51:LF:=("_law_in_triangle",3,M6)::F50
theorem call:WalkO seen loose (λ_ _=>True) (ztM xb ms defs blt ts).says PySem.Challenge.rw_firsthit_k25_whole_no_seam_lets_by.row.toRowW lawRec [] λf vs=>PySem.call f vs:=by
 refine zjD (k:=79) (x := "_law_script") rfl rfl ⟨rfl,by decide,by decide⟩ ?F
 case F =>
  intro w mg fa h K KX G hmg hD hB0 hM hX hT;have H:∀i (h:i<defs.length),fB K (defs[i]).1 (defs[i]).2:=λi h=>hD _ (List.getElem_mem h);have M:∀i (h:i<ms.length),gZ K (ms[i]).1 (ms[i]).2.1 (ms[i]).2.2:=λi h=>hM _ (List.getElem_mem h);have hb:=znD KX G hB0;unfold xb at hX;simp only[dD] at hX;obtain⟨⟨iT,eO⟩,N6⟩:=hX;obtain⟨c0,z0,hC0⟩:=hT ("tree_over",top 36) (by simp[ts]);obtain⟨c1,z1,hC1⟩:=hT ("in_order",top 41) (by simp[ts]);have hs:∀base:Heap,Mod K mg base->BM base mg->AA w K mg base 78 F51 E5:=λbase hMd hB=>by
   have z:=z0;have hC:=hC0 base hMd.kin;have e0:fZ PG w K mg base 0 E0:=ZC KX G (λy hy=>by
    simp only[List.mem_cons,xU,or_false] at hy;rcases hy with rfl|rfl|rfl|rfl|rfl
    .exact⟨_,eO,by decide⟩
    .exact⟨_,eO,by decide⟩
    .exact⟨_,iT,by decide⟩
    .exact⟨_,iT,by decide⟩
    .exact⟨_,iT,by decide⟩) (λy hy=>by
    cases hy)
   have b:K.In h/\h.Ns mainGlobals mg/\∀y∈blt,mg y=none:=⟨KX,G,hb⟩
   have a:AA w K mg base 0 F0 E0:=⟨cJ.nil,e0⟩
   have a:AA w K mg base 1 F1 E0:=nf (top 45) ["_law_cell_here", "_law_k"] a b (H 0 (by decide)) (by wtm_at "z");have a:AA w K mg base 2 F2 E0:=nf (top 44) ["_law_script", "_law_k"] a b (H 1 (by decide)) (by wtm_at "z");have a:AA w K mg base 3 F3 E0:=nf (top 51) ["_law_script", "_law_wide", "_law_high"] a b (H 2 (by decide)) (by wtm_at "z");have a:AA w K mg base 4 F4 E0:=nf (top 53) ["_law_heights_here", "_law_i", "_law_j"] a b (H 3 (by decide)) (by wtm_at "z");have a:AA w K mg base 5 F5 E0:=nf (top 52) ["_law_script", "_law_i", "_law_j"] a b (H 4 (by decide)) (by wtm_at "z");have a:AA w K mg base 6 F6 E0:=nf (top 54) ["_law_script", "_law_heights_here", "_law_wide", "_law_high"] a b (H 5 (by decide)) (by wtm_at "z");have a:AA w K mg base 8 F6 E1:=⟨a.1.mono (by decide),Ul (C := "Tree") (st:=qw 34 0) (ps:=["self", "box", "number", "halves"]) (n:=4) (fb:=NP) (m:=40) a.1 a.2 hb (S8 KX G iT) (Q0 (M 0 (by decide)) iT (by decide)) (λ_ _ _ _ _ _=>Dw λ_ _ _ _=>rfl) (by wtm_at "A") (by decide +kernel) (by kernel_rfl) (by kernel_rfl)⟩
   have a:AA w K mg base 9 F7 E1:=nf (top 13) ["points", "place"] a b (H 6 (by decide)) (by wtm_at "z");have a:AA w K mg base 10 F8 E1:=nf (top 14) ["points"] a b (H 7 (by decide)) (by wtm_at "z");have a:AA w K mg base 11 F9 E1:=nf (top 35) ["box"] a b (H 8 (by decide)) (by wtm_at "z");have a:AA w K mg base 11 F10 E1:=⟨znm (ps:=["leaves"]) a.1 KX G (let ⟨f,fd,a,F,_⟩:=z;⟨f,fd,a,F⟩) (zvE λ_ _ _ _ _ _ _=>rfl),a.2⟩
   have a:AA w K mg base 15 F11 E1:=nt (fb:=oh (jy 0)) a b z hC hB;have a:AA w K mg base 19 F12 E1:=nt (fb:=oh (jy 1)) a b z hC hB;have a:AA w K mg base 23 F13 E1:=nt (fb:=oh (jy 2)) a b z hC hB;have a:AA w K mg base 27 F14 E1:=nt (fb:=oh (jy 3)) a b z hC hB;have a:AA w K mg base 31 F15 E1:=nt (fb:=oh (jy 4)) a b z hC hB;have a:AA w K mg base 35 F16 E1:=nt (fb:=oh (jy 5)) a b z hC hB;have a:AA w K mg base 36 F17 E1:=nf (top 37) ["boxes"] a b (H 9 (by decide)) (by wtm_at "z");have a:AA w K mg base 37 F18 E1:=nf (top 28) ["low", "high"] a b (H 10 (by decide)) (by wtm_at "z");have a:AA w K mg base 38 F19 E1:=nf (top 29) ["shape"] a b (H 11 (by decide)) (by wtm_at "z");have a:AA w K mg base 39 F20 E1:=nf (top 30) ["shape"] a b (H 12 (by decide)) (by wtm_at "z");have a:AA w K mg base 40 F21 E1:=nf (top 32) ["shape"] a b (H 13 (by decide)) (by wtm_at "z");have a:AA w K mg base 42 F21 E2:=⟨a.1.mono (by decide),Ul (C := "Scene") (st:=qw 42 0) (ps:=["self", "shapes"]) (n:=2) (fb:=Nk) (m:=40) a.1 a.2 hb (S8 KX G eO) (Q0 (M 1 (by decide)) eO (by decide)) (λ_ _ _ _ _ _=>all2 λ_ _=>rfl) (by wtm_at "A") (by decide +kernel) (by kernel_rfl) (by kernel_rfl)⟩
   have a:AA w K mg base 43 F22 E2:=nf (top 55) ["_law_cut_here", "_law_u", "_law_v"] a b (H 14 (by decide)) (by wtm_at "z");have a:AA w K mg base 44 F23 E2:=nf (top 56) ["_law_cut_here", "_law_half", "_law_square_here", "_law_place"] a b (H 15 (by decide)) (by wtm_at "z");have a:AA w K mg base 45 F24 E2:=nf (top 57) ["_law_script", "_law_heights_here", "_law_sizes", "_law_place"] a b (H 16 (by decide)) (by wtm_at "z");have a:AA w K mg base 46 F25 E2:=nf (top 46) ["_law_top", "_law_under"] a b (H 17 (by decide)) (by wtm_at "z");have a:AA w K mg base 47 F26 E2:=nf (top 27) ["ray"] a b (H 18 (by decide)) (by wtm_at "z");have a:AA w K mg base 48 F27 E2:=nf (top 15) ["start", "step", "low", "high"] a b (H 19 (by decide)) (by wtm_at "z");have a:AA w K mg base 49 F28 E2:=nf (top 8) ["one", "other"] a b (H 20 (by decide)) (by wtm_at "z");have a:AA w K mg base 50 F29 E2:=nf (top 16) ["ray", "box"] a b (H 21 (by decide)) (by wtm_at "z");have a:AA w K mg base 51 F30 E2:=nf (top 38) ["tree", "ray"] a b (H 22 (by decide)) (by wtm_at "z");have a:AA w K mg base 52 F31 E2:=nf (top 6) ["one", "other"] a b (H 23 (by decide)) (by wtm_at "z");have a:AA w K mg base 53 F32 E2:=nf (top 7) ["ratio"] a b (H 24 (by decide)) (by wtm_at "z");have a:AA w K mg base 54 F33 E2:=nf (top 17) ["ray", "box"] a b (H 25 (by decide)) (by wtm_at "z");have a:AA w K mg base 55 F34 E2:=nf (top 11) ["one", "other"] a b (H 26 (by decide)) (by wtm_at "z");have a:AA w K mg base 56 F35 E2:=nf (top 9) ["one", "other"] a b (H 27 (by decide)) (by wtm_at "z");have a:AA w K mg base 57 F36 E2:=nf (top 19) ["triangle"] a b (H 28 (by decide)) (by wtm_at "z");have a:AA w K mg base 58 F37 E2:=nf (top 10) ["one", "other"] a b (H 29 (by decide)) (by wtm_at "z");have a:AA w K mg base 59 F38 E2:=nf (top 20) ["ray", "one", "other"] a b (H 30 (by decide)) (by wtm_at "z");have a:AA w K mg base 60 F39 E2:=nf (top 21) ["ray", "one", "other"] a b (H 31 (by decide)) (by wtm_at "z");have a:AA w K mg base 61 F40 E2:=nf (top 22) ["ray", "triangle"] a b (H 32 (by decide)) (by wtm_at "z");have a:AA w K mg base 62 F41 E2:=nf (top 23) ["start", "way", "triangle"] a b (H 33 (by decide)) (by wtm_at "z");have a:AA w K mg base 63 F42 E2:=nf (top 24) ["ray", "triangle", "upright"] a b (H 34 (by decide)) (by wtm_at "z");have a:AA w K mg base 64 F43 E2:=nf (top 25) ["ray", "triangle"] a b (H 35 (by decide)) (by wtm_at "z");have a:AA w K mg base 65 F44 E2:=nf (top 31) ["ray", "shape"] a b (H 36 (by decide)) (by wtm_at "z");have a:AA w K mg base 66 F44 E3:=⟨a.1.mono (by decide),KH (C := "Scene") (x := "hits") (st:=qw 42 6) (ps:=["self", "ray"]) (n:=5) (fb:=Lk) (m:=40) a.1 a.2 (JV eO) hb (M 2 (by decide)) (λ_ _ _ _ _ _=>all2 λ_ _=>rfl) (by wtm_at "A") (by decide +kernel) (by kernel_rfl) (by kernel_rfl)⟩
   have a:AA w K mg base 67 F45 E3:=nf (top 40) ["one", "other"] a b (H 37 (by decide)) (by wtm_at "z");have a:AA w K mg base 68 F45 E4:=⟨a.1.mono (by decide),KH (C := "Scene") (x := "first") (st:=qw 42 7) (ps:=["self", "ray"]) (n:=4) (fb:=MK) (m:=40) a.1 a.2 (JV eO) hb (M 3 (by decide)) (λ_ _ _ _ _ _=>all2 λ_ _=>rfl) (by wtm_at "A") (by decide +kernel) (by kernel_rfl) (by kernel_rfl)⟩
   have a:AA w K mg base 72 F46 E4:=ziv (fb:=Gv) a b z1 (hC1 base hMd.kin) hB;have a:AA w K mg base 73 F46 E5:=⟨a.1.mono (by decide),KH (C := "Scene") (x := "every") (st:=qw 42 8) (ps:=["self", "ray"]) (n:=2) (fb:=GX) (m:=40) a.1 a.2 (JV eO) hb (M 4 (by decide)) (λ_ _ _ _ _ _=>all2 λ_ _=>rfl) (by wtm_at "A") (by decide +kernel) (by kernel_rfl) (by kernel_rfl)⟩
   have a:AA w K mg base 74 F47 E5:=nf (top 47) ["_law_one", "_law_other"] a b (H 38 (by decide)) (by wtm_at "z");have a:AA w K mg base 75 F48 E5:=nf (top 58) ["_law_script", "_law_triangles_here", "_law_sizes"] a b (H 39 (by decide)) (by wtm_at "z");have a:AA w K mg base 76 F49 E5:=nf (top 48) ["_law_one", "_law_other", "_law_i", "_law_j"] a b (H 40 (by decide)) (by wtm_at "z");have a:AA w K mg base 77 F50 E5:=nf (top 49) ["_law_point", "_law_under", "_law_one", "_law_other"] a b (H 41 (by decide)) (by wtm_at "z");have a:AA w K mg base 78 F51 E5:=nf (top 50) ["_law_point", "_law_under", "_law_corners"] a b (H 42 (by decide)) (by wtm_at "z");exact a
  exact zj7 (m:=40) (n:=20) (fb:=Gj) (fns:=F51) (E:=E5) (k:=78) (ys:=["tree_over", "in_order"]) KX G hb hmg (H 43 (by decide)) (of_decide_eq_true N6) (show pX "law" (top 59) ["_law_script"] from zvE λ_ _ _ _ _ _ _=>rfl) (by wtm_at "A") (by decide +kernel) (by kernel_rfl) (by kernel_rfl) hs zm9
end MX.K25
theorem PySem.Challenge.cw_firsthit_k25_whole_no_seam_lets_by_holds : PySem.Challenge.rw_firsthit_k25_whole_no_seam_lets_by.Holds := by
 exact MX.zni (H:=MX.ztM MX.K25.xb MX.K25.ms MX.K25.defs MX.K25.blt MX.K25.ts) (q:=MX.K25.seen) (d:=MX.K25.lawRec) MX.K25.p1 (MX.left5 MX.K25.leftA MX.K25.leftB1 MX.K25.leftB2 MX.K25.leftC1 MX.K25.leftC2) MX.K25.p2 MX.K25.p3 MX.K25.p4 MX.K25.p5 MX.K25.p6 (by w_witness2) MX.K25.call
#print axioms PySem.Challenge.cw_firsthit_k25_whole_no_seam_lets_by_holds
end
