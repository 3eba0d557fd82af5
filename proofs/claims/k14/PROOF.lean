import PyProof.Rows.All
import Wide.All
import OpenK.AllK
import Wide.FinOn
import PyProof.EqAt
import PyProof.EqKinds
import PyProof.TupleCall
import Open.Pieces
import PySem.Challenge.RW_firsthit_k14_whole_triangles_met
noncomputable section
set_option Elab.async false
set_option linter.all false
set_option maxRecDepth 100000
set_option maxHeartbeats 0
section
set_option autoImplicit false
namespace MX
open PySem PySem.Spec PySem.W PyProof.Rows
def keepO (a : Addr) (o : Obj) : Bool := match o.data with
 | .freed => false
 | _ => match o.cls with
   | .none => Nat.beq a 3
   | _ => true
def fragFrom : List Obj → Addr → PySem.W.Frag
 | [], _ => []
 | o :: r, a => bif keepO a o then (a, o) :: fragFrom r (Nat.succ a) else fragFrom r (Nat.succ a)
def fragAt (h : Heap) : PySem.W.Frag := fragFrom h.objs.toList 0
def seenDef (K : PySem.W.Frag) (x : Str) : Option (Arguments × List Stmt × Scope × Bool) := match nsIn K mainGlobals x with
 | some (some (.ref f)) => match K.lookup f with
   | some ⟨_, _, .func ⟨n, q, ps, .stmts b, sc, g, [], .none, _, _, _, _, cd, _, bn⟩, _⟩ => some (ps, b, sc, n == x && (q == x && (Nat.beq g mainGlobals && (Nat.beq bn builtinsNs && (codeIn K cd x && keepIn K (.ref f))))))
   | _ => none
 | _ => none
def seenCode (K : PySem.W.Frag) (h : Heap) (x : Str) : Option Obj × Bool := match nsIn K mainGlobals x with
 | some (some (.ref f)) => match K.lookup f with
   | some ⟨_, _, .func F, _⟩ => match F.code with
     | .ref c => match K.lookup c with
       | some ⟨_, _, .fields vs, _⟩ => match (vs[11]? : Option Value) with
         | some (.ref P) => (h.get? P, codeHdIn K c P && (K.lookup P).isNone)
         | _ => (none, false)
       | _ => (none, false)
     | _ => (none, false)
   | _ => (none, false)
 | _ => (none, false)
def dA (s : Stmt) : Arguments := match s with
 | .FunctionDef _ a _ _ _ _ _ _ _ _ => a
 | _ => { posonlyargs := [], args := [], vararg := none, kwonlyargs := [], kw_defaults := [], kwarg := none, defaults := [] }
def dB (s : Stmt) : List Stmt := match s with
 | .FunctionDef _ _ b _ _ _ _ _ _ _ => b
 | _ => []
def dS (s : Stmt) : Scope := match s with
 | .FunctionDef _ _ _ _ _ _ c _ _ _ => c
 | _ => { kind := .function, names := [], isGenerator := false, isCoroutine := false }
def defPos (s : Stmt) : Pos := match s with
 | .FunctionDef _ _ _ _ _ _ _ _ _ p => p
 | _ => ⟨0, 0, 0, 0⟩
def obsP (ds : List (Str × Stmt)) (blt : List Str) (s : Shared) : List (Option (Arguments × List Stmt × Scope × Bool)) × List (Option (Option Value)) := (ds.map λy => seenDef (fragAt s.heap) y.1, blt.map λy => nsIn (fragAt s.heap) mainGlobals y)
def valP (ds : List (Str × Stmt)) (blt : List Str) : List (Option (Arguments × List Stmt × Scope × Bool)) × List (Option (Option Value)) := (ds.map λy => some (dA y.2, dB y.2, dS y.2, true), blt.map λ_ => some none)
def obsT (ds : List (Str × Stmt)) (blt : List Str) (x : Str) (s : Shared) : (List (Option (Arguments × List Stmt × Scope × Bool)) × List (Option (Option Value))) × Option (Arguments × List Stmt × Scope × Bool) × (Option Obj × Bool) := (obsP ds blt s, seenDef (fragAt s.heap) x, seenCode (fragAt s.heap) s.heap x)
def valT (ds : List (Str × Stmt)) (blt : List Str) (st : Stmt) : (List (Option (Arguments × List Stmt × Scope × Bool)) × List (Option (Option Value))) × Option (Arguments × List Stmt × Scope × Bool) × (Option Obj × Bool) := (valP ds blt, some (dA st, dB st, dS st, true), (some (tabObj #[]), true))
end MX
end
section
set_option autoImplicit false
section
namespace MX
open PySem PySem.Spec PySem.W PyProof.Rows
noncomputable def tQ1:List Obj->BT->Nat->Option (BT×Nat)
 |[],T,n=>some (T,n)
 |o::r,T,n=>match((T.ins n o).get n).isSome with
  |true=>tQ1 r (T.ins n o) (n+1)
  |false=>none
theorem tQ2{v:Life}:∀{l:List Obj}{T:BT}{n:Nat}{T':BT}{n':Nat}{a:Array Obj},absHeap T n v=⟨a,v⟩->tQ1 l T n=some (T',n')->absHeap T' n' v=⟨a++l.toArray,v⟩
 |[],T,n,T',n',a,e,h=>by cases h;rw[e];simp
 |o::r,T,n,T',n',a,e,h=>by
  unfold tQ1 at h;split at h
  . rename_i g;have e2:absHeap (T.ins n o) (n+1) v=⟨a.push o,v⟩:=by rw[absHeap_ins g,e];rfl
    rw[tQ2 e2 h];simp
  . cases h
noncomputable def tQ3(p:Program)(w:World)(m:Nat)(z:Option Value):Nat->SharedT->Thread->Option SharedT
 |0,_,_=>none
 |n+1,s,t=>match through t with
  |true=>some s
  |false=>match stepOk m z t with
   |false=>none
   |true=>match stepT (denote treeTable) p w s t with
    |some (s',t')=>tQ3 p w m z n s' t'
    |none=>none
theorem tQ4{p:Program}{w:World}{m:Nat}{z:Option Value}:∀{n:Nat}{s s':SharedT}{t:Thread},tQ3 p w m z n s t=some s'->topRun treeTable p w m z n s.abs t=some s'.abs
 |0,_,_,_,h=>by cases h
 |n+1,s,s',t,h=>by
  unfold tQ3 at h;unfold topRun;cases ht:through t with
  |true=>rw[ht] at h;cases h;rfl
  |false=>
   rw[ht] at h;cases hk:stepOk m z t with
   |false=>rw[hk] at h;cases h
   |true=>
    rw[hk] at h;cases hs:stepT (denote treeTable) p w s t with
    |none=>rw[hs] at h;cases h
    |some r=>obtain⟨s₂,t₂⟩:=r;rw[hs] at h;rw[stepT_spec hs];exact tQ4 h
noncomputable def tQ5(p:Program)(w:World)(N:Nat)(os:OsState):Option SharedT:=let b:=boot_heap w.params;match b.isNs mainGlobals with
 |false=>none
 |true=>(tQ1 b.objs.toList .nil 0).bind λx=>(tQ3 p w b.objs.size (b.nsMap mainGlobals "__annotations__") N ⟨x.1,x.2,b.life,#[],boot_drawn,boot_toks,os⟩ (topStub p)).bind λs=>match staticsOk (importedModules p.main.body) b s.abs.heap&&namesBound p s.abs.heap&&gensDone s.abs&&laidKept b s.abs.heap with
  |true=>some s
  |false=>none
theorem tQ6{p:Program}{w:World}{N:Nat}{α:Type}{look:Shared->α}{a:α}(e:opening p=plainProg p.main.scope.names)(hN:Nat.ble 600 N=true)(f:∀s,fenceModules? p s=some s)(h:∀os,(tQ5 p w N os).map (λs=>look s.abs)=some a):(openEnds treeTable p w N).map look=some a:=by
 obtain⟨⟨hp,gs,d,k,os⟩,e1,e2⟩:=Option.map_eq_some_iff.mp (boot_open e hN f w);obtain⟨rfl,rfl,rfl,rfl⟩:hp=boot_heap w.params∧gs=#[]∧d=boot_drawn∧k=boot_toks:=by simpa using e2
 obtain⟨s,h1,h2⟩:=Option.map_eq_some_iff.mp (h os);unfold tQ5 at h1;dsimp only at h1;split at h1
 . cases h1
 . rename_i hns;obtain⟨⟨T,n⟩,h3,h4⟩:=Option.bind_eq_some_iff.mp h1;obtain⟨s₂,h5,h6⟩:=Option.bind_eq_some_iff.mp h4;split at h6
   . rename_i hst;cases h6;have z:absHeap T n (boot_heap w.params).life=boot_heap w.params:=by have:=tQ2 (v:=(boot_heap w.params).life) (a:=#[]) rfl h3;rw[this];simp
     have r:=tQ4 h5;rw[show SharedT.abs ⟨T,n,(boot_heap w.params).life,#[],boot_drawn,boot_toks,os⟩=⟨boot_heap w.params,#[],boot_drawn,boot_toks,os⟩ by unfold SharedT.abs;dsimp only;rw[z]] at r
     unfold openEnds;rw[e1];show((topFrom treeTable p w N _)).map look=_;unfold topFrom;dsimp only;rw[hns,r];show(match(_:Bool) with|true=>some s.abs|false=>none).map look=_;rw[hst];exact congrArg some h2
   . cases h6
end MX
end
namespace MX.K14
open PySem PySem.Spec PySem.W PyProof.Rows MX
abbrev PP : Program := PySem.Challenge.pw_firsthit_k14_whole_triangles_met
abbrev PG : Program := PySem.Challenge.rw_firsthit_k14_whole_triangles_met.prog
def top (i : Nat) : Stmt := PP.main.body.getD i (.Pass ⟨0, 0, 0, 0⟩)
def blt : List Str := ["len", "abs", "min", "max", "isinstance", "all", "any", "sum", "sorted", "tuple", "list", "range", "zip", "int", "bool", "str"]
def nm (s : Stmt) : Str := match s with
 | .FunctionDef n _ _ _ _ _ _ _ _ _ => n
 | _ => ""
def ixs : List Nat := [1, 2, 3, 4, 5, 6, 8, 9, 10, 11, 12, 13, 14, 16, 17, 18, 24, 25, 26, 27, 28, 29, 31, 32, 33, 34, 35, 36, 37, 38, 39, 40, 41, 42, 43, 44, 45, 46, 47, 48, 49, 50, 51, 52]
def defs : List (Str × Stmt) := ixs.map λi => (nm (top i), top i)
def seen : Program := view PP [1, 2, 3, 4, 5, 6, 8, 9, 10, 11, 12, 13, 14, 16, 17, 18, 20, 21, 22, 24, 25, 26, 27, 28, 29, 31, 32, 33, 34, 35, 36, 37, 38, 39, 40, 41, 42, 43, 44, 45, 46, 47, 48, 49, 50, 51, 52, 53]
def lawRec : DefRec := ⟨"law", dA (top 53), dB (top 53), dS (top 53), defPos (top 53)⟩
theorem tQ7:opening PP=plainProg PP.main.scope.names:=by kernel_rfl
theorem tQ8:∀s,fenceModules? PP s=some s:=by intro s;kernel_rfl
theorem left : LeftO PP seen [] (λ_ => true) (obsT defs blt "law") (λ_ => valT defs blt (top 53)) 5184 :=λw=>tQ6 tQ7 rfl tQ8 λos=>by kernel_rfl
abbrev LW:=PySem.Challenge.rw_firsthit_k14_whole_triangles_met
def p1:LW.wellSaid=true:=by kernel_rfl
def p2:defOf seen LW.name=some (lawRec,[]):=by kernel_rfl
def p3:LW.prog.theDef LW.name=some (lawRec.params,lawRec.body,lawRec.scope):=by kernel_rfl
def p4:kwWritten? lawRec.params.kwonlyargs lawRec.params.kw_defaults=some []:=by kernel_rfl
def p5:(chainsOk seen&&opensWell LW.prog&&(frees LW.row.toRowW&&LW.row.within.isEmpty))=true:=by kernel_rfl
def p6:LW.prog.bare:=⟨rfl,rfl,rfl,rfl,rfl,by decide +kernel⟩
end MX.K14
end
section
namespace L2
open PySem PySem.Spec PyProof.Rows
abbrev Key := Sum Int Str
def keyIs : Key → Value → Bool
 | .inl k, v => Value.isInt k v
 | .inr x, v => Value.isStrOf x v
def keyH (w : World) : Key → Int
 | .inl k => hashInt k
 | .inr x => hashStr w x
theorem zaN : ∀ {k : Key} {v : Value}, keyIs k v = true → (∃ i t, k = Sum.inl i ∧ v = Value.int i t) ∨ (∃ x t, k = Sum.inr x ∧ v = Value.str x t)
 | .inl i, v, h => by
   obtain ⟨t, e⟩ := Value.isInt_shape (k := i) (v := v) h
   exact .inl ⟨i, t, rfl, e⟩
 | .inr x, v, h => by
   obtain ⟨t, e⟩ := Value.isStrOf_shape (x := x) (v := v) h
   exact .inr ⟨x, t, rfl, e⟩
theorem zny (a b : Int) : decide ((Sum.inl a : Key) = Sum.inl b) = (a == b) := by
 by_cases e : a = b
 · subst e; simp
 · have h : ¬ (Sum.inl a : Key) = Sum.inl b := λq => e (Sum.inl.inj q)
   rw [decide_eq_false h]
   exact (beq_eq_false_iff_ne.mpr e).symm
theorem znv (a b : Str) : decide ((Sum.inr a : Key) = Sum.inr b) = decide (a = b) := by
 by_cases e : a = b
 · subst e; simp
 · have h : ¬ (Sum.inr a : Key) = Sum.inr b := λq => e (Sum.inr.inj q)
   rw [decide_eq_false h, decide_eq_false e]
theorem znx (a : Int) (b : Str) : decide ((Sum.inl a : Key) = Sum.inr b) = false := decide_eq_false (λq => nomatch q)
theorem znw (a : Str) (b : Int) : decide ((Sum.inr a : Key) = Sum.inl b) = false := decide_eq_false (λq => nomatch q)
def mixKind (prog : Program) (w : World) : PySem.KeyKind prog w Key where
 is := keyIs
 hash := keyH w
 inj := λv a b ha hb => by
   rcases zaN ha with ⟨i, t, rfl, rfl⟩ | ⟨x, t, rfl, rfl⟩
   · rcases zaN hb with ⟨j, u, rfl, e⟩ | ⟨y, u, rfl, e⟩
     · injection e with e1 _; rw [e1]
     · exact nomatch e
   · rcases zaN hb with ⟨j, u, rfl, e⟩ | ⟨y, u, rfl, e⟩
     · exact nomatch e
     · injection e with e1 _; rw [e1]
 byValue := λk v h => by
   rcases zaN h with ⟨i, t, rfl, rfl⟩ | ⟨x, t, rfl, rfl⟩ <;> rfl
 pyHash := λhv h => by
   rcases zaN hv with ⟨i, t, rfl, rfl⟩ | ⟨x, t, rfl, rfl⟩
   · exact wpAny_pyHash_int h
   · exact wpAny_pyHash_str h
 eqBool := λhu hv h => by
   rcases zaN hu with ⟨i, t, rfl, rfl⟩ | ⟨x, t, rfl, rfl⟩
   · rcases zaN hv with ⟨j, u, rfl, rfl⟩ | ⟨y, u, rfl, rfl⟩
     · rw [zny] at h; exact wpAny_eqBool_int h
     · rw [znx] at h; exact SeqAt.EqAt.int_str i t y u _ _ _ _ h
   · rcases zaN hv with ⟨j, u, rfl, rfl⟩ | ⟨y, u, rfl, rfl⟩
     · rw [znw] at h; exact SeqAt.EqAt.str_int x t j u _ _ _ _ h
     · rw [znv] at h; exact wpAny_eqBool_str h
 «strs» := λk x t v h => by
   rcases zaN h with ⟨i, u, rfl, e⟩ | ⟨y, u, rfl, e⟩
   · exact nomatch e
   · injection e with e1 _
     subst e1
     cases v <;> rfl
end L2
namespace L2
open PySem PySem.Spec PyProof.Rows
inductive V where
 | non | bl (b : Bool) | int (i : Int) | str (x : Str) | byt (b : Array UInt8) | flt (b : UInt64) | ref (a : Addr) | ty (n : String)
 deriving DecidableEq
def RelV : V → Value → Prop
 | .non, u => u = Value.none
 | .bl b, u => u = Value.bool b
 | .int i, u => ∃ t, u = Value.int i t
 | .str x, u => ∃ t, u = Value.str x t
 | .byt b, u => ∃ t, u = Value.bytes b t
 | .flt b, u => ∃ t, u = Value.float b t
 | .ref a, u => u = Value.ref a
 | .ty n, u => u = Value.type n
abbrev Vals : List V → List Value → Prop := Paired RelV
theorem Vals.length {xs : List V} {us : List Value} (r : Vals xs us) : xs.length = us.length := Paired.length r
theorem Vals.get : ∀ {xs : List V} {us : List Value} {i : Nat} {x : V}, Vals xs us → xs[i]? = some x → ∃ u, us[i]? = some u ∧ RelV x u
 | _, _, _, _, .nil, e => by simp at e
 | _, _, 0, _, .cons r _, e => by simp at e; subst e; exact ⟨_, rfl, r⟩
 | _, _, i + 1, x, .cons _ t, e => by
   obtain ⟨u, h1, h2⟩ := Vals.get (i := i) (x := x) t (by simpa using e)
   exact ⟨u, by simpa using h1, h2⟩
theorem Vals.set {x : V} {u : Value} (r : RelV x u) : ∀ {xs : List V} {us : List Value} (i : Nat), Vals xs us → Vals (xs.set i x) (us.set i u)
 | _, _, _, .nil => .nil
 | _, _, 0, .cons _ t => .cons r t
 | _, _, i + 1, .cons q t => .cons q (Vals.set r i t)
theorem Vals.append : ∀ {xs ys : List V} {us ws : List Value}, Vals xs us → Vals ys ws → Vals (xs ++ ys) (us ++ ws)
 | _, _, _, _, .nil, s => s
 | _, _, _, _, .cons r t, s => .cons r (Vals.append t s)
theorem Vals.take : ∀ {xs : List V} {us : List Value} (n : Nat), Vals xs us → Vals (xs.take n) (us.take n)
 | _, _, 0, _ => .nil
 | _, _, _ + 1, .nil => .nil
 | _, _, n + 1, .cons r t => .cons r (Vals.take n t)
theorem Vals.drop : ∀ {xs : List V} {us : List Value} (n : Nat), Vals xs us → Vals (xs.drop n) (us.drop n)
 | _, _, 0, r => r
 | _, _, _ + 1, .nil => .nil
 | _, _, n + 1, .cons _ t => Vals.drop n t
theorem Vals.none_of : ∀ {xs : List V} {us : List Value} {i : Nat}, Vals xs us → xs[i]? = none → us[i]? = none := λ{xs us i} r e => by
 have h1 := r.length
 have h2 : xs.length ≤ i := List.getElem?_eq_none_iff.mp e
 exact List.getElem?_eq_none_iff.mpr (by omega)
def RelO : Option V → Option Value → Prop
 | some v, some u => RelV v u
 | none, none => True
 | _, _ => False
def KV {κ : Type} : List (κ × V) → List (κ × Value) → Prop := Paired λ(p : κ × V) (q : κ × Value) => p.1 = q.1 ∧ RelV p.2 q.2
def kV : Key → V
 | .inl i => .int i
 | .inr x => .str x
inductive HO where
 | lst (xs : List V)
 | tup (xs : List V)
 | dK (kvs : List (Key × V)) | dT (kvs : List (List Key × V))
 | set (S : Int → Bool) (n : Nat)
 | ins (C dx : Addr) (fs : List (Str × V))
 | own (x : Addr)
 | xd (fs : List (Str × V))
 | met (f x : Addr)
 | rng (lo hi : Int)
 | frz (o : Obj) (u : HO)
 | tbl (ps : Array Value)
 | ext (φ : Heap → Prop)
abbrev Hp := Addr → Option HO
def upd (H : Hp) (a : Addr) (o : HO) : Hp := λb => if b = a then some o else H b
theorem zaw {H : Hp} {a : Addr} {o : HO} : upd H a o a = some o := by unfold upd; rw [if_pos rfl]
theorem zaq {H : Hp} {a b : Addr} {o : HO} (h : b ≠ a) : upd H a o b = H b := by unfold upd; rw [if_neg h]
theorem zlC {H : Hp} {a b : Addr} {o u : HO} (h : H a = some o) (h' : H b = some u) (d : o ≠ u) : a ≠ b := by
 intro e; subst e; rw [h] at h'; exact d (Option.some.inj h')
theorem zan {H : Hp} {a b : Addr} {o : HO} (h : H a = some o) (h' : H b = none) : a ≠ b := by
 intro e; subst e; rw [h] at h'; cases h'
section
variable (P : Program) (w : World)
def ObjOk (H : Hp) (h : Heap) (a : Addr) : HO → Prop
 | .lst xs => xs.length ≤ sizeLine ∧ ∃ (its : List Value) (n : Nat), Vals xs its ∧ h.get? a = some { cls := .type "list", data := .seq its.toArray n }
 | .tup xs => xs.length ≤ sizeLine ∧ ∃ its : List Value, Vals xs its ∧ IsTup h a its.toArray
 | .dK kvs => kvs.length ≤ sizeLine ∧ (a == sysModules) = false ∧ ∃ vs, KV kvs vs ∧ h.DictOf (mixKind P w) a vs
 | .dT kvs => kvs.length ≤ sizeLine ∧ (a == sysModules) = false ∧ ∃ xs : List (List Key × Addr × Value),
     Paired (λ(p : List Key × V) (q : List Key × Addr × Value) => p.1 = q.1 ∧ H q.2.1 = some (.tup (p.1.map kV)) ∧ RelV p.2 q.2.2) kvs xs ∧
     ∃ o es ep, h.get? a = some o ∧ o.ExactDict ∧ o.data = .dict es ep ∧ es.toList = xs.map (entryOfKey (tupleKind (mixKind P w))) ∧ (xs.map (·.1)).Nodup
 | .set S n => h.SetOf (intKind P w) a S n
 | .ins C dx fs => H dx = some (.own a) ∧ fs.length ≤ 1000 ∧ dx ≠ a ∧ h.get? a = some (PySem.W.instObj C dx) ∧
     ∃ mA, h.Ns1 dx mA ∧ (∀ f, RelO (fs.lookup f) (mA f)) ∧ PySem.Within mA (fs.map (·.1))
 | .own _ => ∃ o, h.get? a = some o
 | .xd fs => ∃ mA, h.Ns1 a mA ∧ ∀ f, RelO (fs.lookup f) (mA f)
 | .rng lo hi => ∃ t u v, h.get? a = some { cls := .type "range", data := .fields #[.int lo t, .int hi u, .int 1 v] }
 | .frz o u => h.get? a = some o ∧ ObjOk H h a u
 | .tbl ps => h.get? a = some { cls := .none, data := .fields ps } ∧ TriplesOk ps.toList ∧ ∀ pos cv, codeAmong pos ps.toList = some cv → ∃ c q oc vs t, cv = Value.ref c ∧ H c = some (.own a) ∧ h.get? c = some oc ∧ oc.data = .fields vs ∧ vs[1]? = some (.str q t)
 | .met f x => h.get? a = some (PySem.W.methodObj (.ref f) (.ref x))
 | .ext φ => φ h ∧ (∃ o, h.get? a = some o) ∧ ∀ h1 h2 : Heap, φ h1 → (∀ o, h1.get? a = some o → h2.get? a = some o) → φ h2
def HOk (H : Hp) (h : Heap) : Prop := ∀ a o, H a = some o → ObjOk P w H h a o
end
section
variable {P : Program} {w : World} {H H' : Hp} {h h' : Heap} {a : Addr} {o : HO}
theorem ObjOk.lt (x : ObjOk P w H h a o) : a < h.objs.size := by
 cases o with
 | lst xs => obtain ⟨_, _, _, _, e⟩ := x; exact Heap.lt_size e
 | tup xs => obtain ⟨_, _, _, p⟩ := x; exact p.lt
 | dK kvs => obtain ⟨_, _, _, _, o, _, _, e, _⟩ := x; exact Heap.lt_size e
 | dT kvs => obtain ⟨_, _, _, _, o, _, _, e, _⟩ := x; exact Heap.lt_size e
 | set S n => obtain ⟨o, _, _, _, e, _⟩ := x; exact Heap.lt_size e
 | ins C dx fs => obtain ⟨_, _, _, e, _⟩ := x; exact Heap.lt_size e
 | own y => obtain ⟨_, e⟩ := x; exact Heap.lt_size e
 | xd fs => obtain ⟨_, ⟨_, _, _, e, _⟩, _⟩ := x; exact Heap.lt_size e
 | rng lo hi => obtain ⟨_, _, _, e⟩ := x; exact Heap.lt_size e
 | frz ob u => obtain ⟨e, _⟩ := x; exact Heap.lt_size e
 | tbl ps => exact Heap.lt_size x.1
 | met f y => exact Heap.lt_size (show h.get? a = some _ from x)
 | ext φ => obtain ⟨_, ⟨_, e⟩, _⟩ := x; exact Heap.lt_size e
theorem Paired.mapP {α β : Type} {F G : α → β → Prop} : ∀ {l₁ : List α} {l₂ : List β}, Paired F l₁ l₂ → (∀ a b, F a b → G a b) → Paired G l₁ l₂
 | _, _, .nil, _ => .nil
 | _, _, .cons r t, f => .cons (f _ _ r) (Paired.mapP t f)
theorem ObjOk.stay (x : ObjOk P w H h a o) (k : ∀ b u, (b = a ∨ H b = some (.own a)) → h.get? b = some u → h'.get? b = some u)
   (ho : ∀ b, H b = some (.own a) → H' b = some (.own a)) (ht : ∀ b xs, H b = some (.tup xs) → H' b = some (.tup xs)) : ObjOk P w H' h' a o := by
 induction o with
 | lst xs => obtain ⟨z, its, n, r, e⟩ := x; exact ⟨z, its, n, r, k _ _ (.inl rfl) e⟩
 | tup xs => obtain ⟨z, its, r, ob, e, c⟩ := x; exact ⟨z, its, r, ob, k _ _ (.inl rfl) e, c⟩
 | dK kvs => obtain ⟨z, y, vs, r, ob, es, ep, e, c⟩ := x; exact ⟨z, y, vs, r, ob, es, ep, k _ _ (.inl rfl) e, c⟩
 | dT kvs =>
   obtain ⟨z, y, xs, r, ob, es, ep, e, c⟩ := x
   exact ⟨z, y, xs, Paired.mapP r λp q z => ⟨z.1, ht _ _ z.2.1, z.2.2⟩, ob, es, ep, k _ _ (.inl rfl) e, c⟩
 | set S n => obtain ⟨ob, es, ep, t, e, c⟩ := x; exact ⟨ob, es, ep, t, k _ _ (.inl rfl) e, c⟩
 | ins C dx fs =>
   obtain ⟨d, z, ne, e, mA, ⟨od, es, ep, e2, c⟩, r⟩ := x
   exact ⟨ho _ d, z, ne, k _ _ (.inl rfl) e, mA, ⟨od, es, ep, k _ _ (.inr d) e2, c⟩, r⟩
 | own y => obtain ⟨ob, e⟩ := x; exact ⟨ob, k _ _ (.inl rfl) e⟩
 | xd fs => obtain ⟨mA, ⟨od, es, ep, e, c⟩, r⟩ := x; exact ⟨mA, ⟨od, es, ep, k _ _ (.inl rfl) e, c⟩, r⟩
 | rng lo hi => obtain ⟨t, u, v, e⟩ := x; exact ⟨t, u, v, k _ _ (.inl rfl) e⟩
 | frz ob u ih => obtain ⟨e, q⟩ := x; exact ⟨k _ _ (.inl rfl) e, ih q⟩
 | tbl ps =>
   obtain ⟨e, h1, h2⟩ := x
   refine ⟨k a _ (.inl rfl) e, h1, λpos cv q => ?_⟩
   obtain ⟨c, q, oc, vs, t, e1, e2, e3, e4⟩ := h2 pos cv q
   exact ⟨c, q, oc, vs, t, e1, ho _ e2, k _ _ (.inr e2) e3, e4⟩
 | met f y =>
   have e : h.get? a = some (PySem.W.methodObj (.ref f) (.ref y)) := x
   show h'.get? a = some (PySem.W.methodObj (.ref f) (.ref y))
   exact k a _ (.inl rfl) e
 | ext φ => obtain ⟨p, ⟨o, e⟩, st⟩ := x; exact ⟨st _ _ p λo q => k _ _ (.inl rfl) q, ⟨o, k _ _ (.inl rfl) e⟩, st⟩
theorem HOk.lt (x : HOk P w H h) (e : H a = some o) : a < h.objs.size := (x a o e).lt
theorem HOk.fresh (x : HOk P w H h) (e : h.objs.size ≤ a) : H a = none := by
 cases q : H a with
 | none => rfl
 | some u => exact absurd (Nat.lt_of_lt_of_le (x.lt q) e) (Nat.lt_irrefl _)
theorem HOk.kept (x : HOk P w H h) (k : ∀ b u, h.get? b = some u → h'.get? b = some u) : HOk P w H h' := λa o e =>
 (x a o e).stay (λb u _ q => k b u q) (λ_ q => q) λ_ _ q => q
theorem HOk.laid (x : HOk P w H h) (k : ∀ b u, h.get? b = some u → h'.get? b = some u) (hp : h.objs.size ≤ a) (new : ObjOk P w (upd H a o) h' a o) : HOk P w (upd H a o) h' := λb u e => by
 have hn := x.fresh hp
 by_cases hb : b = a
 · subst hb; rw [zaw] at e; cases e; exact new
 · rw [zaq hb] at e
   exact (x b u e).stay (λc v _ q => k c v q) (λc q => by rw [zaq (zan q hn)]; exact q) λc xs q => by rw [zaq (zan q hn)]; exact q
end
def Rd (H : Hp) (a : Addr) (u : HO) : Prop := H a = some u ∨ ∃ o, H a = some (.frz o u)
theorem Rd.ok {P : Program} {w : World} {H : Hp} {h : Heap} {a : Addr} {u : HO} (r : Rd H a u) (x : HOk P w H h) : ObjOk P w H h a u := by
 rcases r with r | ⟨o, r⟩
 · exact x a u r
 · obtain ⟨_, q⟩ := x a _ r
   exact q
def Mut : Option HO → Prop
 | some (.lst _) => True
 | some (.dK _) => True
 | some (.dT _) => True
 | some (.set _ _) => True
 | some (.ins _ _ _) => True
 | some (.ext _) => True
 | _ => False
section
variable {P : Program} {w : World} {H : Hp} {h h' : Heap} {x e : Addr} {o' : HO}
theorem HOk.write (ok : HOk P w H h) (mu : Mut (H x)) (he : e = x ∨ H e = some (.own x)) (k : ∀ b u, b ≠ e → h.get? b = some u → h'.get? b = some u) (heo : ∃ u, h'.get? e = some u)
   (new : ObjOk P w (upd H x o') h' x o') : HOk P w (upd H x o') h' := λb u q => by
 have nown : ∀ c y, H c = some (.own y) → c ≠ x := λc y r z => by subst z; rw [r] at mu; exact mu
 have ntup : ∀ c xs, H c = some (.tup xs) → c ≠ x := λc xs r z => by subst z; rw [r] at mu; exact mu
 by_cases hb : b = x
 · subst hb; rw [zaw] at q; cases q; exact new
 · rw [zaq hb] at q
   by_cases hbe : b = e
   · have q' : H b = some (.own x) := by
       rcases he with z | z
       · exact absurd (hbe.trans z) hb
       · rw [hbe]; exact z
     rw [q] at q'; cases q'
     obtain ⟨v, hv⟩ := heo
     exact ⟨v, by rw [hbe]; exact hv⟩
   · refine (ok b u q).stay (λc v hc r => k c v ?_ r) (λc r => by rw [zaq (nown c b r)]; exact r) λc xs r => by rw [zaq (ntup c xs r)]; exact r
     rcases hc with rfl | hc
     · exact hbe
     · rintro rfl
       rcases he with z | z
       · exact nown c b hc z
       · rw [hc] at z; cases z; exact hb rfl
end
structure Un (fs ex : List Addr) (H H' : Hp) (h h' : Heap) : Prop where
 keep : ∀ b o, h.get? b = some o → H b = none → b ∉ fs → b ∉ ex → h'.get? b = some o
 slot : ∀ b o, h.get? b = some o → H b = none → b ∈ fs → b ∉ ex → ∃ sl, h'.get? b = some { o with slots := sl }
 free : ∀ b o, h.get? b = some o → H b = none → b ∉ ex → H' b = none
 there : ∀ b o, h.get? b = some o → b ∉ ex → ∃ o', h'.get? b = some o'
 tups : ∀ b xs, H b = some (.tup xs) → H' b = some (.tup xs)
 frzs : ∀ b o u, H b = some (.frz o u) → H' b = some (.frz o u)
 tbls : ∀ b ps, H b = some (.tbl ps) → ∃ more, H' b = some (.tbl (ps ++ more))
section
variable {fs fs' ex ex' : List Addr} {H H1 H2 : Hp} {h h1 h2 h' : Heap} {a x e : Addr} {o : HO}
theorem Un.any (u : Un fs ex H H1 h h1) {b : Addr} {ob : Obj} (q : h.get? b = some ob) (n : H b = none) (hx : b ∉ ex) : ∃ sl, h1.get? b = some { ob with slots := sl } := by
 by_cases hb : b ∈ fs
 · exact u.slot b ob q n hb hx
 · exact ⟨ob.slots, u.keep b ob q n hb hx⟩
theorem Un.kept (k : ∀ b u, h.get? b = some u → h'.get? b = some u) : Un fs ex H H h h' :=
 ⟨λb ob q _ _ _ => k b ob q, λb ob q _ _ _ => ⟨ob.slots, k b ob q⟩, λ_ _ _ n _ => n, λb ob q _ => ⟨ob, k b ob q⟩, λ_ _ q => q, λ_ _ _ q => q, λ_ ps q => ⟨#[], by rw [q]; simp⟩⟩
theorem Un.refl : Un fs ex H H h h := Un.kept λ_ _ q => q
theorem Un.laid (k : ∀ b u, h.get? b = some u → h'.get? b = some u) (hp : h.objs.size ≤ a) (hn : H a = none) : Un fs ex H (upd H a o) h h' where
 keep := λb u q _ _ _ => k b u q
 slot := λb u q _ _ _ => ⟨u.slots, k b u q⟩
 free := λb u q n _ => by rw [zaq (Nat.ne_of_lt (Nat.lt_of_lt_of_le (Heap.lt_size q) hp))]; exact n
 there := λb u q _ => ⟨u, k b u q⟩
 tups := λb xs q => by rw [zaq (zan q hn)]; exact q
 frzs := λb u xs q => by rw [zaq (zan q hn)]; exact q
 tbls := λb ps q => ⟨#[], by rw [zaq (zan q hn), q]; simp⟩
theorem Un.write (mu : Mut (H x)) (he : e = x ∨ H e = some (.own x)) (k : ∀ b u, b ≠ e → h.get? b = some u → h'.get? b = some u) (heo : ∃ u, h'.get? e = some u) : Un fs ex H (upd H x o) h h' := by
 have hx : ∀ b, H b = none → b ≠ x := λb n z => by subst z; rw [n] at mu; exact mu
 have hb : ∀ b, H b = none → b ≠ e := λb n z => by
   subst z
   rcases he with r | r
   · exact hx b n r
   · rw [n] at r; cases r
 have hm : ∀ b u, H b = some u → ¬ Mut (some u) → b ≠ x := λb u q nm z => by subst z; rw [q] at mu; exact nm mu
 refine ⟨λb u q n _ _ => k b u (hb b n) q, λb u q n _ _ => ⟨u.slots, k b u (hb b n) q⟩, λb u q n _ => by rw [zaq (hx b n)]; exact n, λb u q _ => ?_,
   λb xs q => by rw [zaq (hm b _ q λz => z)]; exact q, λb u xs q => by rw [zaq (hm b _ q λz => z)]; exact q, λb ps q => ⟨#[], by rw [zaq (hm b _ q λz => z), q]; simp⟩⟩
 by_cases hbe : b = e
 · subst hbe; exact heo
 · exact ⟨u, k b u hbe q⟩
end
def trk (h : Heap) (H : Hp) : List Addr := (List.range h.objs.size).filter λa => (H a).isSome
def hidT (h : Heap) (H : Hp) : Heap := PySem.W.hideAll h (trk h H)
theorem zit (h : Heap) (H : Hp) : (hidT h H).objs.size = h.objs.size := PySem.W.hideAll_size _ _
theorem zjJ {h : Heap} {H : Hp} {b : Addr} {o : Obj} (e : h.get? b = some o) (n : H b = none) : (hidT h H).get? b = some o :=
 PySem.W.hideAll_get _ e λhm => by
   have q : (H b).isSome = true := (List.mem_filter.mp hm).2
   rw [n] at q; simp at q
theorem zlA {h : Heap} {H : Hp} {b : Addr} {o : Obj} (e : (hidT h H).get? b = some o) : h.get? b = some o ∧ H b = none := by
 have e' : h.get? b = some o := PySem.W.of_hideAll (trk h H) e
 refine ⟨e', ?_⟩
 cases q : H b with
 | none => rfl
 | some x =>
   have hm : b ∈ trk h H := List.mem_filter.mpr ⟨List.mem_range.mpr (Heap.lt_size e'), by simp [q]⟩
   have z : (hidT h H).get? b = none := PySem.W.hideAll_none (trk h H) hm
   rw [z] at e; cases e
end L2
namespace L2
open PySem PySem.Spec PyProof.Rows
structure Mod (K : PySem.W.Frag) (mg : Str → Option Value) (base : Heap) : Prop where
 kin : K.In base
 glob : base.Ns mainGlobals mg
 blt : ∃ mb, base.Ns builtinsNs mb ∧ ∀ x : Str, x ≠ "__name__" → mb x = bootBuiltins x
 nolimit : base.NoLimit
structure Cx where
 prog : Program
 w : World
 K : PySem.W.Frag
 mg : Str → Option Value
 base : Heap
 A : Around
 N : List Str
 s₀ : Shared
 H₀ : Hp
 env : Env
 outer : List Env
 stack : List Env
 ex : List Addr
 fn : Str → Bool
 calm : Bool
 pn : List (Addr × Obj)
 xe : Value → Shared → Prop
def frs (l : List Env) : List Addr := l.filterMap (·.frame)
abbrev Cx.fs (X : Cx) : List Addr := frs X.outer
def Vis (sc : Scope) (x : Str) : Prop := sc.names.lookup x = some .local ∨ sc.names.lookup x = some .cell ∨ sc.names.lookup x = some .free
def Loc (sc : Scope) (x : Str) : Prop := sc.names.lookup x = some .local ∨ sc.names.lookup x = some .cell
def Look (env : Env) (h : Heap) (m : Str → Option Value) (x : Str) (u : Value) : Prop :=
 (env.kindOf x = some .local ∧ m x = some u) ∨ ((env.kindOf x = some .cell ∨ env.kindOf x = some .free) ∧ ∃ c, env.cells.lookup x = some c ∧ h.IsCell c (some u))
structure Cx.Ok (X : Cx) : Prop where
 mod : Mod X.K X.mg X.base
 kind : X.env.scope.kind = .function
 glob : X.env.globals = mainGlobals
 blt : X.env.builtins = builtinsNs
 above : X.s₀.heap.objs.size ≤ X.env.locals
 inj : ∀ x y c, X.env.cells.lookup x = some c → X.env.cells.lookup y = some c → x = y
 has : ∀ x, (X.env.kindOf x = some .cell ∨ X.env.kindOf x = some .free) → ∃ c, X.env.cells.lookup x = some c
 cab : ∀ x c, X.fn x = true → X.env.cells.lookup x = some c → X.s₀.heap.objs.size ≤ c
 hd : X.calm = true → X.A.handled = none
 frames : X.A.frames = some X.stack
 stk : X.stack = X.outer ∨ (X.stack = X.env :: X.outer ∧ X.env.frame = some X.env.locals)
 exf : ∀ b ∈ X.ex, b ≠ X.env.locals ∧ ∀ x c, X.env.cells.lookup x = some c → c ≠ b
 bs : ∀ b o, X.base.get? b = some o → X.s₀.heap.get? b = some o ∧ X.H₀ b = none
 bsz : X.base.objs.size ≤ X.s₀.heap.objs.size
 noex : ∀ b o, X.base.get? b = some o → b ∉ X.ex
 exfs : ∀ b ∈ X.ex, b ∉ X.fs
 funs : X.s₀.heap.FunFrames X.base X.outer
 frf : ∀ b ∈ X.fs, X.H₀ b = none
structure Inv (X : Cx) (pins : List (Addr × Obj)) (σ : List (Option V)) (H : Hp) (s : Shared) : Prop where
 ok : X.Ok
 os : s.os = X.s₀.os
 bare : AllBare s.gens
 base : Un X.fs X.ex X.H₀ H X.s₀.heap s.heap
 loc : ∃ m, s.heap.Ns X.env.locals m ∧ ∀ (i : Nat) (x : Str) (v : V), X.N[i]? = some x → σ[i]? = some (some v) → Vis X.env.scope x → ∃ u, RelV v u ∧ Look X.env s.heap m x u
 cell : ∀ x c, X.env.cells.lookup x = some c → ∃ v, s.heap.IsCell c v
 free : H X.env.locals = none
 freeC : ∀ x c, X.env.cells.lookup x = some c → H c = none
 pin : ∀ p ∈ X.pn ++ pins, s.heap.get? p.1 = some p.2 ∧ H p.1 = none ∧ p.1 ≠ X.env.locals ∧ p.1 ∉ X.fs ∧ ∀ v, p.2.data ≠ .cell v
 hok : HOk X.prog X.w H s.heap
 len : σ.length = X.N.length
section
variable {X : Cx} {pins : List (Addr × Obj)} {σ : List (Option V)} {H H' : Hp} {s : Shared} {h' : Heap}
theorem Cx.Ok.nofr (ok : X.Ok) {b : Addr} {o : Obj} (e : X.base.get? b = some o) : b ∉ X.fs := λhb => by
 have := (ok.funs.mem hb).1
 rw [e] at this; cases this
theorem Inv.bs (I : Inv X pins σ H s) : ∀ b o, X.base.get? b = some o → s.heap.get? b = some o ∧ H b = none := λb o e =>
 ⟨I.base.keep b o (I.ok.bs b o e).1 (I.ok.bs b o e).2 (I.ok.nofr e) (I.ok.noex b o e), I.base.free b o (I.ok.bs b o e).1 (I.ok.bs b o e).2 (I.ok.noex b o e)⟩
theorem Inv.bk (I : Inv X pins σ H s) : ∀ b o, X.base.get? b = some o → s.heap.get? b = some o := λb o e => (I.bs b o e).1
theorem Inv.mod (I : Inv X pins σ H s) : Mod X.K X.mg X.base := I.ok.mod
theorem Inv.kIn (I : Inv X pins σ H s) : X.K.In s.heap := I.ok.mod.kin.keeps I.bk
theorem Inv.lt (I : Inv X pins σ H s) : X.env.locals < s.heap.objs.size := let ⟨_, hn, _⟩ := I.loc; hn.lt
theorem Inv.sz (I : Inv X pins σ H s) : X.s₀.heap.objs.size ≤ s.heap.objs.size := Nat.le_trans I.ok.above (Nat.le_of_lt I.lt)
theorem Inv.nofs (I : Inv X pins σ H s) {a : Addr} (h : s.heap.objs.size ≤ a) : a ∉ X.fs := λhb => by
 obtain ⟨_, o, ho, _⟩ := I.ok.funs.mem hb
 exact absurd (Nat.lt_of_lt_of_le (Heap.lt_size ho) (Nat.le_trans I.sz h)) (Nat.lt_irrefl _)
theorem Inv.cne (I : Inv X pins σ H s) : ∀ x c, X.env.cells.lookup x = some c → c ≠ X.env.locals := λx c e z => by
 obtain ⟨v, o, ho, hd⟩ := I.cell x c e
 obtain ⟨m, ⟨o', es, ep, ho', hd', _⟩, _⟩ := I.loc
 rw [z, ho'] at ho; cases ho; rw [hd'] at hd; cases hd
theorem Inv.funs (I : Inv X pins σ H s) : s.heap.FunFrames X.base X.outer := by
 have all : ∀ (l : List Env), (∀ b ∈ frs l, b ∈ X.fs) → X.s₀.heap.FunFrames X.base l → s.heap.FunFrames X.base l := by
   intro l
   induction l with
   | nil => intro _ _; trivial
   | cons env r ih =>
     intro hs hl
     obtain ⟨hk, ⟨L, o, hf, hn, ho, hd⟩, hr⟩ := hl
     have hL : L ∈ X.fs := hs L (by unfold frs; rw [List.filterMap_cons, hf]; exact List.mem_cons_self)
     obtain ⟨sl, e⟩ := I.base.slot L o ho (I.ok.frf L hL) hL λz => I.ok.exfs L z hL
     exact ⟨hk, ⟨L, _, hf, hn, e, hd⟩, ih (λb hb => hs b (by unfold frs; rw [List.filterMap_cons, hf]; exact List.mem_cons_of_mem _ hb)) hr⟩
 exact all X.outer (λ_ hb => hb) I.ok.funs
theorem Inv.stack (I : Inv X pins σ H s) : s.heap.FunFrames X.base X.stack := by
 rcases I.ok.stk with e | ⟨e, hf⟩
 · rw [e]; exact I.funs
 · rw [e]
   obtain ⟨m, hn, _⟩ := I.loc
   refine .cons (by rw [I.ok.kind]; decide) hf hn ?_ I.funs
   exact Heap.get?_none_of_le (Nat.le_trans I.ok.bsz I.ok.above)
theorem Inv.stkSub (I : Inv X pins σ H s) : ∀ b ∈ frs X.stack, b ∈ X.env.locals :: X.fs := λb hb => by
 rcases I.ok.stk with e | ⟨e, hf⟩
 · rw [e] at hb; exact List.mem_cons_of_mem _ hb
 · rw [e] at hb
   unfold frs at hb
   rw [List.filterMap_cons, hf] at hb
   exact hb
theorem Inv.stkFree (I : Inv X pins σ H s) : ∀ b ∈ frs X.stack, H b = none := λb hb => by
 rcases List.mem_cons.mp (I.stkSub b hb) with e | hb
 · rw [e]; exact I.free
 · obtain ⟨_, o, ho, _⟩ := I.ok.funs.mem hb
   exact I.base.free b o ho (I.ok.frf b hb) λz => I.ok.exfs b z hb
theorem Inv.step {g' : Array GenState} {t' : Nat} {d' : Drawn} {ch : List Addr} (I : Inv X pins σ H s)
   (hch : ∀ b ∈ ch, (b ∈ X.ex ∨ X.s₀.heap.objs.size ≤ b) ∧ b ≠ X.env.locals ∧ (∀ x c, X.env.cells.lookup x = some c → c ≠ b) ∧ ∀ p ∈ X.pn ++ pins, p.1 ≠ b)
   (keep : ∀ b o, b ≠ X.env.locals → b ∉ X.fs → b ∉ ch → s.heap.get? b = some o → H b = none → h'.get? b = some o)
   (slot : ∀ b o, b ≠ X.env.locals → b ∈ X.fs → b ∉ ch → s.heap.get? b = some o → H b = none → ∃ sl, h'.get? b = some { o with slots := sl }) (free : ∀ b o, b ∉ ch → s.heap.get? b = some o → H b = none → H' b = none)
   (there : ∀ b o, b ∉ ch → s.heap.get? b = some o → ∃ o', h'.get? b = some o')
   (tups : ∀ b xs, H b = some (.tup xs) → H' b = some (.tup xs)) (frzs : ∀ b o u, H b = some (.frz o u) → H' b = some (.frz o u)) (tbls : ∀ b ps, H b = some (.tbl ps) → ∃ more, H' b = some (.tbl (ps ++ more)))
   (ns : ∀ m, s.heap.Ns X.env.locals m → h'.Ns X.env.locals m) (hok : HOk X.prog X.w H' h') (hg : AllBare g') :
   Inv X pins σ H' { s with heap := h', gens := g', drawn := d', toks := t' } := by
 have neL : ∀ b o, X.s₀.heap.get? b = some o → b ≠ X.env.locals := λb o e => Nat.ne_of_lt (Nat.lt_of_lt_of_le (Heap.lt_size e) I.ok.above)
 have neC : ∀ b o, X.s₀.heap.get? b = some o → b ∉ X.ex → b ∉ ch := λb o e hx hb => by
   rcases (hch b hb).1 with z | z
   · exact hx z
   · exact absurd (Nat.lt_of_lt_of_le (Heap.lt_size e) z) (Nat.lt_irrefl _)
 have cellK : ∀ x c, X.env.cells.lookup x = some c → ∀ v, s.heap.IsCell c v → h'.IsCell c v := λx c e v ⟨o, ho, hd⟩ => by
   have nch : c ∉ ch := λz => (hch c z).2.2.1 x c e rfl
   by_cases hc : c ∈ X.fs
   · obtain ⟨sl, q⟩ := slot c o (I.cne x c e) hc nch ho (I.freeC x c e)
     exact ⟨_, q, hd⟩
   · exact ⟨o, keep c o (I.cne x c e) hc nch ho (I.freeC x c e), hd⟩
 refine ⟨I.ok, I.os, hg, ⟨λb o e n hb hx => ?_, λb o e n hb hx => ?_, λb o e n hx => ?_, λb o e hx => ?_, λb xs e => tups b xs (I.base.tups b xs e), λb o xs e => frzs b o xs (I.base.frzs b o xs e), λb ps e => ?_⟩, ?_, λx c e => ?_, ?_, λx c e => ?_, λp hp => ?_, hok, I.len⟩
 · exact keep b o (neL b o e) hb (neC b o e hx) (I.base.keep b o e n hb hx) (I.base.free b o e n hx)
 · obtain ⟨sl, e1⟩ := I.base.slot b o e n hb hx
   obtain ⟨sl', e2⟩ := slot b _ (neL b o e) hb (neC b o e hx) e1 (I.base.free b o e n hx)
   exact ⟨sl', e2⟩
 · obtain ⟨o', e1⟩ := I.base.there b o e hx
   exact free b o' (neC b o e hx) e1 (I.base.free b o e n hx)
 · obtain ⟨o', e1⟩ := I.base.there b o e hx
   exact there b o' (neC b o e hx) e1
 · obtain ⟨m1, e1⟩ := I.base.tbls b ps e
   obtain ⟨m2, e2⟩ := tbls b _ e1
   exact ⟨m1 ++ m2, by rw [e2, Array.append_assoc]⟩
 · obtain ⟨m, hn, hl⟩ := I.loc
   refine ⟨m, ns m hn, λi x v e1 e2 e3 => ?_⟩
   obtain ⟨u, r, l⟩ := hl i x v e1 e2 e3
   refine ⟨u, r, ?_⟩
   rcases l with l | ⟨k, c, e, z⟩
   · exact .inl l
   · exact .inr ⟨k, c, e, cellK x c e _ z⟩
 · obtain ⟨v, z⟩ := I.cell x c e
   exact ⟨v, cellK x c e v z⟩
 · obtain ⟨m, ⟨o, _, _, ho, _⟩, _⟩ := I.loc
   exact free _ o (λz => (hch _ z).2.1 rfl) ho I.free
 · obtain ⟨v, o, ho, hd⟩ := I.cell x c e
   exact free c o (λz => (hch c z).2.2.1 x c e rfl) ho (I.freeC x c e)
 · obtain ⟨e, n, ne, nf, d⟩ := I.pin p hp
   have nch : p.1 ∉ ch := λz => (hch p.1 z).2.2.2 p hp rfl
   exact ⟨keep p.1 p.2 ne nf nch e n, free p.1 p.2 nch e n, ne, nf, d⟩
theorem Inv.un {t' : Nat} (I : Inv X pins σ H s) (u : Un X.fs [] H H' s.heap h') (hok : HOk X.prog X.w H' h') : Inv X pins σ H' { s with heap := h', toks := t' } := by
 obtain ⟨m, ⟨o, es, ep, ho, r⟩, _⟩ := id I.loc
 obtain ⟨sl, hL⟩ := u.any ho I.free (by simp)
 exact I.step (g' := s.gens) (d' := s.drawn) (ch := []) (λ_ z => nomatch z) (λb o _ hb _ e n => u.keep b o e n hb (by simp)) (λb o _ hb _ e n => u.slot b o e n hb (by simp)) (λb o _ e n => u.free b o e n (by simp)) (λb o _ e => u.there b o e (by simp)) u.tups u.frzs u.tbls (λm' hm => by
   obtain ⟨o', es', ep', ho', r'⟩ := hm
   rw [ho] at ho'; cases ho'
   exact ⟨_, es', ep', hL, r'⟩) hok I.bare
theorem Inv.call {g' : Array GenState} {t' : Nat} {d' : Drawn} {ch : List Addr} (I : Inv X pins σ H s) (u : Un (frs X.stack) ch H H' s.heap h') (hok : HOk X.prog X.w H' h') (hg : AllBare g')
   (hch : ∀ b ∈ ch, (b ∈ X.ex ∨ X.s₀.heap.objs.size ≤ b) ∧ b ≠ X.env.locals ∧ (∀ x c, X.env.cells.lookup x = some c → c ≠ b) ∧ ∀ p ∈ X.pn ++ pins, p.1 ≠ b) :
   Inv X pins σ H' { s with heap := h', gens := g', drawn := d', toks := t' } := by
 obtain ⟨m, ⟨o, es, ep, ho, r⟩, _⟩ := id I.loc
 obtain ⟨sl, hL⟩ := u.any ho I.free λz => (hch _ z).2.1 rfl
 exact I.step (ch := ch) hch (λb o hL hb hc e n => u.keep b o e n (λz => (List.mem_cons.mp (I.stkSub b z)).elim hL hb) hc) (λb o _ _ hc e n => u.any e n hc) (λb o hc e n => u.free b o e n hc) (λb o hc e => u.there b o e hc) u.tups u.frzs u.tbls (λm' hm => by
   obtain ⟨o', es', ep', ho', r'⟩ := hm
   rw [ho] at ho'; cases ho'
   exact ⟨_, es', ep', hL, r'⟩) hok hg
theorem Inv.turned {t' : Nat} {it : Addr} (I : Inv X pins σ H s) (k : ∀ b o, b ≠ it → s.heap.get? b = some o → h'.get? b = some o) (hn : H it = none) (hL : it ≠ X.env.locals)
   (h1 : it ∈ X.ex ∨ X.s₀.heap.objs.size ≤ it) (h2 : ∀ x c, X.env.cells.lookup x = some c → c ≠ it) (h3 : ∀ p ∈ X.pn ++ pins, p.1 ≠ it) : Inv X pins σ H { s with heap := h', toks := t' } := by
 have nit : ∀ b u, H b = some u → b ≠ it := λb u e z => by rw [z, hn] at e; cases e
 refine I.step (g' := s.gens) (d' := s.drawn) (ch := [it]) (λb hb => ?_) (λb o _ _ hc e _ => k b o (λz => hc (by simp [z])) e) (λb o _ _ hc e _ => ⟨o.slots, k b o (λz => hc (by simp [z])) e⟩) (λ_ _ _ _ n => n)
   (λb o hc e => ⟨o, k b o (λz => hc (by simp [z])) e⟩) (λ_ _ e => e) (λ_ _ _ e => e) (λb ps e => ⟨#[], by rw [e]; simp⟩) (λm hm => ?_) (λb u e => ?_) I.bare
 · have e : b = it := by simpa using hb
   subst e
   exact ⟨h1, hL, h2, h3⟩
 · obtain ⟨o, es, ep, ho, r⟩ := hm
   exact ⟨o, es, ep, k _ o (Ne.symm hL) ho, r⟩
 · refine (I.hok b u e).stay (λc v hc q => k c v ?_ q) (λ_ q => q) λ_ _ q => q
   rcases hc with z | z
   · rw [z]; exact nit b u e
   · exact nit c _ z
theorem Inv.tok (I : Inv X pins σ H s) (t : Nat) : Inv X pins σ H { s with toks := t } := I.un (h' := s.heap) (t' := t) Un.refl I.hok
theorem Inv.kept {t' : Nat} (I : Inv X pins σ H s) (k : ∀ b u, s.heap.get? b = some u → h'.get? b = some u) : Inv X pins σ H { s with heap := h', toks := t' } := I.un (Un.kept k) (I.hok.kept k)
theorem Inv.laid {a : Addr} {o : HO} {t' : Nat} (I : Inv X pins σ H s) (k : ∀ b u, s.heap.get? b = some u → h'.get? b = some u) (hp : s.heap.objs.size ≤ a) (new : ObjOk X.prog X.w (upd H a o) h' a o) :
   Inv X pins σ (upd H a o) { s with heap := h', toks := t' } := I.un (Un.laid k hp (I.hok.fresh hp)) (I.hok.laid k hp new)
theorem Inv.write {x e : Addr} {o : HO} {t' : Nat} (I : Inv X pins σ H s) (mu : Mut (H x)) (he : e = x ∨ H e = some (.own x)) (k : ∀ b u, b ≠ e → s.heap.get? b = some u → h'.get? b = some u) (heo : ∃ u, h'.get? e = some u)
   (new : ObjOk X.prog X.w (upd H x o) h' x o) : Inv X pins σ (upd H x o) { s with heap := h', toks := t' } := I.un (Un.write mu he k heo) (I.hok.write mu he k heo new)
theorem Inv.pins_of {pins' : List (Addr × Obj)} (I : Inv X pins σ H s) (h : ∀ p ∈ pins', s.heap.get? p.1 = some p.2 ∧ H p.1 = none ∧ p.1 ≠ X.env.locals ∧ p.1 ∉ X.fs ∧ ∀ v, p.2.data ≠ .cell v) : Inv X pins' σ H s :=
 ⟨I.ok, I.os, I.bare, I.base, I.loc, I.cell, I.free, I.freeC, λp hp => (List.mem_append.mp hp).elim (λz => I.pin p (List.mem_append_left _ z)) (h p), I.hok, I.len⟩
theorem zgH {N : List Str} (hN : N.Nodup) {i j : Nat} {x : Str} (a : N[i]? = some x) (b : N[j]? = some x) : i = j := by
 obtain ⟨h1, e1⟩ := List.getElem?_eq_some_iff.mp a
 obtain ⟨h2, e2⟩ := List.getElem?_eq_some_iff.mp b
 exact (List.getElem_inj hN).mp (e1.trans e2.symm)
theorem zhD {M : Model} {A : Around} {E : Value → Shared → Prop} {i : Nat} {x : Str} {v : V} {u : Value} {Q : Unit → Shared → Prop} (I : Inv X pins σ H s) (hN : X.N.Nodup) (hi : X.N[i]? = some x) (hx : Loc X.env.scope x) (r : RelV v u)
   (h : ∀ s', Inv X pins (σ.set i (some v)) H s' → (∃ a, Heap.SameBut a s.heap s'.heap ∧ (a = X.env.locals ∨ X.env.cells.lookup x = some a)) → Q () s') (hf : X.fn x = true ∨ X.env.scope.names.lookup x = some .local := by first | exact .inl rfl | exact .inr rfl | assumption) : wpAny M A (storeName X.env x u) Q E s := by
 obtain ⟨m, hn, hl⟩ := id I.loc
 have hcls : (X.env.scope.kind == .class || (X.env.scope.kind == .module && X.env.locals != X.env.globals)) = false := by rw [I.ok.kind]; rfl
 have hiσ : i < σ.length := by rw [I.len]; exact (List.getElem?_eq_some_iff.mp hi).1
 have cne := I.cne
 have tracked : ∀ {a : Addr} {h' : Heap}, (∃ o, s.heap.get? a = some o ∧ H a = none) → Heap.SameBut a s.heap h' → HOk X.prog X.w H h' := λ{a h'} ha hs b ob e => by
   obtain ⟨_, _, hfree⟩ := ha
   refine (I.hok b ob e).stay (λc w' hc q => (hs.2 c ?_).trans q) (λ_ q => q) λ_ _ q => q
   rintro rfl
   rcases hc with rfl | hc
   · rw [hfree] at e; cases e
   · rw [hfree] at hc; cases hc
 rcases hx with hk | hk
 · refine wpAny_storeName_local hk hn (λh' hn' hs => ?_) hcls
   obtain ⟨oL, _, _, hoL, _⟩ := id hn
   refine h _ ⟨I.ok, I.os, I.bare, ⟨λb o e n hb hx => ?_, λb o e n hb hx => ?_, I.base.free, λb o e hx => ?_, I.base.tups, I.base.frzs, I.base.tbls⟩, ⟨_, hn', λj y v' e1 e2 e3 => ?_⟩, λy c e => ?_, I.free, I.freeC, λp hp => ?_, tracked ⟨oL, hoL, I.free⟩ hs, by simpa using I.len⟩ ⟨_, hs, .inl rfl⟩
   · exact (hs.2 b (Nat.ne_of_lt (Nat.lt_of_lt_of_le (Heap.lt_size e) I.ok.above))).trans (I.base.keep b o e n hb hx)
   · obtain ⟨sl, e1⟩ := I.base.slot b o e n hb hx
     exact ⟨sl, (hs.2 b (Nat.ne_of_lt (Nat.lt_of_lt_of_le (Heap.lt_size e) I.ok.above))).trans e1⟩
   · obtain ⟨o', e1⟩ := I.base.there b o e hx
     exact ⟨o', (hs.2 b (Nat.ne_of_lt (Nat.lt_of_lt_of_le (Heap.lt_size e) I.ok.above))).trans e1⟩
   · by_cases hj : j = i
     · subst hj
       rw [hi] at e1; cases e1
       rw [List.getElem?_set_self hiσ] at e2
       cases e2
       exact ⟨u, r, .inl ⟨hk, by simp⟩⟩
     · rw [List.getElem?_set_ne (Ne.symm hj)] at e2
       obtain ⟨u', r', q⟩ := hl j y v' e1 e2 e3
       refine ⟨u', r', ?_⟩
       rcases q with ⟨k, e⟩ | ⟨k, c, e, z⟩
       · refine .inl ⟨k, ?_⟩
         have : y ≠ x := λe => hj (zgH hN e1 (e ▸ hi))
         simp [this, e]
       · exact .inr ⟨k, c, e, z.sameBut hs (cne y c e)⟩
   · obtain ⟨w', z⟩ := I.cell y c e
     exact ⟨w', z.sameBut hs (cne y c e)⟩
   · obtain ⟨e, n, ne, nf, d⟩ := I.pin p hp
     exact ⟨(hs.2 p.1 ne).trans e, n, ne, nf, d⟩
 · have hfn : X.fn x = true := by
     rcases hf with z | z
     · exact z
     · rw [z] at hk; cases hk
   obtain ⟨c, hc⟩ := I.ok.has x (.inl hk)
   obtain ⟨w', z⟩ := I.cell x c hc
   refine wpAny_storeName_cell I.ok.kind hk hc z (λh' hc' hs => ?_)
   obtain ⟨oc, hoc, hocd⟩ := id z
   refine h { s with heap := h' } ⟨I.ok, I.os, I.bare, ⟨λb o e n hb hx => ?_, λb o e n hb hx => ?_, I.base.free, λb o e hx => ?_, I.base.tups, I.base.frzs, I.base.tbls⟩, ⟨m, hn.sameBut hs (Ne.symm (cne x c hc)), λj y v' e1 e2 e3 => ?_⟩, λy c' e => ?_, I.free, I.freeC, λp hp => ?_, tracked ⟨oc, hoc, I.freeC x c hc⟩ hs, by simpa using I.len⟩ ⟨c, hs, .inr hc⟩
   · exact (hs.2 b (Nat.ne_of_lt (Nat.lt_of_lt_of_le (Heap.lt_size e) (I.ok.cab x c hfn hc)))).trans (I.base.keep b o e n hb hx)
   · obtain ⟨sl, e1⟩ := I.base.slot b o e n hb hx
     exact ⟨sl, (hs.2 b (Nat.ne_of_lt (Nat.lt_of_lt_of_le (Heap.lt_size e) (I.ok.cab x c hfn hc)))).trans e1⟩
   · obtain ⟨o', e1⟩ := I.base.there b o e hx
     exact ⟨o', (hs.2 b (Nat.ne_of_lt (Nat.lt_of_lt_of_le (Heap.lt_size e) (I.ok.cab x c hfn hc)))).trans e1⟩
   · by_cases hj : j = i
     · subst hj
       rw [hi] at e1; cases e1
       rw [List.getElem?_set_self hiσ] at e2
       cases e2
       exact ⟨u, r, .inr ⟨.inl hk, c, hc, hc'⟩⟩
     · rw [List.getElem?_set_ne (Ne.symm hj)] at e2
       obtain ⟨u', r', q⟩ := hl j y v' e1 e2 e3
       refine ⟨u', r', ?_⟩
       rcases q with q | ⟨k, c', e, z'⟩
       · exact .inl q
       · refine .inr ⟨k, c', e, z'.sameBut hs ?_⟩
         rintro rfl
         exact hj (zgH hN e1 (I.ok.inj _ _ _ e hc ▸ hi))
   · by_cases hcc : c' = c
     · subst hcc; exact ⟨_, hc'⟩
     · obtain ⟨w2, z2⟩ := I.cell y c' e
       exact ⟨w2, z2.sameBut hs hcc⟩
   · obtain ⟨e, n, ne, nf, d⟩ := I.pin p hp
     refine ⟨(hs.2 p.1 ?_).trans e, n, ne, nf, d⟩
     intro q
     rw [q, hoc] at e
     have q' : oc = p.2 := Option.some.inj e
     exact d w' (by rw [← q']; exact hocd)
theorem zcY {M : Model} {A : Around} {E : Value → Shared → Prop} {i : Nat} {x : Str} {v : V} {u : Value} {Q : Unit → Shared → Prop} (I : Inv X pins σ H s) (hN : X.N.Nodup) (hi : X.N[i]? = some x) (hx : Loc X.env.scope x) (r : RelV v u)
   (h : ∀ s', Inv X pins (σ.set i (some v)) H s' → Q () s') (hf : X.fn x = true ∨ X.env.scope.names.lookup x = some .local := by first | exact .inl rfl | exact .inr rfl | assumption) : wpAny M A (storeName X.env x u) Q E s :=
 zhD I hN hi hx r (λs' I' _ => h s' I') hf
theorem Inv.call' {s' : Shared} {ch : List Addr} (I : Inv X pins σ H s) (ho : s'.os = s.os) (u : Un (frs X.stack) ch H H' s.heap s'.heap) (hok : HOk X.prog X.w H' s'.heap) (hg : AllBare s'.gens)
   (hch : ∀ b ∈ ch, (b ∈ X.ex ∨ X.s₀.heap.objs.size ≤ b) ∧ b ≠ X.env.locals ∧ (∀ x c, X.env.cells.lookup x = some c → c ≠ b) ∧ ∀ p ∈ X.pn ++ pins, p.1 ≠ b) : Inv X pins σ H' s' := by
 obtain ⟨h', g', d', t', o'⟩ := s'
 have e : o' = s.os := ho
 subst e
 exact I.call (g' := g') (t' := t') (d' := d') u hok hg hch
end
abbrev XK := Value → Option Addr → Hp → Prop
abbrev St := List (Option V)
abbrev VK := V → Hp → Prop
abbrev TE := St → Hp → VK → Prop
abbrev TT := St → Hp → (Bool → Hp → Prop) → Prop
abbrev TA := St → Hp → (List V → Hp → Prop) → Prop
structure Ends where
 nx : St → Hp → Prop
 rt : VK
 bk : St → Hp → Prop := λ_ _ => False
 ct : St → Hp → Prop := λ_ _ => False
abbrev TS := Ends → St → Hp → Prop
def EP (X : Cx) (pins : List (Addr × Obj)) (σ : St) (Q : VK) (u : Value) (s' : Shared) : Prop := ∃ v H', Inv X pins σ H' s' ∧ RelV v u ∧ Q v H'
def TP (X : Cx) (pins : List (Addr × Obj)) (σ : St) (Q : Bool → Hp → Prop) (b : Bool) (s' : Shared) : Prop := ∃ H', Inv X pins σ H' s' ∧ Q b H'
def AP (X : Cx) (pins : List (Addr × Obj)) (σ : St) (Q : List V → Hp → Prop) (us : List Value) (s' : Shared) : Prop := ∃ vs H', Inv X pins σ H' s' ∧ Vals vs us ∧ Q vs H'
def SP (X : Cx) (pins : List (Addr × Obj)) (D : Ends) (f : Flow) (s' : Shared) : Prop :=
 match f with
 | .next => ∃ σ' H', Inv X pins σ' H' s' ∧ D.nx σ' H'
 | .brk => ∃ σ' H', Inv X pins σ' H' s' ∧ D.bk σ' H'
 | .cont => ∃ σ' H', Inv X pins σ' H' s' ∧ D.ct σ' H'
 | .ret u => ∃ v σ' H', Inv X pins σ' H' s' ∧ RelV v u ∧ D.rt v H'
def PE (X : Cx) (e : Expr) (t : TE) : Prop :=
 ∀ (pins : List (Addr × Obj)) (s : Shared) (σ : St) (H : Hp) (Q : VK), Inv X pins σ H s → t σ H Q → wpAny (model X.prog X.w) X.A (eval e X.env) (EP X pins σ Q) X.xe s
def PT (X : Cx) (e : Expr) (t : TT) : Prop :=
 ∀ (pins : List (Addr × Obj)) (s : Shared) (σ : St) (H : Hp) (Q : Bool → Hp → Prop), Inv X pins σ H s → t σ H Q → wpAny (model X.prog X.w) X.A (isTrue e X.env (eval e X.env)) (TP X pins σ Q) X.xe s
def PW (X : Cx) (e : Expr) (t : TT) : Prop :=
 ∀ (whole : Sem Value) (pins : List (Addr × Obj)) (s : Shared) (σ : St) (H : Hp) (Q : Bool → Hp → Prop), Inv X pins σ H s → t σ H Q → wpAny (model X.prog X.w) X.A (isTrue e X.env whole) (TP X pins σ Q) X.xe s
theorem PW.pt {X : Cx} {e : Expr} {t : TT} (h : PW X e t) : PT X e t := h _
def PA (X : Cx) (es : List Expr) (t : TA) : Prop :=
 ∀ (pos : Pos) (pins : List (Addr × Obj)) (s : Shared) (σ : St) (H : Hp) (Q : List V → Hp → Prop), Inv X pins σ H s → t σ H Q → wpAny (model X.prog X.w) X.A (spliced (backTo pos (starEach es X.env))) (AP X pins σ Q) X.xe s
def PS (X : Cx) (st : Stmt) (t : TS) : Prop :=
 ∀ (pins : List (Addr × Obj)) (s : Shared) (σ : St) (H : Hp) (D : Ends), Inv X pins σ H s → t D σ H → wpAny (model X.prog X.w) X.A (exec st X.env) (SP X pins D) X.xe s
def PSs (X : Cx) (st : List Stmt) (t : TS) : Prop :=
 ∀ (pins : List (Addr × Obj)) (s : Shared) (σ : St) (H : Hp) (D : Ends), Inv X pins σ H s → t D σ H → wpAny (model X.prog X.w) X.A (execs st X.env) (SP X pins D) X.xe s
theorem thn {α : Type} {t : Sem α} {Q Q' : α → Shared → Prop} {M : Model} {A : Around} {E : Value → Shared → Prop} {s : Shared} (h : wpAny M A t Q E s) (hQ : ∀ a s, Q a s → Q' a s) : wpAny M A t Q' E s := wpAny_mono h hQ λ_ _ x => x
end L2
namespace L2
open PySem PySem.Spec PyProof.Rows
section
variable {X : Cx}
def tVar (i : Nat) : TE := λσ H Q => ∃ v, σ[i]? = some (some v) ∧ Q v H
def tC (v : V) : TE := λ_ H Q => Q v H
theorem zkf {i : Nat} {x : Str} {pos : Pos} (hN : X.N[i]? = some x) (hv : Vis X.env.scope x) (hd : (x == ("__debug__" : Str)) = false := by decide) (hcd : (x == ("__classdict__" : Str)) = false := by decide) : PE X (.Name x pos) (tVar i) := by
 intro pins s σ H Q I h
 obtain ⟨v, e, h⟩ := h
 obtain ⟨m, hn, hl⟩ := I.loc
 obtain ⟨u, r, l⟩ := hl i x v hN e hv
 have fin : EP X pins σ Q u s := ⟨v, H, I, r, h⟩
 rcases l with ⟨hk, hm⟩ | ⟨hk, c, hc, hcell⟩
 · exact wpAny_Name (wpAny_loadName_local I.ok.kind hk hn hm fin) hd
 · rcases hk with hk | hk
   · exact wpAny_Name (wpAny_loadName_cell I.ok.kind hk hc hcell fin) hd
   · exact wpAny_Name (wpAny_loadName_free I.ok.kind hk hc hcell fin hcd) hd
theorem zng {i j pos} : PE X (.Constant (.int i) j pos) (tC (.int i)) := λ_ _ _ H _ I h => wpAny_Constant_int ⟨.int i, H, I.tok _, ⟨_, rfl⟩, h⟩
theorem zon {b j pos} : PE X (.Constant (.bool b) j pos) (tC (.bl b)) := λ_ _ _ H _ I h => Constant_bool ⟨.bl b, H, I, rfl, h⟩
theorem zne {j pos} : PE X (.Constant .none j pos) (tC .non) := λ_ _ _ H _ I h => Constant_none ⟨.non, H, I, rfl, h⟩
theorem znb {x j pos} : PE X (.Constant (.str x) j pos) (tC (.str x)) := λ_ _ _ H _ I h => Calls.Constant_str ⟨.str x, H, I.tok _, ⟨_, rfl⟩, h⟩
def Gl (X : Cx) (x : Str) : Prop := X.env.kindOf x = some .globalImplicit
theorem zid {E : Value → Shared → Prop} {pins : List (Addr × Obj)} {s : Shared} {σ : St} {H : Hp} {x : Str} {u : Value} {pos : Pos} {Q : Value → Shared → Prop} (I : Inv X pins σ H s) (hg : Gl X x) (hm : X.mg x = some u) (h : Q u s)
   (hd : (x == ("__debug__" : Str)) = false := by decide) : wpAny (model X.prog X.w) X.A (eval (.Name x pos) X.env) Q E s :=
 Calls.Name_function_global I.ok.kind hg (Calls.loadGlobal_global (by rw [I.ok.glob]; exact I.mod.glob.keeps I.bk) hm h) hd
theorem ze1 {E : Value → Shared → Prop} {pins : List (Addr × Obj)} {s : Shared} {σ : St} {H : Hp} {x : Str} {u : Value} {pos : Pos} {Q : Value → Shared → Prop} (I : Inv X pins σ H s) (hg : Gl X x) (hm : X.mg x = none) (hv : bootBuiltins x = some u) (h : Q u s)
   (hn : x ≠ "__name__" := by decide) (hd : (x == ("__debug__" : Str)) = false := by decide) : wpAny (model X.prog X.w) X.A (eval (.Name x pos) X.env) Q E s := by
 obtain ⟨mb, h1, h2⟩ := I.mod.blt
 exact Calls.Name_function_global I.ok.kind hg (Calls.loadGlobal_builtin (by rw [I.ok.glob]; exact I.mod.glob.keeps I.bk) hm (by rw [I.ok.blt]; exact h1.keeps I.bk) ((h2 x hn).trans hv) h) hd
theorem zlf {x : Str} {v : V} {u : Value} {pos : Pos} (hg : Gl X x) (hm : X.mg x = none) (hv : bootBuiltins x = some u) (r : RelV v u) (hn : x ≠ "__name__" := by decide) (hd : (x == ("__debug__" : Str)) = false := by decide) : PE X (.Name x pos) (tC v) :=
 λ_ _ _ H _ I h => ze1 I hg hm hv ⟨v, H, I, r, h⟩ hn hd
variable {a b : Expr} {ta tb : TE} {pos : Pos}
variable {tA tB' : TT} {rest : List Expr}
def tAnd (t u : TT) : TT := λσ H Q => t σ H λc H1 => if c = true then u σ H1 Q else Q false H1
def tOr (t u : TT) : TT := λσ H Q => t σ H λc H1 => if c = true then Q true H1 else u σ H1 Q
def tNot (t : TT) : TT := λσ H Q => t σ H λc H1 => Q (!c) H1
theorem zkZ (ha : PT X a tA) : PW X (.BoolOp .And [a] pos) tA := by
 intro wh pins s σ H Q I h
 refine isTrue_and (thn (ha pins s σ H Q I h) λc s1 e => ?_)
 cases c with
 | true => exact isTrue_and_nil e
 | false => exact e
theorem zmY (ha : PT X a tA) : PW X (.BoolOp .Or [a] pos) tA := by
 intro wh pins s σ H Q I h
 refine isTrue_or (thn (ha pins s σ H Q I h) λc s1 e => ?_)
 cases c with
 | false => exact isTrue_or_nil e
 | true => exact e
theorem zmZ (ha : PT X a tA) (hb : PW X (.BoolOp .And (b :: rest) pos) tB') : PW X (.BoolOp .And (a :: b :: rest) pos) (tAnd tA tB') := by
 intro wh pins s σ H Q I h
 refine isTrue_and (thn (ha pins s σ H _ I h) λc s1 ⟨H1, I1, q1⟩ => ?_)
 cases c with
 | true => exact hb wh pins s1 σ H1 Q I1 q1
 | false => exact ⟨H1, I1, q1⟩
theorem zof (ha : PT X a tA) (hb : PW X (.BoolOp .Or (b :: rest) pos) tB') : PW X (.BoolOp .Or (a :: b :: rest) pos) (tOr tA tB') := by
 intro wh pins s σ H Q I h
 refine isTrue_or (thn (ha pins s σ H _ I h) λc s1 ⟨H1, I1, q1⟩ => ?_)
 cases c with
 | true => exact ⟨H1, I1, q1⟩
 | false => exact hb wh pins s1 σ H1 Q I1 q1
theorem zm0 (ha : PT X a tA) : PT X (.UnaryOp .Not a pos) (tNot tA) := by
 intro pins s σ H Q I h
 exact isTrue_not (ha pins s σ H (λc H1 => Q (!c) H1) I h)
def tAndV (ta tb : TE) : TE := λσ H Q => ta σ H λx H1 => ∃ c, x = .bl c ∧ if c = true then tb σ H1 Q else Q (.bl false) H1
def tOrV (ta tb : TE) : TE := λσ H Q => ta σ H λx H1 => ∃ c, x = .bl c ∧ if c = true then Q (.bl true) H1 else tb σ H1 Q
def tNotV (ta : TE) : TE := λσ H Q => ta σ H λx H1 => ∃ c, x = .bl c ∧ Q (.bl (!c)) H1
theorem znc {op} {t : TE} (h : PE X a t) : PE X (.BoolOp op [a] pos) t := λpins s σ H Q I hw => BoolOp_one (h pins s σ H Q I hw)
theorem zni (ha : PE X a ta) (hb : PE X (.BoolOp .And (b :: rest) pos) tb) : PE X (.BoolOp .And (a :: b :: rest) pos) (tAndV ta tb) := by
 intro pins s σ H Q I h
 refine BoolOp_and (thn (ha pins s σ H _ I h) λv s1 ⟨x, H1, I1, r1, q1⟩ => ?_)
 obtain ⟨c, rfl, q1⟩ := q1
 cases r1
 refine wpAny_truthy_bool ?_
 cases c with
 | true => exact hb pins s1 σ H1 Q I1 q1
 | false => exact ⟨.bl false, H1, I1, rfl, q1⟩
theorem zoi (ha : PE X a ta) (hb : PE X (.BoolOp .Or (b :: rest) pos) tb) : PE X (.BoolOp .Or (a :: b :: rest) pos) (tOrV ta tb) := by
 intro pins s σ H Q I h
 refine BoolOp_or (thn (ha pins s σ H _ I h) λv s1 ⟨x, H1, I1, r1, q1⟩ => ?_)
 obtain ⟨c, rfl, q1⟩ := q1
 cases r1
 refine wpAny_truthy_bool ?_
 cases c with
 | false => exact hb pins s1 σ H1 Q I1 q1
 | true => exact ⟨.bl true, H1, I1, rfl, q1⟩
theorem znd (ha : PE X a ta) : PE X (.UnaryOp .Not a pos) (tNotV ta) := by
 intro pins s σ H Q I h
 refine UnaryOp_ (thn (ha pins s σ H _ I h) λv s1 ⟨x, H1, I1, r1, q1⟩ => ?_)
 obtain ⟨c, rfl, q1⟩ := q1
 cases r1
 exact not_of (wpAny_truthy_bool ⟨.bl (!c), H1, I1, rfl, q1⟩)
def tIf (t : TT) (ta tb : TE) : TE := λσ H Q => t σ H λc H1 => if c = true then ta σ H1 Q else tb σ H1 Q
theorem zjx {c : Expr} (hc : PT X c tA) (ha : PE X a ta) (hb : PE X b tb) : PE X (.IfExp c a b pos) (tIf tA ta tb) := by
 intro pins s σ H Q I h
 refine wpAny_IfExp (thn (hc pins s σ H _ I h) λd s1 ⟨H1, I1, q1⟩ => ?_)
 cases d with
 | true => exact ha pins s1 σ H1 Q I1 q1
 | false => exact hb pins s1 σ H1 Q I1 q1
end
end L2
namespace L2
open PySem PySem.Spec PyProof.Rows
def SqL (K : PySem.W.Frag) (H : Hp) (a : Addr) (xs : List V) : Prop :=
 Rd H a (.lst xs) ∨
   ∃ (o : Obj) (its : Array Value) (n : Nat), K.lookup a = some o ∧ o.cls = .type "list" ∧ o.dict = none ∧ o.data = .seq its n ∧ its.size ≤ sizeLine ∧ Vals xs its.toList
def SqT (K : PySem.W.Frag) (H : Hp) (a : Addr) (xs : List V) : Prop :=
 Rd H a (.tup xs) ∨
   ∃ (o : Obj) (its : Array Value) (n : Nat), K.lookup a = some o ∧ o.cls = .type "tuple" ∧ o.data = .seq its n ∧ its.size ≤ sizeLine ∧ Vals xs its.toList
def absV : Value → Option V
 | .none => some .non
 | .bool b => some (.bl b)
 | .int i _ => some (.int i)
 | .str x _ => some (.str x)
 | .bytes b _ => some (.byt b)
 | .float b _ => some (.flt b)
 | .ref a => some (.ref a)
 | .type n => some (.ty n)
 | _ => none
theorem RelV.abs {x : V} {u : Value} (r : RelV x u) : absV u = some x := by
 cases x with
 | non => cases r; rfl
 | bl _ => cases r; rfl
 | int _ => obtain ⟨t, rfl⟩ := r; rfl
 | str _ => obtain ⟨t, rfl⟩ := r; rfl
 | byt _ => obtain ⟨t, rfl⟩ := r; rfl
 | flt _ => obtain ⟨t, rfl⟩ := r; rfl
 | ref _ => cases r; rfl
 | ty _ => cases r; rfl
theorem RelV.inj {x y : V} {u : Value} (r : RelV x u) (q : RelV y u) : x = y := Option.some.inj (r.abs.symm.trans q.abs)
theorem Vals.inj : ∀ {xs ys : List V} {us : List Value}, Vals xs us → Vals ys us → xs = ys
 | _, _, _, .nil, .nil => rfl
 | _, _, _, .cons r t, .cons r' t' => by rw [r.inj r', Vals.inj t t']
section
variable {X : Cx} {pins : List (Addr × Obj)} {σ : St} {H : Hp} {s : Shared} {a : Addr} {xs ys : List V}
theorem SqL.of {K : PySem.W.Frag} (h : H a = some (.lst xs)) : SqL K H a xs := .inl (.inl h)
theorem SqT.of {K : PySem.W.Frag} (h : H a = some (.tup xs)) : SqT K H a xs := .inl (.inl h)
theorem Inv.list (I : Inv X pins σ H s) (h : SqL X.K H a xs) : ∃ its : List Value, Vals xs its ∧ PlainL s.heap a its.toArray ∧ xs.length ≤ sizeLine := by
 rcases h with h | ⟨o, its, n, hk, hc, hd, hs, hz, r⟩
 · obtain ⟨z, its, n, r, e⟩ := h.ok I.hok
   exact ⟨its, r, ⟨_, n, e, rfl, rfl, rfl⟩, z⟩
 · refine ⟨its.toList, r, ⟨o, n, I.kIn a o hk, hc, hd, by simpa using hs⟩, ?_⟩
   have e := r.length
   simp only [Array.length_toList] at e
   omega
theorem Inv.tuple (I : Inv X pins σ H s) (h : SqT X.K H a xs) : ∃ its : List Value, Vals xs its ∧ IsTup s.heap a its.toArray ∧ xs.length ≤ sizeLine := by
 rcases h with h | ⟨o, its, n, hk, hc, hs, hz, r⟩
 · obtain ⟨z, its, r, p⟩ := h.ok I.hok
   exact ⟨its, r, p, z⟩
 · refine ⟨its.toList, r, ⟨o, I.kIn a o hk, hc, n, by simpa using hs⟩, ?_⟩
   have e := r.length
   simp only [Array.length_toList] at e
   omega
theorem Inv.list_inj (I : Inv X pins σ H s) (h : SqL X.K H a xs) (h' : SqL X.K H a ys) : xs = ys := by
 obtain ⟨its, r, ⟨o, n, e, _, _, d⟩, _⟩ := I.list h
 obtain ⟨its', r', ⟨o', n', e', _, _, d'⟩, _⟩ := I.list h'
 rw [e] at e'; cases e'
 rw [d] at d'
 injection d' with d1 _
 have : its = its' := by simpa using congrArg Array.toList d1
 subst this
 exact r.inj r'
theorem Inv.tuple_inj (I : Inv X pins σ H s) (h : SqT X.K H a xs) (h' : SqT X.K H a ys) : xs = ys := by
 obtain ⟨its, r, ⟨o, e, _, n, d⟩, _⟩ := I.tuple h
 obtain ⟨its', r', ⟨o', e', _, n', d'⟩, _⟩ := I.tuple h'
 rw [e] at e'; cases e'
 rw [d] at d'
 injection d' with d1 _
 have : its = its' := by simpa using congrArg Array.toList d1
 subst this
 exact r.inj r'
end
abbrev Cx.wish (X : Cx) (E : Value → Shared → Prop) : Cx := { X with xe := E }
abbrev Cx.nox (X : Cx) : Cx := X.wish λ_ _ => False
theorem Cx.Ok.wish {X : Cx} (ok : X.Ok) (E : Value → Shared → Prop) : (X.wish E).Ok :=
 ⟨ok.mod, ok.kind, ok.glob, ok.blt, ok.above, ok.inj, ok.has, ok.cab, ok.hd, ok.frames, ok.stk, ok.exf, ok.bs, ok.bsz, ok.noex, ok.exfs, ok.funs, ok.frf⟩
theorem Cx.Ok.unwish {X : Cx} {E : Value → Shared → Prop} (ok : (X.wish E).Ok) : X.Ok :=
 ⟨ok.mod, ok.kind, ok.glob, ok.blt, ok.above, ok.inj, ok.has, ok.cab, ok.hd, ok.frames, ok.stk, ok.exf, ok.bs, ok.bsz, ok.noex, ok.exfs, ok.funs, ok.frf⟩
section
variable {X : Cx} {pins : List (Addr × Obj)} {σ : St} {H : Hp} {s : Shared} {E : Value → Shared → Prop}
theorem Inv.wish (I : Inv X pins σ H s) (E : Value → Shared → Prop) : Inv (X.wish E) pins σ H s := ⟨I.ok.wish E, I.os, I.bare, I.base, I.loc, I.cell, I.free, I.freeC, I.pin, I.hok, I.len⟩
theorem Inv.unwish (I : Inv (X.wish E) pins σ H s) : Inv X pins σ H s := ⟨I.ok.unwish, I.os, I.bare, I.base, I.loc, I.cell, I.free, I.freeC, I.pin, I.hok, I.len⟩
theorem SP.unwish {D : Ends} {f : Flow} {s' : Shared} (h : SP (X.wish E) pins D f s') : SP X pins D f s' := by
 cases f with
 | next => obtain ⟨σ', H', I, q⟩ := h; exact ⟨σ', H', I.unwish, q⟩
 | brk => obtain ⟨σ', H', I, q⟩ := h; exact ⟨σ', H', I.unwish, q⟩
 | cont => obtain ⟨σ', H', I, q⟩ := h; exact ⟨σ', H', I.unwish, q⟩
 | ret u => obtain ⟨v, σ', H', I, r, q⟩ := h; exact ⟨v, σ', H', I.unwish, r, q⟩
theorem PE.nox {e : Expr} {t : TE} (h : PE X.nox e t) : PE X e t := λpins s σ H Q I hw =>
 wpAny_mono (h pins s σ H Q (I.wish _) hw) (λ_ _ ⟨v, H', I', r, q⟩ => ⟨v, H', I'.unwish, r, q⟩) λ_ _ z => False.elim z
theorem PSs.nox {st : List Stmt} {t : TS} (h : PSs X.nox st t) : PSs X st t := λpins s σ H D I hw =>
 wpAny_mono (h pins s σ H D (I.wish _) hw) (λ_ _ q => q.unwish) λ_ _ z => False.elim z
end
section
variable {X : Cx} {st : Stmt} {rest : List Stmt} {t u : TS} {e : Expr} {te : TE} {pos : Pos}
def tNext : TS := λD σ H => D.nx σ H
def tSeq (t u : TS) : TS := λD σ H => t { D with nx := u D } σ H
theorem zk3 : PSs X [] tNext := λ_ _ σ H _ I h => wpAny_execs_nil ⟨σ, H, I, h⟩
theorem zjp (h1 : PS X st t) (h2 : PSs X rest u) : PSs X (st :: rest) (tSeq t u) := by
 intro pins s σ H D I h
 refine wpAny_execs_cons (thn (h1 pins s σ H { D with nx := u D } I h) λf s1 q => ?_)
 cases f with
 | next =>
   obtain ⟨σ', H', I', q⟩ := q
   exact h2 pins s1 σ' H' D I' q
 | ret v => exact q
 | brk => exact q
 | cont => exact q
def tBreak : TS := λD σ H => D.bk σ H
def tCont : TS := λD σ H => D.ct σ H
theorem zk5 : PS X (.Pass pos) tNext := λ_ _ σ H _ I h => wpAny_Pass ⟨σ, H, I, h⟩
theorem zjs : PS X (.Break pos) tBreak := λ_ _ σ H _ I h => wpAny_Break ⟨σ, H, I, h⟩
theorem zgd : PS X (.Continue pos) tCont := λ_ _ σ H _ I h => wpAny_Continue ⟨σ, H, I, h⟩
theorem Inv.quiet {pins : List (Addr × Obj)} {σ : St} {H : Hp} {s : Shared} (I : Inv X pins σ H s) : interactive X.env = false := by simp [interactive, I.ok.kind]
theorem zm4 {x j pos pos'} : PS X (.Expr (.Constant (.str x) j pos) pos') tNext := λ_ s σ H _ I h => wpAny_Expr (Calls.Constant_str (show SP X _ _ .next { s with toks := s.toks + 1 } from ⟨σ, H, I.tok _, h⟩)) I.quiet
def tDrop (te : TE) : TS := λD σ H => te σ H λ_ H1 => D.nx σ H1
theorem zk7 (he : PE X e te) (hs : swapsWith e none pos.line X.env = pure false := by rfl) : PS X (.Expr e pos) (tDrop te) := by
 intro pins s σ H D I h
 exact wpAny_Expr_any (thn (he pins s σ H _ I h) λv s1 ⟨x, H1, I1, r1, q1⟩ => ⟨σ, H1, I1, q1⟩) I.quiet hs
def tRet (te : TE) : TS := λD σ H => te σ H D.rt
theorem zm2 (he : PE X e te) : PS X (.Return (some e) pos) (tRet te) := by
 intro pins s σ H D I h
 exact wpAny_Return_some (thn (he pins s σ H _ I h) λv s1 ⟨x, H1, I1, r1, q1⟩ => ⟨x, σ, H1, I1, r1, q1⟩)
def tRetN : TS := λD _ H => D.rt .non H
theorem zk4 : PS X (.Return none pos) tRetN := λ_ _ σ H _ I h => wpAny_Return_none ⟨.non, σ, H, I, rfl, h⟩
def tIfS (c : TT) (t u : TS) : TS := λD σ H => c σ H λb H1 => if b = true then t D σ H1 else u D σ H1
theorem zog {c : Expr} {a b : List Stmt} {tc : TT} (hc : PT X c tc) (ha : PSs X a t) (hb : PSs X b u) : PS X (.If c a b pos) (tIfS tc t u) := by
 intro pins s σ H D I h
 refine wpAny_If (thn (hc pins s σ H _ I h) λd s1 ⟨H1, I1, q1⟩ => ?_)
 cases d with
 | true => exact ha pins s1 σ H1 D I1 q1
 | false => exact hb pins s1 σ H1 D I1 q1
end
abbrev TG := V → St → Hp → (St → Hp → Prop) → Prop
abbrev TGs := List V → St → Hp → (St → Hp → Prop) → Prop
def PG (X : Cx) (target : Expr) (t : TG) : Prop :=
 ∀ (pins : List (Addr × Obj)) (s : Shared) (σ : St) (H : Hp) (v : V) (u : Value) (Q : St → Hp → Prop), Inv X pins σ H s → RelV v u → t v σ H Q →
   wpAny (model X.prog X.w) X.A (assign target X.env u) (λ_ s' => ∃ σ' H', Inv X pins σ' H' s' ∧ Q σ' H') X.xe s
def PGs (X : Cx) (ts : List Expr) (t : TGs) : Prop :=
 ∀ (pins : List (Addr × Obj)) (s : Shared) (σ : St) (H : Hp) (vs : List V) (us : List Value) (Q : St → Hp → Prop), Inv X pins σ H s → Vals vs us → t vs σ H Q →
   wpAny (model X.prog X.w) X.A (assignInOrder ((assignEach ts X.env).map (·.2)) us) (λ_ s' => ∃ σ' H', Inv X pins σ' H' s' ∧ Q σ' H') X.xe s
abbrev TSet := V → V → V → Hp → (Hp → Prop) → Prop
def PSet (X : Cx) (t : TSet) : Prop :=
 ∀ (pins : List (Addr × Obj)) (s : Shared) (σ : St) (H : Hp) (o i v : V) (ov iv u : Value) (Q : Hp → Prop), Inv X pins σ H s → RelV o ov → RelV i iv → RelV v u → t o i v H Q →
   wpAny (model X.prog X.w) X.A (setItem ov iv u) (λ_ s' => ∃ H', Inv X pins σ H' s' ∧ Q H') X.xe s
section
variable {X : Cx} {pos : Pos}
def gName (i : Nat) : TG := λv σ H Q => Q (σ.set i (some v)) H
theorem zlc {i : Nat} {x : Str} (hN : X.N.Nodup) (hi : X.N[i]? = some x) (hx : Loc X.env.scope x) (hf : X.fn x = true ∨ X.env.scope.names.lookup x = some .local := by first | exact .inl rfl | exact .inr rfl | assumption) : PG X (.Name x pos) (gName i) := by
 intro pins s σ H v u Q I r h
 exact wpAny_assign_Name (zcY I hN hi hx r (λs' I' => ⟨_, H, I', h⟩) hf)
def gNil : TGs := λvs σ H Q => vs = [] ∧ Q σ H
def gCons (t : TG) (u : TGs) : TGs := λvs σ H Q => ∃ v r, vs = v :: r ∧ t v σ H λσ' H' => u r σ' H' Q
theorem zlb : PGs X [] gNil := by
 intro pins s σ H vs us Q I r h
 obtain ⟨e, h⟩ := h
 subst e
 cases r
 exact assignInOrder_nil ⟨σ, H, I, h⟩
theorem zjv {e : Expr} {es : List Expr} {t : TG} {u : TGs} (h1 : PG X e t) (h2 : PGs X es u)
   (hs : (assignEach (e :: es) X.env).map (·.2) = assign e X.env :: (assignEach es X.env).map (·.2) := by rfl) : PGs X (e :: es) (gCons t u) := by
 intro pins s σ H vs us Q I r h
 obtain ⟨v, vr, e1, h⟩ := h
 subst e1
 cases r with
 | cons r rr =>
   rw [hs]
   refine assignInOrder_cons (thn (h1 pins s σ H _ _ _ I r h) λ_ s1 ⟨σ1, H1, I1, q1⟩ => ?_)
   exact h2 pins s1 σ1 H1 _ _ Q I1 rr q1
def gTup (K : PySem.W.Frag) (n : Nat) (t : TGs) : TG := λv σ H Q => ∃ a xs, v = .ref a ∧ SqT K H a xs ∧ xs.length = n ∧ t xs σ H Q
theorem zm8 {es : List Expr} {k : Nat} {t : TGs} {n : Nat} (hc : X.calm = true) (h : PGs X es t)
   (hn : (assignEach es X.env).length = n := by rfl) (hst : (assignEach es X.env).findIdx? (·.1) = none := by rfl) : PG X (.Tuple es k pos) (gTup X.K n t) := by
 intro pins s σ H v u Q I r hw
 obtain ⟨a, xs, e1, hq, hl, hw⟩ := hw
 subst e1
 cases r
 obtain ⟨its, rv, ht, hz⟩ := I.tuple hq
 refine assign_Tuple_tuple (I.ok.hd hc) ht (by simp [hn, ← hl, rv.length]) hst λh' hx => ?_
 have I1 : Inv X pins σ H { s with heap := h' } := I.kept (t' := s.toks) λb o e => hx b o (Nat.ne_of_lt (Heap.lt_size e)) e
 exact h pins _ σ H xs _ Q I1 (by simpa using rv) hw
def gSub (to ti : TE) (t : TSet) : TG := λv σ H Q => to σ H λo H1 => ti σ H1 λi H2 => t o i v H2 λH3 => Q σ H3
theorem zm9 {o i : Expr} {to ti : TE} {t : TSet} (ho : PE X o to) (hi : PE X i ti) (hs : PSet X t)
   (ha : ∀ v, assign (.Subscript o i pos) X.env v = (do
     let ov ← holding [v] (eval o X.env)
     let iv ← holding [v, ov] (eval i X.env)
     standAt pos
     holding [v, ov, iv] (setItem ov iv v)
     release [v, ov, iv] []) := by intro _; rfl) : PG X (.Subscript o i pos) (gSub to ti t) := by
 intro pins s σ H v u Q I r h
 rw [ha]
 refine wpAny_bind (wpAny_holding (thn (ho pins s σ H _ I h) λov s1 ⟨x, H1, I1, r1, q1⟩ => ?_))
 refine wpAny_bind (wpAny_holding (thn (hi pins s1 σ H1 _ I1 q1) λiv s2 ⟨y, H2, I2, r2, q2⟩ => ?_))
 refine wpAny_bind (wpAny_standAt (wpAny_bind (wpAny_holding (thn (hs pins s2 σ H2 x y v ov iv u _ I2 r1 r2 r q2) λ_ s3 ⟨H3, I3, q3⟩ => ?_))))
 exact wpAny_release ⟨σ, H3, I3, q3⟩
def tAsg (te : TE) (g : TG) : TS := λD σ H => te σ H λx H1 => g x σ H1 D.nx
theorem zm5 {tg e : Expr} {te : TE} {g : TG} (he : PE X e te) (hg : PG X tg g) (hs : swapsWithSole [tg] e pos.line X.env = pure false := by rfl) (hw : swappedStores [tg] e X.env = pure none := by rfl)
   (h1 : (assignEach [tg] X.env).map (·.2) = [assign tg X.env] := by rfl) : PS X (.Assign [tg] e pos) (tAsg te g) := by
 intro pins s σ H D I h
 refine wpAny_Assign_stores (thn (he pins s σ H _ I h) λv s1 ⟨x, H1, I1, r1, q1⟩ => ?_) hs hw
 rw [h1]
 exact thn (hg pins s1 σ H1 x v _ I1 r1 q1) λ_ s2 q => q
theorem zm1 {i : Nat} {x : Str} {e : Expr} {te : TE} {pos' : Pos} (hN : X.N.Nodup) (hi : X.N[i]? = some x) (hx : Loc X.env.scope x) (he : PE X e te) (hs : swapsWith e (some (.Name x pos')) pos.line X.env = pure false := by rfl) (hf : X.fn x = true ∨ X.env.scope.names.lookup x = some .local := by first | exact .inl rfl | exact .inr rfl | assumption) :
   PS X (.Assign [.Name x pos'] e pos) (tAsg te (gName i)) := by
 intro pins s σ H D I h
 refine wpAny_Assign_Name (thn (he pins s σ H _ I h) λv s1 ⟨y, H1, I1, r1, q1⟩ => ?_) hs
 exact zcY I1 hN hi hx r1 (λs2 I2 => ⟨_, H1, I2, q1⟩) hf
end
section
variable {X : Cx} {pos : Pos}
def tWhile (c : TT) (tb : TS) : TS := λD σ H => ∃ W : Nat → St → Hp → Prop, (∃ m, W m σ H) ∧ ∀ m σ H, W m σ H →
 c σ H λb H1 => if b = true then ∃ N : St → Hp → Prop, (∀ σ' H', N σ' H' → ∃ m', m' < m ∧ W m' σ' H') ∧ tb { D with nx := N, ct := N, bk := D.nx } σ H1 else D.nx σ H1
theorem zjq {c : Expr} {body : List Stmt} {tc : TT} {tb : TS} (hp : PassesOwn (model X.prog X.w) X.A X.env X.xe) (hc : PT X c tc) (hb : PSs X body tb) : PS X (.While c body [] pos) (tWhile tc tb) := by
 intro pins s σ H D I h
 obtain ⟨W, ⟨m0, w0⟩, turn⟩ := h
 refine wpAny_While (codeAny_whileLoop (λn s' => ∃ σ' H', Inv X pins σ' H' s' ∧ W n σ' H') ?_ m0 ⟨σ, H, I, w0⟩)
 rintro n s1 ⟨σ1, H1, I1, w1⟩
 refine wpAny_passesOwn hp (thn (hc pins s1 σ1 H1 _ I1 (turn n σ1 H1 w1)) λb s2 ⟨H2, I2, q2⟩ => ?_)
 cases b with
 | true =>
   obtain ⟨N, hN, q2⟩ := q2
   rw [if_pos rfl]
   refine wpAny_passesOwn hp (thn (hb pins s2 σ1 H2 _ I2 q2) λf s3 q3 => ?_)
   cases f with
   | next =>
     obtain ⟨σ3, H3, I3, n3⟩ := q3
     obtain ⟨m', hm, w3⟩ := hN σ3 H3 n3
     exact ⟨m', hm, σ3, H3, I3, w3⟩
   | cont =>
     obtain ⟨σ3, H3, I3, n3⟩ := q3
     obtain ⟨m', hm, w3⟩ := hN σ3 H3 n3
     exact ⟨m', hm, σ3, H3, I3, w3⟩
   | brk => exact q3
   | ret v => exact q3
 | false =>
   rw [if_neg Bool.false_ne_true]
   exact wpAny_execs_nil ⟨σ1, H2, I2, q2⟩
end
structure It where
 go : Nat → Hp → Prop
 yld : Nat → Hp → V → Hp → Prop
 stop : Nat → Hp → Prop
def FpOk (X : Cx) (pins : List (Addr × Obj)) (H : Hp) (b : Addr) : Prop :=
 H b = none ∧ b ≠ X.env.locals ∧ b ∉ X.fs ∧ (b ∈ X.ex ∨ X.s₀.heap.objs.size ≤ b) ∧ (∀ x c, X.env.cells.lookup x = some c → c ≠ b) ∧ ∀ p ∈ X.pn ++ pins, p.1 ≠ b
theorem Inv.fpOk {X : Cx} {pins : List (Addr × Obj)} {σ : St} {H H' : Hp} {s : Shared} {b : Addr} (I : Inv X pins σ H s) (hb : s.heap.objs.size ≤ b) (hn : H' b = none) : FpOk X pins H' b := by
 refine ⟨hn, Nat.ne_of_gt (Nat.lt_of_lt_of_le I.lt hb), I.nofs hb, .inr (Nat.le_trans I.sz hb), λx c e z => ?_, λp hp z => ?_⟩
 · obtain ⟨v, q⟩ := I.cell x c e
   exact absurd (Nat.lt_of_lt_of_le q.lt (by rw [z]; exact hb)) (Nat.lt_irrefl _)
 · exact absurd (Nat.lt_of_lt_of_le (Heap.lt_size (I.pin p hp).1) (by rw [z]; exact hb)) (Nat.lt_irrefl _)
structure Turn (P : Program) (w : World) (K : PySem.W.Frag) (tg : Expr) (J : It) (fp : List Addr) (it : Addr) (tn : Nat → Heap → Prop) : Prop where
 mem : it ∈ fp
 obj : ∀ i h, tn i h → ∀ b ∈ fp, ∃ o, h.get? b = some o ∧ ∀ v, o.data ≠ .cell v
 keep : ∀ i h h', tn i h → (∀ b ∈ fp, ∀ o, h.get? b = some o → h'.get? b = some o) → tn i h'
 item : ∀ (X : Cx), X.prog = P → X.w = w → X.K = K → X.calm = true → ∀ (i : Nat) (pins : List (Addr × Obj)) (s : Shared) (σ : St) (H : Hp) (E : Value → Shared → Prop), Inv X pins σ H s → (∀ b ∈ fp, FpOk X pins H b) → tn i s.heap → J.go i H →
   wpAny (model P w) X.A (pyNext (.ref it)) (λr s1 => ∃ u, r = some u ∧
     wpAny (model P w) X.A (letOwnedTupleGo tg (.ref it) u) (λ_ s2 => ∃ x H', Inv X pins σ H' s2 ∧ RelV x u ∧ J.yld i H x H' ∧ tn (i + 1) s2.heap ∧ ∀ b ∈ fp, H' b = none) E s1) E s
 done : ∀ (X : Cx), X.prog = P → X.w = w → X.K = K → X.calm = true → ∀ (i : Nat) (pins : List (Addr × Obj)) (s : Shared) (σ : St) (H : Hp) (E : Value → Shared → Prop), Inv X pins σ H s → (∀ b ∈ fp, FpOk X pins H b) → tn i s.heap → J.stop i H →
   wpAny (model P w) X.A (pyNext (.ref it)) (λr s1 => r = none ∧ Inv X pins σ H s1) E s
 self : ∀ (A : Around) (i : Nat) (s : Shared) (Q : Value → Shared → Prop) (E : Value → Shared → Prop), tn i s.heap → Q (.ref it) s → wpAny (model P w) A (pyIter (.ref it)) Q E s
abbrev TI := St → Hp → (It → Hp → Prop) → Prop
def PIE (X : Cx) (pins : List (Addr × Obj)) (σ : St) (tg : Expr) (R : It → Hp → Prop) (itv : Value) (s2 : Shared) : Prop :=
 ∃ (it : Addr) (fp : List Addr) (tn : Nat → Heap → Prop) (J : It) (H' : Hp), itv = .ref it ∧ Inv X pins σ H' s2 ∧ Turn X.prog X.w X.K tg J fp it tn ∧ tn 0 s2.heap ∧ (∀ b ∈ fp, FpOk X pins H' b) ∧ R J H'
def PI (X : Cx) (tg iter : Expr) (wi : TI) : Prop :=
 ∀ (pins : List (Addr × Obj)) (s : Shared) (σ : St) (H : Hp) (R : It → Hp → Prop), Inv X pins σ H s → wi σ H R →
   wpAny (model X.prog X.w) X.A (eval iter X.env) (λv s1 => wpAny (model X.prog X.w) X.A (pyIter v) (PIE X pins σ tg R) X.xe s1) X.xe s
theorem zlL {M : Model} {A : Around} {E : Value → Shared → Prop} {s : Shared} {tg : Expr} {it : Addr} {u : Value} {o : Obj} {n : String} {vs : Array Value} {Q : Unit → Shared → Prop} (ho : s.heap.get? it = some o) (hc : o.cls = .type n) (hd : o.data = .fields vs)
   (hn : ["enumerate", "zip", "dict_itemiterator", "dict_reverseitemiterator", "odict_iterator", "itertools.zip_longest", "itertools.pairwise"].contains n = false) (hQ : Q () s) : wpAny M A (letOwnedTupleGo tg (.ref it) u) Q E s := by
 unfold letOwnedTupleGo
 cases tg <;> first
   | exact wpAny_pure hQ
   | (cases u <;> first
       | exact wpAny_pure hQ
       | (refine wpAny_bind (wpAny_load ho ?_)
          rw [hc, hd]
          show wpAny M A (if (["enumerate", "zip", "dict_itemiterator", "dict_reverseitemiterator", "odict_iterator", "itertools.zip_longest", "itertools.pairwise"].contains n && vs[0]? == some (rawInt _)) = true then _ else _) Q E s
          rw [if_neg (by intro h; rw [hn, Bool.false_and] at h; cases h)]
          exact wpAny_pure hQ))
def Itl (K : PySem.W.Frag) (a : Addr) : It :=
 ⟨λi H => ∃ xs x, SqL K H a xs ∧ xs[i]? = some x, λi H x H' => H' = H ∧ ∀ xs, SqL K H a xs → xs[i]? = some x, λi H => ∃ xs, SqL K H a xs ∧ xs.length ≤ i⟩
def Itt (K : PySem.W.Frag) (a : Addr) : It :=
 ⟨λi H => ∃ xs x, SqT K H a xs ∧ xs[i]? = some x, λi H x H' => H' = H ∧ ∀ xs, SqT K H a xs → xs[i]? = some x, λi H => ∃ xs, SqT K H a xs ∧ xs.length ≤ i⟩
def Itr (lo : Int) (n : Nat) : It := ⟨λi _ => i < n, λi H x H' => H' = H ∧ x = .int (lo + i), λi _ => n ≤ i⟩
theorem zhB {P : Program} {w : World} {K : PySem.W.Frag} {tg : Expr} (a it : Addr) : Turn P w K tg (Itl K a) [it] it (λi h => h.IsListIter it a i) where
 mem := by simp
 obj := λi h st b hb => by
   have e : b = it := by simpa using hb
   subst e
   obtain ⟨o, e, c, d⟩ := st
   exact ⟨o, e, λv z => by rw [d] at z; cases z⟩
 keep := λi h h' st k => st.at λo e => k it (by simp) o e
 item := by
   intro X hP hw hK hc i pins s σ H E I hf st hg
   subst hP hw hK
   obtain ⟨xs, x, hq, hx⟩ := hg
   obtain ⟨its, rv, p, hz⟩ := I.list hq
   obtain ⟨u, hu, ru⟩ := rv.get hx
   obtain ⟨f0, f1, f2, f3, f4, f5⟩ := hf it (by simp)
   refine wpAny_pyNext_list_item st p.isList (x := u) (by simpa using hu) λh' st' sb => ?_
   have I1 : Inv X pins σ H { s with heap := h' } := I.turned (t' := s.toks) (λb o hb e => (sb.2 b hb).trans e) f0 f1 f3 f4 f5
   obtain ⟨o, e, c, d⟩ := id st'
   exact ⟨u, rfl, zlL (s := { s with heap := h' }) e c d (by decide) ⟨x, H, I1, ru, ⟨rfl, λys hy => by rw [I.list_inj hy hq]; exact hx⟩, st', λb hb => (hf b hb).1⟩⟩
 done := by
   intro X hP hw hK hc i pins s σ H E I hf st hg
   subst hP hw hK
   obtain ⟨xs, hq, hx⟩ := hg
   obtain ⟨its, rv, p, hz⟩ := I.list hq
   obtain ⟨f0, f1, f2, f3, f4, f5⟩ := hf it (by simp)
   have hl := rv.length
   exact wpAny_pyNext_list_end (I.ok.hd hc) st p.isList (by simp; omega) λh' eb => ⟨rfl, I.turned (t' := s.toks) (λb o hb e => eb b o hb e) f0 f1 f3 f4 f5⟩
 self := λ_ _ _ _ _ st h => wpAny_pyIter_listiter st h
theorem zgZ {P : Program} {w : World} {K : PySem.W.Frag} {tg : Expr} (a it : Addr) : Turn P w K tg (Itt K a) [it] it (λi h => h.IsTupleIter it a i) where
 mem := by simp
 obj := λi h st b hb => by
   have e : b = it := by simpa using hb
   subst e
   obtain ⟨o, e, c, d⟩ := st
   exact ⟨o, e, λv z => by rw [d] at z; cases z⟩
 keep := λi h h' st k => st.at λo e => k it (by simp) o e
 item := by
   intro X hP hw hK hc i pins s σ H E I hf st hg
   subst hP hw hK
   obtain ⟨xs, x, hq, hx⟩ := hg
   obtain ⟨its, rv, p, hz⟩ := I.tuple hq
   obtain ⟨u, hu, ru⟩ := rv.get hx
   obtain ⟨f0, f1, f2, f3, f4, f5⟩ := hf it (by simp)
   refine wpAny_pyNext_tuple_item st (show s.heap.IsTuple a its.toArray from p) (x := u) (by simpa using hu) λh' st' sb => ?_
   have I1 : Inv X pins σ H { s with heap := h' } := I.turned (t' := s.toks) (λb o hb e => (sb.2 b hb).trans e) f0 f1 f3 f4 f5
   obtain ⟨o, e, c, d⟩ := id st'
   exact ⟨u, rfl, zlL (s := { s with heap := h' }) e c d (by decide) ⟨x, H, I1, ru, ⟨rfl, λys hy => by rw [I.tuple_inj hy hq]; exact hx⟩, st', λb hb => (hf b hb).1⟩⟩
 done := by
   intro X hP hw hK hc i pins s σ H E I hf st hg
   subst hP hw hK
   obtain ⟨xs, hq, hx⟩ := hg
   obtain ⟨its, rv, p, hz⟩ := I.tuple hq
   obtain ⟨f0, f1, f2, f3, f4, f5⟩ := hf it (by simp)
   have hl := rv.length
   exact wpAny_pyNext_tuple_end (I.ok.hd hc) st (show s.heap.IsTuple a its.toArray from p) (by simp; omega) λh' eb => ⟨rfl, I.turned (t' := s.toks) (λb o hb e => eb b o hb e) f0 f1 f3 f4 f5⟩
 self := λ_ _ _ _ _ st h => wpAny_pyIter_tupleiter st h
theorem zg0 {P : Program} {w : World} {K : PySem.W.Frag} {tg : Expr} (it : Addr) (lo : Int) (n : Nat) : Turn P w K tg (Itr lo n) [it] it (λi h => IsRangeIter h it (lo + (i : Nat) * 1) ((n : Int) - (i : Nat)) 1) where
 mem := by simp
 obj := λi h st b hb => by
   have e : b = it := by simpa using hb
   subst e
   exact ⟨_, st, λv z => by
     have z' : Data.fields _ = Data.cell v := z
     cases z'⟩
 keep := λi h h' st k => k it (by simp) _ st
 item := by
   intro X hP hw hK hc i pins s σ H E I hf st hg
   subst hP hw hK
   obtain ⟨f0, f1, f2, f3, f4, f5⟩ := hf it (by simp)
   have W := Walks.range (prog := X.prog) (w := X.w) (I.ok.hd hc) it lo 1 n
   refine W.item i s _ _ hg st λv h' tk hv st' kk => ?_
   obtain ⟨t, rfl⟩ := hv
   have I1 : Inv X pins σ H { s with heap := h', toks := tk } := I.turned (λb o hb e => kk b o (by simpa using hb) e) f0 f1 f3 f4 f5
   refine ⟨_, rfl, zlL (s := { s with heap := h', toks := tk }) (n := "range_iterator") st' rfl rfl (by decide) ⟨.int (lo + i), H, I1, ⟨t, ?_⟩, ⟨rfl, rfl⟩, st', λb hb => (hf b hb).1⟩⟩
   rw [Int.mul_one]
 done := by
   intro X hP hw hK hc i pins s σ H E I hf st hg
   subst hP hw hK
   obtain ⟨f0, f1, f2, f3, f4, f5⟩ := hf it (by simp)
   exact wpAny_pyNext_range_end (I.ok.hd hc) st (by have : n ≤ i := hg; omega) λh' eb => ⟨rfl, I.turned (t' := s.toks) (λb o hb e => eb b o hb e) f0 f1 f3 f4 f5⟩
 self := λ_ _ _ _ _ st h => wpAny_pyIter_rangeiter st h
end L2
namespace L2
open PySem PySem.Spec PyProof.Rows
section
variable {X : Cx} {tg : Expr}
def iList (K : PySem.W.Frag) (tl : TE) : TI := λσ H R => tl σ H λx H1 => ∃ a, x = .ref a ∧ (∃ xs, SqL K H1 a xs) ∧ R (Itl K a) H1
def iTup (K : PySem.W.Frag) (tl : TE) : TI := λσ H R => tl σ H λx H1 => ∃ a, x = .ref a ∧ (∃ xs, SqT K H1 a xs) ∧ R (Itt K a) H1
theorem zla {l : Expr} {tl : TE} (hl : PE X l tl) : PI X tg l (iList X.K tl) := by
 intro pins s σ H R I h
 refine thn (hl pins s σ H _ I h) λv s1 ⟨x, H1, I1, r1, q1⟩ => ?_
 obtain ⟨a, e, ⟨xs, hq⟩, q⟩ := q1
 subst e
 cases r1
 obtain ⟨its, rv, p, hz⟩ := I1.list hq
 refine wpAny_pyIter_list p.isList ?_
 refine ⟨s1.heap.objs.size, [s1.heap.objs.size], _, _, H1, rfl, I1.kept (t' := s1.toks) λb o e => Heap.get?_push_of_some _ e, zhB a _, ⟨_, Heap.get?_push_size _ rfl, rfl, rfl⟩, λb hb => ?_, q⟩
 have e : b = s1.heap.objs.size := by simpa using hb
 subst e
 exact I1.fpOk (Nat.le_refl _) (I1.hok.fresh (Nat.le_refl _))
theorem zm7 {l : Expr} {tl : TE} (hl : PE X l tl) : PI X tg l (iTup X.K tl) := by
 intro pins s σ H R I h
 refine thn (hl pins s σ H _ I h) λv s1 ⟨x, H1, I1, r1, q1⟩ => ?_
 obtain ⟨a, e, ⟨xs, hq⟩, q⟩ := q1
 subst e
 cases r1
 obtain ⟨its, rv, p, hz⟩ := I1.tuple hq
 refine wpAny_pyIter_tuple (show s1.heap.IsTuple a its.toArray from p) ?_
 refine ⟨s1.heap.objs.size, [s1.heap.objs.size], _, _, H1, rfl, I1.kept (t' := s1.toks) λb o e => Heap.get?_push_of_some _ e, zgZ a _, ⟨_, Heap.get?_push_size _ rfl, rfl, rfl⟩, λb hb => ?_, q⟩
 have e : b = s1.heap.objs.size := by simpa using hb
 subst e
 exact I1.fpOk (Nat.le_refl _) (I1.hok.fresh (Nat.le_refl _))
theorem zgG {pins : List (Addr × Obj)} {σ : St} {H : Hp} {s : Shared} {R : It → Hp → Prop} {E : Value → Shared → Prop} {lo hi : Int} {t u v : Tok} {tk : Nat} (I : Inv X pins σ H s) (h1 : -(2 ^ 62) ≤ lo) (h2 : lo < 2 ^ 62) (h3 : -(2 ^ 62) ≤ hi) (h4 : hi < 2 ^ 62)
   (q : R (Itr lo (hi - lo).toNat) H) : wpAny (model X.prog X.w) X.A (pyIter (.ref s.heap.objs.size)) (PIE X pins σ tg R) E { s with heap := s.heap.push { cls := .type "range", data := .fields #[.int lo t, .int hi u, .int 1 v] }, toks := tk } := by
 refine wpAny_pyIter_range (IsRange.new ..) (small_one h1 h2 h3 h4) ?_
 have I1 : Inv X pins σ H { s with heap := s.heap.push { cls := .type "range", data := .fields #[.int lo t, .int hi u, .int 1 v] }, toks := tk } := I.kept λb o e => Heap.get?_push_of_some _ e
 refine ⟨(s.heap.push { cls := .type "range", data := .fields #[.int lo t, .int hi u, .int 1 v] }).objs.size, [(s.heap.push { cls := .type "range", data := .fields #[.int lo t, .int hi u, .int 1 v] }).objs.size], _, _, H, rfl,
   I1.kept (t' := tk) λb o e => Heap.get?_push_of_some _ e, zg0 _ lo (hi - lo).toNat, ?_, λb hb => ?_, q⟩
 · have e1 : lo + ((0 : Nat) : Int) * 1 = lo := by simp
   have e2 : (((hi - lo).toNat : Nat) : Int) - ((0 : Nat) : Int) = Builtin.Range.rangeSize lo hi 1 := by rw [rangeSize_one]; split <;> omega
   show IsRangeIter _ _ (lo + ((0 : Nat) : Int) * 1) ((((hi - lo).toNat : Nat) : Int) - ((0 : Nat) : Int)) 1
   rw [e1, e2]
   exact Heap.get?_push_size _ rfl
 · have e : b = (s.heap.push { cls := .type "range", data := .fields #[.int lo t, .int hi u, .int 1 v] }).objs.size := by simpa using hb
   subst e
   exact I1.fpOk (Nat.le_refl _) (I1.hok.fresh (Nat.le_refl _))
def iRng1 (ta : TA) : TI := λσ H R => ta σ H λvs H1 => ∃ j : Int, vs = [.int j] ∧ -(2 ^ 62) ≤ j ∧ j < 2 ^ 62 ∧ R (Itr 0 j.toNat) H1
def iRng2 (ta : TA) : TI := λσ H R => ta σ H λvs H1 => ∃ i j : Int, vs = [.int i, .int j] ∧ (-(2 ^ 62) ≤ i ∧ i < 2 ^ 62 ∧ -(2 ^ 62) ≤ j ∧ j < 2 ^ 62) ∧ R (Itr i (j - i).toNat) H1
theorem zhV {a : Expr} {ta : TA} {p pos : Pos} (hg : Gl X "range") (hm : X.mg "range" = none) (ha : PA X [a] ta) (hs : starEach [a] X.env = [(false, eval a X.env)] := by rfl) : PI X tg (.Call (.Name "range" p) [a] [] pos) (iRng1 ta) := by
 intro pins s σ H R I h
 refine Call_ (ze1 I hg hm boot_range (PyProof.Rows.callWith_type1 (thn (ha pos pins s σ H _ I h) λus s1 ⟨vs, H1, I1, r1, q1⟩ => ?_) hs rfl))
 obtain ⟨j, e, q1, q2, q⟩ := q1
 subst e
 cases r1 with
 | cons r rr =>
   cases rr
   obtain ⟨t, rfl⟩ := r
   exact call_range_1 (zgG I1 (by omega) (by omega) q1 q2 (by simpa using q))
theorem zhU {a b : Expr} {ta : TA} {p pos : Pos} (hg : Gl X "range") (hm : X.mg "range" = none) (ha : PA X [a, b] ta) (hs : starEach [a, b] X.env = [(false, eval a X.env), (false, eval b X.env)] := by rfl) (hs2 : starEach [b] X.env = [(false, eval b X.env)] := by rfl) :
   PI X tg (.Call (.Name "range" p) [a, b] [] pos) (iRng2 ta) := by
 intro pins s σ H R I h
 refine Call_ (ze1 I hg hm boot_range (PyProof.Rows.callWith_type1 (thn (ha pos pins s σ H _ I h) λus s1 ⟨vs, H1, I1, r1, q1⟩ => ?_) (by rw [hs, hs2]) (by rw [hs2]; rfl)))
 obtain ⟨i, j, e, ⟨q1, q2, q3, q4⟩, q⟩ := q1
 subst e
 cases r1 with
 | cons r rr =>
   cases rr with
   | cons r' rr =>
     cases rr
     obtain ⟨t, rfl⟩ := r
     obtain ⟨t', rfl⟩ := r'
     exact call_range_2 (zgG I1 q1 q2 q3 q4 q)
def tFor (wi : TI) (g : TG) (tb : TS) : TS := λD σ H => wi σ H λJ H1 => ∃ W : Nat → Nat → St → Hp → Prop, (∃ m, W 0 m σ H1) ∧ ∀ i m σ H, W i m σ H →
 (J.stop i H ∧ D.nx σ H) ∨ (J.go i H ∧ ∃ N : St → Hp → Prop, (∀ σ' H', N σ' H' → ∃ m', m' < m ∧ W (i + 1) m' σ' H') ∧ ∀ x H', J.yld i H x H' → g x σ H' λσ2 H2 => tb { D with nx := N, ct := N, bk := D.nx } σ2 H2)
def pinsAt (fp : List Addr) (h : Heap) : List (Addr × Obj) := fp.filterMap λb => (h.get? b).map λo => (b, o)
theorem zdF {fp : List Addr} {h : Heap} {b : Addr} {o : Obj} (hb : b ∈ fp) (e : h.get? b = some o) : (b, o) ∈ pinsAt fp h := List.mem_filterMap.mpr ⟨b, hb, by rw [e]; rfl⟩
theorem zhY {fp : List Addr} {h : Heap} {p : Addr × Obj} (hp : p ∈ pinsAt fp h) : p.1 ∈ fp ∧ h.get? p.1 = some p.2 := by
 obtain ⟨b, hb, e⟩ := List.mem_filterMap.mp hp
 cases q : h.get? b with
 | none => rw [q] at e; cases e
 | some o =>
   rw [q] at e
   have e' : (b, o) = p := Option.some.inj e
   subst e'
   exact ⟨hb, q⟩
theorem Inv.pinned {pins : List (Addr × Obj)} {σ : St} {H : Hp} {s : Shared} {fp : List Addr} (I : Inv X pins σ H s) (hf : ∀ b ∈ fp, FpOk X pins H b) (ho : ∀ b ∈ fp, ∃ o, s.heap.get? b = some o ∧ ∀ v, o.data ≠ .cell v) : Inv X (pins ++ pinsAt fp s.heap) σ H s :=
 I.pins_of λp hp => (List.mem_append.mp hp).elim (λz => I.pin p (List.mem_append_right _ z)) λz => by
   obtain ⟨hb, e⟩ := zhY z
   obtain ⟨f0, f1, f2, _⟩ := hf p.1 hb
   obtain ⟨o, e', d⟩ := ho p.1 hb
   rw [e] at e'; cases e'
   exact ⟨e, f0, f1, f2, d⟩
theorem Inv.unpinned {pins pl : List (Addr × Obj)} {σ : St} {H : Hp} {s : Shared} (I : Inv X (pins ++ pl) σ H s) : Inv X pins σ H s := I.pins_of λp hp => I.pin p (List.mem_append_right _ (List.mem_append_left _ hp))
theorem zm3 {iter : Expr} {body : List Stmt} {wi : TI} {g : TG} {tb : TS} {pos : Pos} (hp : PassesOwn (model X.prog X.w) X.A X.env X.xe) (hc : X.calm = true) (hi : PI X tg iter wi) (hg : PG X tg g) (hb : PSs X body tb)
   (hs : ∀ x, foldedSetIterable iter X.env x = pure x := by intro _; rfl) : PS X (.For tg iter body [] pos) (tFor wi g tb) := by
 intro pins s σ H D I h
 refine wpAny_For (thn (hi pins s σ H _ I h) λv s1 h1 => thn h1 λitv s2 h2 => ?_) hs
 obtain ⟨it, fp, tn, J, H2, e, I2, T, st2, f2, W, ⟨m0, w0⟩, turn⟩ := h2
 subst e
 have stat : ∀ {H' : Hp}, (∀ b ∈ fp, H' b = none) → ∀ b ∈ fp, FpOk X pins H' b := λhn b hb => ⟨hn b hb, (f2 b hb).2⟩
 refine codeAny_forLoop_any (λn s' => ∃ i σ' H', Inv X pins σ' H' s' ∧ tn i s'.heap ∧ (∀ b ∈ fp, H' b = none) ∧ W i n σ' H') ?_ m0 ⟨0, σ, H2, I2, st2, λb hb => (f2 b hb).1, w0⟩
 rintro n s3 ⟨i, σ3, H3, I3, st3, fr3, w3⟩
 rcases turn i n σ3 H3 w3 with ⟨stop, qn⟩ | ⟨go, N, hN, step⟩
 · refine wpAny_passesOwn hp (thn (T.done X rfl rfl rfl hc i pins s3 σ3 H3 X.xe I3 (stat fr3) st3 stop) λr s4 ⟨hr, I4⟩ => ?_)
   subst hr
   exact wpAny_execs_nil ⟨σ3, H3, I4, qn⟩
 · refine wpAny_passesOwn hp (thn (T.item X rfl rfl rfl hc i pins s3 σ3 H3 X.xe I3 (stat fr3) st3 go) λr s4 ⟨u, hr, h4⟩ => ?_)
   subst hr
   refine wpAny_passesOwn hp (thn h4 λ_ s5 ⟨x, H5, I5, r5, y5, st5, fr5⟩ => ?_)
   have I5' := I5.pinned (stat fr5) (T.obj _ _ st5)
   refine wpAny_passesOwn hp (thn (hg _ s5 σ3 H5 x u _ I5' r5 (step x H5 y5)) λ_ s6 ⟨σ6, H6, I6, q6⟩ => ?_)
   refine wpAny_passesOwn hp (thn (hb _ s6 σ6 H6 _ I6 q6) λf s7 q7 => ?_)
   have again : ∀ {σ7 : St} {H7 : Hp}, Inv X (pins ++ pinsAt fp s5.heap) σ7 H7 s7 → N σ7 H7 → ∃ m, m < n ∧ ∃ i σ' H', Inv X pins σ' H' s7 ∧ tn i s7.heap ∧ (∀ b ∈ fp, H' b = none) ∧ W i m σ' H' := λ{σ7 H7} I7 n7 => by
     obtain ⟨m', hm, w7⟩ := hN σ7 H7 n7
     refine ⟨m', hm, i + 1, σ7, H7, I7.unpinned, T.keep _ _ _ st5 λb hb o e => (I7.pin (b, o) (List.mem_append_right _ (List.mem_append_right _ (zdF hb e)))).1, λb hb => ?_, w7⟩
     obtain ⟨o, e, d⟩ := T.obj _ _ st5 b hb
     exact (I7.pin (b, o) (List.mem_append_right _ (List.mem_append_right _ (zdF hb e)))).2.1
   cases f with
   | next => obtain ⟨σ7, H7, I7, n7⟩ := q7; exact again I7 n7
   | cont => obtain ⟨σ7, H7, I7, n7⟩ := q7; exact again I7 n7
   | brk => obtain ⟨σ7, H7, I7, q7⟩ := q7; exact ⟨σ7, H7, I7.unpinned, q7⟩
   | ret v => obtain ⟨x7, σ7, H7, I7, r7, q7⟩ := q7; exact ⟨x7, σ7, H7, I7.unpinned, r7, q7⟩
end
end L2
namespace L2
open PySem PySem.Spec PyProof.Rows
abbrev R2 := V → V → Hp → VK → Prop
def OpR (X : Cx) (f : Value → Value → Sem Value) (r : R2) : Prop :=
 ∀ (pins : List (Addr × Obj)) (s : Shared) (σ : St) (H : Hp) (x y : V) (v u : Value) (Q : VK), Inv X pins σ H s → RelV x v → RelV y u → r x y H Q →
   wpAny (model X.prog X.w) X.A (f v u) (EP X pins σ Q) X.xe s
def UnR (X : Cx) (f : Value → Sem Value) (r : V → Hp → VK → Prop) : Prop :=
 ∀ (pins : List (Addr × Obj)) (s : Shared) (σ : St) (H : Hp) (x : V) (v : Value) (Q : VK), Inv X pins σ H s → RelV x v → r x H Q →
   wpAny (model X.prog X.w) X.A (f v) (EP X pins σ Q) X.xe s
def CallR (X : Cx) (f : Value) (r : List V → Hp → VK → Prop) : Prop :=
 ∀ (pins : List (Addr × Obj)) (s : Shared) (σ : St) (H : Hp) (xs : List V) (us : List Value) (Q : VK), Inv X pins σ H s → Vals xs us → r xs H Q →
   wpAny (model X.prog X.w) X.A (call f us) (EP X pins σ Q) X.xe s
def TruR (X : Cx) (r : V → Hp → (Bool → Hp → Prop) → Prop) : Prop :=
 ∀ (pins : List (Addr × Obj)) (s : Shared) (σ : St) (H : Hp) (x : V) (v : Value) (Q : Bool → Hp → Prop), Inv X pins σ H s → RelV x v → r x H Q →
   wpAny (model X.prog X.w) X.A (truthy v) (TP X pins σ Q) X.xe s
def tOp (r : R2) (ta tb : TE) : TE := λσ H Q => ta σ H λx H1 => tb σ H1 λy H2 => r x y H2 Q
def tUn (r : V → Hp → VK → Prop) (ta : TE) : TE := λσ H Q => ta σ H λx H1 => r x H1 Q
def rI (C : Int → Int → Prop) (g : Int → Int → V) : R2 := λx y H Q => ∃ i j, x = .int i ∧ y = .int j ∧ C i j ∧ Q (g i j) H
def rI0 (g : Int → Int → V) : R2 := λx y H Q => ∃ i j, x = .int i ∧ y = .int j ∧ Q (g i j) H
def rU (g : Int → V) : V → Hp → VK → Prop := λx H Q => ∃ i, x = .int i ∧ Q (g i) H
section
variable {X : Cx} {a b c : Expr} {ta tb tc : TE} {pos : Pos}
theorem binT (ha : PE X a ta) (hb : PE X b tb) {pins : List (Addr × Obj)} {s : Shared} {σ : St} {H : Hp} {R : V → V → Hp → Prop} (I : Inv X pins σ H s)
   (h : ta σ H λx H1 => tb σ H1 λy H2 => R x y H2) {Q : Value → Shared → Prop} {f : Value → Value → Sem Value}
   (hf : ∀ v u s2 x y H2, Inv X pins σ H2 s2 → RelV x v → RelV y u → R x y H2 → wpAny (model X.prog X.w) X.A (f v u) Q X.xe s2) :
   wpAny (model X.prog X.w) X.A (eval a X.env) (λv s₁ => wpAny (model X.prog X.w) X.A (eval b X.env) (λu s₂ => wpAny (model X.prog X.w) X.A (f v u) Q X.xe s₂) X.xe s₁) X.xe s := by
 refine thn (ha pins s σ H _ I h) λv s1 ⟨x, H1, I1, r1, q1⟩ => ?_
 refine thn (hb pins s1 σ H1 _ I1 q1) λu s2 ⟨y, H2, I2, r2, q2⟩ => ?_
 exact hf v u s2 x y H2 I2 r1 r2 q2
theorem zoj {op : Operator} {r : R2} (ho : OpR X (binaryOp op) r) (ha : PE X a ta) (hb : PE X b tb) : PE X (.BinOp a op b pos) (tOp r ta tb) := by
 intro pins s σ H Q I h
 exact wpAny_BinOp (binT ha hb I h λv u s2 x y H2 I2 rx ry q => ho pins s2 σ H2 x y v u Q I2 rx ry q)
theorem zoh {op : UnaryOp} {r : V → Hp → VK → Prop} (ho : UnR X (unaryOp op) r) (ha : PE X a ta) : PE X (.UnaryOp op a pos) (tUn r ta) := by
 intro pins s σ H Q I h
 exact UnaryOp_ (thn (ha pins s σ H _ I h) λv s1 ⟨x, H1, I1, r1, q1⟩ => ho pins s1 σ H1 x v Q I1 r1 q1)
theorem opI {f : Value → Value → Sem Value} {C : Int → Int → Prop} {g : Int → Int → Int}
   (rule : ∀ (i j : Int) (t u : Tok) (s : Shared) (Q : Value → Shared → Prop) (E : Value → Shared → Prop), C i j → Q (.int (g i j) s.toks) { s with toks := s.toks + 1 } → wpAny (model X.prog X.w) X.A (f (.int i t) (.int j u)) Q E s) :
   OpR X f (rI C λi j => .int (g i j)) := by
 intro pins s σ H x y v u Q I rx ry h
 obtain ⟨i, j, rfl, rfl, hc, q⟩ := h
 obtain ⟨t, rfl⟩ := rx
 obtain ⟨t', rfl⟩ := ry
 exact rule i j t t' s _ _ hc ⟨.int (g i j), H, I.tok _, ⟨_, rfl⟩, q⟩
theorem opI0 {f : Value → Value → Sem Value} {g : Int → Int → Int}
   (rule : ∀ (i j : Int) (t u : Tok) (s : Shared) (Q : Value → Shared → Prop) (E : Value → Shared → Prop), Q (.int (g i j) s.toks) { s with toks := s.toks + 1 } → wpAny (model X.prog X.w) X.A (f (.int i t) (.int j u)) Q E s) :
   OpR X f (rI0 λi j => .int (g i j)) := by
 intro pins s σ H x y v u Q I rx ry h
 obtain ⟨i, j, rfl, rfl, q⟩ := h
 obtain ⟨t, rfl⟩ := rx
 obtain ⟨t', rfl⟩ := ry
 exact rule i j t t' s _ _ ⟨.int (g i j), H, I.tok _, ⟨_, rfl⟩, q⟩
theorem opB0 {f : Value → Value → Sem Value} {g : Int → Int → Bool}
   (rule : ∀ (i j : Int) (t u : Tok) (s : Shared) (Q : Value → Shared → Prop) (E : Value → Shared → Prop), Q (.bool (g i j)) s → wpAny (model X.prog X.w) X.A (f (.int i t) (.int j u)) Q E s) :
   OpR X f (rI0 λi j => .bl (g i j)) := by
 intro pins s σ H x y v u Q I rx ry h
 obtain ⟨i, j, rfl, rfl, q⟩ := h
 obtain ⟨t, rfl⟩ := rx
 obtain ⟨t', rfl⟩ := ry
 exact rule i j t t' s _ _ ⟨.bl (g i j), H, I, rfl, q⟩
def CPow (i j : Int) : Prop := 0 ≤ j ∧ j ≤ 1000000 ∧ i.natAbs < 2 ^ 64
theorem znp : OpR X (binaryOp .Add) (rI0 λi j => .int (i + j)) := opI0 λ_ _ _ _ _ _ _ q => add_int q
theorem znk : OpR X (binaryOp .Sub) (rI0 λi j => .int (i - j)) := opI0 λ_ _ _ _ _ _ _ q => sub_int q
theorem zlw : OpR X (binaryOp .Mod) (rI (λ_ j => j ≠ 0) λi j => .int (i.fmod j)) := opI λ_ _ _ _ _ _ _ hc q => mod_int' hc q
theorem znm : OpR X (binaryOp .Pow) (rI CPow λi j => .int (i ^ j.toNat)) := opI λ_ _ _ _ _ _ _ hc q => pow_int_small hc.1 hc.2.1 hc.2.2 q
theorem znl : OpR X (binaryOp .LShift) (rI CPow λi j => .int (i * 2 ^ j.toNat)) := opI λ_ _ _ _ _ _ _ hc q => lshift_int_small hc.1 hc.2.1 hc.2.2 q
theorem unI {f : Value → Sem Value} {g : Int → Int}
   (rule : ∀ (i : Int) (t : Tok) (s : Shared) (Q : Value → Shared → Prop) (E : Value → Shared → Prop), Q (.int (g i) s.toks) { s with toks := s.toks + 1 } → wpAny (model X.prog X.w) X.A (f (.int i t)) Q E s) :
   UnR X f (rU λi => .int (g i)) := by
 intro pins s σ H x v Q I rx h
 obtain ⟨i, rfl, q⟩ := h
 obtain ⟨t, rfl⟩ := rx
 exact rule i t s _ _ ⟨.int (g i), H, I.tok _, ⟨_, rfl⟩, q⟩
theorem zme : UnR X (unaryOp .USub) (rU λi => .int (-i)) := unI λ_ _ _ _ _ q => neg_int q
end
section
variable {X : Cx} {a b c : Expr} {ta tb tc : TE} {pos : Pos}
theorem zkm {pins : List (Addr × Obj)} {σ : St} {H : Hp} {s : Shared} {Q : VK} {k k' : Bool} (I : Inv X pins σ H s) (q : Q (.bl k) H) (e : k = k') : EP X pins σ Q (.bool k') s := by
 subst e
 exact ⟨.bl k, H, I, rfl, q⟩
theorem zoq : OpR X (compareOp .Lt) (rI0 λi j => .bl (decide (i < j))) := opB0 λ_ _ _ _ _ _ _ q => lt_int q
theorem zor : OpR X (compareOp .LtE) (rI0 λi j => .bl (decide (i ≤ j))) := opB0 λ_ _ _ _ _ _ _ q => le_int q
theorem zos : OpR X (compareOp .Gt) (rI0 λi j => .bl (decide (j < i))) := opB0 λ_ _ _ _ _ _ _ q => gt_int q
theorem zot : OpR X (compareOp .GtE) (rI0 λi j => .bl (decide (j ≤ i))) := opB0 λ_ _ _ _ _ _ _ q => ge_int q
theorem znn : OpR X (compareOp .Is) (λx y H Q => y = .non ∧ Q (.bl (decide (x = .non))) H) := by
 intro pins s σ H x y v u Q I rx ry h
 obtain ⟨rfl, q⟩ := h
 cases ry
 refine is_none_gen (zkm I q ?_)
 cases x <;> first
   | (cases rx; rfl)
   | (obtain ⟨t, rfl⟩ := rx; rfl)
theorem zlu : OpR X (compareOp .IsNot) (λx y H Q => y = .non ∧ Q (.bl (!decide (x = .non))) H) := by
 intro pins s σ H x y v u Q I rx ry h
 obtain ⟨rfl, q⟩ := h
 cases ry
 refine isnot_none_gen (zkm I q ?_)
 cases x <;> first
   | (cases rx; rfl)
   | (obtain ⟨t, rfl⟩ := rx; rfl)
theorem nomark (b : Expr) {op : CmpOp} (h : op ≠ .In := by decide) (h2 : op ≠ .NotIn := by decide) : behindInMarks op b = false := by
 have e1 : (op == CmpOp.In) = false := by cases op <;> first | rfl | exact absurd rfl h
 have e2 : (op == CmpOp.NotIn) = false := by cases op <;> first | rfl | exact absurd rfl h2
 cases b <;> simp [behindInMarks, e1, e2]
theorem zld {op : CmpOp} {r : R2} (ho : OpR X (compareOp op) r) (ha : PE X a ta) (hb : PE X b tb) (hm : behindInMarks op b = false) : PE X (.Compare a [op] [b] pos) (tOp r ta tb) := by
 intro pins s σ H Q I h
 exact wpAny_Compare1 (binT ha hb I h λv u s2 x y H2 I2 rx ry q => ho pins s2 σ H2 x y v u Q I2 rx ry q) hm
def tTest (t : TE) : TT := λσ H Q => t σ H λx H' => ∃ k, x = .bl k ∧ Q k H'
theorem zk2 {op : CmpOp} {r : R2} (ho : OpR X (compareOp op) r) (ha : PE X a ta) (hb : PE X b tb) (hm : behindInMarks op b = false) : PT X (.Compare a [op] [b] pos) (tTest (tOp r ta tb)) := by
 intro pins s σ H Q I h
 refine wpAny_isTrue_Compare1 (thn (ha pins s σ H _ I h) λv s1 ⟨x, H1, I1, r1, q1⟩ => thn (hb pins s1 σ H1 _ I1 q1) λu s2 ⟨y, H2, I2, r2, q2⟩ =>
   thn (ho pins s2 σ H2 x y v u _ I2 r1 r2 q2) λc s3 ⟨z, H3, I3, r3, k, e, q3⟩ => ?_) hm
 subst e
 cases r3
 exact wpAny_truthy_bool ⟨H3, I3, q3⟩
def TruV (K : PySem.W.Frag) (x : V) (H : Hp) (k : Bool) : Prop :=
 match x with
 | .non => k = false
 | .bl b => k = b
 | .int i => k = (i != 0)
 | .str y => y.length ≤ sizeLine ∧ k = ((y.length : Int) != 0)
 | .byt y => y.size ≤ sizeLine ∧ k = ((y.size : Int) != 0)
 | .ref p => (∃ xs, SqL K H p xs ∧ k = !xs.isEmpty) ∨ (∃ xs, SqT K H p xs ∧ k = !xs.isEmpty) ∨ ∃ kvs, H p = some (.dK kvs) ∧ k = !kvs.isEmpty
 | _ => False
theorem zhq {κ : Type} {kvs : List (κ × V)} {vs : List (κ × Value)} (r : KV kvs vs) : (!vs.isEmpty) = !kvs.isEmpty := by
 cases r <;> rfl
theorem ze2 {xs : List V} {its : List Value} (r : Vals xs its) : (!its.toArray.isEmpty) = !xs.isEmpty := by
 cases r <;> simp
theorem line63 : (sizeLine : Nat) < 2 ^ 63 := by rw [sizeLine_eq]; decide
theorem zmg : TruR X (λx H Q => ∃ k, TruV X.K x H k ∧ Q k H) := by
 intro pins s σ H x v Q I rx h
 obtain ⟨k, e, q⟩ := h
 have hl := line63
 have hs : sizeLine = 16777216 := sizeLine_eq
 cases x with
 | non =>
   cases rx
   have e' : k = false := e
   subst e'
   exact truthy_none ⟨H, I, q⟩
 | bl b =>
   cases rx
   have e' : k = b := e
   subst e'
   exact wpAny_truthy_bool ⟨H, I, q⟩
 | int i =>
   obtain ⟨t, rfl⟩ := rx
   have e' : k = (i != 0) := e
   subst e'
   exact PySem.P.truthy_int ⟨H, I, q⟩
 | str y =>
   obtain ⟨t, rfl⟩ := rx
   obtain ⟨hy, e'⟩ : y.length ≤ sizeLine ∧ k = ((y.length : Int) != 0) := e
   subst e'
   exact PySem.P.truthy_str (by omega) ⟨H, I.tok _, q⟩
 | byt y =>
   obtain ⟨t, rfl⟩ := rx
   obtain ⟨hy, e'⟩ : y.size ≤ sizeLine ∧ k = ((y.size : Int) != 0) := e
   subst e'
   exact PySem.W.truthy_bytes (by omega) ⟨H, I.tok _, q⟩
 | ref p =>
   cases rx
   have e' : (∃ xs, SqL X.K H p xs ∧ k = !xs.isEmpty) ∨ (∃ xs, SqT X.K H p xs ∧ k = !xs.isEmpty) ∨ ∃ kvs, H p = some (.dK kvs) ∧ k = !kvs.isEmpty := e
   rcases e' with ⟨xs, hx, e'⟩ | ⟨xs, hx, e'⟩ | ⟨kvs, hx, e'⟩
   · subst e'
     obtain ⟨its, r, pl, hz⟩ := I.list hx
     have hlen := r.length
     exact wpAny_truthy_list pl.isList (by simp only [List.size_toArray]; omega) ⟨H, I.tok _, by rw [ze2 r]; exact q⟩
   · subst e'
     obtain ⟨its, r, pl, hz⟩ := I.tuple hx
     have hlen := r.length
     exact truthy_tuple pl (by simp only [List.size_toArray]; omega) ⟨H, I.tok _, by rw [ze2 r]; exact q⟩
   · subst e'
     obtain ⟨hz, hS, vs, r, m⟩ : kvs.length ≤ sizeLine ∧ (p == sysModules) = false ∧ ∃ vs, KV kvs vs ∧ s.heap.DictOf (mixKind X.prog X.w) p vs := I.hok p _ hx
     have hlen : kvs.length = vs.length := Paired.length r
     exact wpAny_truthy_dict hS m (by omega) ⟨H, I.tok _, by rw [zhq r]; exact q⟩
 | _ => exact (show False from e).elim
theorem zjo (ha : PE X a ta) (he : ∀ whole, isTrue a X.env whole = (do let v ← whole; standAt a.pos; holding [v] (truthy v))) :
   PT X a (λσ H Q => ta σ H λx H' => ∃ k, TruV X.K x H' k ∧ Q k H') := by
 intro pins s σ H Q I h
 exact isTrue_plain (thn (ha pins s σ H _ I h) λv s1 ⟨x, H1, I1, r1, q1⟩ => zmg pins s1 σ H1 x v Q I1 r1 q1) (he _)
theorem zhh : OpR X (binaryOp .Add) (λx y H Q => ∃ i j, x = .str i ∧ y = .str j ∧ i.length + j.length ≤ sizeLine ∧ Q (.str (i ++ j)) H) := by
 intro pins s σ H x y v u Q I rx ry h
 obtain ⟨i, j, rfl, rfl, hz, q⟩ := h
 obtain ⟨t, rfl⟩ := rx
 obtain ⟨t', rfl⟩ := ry
 exact add_str (λt' tk => ⟨.str (i ++ j), H, I.tok _, ⟨_, rfl⟩, q⟩) hz
theorem vals1 {x : V} {us : List Value} (r : Vals [x] us) : ∃ u, us = [u] ∧ RelV x u := by
 cases r with
 | cons r1 r2 => cases r2; exact ⟨_, rfl, r1⟩
theorem vals2 {x y : V} {us : List Value} (r : Vals [x, y] us) : ∃ u w', us = [u, w'] ∧ RelV x u ∧ RelV y w' := by
 cases r with
 | cons r1 r2 =>
   cases r2 with
   | cons r3 r4 => cases r4; exact ⟨_, _, rfl, r1, r3⟩
theorem zj5 : CallR X (.builtin "abs") (λxs H Q => ∃ i, xs = [.int i] ∧ Q (.int (if i < 0 then -i else i)) H) := by
 intro pins s σ H xs us Q I r h
 obtain ⟨i, rfl, q⟩ := h
 obtain ⟨u, rfl, t, rfl⟩ := vals1 r
 exact call_abs_int λu tk => ⟨.int (if i < 0 then -i else i), H, I.tok _, ⟨_, rfl⟩, q⟩
theorem ziS (hc : X.calm = true) : CallR X (.builtin "max") (λxs H Q => ∃ i j, xs = [.int i, .int j] ∧ Q (.int (if j > i then j else i)) H) := by
 intro pins s σ H xs us Q I r h
 obtain ⟨i, j, rfl, q⟩ := h
 obtain ⟨u, w', rfl, ⟨t, rfl⟩, ⟨t', rfl⟩⟩ := vals2 r
 refine max_two_ints (I.ok.hd hc) λh' tk k => ⟨_, H, I.kept k, ?_, q⟩
 by_cases hj : j > i
 · rw [if_pos hj, if_pos hj]; exact ⟨_, rfl⟩
 · rw [if_neg hj, if_neg hj]; exact ⟨_, rfl⟩
theorem ziR (hc : X.calm = true) : CallR X (.builtin "min") (λxs H Q => ∃ i j, xs = [.int i, .int j] ∧ Q (.int (if j < i then j else i)) H) := by
 intro pins s σ H xs us Q I r h
 obtain ⟨i, j, rfl, q⟩ := h
 obtain ⟨u, w', rfl, ⟨t, rfl⟩, ⟨t', rfl⟩⟩ := vals2 r
 refine min_two_ints (I.ok.hd hc) λh' tk k => ⟨_, H, I.kept k, ?_, q⟩
 by_cases hj : j < i
 · rw [if_pos hj, if_pos hj]; exact ⟨_, rfl⟩
 · rw [if_neg hj, if_neg hj]; exact ⟨_, rfl⟩
end
end L2
namespace L2
open PySem PySem.Spec PyProof.Rows
structure ObjM (h : Heap) (x dx C : Addr) (mA : Str → Option Value) : Prop where
 obj : h.get? x = some (PySem.W.instObj C dx)
 ns : h.Ns1 dx mA
 ne : dx ≠ x
theorem zib {h : Heap} {dx : Addr} {mA : Str → Option Value} (n : h.Ns1 dx mA) : ∃ od, h.get? dx = some od ∧ ∀ name, PySem.W.lookIn name od = some (mA name) := by
 obtain ⟨o, es, ep, ho, hd, hk, _, hm⟩ := n
 refine ⟨o, ho, λname => ?_⟩
 have e := hm name
 unfold nsFind findBy at e
 rw [← Array.find?_toList] at e
 unfold PySem.W.lookIn
 rw [hd]
 dsimp only
 split
 · rename_i y q
   rw [q] at e
   exact congrArg some e
 · rename_i q
   rw [q] at e
   have a : es.toList.any (·.refKey) = false := by
     rw [List.any_eq_false]
     intro y hy
     obtain ⟨z, t, hkey⟩ := hk y (Array.mem_toList_iff.mp hy)
     simp [DictEntry.refKey, hkey]
   have a' : ¬ es.toList.any (·.refKey) = true := by rw [a]; exact Bool.false_ne_true
   rw [if_neg a']
   exact congrArg some e
theorem ObjM.look {h : Heap} {x dx C : Addr} {mA : Str → Option Value} (I : ObjM h x dx C mA) : ∃ od, PySem.W.InstAt h x (PySem.W.instObj C dx) C (some od) ∧ ∀ name, PySem.W.lookIn name od = some (mA name) :=
 let ⟨od, ho, hl⟩ := zib I.ns
 ⟨od, ⟨I.obj, rfl, rfl, ho⟩, hl⟩
section
variable {prog : Program} {w : World} {A : Around} {E : Value → Shared → Prop} {s : Shared} {K : PySem.W.Frag} {x dx C f : Addr} {mA : Str → Option Value} {name : Str} {v : Value}
end
section
variable {P : Program} {w : World} {H H' : Hp} {h h' : Heap} {a C dx : Addr} {fs fs' : List (Str × V)}
theorem zlJ (hok : HOk P w H h) (e : H a = some (.ins C dx fs)) : ∃ mA, ObjM h a dx C mA ∧ (∀ f, RelO (fs.lookup f) (mA f)) ∧ PySem.Within mA (fs.map (·.1)) ∧ fs.length ≤ 1000 ∧ H dx = some (.own a) := by
 obtain ⟨d, z, ne, ob, mA, n, r, q⟩ := (show ObjOk P w H h a (.ins C dx fs) from hok a _ e)
 exact ⟨mA, ⟨ob, n, ne⟩, r, q, z, d⟩
end
structure Cls (K : PySem.W.Frag) (C : Addr) : Prop where
 pg : PySem.W.plainGet K C Str.empty = true
 hd : PySem.W.hasDictIn K C = true
 po : PySem.W.plainOver K C = true
 sa : PySem.W.findIn K (.ref C) "__setattr__" = some (some (.builtin "object.__setattr__"))
theorem Cls.get {K : PySem.W.Frag} {C : Addr} (c : Cls K C) (f : Str) : PySem.W.plainGet K C f = true := c.pg
structure Meth (K : PySem.W.Frag) (C : Addr) (m : Str) (f : Addr) : Prop where
 at_ : PySem.W.findIn K (.ref C) m = some (some (.ref f))
 fn : PySem.W.isFn K (.ref f) = true
 kp : PySem.W.keepIn K (.ref f) = true
section
variable {X : Cx} {pins : List (Addr × Obj)} {σ : St} {H : Hp} {s : Shared} {a C dx : Addr} {fs : List (Str × V)} {f : Str} {v : V} {A : Around} {E : Value → Shared → Prop}
end
section
variable {X : Cx} {o e value : Expr} {f : Str} {pos pos' tpos : Pos} {ta tv : TE}
end
section
variable {X : Cx} {pins : List (Addr × Obj)} {σ : St} {H : Hp} {s : Shared} {A : Around} {E : Value → Shared → Prop} {Q : Value → Shared → Prop} {c : Value} {b : Bool}
inductive TyOf (K : PySem.W.Frag) (H : Hp) : V → Value → Prop where
 | non : TyOf K H .non (.type "NoneType")
 | bl (x : Bool) : TyOf K H (.bl x) (.type "bool")
 | int (i : Int) : TyOf K H (.int i) (.type "int")
 | str (x : Str) : TyOf K H (.str x) (.type "str")
 | flt (x : UInt64) : TyOf K H (.flt x) (.type "float")
 | lst {a : Addr} {xs : List V} (e : H a = some (.lst xs)) : TyOf K H (.ref a) (.type "list")
 | frz {a : Addr} {o : Obj} {xs : List V} (e : H a = some (.frz o (.lst xs))) : TyOf K H (.ref a) (.type "list")
 | tup {a : Addr} {xs : List V} (e : H a = some (.tup xs)) : TyOf K H (.ref a) (.type "tuple")
 | dK {a : Addr} {kvs : List (Key × V)} (e : H a = some (.dK kvs)) : TyOf K H (.ref a) (.type "dict")
 | dT {a : Addr} {kvs : List (List Key × V)} (e : H a = some (.dT kvs)) : TyOf K H (.ref a) (.type "dict")
 | ins {a C dx : Addr} {fs : List (Str × V)} (e : H a = some (.ins C dx fs)) (cl : Cls K C) (ha : PySem.W.findIn K (.ref C) "__class__" = some (some (.builtin "object.__class__")))
     (hn : PySem.W.specialIn K (.builtin "object.__class__") "__get__" = some (some (.builtin "getset_descriptor.__get__"))) (htk : PySem.W.takesIn K (.builtin "object.__class__") = some true)
     (hm : PySem.W.mroIn K C (.type "object") = some true) : TyOf K H (.ref a) (.ref C)
theorem zim {x : V} {u t : Value} (I : Inv X pins σ H s) (rx : RelV x u) (ty : TyOf X.K H x t) (e : PySem.W.kitOne X.K t c = some b) (h : ∀ tk, Q (.bool b) { s with toks := tk }) :
   wpAny (model X.prog X.w) A (call (.builtin "isinstance") [u, c]) Q E s := by
 cases ty with
 | non => cases (show u = Value.none from rx); exact PySem.W.kia_one PySem.W.kitx_none I.kIn True.intro e (λz => nomatch z) h
 | bl y => cases (show u = Value.bool y from rx); exact PySem.W.kia_one PySem.W.kitx_bool I.kIn True.intro e (λz => nomatch z) h
 | int i => obtain ⟨t, q⟩ := (show ∃ t, u = Value.int i t from rx); cases q; exact PySem.W.kia_one PySem.W.kitx_int I.kIn True.intro e (λz => nomatch z) h
 | str y => obtain ⟨t, q⟩ := (show ∃ t, u = Value.str y t from rx); cases q; exact PySem.W.kia_one PySem.W.kitx_str I.kIn True.intro e (λz => nomatch z) h
 | flt y => obtain ⟨t, q⟩ := (show ∃ t, u = Value.float y t from rx); cases q; exact PySem.W.kia_one PySem.W.kitx_float I.kIn True.intro e (λz => nomatch z) h
 | @lst a xs ea =>
   cases (show u = Value.ref a from rx)
   obtain ⟨_, _, n, _, h1⟩ := (show ObjOk X.prog X.w H s.heap a (.lst xs) from I.hok a _ ea)
   exact PySem.W.kia_one PySem.W.kitx_list I.kIn ⟨_, h1, rfl⟩ e (λz => nomatch z) h
 | @frz a ob xs ea =>
   cases (show u = Value.ref a from rx)
   obtain ⟨_, _, _, n, _, h1⟩ := (show ObjOk X.prog X.w H s.heap a (.frz ob (.lst xs)) from I.hok a _ ea)
   exact PySem.W.kia_one PySem.W.kitx_list I.kIn ⟨_, h1, rfl⟩ e (λz => nomatch z) h
 | @tup a xs ea =>
   cases (show u = Value.ref a from rx)
   obtain ⟨_, _, _, p⟩ := (show ObjOk X.prog X.w H s.heap a (.tup xs) from I.hok a _ ea)
   obtain ⟨o, h1, h2, _⟩ := p
   exact PySem.W.kia_one PySem.W.kitx_tuple I.kIn ⟨o, h1, h2⟩ e (λz => nomatch z) h
 | @dK a kvs ea =>
   cases (show u = Value.ref a from rx)
   obtain ⟨_, _, vs, _, p⟩ := (show ObjOk X.prog X.w H s.heap a (.dK kvs) from I.hok a _ ea)
   obtain ⟨o, es, ep, h1, h2, _⟩ := p
   exact PySem.W.kia_one PySem.W.kitx_dict I.kIn ⟨o, h1, h2.1⟩ e (λz => nomatch z) h
 | @dT a kvs ea =>
   cases (show u = Value.ref a from rx)
   obtain ⟨_, _, xs, _, o, es, ep, h1, h2, _⟩ := (show ObjOk X.prog X.w H s.heap a (.dT kvs) from I.hok a _ ea)
   exact PySem.W.kia_one PySem.W.kitx_dict I.kIn ⟨o, h1, h2.1⟩ e (λz => nomatch z) h
 | @ins a C dx fs ea cl ha hn htk hm =>
   cases (show u = Value.ref a from rx)
   obtain ⟨mA, O, _⟩ := zlJ I.hok ea
   obtain ⟨od, J, _⟩ := O.look
   exact PySem.W.kia_one (PySem.W.kitx_own (cl.get _) cl.hd ha hn htk hm) I.kIn J e (λz => nomatch z) h
end
end L2
namespace L2
open PySem PySem.Spec PyProof.Rows
structure Room (k : Nat) (A : Around) : Prop where
 hd : A.handled = none
 dp : A.depth + 3 * k + 5 < recursionLimit
 un : A.units + 16 * k + 200 < cLine
theorem Room.mono {j k : Nat} {A : Around} (r : Room k A) (h : j ≤ k) : Room j A := ⟨r.hd, by have := r.dp; omega, by have := r.un; omega⟩
theorem Room.deeper {k : Nat} {A : Around} (r : Room (k + 1) A) (env : Env) : Room k (A.deeper env) :=
 ⟨r.hd, by have := r.dp; show A.depth + 1 + 3 * k + 5 < _; omega, by have := r.un; show A.units + 3 + 16 * k + 200 < _; omega⟩
theorem Room.depth {k : Nat} {A : Around} (r : Room k A) : A.depth < recursionLimit := by have := r.dp; omega
theorem Room.units {k : Nat} {A : Around} (r : Room k A) : A.units + 64 < cLine := by have := r.un; omega
def tNil : TA := λ_ H Q => Q [] H
def tCons (ta : TE) (tr : TA) : TA := λσ H Q => ta σ H λx H1 => tr σ H1 λxs H2 => Q (x :: xs) H2
section
variable {X : Cx} {e : Expr} {es : List Expr} {te : TE} {t : TA} {pos : Pos}
theorem znj : PA X [] tNil := λ_ _ _ _ H Q I h => Calls.spliced_nil ⟨[], H, I, .nil, h⟩
theorem zlg (ha : PE X e te) (hr : PA X es t) (hs : starEach (e :: es) X.env = (false, eval e X.env) :: starEach es X.env := by rfl) : PA X (e :: es) (tCons te t) := by
 intro pos pins s σ H Q I h
 rw [hs]
 show wpAny _ _ (spliced ((false, eval e X.env) :: backTo pos (starEach es X.env))) _ _ s
 refine Calls.spliced_cons (thn (ha pins s σ H _ I h) λu s1 ⟨x, H1, I1, r1, q1⟩ => ?_)
 exact thn (hr pos pins s1 σ H1 _ I1 q1) λus s2 ⟨xs, H2, I2, r2, q2⟩ => ⟨x :: xs, H2, I2, .cons r1 r2, q2⟩
def tTup (t : TA) : TE := λσ H Q => t σ H λxs H1 => xs.length ≤ sizeLine ∧ ∀ p, H1 p = none → Q (.ref p) (upd H1 p (.tup xs))
def tLst (t : TA) : TE := λσ H Q => t σ H λxs H1 => xs.length ≤ sizeLine ∧ ∀ p, H1 p = none → Q (.ref p) (upd H1 p (.lst xs))
theorem zna {x1} (h : PA X es t) : PE X (.Tuple es x1 pos) (tTup t) := by
 intro pins s σ H Q I hq
 refine wpAny_Tuple_spliced (thn (h pos pins s σ H _ I hq) λus s1 ⟨xs, H1, I1, r, z, q⟩ => ⟨by rw [← r.length]; exact z, ?_⟩)
 have hf : H1 s1.heap.objs.size = none := I1.hok.fresh (Nat.le_refl _)
 refine ⟨.ref s1.heap.objs.size, upd H1 s1.heap.objs.size (.tup xs), I1.laid (t' := s1.toks) (λb u e => Heap.get?_push_of_some _ e) (Nat.le_refl _) ?_, rfl, q _ hf⟩
 exact ⟨z, us, r, ⟨_, Heap.get?_push_size _ rfl, rfl, _, rfl⟩⟩
theorem znf (h : PA X es t) : PE X (.List es pos) (tLst t) := by
 intro pins s σ H Q I hq
 refine wpAny_List_spliced (thn (h pos pins s σ H _ I hq) λus s1 ⟨xs, H1, I1, r, z, q⟩ => ⟨by rw [← r.length]; exact z, ?_⟩)
 have hf : H1 s1.heap.objs.size = none := I1.hok.fresh (Nat.le_refl _)
 refine ⟨.ref s1.heap.objs.size, upd H1 s1.heap.objs.size (.lst xs), I1.laid (t' := s1.toks) (λb u e => Heap.get?_push_of_some _ e) (Nat.le_refl _) ?_, rfl, q _ hf⟩
 exact ⟨z, us, 0, r, Heap.get?_push_size _ rfl⟩
end
abbrev Sp := List V → Hp → VK → XK → Prop
abbrev CXT := List Env → Hp → Shared → XK → Value → Shared → Prop
structure Env0 (P : Program) (w : World) (K : PySem.W.Frag) (mg : Str → Option Value) (base : Heap) (A : Around) (outer : List Env) (s : Shared) (H : Hp) : Prop where
 frames : A.frames = some outer
 mod : Mod K mg base
 bs : ∀ b o, base.get? b = some o → s.heap.get? b = some o ∧ H b = none
 bsz : base.objs.size ≤ s.heap.objs.size
 funs : s.heap.FunFrames base outer
 frf : ∀ b ∈ frs outer, H b = none
 hok : HOk P w H s.heap
 bare : AllBare s.gens
def CE (outer : List Env) (P : Program) (w : World) (H : Hp) (s : Shared) (Q : VK) (u : Value) (s' : Shared) : Prop :=
 ∃ v H', s'.os = s.os ∧ AllBare s'.gens ∧ Un (frs outer) [] H H' s.heap s'.heap ∧ HOk P w H' s'.heap ∧ RelV v u ∧ Q v H'
def CR (CX : CXT) (outer : List Env) (P : Program) (w : World) (H : Hp) (s : Shared) (Q : VK) (E : XK) (r : Result) (s' : Shared) : Prop :=
 match r with
 | .ok (.ret u) => CE outer P w H s Q u s'
 | .ok _ => False
 | .error e => CX outer H s E e s'
structure FnOk (P : Program) (w : World) (K : PySem.W.Frag) (mg : Str → Option Value) (base : Heap) (CX : CXT) (k : Nat) (f : Addr) (fd : FuncData) (ps : List Str) (sp : Sp) : Prop where
 len : ∀ vs H Q E, sp vs H Q E → vs.length = ps.length
 run : ∀ (A : Around) (outer : List Env) (s : Shared) (H : Hp) (args : Args) (us : List Value) (vs : List V) (Q : VK) (E : XK), Room k A → Env0 P w K mg base A outer s H → BindsTo s fd args (ps.zip us) → Vals vs us → sp vs H Q E →
   codeAny (model P w) A (.call (.ref f) args) (CR CX outer P w H s Q E) s
theorem FnOk.mono {P : Program} {w : World} {K : PySem.W.Frag} {mg : Str → Option Value} {base : Heap} {CX : CXT} {j k : Nat} {f : Addr} {fd : FuncData} {ps : List Str} {sp : Sp} (F : FnOk P w K mg base CX j f fd ps sp) (h : j ≤ k) :
   FnOk P w K mg base CX k f fd ps sp := ⟨F.len, λA outer s H args us vs Q E hr => F.run A outer s H args us vs Q E (hr.mono h)⟩
section
variable {X : Cx} {pins : List (Addr × Obj)} {σ : St} {H : Hp} {s s' : Shared}
theorem Inv.env0 (I : Inv X pins σ H s) : Env0 X.prog X.w X.K X.mg X.base X.A X.stack s H :=
 ⟨I.ok.frames, I.ok.mod, I.bs, Nat.le_trans I.ok.bsz I.sz, I.stack, I.stkFree, I.hok, I.bare⟩
theorem Inv.after {Q : VK} {u : Value} (I : Inv X pins σ H s) (h : CE X.stack X.prog X.w H s Q u s') : EP X pins σ Q u s' := by
 obtain ⟨v, H', os, bare, un, hok, r, q⟩ := h
 obtain ⟨hh, g, d, t, os'⟩ := s'
 obtain rfl : os' = s.os := os
 exact ⟨v, H', I.call (h' := hh) (g' := g) (d' := d) (t' := t) (ch := []) un hok bare (λb z => absurd z (by simp)), r, q⟩
end
def tCall (sp : Sp) (dvs : List V) (E : XK) (t : TA) : TE := λσ H Q => t σ H λvs H1 => sp (vs ++ dvs) H1 Q E
def Binds (K : PySem.W.Frag) (fd : FuncData) (ps : List Str) (ds : List Value) : Prop :=
 ∀ (s : Shared) (us : List Value), K.In s.heap → (us ++ ds).length = ps.length → BindsTo s fd ⟨us, []⟩ (ps.zip (us ++ ds))
theorem Binds.all {K : PySem.W.Frag} {fd : FuncData} {ps : List Str} (h : ∀ us : List Value, us.length = ps.length → bindArgs fd ⟨us, []⟩ = pure (ps.zip us)) : Binds K fd ps [] := λs us _ hl => by
 rw [List.append_nil] at hl ⊢
 exact .of_eq (h us hl)
def Passes (CX : CXT) (X : Cx) (E : XK) : Prop := ∀ (pins : List (Addr × Obj)) (σ : St) (H : Hp) (s : Shared) (e : Value) (s' : Shared), Inv X pins σ H s → CX X.stack H s E e s' → X.xe e s'
section
variable {X : Cx} {CX : CXT} {k : Nat} {f C : Addr} {fd : FuncData} {ps : List Str} {sp : Sp} {dvs : List V} {ds : List Value} {E : XK} {x m : Str} {p pos apos : Pos} {e o : Expr} {es : List Expr} {ta : TE} {t : TA}
theorem zmX {pins : List (Addr × Obj)} {σ : St} {H : Hp} {s : Shared} {Q : VK} {us : List Value} {vs : List V} (F : FnOk X.prog X.w X.K X.mg X.base CX k f fd ps sp) (hr : Room k X.A) (hb : Binds X.K fd ps ds) (hd : Vals dvs ds) (hx : Passes CX X E)
   (I : Inv X pins σ H s) (r : Vals vs us) (h : sp (vs ++ dvs) H Q E) : wpAny (model X.prog X.w) X.A (call (.ref f) us) (EP X pins σ Q) X.xe s := by
 have r2 : Vals (vs ++ dvs) (us ++ ds) := r.append hd
 have hl : (us ++ ds).length = ps.length := by rw [← r2.length]; exact F.len _ _ _ _ h
 refine wpAny_call (codeAny_mono (F.run X.A X.stack s H ⟨us, []⟩ (us ++ ds) (vs ++ dvs) Q E hr I.env0 (hb s us I.kIn hl) r2 h) λr s' hq => ?_)
 cases r with
 | error e => exact hx pins σ H s e s' I hq
 | ok fl =>
   cases fl with
   | ret u => exact I.after hq
   | next => exact False.elim hq
   | brk => exact False.elim hq
   | cont => exact False.elim hq
theorem zle (F : FnOk X.prog X.w X.K X.mg X.base CX k f fd ps sp) (hr : Room k X.A) (hg : Gl X x) (hm : X.mg x = some (.ref f)) (hk : PySem.W.keepIn X.K (.ref f) = true) (hb : Binds X.K fd ps ds) (hd : Vals dvs ds) (hx : Passes CX X E)
   (ha : PA X (e :: es) t) (hdb : (x == ("__debug__" : Str)) = false := by decide) (he : starEach (e :: es) X.env = (false, eval e X.env) :: starEach es X.env := by rfl) (hpl : (backTo pos (starEach es X.env)).any (·.1) = false := by rfl) :
   PE X (.Call (.Name x p) (e :: es) [] pos) (tCall sp dvs E t) := by
 intro pins s σ H Q I h
 refine wpAny_Call_Name_kw (zid I hg hm ?_ hdb)
 refine PySem.W.callWith_K (h₀ := X.base) I.ok.mod.kin hk (thn (ha pos pins s σ H _ I h) λus s1 ⟨vs, H1, I1, r, q⟩ => ⟨I1.kIn, ?_⟩) he hpl
 exact zmX F hr hb hd hx I1 r q
structure Mk (K : PySem.W.Frag) (C f : Addr) : Prop where
 makes : PySem.W.makesIn K C = true
 init : PySem.W.findIn K (.ref C) "__init__" = some (some (.ref f))
 fn : PySem.W.isFn K (.ref f) = true
 kp : PySem.W.keepIn K (.ref C) = true
end
section
variable {X : Cx} {CX : CXT} {k : Nat} {f C : Addr} {fd : FuncData} {ps ks : List Str} {sp : Sp} {E : XK} {x m : Str} {p pos apos kpos : Pos} {e o : Expr} {es : List Expr} {kws : List Keyword} {te ta : TE} {t tk : TA} {nm : Option Str}
variable {g : List Value → List Value → List Value} {gV : List V → List V → List V}
end
structure FnScope (N P : List Str) (sc : Scope) : Prop where
 kind : sc.kind = .function
 co : sc.isCoroutine = false
 gen : sc.isGenerator = false
 nd : N.Nodup
 pre : N.take P.length = P
 par : ∀ x ∈ P, sc.names.lookup x = some .local ∨ sc.names.lookup x = some .cell
 nofree : ∀ y ∈ sc.names, y.2 ≠ .free
theorem zfU {kindOf : Str → Option NameKind} {x : Str} : ∀ {binds : List (Str × Value)} {m : Str → Option Value}, (∀ v, (x, v) ∉ binds) → bindL kindOf binds m x = m x
 | [], _, _ => rfl
 | (n, v) :: r, m, h => by
   unfold bindL
   rw [zfU λw hw => h w (List.mem_cons_of_mem _ hw)]
   split
   · have : x ≠ n := by rintro rfl; exact h v List.mem_cons_self
     simp [this]
   · rfl
theorem zfW {kindOf : Str → Option NameKind} {x : Str} : ∀ {binds : List (Str × Value)} {m : Str → Option Value}, (∀ v, (x, v) ∉ binds) → bindC kindOf binds m x = m x
 | [], _, _ => rfl
 | (n, v) :: r, m, h => by
   unfold bindC
   rw [zfW λw hw => h w (List.mem_cons_of_mem _ hw)]
   split
   · rfl
   · have : x ≠ n := by rintro rfl; exact h v List.mem_cons_self
     simp [this]
theorem zfV {kindOf : Str → Option NameKind} {x : Str} {v : Value} : ∀ {P : List Str} {vs : List Value} {i : Nat} {m : Str → Option Value}, P.Nodup → P[i]? = some x → vs[i]? = some v → kindOf x = some .local →
   bindL kindOf (P.zip vs) m x = some v
 | [], _, _, _, _, h, _, _ => by simp at h
 | _ :: _, [], _, _, _, _, h, _ => by simp at h
 | p :: P, w :: vs, 0, m, nd, h1, h2, hk => by
   simp at h1 h2; subst h1; subst h2
   show bindL kindOf ((p, w) :: P.zip vs) m p = _
   unfold bindL
   rw [zfU λv hv => (List.nodup_cons.mp nd).1 (List.of_mem_zip hv).1, if_pos hk]
   simp
 | p :: P, w :: vs, i + 1, m, nd, h1, h2, hk => by
   show bindL kindOf ((p, w) :: P.zip vs) m x = _
   unfold bindL
   exact zfV (i := i) (List.nodup_cons.mp nd).2 (by simpa using h1) (by simpa using h2) hk
theorem zfX {kindOf : Str → Option NameKind} {x : Str} {v : Value} : ∀ {P : List Str} {vs : List Value} {i : Nat} {m : Str → Option Value}, P.Nodup → P[i]? = some x → vs[i]? = some v → kindOf x ≠ some .local →
   bindC kindOf (P.zip vs) m x = some v
 | [], _, _, _, _, h, _, _ => by simp at h
 | _ :: _, [], _, _, _, _, h, _ => by simp at h
 | p :: P, w :: vs, 0, m, nd, h1, h2, hk => by
   simp at h1 h2; subst h1; subst h2
   show bindC kindOf ((p, w) :: P.zip vs) m p = _
   unfold bindC
   rw [zfW λv hv => (List.nodup_cons.mp nd).1 (List.of_mem_zip hv).1, if_neg hk]
   simp
 | p :: P, w :: vs, i + 1, m, nd, h1, h2, hk => by
   show bindC kindOf ((p, w) :: P.zip vs) m x = _
   unfold bindC
   exact zfX (i := i) (List.nodup_cons.mp nd).2 (by simpa using h1) (by simpa using h2) hk
def start (N : List Str) (vs : List V) : St := vs.map some ++ List.replicate (N.length - vs.length) none
def cxOf (CX : CXT) (P : Program) (w : World) (K : PySem.W.Frag) (mg : Str → Option Value) (base : Heap) (N : List Str) (qual : Str) (scope : Scope) (f : Addr) (cd : Value) (A : Around) (outer : List Env) (s : Shared) (H : Hp) (E : XK) : Cx where
 prog := P
 w := w
 K := K
 mg := mg
 base := base
 A := A.deeper (envOfC qual scope s.heap.objs.size f cd)
 N := N
 s₀ := s
 H₀ := H
 env := envOfC qual scope s.heap.objs.size f cd
 outer := outer
 stack := envOfC qual scope s.heap.objs.size f cd :: outer
 ex := []
 calm := true
 fn := λ_ => true
 pn := []
 xe := λe s' => wpAny (model P w) (A.deeper (envOfC qual scope s.heap.objs.size f cd)) (leaving (envOfC qual scope s.heap.objs.size f cd) e) (λ_ s'' => CX outer H s E e s'') (λe' s'' => CX outer H s E e' s'') s'
theorem zgV {sc : Scope} {n : Nat} {x : Str} (h : sc.names.lookup x = some .cell) : ∃ c, (cellsFrom n sc.names []).lookup x = some c := by
 have q := PySem.W.cellsFrom_some sc.names n [] (.inl h)
 exact Option.isSome_iff_exists.mp q
theorem ziq {CX : CXT} {P : Program} {w : World} {K : PySem.W.Frag} {mg : Str → Option Value} {base : Heap} {N ps : List Str} {qual : Str} {scope : Scope} {f : Addr} {cd : Value} {A : Around} {outer : List Env} {s s1 : Shared} {H : Hp} {E : XK} {us : List Value} {vs : List V}
   (S : FnScope N ps scope) (hd : A.handled = none) (e0 : Env0 P w K mg base A outer s H) (hl : vs.length = ps.length) (r : Vals vs us)
   (x : InCallC s s.heap.objs.size (bindL (envOfC qual scope s.heap.objs.size f cd).kindOf (ps.zip us) λ_ => none) (cellsFrom (s.heap.objs.size + 1) scope.names []) (bindC (envOfC qual scope s.heap.objs.size f cd).kindOf (ps.zip us) λ_ => none) s1) :
   Inv (cxOf CX P w K mg base N qual scope f cd A outer s H E) [] (start N vs) H s1 := by
 have hpl : ps.length ≤ N.length := by have := congrArg List.length S.pre; rw [List.length_take] at this; omega
 obtain ⟨h1, tk, rfl, hk⟩ := x.done
 have noA : ∀ b : Addr, b ∉ (cxOf CX P w K mg base N qual scope f cd A outer s H E).ex := λb z => absurd (show b ∈ ([] : List Addr) from z) (by simp)
 refine ⟨⟨e0.mod, S.kind, rfl, rfl, Nat.le_refl _, λy z c h1 h2 => ?_, λy hy => ?_, λy c _ h => ?_, λ_ => hd, Around.frames_deeper e0.frames, .inr ⟨rfl, rfl⟩, λb z => absurd z (noA b), e0.bs, e0.bsz, λb _ _ => noA b, λb z => absurd z (noA b), e0.funs, e0.frf⟩,
   rfl, e0.bare, Un.kept hk, ⟨_, x.toInCall.ns, λi y v h1 h2 h3 => ?_⟩, λy c h => ⟨_, x.cell y c h⟩, e0.hok.fresh (Nat.le_refl _), λy c h => ?_, λp hp => absurd (show p ∈ ([] : List (Addr × Obj)) from hp) (by simp), e0.hok.kept hk, ?_⟩
 · exact name_of_addr x.apart (PySem.mem_of_lookup h1) (PySem.mem_of_lookup h2)
 · have hy : scope.names.lookup y = some .cell ∨ scope.names.lookup y = some .free := hy
   rcases hy with hy | hy
   · exact zgV hy
   · exact absurd rfl (S.nofree _ (PySem.mem_of_lookup hy))
 · exact Nat.le_of_lt (x.above y c (PySem.mem_of_lookup h))
 · have hi : i < vs.length := by
     unfold start at h2
     by_cases hi : i < vs.length
     · exact hi
     · rw [List.getElem?_append_right (by simpa using hi)] at h2
       rw [List.getElem?_replicate] at h2
       split at h2 <;> cases h2
   have ha : vs[i]? = some v := by
     unfold start at h2
     rw [List.getElem?_append_left (by simpa using hi), List.getElem?_map] at h2
     cases e : vs[i]? with
     | none => rw [e] at h2; cases h2
     | some a => rw [e] at h2; cases h2; rfl
   obtain ⟨u, hu, rv⟩ := r.get ha
   have hp : ps[i]? = some y := by
     rw [← S.pre, List.getElem?_take_of_lt (by omega)]; exact h1
   have ndP : ps.Nodup := by rw [← S.pre]; exact S.nd.sublist (List.take_sublist _ _)
   refine ⟨u, rv, ?_⟩
   rcases S.par y (List.mem_of_getElem? hp) with k | k
   · exact .inl ⟨k, zfV ndP hp hu k⟩
   · obtain ⟨c, e⟩ := zgV (n := s.heap.objs.size + 1) k
     refine .inr ⟨.inl k, c, e, ?_⟩
     have q := x.cell y c e
     rw [zfX ndP hp hu (by show scope.names.lookup y ≠ _; rw [k]; decide)] at q
     exact q
 · exact e0.hok.fresh (Nat.le_of_lt (x.above y c (PySem.mem_of_lookup h)))
 · unfold start
   show _ = N.length
   rw [List.length_append, List.length_map, List.length_replicate]
   omega
theorem znF {CX : CXT} {P : Program} {w : World} {K : PySem.W.Frag} {mg : Str → Option Value} {base : Heap} {k : Nat} {f : Addr} {name qual : Str} {params : Arguments} {body : List Stmt} {scope : Scope} {dV kV doc pm cdv ct oc : Value} {an od : Option Addr}
   {osl : Array (Option Value)} {N ps : List Str} {sp : Sp} (lk : K.lookup f = some ⟨oc, od, .func (PySem.W.fnOf name qual params body scope dV kV doc pm an cdv ct), osl⟩) (hcd : PySem.W.codeIn K cdv qual = true) (S : FnScope N ps scope)
   (len : ∀ vs H Q E, sp vs H Q E → vs.length = ps.length)
   (hbody : ∀ (A : Around) (outer : List Env) (s : Shared) (H : Hp) (vs : List V) (Q : VK) (E : XK), Room k (A.deeper (envOfC qual scope s.heap.objs.size f cdv)) → sp vs H Q E →
     ∃ t, PSs (cxOf CX P w K mg base N qual scope f cdv A outer s H E) body t ∧ t { nx := λ_ H' => Q .non H', rt := Q } (start N vs) H) :
   FnOk P w K mg base CX (k + 1) f (PySem.W.fnOf name qual params body scope dV kV doc pm an cdv ct) ps sp := by
 refine ⟨len, λA outer s H args us vs Q E hr e0 hb r hsp => ?_⟩
 have hl := len _ _ _ _ hsp
 have KX : K.In s.heap := e0.mod.kin.keeps λb o e => (e0.bs b o e).1
 have lim : s.heap.NoLimit := e0.mod.nolimit.keeps λb o e => (e0.bs b o e).1
 have hkind : ∀ y ∈ ps.zip us, scope.names.lookup y.1 = some .local ∨ (scope.names.lookup y.1 = some .cell ∧ ((cellsFrom (s.heap.objs.size + 1) scope.names []).lookup y.1).isSome = true) := λ⟨n, v⟩ hy => by
   rcases S.par n (List.of_mem_zip hy).1 with q | q
   · exact .inl q
   · exact .inr ⟨q, PySem.W.cellsFrom_some _ _ _ (.inl q)⟩
 refine codeAny_call_function hr.depth (KX _ _ lk) rfl S.co S.gen rfl (PySem.W.codeRec_of KX hcd) (hb _ _ _ _ ?_)
 refine wpAny_newFunctionEnv_cells S.kind hkind λenv he s1 x => ?_
 subst he
 refine ⟨lim.keeps x.toInCall.keep, codeAny_func ?_⟩
 obtain ⟨t, ht, hq⟩ := hbody A outer s H vs Q E (hr.deeper _) hsp
 have I : Inv (cxOf CX P w K mg base N qual scope f cdv A outer s H E) [] (start N vs) H s1 := ziq S hr.hd e0 hl r x
 refine wpAny_mono (ht [] s1 (start N vs) H _ I hq) (λfl s' hs => ?_) λe s' hs => hs
 have fin : ∀ {σ' : St} {H' : Hp} {v : V} {u : Value}, Inv (cxOf CX P w K mg base N qual scope f cdv A outer s H E) [] σ' H' s' → RelV v u → Q v H' → CE outer P w H s Q u s' :=
   λ{σ' H' v u} J rv q => ⟨v, H', J.os, J.bare, J.base, J.hok, rv, q⟩
 cases fl with
 | ret u =>
   obtain ⟨v, σ', H', J, rv, q⟩ := hs
   exact fin J rv q
 | next =>
   obtain ⟨σ', H', J, q⟩ := hs
   exact fin (v := V.non) (u := Value.none) J rfl q
 | brk =>
   obtain ⟨_, _, _, q⟩ := hs
   exact False.elim q
 | cont =>
   obtain ⟨_, _, _, q⟩ := hs
   exact False.elim q
end L2
namespace L2
open PySem PySem.Spec PyProof.Rows
section
variable {X : Cx} {x : Str} {p pos : Pos} {e : Expr} {es : List Expr} {t : TA} {id T : String} {r : List V → Hp → VK → Prop}
def tCB (r : List V → Hp → VK → Prop) (t : TA) : TE := λσ H Q => t σ H λvs H1 => r vs H1 Q
theorem zjz (hc : CallR X (.builtin id) r) (hg : Gl X x) (hm : X.mg x = none) (hv : bootBuiltins x = some (.builtin id)) (ha : PA X (e :: es) t) (hn : x ≠ "__name__" := by decide) (hdb : (x == ("__debug__" : Str)) = false := by decide)
   (he : starEach (e :: es) X.env = (false, eval e X.env) :: starEach es X.env := by rfl) (hpl : (backTo pos (starEach es X.env)).any (·.1) = false := by rfl) : PE X (.Call (.Name x p) (e :: es) [] pos) (tCB r t) := by
 intro pins s σ H Q I h
 refine wpAny_Call_Name_kw (ze1 I hg hm hv ?_ hn hdb)
 exact PyProof.Rows.callWith_builtin1 (thn (ha pos pins s σ H _ I h) λus s1 ⟨vs, H1, I1, r1, q1⟩ => hc pins s1 σ H1 vs us Q I1 r1 q1) he hpl
theorem zhW (hc : CallR X (.type T) r) (hg : Gl X x) (hm : X.mg x = none) (hv : bootBuiltins x = some (.type T)) (ha : PA X (e :: es) t) (hn : x ≠ "__name__" := by decide) (hdb : (x == ("__debug__" : Str)) = false := by decide)
   (he : starEach (e :: es) X.env = (false, eval e X.env) :: starEach es X.env := by rfl) (hpl : (backTo pos (starEach es X.env)).any (·.1) = false := by rfl) : PE X (.Call (.Name x p) (e :: es) [] pos) (tCB r t) := by
 intro pins s σ H Q I h
 refine wpAny_Call_Name_kw (ze1 I hg hm hv ?_ hn hdb)
 exact PyProof.Rows.callWith_type1 (thn (ha pos pins s σ H _ I h) λus s1 ⟨vs, H1, I1, r1, q1⟩ => hc pins s1 σ H1 vs us Q I1 r1 q1) he hpl
end
end L2
namespace HT
open PySem PyProof.Rows
section
open PySem.SeqAt
open PySem.AutoSeq1 (wpAny_loadPart')
open PySem.MeetsSeq PySem.MeetsSeq2 PySem.MeetsSeq3
end
section
variable {prog : Program} {w : World} {A : Around} {E : Value → Shared → Prop} {s : Shared}
theorem zl5 {t b : Addr} {vs ws : List Value} {Q : Value → Shared → Prop} (ht : IsTup s.heap t vs.toArray) (hb : IsTup s.heap b ws.toArray) (hv : vs ≠ [])
   (h1 : ws = [] → Q (.ref t) s) (h2 : ws ≠ [] → Q (.ref s.heap.objs.size) { s with heap := s.heap.push { cls := .type "tuple", data := .seq (vs ++ ws).toArray } })
   (hsz : vs.length + ws.length ≤ sizeLine) : wpAny (model prog w) A (binaryOp .Add (.ref t) (.ref b)) Q E s := by
 obtain ⟨⟨cls, dd, data, sl⟩, ho, hc, n, hd⟩ := id ht
 obtain ⟨⟨cls2, dd2, data2, sl2⟩, ho2, hc2, n2, hd2⟩ := id hb
 simp only at hc hd hc2 hd2
 subst hc hd hc2 hd2
 have e : vs.toArray ++ ws.toArray = (vs ++ ws).toArray := by simp
 by_cases hw : ws = []
 · exact concat_meets ⟨_, ho, rfl⟩ ⟨_, ho2, rfl⟩ noFill_tuple_add seq_tuple_add PySem.F.slot_tuple_add PySem.F.entry_tuple_add (PySem.F.args_tuple_add_2 _ _)
     (tuple_addW1 t b vs.toArray ws.toArray n n2 dd dd2 sl sl2 (by simpa using hv) (by simp [hw])) ⟨ho, ho2, h1 hw⟩
 · refine concat_meets ⟨_, ho, rfl⟩ ⟨_, ho2, rfl⟩ noFill_tuple_add seq_tuple_add PySem.F.slot_tuple_add PySem.F.entry_tuple_add (PySem.F.args_tuple_add_2 _ _)
     (tuple_addW2 t b vs.toArray ws.toArray n n2 dd dd2 sl sl2 (by simpa using hv) (by simpa using hw) (by rw [List.size_toArray, List.size_toArray]; exact hsz)) ⟨ho, ho2, ?_⟩
   rw [e]
   exact h2 hw
def sIx (n d : Nat) : Option Int → Nat
 | none => d
 | some v => if v < 0 then (v + (n : Int)).toNat else min v.toNat n
theorem zmW (n d : Nat) (hd : d ≤ n) (o : Option Int) : sIx n d o ≤ n := by
 cases o with
 | none => exact hd
 | some v =>
   show (if v < 0 then (v + (n : Int)).toNat else min v.toNat n) ≤ n
   by_cases hv : v < 0
   · rw [if_pos hv]; omega
   · rw [if_neg hv]; exact Nat.min_le_right _ _
theorem ziP (v : Int) (n d : Nat) : (if v < 0 then max (v + (n : Int)) 0 else min v (n : Int)) = ((sIx n d (some v) : Nat) : Int) := by
 show (if v < 0 then max (v + (n : Int)) 0 else min v (n : Int)) = (((if v < 0 then (v + (n : Int)).toNat else min v.toNat n) : Nat) : Int)
 by_cases hv : v < 0
 · simp only [if_pos hv]; omega
 · simp only [if_neg hv]; omega
theorem zhx (lo hi : Option Int) (n : Nat) : Builtin.Slice.sliceAdjust lo hi 1 (n : Int) = (((sIx n 0 lo : Nat) : Int), ((sIx n n hi : Nat) : Int)) := by
 have h1 : ¬ ((1 : Int) < 0) := by omega
 unfold Builtin.Slice.sliceAdjust
 simp only [h1, if_false]
 refine Prod.ext ?_ ?_
 · cases lo with
   | none => rfl
   | some v => exact ziP v n 0
 · cases hi with
   | none => rfl
   | some v => exact ziP v n n
theorem zhf (i j : Nat) : Builtin.Slice.slicePlaces (i : Int) (j : Int) 1 = j - i := by
 unfold Builtin.Slice.slicePlaces
 have h1 : (1 : Int) > 0 := by omega
 simp only [h1, if_true, Int.ediv_one]
 split <;> omega
theorem zeU {v : Value} {o : Option Int} {Q : Option Int → Shared → Prop} (p : IsPart v o) (h : Q o s) : wpAny (model prog w) A (Builtin.Slice.slicePartIndex v) Q E s := by
 cases p with
 | none => exact slicePart_none h
 | int i t => exact slicePart_int h
theorem zdY {sl : Addr} {vl vu : Value} {lo hi : Option Int} {n : Nat} {Q : Int × Int × Nat → Shared → Prop} (hs : s.heap.IsSliceOf sl vl vu .none) (pl : IsPart vl lo) (pu : IsPart vu hi)
   (h : Q (((sIx n 0 lo : Nat) : Int), 1, sIx n n hi - sIx n 0 lo) s) : wpAny (model prog w) A (Builtin.Slice.sliceApplied (.ref sl) (pure (n : Int))) Q E s := by
 obtain ⟨os, hos, hcs, hds⟩ := id hs
 unfold Builtin.Slice.sliceApplied Builtin.Slice.sliceFields
 refine wpAny_bind (wpAny_bind (wpAny_field hos hds (x := vl) rfl (wpAny_bind (wpAny_field hos hds (x := vu) rfl (wpAny_bind (wpAny_field hos hds (x := .none) rfl (wpAny_pure ?_)))))))
 refine wpAny_bind (slicePart_none ?_)
 show wpAny _ _ (if ((1 : Int) == 0) = true then _ else _) _ _ s
 rw [if_neg (by decide)]
 refine wpAny_bind (zeU pl (wpAny_bind (zeU pu (wpAny_bind (wpAny_pure ?_)))))
 show wpAny _ _ (match Builtin.Slice.sliceAdjust lo hi 1 (n : Int) with | (lo, hi) => pure (lo, (1 : Int), Builtin.Slice.slicePlaces lo hi 1)) _ _ s
 rw [zhx lo hi n]
 show wpAny _ _ (pure (((sIx n 0 lo : Nat) : Int), (1 : Int), Builtin.Slice.slicePlaces ((sIx n 0 lo : Nat) : Int) ((sIx n n hi : Nat) : Int) 1)) _ _ s
 rw [zhf]
 exact wpAny_pure h
theorem zju (xs : Array Value) (i k : Nat) : ((List.range k).filterMap λ(m : Nat) => xs[((i : Int) + (m : Int) * 1).toNat]?).toArray = ((xs.toList.drop i).take k).toArray := by
 have e : (λ(m : Nat) => xs[((i : Int) + (m : Int) * 1).toNat]?) = λm => xs[i + m]? := by
   funext m
   have : ((i : Int) + (m : Int) * 1).toNat = i + m := by omega
   rw [this]
 rw [e]
 have := pick_run xs i k
 rw [List.filterMap_map] at this
 have e2 : ((λx => xs[x]?) ∘ λx => i + x) = λm => xs[i + m]? := rfl
 rw [e2] at this
 rw [this]
theorem zdJ {t sl : Addr} {items : Array Value} {vl vu : Value} {lo hi : Option Int} {Q : Value → Shared → Prop} (ht : IsTup s.heap t items) (hs : s.heap.IsSliceOf sl vl vu .none) (pl : IsPart vl lo) (pu : IsPart vu hi)
   (hw : ¬ (sIx items.size 0 lo = 0 ∧ sIx items.size items.size hi = items.size))
   (h : Q (.ref s.heap.objs.size) { s with heap := s.heap.push { cls := .type "tuple", data := .seq ((items.toList.drop (sIx items.size 0 lo)).take (sIx items.size items.size hi - sIx items.size 0 lo)).toArray } })
   (hsz : items.size ≤ sizeLine) : wpAny (model prog w) A (getItem (.ref t) (.ref sl)) Q E s := by
 have htake : sizeOk (.seq ((items.toList.drop (sIx items.size 0 lo)).take (sIx items.size items.size hi - sIx items.size 0 lo)).toArray) := by
   show ((items.toList.drop (sIx items.size 0 lo)).take (sIx items.size items.size hi - sIx items.size 0 lo)).toArray.size ≤ sizeLine
   rw [List.size_toArray, List.length_take, List.length_drop, Array.length_toList]
   omega
 have hj : sIx items.size items.size hi ≤ items.size := zmW _ _ (Nat.le_refl _) hi
 obtain ⟨os, hos, hcs, hds⟩ := id hs
 have hTs : s.TypeIs (.ref sl) "slice" := ⟨os, hos, hcs⟩
 unfold getItem
 try with_reducible refine wpAny_holding ?_
 first | refine wpAny_bind (wpAny_pure ?_) | skip
 refine wpAny_bind (wpAny_sequenceKey ht.typeIs (by decide) ?_)
 refine wpAny_bind (wpAny_callSpecial?_slot (name := Str.ofString "__getitem__") ht.typeIs PyProof.Rows.slot_tuple_getitem
   (wpAny_call_entry PyProof.Rows.slot_tuple_getitem ht.typeIs entry_tuple_getitem ?_ (args_tuple_getitem _ _)))
 show wpAny _ _ (Builtin.Tuple.tupleItemsOf (.ref t) >>= _) _ _ s
 refine wpAny_bind (tupleItemsOf_ ht ?_)
 refine wpAny_bind (wpAny_typeOf hTs ?_)
 rw [if_pos (by decide)]
 refine wpAny_bind (zdY hs pl pu ?_)
 have hno : ¬ ((((sIx items.size 0 lo : Nat) : Int) == 0 && (1 : Int) == 1 && (sIx items.size items.size hi - sIx items.size 0 lo) == items.size) = true) := by
   intro q
   rw [Bool.and_eq_true, Bool.and_eq_true] at q
   have q1 : ((sIx items.size 0 lo : Nat) : Int) = 0 := eq_of_beq q.1.1
   have q2 : sIx items.size items.size hi - sIx items.size 0 lo = items.size := eq_of_beq q.2
   exact hw ⟨by omega, by omega⟩
 show wpAny _ _ (if (((sIx items.size 0 lo : Nat) : Int) == 0 && (1 : Int) == 1 && (sIx items.size items.size hi - sIx items.size 0 lo) == items.size) = true then _ else _) _ _ s
 rw [if_neg hno, zju]
 first
   | exact wpAny_bind (m := Builtin.Tuple.tupleExact _) (wpAny_newObj_type (wpAny_pure ⟨_, rfl, wpAny_pure h⟩) htake)
   | exact wpAny_bind (m := Builtin.Tuple.tupleExact _) (wpAny_newObj_type (wpAny_bind (wpAny_pure (wpAny_pure ⟨_, rfl, wpAny_pure h⟩))) htake)
   | exact wpAny_bind (wpAny_bind (m := Builtin.Tuple.tupleExact _) (wpAny_newObj_type (wpAny_pure (wpAny_pure ⟨_, rfl, wpAny_pure h⟩)) htake))
   | exact wpAny_bind (wpAny_bind (m := Builtin.Tuple.tupleExact _) (wpAny_newObj_type (wpAny_pure ⟨_, rfl, wpAny_pure h⟩) htake))
end
end HT
namespace L2
open PySem PySem.Spec PyProof.Rows
abbrev TO := St → Hp → (Option Int → Hp → Prop) → Prop
def PO (X : Cx) (e : Option Expr) (t : TO) : Prop :=
 ∀ (pins : List (Addr × Obj)) (s : Shared) (σ : St) (H : Hp) (Q : Option Int → Hp → Prop), Inv X pins σ H s → t σ H Q →
   wpAny (model X.prog X.w) X.A (evalPart e X.env) (λu s' => ∃ o H', Inv X pins σ H' s' ∧ IsPart u o ∧ Q o H') X.xe s
def tNoPart : TO := λ_ H Q => Q none H
def tPart (t : TE) : TO := λσ H Q => t σ H λx H1 => ∃ i, x = .int i ∧ Q (some i) H1
section
variable {X : Cx} {e : Expr} {te : TE} {lo hi : Option Expr} {tl th : TO} {pos p2 : Pos}
theorem zk9 : PO X none tNoPart := by
 intro pins s σ H Q I h
 rw [evalPart_none]
 exact wpAny_pure ⟨none, H, I, .none, h⟩
theorem zk8 (h : PE X e te) : PO X (some e) (tPart te) := by
 intro pins s σ H Q I hw
 rw [evalPart_some]
 refine thn (h pins s σ H _ I hw) λu s1 ⟨x, H1, I1, r1, q1⟩ => ?_
 obtain ⟨i, rfl, q⟩ := q1
 obtain ⟨t, rfl⟩ := r1
 exact ⟨some i, H1, I1, .int i t, q⟩
def SlR (X : Cx) (r : V → Option Int → Option Int → Hp → VK → Prop) : Prop :=
 ∀ (pins : List (Addr × Obj)) (s : Shared) (σ : St) (H : Hp) (x : V) (v vl vu : Value) (lo hi : Option Int) (sl : Addr) (Q : VK), Inv X pins σ H s → RelV x v → s.heap.IsSliceOf sl vl vu .none → IsPart vl lo → IsPart vu hi → r x lo hi H Q →
   ∃ T id, typeLookup (.type T) "__getitem__" = pure (some (.builtin id)) ∧ s.TypeIs v T ∧ wpAny (model X.prog X.w) X.A (getItem v (.ref sl)) (EP X pins σ Q) X.xe s
theorem SlR.or {r r' : V → Option Int → Option Int → Hp → VK → Prop} (h : SlR X r) (h' : SlR X r') : SlR X (λx lo hi H Q => r x lo hi H Q ∨ r' x lo hi H Q) := by
 intro pins s σ H x v vl vu lo hi sl Q I rx hs pl pu q
 rcases q with q | q
 · exact h pins s σ H x v vl vu lo hi sl Q I rx hs pl pu q
 · exact h' pins s σ H x v vl vu lo hi sl Q I rx hs pl pu q
def tSl (r : V → Option Int → Option Int → Hp → VK → Prop) (te : TE) (tl th : TO) : TE := λσ H Q => te σ H λx H1 => tl σ H1 λl H2 => th σ H2 λu H3 => r x l u H3 Q
theorem zjw {r : V → Option Int → Option Int → Hp → VK → Prop} (hr : SlR X r) (he : PE X e te) (hl : PO X lo tl) (hu : PO X hi th) : PE X (.Subscript e (.Slice lo hi none p2) pos) (tSl r te tl th) := by
 intro pins s σ H Q I h
 refine Subscript_ (thn (he pins s σ H _ I h) λv s1 ⟨x, H1, I1, r1, q1⟩ => ?_)
 refine wpAny_Slice (thn (hl pins s1 σ H1 _ I1 q1) λvl s2 ⟨l, H2, I2, pl, q2⟩ => thn (hu pins s2 σ H2 _ I2 q2) λvu s3 ⟨u, H3, I3, pu, q3⟩ => ?_)
 rw [evalPart_none]
 refine wpAny_pure ?_
 have I4 : Inv X pins σ H3 { s3 with heap := s3.heap.push { cls := .type "slice", data := .fields #[vl, vu, .none] } } := I3.kept (t' := s3.toks) λb ob q => Heap.get?_push_of_some _ q
 obtain ⟨T, id, hT, ht, hg⟩ := hr pins { s3 with heap := s3.heap.push { cls := .type "slice", data := .fields #[vl, vu, .none] } } σ H3 x v vl vu l u s3.heap.objs.size Q I4 r1 (Heap.IsSliceOf.new ..) pl pu q3
 show wpAny (model X.prog X.w) X.A (subscriptTail e (.Slice lo hi none p2) v (.ref s3.heap.objs.size)) (EP X pins σ Q) X.xe { s3 with heap := s3.heap.push { cls := .type "slice", data := .fields #[vl, vu, .none] } }
 exact tail_any (ops := [.ref s3.heap.objs.size, v]) ht hT hg (by with_unfolding_all rfl)
def cutV (xs : List V) (lo hi : Option Int) : List V := (xs.drop (HT.sIx xs.length 0 lo)).take (HT.sIx xs.length xs.length hi - HT.sIx xs.length 0 lo)
theorem zet (xs : List V) (lo hi : Option Int) : (cutV xs lo hi).length ≤ xs.length := by
 unfold cutV
 rw [List.length_take, List.length_drop]
 omega
def rSlT (K : PySem.W.Frag) : V → Option Int → Option Int → Hp → VK → Prop := λx lo hi H Q => ∃ a xs, x = .ref a ∧ SqT K H a xs ∧
 ¬ (HT.sIx xs.length 0 lo = 0 ∧ HT.sIx xs.length xs.length hi = xs.length) ∧ ∀ p, H p = none → Q (.ref p) (upd H p (.tup (cutV xs lo hi)))
theorem zmC : SlR X (rSlT X.K) := by
 intro pins s σ H x v vl vu lo hi sl Q I rx hs pl pu h
 obtain ⟨a, xs, rfl, hx, hw, q⟩ := h
 cases rx
 obtain ⟨its, r, ht, hz⟩ := I.tuple hx
 have hlen : its.toArray.size = xs.length := by rw [List.size_toArray]; exact r.length.symm
 refine ⟨"tuple", _, PyProof.Rows.slot_tuple_getitem.lookup, ht.typeIs, ?_⟩
 refine HT.zdJ ht hs pl pu (by rw [hlen]; exact hw) ?_ (by rw [hlen]; exact hz)
 rw [hlen]
 refine ⟨.ref s.heap.objs.size, _, I.laid (t' := s.toks) (o := .tup (cutV xs lo hi)) (λb ob q => Heap.get?_push_of_some _ q) (Nat.le_refl _) ?_, rfl, q _ (I.hok.fresh (Nat.le_refl _))⟩
 exact ⟨Nat.le_trans (zet xs lo hi) hz, _, (r.drop (HT.sIx xs.length 0 lo)).take (HT.sIx xs.length xs.length hi - HT.sIx xs.length 0 lo), IsTup.new _ _⟩
def rCatT (K : PySem.W.Frag) : R2 := λx y H Q => ∃ a b xs ys, x = .ref a ∧ y = .ref b ∧ SqT K H a xs ∧ SqT K H b ys ∧ xs ≠ [] ∧ xs.length + ys.length ≤ sizeLine ∧
 (ys = [] → Q (.ref a) H) ∧ (ys ≠ [] → ∀ p, H p = none → Q (.ref p) (upd H p (.tup (xs ++ ys))))
theorem Vals.nil_iff {xs : List V} {us : List Value} (r : Vals xs us) : us = [] ↔ xs = [] := by
 cases r with
 | nil => simp
 | cons _ _ => simp
theorem zly : OpR X (binaryOp .Add) (rCatT X.K) := by
 intro pins s σ H x y v u Q I rx ry h
 obtain ⟨a, b, xs, ys, rfl, rfl, ha, hb, hx, hz, q1, q2⟩ := h
 cases rx
 cases ry
 obtain ⟨its, r1, p1, _⟩ := I.tuple ha
 obtain ⟨its2, r2, p2, _⟩ := I.tuple hb
 refine HT.zl5 p1 p2 (λz => hx (r1.nil_iff.mp z)) (λz => ⟨.ref a, H, I, rfl, q1 (r2.nil_iff.mp z)⟩) (λz => ?_) (by rw [← r1.length, ← r2.length]; exact hz)
 refine ⟨.ref s.heap.objs.size, _, I.laid (t' := s.toks) (o := .tup (xs ++ ys)) (λb ob q => Heap.get?_push_of_some _ q) (Nat.le_refl _) ?_, rfl, q2 (λw => z (r2.nil_iff.mpr w)) _ (I.hok.fresh (Nat.le_refl _))⟩
 exact ⟨by rw [List.length_append]; exact hz, _, r1.append r2, IsTup.new _ _⟩
end
end L2
namespace L2
open PySem PySem.Spec PyProof.Rows
def ixN (n : Nat) (i : Int) : Option Nat := if 0 ≤ i then (if i < n then some i.toNat else none) else if -(n : Int) ≤ i then some (i + n).toNat else none
def atI {α : Type} (xs : List α) (i : Int) : Option α := (ixN xs.length i).bind λj => xs[j]?
theorem zik {n : Nat} {i : Int} {j : Nat} (h : ixN n i = some j) : seqIndex? i n = some j ∧ j < n ∧ -(n : Int) ≤ i ∧ i < n := by
 unfold ixN at h
 by_cases h0 : 0 ≤ i
 · rw [if_pos h0] at h
   by_cases h1 : i < n
   · rw [if_pos h1] at h
     have e : i.toNat = j := Option.some.inj h
     exact ⟨by rw [seqIndex_of h0 h1, e], by omega, by omega, h1⟩
   · rw [if_neg h1] at h; cases h
 · rw [if_neg h0] at h
   by_cases h1 : -(n : Int) ≤ i
   · rw [if_pos h1] at h
     have e : (i + n).toNat = j := Option.some.inj h
     exact ⟨by rw [seqIndex_neg (by omega) h1, e], by omega, h1, by omega⟩
   · rw [if_neg h1] at h; cases h
theorem zgr {α : Type} {xs : List α} {i : Int} {v : α} (h : atI xs i = some v) : ∃ j, seqIndex? i xs.length = some j ∧ xs[j]? = some v ∧ j < xs.length ∧ -(xs.length : Int) ≤ i ∧ i < xs.length := by
 unfold atI at h
 cases e : ixN xs.length i with
 | none => rw [e] at h; cases h
 | some j =>
   rw [e] at h
   obtain ⟨h1, h2, h3, h4⟩ := zik e
   exact ⟨j, h1, h, h2, h3, h4⟩
def PlainIx (b : Expr) : Prop := ∀ o i, subscripted b false o i = operate [o, i] (getItem o i)
def IxR (X : Cx) (r : R2) : Prop :=
 ∀ (value slice : Expr) (pins : List (Addr × Obj)) (s : Shared) (σ : St) (H : Hp) (x y : V) (v u : Value) (Q : VK), Inv X pins σ H s → RelV x v → RelV y u → r x y H Q →
   subscripted slice false v u = operate [v, u] (getItem v u) → wpAny (model X.prog X.w) X.A (subscriptTail value slice v u) (EP X pins σ Q) X.xe s
def MtR (X : Cx) (id : String) (r : V → List V → Hp → VK → Prop) : Prop :=
 ∀ (pins : List (Addr × Obj)) (s : Shared) (σ : St) (H : Hp) (x : V) (xs : List V) (v : Value) (us : List Value) (Q : VK), Inv X pins σ H s → RelV x v → Vals xs us → r x xs H Q →
   wpAny (model X.prog X.w) X.A (call (.builtin id) (v :: us)) (EP X pins σ Q) X.xe s
section
variable {X : Cx} {a b : Expr} {ta tb : TE} {pos : Pos}
theorem zol {r : R2} (hr : IxR X r) (ha : PE X a ta) (hb : PE X b tb) (hs : PlainIx b) : PE X (.Subscript a b pos) (tOp r ta tb) := by
 intro pins s σ H Q I h
 exact Subscript_ (binT ha hb I h λv u s2 x y H2 I2 rx ry q => hr a b pins s2 σ H2 x y v u Q I2 rx ry q (hs _ _))
def rIxL (K : PySem.W.Frag) : R2 := λx y H Q => ∃ p xs i v, x = .ref p ∧ y = .int i ∧ SqL K H p xs ∧ atI xs i = some v ∧ Q v H
def rIxT (K : PySem.W.Frag) : R2 := λx y H Q => ∃ p xs i v, x = .ref p ∧ y = .int i ∧ SqT K H p xs ∧ atI xs i = some v ∧ Q v H
def rIxS : R2 := λx y H Q => ∃ z i c, x = .str z ∧ y = .int i ∧ z.length ≤ sizeLine ∧ atI z.cps.toList i = some c ∧ Q (.str ⟨#[c]⟩) H
theorem zij : IxR X (rIxL X.K) := by
 intro value slice pins s σ H x y v u Q I rx ry h hs
 obtain ⟨p, xs, i, z, rfl, rfl, hq, he, q⟩ := h
 cases rx
 obtain ⟨t, rfl⟩ := ry
 obtain ⟨its, r, pl, hz⟩ := I.list hq
 obtain ⟨j, h1, h2, h3, h4, h5⟩ := zgr he
 obtain ⟨w, ew, rw'⟩ := r.get h2
 have hl := r.length
 have hn := line63
 have fin : EP X pins σ Q w s := ⟨z, H, I, rw', q⟩
 by_cases h0 : 0 ≤ i
 · have hj : i.toNat = j := by
     rw [seqIndex_of h0 h5] at h1
     exact Option.some.inj h1
   exact item_listR pl.isList h0 (by omega) (by rw [hj]; simpa using ew) fin hs
 · have hj : (i + (its.toArray.size : Int)).toNat = j := by
     rw [seqIndex_neg (by omega) h4] at h1
     rw [List.size_toArray, ← hl]
     exact Option.some.inj h1
   exact subscriptTail_builtinR (x := w) pl.isList.typeIs slot_list_getitem.lookup
     (wpAny_getItem_list_neg (Q := λr s' => r = w ∧ EP X pins σ Q r s') pl.isList (by omega) (by rw [List.size_toArray] <;> omega) (by omega) (by rw [hj]; simpa using ew) ⟨rfl, fin⟩) hs
theorem znz : IxR X (rIxT X.K) := by
 intro value slice pins s σ H x y v u Q I rx ry h hs
 obtain ⟨p, xs, i, z, rfl, rfl, hq, he, q⟩ := h
 cases rx
 obtain ⟨t, rfl⟩ := ry
 obtain ⟨its, r, pl, hz⟩ := I.tuple hq
 obtain ⟨j, h1, h2, h3, h4, h5⟩ := zgr he
 obtain ⟨w, ew, rw'⟩ := r.get h2
 have hl := r.length
 have hn := line63
 have fin : EP X pins σ Q w s := ⟨z, H, I, rw', q⟩
 exact subscriptTail_builtinR (x := w) pl.typeIs slot_tuple_getitem.lookup
   (getItem_tuple (j := j) (Q := λr s' => r = w ∧ EP X pins σ Q r s') pl (by omega) (by omega) (by rw [List.size_toArray, ← hl]; exact h1) (by simpa using ew) ⟨rfl, fin⟩) hs
theorem znA : IxR X rIxS := by
 intro value slice pins s σ H x y v u Q I rx ry h hs
 obtain ⟨z, i, c, rfl, rfl, hz, he, q⟩ := h
 obtain ⟨t, rfl⟩ := rx
 obtain ⟨t', rfl⟩ := ry
 obtain ⟨j, h1, h2, h3, h4, h5⟩ := zgr he
 have hl : z.cps.toList.length = z.length := by simp [Str.length]
 rw [hl] at h1 h4 h5
 have hn := line63
 exact tail_any (typeIs_str s z t) slot_str_getitem.lookup (getItem_str (c := c) (by
   have e1 : decide (i < -(2 ^ 63 : Int)) = false := decide_eq_false (by omega)
   have e2 : decide (i ≥ 2 ^ 63) = false := decide_eq_false (by omega)
   rw [e1, e2, Bool.or_false]) (by rw [h1]; simpa using h2) ⟨.str ⟨#[c]⟩, H, I.tok _, ⟨_, rfl⟩, q⟩) hs
theorem zhm (its : List Value) (n j : Nat) (u : Value) : Obj.mapSeq (·.setIfInBounds j u) { cls := .type "list", data := .seq its.toArray n } = { cls := .type "list", data := .seq (its.set j u).toArray n } := by
 simp [Obj.mapSeq]
theorem Inv.lst {pins : List (Addr × Obj)} {σ : St} {H : Hp} {s : Shared} {p : Addr} {xs : List V} (I : Inv X pins σ H s) (h : H p = some (.lst xs)) :
   ∃ (its : List Value) (n : Nat), Vals xs its ∧ s.heap.get? p = some { cls := .type "list", data := .seq its.toArray n } ∧ xs.length ≤ sizeLine := by
 obtain ⟨z, its, n, r, e⟩ := I.hok p _ h
 exact ⟨its, n, r, e, z⟩
theorem Inv.lstUpd {pins : List (Addr × Obj)} {σ : St} {H : Hp} {s : Shared} {p : Addr} {xs ys : List V} {its its' : List Value} {n n' : Nat} {f : Obj → Obj} (I : Inv X pins σ H s) (h : H p = some (.lst xs))
   (ho : s.heap.get? p = some { cls := .type "list", data := .seq its.toArray n }) (hf : f { cls := .type "list", data := .seq its.toArray n } = { cls := .type "list", data := .seq its'.toArray n' }) (r : Vals ys its') (hz : ys.length ≤ sizeLine) (t : Nat) :
   Inv X pins σ (upd H p (.lst ys)) { s with heap := s.heap.update p f, toks := t } := by
 have e : (s.heap.update p f).get? p = some { cls := .type "list", data := .seq its'.toArray n' } := by
   rw [Heap.get?_update_self f ho (by rw [hf] <;> rfl), hf]
 refine I.write (x := p) (e := p) (by rw [h]; trivial) (.inl rfl) (λb u hb q => (Heap.get?_update_other _ _ (Ne.symm hb)).trans q) ⟨_, e⟩ ?_
 exact ⟨hz, its', n', r, e⟩
def rSetL : V → V → V → Hp → (Hp → Prop) → Prop := λo i v H Q => ∃ p xs k j, o = .ref p ∧ i = .int k ∧ H p = some (.lst xs) ∧ ixN xs.length k = some j ∧ Q (upd H p (.lst (xs.set j v)))
theorem zjg : PSet X rSetL := by
 intro pins s σ H o i v ov iv u Q I ro ri rv h
 obtain ⟨p, xs, k, j, rfl, rfl, hp, hj, q⟩ := h
 cases ro
 obtain ⟨t, rfl⟩ := ri
 obtain ⟨its, n, r, ho, hz⟩ := I.lst hp
 obtain ⟨h1, h2, h3, h4⟩ := zik hj
 have hl := r.length
 have hn := line63
 have I' : Inv X pins σ (upd H p (.lst (xs.set j v))) { s with heap := s.heap.update p (Obj.mapSeq (·.setIfInBounds j u)) } :=
   I.lstUpd hp ho (zhm its n j u) (r.set rv j) (by rw [List.length_set]; exact hz) s.toks
 by_cases h0 : 0 ≤ k
 · have hk : k.toNat = j := by
     rw [seqIndex_of h0 h4] at h1
     exact Option.some.inj h1
   exact PySem.W.ki_setAt ho h0 (by omega) (by rw [List.size_toArray, ← hl]; exact h4) (by rw [hk]; exact ⟨_, I', q⟩)
 · have hk : (k + (its.toArray.size : Int)).toNat = j := by
     rw [seqIndex_neg (by omega) h3] at h1
     rw [List.size_toArray, ← hl]
     exact Option.some.inj h1
   exact PySem.W.ki_setBack ho (by omega) (by rw [List.size_toArray, ← hl]; exact h3) (by omega) (by rw [hk]; exact ⟨_, I', q⟩)
theorem zfC (lo hi : Option Int) (n : Nat) : (sliceBounds lo hi none n).1 = ((HT.sIx n 0 lo : Nat) : Int) ∧ (sliceBounds lo hi none n).2.1 = ((HT.sIx n n hi : Nat) : Int) ∧ (sliceBounds lo hi none n).2.2 = 1 := by
 refine ⟨?_, ?_, rfl⟩
 · cases lo with
   | none => simp [sliceBounds, HT.sIx]
   | some i =>
     simp only [sliceBounds, HT.sIx, Option.getD_none, show (1 : Int) > 0 by decide, if_true]
     by_cases h : i < 0
     · simp only [h, if_true] <;> omega
     · simp only [h, if_false] <;> omega
 · cases hi with
   | none => simp [sliceBounds, HT.sIx]
   | some i =>
     simp only [sliceBounds, HT.sIx, Option.getD_none, show (1 : Int) > 0 by decide, if_true]
     by_cases h : i < 0
     · simp only [h, if_true] <;> omega
     · simp only [h, if_false] <;> omega
theorem zfh (its : List Value) (lo hi : Option Int) : slicePick its.toArray lo hi none = ((its.drop (HT.sIx its.length 0 lo)).take (HT.sIx its.length its.length hi - HT.sIx its.length 0 lo)).toArray := by
 obtain ⟨h1, h2, h3⟩ := zfC lo hi its.toArray.size
 unfold slicePick
 rw [h1, h2, h3]
 simp only [sliceRange_one, pick_run, List.size_toArray] <;> rfl
def rSlL (K : PySem.W.Frag) : V → Option Int → Option Int → Hp → VK → Prop := λx lo hi H Q => ∃ a xs, x = .ref a ∧ SqL K H a xs ∧ ∀ p, H p = none → Q (.ref p) (upd H p (.lst (cutV xs lo hi)))
theorem zkP : SlR X (rSlL X.K) := by
 intro pins s σ H x v vl vu lo hi sl Q I rx hs pl pu h
 obtain ⟨a, xs, rfl, hx, q⟩ := h
 cases rx
 obtain ⟨its, r, ht, hz⟩ := I.list hx
 have hlen := r.length
 refine ⟨"list", _, slot_list_getitem.lookup, ht.isList.typeIs, ?_⟩
 refine wpAny_getItem_list_slice ht.isList hs pl pu .none (by simp) ?_ (by rw [List.size_toArray] <;> omega)
 rw [zfh, ← hlen]
 refine ⟨.ref s.heap.objs.size, _, I.laid (t' := s.toks) (o := .lst (cutV xs lo hi)) (λb ob q => Heap.get?_push_of_some _ q) (Nat.le_refl _) ?_, rfl, q _ (I.hok.fresh (Nat.le_refl _))⟩
 exact ⟨Nat.le_trans (zet xs lo hi) hz, _, 0, (r.drop (HT.sIx xs.length 0 lo)).take (HT.sIx xs.length xs.length hi - HT.sIx xs.length 0 lo), Heap.get?_push_size _ rfl⟩
theorem zdV : CallR X (.builtin "len") (λxs H Q => ∃ p ys, xs = [.ref p] ∧ (SqL X.K H p ys ∨ SqT X.K H p ys) ∧ Q (.int ys.length) H) := by
 intro pins s σ H xs us Q I r h
 obtain ⟨p, ys, rfl, hq, q⟩ := h
 obtain ⟨u, rfl, rx⟩ := vals1 r
 cases rx
 have hn := line63
 rcases hq with hq | hq
 · obtain ⟨its, r', pl, hz⟩ := I.list hq
   have hlen := r'.length
   exact Calls.call_len_list pl.isList (by simp only [List.size_toArray] <;> omega) ⟨.int ys.length, H, I.tok _, ⟨s.toks + 1, by rw [List.size_toArray, hlen]⟩, q⟩
 · obtain ⟨its, r', pl, hz⟩ := I.tuple hq
   have hlen := r'.length
   exact len_tuple pl (by simp only [List.size_toArray] <;> omega) ⟨.int ys.length, H, I.tok _, ⟨s.toks + 1, by rw [List.size_toArray, hlen]⟩, q⟩
theorem zfT : CallR X (.builtin "len") (λxs H Q => ∃ z, xs = [.str z] ∧ z.length ≤ sizeLine ∧ Q (.int z.length) H) := by
 intro pins s σ H xs us Q I r h
 obtain ⟨z, rfl, hz, q⟩ := h
 obtain ⟨u, rfl, t, rfl⟩ := vals1 r
 have hn := line63
 exact len_str (by omega) ⟨.int z.length, H, I.tok _, ⟨_, rfl⟩, q⟩
theorem zdU : CallR X (.type "list") (λxs H Q => ∃ p ys, xs = [.ref p] ∧ (SqL X.K H p ys ∨ SqT X.K H p ys) ∧ ∀ l, H l = none → Q (.ref l) (upd H l (.lst ys))) := by
 intro pins s σ H xs us Q I r h
 obtain ⟨p, ys, rfl, hq, q⟩ := h
 obtain ⟨u, rfl, rx⟩ := vals1 r
 cases rx
 have fin : ∀ (its : List Value), Vals ys its → ys.length ≤ sizeLine → ∀ (h' : Heap) (c' : Nat), (∀ b o', s.heap.get? b = some o' → h'.get? b = some o') →
     h'.get? s.heap.objs.size = some { cls := .type "list", dict := none, data := .seq its.toArray c', slots := #[] } → EP X pins σ Q (.ref s.heap.objs.size) { s with heap := h' } := λits r' hz h' c' kp e =>
   ⟨.ref s.heap.objs.size, _, I.laid (t' := s.toks) kp (Nat.le_refl _) (show ObjOk X.prog X.w _ h' _ (.lst ys) from ⟨hz, its, c', r', e⟩), rfl, q _ (I.hok.fresh (Nat.le_refl _))⟩
 rcases hq with hq | hq
 · obtain ⟨its, r', pl, hz⟩ := I.list hq
   have hlen := r'.length
   obtain ⟨o, ho, hc, n, hd⟩ := pl.isList
   exact call_list_seq p (.inl rfl) ho hc hd (λh' c' kp e => fin its r' hz h' c' kp e) (by simp only [List.size_toArray] <;> omega)
 · obtain ⟨its, r', pl, hz⟩ := I.tuple hq
   have hlen := r'.length
   obtain ⟨o, ho, hc, n, hd⟩ := pl
   exact call_list_seq p (.inr rfl) ho hc hd (λh' c' kp e => fin its r' hz h' c' kp e) (by simp only [List.size_toArray] <;> omega)
theorem zdv : CallR X (.type "tuple") (λxs H Q => ∃ p ys, xs = [.ref p] ∧ ((SqL X.K H p ys ∧ ∀ l, H l = none → Q (.ref l) (upd H l (.tup ys))) ∨ (SqT X.K H p ys ∧ Q (.ref p) H))) := by
 intro pins s σ H xs us Q I r h
 obtain ⟨p, ys, rfl, h⟩ := h
 obtain ⟨u, rfl, rx⟩ := vals1 r
 cases rx
 rcases h with ⟨hq, q⟩ | ⟨hq, q⟩
 · obtain ⟨its, r', pl, hz⟩ := I.list hq
   have hlen := r'.length
   refine call_tuple_list pl.isList (λh' kp => ?_) (by simp only [List.size_toArray] <;> omega)
   have I1 : Inv X pins σ H { s with heap := h' } := I.kept (t' := s.toks) kp
   have I2 : Inv X pins σ (upd H h'.objs.size (.tup ys)) { s with heap := h'.push { cls := .type "tuple", data := .seq its.toArray } } :=
     I1.laid (t' := s.toks) (λb o e => Heap.get?_push_of_some _ e) (Nat.le_refl _) (show ObjOk X.prog X.w _ _ _ (.tup ys) from ⟨hz, its, r', IsTup.new _ _⟩)
   exact ⟨.ref h'.objs.size, _, I2, rfl, q _ (I1.hok.fresh (Nat.le_refl _))⟩
 · obtain ⟨its, r', pl, hz⟩ := I.tuple hq
   exact call_tuple_same pl ⟨.ref p, H, I, rfl, q⟩
def tyV (K : PySem.W.Frag) (T : String) (x : V) (H : Hp) : Prop := match x with
 | .str _ => T = "str"
 | .int _ => T = "int"
 | .ref p => (T = "list" ∧ ∃ xs, SqL K H p xs) ∨ (T = "tuple" ∧ ∃ o, K.lookup p = some o ∧ o.cls = .type "tuple" ∧ o.dict = none) ∨
     (T = "dict" ∧ ((∃ kvs, H p = some (.dK kvs)) ∨ ∃ kvs, H p = some (.dT kvs))) ∨ (T = "set" ∧ ∃ S n, H p = some (.set S n))
 | _ => False
theorem zkb {pins : List (Addr × Obj)} {σ : St} {H : Hp} {s : Shared} {T : String} {x : V} {v : Value} (I : Inv X pins σ H s) (r : RelV x v) (ty : tyV X.K T x H) :
   s.TypeIs v T ∧ ∀ a, v = .ref a → ∃ ob, s.heap.get? a = some ob ∧ ob.dict = none := by
 cases x with
 | str z =>
   obtain ⟨t, rfl⟩ := r
   cases (show T = "str" from ty)
   exact ⟨typeIs_str s z t, λ_ e => nomatch e⟩
 | int i =>
   obtain ⟨t, rfl⟩ := r
   cases (show T = "int" from ty)
   exact ⟨typeIs_int s i t, λ_ e => nomatch e⟩
 | ref p =>
   cases r
   rcases ty with ⟨rfl, xs, hq⟩ | ⟨rfl, o, hk, hc, hd⟩ | ⟨rfl, hk⟩ | ⟨rfl, S, n, hk⟩
   · obtain ⟨its, _, pl, _⟩ := I.list hq
     refine ⟨pl.isList.typeIs, λa e => ?_⟩
     cases e
     obtain ⟨o, n, e, c, hd, _⟩ := pl
     exact ⟨o, e, hd⟩
   · refine ⟨⟨o, I.kIn p o hk, hc⟩, λa e => ?_⟩
     cases e
     exact ⟨o, I.kIn _ o hk, hd⟩
   · have z : ∃ o, s.heap.get? p = some o ∧ o.ExactDict := by
       rcases hk with ⟨kvs, hk⟩ | ⟨kvs, hk⟩
       · obtain ⟨_, _, _, _, o, _, _, e, ex, _⟩ := I.hok p _ hk
         exact ⟨o, e, ex⟩
       · obtain ⟨_, _, _, _, o, _, _, e, ex, _⟩ := I.hok p _ hk
         exact ⟨o, e, ex⟩
     obtain ⟨o, e, ex⟩ := z
     refine ⟨⟨o, e, ex.1⟩, λa e2 => ?_⟩
     cases e2
     exact ⟨o, e, ex.2.1⟩
   · obtain ⟨o, _, _, _, e, ex, _⟩ := I.hok p _ hk
     refine ⟨⟨o, e, ex.1⟩, λa e2 => ?_⟩
     cases e2
     exact ⟨o, e, ex.2.1⟩
 | _ => exact False.elim ty
def tBM0 (K : PySem.W.Frag) (T : String) (r : V → List V → Hp → VK → Prop) (to : TE) : TE := λσ H Q => to σ H λx H1 => tyV K T x H1 ∧ r x [] H1 Q
def tBM (K : PySem.W.Frag) (T : String) (r : V → List V → Hp → VK → Prop) (to : TE) (t : TA) : TE := λσ H Q => to σ H λx H1 => tyV K T x H1 ∧ t σ H1 λxs H2 => r x xs H2 Q
variable {o e : Expr} {es : List Expr} {to : TE} {t : TA} {name : Str} {apos cpos : Pos} {T id : String} {r : V → List V → Hp → VK → Prop}
theorem znh (pa : PlainAttrs T) (slot : Slot T name id) (hty : typeOf (.builtin id) = pure (.type "method_descriptor")) (hm : MtR X id r) (ho : PE X o to)
   (hbase : attributeBase o name X.env (eval o X.env) = eval o X.env := by rfl) (hline : (apos.endLine == cpos.line) = true := by rfl) : PE X (.Call (.Attribute o name apos) [] [] cpos) (tBM0 X.K T r to) := by
 intro pins s σ H Q I h
 refine wpAny_Call_method0_late hbase hline (thn (ho pins s σ H _ I h) λv s1 ⟨x, H1, I1, r1, ty, q1⟩ => ?_)
 obtain ⟨h1, h2⟩ := zkb I1 r1 ty
 exact ⟨T, id, pa, slot, hty, h1, h2, Calls.callWith_builtin rfl (PySem.evalArgs_none (hm pins s1 σ H1 x [] v [] Q I1 r1 .nil q1))⟩
theorem zom (pa : PlainAttrs T) (slot : Slot T name id) (hty : typeOf (.builtin id) = pure (.type "method_descriptor")) (hm : MtR X id r) (ho : PE X o to) (ha : PA X (e :: es) t)
   (hbase : attributeBase o name X.env (eval o X.env) = eval o X.env := by rfl)
   (hfew : ((backTo cpos (starEach (e :: es) X.env)).all (λx => !x.1) && (backToKw cpos (keywordEach [] X.env)).all (λx => x.1.isSome)
     && decide ((e :: es).length + ([] : List Keyword).length + (if ([] : List Keyword).isEmpty then 0 else 1) < 30)) = true := by rfl)
   (hline : (apos.endLine == cpos.line) = true := by rfl) (hs : starEach (e :: es) X.env = (false, eval e X.env) :: starEach es X.env := by rfl) (hplain : (backTo cpos (starEach es X.env)).any (·.1) = false := by rfl) :
   PE X (.Call (.Attribute o name apos) (e :: es) [] cpos) (tBM X.K T r to t) := by
 intro pins s σ H Q I h
 refine wpAny_Call_method_late hbase hfew hline rfl (thn (ho pins s σ H _ I h) λv s1 ⟨x, H1, I1, r1, ty, q1⟩ => ?_)
 obtain ⟨h1, h2⟩ := zkb I1 r1 ty
 refine ⟨T, id, pa, slot, hty, h1, h2, ?_⟩
 have hA := ha cpos pins s1 σ H1 _ I1 q1
 rw [hs] at hA ⊢
 refine Calls.callWith_builtin (by show (false || (backTo cpos (starEach es X.env)).any (·.1)) = false; rw [hplain] <;> rfl) (Calls.evalArgs_plain ?_)
 exact thn hA λus s2 ⟨vs, H2, I2, r2, q2⟩ => hm pins s2 σ H2 x vs v us Q I2 r1 r2 q2
end
end L2
namespace L2
open PySem PySem.Spec PyProof.Rows
def MtM (X : Cx) (id : String) (r : V → List V → Hp → VK → Prop) : Prop :=
 ∀ (pins : List (Addr × Obj)) (s : Shared) (σ : St) (H : Hp) (x : V) (xs : List V) (v : Value) (us : List Value) (Q : VK), Inv X pins σ H s → RelV x v → Vals xs us → r x xs H Q →
   wpAny (model X.prog X.w) X.A (call (.builtin id) (v :: us)) (EP X pins σ Q) X.xe s
theorem Vals.one : ∀ {x : V} {us : List Value}, Vals [x] us → ∃ u, us = [u] ∧ RelV x u
 | _, _, .cons r .nil => ⟨_, rfl, r⟩
section
variable {X : Cx} {pins : List (Addr × Obj)} {σ : St} {H : Hp} {s : Shared} {l b : Addr} {xs ys zs : List V}
theorem Inv.lset {its its' : List Value} {n : Nat} {f : Array Value → Array Value} {t' : Nat} (I : Inv X pins σ H s) (hH : H l = some (.lst xs))
   (e : s.heap.get? l = some { cls := .type "list", data := .seq its.toArray n }) (hf : f its.toArray = its'.toArray) (hv : Vals ys its') (hz : ys.length ≤ sizeLine) :
   Inv X pins σ (upd H l (.lst ys)) { s with heap := s.heap.update l (Obj.mapSeq f), toks := t' } := by
 have q := PySem.IsL.update e f
 rw [hf] at q
 refine I.write (x := l) (e := l) (by rw [hH]; exact trivial) (.inl rfl) (λb' u hb hu => (Heap.get?_update_other s.heap (Obj.mapSeq f) (Ne.symm hb)).trans hu) ⟨_, q⟩ ?_
 exact ⟨hz, its', _, hv, q⟩
theorem Inv.lnew {its : List Value} {t' : Nat} (I : Inv X pins σ H s) (hv : Vals ys its) (hz : ys.length ≤ sizeLine) :
   Inv X pins σ (upd H s.heap.objs.size (.lst ys)) { s with heap := s.heap.push { cls := .type "list", data := .seq its.toArray }, toks := t' } :=
 I.laid (λ_ _ q => Heap.get?_push_of_some _ q) (Nat.le_refl _) ⟨hz, its, 0, hv, Heap.get?_push_size _ rfl⟩
theorem Inv.fresh (I : Inv X pins σ H s) : H s.heap.objs.size = none := I.hok.fresh (Nat.le_refl _)
theorem Inv.lstM (I : Inv X pins σ H s) (hH : H l = some (.lst xs)) : xs.length ≤ sizeLine ∧ ∃ (its : List Value) (n : Nat), Vals xs its ∧ xs.length = its.length ∧ s.heap.get? l = some { cls := .type "list", data := .seq its.toArray n } := by
 obtain ⟨z, its, n, r, e⟩ := I.hok l _ hH
 exact ⟨z, its, n, r, r.length, e⟩
end
section
variable {X : Cx}
def rAppend : V → List V → Hp → VK → Prop := λx vs H Q => ∃ l xs y, x = .ref l ∧ vs = [y] ∧ H l = some (.lst xs) ∧ xs.length < sizeLine ∧ Q .non (upd H l (.lst (xs ++ [y])))
theorem zh4 : MtM X "list.append" rAppend := by
 intro pins s σ H x vs v us Q I rx rv h
 obtain ⟨l, xs, y, rfl, rfl, hH, hz, q⟩ := h
 cases rx
 obtain ⟨u, rfl, ru⟩ := rv.one
 obtain ⟨z, its, n, r, hl, e⟩ := I.lstM hH
 refine call_meets F.slot_list_append ⟨_, e, rfl⟩ F.entry_list_append (F.args_list_append_2 _ _) (PySem.list_append l its.toArray n u (by rw [List.size_toArray]; omega)) ⟨e, ?_⟩
 refine ⟨.non, _, I.lset (its' := its ++ [u]) hH e (by simp) (r.append (.cons ru .nil)) ?_, rfl, q⟩
 rw [List.length_append, List.length_singleton]
 omega
def rCat : R2 := λx y H Q => ∃ l b xs zs, x = .ref l ∧ y = .ref b ∧ H l = some (.lst xs) ∧ H b = some (.lst zs) ∧ xs.length + zs.length ≤ sizeLine ∧ ∀ p, H p = none → Q (.ref p) (upd H p (.lst (xs ++ zs)))
theorem zno : OpR X (binaryOp .Add) rCat := by
 intro pins s σ H x y v u Q I rx ry h
 obtain ⟨l, b, xs, zs, rfl, rfl, hH, hB, hz, q⟩ := h
 cases rx
 cases ry
 obtain ⟨z, its, n, r, hl, e⟩ := I.lstM hH
 obtain ⟨z2, its2, n2, r2, hl2, e2⟩ := I.lstM hB
 refine PySem.P.add_list e e2 ?_ (by rw [List.size_toArray, List.size_toArray]; omega)
 have ea : its.toArray ++ its2.toArray = (its ++ its2).toArray := by simp
 rw [ea]
 exact ⟨.ref _, _, I.lnew (t' := s.toks) (r.append r2) (by rw [List.length_append]; omega), rfl, q _ I.fresh⟩
end
section
variable {prog : Program} {w : World} {A : Around} {E : Value → Shared → Prop} {s : Shared}
end
section
variable {X : Cx}
end
end L2
namespace Att
open PySem PySem.W PySem.Calls PyProof.Rows
theorem zek {P : Params} {h : Heap} : ∀ (ns : List Int) (vs : List Value), WellAll P h vs (ns.map WData.int) → IntsAre vs ns := by
 intro ns
 induction ns with
 | nil =>
   intro vs w
   rw [List.map_nil] at w
   cases w
   exact .nil
 | cons n ns ih =>
   intro vs w
   rw [List.map_cons] at w
   cases w with
   | cons a b =>
     cases a
     exact .cons _ _ (ih _ b)
theorem zhN {l : OpenLaw} {n : Nat} (hn : l.most = some n) {P : Params} {h : Heap} {args : List WData} {vals : List Value}
   (hpre : l.row.toRowW.claim.pre args = true) (hwl : WellAll P h vals args) :
   ∃ a vs ns, vals = [Value.ref a] ∧ args = [WData.list (ns.map WData.int)] ∧ h.get? a = some { cls := .type "list", data := .seq vs.toArray } ∧ IntsAre vs ns ∧ ns.length ≤ n := by
 have hsh : WShape.hasAll [] args [.list .int] = true := (pre_splitW hpre).1
 have hc : l.pre.holds [] { args := args } = true := (pre_splitW hpre).2
 obtain ⟨d, r, rfl, h1, h2⟩ := hasAllW_cons hsh
 obtain rfl := hasAllW_nil h2
 obtain ⟨xs, rfl, h3⟩ := hasW_list h1
 obtain ⟨ns, rfl⟩ := items_int h3
 have hlen : ns.length ≤ n := by
   unfold OpenLaw.pre at hc
   have h4 : (WTm.not (.lt (.lit (.int (n : Int))) (.len (.arg 0)))).holds [] { args := [.list (ns.map .int)] } = true := by
     have h4 := (holds_andW hc).1
     rw [hn] at h4
     exact h4
   have h5 := condW_of h4 (w_not (w_lt w_lit (w_len_list (w_arg rfl))))
   rw [List.length_map] at h5
   refine Nat.le_of_not_lt λq => ?_
   have q' : (n : Int) < ((ns.length : Nat) : Int) := by omega
   first
     | (rw [decide_eq_true q'] at h5; exact absurd h5 (by decide))
     | (simp at h5; omega)
 cases hwl with
 | cons w1 w2 =>
   cases w2
   cases w1 with
   | list ho hall => exact ⟨_, _, ns, rfl, rfl, ho, zek ns _ hall, hlen⟩
theorem zhS (l : OpenLaw) (args : List WData) : l.row.toRowW.claim.post args (.bool true) args = true :=
 postW_of (r := l.row.toRowW) (X := (true == true))
   (show WShape.has [] (.bool true) .bool = true by first | rfl | decide | simp [WShape.has, WShape.arms, WShape.armsAll])
   (show (WTm.eq .res (.lit (.bool true))).value [] { args := args, res := some (.bool true), after := args } = some (.bool (true == true)) from w_eq_bool (w_res rfl) w_lit) rfl
theorem zgp {l : OpenLaw} {n : Nat} {q : Program} {loose : List Str} {XP : (Str → Option Value) → Heap → Prop} {YP : World → Heap → Prop} {d : DefRec}
   (hn : l.most = some n) (hdf : d.params.defaults = [])
   (call : ∀ (w : World) (s₀ s₁ : Shared) (mg mb : Str → Option Value) (fa : Addr) (o : Obj) (pm cd doc : Value) (a : Addr) (vs : List Value) (ns : List Int),
     Ground q loose [] XP w s₀ mg mb s₁.heap → YP w s₁.heap →
     s₁.heap.get? fa = some o → o.data = .func (docDef d.name d.params d.body d.scope pm cd doc) → s₁.heap.CodeRec cd d.name → mg d.name = some (.ref fa) →
     s₁.heap.get? a = some { cls := .type "list", data := .seq vs.toArray } → IntsAre vs ns → ns.length ≤ n → s₁.gens = #[] →
     codeAny (model l.prog w) callerA (.call (.ref fa) ⟨[.ref a], []⟩) (λr s' => r = .ok (.ret (.bool true)) ∧ OldK s₁.heap s'.heap ∧ s'.os = s₁.os ∧ AllBare s'.gens) s₁) :
   WalkO q loose XP YP l.row.toRowW d [] (λf vs => PySem.call f vs) := by
 intro w s₀ s₁ mg mb G Y fa o pm cd doc dV kV ho hd hcd hD hmg hg args vals as hpre hlay hrd hwl hlo
 obtain rfl : dV = .none := Dflts.none hD hdf
 obtain rfl : kV = .none := Dflts.noKw hD
 obtain ⟨a, vs, ns, rfl, rfl, hobj, hints, hlen⟩ := zhN hn hpre hwl
 refine enter_call (codeAny_mono (call w s₀ s₁ mg mb fa o pm cd doc a vs ns G Y ho (fd_plain hd) hcd hmg hobj hints hlen hg) λr s' hq => ?_)
 obtain ⟨rfl, h2, h3, h4⟩ := hq
 exact ⟨.inl ⟨.bool true, .bool true, [], rfl, λ_ => rfl, .bool true, zhS l _, λ_ => ⟨List.Pairwise.nil, λ_ hm => (nomatch hm)⟩⟩, h2, h3, h4⟩
section
variable {prog : Program} {w : World} {A : Around} {E : Value → Shared → Prop} {s : Shared} {K : Frag}
end
end Att
namespace L2
open PySem PySem.Spec PyProof.Rows
theorem zfz : ∀ {vs : List Value} {ns : List Int}, IntsAre vs ns → Vals (ns.map V.int) vs
 | _, _, .nil => .nil
 | _, _, .cons n t h => .cons ⟨t, rfl⟩ (zfz h)
end L2
namespace L2
open PySem PySem.Spec PyProof.Rows
end L2
namespace L2
open PySem PySem.Spec PyProof.Rows
def defArgs (s : Stmt) : Arguments := match s with
 | .FunctionDef _ a _ _ _ _ _ _ _ _ => a
 | _ => { posonlyargs := [], args := [], vararg := none, kwonlyargs := [], kw_defaults := [], kwarg := none, defaults := [] }
def defBody (s : Stmt) : List Stmt := match s with
 | .FunctionDef _ _ b _ _ _ _ _ _ _ => b
 | _ => []
def defScope (s : Stmt) : Scope := match s with
 | .FunctionDef _ _ _ _ _ _ sc _ _ _ => sc
 | _ => { kind := .function, names := [], isGenerator := false, isCoroutine := false }
abbrev CX0 : CXT := λ_ _ _ _ _ _ => False
abbrev E0 : XK := λ_ _ _ => False
theorem pass0 {X : Cx} : Passes CX0 X E0 := λ_ _ _ _ _ _ _ h => h.elim
structure Fun (K : PySem.W.Frag) (x qual : Str) (st : Stmt) (f : Addr) (fd : FuncData) : Prop where
 ex : ∃ (oc : Value) (od : Option Addr) (kV doc pm : Value) (an : Option Addr) (cdv ct : Value) (osl : Array (Option Value)),
   fd = PySem.W.fnOf x qual (defArgs st) (defBody st) (defScope st) .none kV doc pm an cdv ct ∧ K.lookup f = some ⟨oc, od, .func fd, osl⟩ ∧ PySem.W.codeIn K cdv qual = true
 kp : PySem.W.keepIn K (.ref f) = true
section
variable {P : Program} {w : World} {K : PySem.W.Frag} {mg : Str → Option Value} {base : Heap}
theorem Fun.ok {x qual : Str} {st : Stmt} {f : Addr} {fd : FuncData} {N ps : List Str} {k : Nat} {sp : Sp} (F : Fun K x qual st f fd) (S : FnScope N ps (defScope st)) (len : ∀ vs H Q E, sp vs H Q E → vs.length = ps.length)
   (hbody : ∀ (cdv : Value) (A : Around) (outer : List Env) (s : Shared) (H : Hp) (vs : List V) (Q : VK) (E : XK), Room k (A.deeper (envOfC qual (defScope st) s.heap.objs.size f cdv)) → sp vs H Q E →
     ∃ t, PSs (cxOf CX0 P w K mg base N qual (defScope st) f cdv A outer s H E).nox (defBody st) t ∧ t { nx := λ_ H' => Q .non H', rt := Q } (start N vs) H) : FnOk P w K mg base CX0 (k + 1) f fd ps sp := by
 obtain ⟨oc, od, kV, doc, pm, an, cdv, ct, osl, rfl, lk, hcd⟩ := F.ex
 refine znF lk hcd S len λA outer s H vs Q E hr hsp => ?_
 obtain ⟨t, h, q⟩ := hbody cdv A outer s H vs Q E hr hsp
 exact ⟨t, h.nox, q⟩
theorem Fun.binds {x qual : Str} {st : Stmt} {f : Addr} {fd : FuncData} {ps : List Str} (F : Fun K x qual st f fd)
   (h : ∀ (kV doc pm : Value) (an : Option Addr) (cdv ct : Value) (us : List Value), us.length = ps.length → bindArgs (PySem.W.fnOf x qual (defArgs st) (defBody st) (defScope st) .none kV doc pm an cdv ct) ⟨us, []⟩ = pure (ps.zip us)) : Binds K fd ps [] := by
 obtain ⟨oc, od, kV, doc, pm, an, cdv, ct, osl, rfl, lk, hcd⟩ := F.ex
 exact .all (h kV doc pm an cdv ct)
theorem znE {x qual : Str} {st : Stmt} {f : Addr} {oc : Value} {od an : Option Addr} {osl : Array (Option Value)} {kV doc pm cdv ct : Value} (l : K.lookup f = some ⟨oc, od, .func (PySem.W.fnOf x qual (defArgs st) (defBody st) (defScope st) .none kV doc pm an cdv ct), osl⟩)
   (c : PySem.W.codeIn K cdv qual = true) (k : PySem.W.keepIn K (.ref f) = true) : Fun K x qual st f (PySem.W.fnOf x qual (defArgs st) (defBody st) (defScope st) .none kV doc pm an cdv ct) := ⟨⟨oc, od, kV, doc, pm, an, cdv, ct, osl, rfl, l, c⟩, k⟩
end
section
variable {X : Cx}
end
def Same (H H' : Hp) : Prop := ∀ b o, H b = some o → H' b = some o
theorem Same.refl (H : Hp) : Same H H := λ_ _ h => h
theorem Same.seq {K : PySem.W.Frag} {H H' : Hp} {a : Addr} {xs : List V} (e : Same H H') (h : SqL K H a xs) : SqL K H' a xs := by
 rcases h with (h | ⟨o, h⟩) | h
 · exact .inl (.inl (e _ _ h))
 · exact .inl (.inr ⟨o, e _ _ h⟩)
 · exact .inr h
end L2
end
section
set_option autoImplicit false
namespace MZ
open PySem PySem.Spec PyProof.Rows L2
structure Sub where
 it : Addr
 src : Addr
 tup : Bool
def ItAt (h : Heap) (p : Sub) (k : Nat) : Prop := if p.tup = true then h.IsTupleIter p.it p.src k else h.IsListIter p.it p.src k
def SrcAt (h : Heap) (p : Sub) (items : List Value) : Prop := if p.tup = true then h.IsTuple p.src items.toArray else h.IsList p.src items.toArray
theorem ItAt.at {h h' : Heap} {p : Sub} {k : Nat} (x : ItAt h p k) (f : ∀ o, h.get? p.it = some o → h'.get? p.it = some o) : ItAt h' p k := by
 unfold ItAt at x ⊢
 split
 · rename_i hp; rw [if_pos hp] at x; obtain ⟨o, e, r⟩ := x; exact ⟨o, f o e, r⟩
 · rename_i hp; rw [if_neg hp] at x; obtain ⟨o, e, r⟩ := x; exact ⟨o, f o e, r⟩
theorem SrcAt.at {h h' : Heap} {p : Sub} {xs : List Value} (x : SrcAt h p xs) (f : ∀ o, h.get? p.src = some o → h'.get? p.src = some o) : SrcAt h' p xs := by
 unfold SrcAt at x ⊢
 split
 · rename_i hp; rw [if_pos hp] at x; obtain ⟨o, e, r⟩ := x; exact ⟨o, f o e, r⟩
 · rename_i hp; rw [if_neg hp] at x; obtain ⟨o, e, r⟩ := x; exact ⟨o, f o e, r⟩
theorem ItAt.obj {h : Heap} {p : Sub} {k : Nat} (x : ItAt h p k) : ∃ o, h.get? p.it = some o ∧ ∀ v, o.data ≠ .cell v := by
 unfold ItAt at x
 split at x
 · obtain ⟨o, e, _, d⟩ := x; exact ⟨o, e, λv z => by rw [d] at z; cases z⟩
 · obtain ⟨o, e, _, d⟩ := x; exact ⟨o, e, λv z => by rw [d] at z; cases z⟩
section
variable {prog : Program} {w : World} {A : Around} {E : Value → Shared → Prop} {s : Shared}
theorem zdE {it t : Addr} {i : Nat} {items} {x : Value} {Q : Value → Shared → Prop} (hit : s.heap.IsTupleIter it t i)
   (ht : s.heap.IsTuple t items) (hx : items[i]? = some x)
   (hQ : ∀ h', h'.IsTupleIter it t (i + 1) → Heap.SameBut it s.heap h' → Q x { s with heap := h' }) :
   wpAny (model prog w) A (Builtin.SmallTypes.nextOf (.ref it)) Q E s := by
 obtain ⟨o, ho, hc, hd⟩ := id hit
 obtain ⟨ol, hol, _, nl, hdl⟩ := ht
 unfold Builtin.SmallTypes.nextOf
 refine wpAny_bind (wpAny_callSpecial?_slot (name := Str.ofString "__next__") hit.typeIs F.slot_tuple_iterator_next
   (wpAny_call_entry F.slot_tuple_iterator_next hit.typeIs F.entry_tuple_iterator_next ?_ (F.args_tuple_iterator_next_1 _)))
 show wpAny _ _ (field (.ref it) 0 >>= _) _ _ s
 refine wpAny_bind (wpAny_field ho hd (x := .ref t) rfl ?_)
 show wpAny _ _ (if (Value.ref t == Value.none) = true then _ else _) _ _ s
 rw [if_neg (show ¬ ((Value.ref t == Value.none) = true) from Bool.false_ne_true)]
 show wpAny _ _ (field (.ref it) 1 >>= _) _ _ s
 refine wpAny_bind (wpAny_field ho hd (x := .int i 0) rfl ?_)
 show wpAny _ _ (seqItems? (.ref t) >>= _) _ _ s
 refine wpAny_bind (wpAny_seqItems hol hdl ?_)
 simp only [Int.toNat_natCast, hx]
 refine wpAny_bind (wpAny_setField ho hd (by simp) (wpAny_pure ⟨x, rfl, wpAny_pure (hQ _ ?_ (Heap.SameBut.update ..))⟩))
 exact ⟨_, Heap.get?_update_self _ ho (Obj.isFreed_of_fields (Obj.data_mapFields hd _)), (Obj.cls_mapFields ..).trans hc, by
   rw [Obj.data_mapFields hd]; simp [rawInt]⟩
theorem zdZ {it t : Addr} {i : Nat} {items} {Q : Value → Shared → Prop} (hh : A.handled = none)
   (hit : s.heap.IsTupleIter it t i) (ht : s.heap.IsTuple t items) (hx : items[i]? = none)
   (hE : ∀ h' e, Heap.ExtBut it s.heap h' → (∃ o, h'.get? e = some o ∧ o.cls = .type "StopIteration") → E (.ref e) { s with heap := h' }) :
   wpAny (model prog w) A (Builtin.SmallTypes.nextOf (.ref it)) Q E s := by
 obtain ⟨o, ho, hc, hd⟩ := id hit
 obtain ⟨ol, hol, _, nl, hdl⟩ := ht
 unfold Builtin.SmallTypes.nextOf
 refine wpAny_bind (wpAny_callSpecial?_slot (name := Str.ofString "__next__") hit.typeIs F.slot_tuple_iterator_next
   (wpAny_call_entry F.slot_tuple_iterator_next hit.typeIs F.entry_tuple_iterator_next ?_ (F.args_tuple_iterator_next_1 _)))
 show wpAny _ _ (field (.ref it) 0 >>= _) _ _ s
 refine wpAny_bind (wpAny_field ho hd (x := .ref t) rfl ?_)
 show wpAny _ _ (if (Value.ref t == Value.none) = true then _ else _) _ _ s
 rw [if_neg (show ¬ ((Value.ref t == Value.none) = true) from Bool.false_ne_true)]
 show wpAny _ _ (field (.ref it) 1 >>= _) _ _ s
 refine wpAny_bind (wpAny_field ho hd (x := .int i 0) rfl ?_)
 show wpAny _ _ (seqItems? (.ref t) >>= _) _ _ s
 refine wpAny_bind (wpAny_seqItems hol hdl ?_)
 simp only [Int.toNat_natCast, hx]
 refine wpAny_bind (wpAny_rule (wpAny_bind (wpAny_setField ho hd (by simp) ?_)))
 show wpAny _ _ (newExc (.type "StopIteration") [] >>= _) _ _ _
 refine wpAny_bind ?_
 simp only [newExc, newTuple]
 refine wpAny_bind (wpAny_newObj_type ?_ (by size_fits))
 refine wpAny_bind (m := firstArgMember _ _) (wpAny_of_eq (a := Value.none) (by first | rfl | (simp only [firstArgMember]; rfl)) ?_)
 refine wpAny_newObj_type ?_ (by size_fits)
 simp only [raiseNew]
 refine wpAny_bind (wpAny_handled ?_)
 first | rw [show A.in1.handled = none from hh] | rw [hh]
 refine wpAny_bind (wpAny_pure (wpAny_throw ?_))
 exact hE _ _ (((Heap.SameBut.update ..).extBut.push _).push _) ⟨_, Heap.get?_push_size _ rfl, rfl⟩
theorem zgC {p : Sub} {xs : List Value} {k : Nat} {x : Value} {Q : Value → Shared → Prop} (hi : ItAt s.heap p k) (hs : SrcAt s.heap p xs) (hx : xs[k]? = some x)
   (hQ : ∀ h', ItAt h' p (k + 1) → Heap.SameBut p.it s.heap h' → Q x { s with heap := h' }) : wpAny (model prog w) A (Builtin.SmallTypes.nextOf (.ref p.it)) Q E s := by
 by_cases hp : p.tup = true
 · unfold ItAt SrcAt at *
   rw [if_pos hp] at hi hs
   exact zdE hi hs (by simpa using hx) λh' a b => hQ h' (by rw [if_pos hp]; exact a) b
 · unfold ItAt SrcAt at *
   rw [if_neg hp] at hi hs
   exact wpAny_nextOf_list_item hi hs (by simpa using hx) λh' a b => hQ h' (by rw [if_neg hp]; exact a) b
theorem zkD {p : Sub} {xs : List Value} {k : Nat} {Q : Value → Shared → Prop} (hh : A.handled = none) (hi : ItAt s.heap p k) (hs : SrcAt s.heap p xs) (hx : xs[k]? = none)
   (hE : ∀ h' e, Heap.ExtBut p.it s.heap h' → (∃ o, h'.get? e = some o ∧ o.cls = .type "StopIteration") → E (.ref e) { s with heap := h' }) :
   wpAny (model prog w) A (Builtin.SmallTypes.nextOf (.ref p.it)) Q E s := by
 by_cases hp : p.tup = true
 · unfold ItAt SrcAt at *
   rw [if_pos hp] at hi hs
   exact zdZ hh hi hs (by simpa using hx) hE
 · unfold ItAt SrcAt at *
   rw [if_neg hp] at hi hs
   exact wpAny_nextOf_list_end hh hi hs (by simpa using hx) hE
end
abbrev tupO (xs : List Value) : Obj := { cls := .type "tuple", data := .seq xs.toArray }
structure Apart (z TI TO : Addr) (ps : List Sub) : Prop where
 TIz : TI ≠ z
 TOz : TO ≠ z
 TITO : TI ≠ TO
 iz : ∀ p ∈ ps, p.it ≠ z
 iTI : ∀ p ∈ ps, p.it ≠ TI
 iTO : ∀ p ∈ ps, p.it ≠ TO
 sz : ∀ p ∈ ps, p.src ≠ z
 sTO : ∀ p ∈ ps, p.src ≠ TO
 si : ∀ p ∈ ps, ∀ q ∈ ps, p.src ≠ q.it
 nd : (ps.map (·.it)).Nodup
section
variable {prog : Program} {w : World} {A : Around} {E : Value → Shared → Prop} {s : Shared}
theorem zhz {T : Addr} {ys : List Value} {k : Nat} {x : Value} {Q : Unit → Shared → Prop} (hT : s.heap.get? T = some (tupO ys)) (hz : ys.length ≤ sizeLine)
   (h : ∀ h', h'.get? T = some (tupO (ys.set k x)) → Heap.SameBut T s.heap h' → Q () { s with heap := h' }) :
   wpAny (model prog w) A (updateSeq T (·.setIfInBounds k x)) Q E s := by
 refine wpAny_updateSeq hT rfl (h _ ?_ (Heap.SameBut.update ..)) (by rw [List.size_toArray]; exact hz) (by simp; omega)
 rw [Heap.get?_update_self _ hT rfl]
 simp [Obj.mapSeq, tupO]
theorem zkS {α : Type} (a b : List α) (y x : α) : (a ++ y :: b).set a.length x = a ++ x :: b := by
 rw [List.set_append_right _ _ (Nat.le_refl _)]; simp
theorem ziX {z TI TO : Addr} {ps : List Sub} {xss : List (List Value)} {row ys : List Value} {k : Nat} {Q : Value → Shared → Prop} (D : Apart z TI TO ps) (hne : ps ≠ []) (hps : ps.length ≤ 100)
   (hz : IsZip s.heap z TI TO .none) (hTI : s.heap.get? TI = some (tupO (ps.map λp => Value.ref p.it))) (hTO : s.heap.get? TO = some (tupO ys)) (hy : ys.length = ps.length)
   (hl : xss.length = ps.length) (hr : row.length = ps.length) (hi : ∀ p ∈ ps, ItAt s.heap p k) (hs : ∀ (j : Nat) p xs, ps[j]? = some p → xss[j]? = some xs → SrcAt s.heap p xs)
   (hx : ∀ (j : Nat) xs x, xss[j]? = some xs → row[j]? = some x → xs[k]? = some x)
   (hQ : ∀ h', IsZip h' z TI TO (rawInt s.heap.objs.size) → h'.get? TO = some (tupO row) → (∀ p ∈ ps, ItAt h' p (k + 1)) → h'.get? s.heap.objs.size = some (tupO row) → h'.objs.size = s.heap.objs.size + 1 →
     (∀ c o, c ≠ z → c ≠ TO → (∀ p ∈ ps, c ≠ p.it) → s.heap.get? c = some o → h'.get? c = some o) → Q (.ref s.heap.objs.size) { s with heap := h' }) :
   wpAny (model prog w) A (Builtin.«zip.__next__» ⟨[.ref z], []⟩) (λfin s' => ∃ v, fin = .done (.ret v) ∧ Q v s') E s := by
 have line : (100 : Nat) ≤ sizeLine := by decide
 show wpAny _ _ (field (.ref z) 2 >>= _) _ _ _
 refine wpAny_bind (wpAny_field hz rfl (x := .bool false) rfl ?_)
 show wpAny _ _ (field (.ref z) 3 >>= _) _ _ _
 refine wpAny_bind (wpAny_field hz rfl (x := .ref TI) rfl ?_)
 refine wpAny_bind (wpAny_seqItems hTI rfl ?_)
 have hemp : ((ps.map λp => Value.ref p.it).toArray.isEmpty) = false := by
   cases ps with
   | nil => exact absurd rfl hne
   | cons _ _ => simp
 show wpAny _ _ (if ((ps.map λp => Value.ref p.it).toArray.isEmpty) = true then _ else _) _ _ _
 rw [if_neg (by rw [hemp]; exact Bool.false_ne_true)]
 show wpAny _ _ (Builtin.SmallTypes.ownedTupleIsFree (.ref z) >>= _) _ _ _
 refine wpAny_bind ?_
 unfold Builtin.SmallTypes.ownedTupleIsFree
 refine wpAny_bind (wpAny_field hz rfl (x := .none) rfl (wpAny_pure ?_))
 simp only [if_true]
 refine wpAny_bind (wpAny_rule ?_)
 refine wpAny_bind (wpAny_field hz rfl (x := .ref TO) rfl ?_)
 refine wpAny_bind (wpAny_setField_rec hz (by simp) λh₁ hz₁ hs₁ => ?_)
 replace hz₁ : IsZip h₁ z TI TO .ellipsis := hz₁
 refine wpAny_bind ?_
 refine wpAny_forIn_list _
   (λrest b s' => b.1 = none ∧ ∃ j h, s' = { s with heap := h } ∧ rest = ((ps.drop j).map λp => Value.ref p.it).zipIdx j ∧ j ≤ ps.length ∧ IsZip h z TI TO .ellipsis ∧ h.get? TO = some (tupO (row.take j ++ ys.drop j)) ∧ h.objs.size = s.heap.objs.size ∧
     (∀ (i : Nat) p, ps[i]? = some p → ItAt h p (if i < j then k + 1 else k)) ∧ ∀ c o, c ≠ z → c ≠ TO → (∀ p ∈ ps, c ≠ p.it) → s.heap.get? c = some o → h.get? c = some o) _ ?_ ?_ _ _ ?_
 · rintro ⟨v, kk⟩ rest b s' ⟨hb, j, h, rfl, hrest, hj, z1, t1, sz1, i1, k1⟩
   have hjl : j < ps.length := by
     refine Nat.lt_of_le_of_ne hj λe => ?_
     rw [e] at hrest; simp at hrest
   obtain ⟨p, hp⟩ : ∃ p, ps[j]? = some p := ⟨ps[j], by simp [hjl]⟩
   have hpm : p ∈ ps := List.mem_of_getElem? hp
   have hdrop : ps.drop j = p :: ps.drop (j + 1) := by
     obtain ⟨h1, h2⟩ := List.getElem?_eq_some_iff.mp hp
     rw [← h2]; exact List.drop_eq_getElem_cons h1
   rw [hdrop, List.map_cons, List.zipIdx_cons] at hrest
   injection hrest with e1 e2
   obtain ⟨e3, e4⟩ := Prod.mk.inj e1
   subst e3
   replace e4 := e4.symm
   subst e4
   obtain ⟨xs, hxs⟩ : ∃ xs, xss[j]? = some xs := ⟨xss[j]'(by omega), by simp⟩
   obtain ⟨x, hxr⟩ : ∃ x, row[j]? = some x := ⟨row[j]'(by omega), by simp⟩
   obtain ⟨y, hyr⟩ : ∃ y, ys[j]? = some y := ⟨ys[j]'(by omega), by simp⟩
   have hit : ItAt h p k := by have := i1 j p hp; rw [if_neg (Nat.lt_irrefl _)] at this; exact this
   have hsrc : SrcAt h p xs := (hs j p xs hp hxs).at λo e => k1 _ o (D.sz p hpm) (D.sTO p hpm) (λq hq => D.si p hpm q hq) e
   have hcur : row.take j ++ ys.drop j = row.take j ++ y :: ys.drop (j + 1) := by
     obtain ⟨h1, h2⟩ := List.getElem?_eq_some_iff.mp hyr
     rw [List.drop_eq_getElem_cons h1, h2]
   have hlj : (row.take j).length = j := by rw [List.length_take]; omega
   obtain ⟨b1, b2⟩ := b
   have hb' : b1 = none := hb
   subst hb'
   refine wpAny_bind (wpAny_onRaise ?_)
   show wpAny _ _ (Builtin.SmallTypes.nextOf (.ref p.it) >>= _) _ _ _
   refine wpAny_bind (zgC hit hsrc (hx j xs x hxs hxr) λh₂ it₂ sb₂ => wpAny_pure ?_)
   have t2 : h₂.get? TO = some (tupO (row.take j ++ ys.drop j)) := sb₂.extBut _ _ (D.iTO p hpm).symm t1
   refine wpAny_bind (wpAny_seqItems t2 rfl ?_)
   refine wpAny_bind (zhz (s := { s with heap := h₂ }) (k := j) t2 (by rw [List.length_append, List.length_take, List.length_drop]; omega) λh₃ t3 sb₃ => ?_)
   refine wpAny_bind (wpAny_letGo (wpAny_pure ?_))
   refine ⟨rfl, j + 1, h₃, rfl, e2, hjl, ?_, ?_, ?_, λi q hq => ?_, λc o c1 c2 c3 e => ?_⟩
   · exact sb₃.extBut _ _ D.TOz.symm (sb₂.extBut _ _ (D.iz p hpm).symm z1)
   · rw [t3, hcur]
     have : (row.take j ++ y :: ys.drop (j + 1)).set j x = row.take (j + 1) ++ ys.drop (j + 1) := by
       have e : row.take (j + 1) = row.take j ++ [x] := by
         obtain ⟨h1, h2⟩ := List.getElem?_eq_some_iff.mp hxr
         rw [← h2]; simp
       have := zkS (row.take j) (ys.drop (j + 1)) y x
       rw [hlj] at this
       rw [this, e, List.append_assoc]; rfl
     rw [this]
   · rw [sb₃.1, sb₂.1, sz1]
   · have hqm : q ∈ ps := List.mem_of_getElem? hq
     have k3 : ∀ o, h₂.get? q.it = some o → h₃.get? q.it = some o := λo e => sb₃.extBut _ _ (D.iTO q hqm) e
     by_cases hij : i = j
     · subst hij
       rw [hp] at hq; cases hq
       rw [if_pos (Nat.lt_succ_self _)]
       exact it₂.at k3
     · have hne' : q.it ≠ p.it := λz => hij (by
         obtain ⟨a1, a2⟩ := List.getElem?_eq_some_iff.mp hq
         obtain ⟨b1, b2⟩ := List.getElem?_eq_some_iff.mp hp
         refine (List.getElem_inj (xs := ps.map (·.it)) (i := i) (j := j) (h₀ := by simpa using a1) (h₁ := by simpa using b1) D.nd).mp ?_
         simp [a2, b2, z])
       have := i1 i q hq
       have e : (if i < j + 1 then k + 1 else k) = (if i < j then k + 1 else k) := by
         by_cases h1 : i < j
         · rw [if_pos h1, if_pos (by omega)]
         · rw [if_neg h1, if_neg (by omega)]
       rw [e]
       exact (this.at λo e => sb₂.extBut _ _ hne' e).at k3
   · exact sb₃.extBut _ _ c2 (sb₂.extBut _ _ (c3 p hpm) (k1 c o c1 c2 c3 e))
 · rintro ⟨b1, b2⟩ s' ⟨hb, j, h, rfl, hrest, hj, z1, t1, sz1, i1, k1⟩
   have hb' : b1 = none := hb
   subst hb'
   have hjl : j = ps.length := by
     refine Nat.le_antisymm hj (Nat.le_of_not_lt λhlt => ?_)
     have hd : ps.drop j ≠ [] := by
       intro e
       have := congrArg List.length e
       rw [List.length_drop] at this; simp at this; omega
     cases q : ps.drop j with
     | nil => exact hd q
     | cons a r => rw [q] at hrest; simp at hrest
   subst hjl
   have t1' : h.get? TO = some (tupO row) := by
     rw [t1, List.take_of_length_le (by omega), List.drop_of_length_le (by omega), List.append_nil]
   show wpAny _ _ (seqItems? (.ref TO) >>= _) _ _ _
   refine wpAny_bind (wpAny_seqItems t1' rfl ?_)
   refine wpAny_bind (wpAny_newTuple ?_ (by simp; omega))
   have hzlt : z < h.objs.size := Heap.lt_size z1
   show wpAny _ _ (Builtin.SmallTypes.ownedTupleHandOut (.ref z) (.ref h.objs.size) >>= _) _ _ _
   refine wpAny_bind ?_
   unfold Builtin.SmallTypes.ownedTupleHandOut
   have hz₆ : IsZip (h.push { cls := .type "tuple", data := .seq row.toArray.toList.toArray }) z TI TO .ellipsis := Heap.get?_push_of_some _ z1
   refine wpAny_bind (wpAny_setField_rec hz₆ (by simp) λh₇ hz₇ hs₇ => ?_)
   replace hz₇ : IsZip h₇ z TI TO (rawInt h.objs.size) := hz₇
   refine wpAny_setField_rec hz₇ (by simp) λh₈ hz₈ hs₈ => ?_
   replace hz₈ : IsZip h₈ z TI TO (rawInt h.objs.size) := hz₈
   have up : ∀ c o, c ≠ z → h.get? c = some o → h₈.get? c = some o := λc o c1 e => hs₈.extBut _ _ c1 (hs₇.extBut _ _ c1 (Heap.get?_push_of_some _ e))
   have hT₈ : h₈.get? h.objs.size = some (tupO row) := hs₈.extBut _ _ (Nat.ne_of_gt hzlt) (hs₇.extBut _ _ (Nat.ne_of_gt hzlt) (by simpa [tupO] using Heap.get?_push_size h (o := tupO row) rfl))
   have hz8 : h₈.objs.size = h.objs.size + 1 := by rw [hs₈.1, hs₇.1, Heap.size_push]
   rw [sz1] at hz₈ hT₈ hz8
   refine wpAny_pure ⟨_, rfl, ?_⟩
   show Q (.ref h.objs.size) _
   rw [sz1]
   refine hQ h₈ hz₈ (up _ _ D.TOz t1') (λp hp => ?_) hT₈ hz8 λc o c1 c2 c3 e => up c o c1 (k1 c o c1 c2 c3 e)
   obtain ⟨i, hil, e⟩ := List.mem_iff_getElem.mp hp
   have := i1 i p (by rw [List.getElem?_eq_some_iff]; exact ⟨hil, e⟩)
   rw [if_pos hil] at this
   exact this.at λo e => up _ o (D.iz p hp) e
 · refine ⟨rfl, 0, h₁, rfl, rfl, Nat.zero_le _, hz₁, by simpa using hs₁.extBut _ _ D.TOz hTO, hs₁.1, λi p hp => ?_, λc o c1 c2 c3 e => hs₁.extBut _ _ c1 e⟩
   have hpm := List.mem_of_getElem? hp
   rw [if_neg (Nat.not_lt_zero _)]
   exact (hi p hpm).at λo e => hs₁.extBut _ _ (D.iz p hpm) e
theorem zkv {z TI TO : Addr} {ps : List Sub} {xss : List (List Value)} {ys : List Value} {k j₀ : Nat} {Q : Fin → Shared → Prop} (hh : A.handled = none) (D : Apart z TI TO ps) (hne : ps ≠ []) (hps : ps.length ≤ 100)
   (hz : IsZip s.heap z TI TO .none) (hTI : s.heap.get? TI = some (tupO (ps.map λp => Value.ref p.it))) (hTO : s.heap.get? TO = some (tupO ys)) (hy : ys.length = ps.length)
   (hl : xss.length = ps.length) (hi : ∀ p ∈ ps, ItAt s.heap p k) (hs : ∀ (j : Nat) p xs, ps[j]? = some p → xss[j]? = some xs → SrcAt s.heap p xs)
   (hj₀ : j₀ < ps.length) (hbef : ∀ (j : Nat) xs, j < j₀ → xss[j]? = some xs → ∃ x, xs[k]? = some x) (hend : ∀ xs, xss[j₀]? = some xs → xs[k]? = none)
   (hE : ∀ h' e, (∀ c o, c ≠ z → c ≠ TO → (∀ p ∈ ps, c ≠ p.it) → s.heap.get? c = some o → h'.get? c = some o) → (∃ o, h'.get? e = some o ∧ o.cls = .type "StopIteration") → E (.ref e) { s with heap := h' }) :
   wpAny (model prog w) A (Builtin.«zip.__next__» ⟨[.ref z], []⟩) Q E s := by
 have line : (100 : Nat) ≤ sizeLine := by decide
 show wpAny _ _ (field (.ref z) 2 >>= _) _ _ _
 refine wpAny_bind (wpAny_field hz rfl (x := .bool false) rfl ?_)
 show wpAny _ _ (field (.ref z) 3 >>= _) _ _ _
 refine wpAny_bind (wpAny_field hz rfl (x := .ref TI) rfl ?_)
 refine wpAny_bind (wpAny_seqItems hTI rfl ?_)
 have hemp : ((ps.map λp => Value.ref p.it).toArray.isEmpty) = false := by
   cases ps with
   | nil => exact absurd rfl hne
   | cons _ _ => simp
 show wpAny _ _ (if ((ps.map λp => Value.ref p.it).toArray.isEmpty) = true then _ else _) _ _ _
 rw [if_neg (by rw [hemp]; exact Bool.false_ne_true)]
 show wpAny _ _ (Builtin.SmallTypes.ownedTupleIsFree (.ref z) >>= _) _ _ _
 refine wpAny_bind ?_
 unfold Builtin.SmallTypes.ownedTupleIsFree
 refine wpAny_bind (wpAny_field hz rfl (x := .none) rfl (wpAny_pure ?_))
 simp only [if_true]
 refine wpAny_bind (wpAny_rule ?_)
 refine wpAny_bind (wpAny_field hz rfl (x := .ref TO) rfl ?_)
 refine wpAny_bind (wpAny_setField_rec hz (by simp) λh₁ hz₁ hs₁ => ?_)
 replace hz₁ : IsZip h₁ z TI TO .ellipsis := hz₁
 refine wpAny_bind ?_
 refine wpAny_forIn_list _
   (λrest b s' => b.1 = none ∧ ∃ j h cur, s' = { s with heap := h } ∧ rest = ((ps.drop j).map λp => Value.ref p.it).zipIdx j ∧ j ≤ j₀ ∧ IsZip h z TI TO .ellipsis ∧ h.get? TO = some (tupO cur) ∧ cur.length = ps.length ∧
     (∀ (i : Nat) p, ps[i]? = some p → j ≤ i → ItAt h p k) ∧ ∀ c o, c ≠ z → c ≠ TO → (∀ p ∈ ps, c ≠ p.it) → s.heap.get? c = some o → h.get? c = some o) _ ?_ ?_ _ _ ?_
 · rintro ⟨v, kk⟩ rest b s' ⟨hb, j, h, cur, rfl, hrest, hj, z1, t1, c1', i1, k1⟩
   have hjl : j < ps.length := Nat.lt_of_le_of_lt hj hj₀
   obtain ⟨p, hp⟩ : ∃ p, ps[j]? = some p := ⟨ps[j], by simp [hjl]⟩
   have hpm : p ∈ ps := List.mem_of_getElem? hp
   have hdrop : ps.drop j = p :: ps.drop (j + 1) := by
     obtain ⟨h1, h2⟩ := List.getElem?_eq_some_iff.mp hp
     rw [← h2]; exact List.drop_eq_getElem_cons h1
   rw [hdrop, List.map_cons, List.zipIdx_cons] at hrest
   injection hrest with e1 e2
   obtain ⟨e3, e4⟩ := Prod.mk.inj e1
   subst e3
   replace e4 := e4.symm
   subst e4
   obtain ⟨xs, hxs⟩ : ∃ xs, xss[j]? = some xs := ⟨xss[j]'(by omega), by simp⟩
   have hit : ItAt h p k := i1 j p hp (Nat.le_refl _)
   have hsrc : SrcAt h p xs := (hs j p xs hp hxs).at λo e => k1 _ o (D.sz p hpm) (D.sTO p hpm) (λq hq => D.si p hpm q hq) e
   obtain ⟨b1, b2⟩ := b
   have hb' : b1 = none := hb
   subst hb'
   by_cases hj0 : j = j₀
   · subst hj0
     refine wpAny_bind (wpAny_onRaise ?_)
     show wpAny _ _ (Builtin.SmallTypes.nextOf (.ref p.it) >>= _) _ _ _
     refine wpAny_bind (zkD hh hit hsrc (hend xs hxs) λh₂ e sb₂ he => ?_)
     obtain ⟨oe, hoe, hce⟩ := he
     have hz₂ : IsZip h₂ z TI TO .ellipsis := sb₂ _ _ (D.iz p hpm).symm z1
     have hez : e ≠ z := λx => by subst x; rw [hz₂] at hoe; cases hoe; simp at hce
     exact wpAny_setField_rec hz₂ (by simp) λh₃ _ hs₃ => hE h₃ e (λc o c1 c2 c3 x => hs₃.extBut _ _ c1 (sb₂ _ _ (c3 p hpm) (k1 c o c1 c2 c3 x))) ⟨oe, hs₃.extBut _ _ hez hoe, hce⟩
   · obtain ⟨x, hx⟩ := hbef j xs (by omega) hxs
     refine wpAny_bind (wpAny_onRaise ?_)
     show wpAny _ _ (Builtin.SmallTypes.nextOf (.ref p.it) >>= _) _ _ _
     refine wpAny_bind (zgC hit hsrc hx λh₂ it₂ sb₂ => wpAny_pure ?_)
     have t2 : h₂.get? TO = some (tupO cur) := sb₂.extBut _ _ (D.iTO p hpm).symm t1
     refine wpAny_bind (wpAny_seqItems t2 rfl ?_)
     refine wpAny_bind (zhz (s := { s with heap := h₂ }) (k := j) t2 (by omega) λh₃ t3 sb₃ => ?_)
     refine wpAny_bind (wpAny_letGo (wpAny_pure ?_))
     refine ⟨rfl, j + 1, h₃, _, rfl, e2, by omega, ?_, t3, by simpa using c1', λi q hq hiq => ?_, λc o c1 c2 c3 e => ?_⟩
     · exact sb₃.extBut _ _ D.TOz.symm (sb₂.extBut _ _ (D.iz p hpm).symm z1)
     · have hqm : q ∈ ps := List.mem_of_getElem? hq
       have hne' : q.it ≠ p.it := λz => (show i ≠ j by omega) (by
         obtain ⟨a1, a2⟩ := List.getElem?_eq_some_iff.mp hq
         obtain ⟨b1, b2⟩ := List.getElem?_eq_some_iff.mp hp
         refine (List.getElem_inj (xs := ps.map (·.it)) (i := i) (j := j) (h₀ := by simpa using a1) (h₁ := by simpa using b1) D.nd).mp ?_
         simp [a2, b2, z])
       exact ((i1 i q hq (by omega)).at λo e => sb₂.extBut _ _ hne' e).at λo e => sb₃.extBut _ _ (D.iTO q hqm) e
     · exact sb₃.extBut _ _ c2 (sb₂.extBut _ _ (c3 p hpm) (k1 c o c1 c2 c3 e))
 · rintro b s' ⟨hb, j, h, cur, rfl, hrest, hj, _⟩
   exfalso
   have hd : ps.drop j ≠ [] := by
     intro e
     have := congrArg List.length e
     rw [List.length_drop] at this; simp at this; omega
   cases q : ps.drop j with
   | nil => exact hd q
   | cons a r => rw [q] at hrest; simp at hrest
 · refine ⟨rfl, 0, h₁, ys, rfl, rfl, Nat.zero_le _, hz₁, hs₁.extBut _ _ D.TOz hTO, hy, λi p hp _ => ?_, λc o c1 c2 c3 e => hs₁.extBut _ _ c1 e⟩
   have hpm := List.mem_of_getElem? hp
   exact (hi p hpm).at λo e => hs₁.extBut _ _ (D.iz p hpm) e
theorem zh2 {z TI TO : Addr} {ps : List Sub} {xss : List (List Value)} {row ys : List Value} {k : Nat} {Q : Option Value → Shared → Prop} (D : Apart z TI TO ps) (hne : ps ≠ []) (hps : ps.length ≤ 100)
   (hz : IsZip s.heap z TI TO .none) (hTI : s.heap.get? TI = some (tupO (ps.map λp => Value.ref p.it))) (hTO : s.heap.get? TO = some (tupO ys)) (hy : ys.length = ps.length)
   (hl : xss.length = ps.length) (hr : row.length = ps.length) (hi : ∀ p ∈ ps, ItAt s.heap p k) (hs : ∀ (j : Nat) p xs, ps[j]? = some p → xss[j]? = some xs → SrcAt s.heap p xs)
   (hx : ∀ (j : Nat) xs x, xss[j]? = some xs → row[j]? = some x → xs[k]? = some x)
   (hQ : ∀ h', IsZip h' z TI TO (rawInt s.heap.objs.size) → h'.get? TO = some (tupO row) → (∀ p ∈ ps, ItAt h' p (k + 1)) → h'.get? s.heap.objs.size = some (tupO row) → h'.objs.size = s.heap.objs.size + 1 →
     (∀ c o, c ≠ z → c ≠ TO → (∀ p ∈ ps, c ≠ p.it) → s.heap.get? c = some o → h'.get? c = some o) → Q (some (.ref s.heap.objs.size)) { s with heap := h' }) :
   wpAny (model prog w) A (pyNext (.ref z)) Q E s := by
 have hT : s.TypeIs (.ref z) "zip" := ⟨_, hz, rfl⟩
 unfold pyNext
 exact wpAny_bind (wpAny_attempt (wpAny_callSpecial?_slot (name := Str.ofString "__next__") hT F.slot_zip_next
   (wpAny_call_entry F.slot_zip_next hT F.entry_zip_next
     (ziX D hne hps hz hTI hTO hy hl hr hi hs hx λh' a1 a2 a3 a4 a5 a6 => wpAny_pure (hQ h' a1 a2 a3 a4 a5 a6)) (F.args_zip_next_1 _))))
theorem zjB {z TI TO : Addr} {ps : List Sub} {xss : List (List Value)} {ys : List Value} {k j₀ : Nat} {Q : Option Value → Shared → Prop} (hh : A.handled = none) (D : Apart z TI TO ps) (hne : ps ≠ []) (hps : ps.length ≤ 100)
   (hz : IsZip s.heap z TI TO .none) (hTI : s.heap.get? TI = some (tupO (ps.map λp => Value.ref p.it))) (hTO : s.heap.get? TO = some (tupO ys)) (hy : ys.length = ps.length)
   (hl : xss.length = ps.length) (hi : ∀ p ∈ ps, ItAt s.heap p k) (hs : ∀ (j : Nat) p xs, ps[j]? = some p → xss[j]? = some xs → SrcAt s.heap p xs)
   (hj₀ : j₀ < ps.length) (hbef : ∀ (j : Nat) xs, j < j₀ → xss[j]? = some xs → ∃ x, xs[k]? = some x) (hend : ∀ xs, xss[j₀]? = some xs → xs[k]? = none)
   (hQ : ∀ h', (∀ c o, c ≠ z → c ≠ TO → (∀ p ∈ ps, c ≠ p.it) → s.heap.get? c = some o → h'.get? c = some o) → Q none { s with heap := h' }) :
   wpAny (model prog w) A (pyNext (.ref z)) Q E s := by
 have hT : s.TypeIs (.ref z) "zip" := ⟨_, hz, rfl⟩
 unfold pyNext
 refine wpAny_bind (wpAny_attempt (wpAny_callSpecial?_slot (name := Str.ofString "__next__") hT F.slot_zip_next
   (wpAny_call_entry F.slot_zip_next hT F.entry_zip_next (zkv hh D hne hps hz hTI hTO hy hl hi hs hj₀ hbef hend λh' e hk he => ?_) (F.args_zip_next_1 _))))
 obtain ⟨o, ho, hc⟩ := he
 refine wpAny_bind (wpAny_isInstance (T := "StopIteration") (b := true) ⟨o, ho, hc⟩ isSubtype_stop ?_)
 exact wpAny_pure (hQ _ hk)
def subsFrom (n : Nat) : List (Addr × Bool) → List Sub
 | [] => []
 | (a, t) :: r => ⟨n, a, t⟩ :: subsFrom (n + 1) r
def SrcOk (h : Heap) (p : Addr × Bool) : Prop := if p.2 = true then ∃ xs, h.IsTuple p.1 xs else ∃ xs, h.IsList p.1 xs
theorem SrcOk.keeps {h h' : Heap} {p : Addr × Bool} (x : SrcOk h p) (f : ∀ b o, h.get? b = some o → h'.get? b = some o) : SrcOk h' p := by
 unfold SrcOk at x ⊢
 split
 · rename_i hp; rw [if_pos hp] at x; obtain ⟨xs, o, e, r⟩ := x; exact ⟨xs, o, f _ o e, r⟩
 · rename_i hp; rw [if_neg hp] at x; obtain ⟨xs, o, e, r⟩ := x; exact ⟨xs, o, f _ o e, r⟩
theorem zjF {p : Addr × Bool} {Q : Value → Shared → Prop} (hp : SrcOk s.heap p) (h : ∀ h', (∀ b o, s.heap.get? b = some o → h'.get? b = some o) → h'.objs.size = s.heap.objs.size + 1 → ItAt h' ⟨s.heap.objs.size, p.1, p.2⟩ 0 → Q (.ref s.heap.objs.size) { s with heap := h' }) :
   wpAny (model prog w) A (pyIter (.ref p.1)) Q E s := by
 unfold SrcOk at hp
 by_cases ht : p.2 = true
 · rw [if_pos ht] at hp
   obtain ⟨xs, hx⟩ := hp
   refine wpAny_pyIter_tuple hx (h _ (λb o e => Heap.get?_push_of_some _ e) (Heap.size_push ..) ?_)
   unfold ItAt; rw [if_pos ht]
   exact ⟨_, Heap.get?_push_size _ rfl, rfl, rfl⟩
 · rw [if_neg ht] at hp
   obtain ⟨xs, hx⟩ := hp
   refine wpAny_pyIter_list hx (h _ (λb o e => Heap.get?_push_of_some _ e) (Heap.size_push ..) ?_)
   unfold ItAt; rw [if_neg ht]
   exact ⟨_, Heap.get?_push_size _ rfl, rfl, rfl⟩
theorem zfd : ∀ (n : Nat) (l : List (Addr × Bool)) (p : Sub), p ∈ subsFrom n l → n ≤ p.it ∧ p.it < n + l.length ∧ (p.src, p.tup) ∈ l
 | _, [], p, h => by cases h
 | n, (a, t) :: r, p, h => by
   rcases List.mem_cons.mp h with rfl | h
   · exact ⟨Nat.le_refl _, by simp, List.mem_cons_self⟩
   · obtain ⟨h1, h2, h3⟩ := zfd (n + 1) r p h
     exact ⟨Nat.le_of_succ_le h1, Nat.lt_of_lt_of_le h2 (by rw [List.length_cons]; omega), List.mem_cons_of_mem _ h3⟩
theorem zfc : ∀ (n : Nat) (l : List (Addr × Bool)), (subsFrom n l).length = l.length
 | _, [] => rfl
 | n, _ :: r => by simp [subsFrom, zfc (n + 1) r]
theorem zhC : ∀ (n : Nat) (l : List (Addr × Bool)), ((subsFrom n l).map (·.it)).Nodup
 | _, [] => List.nodup_nil
 | n, (a, t) :: r => by
   rw [subsFrom, List.map_cons, List.nodup_cons]
   refine ⟨λhm => ?_, zhC (n + 1) r⟩
   obtain ⟨p, hp, e⟩ := List.mem_map.mp hm
   have := (zfd (n + 1) r p hp).1
   have e' : p.it = n := e
   rw [e'] at this
   exact absurd this (Nat.not_succ_le_self n)
theorem zd8 : ∀ (n : Nat) (l : List (Addr × Bool)) (p : Addr × Bool), subsFrom n (l ++ [p]) = subsFrom n l ++ [⟨n + l.length, p.1, p.2⟩]
 | n, [], (a, t) => rfl
 | n, (b, u) :: r, p => by
   rw [List.cons_append, subsFrom, subsFrom, zd8 (n + 1) r p, List.cons_append]
   have : n + 1 + r.length = n + (r.length + 1) := by omega
   simp [this]
theorem zhp {l : List (Addr × Bool)} {Q : List Value → Shared → Prop} (hl : ∀ p ∈ l, SrcOk s.heap p)
   (h : ∀ h', (∀ b o, s.heap.get? b = some o → h'.get? b = some o) → h'.objs.size = s.heap.objs.size + l.length → (∀ p ∈ subsFrom s.heap.objs.size l, ItAt h' p 0) → Q ((subsFrom s.heap.objs.size l).map λp => Value.ref p.it) { s with heap := h' }) :
   wpAny (model prog w) A (Builtin.SmallTypes.iterAll (l.map λp => Value.ref p.1)) Q E s := by
 unfold Builtin.SmallTypes.iterAll
 refine wpAny_bind ?_
 refine wpAny_forIn_list _ (λrest its s' => ∃ d r h', l = d ++ r ∧ rest = r.map (λp => Value.ref p.1) ∧ its = ((subsFrom s.heap.objs.size d).map λp => Value.ref p.it).toArray ∧ s' = { s with heap := h' } ∧
   (∀ b o, s.heap.get? b = some o → h'.get? b = some o) ∧ h'.objs.size = s.heap.objs.size + d.length ∧ ∀ p ∈ subsFrom s.heap.objs.size d, ItAt h' p 0) _ ?_ ?_ _ _ ?_
 · rintro x rest its s' ⟨d, r, h', rfl, hr, rfl, rfl, k1, z1, i1⟩
   cases r with
   | nil => cases hr
   | cons p r =>
     rw [List.map_cons] at hr
     injection hr with e1 e2
     subst e1
     refine wpAny_bind (wpAny_holding (zjF (s := { s with heap := h' }) ((hl p (by simp)).keeps k1) λh2 k2 z2 i2 => wpAny_pure ?_))
     refine ⟨d ++ [p], r, h2, by simp, e2, ?_, rfl, λb o e => k2 b o (k1 b o e), by rw [z2]; simp; show h'.objs.size + 1 = _; omega, λq hq => ?_⟩
     · rw [zd8, List.map_append]
       simp [z1]
     · rw [zd8] at hq
       rcases List.mem_append.mp hq with hq | hq
       · exact (i1 q hq).at λo e => k2 _ o e
       · have e : q = ⟨s.heap.objs.size + d.length, p.1, p.2⟩ := by simpa using hq
         subst e
         have : ({ s with heap := h' } : Shared).heap.objs.size = s.heap.objs.size + d.length := z1
         rw [← this]; exact i2
 · rintro its s' ⟨d, r, h', rfl, hr, rfl, rfl, k1, z1, i1⟩
   cases r with
   | cons p r => cases hr
   | nil =>
     rw [List.append_nil] at *
     exact wpAny_pure (by simpa using h h' k1 z1 i1)
 · exact ⟨[], l, s.heap, rfl, rfl, rfl, rfl, λ_ _ e => e, rfl, λp hp => by cases hp⟩
theorem zh9 {l : List (Addr × Bool)} (hl : l.length ≤ 100) :
   Meets (Builtin.«zip.__new__» ⟨.type "zip" :: l.map (λp => Value.ref p.1), []⟩) (λ_ R s => (∀ p ∈ l, SrcOk s.heap p) ∧
     ∀ h', IsZip h' (s.heap.objs.size + l.length + 2) (s.heap.objs.size + l.length) (s.heap.objs.size + l.length + 1) .none → h'.get? (s.heap.objs.size + l.length) = some (tupO ((subsFrom s.heap.objs.size l).map λp => Value.ref p.it)) →
       h'.get? (s.heap.objs.size + l.length + 1) = some (tupO ((subsFrom s.heap.objs.size l).map λ_ => Value.none)) → (∀ p ∈ subsFrom s.heap.objs.size l, ItAt h' p 0) → h'.objs.size = s.heap.objs.size + l.length + 3 →
       (∀ b o, s.heap.get? b = some o → h'.get? b = some o) → R (.ok (.ret (.ref (s.heap.objs.size + l.length + 2)))) { s with heap := h' }) :=
 .of_wp λprog w A R s h => by
   obtain ⟨hl1, h⟩ := h
   have line : (100 : Nat) ≤ sizeLine := by decide
   have hsl := zfc s.heap.objs.size l
   unfold Builtin.«zip.__new__»
   refine wpAny_bind ?_
   unfold Builtin.SmallTypes.newClass
   show wpAny _ _ (isType (.type "zip") >>= _) _ _ _
   refine wpAny_bind (wpAny_of_eq (a := true) rfl ?_)
   show wpAny _ _ (isSubtype (.type "zip") (.type "zip") >>= _) _ _ _
   refine wpAny_bind (wpAny_of_eq (a := true) sub_zip ?_)
   refine wpAny_pure ?_
   show wpAny _ _ (Builtin.SmallTypes.iterAll (l.map λp => Value.ref p.1) >>= _) _ _ _
   refine wpAny_bind (zhp hl1 λh1 k1 z1 i1 => ?_)
   show wpAny _ _ (newTuple ((subsFrom s.heap.objs.size l).map λp => Value.ref p.it) >>= _) _ _ _
   refine wpAny_bind (wpAny_newTuple ?_ (by rw [List.length_map]; omega))
   refine wpAny_bind (wpAny_newTuple ?_ (by simp only [List.length_map]; omega))
   refine wpAny_bind ?_
   unfold Builtin.SmallTypes.newRecord
   refine wpAny_newObj_type ?_ (by first | trivial | (show (_ : Nat) ≤ _; simp; decide) | size_fits)
   refine wpAny_pure ⟨_, rfl, ?_⟩
   have z2 : (h1.push (tupO ((subsFrom s.heap.objs.size l).map λp => Value.ref p.it))).objs.size = s.heap.objs.size + l.length + 1 := by rw [Heap.size_push, z1]
   have z3 : ((h1.push (tupO ((subsFrom s.heap.objs.size l).map λp => Value.ref p.it))).push (tupO (((subsFrom s.heap.objs.size l).map λp => Value.ref p.it).map λ_ => Value.none))).objs.size = s.heap.objs.size + l.length + 2 := by rw [Heap.size_push, z2]
   have g1 : ∀ o, ((h1.push (tupO ((subsFrom s.heap.objs.size l).map λp => Value.ref p.it))).push (tupO (((subsFrom s.heap.objs.size l).map λp => Value.ref p.it).map λ_ => Value.none)) |>.push o).get? (s.heap.objs.size + l.length) = some (tupO ((subsFrom s.heap.objs.size l).map λp => Value.ref p.it)) := λo => by
     rw [← z1]; exact Heap.get?_push_of_some _ (Heap.get?_push_of_some _ (Heap.get?_push_size _ rfl))
   have g2 : ∀ o, ((h1.push (tupO ((subsFrom s.heap.objs.size l).map λp => Value.ref p.it))).push (tupO (((subsFrom s.heap.objs.size l).map λp => Value.ref p.it).map λ_ => Value.none)) |>.push o).get? (s.heap.objs.size + l.length + 1) = some (tupO ((subsFrom s.heap.objs.size l).map λ_ => Value.none)) := λo => by
     rw [← z2]
     have := Heap.get?_push_of_some o (Heap.get?_push_size (h1.push (tupO ((subsFrom s.heap.objs.size l).map λp => Value.ref p.it))) (o := tupO (((subsFrom s.heap.objs.size l).map λp => Value.ref p.it).map λ_ => Value.none)) rfl)
     rw [List.map_map] at this ⊢
     exact this
   have g3 : ((h1.push (tupO ((subsFrom s.heap.objs.size l).map λp => Value.ref p.it))).push (tupO (((subsFrom s.heap.objs.size l).map λp => Value.ref p.it).map λ_ => Value.none)) |>.push { cls := .type "zip", dict := none, data := .fields #[.none, .bool false, .bool false, .ref (s.heap.objs.size + l.length), .ref (s.heap.objs.size + l.length + 1)], slots := #[] }).get? (s.heap.objs.size + l.length + 2) = some { cls := .type "zip", dict := none, data := .fields #[.none, .bool false, .bool false, .ref (s.heap.objs.size + l.length), .ref (s.heap.objs.size + l.length + 1)], slots := #[] } := by
     rw [← z3]; exact Heap.get?_push_size _ rfl
   have fin := h _ g3 (g1 _) (g2 _) (λp hp => (i1 p hp).at λo e => Heap.get?_push_of_some _ (Heap.get?_push_of_some _ (Heap.get?_push_of_some _ e))) (by rw [Heap.size_push, z3]) λb o e => Heap.get?_push_of_some _ (Heap.get?_push_of_some _ (Heap.get?_push_of_some _ (k1 b o e)))
   show R (.ok (.ret (.ref ((h1.push (tupO ((subsFrom s.heap.objs.size l).map λp => Value.ref p.it))).push (tupO (((subsFrom s.heap.objs.size l).map λp => Value.ref p.it).map λ_ => Value.none))).objs.size))) { s with heap := ((h1.push (tupO ((subsFrom s.heap.objs.size l).map λp => Value.ref p.it))).push (tupO (((subsFrom s.heap.objs.size l).map λp => Value.ref p.it).map λ_ => Value.none))).push { cls := .type "zip", dict := none, data := .fields #[.none, .bool false, .bool false, .ref h1.objs.size, .ref (h1.push (tupO ((subsFrom s.heap.objs.size l).map λp => Value.ref p.it))).objs.size], slots := #[] } }
   rw [z3, z2, z1]
   exact fin
end
end MZ
end
section
set_option autoImplicit false
namespace MZ
open PySem PySem.Spec PyProof.Rows L2
def rowAt {α : Type} : List (List α) → Nat → Option (List α)
 | [], _ => some []
 | xs :: r, i => (xs[i]?).bind λx => (rowAt r i).map (x :: ·)
theorem zfD {α : Type} : ∀ {xss : List (List α)} {i : Nat} {row : List α}, rowAt xss i = some row → row.length = xss.length
 | [], _, _, h => by cases h; rfl
 | xs :: r, i, row, h => by
   simp only [rowAt, Option.bind_eq_some_iff, Option.map_eq_some_iff] at h
   obtain ⟨x, _, r', e, rfl⟩ := h
   simp [zfD e]
theorem zfE {α : Type} : ∀ {xss : List (List α)} {i j : Nat} {row : List α} {xs : List α} {x : α}, rowAt xss i = some row → xss[j]? = some xs → row[j]? = some x → xs[i]? = some x
 | [], _, _, _, _, _, _, h, _ => by simp at h
 | ys :: r, i, 0, row, xs, x, h, h1, h2 => by
   simp only [rowAt, Option.bind_eq_some_iff, Option.map_eq_some_iff] at h
   obtain ⟨y, e1, r', e, rfl⟩ := h
   simp at h1 h2; subst h1; subst h2; exact e1
 | ys :: r, i, j + 1, row, xs, x, h, h1, h2 => by
   simp only [rowAt, Option.bind_eq_some_iff, Option.map_eq_some_iff] at h
   obtain ⟨y, e1, r', e, rfl⟩ := h
   exact zfE e (by simpa using h1) (by simpa using h2)
theorem zeW {α : Type} : ∀ {xss : List (List α)} {i : Nat}, rowAt xss i = none → ∃ j, j < xss.length ∧ (∀ (k : Nat) xs, k < j → xss[k]? = some xs → ∃ x, xs[i]? = some x) ∧ ∀ xs, xss[j]? = some xs → xs[i]? = none
 | [], _, h => by cases h
 | ys :: r, i, h => by
   cases e : ys[i]? with
   | none => exact ⟨0, by simp, λk xs hk => absurd hk (Nat.not_lt_zero _), λxs hx => by simp at hx; subst hx; exact e⟩
   | some y =>
     have h' : rowAt r i = none := by
       cases q : rowAt r i with
       | none => rfl
       | some z => simp [rowAt, e, q] at h
     obtain ⟨j, h1, h2, h3⟩ := zeW h'
     refine ⟨j + 1, by simp; omega, λk xs hk hx => ?_, λxs hx => h3 xs (by simpa using hx)⟩
     cases k with
     | zero => simp at hx; subst hx; exact ⟨y, e⟩
     | succ k => exact h2 k xs (by omega) (by simpa using hx)
inductive SrcsR (K : PySem.W.Frag) (H : Hp) : List (Addr × Bool) → List (List V) → Prop
 | nil : SrcsR K H [] []
 | tup {a : Addr} {xs : List V} {l : List (Addr × Bool)} {r : List (List V)} : SqT K H a xs → SrcsR K H l r → SrcsR K H ((a, true) :: l) (xs :: r)
 | lst {a : Addr} {xs : List V} {l : List (Addr × Bool)} {r : List (List V)} : SqL K H a xs → SrcsR K H l r → SrcsR K H ((a, false) :: l) (xs :: r)
def Itz (K : PySem.W.Frag) (srcs : List (Addr × Bool)) : It :=
 ⟨λi H => ∃ xss row, SrcsR K H srcs xss ∧ rowAt xss i = some row,
  λi H x H' => ∃ p row, x = .ref p ∧ H p = none ∧ H' = upd H p (.tup row) ∧ ∀ xss, SrcsR K H srcs xss → rowAt xss i = some row,
  λi H => ∃ xss, SrcsR K H srcs xss ∧ rowAt xss i = none⟩
section
variable {X : Cx} {pins : List (Addr × Obj)} {σ : L2.St} {H : Hp} {s : Shared}
theorem zfe (I : Inv X pins σ H s) : ∀ {l : List (Addr × Bool)} {r r' : List (List V)}, SrcsR X.K H l r → SrcsR X.K H l r' → r = r'
 | _, _, _, .nil, .nil => rfl
 | _, _, _, .tup h t, .tup h' t' => by rw [I.tuple_inj h h', zfe I t t']
 | _, _, _, .lst h t, .lst h' t' => by rw [I.list_inj h h', zfe I t t']
theorem zd0 (I : Inv X pins σ H s) : ∀ {l : List (Addr × Bool)} {r : List (List V)}, SrcsR X.K H l r → ∃ us : List (List Value), us.length = l.length ∧
   (∀ (j : Nat) p u, l[j]? = some p → us[j]? = some u → SrcAt s.heap ⟨0, p.1, p.2⟩ u) ∧ (∀ (i : Nat) row, rowAt r i = some row → ∃ urow, rowAt us i = some urow ∧ Vals row urow) ∧ ∀ (i : Nat), rowAt r i = none → rowAt us i = none
 | _, _, .nil => ⟨[], rfl, λj p u h => by simp at h, λi row h => by cases h; exact ⟨[], rfl, .nil⟩, λi h => by cases h⟩
 | _, _, @SrcsR.tup _ _ a xs l r h t => by
   obtain ⟨us, h1, h2, h3, h4⟩ := zd0 I t
   obtain ⟨its, rv, ht, hz⟩ := I.tuple h
   refine ⟨its :: us, by simp [h1], λj p u e1 e2 => ?_, λi row e => ?_, λi e => ?_⟩
   · cases j with
     | zero => simp at e1 e2; subst e1; subst e2; unfold SrcAt; rw [if_pos rfl]; exact ht
     | succ j => exact h2 j p u (by simpa using e1) (by simpa using e2)
   · simp only [rowAt, Option.bind_eq_some_iff, Option.map_eq_some_iff] at e
     obtain ⟨x, e1, r', e2, rfl⟩ := e
     obtain ⟨w, ew, rw'⟩ := rv.get e1
     obtain ⟨ur, e3, r3⟩ := h3 i r' e2
     exact ⟨w :: ur, by simp [rowAt, ew, e3], .cons rw' r3⟩
   · cases q : xs[i]? with
     | none => simp [rowAt, rv.none_of q]
     | some x =>
       have e' : rowAt r i = none := by
         cases q2 : rowAt r i with
         | none => rfl
         | some z => simp [rowAt, q, q2] at e
       obtain ⟨w, ew, _⟩ := rv.get q
       simp [rowAt, ew, h4 i e']
 | _, _, @SrcsR.lst _ _ a xs l r h t => by
   obtain ⟨us, h1, h2, h3, h4⟩ := zd0 I t
   obtain ⟨its, rv, ht, hz⟩ := I.list h
   refine ⟨its :: us, by simp [h1], λj p u e1 e2 => ?_, λi row e => ?_, λi e => ?_⟩
   · cases j with
     | zero => simp at e1 e2; subst e1; subst e2; unfold SrcAt; rw [if_neg Bool.false_ne_true]; exact ht.isList
     | succ j => exact h2 j p u (by simpa using e1) (by simpa using e2)
   · simp only [rowAt, Option.bind_eq_some_iff, Option.map_eq_some_iff] at e
     obtain ⟨x, e1, r', e2, rfl⟩ := e
     obtain ⟨w, ew, rw'⟩ := rv.get e1
     obtain ⟨ur, e3, r3⟩ := h3 i r' e2
     exact ⟨w :: ur, by simp [rowAt, ew, e3], .cons rw' r3⟩
   · cases q : xs[i]? with
     | none => simp [rowAt, rv.none_of q]
     | some x =>
       have e' : rowAt r i = none := by
         cases q2 : rowAt r i with
         | none => rfl
         | some z => simp [rowAt, q, q2] at e
       obtain ⟨w, ew, _⟩ := rv.get q
       simp [rowAt, ew, h4 i e']
theorem zhR {a : Addr} {u : HO} (h : Rd H a u) : ∃ o, H a = some o := by
 rcases h with h | ⟨o, h⟩
 · exact ⟨_, h⟩
 · exact ⟨_, h⟩
theorem k_ne (I : Inv X pins σ H s) {a b : Addr} {o : Obj} (hk : X.K.lookup a = some o) (hf : FpOk X pins H b) : a ≠ b := by
 rintro rfl
 have hb := I.ok.mod.kin a o hk
 rcases hf.2.2.2.1 with z | z
 · exact I.ok.noex a o hb z
 · exact absurd (Nat.lt_of_lt_of_le (Nat.lt_of_lt_of_le (Heap.lt_size hb) I.ok.bsz) z) (Nat.lt_irrefl _)
theorem zdP (I : Inv X pins σ H s) {b : Addr} (hf : FpOk X pins H b) : ∀ {l : List (Addr × Bool)} {r : List (List V)}, SrcsR X.K H l r → ∀ p ∈ l, p.1 ≠ b
 | _, _, .nil, p, hp => by cases hp
 | _, _, .tup h t, p, hp => by
   rcases List.mem_cons.mp hp with rfl | hp
   · rcases h with h | ⟨o, _, _, hk, _⟩
     · obtain ⟨o, e⟩ := zhR h
       exact zan e hf.1
     · exact k_ne I hk hf
   · exact zdP I hf t p hp
 | _, _, .lst h t, p, hp => by
   rcases List.mem_cons.mp hp with rfl | hp
   · rcases h with h | ⟨o, _, _, hk, _⟩
     · obtain ⟨o, e⟩ := zhR h
       exact zan e hf.1
     · exact k_ne I hk hf
   · exact zdP I hf t p hp
theorem zf1 (I : Inv X pins σ H s) : ∀ {l : List (Addr × Bool)} {r : List (List V)}, SrcsR X.K H l r → ∀ p ∈ l, SrcOk s.heap p
 | _, _, .nil, p, hp => by cases hp
 | _, _, .tup h t, p, hp => by
   rcases List.mem_cons.mp hp with rfl | hp
   · obtain ⟨its, _, ht, _⟩ := I.tuple h
     unfold SrcOk; rw [if_pos rfl]; exact ⟨_, ht⟩
   · exact zf1 I t p hp
 | _, _, .lst h t, p, hp => by
   rcases List.mem_cons.mp hp with rfl | hp
   · obtain ⟨its, _, ht, _⟩ := I.list h
     unfold SrcOk; rw [if_neg Bool.false_ne_true]; exact ⟨_, ht.isList⟩
   · exact zf1 I t p hp
theorem Inv.turnedN {t' : Nat} {h' : Heap} {ch : List Addr} (I : Inv X pins σ H s) (k : ∀ b o, b ∉ ch → s.heap.get? b = some o → h'.get? b = some o) (hf : ∀ b ∈ ch, FpOk X pins H b) : Inv X pins σ H { s with heap := h', toks := t' } := by
 have nch : ∀ b u, H b = some u → b ∉ ch := λb u e hb => by rw [(hf b hb).1] at e; cases e
 refine I.step (g' := s.gens) (d' := s.drawn) (ch := ch) (λb hb => ⟨(hf b hb).2.2.2.1, (hf b hb).2.1, (hf b hb).2.2.2.2.1, (hf b hb).2.2.2.2.2⟩) (λb o _ _ hc e _ => k b o hc e) (λb o _ _ hc e _ => ⟨o.slots, k b o hc e⟩) (λ_ _ _ _ n => n)
   (λb o hc e => ⟨o, k b o hc e⟩) (λ_ _ e => e) (λ_ _ _ e => e) (λb ps e => ⟨#[], by rw [e]; simp⟩) (λm hm => ?_) (λb u e => ?_) I.bare
 · obtain ⟨o, es, ep, ho, r⟩ := hm
   exact ⟨o, es, ep, k _ o (λhb => (hf _ hb).2.1 rfl) ho, r⟩
 · refine (I.hok b u e).stay (λc v hc q => k c v ?_ q) (λ_ q => q) λ_ _ q => q
   rcases hc with rfl | hc
   · exact nch _ _ e
   · exact nch _ _ hc
theorem Inv.turnedT {t' : Nat} {h' : Heap} {ch : List Addr} {row : List V} {urow : List Value} (I : Inv X pins σ H s) (k : ∀ b o, b ∉ ch → s.heap.get? b = some o → h'.get? b = some o) (hf : ∀ b ∈ ch, FpOk X pins H b)
   (ht : h'.get? s.heap.objs.size = some (tupO urow)) (rv : Vals row urow) (hz : row.length ≤ sizeLine) : Inv X pins σ (upd H s.heap.objs.size (.tup row)) { s with heap := h', toks := t' } := by
 have nch : ∀ b u, H b = some u → b ∉ ch := λb u e hb => by rw [(hf b hb).1] at e; cases e
 have hn : H s.heap.objs.size = none := I.hok.fresh (Nat.le_refl _)
 have old : ∀ b o, s.heap.get? b = some o → b ≠ s.heap.objs.size := λb o e => Nat.ne_of_lt (Heap.lt_size e)
 refine I.step (g' := s.gens) (d' := s.drawn) (ch := ch) (λb hb => ⟨(hf b hb).2.2.2.1, (hf b hb).2.1, (hf b hb).2.2.2.2.1, (hf b hb).2.2.2.2.2⟩) (λb o _ _ hc e _ => k b o hc e) (λb o _ _ hc e _ => ⟨o.slots, k b o hc e⟩)
   (λb o _ e n => by rw [zaq (old b o e)]; exact n)
   (λb o hc e => ⟨o, k b o hc e⟩) (λb xs e => by rw [zaq (zan e hn)]; exact e) (λb o u e => by rw [zaq (zan e hn)]; exact e) (λb ps e => ⟨#[], by rw [zaq (zan e hn), e]; simp⟩) (λm hm => ?_) (λb u e => ?_) I.bare
 · obtain ⟨o, es, ep, ho, r⟩ := hm
   exact ⟨o, es, ep, k _ o (λhb => (hf _ hb).2.1 rfl) ho, r⟩
 · by_cases hb : b = s.heap.objs.size
   · subst hb
     rw [zaw] at e; cases e
     exact ⟨hz, urow, rv, ⟨_, ht, rfl, _, rfl⟩⟩
   · rw [zaq hb] at e
     refine (I.hok b u e).stay (λc v hc q => k c v ?_ q) (λc q => by rw [zaq (zan q hn)]; exact q) λc xs q => by rw [zaq (zan q hn)]; exact q
     rcases hc with rfl | hc
     · exact nch _ _ e
     · exact nch _ _ hc
end
structure Apart0 (z TI TO : Addr) (ps : List Sub) : Prop where
 TIz : TI ≠ z
 TOz : TO ≠ z
 TITO : TI ≠ TO
 iz : ∀ p ∈ ps, p.it ≠ z
 iTI : ∀ p ∈ ps, p.it ≠ TI
 iTO : ∀ p ∈ ps, p.it ≠ TO
 nd : (ps.map (·.it)).Nodup
theorem zi1 {P : Program} {w : World} {K : PySem.W.Frag} {es : List Expr} {kk : Nat} {tp : Pos} {z TI TO : Addr} {ps : List Sub} {srcs : List (Addr × Bool)} (D : Apart0 z TI TO ps) (hsrc : ps.map (λp => (p.src, p.tup)) = srcs) (hne : ps ≠ []) (hps : ps.length ≤ 100) :
   Turn P w K (.Tuple es kk tp) (Itz K srcs) (z :: TI :: TO :: ps.map (·.it)) z (λi h => IsZip h z TI TO .none ∧ h.get? TI = some (tupO (ps.map λp => Value.ref p.it)) ∧ (∃ ys, h.get? TO = some (tupO ys) ∧ ys.length = ps.length) ∧ ∀ p ∈ ps, ItAt h p i) where
 mem := List.mem_cons_self
 obj := λi h ⟨h1, h2, ⟨ys, h3, _⟩, h4⟩ b hb => by
   rcases List.mem_cons.mp hb with rfl | hb
   · exact ⟨_, h1, λv z => by cases z⟩
   rcases List.mem_cons.mp hb with rfl | hb
   · exact ⟨_, h2, λv z => by cases z⟩
   rcases List.mem_cons.mp hb with rfl | hb
   · exact ⟨_, h3, λv z => by cases z⟩
   obtain ⟨p, hp, rfl⟩ := List.mem_map.mp hb
   exact (h4 p hp).obj
 keep := λi h h' ⟨h1, h2, ⟨ys, h3, h3'⟩, h4⟩ k => by
   refine ⟨k z List.mem_cons_self _ h1, k TI (by simp) _ h2, ⟨ys, k TO (by simp) _ h3, h3'⟩, λp hp => (h4 p hp).at λo e => k _ ?_ o e⟩
   exact List.mem_cons_of_mem _ (List.mem_cons_of_mem _ (List.mem_cons_of_mem _ (List.mem_map.mpr ⟨p, hp, rfl⟩)))
 item := by
   intro X hP hw hK hc i pins s σ H E I hf st hg
   subst hP hw hK
   obtain ⟨h1, h2, ⟨ys, h3, h3'⟩, h4⟩ := st
   obtain ⟨xss, row, hS, hrow⟩ := hg
   obtain ⟨us, u1, u2, u3, u4⟩ := zd0 I hS
   obtain ⟨urow, e1, rv⟩ := u3 i row hrow
   have hlen : srcs.length = ps.length := by rw [← hsrc, List.length_map]
   have fz := hf z List.mem_cons_self
   have fTO := hf TO (by simp)
   have fit : ∀ p ∈ ps, FpOk X pins H p.it := λp hp => hf _ (List.mem_cons_of_mem _ (List.mem_cons_of_mem _ (List.mem_cons_of_mem _ (List.mem_map.mpr ⟨p, hp, rfl⟩))))
   have sm : ∀ p ∈ ps, (p.src, p.tup) ∈ srcs := λp hp => by rw [← hsrc]; exact List.mem_map.mpr ⟨p, hp, rfl⟩
   have DD : Apart z TI TO ps := ⟨D.TIz, D.TOz, D.TITO, D.iz, D.iTI, D.iTO, λp hp => zdP I fz hS _ (sm p hp), λp hp => zdP I fTO hS _ (sm p hp), λp hp q hq => zdP I (fit q hq) hS _ (sm p hp), D.nd⟩
   have ul : us.length = ps.length := by rw [u1, hlen]
   have hrl : urow.length = ps.length := by rw [zfD e1, ul]
   have hat : ∀ (j : Nat) p xs, ps[j]? = some p → us[j]? = some xs → SrcAt s.heap p xs := λj p xs hp hx => by
     have hj : srcs[j]? = some (p.src, p.tup) := by rw [← hsrc, List.getElem?_map, hp]; rfl
     exact u2 j _ xs hj hx
   refine zh2 DD hne hps h1 h2 h3 h3' ul hrl h4 hat (λj xs x hx hr => zfE e1 hx hr) λh' a1 a2 a3 a4 a5 a6 => ?_
   refine ⟨_, rfl, wpAny_letOwnedTupleGo_zip (s := { s with heap := h' }) a1 λh'' b1 b2 => ?_⟩
   have hTOs : s.heap.objs.size ≠ z := Nat.ne_of_gt (Heap.lt_size h1)
   have kp : ∀ c o, c ∉ (z :: TO :: ps.map (·.it)) → s.heap.get? c = some o → h''.get? c = some o := λc o hc e => by
     have c1 : c ≠ z := λq => hc (by simp [q])
     have c2 : c ≠ TO := λq => hc (by simp [q])
     have c3 : ∀ p ∈ ps, c ≠ p.it := λp hp q => hc (List.mem_cons_of_mem _ (List.mem_cons_of_mem _ (List.mem_map.mpr ⟨p, hp, q.symm⟩)))
     exact b2.extBut _ _ c1 (a6 c o c1 c2 c3 e)
   have fch : ∀ b ∈ z :: TO :: ps.map (·.it), FpOk X pins H b := λb hb => by
     rcases List.mem_cons.mp hb with rfl | hb
     · exact fz
     rcases List.mem_cons.mp hb with rfl | hb
     · exact fTO
     exact hf b (List.mem_cons_of_mem _ (List.mem_cons_of_mem _ (List.mem_cons_of_mem _ hb)))
   have line : (100 : Nat) ≤ sizeLine := by decide
   have I1 : Inv X pins σ (upd H s.heap.objs.size (.tup row)) { s with heap := h'' } := Inv.turnedT (t' := s.toks) I kp fch (b2.extBut _ _ hTOs a4) rv (by rw [rv.length, hrl]; omega)
   refine ⟨.ref s.heap.objs.size, _, I1, rfl, ⟨s.heap.objs.size, row, rfl, I.hok.fresh (Nat.le_refl _), rfl, λxss' h => by rw [zfe I h hS]; exact hrow⟩, ⟨b1, ?_, ⟨urow, b2.extBut _ _ D.TOz a2, hrl⟩, λp hp => (a3 p hp).at λo e => b2.extBut _ _ (D.iz p hp) e⟩, λb hb => ?_⟩
   · exact b2.extBut _ _ D.TIz (a6 _ _ D.TIz D.TITO (λp hp => (D.iTI p hp).symm) h2)
   · have hlt : b < s.heap.objs.size := by
       rcases List.mem_cons.mp hb with rfl | hb
       · exact Heap.lt_size h1
       rcases List.mem_cons.mp hb with rfl | hb
       · exact Heap.lt_size h2
       rcases List.mem_cons.mp hb with rfl | hb
       · exact Heap.lt_size h3
       obtain ⟨p, hp, rfl⟩ := List.mem_map.mp hb
       obtain ⟨o, e, _⟩ := (h4 p hp).obj
       exact Heap.lt_size e
     rw [zaq (Nat.ne_of_lt hlt)]
     exact (hf b hb).1
 done := by
   intro X hP hw hK hc i pins s σ H E I hf st hg
   subst hP hw hK
   obtain ⟨h1, h2, ⟨ys, h3, h3'⟩, h4⟩ := st
   obtain ⟨xss, hS, hrow⟩ := hg
   obtain ⟨us, u1, u2, u3, u4⟩ := zd0 I hS
   have e1 := u4 i hrow
   obtain ⟨j₀, j1, j2, j3⟩ := zeW e1
   have hlen : srcs.length = ps.length := by rw [← hsrc, List.length_map]
   have fz := hf z List.mem_cons_self
   have fTO := hf TO (by simp)
   have fit : ∀ p ∈ ps, FpOk X pins H p.it := λp hp => hf _ (List.mem_cons_of_mem _ (List.mem_cons_of_mem _ (List.mem_cons_of_mem _ (List.mem_map.mpr ⟨p, hp, rfl⟩))))
   have sm : ∀ p ∈ ps, (p.src, p.tup) ∈ srcs := λp hp => by rw [← hsrc]; exact List.mem_map.mpr ⟨p, hp, rfl⟩
   have DD : Apart z TI TO ps := ⟨D.TIz, D.TOz, D.TITO, D.iz, D.iTI, D.iTO, λp hp => zdP I fz hS _ (sm p hp), λp hp => zdP I fTO hS _ (sm p hp), λp hp q hq => zdP I (fit q hq) hS _ (sm p hp), D.nd⟩
   have ul : us.length = ps.length := by rw [u1, hlen]
   have hat : ∀ (j : Nat) p xs, ps[j]? = some p → us[j]? = some xs → SrcAt s.heap p xs := λj p xs hp hx => by
     have hj : srcs[j]? = some (p.src, p.tup) := by rw [← hsrc, List.getElem?_map, hp]; rfl
     exact u2 j _ xs hj hx
   refine zjB (I.ok.hd hc) DD hne hps h1 h2 h3 h3' ul h4 hat (by omega) j2 j3 λh' a6 => ⟨rfl, ?_⟩
   refine Inv.turnedN (t' := s.toks) (ch := z :: TO :: ps.map (·.it)) I (λc o hc e => a6 c o (λq => hc (by simp [q])) (λq => hc (by simp [q])) (λp hp q => hc (List.mem_cons_of_mem _ (List.mem_cons_of_mem _ (List.mem_map.mpr ⟨p, hp, q.symm⟩)))) e) λb hb => ?_
   rcases List.mem_cons.mp hb with rfl | hb
   · exact fz
   rcases List.mem_cons.mp hb with rfl | hb
   · exact fTO
   exact hf b (List.mem_cons_of_mem _ (List.mem_cons_of_mem _ (List.mem_cons_of_mem _ hb)))
 self := λ_ _ _ _ _ st h => wpAny_pyIter_zip st.1 h
theorem zj7 : bootBuiltins "zip" = some (.type "zip") := by decide +kernel
theorem arity (l : List Value) (h2 : 2 ≤ l.length) (h4 : l.length ≤ 4) : checkTypeCall "zip" ⟨l, []⟩ = pure () ∧ checkBuiltinCall "zip.__new__" ⟨.type "zip" :: l, []⟩ = pure () ∧ ∀ obj, argsOk "object.__init__" ⟨obj :: l, []⟩ := by
 have ao : ∀ (k : List Value), k.length ≤ 5 → k ≠ [] → argsOk "object.__init__" ⟨k, []⟩ := λk hk hn => by
   unfold argsOk
   rw [signature?_of (id := "object.__init__") (n := ['_', '_', 't', 'i', 'n', 'i', '_', '_']) (o := ['t', 'c', 'e', 'j', 'b', 'o']) (by kernel_rfl) F.owner_object]
   rcases k with _ | ⟨k1, _ | ⟨k2, _ | ⟨k3, _ | ⟨k4, _ | ⟨k5, _ | ⟨k6, r⟩⟩⟩⟩⟩⟩
   · exact absurd rfl hn
   · kernel_rfl
   · kernel_rfl
   · kernel_rfl
   · kernel_rfl
   · kernel_rfl
   · exact absurd hk (by simp only [List.length_cons]; omega)
 rcases l with _ | ⟨a, _ | ⟨b, _ | ⟨c, _ | ⟨d, _ | ⟨e, r⟩⟩⟩⟩⟩
 · exact absurd h2 (by simp only [List.length_nil]; omega)
 · exact absurd h2 (by simp only [List.length_cons, List.length_nil]; omega)
 · exact ⟨by kernel_rfl, by kernel_rfl, λo => ao _ (by simp) (by simp)⟩
 · exact ⟨by kernel_rfl, by kernel_rfl, λo => ao _ (by simp) (by simp)⟩
 · exact ⟨by kernel_rfl, by kernel_rfl, λo => ao _ (by simp) (by simp)⟩
 · exact absurd h4 (by simp only [List.length_cons]; omega)
def iZipV (K : PySem.W.Frag) (ta : TA) : TI := λσ H R => ta σ H λvs H1 => ∃ srcs : List (Addr × Bool), vs = srcs.map (λp => V.ref p.1) ∧ 2 ≤ srcs.length ∧ srcs.length ≤ 4 ∧ (∃ xss, SrcsR K H1 srcs xss) ∧ R (Itz K srcs) H1
theorem zfy : ∀ {l : List (Addr × Bool)} {us : List Value}, Vals (l.map λp => V.ref p.1) us → us = l.map λp => Value.ref p.1
 | [], _, .nil => rfl
 | _ :: _, _, .cons r t => by cases r; rw [zfy t]; rfl
theorem zm6 {X : Cx} {es ts : List Expr} {kk : Nat} {tp p pos : Pos} {ta : TA} {e : Expr} (hg : Gl X "zip") (hm : X.mg "zip" = none) (ha : PA X (e :: es) ta) (hst : starEach (e :: es) X.env = (false, eval e X.env) :: starEach es X.env)
   (hpl : (backTo pos (starEach es X.env)).any (·.1) = false) : PI X (.Tuple ts kk tp) (.Call (.Name "zip" p) (e :: es) [] pos) (iZipV X.K ta) := by
 intro pins s σ H R I h
 refine Call_ (ze1 I hg hm zj7 (PyProof.Rows.callWith_type1 (thn (ha pos pins s σ H _ I h) λus s1 ⟨vs, H1, I1, r1, q1⟩ => ?_) hst hpl))
 obtain ⟨srcs, e0, h2, h4, ⟨xss, hS⟩, q⟩ := q1
 subst e0
 have eu := zfy r1
 subst eu
 obtain ⟨c1, c2, c3⟩ := arity (srcs.map λp => Value.ref p.1) (by simpa using h2) (by simpa using h4)
 refine callType_new F.called_zip (by decide) c1 c2 c3 F.entry_zip_new (zh9 (l := srcs) (by omega)) ⟨zf1 I1 hS, λh' z1 z2 z3 z4 z5 z6 => ?_⟩
 show _ ∧ _
 refine ⟨⟨_, z1, rfl⟩, ?_⟩
 refine wpAny_pyIter_zip (s := { s1 with heap := h' }) z1 ?_
 have I2 : Inv X pins σ H1 { s1 with heap := h' } := I1.kept (t' := s1.toks) z6
 have hl : (subsFrom s1.heap.objs.size srcs).length = srcs.length := zfc _ _
 have hmap : ∀ (n : Nat) (l : List (Addr × Bool)), (subsFrom n l).map (λp => (p.src, p.tup)) = l := λn l => by
   induction l generalizing n with
   | nil => rfl
   | cons a r ih => obtain ⟨a, t⟩ := a; rw [subsFrom, List.map_cons, ih]
 have lt : ∀ p ∈ subsFrom s1.heap.objs.size srcs, s1.heap.objs.size ≤ p.it ∧ p.it < s1.heap.objs.size + srcs.length := λp hp => ⟨(zfd _ _ p hp).1, (zfd _ _ p hp).2.1⟩
 refine ⟨_, _, _, _, H1, rfl, I2, zi1 (K := X.K) (srcs := srcs) (ps := subsFrom s1.heap.objs.size srcs) (z := s1.heap.objs.size + srcs.length + 2) (TI := s1.heap.objs.size + srcs.length) (TO := s1.heap.objs.size + srcs.length + 1)
   ⟨Nat.ne_of_lt (by omega), Nat.ne_of_lt (by omega), Nat.ne_of_lt (by omega), λp hp => Nat.ne_of_lt (Nat.lt_of_lt_of_le (lt p hp).2 (by omega)), λp hp => Nat.ne_of_lt (lt p hp).2, λp hp => Nat.ne_of_lt (Nat.lt_of_lt_of_le (lt p hp).2 (by omega)), zhC _ _⟩ (hmap _ _) (λz => by rw [z] at hl; simp at hl; omega) (by omega), ⟨z1, z2, ⟨_, z3, by simp⟩, z4⟩, λb hb => ?_, q⟩
 have hge : s1.heap.objs.size ≤ b := by
   rcases List.mem_cons.mp hb with rfl | hb
   · omega
   rcases List.mem_cons.mp hb with rfl | hb
   · omega
   rcases List.mem_cons.mp hb with rfl | hb
   · omega
   obtain ⟨p, hp, rfl⟩ := List.mem_map.mp hb
   exact (lt p hp).1
 exact I1.fpOk hge (I1.hok.fresh hge)
end MZ
end
section
set_option autoImplicit false
namespace MX
open PySem PySem.Spec PyProof.Rows L2
inductive D where
 | non | bl (b : Bool) | int (i : Int) | str (x : Str) | tup (xs : List D) | ref (n : Nat)
 | ty (n : String) | adr (a : Addr)
inductive O where
 | lst (xs : List D)
 | frz (xs : List D)
 | ins (C : Addr) (fs : List (Str × D))
abbrev Sg := List (Option D)
abbrev So := List O
mutual
inductive Rep (K : PySem.W.Frag) (H : Hp) (α : List Addr) : D → V → Prop
 | non : Rep K H α .non .non
 | bl (b : Bool) : Rep K H α (.bl b) (.bl b)
 | int (i : Int) : Rep K H α (.int i) (.int i)
 | str (x : Str) : Rep K H α (.str x) (.str x)
 | tup {a : Addr} {ds : List D} {vs : List V} : SqT K H a vs → Reps K H α ds vs → Rep K H α (.tup ds) (.ref a)
 | ref {n : Nat} {a : Addr} : α[n]? = some a → Rep K H α (.ref n) (.ref a)
 | ty (n : String) : Rep K H α (.ty n) (.ty n)
 | adr (a : Addr) : Rep K H α (.adr a) (.ref a)
inductive Reps (K : PySem.W.Frag) (H : Hp) (α : List Addr) : List D → List V → Prop
 | nil : Reps K H α [] []
 | cons {d : D} {v : V} {ds : List D} {vs : List V} : Rep K H α d v → Reps K H α ds vs → Reps K H α (d :: ds) (v :: vs)
end
structure Ext (K : PySem.W.Frag) (H : Hp) (α : List Addr) (H' : Hp) (α' : List Addr) : Prop where
 tups : ∀ a vs, SqT K H a vs → SqT K H' a vs
 pre : ∀ (n : Nat) a, α[n]? = some a → α'[n]? = some a
section
variable {K : PySem.W.Frag} {H H' H'' : Hp} {α α' α'' : List Addr}
theorem Ext.refl : Ext K H α H α := ⟨λ_ _ h => h, λ_ _ h => h⟩
theorem Ext.trans (a : Ext K H α H' α') (b : Ext K H' α' H'' α'') : Ext K H α H'' α'' := ⟨λc vs h => b.tups c vs (a.tups c vs h), λn c h => b.pre n c (a.pre n c h)⟩
mutual
theorem Rep.mono (e : Ext K H α H' α') : ∀ {d : D} {v : V}, Rep K H α d v → Rep K H' α' d v
 | _, _, .non => .non
 | _, _, .bl b => .bl b
 | _, _, .int i => .int i
 | _, _, .str x => .str x
 | _, _, .tup h r => .tup (e.tups _ _ h) (Reps.mono e r)
 | _, _, .ref h => .ref (e.pre _ _ h)
 | _, _, .ty n => .ty n
 | _, _, .adr a => .adr a
theorem Reps.mono (e : Ext K H α H' α') : ∀ {ds : List D} {vs : List V}, Reps K H α ds vs → Reps K H' α' ds vs
 | _, _, .nil => .nil
 | _, _, .cons h r => .cons (Rep.mono e h) (Reps.mono e r)
end
theorem Reps.length : ∀ {ds : List D} {vs : List V}, Reps K H α ds vs → ds.length = vs.length
 | _, _, .nil => rfl
 | _, _, .cons _ r => by simp [Reps.length r]
theorem Reps.get : ∀ {ds : List D} {vs : List V} {i : Nat} {d : D}, Reps K H α ds vs → ds[i]? = some d → ∃ v, vs[i]? = some v ∧ Rep K H α d v
 | _, _, _, _, .nil, e => by simp at e
 | _, _, 0, _, .cons h _, e => by simp at e; subst e; exact ⟨_, rfl, h⟩
 | _, _, i + 1, _, .cons _ r, e => by
   obtain ⟨v, h1, h2⟩ := Reps.get (i := i) r (by simpa using e)
   exact ⟨v, by simpa using h1, h2⟩
theorem Reps.append : ∀ {ds es : List D} {vs ws : List V}, Reps K H α ds vs → Reps K H α es ws → Reps K H α (ds ++ es) (vs ++ ws)
 | _, _, _, _, .nil, s => s
 | _, _, _, _, .cons h r, s => .cons h (Reps.append r s)
theorem Reps.take : ∀ {ds : List D} {vs : List V} (n : Nat), Reps K H α ds vs → Reps K H α (ds.take n) (vs.take n)
 | _, _, 0, _ => by simp; exact .nil
 | _, _, _ + 1, .nil => .nil
 | _, _, n + 1, .cons h r => .cons h (Reps.take n r)
theorem Reps.drop : ∀ {ds : List D} {vs : List V} (n : Nat), Reps K H α ds vs → Reps K H α (ds.drop n) (vs.drop n)
 | _, _, 0, r => by simpa using r
 | _, _, _ + 1, .nil => .nil
 | _, _, n + 1, .cons h r => by simpa using Reps.drop n r
theorem Reps.set {d : D} {v : V} (h : Rep K H α d v) : ∀ {ds : List D} {vs : List V} (i : Nat), Reps K H α ds vs → Reps K H α (ds.set i d) (vs.set i v)
 | _, _, _, .nil => .nil
 | _, _, 0, .cons _ r => .cons h r
 | _, _, i + 1, .cons q r => .cons q (Reps.set h i r)
theorem Same.tups (s : Same H H') : ∀ a vs, SqT K H a vs → SqT K H' a vs := λa vs h => by
 rcases h with (h | ⟨o, h⟩) | h
 · exact .inl (.inl (s _ _ h))
 · exact .inl (.inr ⟨o, s _ _ h⟩)
 · exact .inr h
theorem Same.ext (s : Same H H') : Ext K H α H' α := ⟨Same.tups s, λ_ _ h => h⟩
theorem za5 {p : Addr} {o : HO} (h : H p = none) : Same H (upd H p o) := λb u e => by rw [zaq (zan e h)]; exact e
def FzL (K : PySem.W.Frag) (H : Hp) (a : Addr) (xs : List V) : Prop :=
 (∃ o, H a = some (.frz o (.lst xs))) ∨
   ∃ (o : Obj) (its : Array Value) (n : Nat), K.lookup a = some o ∧ o.cls = .type "list" ∧ o.dict = none ∧ o.data = .seq its n ∧ its.size ≤ sizeLine ∧ Vals xs its.toList
theorem FzL.sq {a : Addr} {xs : List V} (h : FzL K H a xs) : SqL K H a xs := by
 rcases h with h | h
 · exact .inl (.inr h)
 · exact .inr h
theorem FzL.same {a : Addr} {xs : List V} (s : Same H H') (h : FzL K H a xs) : FzL K H' a xs := by
 rcases h with ⟨o, h⟩ | h
 · exact .inl ⟨o, s _ _ h⟩
 · exact .inr h
def O.own : O → Bool
 | .frz _ => false
 | _ => true
def ObjR (K : PySem.W.Frag) (H : Hp) (α : List Addr) (a : Addr) : O → Prop
 | .lst ds => ∃ vs, H a = some (.lst vs) ∧ Reps K H α ds vs
 | .frz ds => ∃ vs, FzL K H a vs ∧ Reps K H α ds vs
 | .ins C fs => ∃ dx gs, H a = some (.ins C dx gs) ∧ fs.map (·.1) = gs.map (·.1) ∧ Reps K H α (fs.map (·.2)) (gs.map (·.2))
structure StoreR (K : PySem.W.Frag) (H : Hp) (α : List Addr) (S : So) : Prop where
 len : α.length = S.length
 nd : ∀ (n m : Nat) o o' a, S[n]? = some o → S[m]? = some o' → O.own o = true → O.own o' = true → α[n]? = some a → α[m]? = some a → n = m
 obj : ∀ (n : Nat) o a, S[n]? = some o → α[n]? = some a → ObjR K H α a o
def VarsR (K : PySem.W.Frag) (H : Hp) (α : List Addr) (σd : Sg) (σ : L2.St) : Prop :=
 σd.length = σ.length ∧ ∀ (i : Nat) d, σd[i]? = some (some d) → ∃ v, σ[i]? = some (some v) ∧ Rep K H α d v
theorem VarsR.mono {σd : Sg} {σ : L2.St} (e : Ext K H α H' α') (h : VarsR K H α σd σ) : VarsR K H' α' σd σ :=
 ⟨h.1, λi d q => let ⟨v, h1, h2⟩ := h.2 i d q; ⟨v, h1, h2.mono e⟩⟩
theorem VarsR.set {σd : Sg} {σ : L2.St} {d : D} {v : V} (h : VarsR K H α σd σ) (r : Rep K H α d v) (i : Nat) : VarsR K H α (σd.set i (some d)) (σ.set i (some v)) := by
 refine ⟨by simpa using h.1, λj e q => ?_⟩
 by_cases hj : j = i
 · subst hj
   by_cases hlt : j < σd.length
   · rw [List.getElem?_set_self hlt] at q
     cases q
     exact ⟨v, by rw [List.getElem?_set_self (by rw [← h.1]; exact hlt)], r⟩
   · rw [List.getElem?_eq_none (by simpa using hlt)] at q; cases q
 · rw [List.getElem?_set_ne (Ne.symm hj)] at q
   obtain ⟨u, h1, h2⟩ := h.2 j e q
   exact ⟨u, by rw [List.getElem?_set_ne (Ne.symm hj)]; exact h1, h2⟩
theorem ObjR.mono {a : Addr} {o : O} (s : Same H H') (e : Ext K H α H' α') (h : ObjR K H α a o) : ObjR K H' α' a o := by
 cases o with
 | lst ds => obtain ⟨vs, h1, h2⟩ := h; exact ⟨vs, s _ _ h1, h2.mono e⟩
 | frz ds => obtain ⟨vs, h1, h2⟩ := h; exact ⟨vs, FzL.same s h1, h2.mono e⟩
 | ins C fs => obtain ⟨dx, gs, h1, h2, h3⟩ := h; exact ⟨dx, gs, s _ _ h1, h2, h3.mono e⟩
theorem StoreR.mono {S : So} (s : Same H H') (h : StoreR K H α S) : StoreR K H' α S :=
 ⟨h.len, h.nd, λn o a h1 h2 => (h.obj n o a h1 h2).mono s (Same.ext s)⟩
theorem ObjR.some {a : Addr} {o : O} (h : ObjR K H α a o) (w : O.own o = true) : ∃ u, H a = some u := by
 cases o with
 | lst ds => obtain ⟨vs, h1, _⟩ := h; exact ⟨_, h1⟩
 | frz ds => cases w
 | ins C fs => obtain ⟨dx, gs, h1, _⟩ := h; exact ⟨_, h1⟩
theorem getElem?_snoc {α : Type} {l : List α} {x y : α} {n : Nat} (h : (l ++ [x])[n]? = some y) : l[n]? = some y ∨ (n = l.length ∧ y = x) := by
 by_cases hn : n < l.length
 · rw [List.getElem?_append_left hn] at h; exact .inl h
 · rw [List.getElem?_append_right (by omega)] at h
   by_cases h0 : n - l.length = 0
   · rw [h0] at h; simp at h; exact .inr ⟨by omega, h.symm⟩
   · rw [List.getElem?_eq_none (by simp; omega)] at h; cases h
theorem StoreR.snoc {S : So} {p : Addr} {o : O} {u : HO} (h : StoreR K H α S) (hp : H p = none) (ho : ∀ α', Ext K H α (upd H p u) α' → ObjR K (upd H p u) α' p o) :
   StoreR K (upd H p u) (α ++ [p]) (S ++ [o]) ∧ Ext K H α (upd H p u) (α ++ [p]) := by
 have s : Same H (upd H p u) := za5 hp
 have e : Ext K H α (upd H p u) (α ++ [p]) := ⟨Same.tups s, λn a q => by rw [List.getElem?_append_left (List.getElem?_eq_some_iff.mp q).1]; exact q⟩
 have old : ∀ {n : Nat} {o' : O} {a : Addr}, S[n]? = some o' → (α ++ [p])[n]? = some a → α[n]? = some a := λ{n o' a} h1 h2 => by
   have hn : n < α.length := by rw [h.len]; exact (List.getElem?_eq_some_iff.mp h1).1
   rw [List.getElem?_append_left hn] at h2
   exact h2
 have lastA : (α ++ [p])[S.length]? = some p := by rw [← h.len]; simp
 have apart : ∀ {n : Nat} {o' : O}, S[n]? = some o' → O.own o' = true → ¬ (α ++ [p])[n]? = some p := λ{n o'} h1 w h2 => by
   obtain ⟨u, z⟩ := (h.obj n o' p h1 (old h1 h2)).some w
   rw [hp] at z; cases z
 refine ⟨⟨by simp [h.len], λn m o1 o2 a h1 h2 w1 w2 a1 a2 => ?_, λn o' a h1 h2 => ?_⟩, e⟩
 · rcases getElem?_snoc h1 with q1 | ⟨e1, e2⟩ <;> rcases getElem?_snoc h2 with q2 | ⟨e3, e4⟩
   · exact h.nd n m o1 o2 a q1 q2 w1 w2 (old q1 a1) (old q2 a2)
   · rw [e3, lastA] at a2; cases a2
     exact absurd a1 (apart q1 w1)
   · rw [e1, lastA] at a1; cases a1
     exact absurd a2 (apart q2 w2)
   · rw [e1, e3]
 · rcases getElem?_snoc h1 with h1 | ⟨rfl, rfl⟩
   · exact (h.obj n o' a h1 (old h1 h2)).mono s e
   · rw [lastA] at h2; cases h2
     exact ho _ e
theorem StoreR.put {S : So} {n : Nat} {a : Addr} {o₀ o : O} {u₀ u : HO} (h : StoreR K H α S) (hn : S[n]? = some o₀) (w₀ : O.own o₀ = true) (w : O.own o = true) (ha : α[n]? = some a) (hv : H a = some u₀)
   (hu : (∃ vs, u₀ = .lst vs) ∨ ∃ C dx gs, u₀ = .ins C dx gs)
   (ho : Ext K H α (upd H a u) α → ObjR K (upd H a u) α a o) : StoreR K (upd H a u) α (S.set n o) ∧ Ext K H α (upd H a u) α := by
 have nt : ∀ ws, HO.tup ws ≠ u₀ := λws z => by rcases hu with ⟨vs, e⟩ | ⟨C, dx, gs, e⟩ <;> (rw [e] at z; cases z)
 have nf : ∀ ob x, HO.frz ob x ≠ u₀ := λob x z => by rcases hu with ⟨vs, e⟩ | ⟨C, dx, gs, e⟩ <;> (rw [e] at z; cases z)
 have e : Ext K H α (upd H a u) α := ⟨λb ws q => by
   rcases q with (q | ⟨o, q⟩) | q
   · exact .inl (.inl (by rw [zaq (zlC q hv (nt _))]; exact q))
   · exact .inl (.inr ⟨o, by rw [zaq (zlC q hv (nf _ _))]; exact q⟩)
   · exact .inr q, λ_ _ q => q⟩
 have hlt : n < S.length := (List.getElem?_eq_some_iff.mp hn).1
 have at' : ∀ {m : Nat} {o' : O}, (S.set n o)[m]? = some o' → (m = n ∧ o' = o) ∨ (m ≠ n ∧ S[m]? = some o') := λ{m o'} h1 => by
   by_cases hm : m = n
   · subst hm
     rw [List.getElem?_set_self hlt] at h1
     exact .inl ⟨rfl, (Option.some.inj h1).symm⟩
   · rw [List.getElem?_set_ne (Ne.symm hm)] at h1
     exact .inr ⟨hm, h1⟩
 refine ⟨⟨by simpa using h.len, λm k o1 o2 b h1 h2 w1 w2 b1 b2 => ?_, λm o' b h1 h2 => ?_⟩, e⟩
 · rcases at' h1 with ⟨e1, e2⟩ | ⟨n1, q1⟩ <;> rcases at' h2 with ⟨e3, e4⟩ | ⟨n2, q2⟩
   · rw [e1, e3]
   · rw [e1] at b1 ⊢
     exact h.nd _ _ o₀ o2 b hn q2 w₀ w2 b1 b2
   · rw [e3] at b2 ⊢
     exact h.nd _ _ o1 o₀ b q1 hn w1 w₀ b1 b2
   · exact h.nd _ _ o1 o2 b q1 q2 w1 w2 b1 b2
 · rcases at' h1 with ⟨rfl, rfl⟩ | ⟨hm, h1⟩
   · rw [ha] at h2; cases h2
     exact ho e
   · have q := h.obj m o' b h1 h2
     have hba : O.own o' = true → b ≠ a := λw' z => hm (by subst z; exact h.nd m n o' o₀ b h1 hn w' w₀ h2 ha)
     cases o' with
     | lst ds => obtain ⟨ws, q1, q2⟩ := q; exact ⟨ws, by rw [zaq (hba rfl)]; exact q1, q2.mono e⟩
     | frz ds =>
       obtain ⟨ws, q1, q2⟩ := q
       refine ⟨ws, ?_, q2.mono e⟩
       rcases q1 with ⟨ob, q1⟩ | q1
       · exact .inl ⟨ob, by rw [zaq (zlC q1 hv (nf _ _))]; exact q1⟩
       · exact .inr q1
     | ins C fs => obtain ⟨dx, gs, q1, q2, q3⟩ := q; exact ⟨dx, gs, by rw [zaq (hba rfl)]; exact q1, q2, q3.mono e⟩
end
mutual
def D.lo (n : Nat) : D → Bool
 | .tup xs => los n xs
 | .ref m => decide (m < n)
 | _ => true
def los (n : Nat) : List D → Bool
 | [] => true
 | d :: ds => D.lo n d && los n ds
end
def O.lo (n : Nat) : O → Bool
 | .lst xs => los n xs
 | .frz xs => los n xs
 | .ins _ fs => los n (fs.map (·.2))
section
variable {K : PySem.W.Frag} {H : Hp} {α β : List Addr}
mutual
theorem Rep.lo : ∀ {d : D} {v : V}, Rep K H α d v → D.lo α.length d = true
 | _, _, .non => by simp [D.lo]
 | _, _, .bl _ => by simp [D.lo]
 | _, _, .int _ => by simp [D.lo]
 | _, _, .str _ => by simp [D.lo]
 | _, _, .tup _ r => by rw [D.lo]; exact Reps.lo r
 | _, _, .ref h => by rw [D.lo]; exact decide_eq_true (List.getElem?_eq_some_iff.mp h).1
 | _, _, .ty _ => by simp [D.lo]
 | _, _, .adr _ => by simp [D.lo]
theorem Reps.lo : ∀ {ds : List D} {vs : List V}, Reps K H α ds vs → los α.length ds = true
 | _, _, .nil => by simp [los]
 | _, _, .cons h r => by rw [los, Rep.lo h, Reps.lo r]; rfl
end
mutual
theorem Rep.cut (n : Nat) : ∀ {d : D} {v : V}, Rep K H α d v → D.lo n d = true → Rep K H (α.take n) d v
 | _, _, .non, _ => .non
 | _, _, .bl b, _ => .bl b
 | _, _, .int i, _ => .int i
 | _, _, .str x, _ => .str x
 | _, _, .tup h r, b => .tup h (Reps.cut n r (by rw [D.lo] at b; exact b))
 | _, _, .ref h, b => .ref (by
     rw [D.lo] at b
     rw [List.getElem?_take_of_lt (of_decide_eq_true b)]; exact h)
 | _, _, .ty n, _ => .ty n
 | _, _, .adr a, _ => .adr a
theorem Reps.cut (n : Nat) : ∀ {ds : List D} {vs : List V}, Reps K H α ds vs → los n ds = true → Reps K H (α.take n) ds vs
 | _, _, .nil, _ => .nil
 | _, _, .cons h r, b => by
   rw [los, Bool.and_eq_true] at b
   exact .cons (Rep.cut n h b.1) (Reps.cut n r b.2)
end
theorem ObjR.lo {a : Addr} {o : O} (h : ObjR K H α a o) : O.lo α.length o = true := by
 cases o with
 | lst ds => obtain ⟨_, _, r⟩ := h; exact r.lo
 | frz ds => obtain ⟨_, _, r⟩ := h; exact r.lo
 | ins C fs => obtain ⟨_, _, _, _, r⟩ := h; exact r.lo
theorem ObjR.cut {a : Addr} {o : O} (n : Nat) (h : ObjR K H α a o) (b : O.lo n o = true) : ObjR K H (α.take n) a o := by
 cases o with
 | lst ds => obtain ⟨vs, h1, r⟩ := h; exact ⟨vs, h1, r.cut n b⟩
 | frz ds => obtain ⟨vs, h1, r⟩ := h; exact ⟨vs, h1, r.cut n b⟩
 | ins C fs => obtain ⟨dx, gs, h1, h2, r⟩ := h; exact ⟨dx, gs, h1, h2, r.cut n b⟩
def WF (S : So) : Prop := ∀ o ∈ S, O.lo S.length o = true
theorem StoreR.wf {S : So} (h : StoreR K H α S) : WF S := λo ho => by
 obtain ⟨n, hn, e⟩ := List.mem_iff_getElem.mp ho
 have hn' : n < α.length := by rw [h.len]; exact hn
 have := (h.obj n o α[n] (by rw [List.getElem?_eq_some_iff]; exact ⟨hn, e⟩) (by simp)).lo
 rw [h.len] at this
 exact this
theorem StoreR.cut {S : So} (h : StoreR K H α S) (n : Nat) (b : ∀ o ∈ S.take n, O.lo n o = true) : StoreR K H (α.take n) (S.take n) := by
 have lt : ∀ {m : Nat} {o : O}, (S.take n)[m]? = some o → m < n := λ{m o} h1 => by
   have := (List.getElem?_eq_some_iff.mp h1).1
   simp at this; omega
 refine ⟨by simp [h.len], λm k o1 o2 a h1 h2 w1 w2 a1 a2 => ?_, λm o a h1 h2 => ?_⟩
 · have l1 := lt h1
   have l2 := lt h2
   rw [List.getElem?_take_of_lt l1] at h1 a1
   rw [List.getElem?_take_of_lt l2] at h2 a2
   exact h.nd m k o1 o2 a h1 h2 w1 w2 a1 a2
 have hm : m < n := by
   have := (List.getElem?_eq_some_iff.mp h1).1
   simp at this; omega
 have b1 := b o (List.mem_of_getElem? h1)
 rw [List.getElem?_take_of_lt hm] at h1 h2
 exact (h.obj m o a h1 h2).cut n b1
end
end MX
end
section
set_option autoImplicit false
namespace MX
open PySem PySem.Spec PyProof.Rows L2
open Builtin.Int (intBits)
abbrev EF := Sg → So → Option (D × So)
def Kt (K : PySem.W.Frag) (H : Hp) (α : List Addr) (z : D) (S' : So) (Q : VK) : Prop :=
 ∀ w H' α', StoreR K H' α' S' → Ext K H α H' α' → Rep K H' α' z w → Q w H'
def rdE (K : PySem.W.Frag) (f : EF) : TE := λσ H Q => ∃ σd S α z S', VarsR K H α σd σ ∧ StoreR K H α S ∧ f σd S = some (z, S') ∧ Kt K H α z S' Q
def SE (X : Cx) (e : Expr) (f : EF) : Prop := PE X e (rdE X.K f)
theorem PE.imp {X : Cx} {e : Expr} {t t' : TE} (h : PE X e t) (k : ∀ σ H Q, t' σ H Q → t σ H Q) : PE X e t' := λpins s σ H Q I q => h pins s σ H Q I (k σ H Q q)
abbrev G2 := D → D → So → Option (D × So)
abbrev GN := List D → So → Option (D × So)
def rdOp (K : PySem.W.Frag) (g : G2) : R2 := λv u H Q => ∃ S α x y z S', StoreR K H α S ∧ Rep K H α x v ∧ Rep K H α y u ∧ g x y S = some (z, S') ∧ Kt K H α z S' Q
def rdC (K : PySem.W.Frag) (g : GN) : List V → Hp → VK → Prop := λvs H Q => ∃ S α ds z S', StoreR K H α S ∧ Reps K H α ds vs ∧ g ds S = some (z, S') ∧ Kt K H α z S' Q
theorem Kt.same {K : PySem.W.Frag} {H : Hp} {α : List Addr} {z : D} {S : So} {Q : VK} {w : V} (k : Kt K H α z S Q) (s : StoreR K H α S) (r : Rep K H α z w) : Q w H := k w H α s Ext.refl r
theorem Kt.new {K : PySem.W.Frag} {H H' : Hp} {α : List Addr} {z : D} {S : So} {Q : VK} {w : V} (k : Kt K H α z S Q) (s : StoreR K H α S) (m : Same H H') (r : Rep K H' α z w) : Q w H' := k w H' α (s.mono m) (Same.ext m) r
theorem Kt.trans {K : PySem.W.Frag} {H H1 : Hp} {α α1 : List Addr} {z : D} {S' : So} {Q : VK} (k : Kt K H α z S' Q) (e : Ext K H α H1 α1) : Kt K H1 α1 z S' Q := λw H' α' s x r => k w H' α' s (e.trans x) r
def mulOk (i j : Int) : Bool := decide (intBits i ≤ 64) || decide (intBits j ≤ 64) || decide (intBits i + intBits j ≤ 134217728)
theorem mulOk.ok {i j : Int} (h : mulOk i j = true) : IntMulOk i j := by
 unfold mulOk at h
 rw [Bool.or_eq_true, Bool.or_eq_true] at h
 rcases h with (h | h) | h
 · exact .of_left (of_decide_eq_true h)
 · exact .of_right (of_decide_eq_true h)
 · exact IntMulOk.of_le (Nat.le_refl _) (Nat.le_refl _) (of_decide_eq_true h)
def divOk (j : Int) : Bool := decide (j ≠ 0) && decide (intBits j ≤ 8000)
theorem divOk.ok {i j : Int} (h : divOk j = true) : j ≠ 0 ∧ Builtin.divisionGoesByPylong i j = false := by
 unfold divOk at h
 rw [Bool.and_eq_true] at h
 have h1 : j ≠ 0 := of_decide_eq_true h.1
 have h2 : intBits j ≤ 8000 := of_decide_eq_true h.2
 refine ⟨h1, PyProof.noPylong_of_log2 ?_⟩
 have hb : (j == 0) = false := by simpa using h1
 unfold Builtin.Int.intBits at h2
 rw [hb] at h2
 simp only [Bool.false_eq_true, if_false] at h2
 omega
section
variable {X : Cx}
theorem zlv : OpR X (binaryOp .Mult) (rI (λi j => mulOk i j = true) λi j => .int (i * j)) := opI λ_ _ _ _ _ _ _ hc q => mul_int q (mulOk.ok hc)
theorem zlx : OpR X (binaryOp .FloorDiv) (rI (λ_ j => divOk j = true) λi j => .int (i.fdiv j)) := opI λ_ _ _ _ _ _ _ hc q => floordiv_int (divOk.ok (i := 0) hc).1 q (.inl (divOk.ok hc).2)
end
def gAdd : G2
 | .int i, .int j, S => some (.int (i + j), S)
 | .str a, .str b, S => if a.length + b.length ≤ sizeLine then some (.str (a ++ b), S) else none
 | .tup xs, .tup ys, S => if xs ≠ [] ∧ xs.length + ys.length ≤ sizeLine then some (.tup (xs ++ ys), S) else none
 | .ref n, .ref m, S => match S[n]?, S[m]? with
   | some (.lst xs), some (.lst ys) => if xs.length + ys.length ≤ sizeLine then some (.ref S.length, S ++ [.lst (xs ++ ys)]) else none
   | _, _ => none
 | _, _, _ => none
def gSub : G2
 | .int i, .int j, S => some (.int (i - j), S)
 | _, _, _ => none
def gMul : G2
 | .int i, .int j, S => if mulOk i j = true then some (.int (i * j), S) else none
 | _, _, _ => none
def gDiv : G2
 | .int i, .int j, S => if divOk j = true then some (.int (i.fdiv j), S) else none
 | _, _, _ => none
def gMod : G2
 | .int i, .int j, S => if j ≠ 0 then some (.int (i.fmod j), S) else none
 | _, _, _ => none
def gShl : G2
 | .int i, .int j, S => if 0 ≤ j ∧ j ≤ 1000000 ∧ i.natAbs < 2 ^ 64 then some (.int (i * 2 ^ j.toNat), S) else none
 | _, _, _ => none
def gPow : G2
 | .int i, .int j, S => if 0 ≤ j ∧ j ≤ 1000000 ∧ i.natAbs < 2 ^ 64 then some (.int (i ^ j.toNat), S) else none
 | _, _, _ => none
def gBin : Operator → G2
 | .Add => gAdd
 | .Sub => gSub
 | .Mult => gMul
 | .FloorDiv => gDiv
 | .Mod => gMod
 | .LShift => gShl
 | .Pow => gPow
 | _ => λ_ _ _ => none
section
variable {X : Cx}
theorem zlt : OpR X (binaryOp .Add) (rdOp X.K gAdd) := by
 intro pins s σ H v u vv uu Q I rv ru h
 obtain ⟨S, α, x, y, z, S', hs, rx, ry, hg, k⟩ := h
 unfold gAdd at hg
 split at hg
 · cases hg; cases rx; cases ry
   exact znp pins s σ H _ _ _ _ Q I rv ru ⟨_, _, rfl, rfl, k.same hs (.int _)⟩
 · split at hg
   · rename_i hl
     cases hg; cases rx; cases ry
     exact zhh pins s σ H _ _ _ _ Q I rv ru ⟨_, _, rfl, rfl, hl, k.same hs (.str _)⟩
   · cases hg
 · split at hg
   · rename_i hl
     cases hg
     cases rx with
     | tup h1 r1 =>
       cases ry with
       | tup h2 r2 =>
         refine zly pins s σ H _ _ _ _ Q I rv ru ⟨_, _, _, _, rfl, rfl, h1, h2, ?_, ?_, ?_, ?_⟩
         · intro e; subst e; cases r1; exact hl.1 rfl
         · rw [← r1.length, ← r2.length]; exact hl.2
         · intro e; subst e; cases r2
           exact k.same hs (.tup h1 (by rw [List.append_nil]; exact r1))
         · intro _ p hp
           exact k.new hs (za5 hp) (.tup (SqT.of zaw) ((r1.append r2).mono (Same.ext (za5 hp))))
   · cases hg
 · split at hg
   · rename_i n m xs ys e1 e2
     split at hg
     · rename_i hl
       cases hg
       cases rx with
       | ref a1 =>
         cases ry with
         | ref a2 =>
           obtain ⟨vs, h1, r1⟩ := hs.obj _ _ _ e1 a1
           obtain ⟨ws, h2, r2⟩ := hs.obj _ _ _ e2 a2
           refine zno pins s σ H _ _ _ _ Q I rv ru ⟨_, _, _, _, rfl, rfl, h1, h2, by rw [← r1.length, ← r2.length]; exact hl, λp hp => ?_⟩
           obtain ⟨s', e'⟩ := hs.snoc (p := p) (o := .lst (xs ++ ys)) (u := .lst (vs ++ ws)) hp λα' e => ⟨_, zaw, (r1.append r2).mono e⟩
           exact k _ _ _ s' e' (.ref (by rw [← hs.len]; simp))
     · cases hg
   · cases hg
 · cases hg
theorem zli : OpR X (binaryOp .Sub) (rdOp X.K gSub) := by
 intro pins s σ H v u vv uu Q I rv ru h
 obtain ⟨S, α, x, y, z, S', hs, rx, ry, hg, k⟩ := h
 unfold gSub at hg
 split at hg
 · cases hg; cases rx; cases ry
   exact znk pins s σ H _ _ _ _ Q I rv ru ⟨_, _, rfl, rfl, k.same hs (.int _)⟩
 · cases hg
theorem zln : OpR X (binaryOp .Mult) (rdOp X.K gMul) := by
 intro pins s σ H v u vv uu Q I rv ru h
 obtain ⟨S, α, x, y, z, S', hs, rx, ry, hg, k⟩ := h
 unfold gMul at hg
 split at hg
 · split at hg
   · rename_i hc
     cases hg; cases rx; cases ry
     exact zlv pins s σ H _ _ _ _ Q I rv ru ⟨_, _, rfl, rfl, hc, k.same hs (.int _)⟩
   · cases hg
 · cases hg
theorem zlr : OpR X (binaryOp .FloorDiv) (rdOp X.K gDiv) := by
 intro pins s σ H v u vv uu Q I rv ru h
 obtain ⟨S, α, x, y, z, S', hs, rx, ry, hg, k⟩ := h
 unfold gDiv at hg
 split at hg
 · split at hg
   · rename_i hc
     cases hg; cases rx; cases ry
     exact zlx pins s σ H _ _ _ _ Q I rv ru ⟨_, _, rfl, rfl, hc, k.same hs (.int _)⟩
   · cases hg
 · cases hg
theorem zlo : OpR X (binaryOp .Mod) (rdOp X.K gMod) := by
 intro pins s σ H v u vv uu Q I rv ru h
 obtain ⟨S, α, x, y, z, S', hs, rx, ry, hg, k⟩ := h
 unfold gMod at hg
 split at hg
 · split at hg
   · rename_i hc
     cases hg; cases rx; cases ry
     exact zlw pins s σ H _ _ _ _ Q I rv ru ⟨_, _, rfl, rfl, hc, k.same hs (.int _)⟩
   · cases hg
 · cases hg
theorem zlj : OpR X (binaryOp .LShift) (rdOp X.K gShl) := by
 intro pins s σ H v u vv uu Q I rv ru h
 obtain ⟨S, α, x, y, z, S', hs, rx, ry, hg, k⟩ := h
 unfold gShl at hg
 split at hg
 · split at hg
   · rename_i hc
     cases hg; cases rx; cases ry
     exact znl pins s σ H _ _ _ _ Q I rv ru ⟨_, _, rfl, rfl, hc, k.same hs (.int _)⟩
   · cases hg
 · cases hg
theorem zlk : OpR X (binaryOp .Pow) (rdOp X.K gPow) := by
 intro pins s σ H v u vv uu Q I rv ru h
 obtain ⟨S, α, x, y, z, S', hs, rx, ry, hg, k⟩ := h
 unfold gPow at hg
 split at hg
 · split at hg
   · rename_i hc
     cases hg; cases rx; cases ry
     exact znm pins s σ H _ _ _ _ Q I rv ru ⟨_, _, rfl, rfl, hc, k.same hs (.int _)⟩
   · cases hg
 · cases hg
theorem zls : ∀ op : Operator, OpR X (binaryOp op) (rdOp X.K (gBin op)) := by
 intro op
 cases op
 case Add => exact zlt
 case Sub => exact zli
 case Mult => exact zln
 case FloorDiv => exact zlr
 case Mod => exact zlo
 case LShift => exact zlj
 case Pow => exact zlk
 all_goals
   intro pins s σ H v u vv uu Q I rv ru h
   obtain ⟨S, α, x, y, z, S', hs, rx, ry, hg, k⟩ := h
   exact absurd hg (by simp [gBin])
end
def toPl (f : D → Option PyData) : List D → Option (List PyData)
 | [] => some []
 | d :: ds => (f d).bind λp => (toPl f ds).map λps => p :: ps
def toP (S : So) : Nat → D → Option PyData
 | 0, _ => none
 | _ + 1, .non => some .none
 | _ + 1, .bl b => some (.bool b)
 | _ + 1, .int i => some (.int i)
 | _ + 1, .str x => some (.str x)
 | n + 1, .tup ds => (toPl (toP S n) ds).map .tuple
 | n + 1, .ref m => match S[m]? with
   | some (.lst ds) => (toPl (toP S n) ds).map .list
   | some (.frz ds) => (toPl (toP S n) ds).map .list
   | _ => none
 | _ + 1, _ => none
theorem zeP {X : Cx} {s : Shared} {H : Hp} {α : List Addr} {f : D → Option PyData} (hf : ∀ d v u p, Rep X.K H α d v → RelV v u → f d = some p → ∃ as, Reads s.heap u p as) :
   ∀ ds vs us ps, Reps X.K H α ds vs → Vals vs us → toPl f ds = some ps → ∃ as, ReadsAll s.heap us ps as
 | _, _, _, _, .nil, .nil, e => by simp [toPl] at e; subst e; exact ⟨_, .nil⟩
 | _, _, _, _, .cons r rr, .cons rv rvs, e => by
   simp only [toPl, Option.bind_eq_some_iff, Option.map_eq_some_iff] at e
   obtain ⟨p, e1, ps, e2, rfl⟩ := e
   obtain ⟨as, ra⟩ := hf _ _ _ _ r rv e1
   obtain ⟨bs, rb⟩ := zeP hf _ _ _ _ rr rvs e2
   exact ⟨_, .cons ra rb⟩
theorem zcF {X : Cx} {pins : List (Addr × Obj)} {s : Shared} {σ : L2.St} {H : Hp} {α : List Addr} {S : So} (I : Inv X pins σ H s) (hs : StoreR X.K H α S) : ∀ (n : Nat) d v u p, Rep X.K H α d v → RelV v u → toP S n d = some p → ∃ as, Reads s.heap u p as
 | 0, d, v, u, p, _, _, e => by simp [toP] at e
 | n + 1, d, v, u, p, r, rv, e => by
   have ih := zeP (X := X) (s := s) (zcF I hs n)
   cases r with
   | non => cases rv; simp [toP] at e; subst e; exact ⟨_, .none⟩
   | bl b => cases rv; simp [toP] at e; subst e; exact ⟨_, .bool b⟩
   | int i => obtain ⟨t, rfl⟩ := rv; simp [toP] at e; subst e; exact ⟨_, .int i t⟩
   | str x => obtain ⟨t, rfl⟩ := rv; simp [toP] at e; subst e; exact ⟨_, .str x t⟩
   | tup h r =>
     cases rv
     simp only [toP, Option.map_eq_some_iff] at e
     obtain ⟨ps, e1, rfl⟩ := e
     obtain ⟨its, r', ⟨o, ho, hc, m, hd⟩, _⟩ := I.tuple h
     obtain ⟨as, ra⟩ := ih _ _ _ _ r r' e1
     exact ⟨_, .tuple ho hc hd (by simpa using ra)⟩
   | @ref m a h =>
     cases rv
     simp only [toP] at e
     cases hm : S[m]? with
     | none => rw [hm] at e; simp at e
     | some o =>
       rw [hm] at e
       have hob := hs.obj _ _ _ hm h
       cases o with
       | lst ds =>
         simp only [Option.map_eq_some_iff] at e
         obtain ⟨ps, e1, rfl⟩ := e
         obtain ⟨vs, h1, r⟩ := hob
         obtain ⟨its, r', ⟨o, m, ho, hc, hdd, hd⟩, _⟩ := I.list (SqL.of (K := X.K) h1)
         obtain ⟨as, ra⟩ := ih _ _ _ _ r r' e1
         exact ⟨_, .list ho hc hd (by simpa using ra)⟩
       | frz ds =>
         simp only [Option.map_eq_some_iff] at e
         obtain ⟨ps, e1, rfl⟩ := e
         obtain ⟨vs, h1, r⟩ := hob
         obtain ⟨its, r', ⟨o, m, ho, hc, hdd, hd⟩, _⟩ := I.list h1.sq
         obtain ⟨as, ra⟩ := ih _ _ _ _ r r' e1
         exact ⟨_, .list ho hc hd (by simpa using ra)⟩
       | ins C fs => simp at e
   | ty n => simp [toP] at e
   | adr a => simp [toP] at e
def eqD (S : So) (x y : D) : Option Bool := (toP S 24 x).bind λp => (toP S 24 y).bind λq => if SeqAt.shaped p = true ∧ SeqAt.shaped q = true then some (PyData.eqv p q) else none
def isNon : D → Bool
 | .non => true
 | _ => false
def gCmp : CmpOp → G2
 | .Lt, .int i, .int j, S => some (.bl (decide (i < j)), S)
 | .LtE, .int i, .int j, S => some (.bl (decide (i ≤ j)), S)
 | .Gt, .int i, .int j, S => some (.bl (decide (j < i)), S)
 | .GtE, .int i, .int j, S => some (.bl (decide (j ≤ i)), S)
 | .Eq, .int i, .int j, S => some (.bl (decide (i = j)), S)
 | .NotEq, .int i, .int j, S => some (.bl (!decide (i = j)), S)
 | .Eq, x, y, S => (eqD S x y).map λb => (.bl b, S)
 | .NotEq, x, y, S => (eqD S x y).map λb => (.bl (!b), S)
 | .Is, x, .non, S => some (.bl (isNon x), S)
 | .IsNot, x, .non, S => some (.bl (!isNon x), S)
 | _, _, _, _ => none
theorem zhP {K : PySem.W.Frag} {H : Hp} {α : List Addr} {x : D} {v : V} (r : Rep K H α x v) : decide (v = .non) = isNon x := by
 cases r <;> simp [isNon]
section
variable {X : Cx}
theorem zlp : OpR X (compareOp .Eq) (rI0 λi j => .bl (decide (i = j))) := opB0 λ_ _ _ _ _ _ _ q => eq_int (by rw [Bool.beq_eq_decide_eq]; exact q)
theorem zll : OpR X (compareOp .NotEq) (rI0 λi j => .bl (!decide (i = j))) := opB0 λ_ _ _ _ _ _ _ q => ne_int (by rw [bne, Bool.beq_eq_decide_eq]; exact q)
theorem zlq {pins : List (Addr × Obj)} {s : Shared} {σ : L2.St} {H : Hp} {v u : V} {vv uu : Value} {Q : VK} {S : So} {α : List Addr} {x y : D} {b : Bool} (hu : X.A.units + 64 < cLine) (I : Inv X pins σ H s) (rv : RelV v vv) (ru : RelV u uu)
   (hs : StoreR X.K H α S) (rx : Rep X.K H α x v) (ry : Rep X.K H α y u) (hg : eqD S x y = some b) (k : Q (.bl b) H) : wpAny (model X.prog X.w) X.A (compareOp .Eq vv uu) (EP X pins σ Q) X.xe s := by
 unfold eqD at hg
 simp only [Option.bind_eq_some_iff] at hg
 obtain ⟨p, e1, q, e2, hg⟩ := hg
 split at hg
 · rename_i hc
   obtain ⟨as, ra⟩ := zcF I hs 24 _ _ _ _ rx rv e1
   obtain ⟨bs, rb⟩ := zcF I hs 24 _ _ _ _ ry ru e2
   cases hg
   exact SeqAt.compareEq_shaped ra rb hc.1 hc.2 hu ⟨.bl _, H, I, rfl, k⟩
 · cases hg
theorem zlm {pins : List (Addr × Obj)} {s : Shared} {σ : L2.St} {H : Hp} {v u : V} {vv uu : Value} {Q : VK} {S : So} {α : List Addr} {x y : D} {b : Bool} (hu : X.A.units + 64 < cLine) (I : Inv X pins σ H s) (rv : RelV v vv) (ru : RelV u uu)
   (hs : StoreR X.K H α S) (rx : Rep X.K H α x v) (ry : Rep X.K H α y u) (hg : eqD S x y = some b) (k : Q (.bl (!b)) H) : wpAny (model X.prog X.w) X.A (compareOp .NotEq vv uu) (EP X pins σ Q) X.xe s := by
 unfold eqD at hg
 simp only [Option.bind_eq_some_iff] at hg
 obtain ⟨p, e1, q, e2, hg⟩ := hg
 split at hg
 · rename_i hc
   obtain ⟨as, ra⟩ := zcF I hs 24 _ _ _ _ rx rv e1
   obtain ⟨bs, rb⟩ := zcF I hs 24 _ _ _ _ ry ru e2
   cases hg
   exact SeqAt.compareNe_shaped ra rb hc.1 hc.2 hu ⟨.bl _, H, I, rfl, k⟩
 · cases hg
theorem zhX (hu : X.A.units + 64 < cLine) : ∀ op : CmpOp, OpR X (compareOp op) (rdOp X.K (gCmp op)) := by
 intro op pins s σ H v u vv uu Q I rv ru h
 obtain ⟨S, α, x, y, z, S', hs, rx, ry, hg, k⟩ := h
 unfold gCmp at hg
 split at hg
 · cases hg; cases rx; cases ry
   exact zoq pins s σ H _ _ _ _ Q I rv ru ⟨_, _, rfl, rfl, k.same hs (.bl _)⟩
 · cases hg; cases rx; cases ry
   exact zor pins s σ H _ _ _ _ Q I rv ru ⟨_, _, rfl, rfl, k.same hs (.bl _)⟩
 · cases hg; cases rx; cases ry
   exact zos pins s σ H _ _ _ _ Q I rv ru ⟨_, _, rfl, rfl, k.same hs (.bl _)⟩
 · cases hg; cases rx; cases ry
   exact zot pins s σ H _ _ _ _ Q I rv ru ⟨_, _, rfl, rfl, k.same hs (.bl _)⟩
 · cases hg; cases rx; cases ry
   exact zlp pins s σ H _ _ _ _ Q I rv ru ⟨_, _, rfl, rfl, k.same hs (.bl _)⟩
 · cases hg; cases rx; cases ry
   exact zll pins s σ H _ _ _ _ Q I rv ru ⟨_, _, rfl, rfl, k.same hs (.bl _)⟩
 · simp only [Option.map_eq_some_iff] at hg
   obtain ⟨b, e, hg⟩ := hg
   cases hg
   exact zlq hu I rv ru hs rx ry e (k.same hs (.bl _))
 · simp only [Option.map_eq_some_iff] at hg
   obtain ⟨b, e, hg⟩ := hg
   cases hg
   exact zlm hu I rv ru hs rx ry e (k.same hs (.bl _))
 · cases hg; cases ry
   exact znn pins s σ H _ _ _ _ Q I rv ru ⟨rfl, by rw [zhP rx]; exact k.same hs (.bl _)⟩
 · cases hg; cases ry
   refine zlu pins s σ H _ _ _ _ Q I rv ru ⟨rfl, ?_⟩
   rw [zhP rx]
   exact k.same hs (.bl _)
 · cases hg
end
def gIx : G2
 | .tup xs, .int i, S => (atI xs i).map λz => (z, S)
 | .ref n, .int i, S => match S[n]? with
   | some (.lst xs) => (atI xs i).map λz => (z, S)
   | some (.frz xs) => (atI xs i).map λz => (z, S)
   | _ => none
 | .str z, .int i, S => if z.length ≤ sizeLine then (atI z.cps.toList i).map λc => (.str ⟨#[c]⟩, S) else none
 | _, _, _ => none
theorem zgq {K : PySem.W.Frag} {H : Hp} {α : List Addr} {ds : List D} {vs : List V} {i : Int} {z : D} (r : Reps K H α ds vs) (h : atI ds i = some z) : ∃ w, atI vs i = some w ∧ Rep K H α z w := by
 unfold atI at h ⊢
 rw [← r.length]
 cases e : ixN ds.length i with
 | none => rw [e] at h; simp at h
 | some j =>
   rw [e] at h
   exact r.get h
theorem ixs {X : Cx} : IxR X (rdOp X.K gIx) := by
 intro value slice pins s σ H v u vv uu Q I rv ru h hsub
 obtain ⟨S, α, x, y, z, S', hs, rx, ry, hg, k⟩ := h
 unfold gIx at hg
 split at hg
 · simp only [Option.map_eq_some_iff] at hg
   obtain ⟨b, e, hg⟩ := hg
   cases hg; cases ry
   cases rx with
   | tup h r =>
     obtain ⟨w, e', rw'⟩ := zgq r e
     exact znz value slice pins s σ H _ _ _ _ Q I rv ru ⟨_, _, _, _, rfl, rfl, h, e', k.same hs rw'⟩ hsub
 · cases ry
   cases rx with
   | ref h =>
     rename_i n i a
     cases hm : S[n]? with
     | none => rw [hm] at hg; simp at hg
     | some o =>
       rw [hm] at hg
       have hob := hs.obj _ _ _ hm h
       cases o with
       | lst ds =>
         simp only [Option.map_eq_some_iff] at hg
         obtain ⟨b, e, hg⟩ := hg
         cases hg
         obtain ⟨vs, h1, r⟩ := hob
         obtain ⟨w, e', rw'⟩ := zgq r e
         exact zij value slice pins s σ H _ _ _ _ Q I rv ru ⟨_, _, _, _, rfl, rfl, SqL.of h1, e', k.same hs rw'⟩ hsub
       | frz ds =>
         simp only [Option.map_eq_some_iff] at hg
         obtain ⟨b, e, hg⟩ := hg
         cases hg
         obtain ⟨vs, h1, r⟩ := hob
         obtain ⟨w, e', rw'⟩ := zgq r e
         exact zij value slice pins s σ H _ _ _ _ Q I rv ru ⟨_, _, _, _, rfl, rfl, h1.sq, e', k.same hs rw'⟩ hsub
       | ins C fs => simp at hg
 · split at hg
   · rename_i hl
     simp only [Option.map_eq_some_iff] at hg
     obtain ⟨b, e, hg⟩ := hg
     cases hg; cases rx; cases ry
     exact znA value slice pins s σ H _ _ _ _ Q I rv ru ⟨_, _, _, rfl, rfl, hl, e, k.same hs (.str _)⟩ hsub
   · cases hg
 · cases hg
end MX
end
section
set_option autoImplicit false
namespace MX
open PySem PySem.Spec PyProof.Rows L2
theorem zd3 (names : List (Str × NameKind)) : ∀ (n : Nat) (acc : List (Str × Addr)), cellsFrom n names acc = cellsFrom n names [] ++ acc := by
 induction names with
 | nil => intro n acc; simp [cellsFrom]
 | cons p r ih =>
   intro n acc
   obtain ⟨x, k⟩ := p
   unfold cellsFrom
   split
   · rw [ih, ih _ [(x, n)], List.append_assoc]; rfl
   · exact ih n acc
theorem zgU {names : List (Str × NameKind)} : ∀ {n : Nat} {x : Str} {c : Addr}, (x, c) ∈ cellsFrom n names [] → n ≤ c ∧ (x, NameKind.cell) ∈ names := by
 induction names with
 | nil => intro n x c h; simp [cellsFrom] at h
 | cons p r ih =>
   intro n x c h
   obtain ⟨y, k⟩ := p
   unfold cellsFrom at h
   split at h
   · rename_i hk
     rw [zd3, List.mem_append] at h
     rcases h with h | h
     · have := ih h
       exact ⟨by omega, List.mem_cons_of_mem _ this.2⟩
     · have e : (x, c) = (y, n) := by simpa using h
       cases e
       have : k = NameKind.cell := by simpa using hk
       subst this
       exact ⟨Nat.le_refl _, List.mem_cons_self⟩
   · have := ih h
     exact ⟨this.1, List.mem_cons_of_mem _ this.2⟩
theorem zbl {α : Type} (x : Str) : ∀ (l r : List (Str × α)), (l ++ r).lookup x = (l.lookup x).or (r.lookup x)
 | [], r => by simp
 | (k, v) :: l, r => by
   rw [List.cons_append, List.lookup_cons, List.lookup_cons]
   cases x == k with
   | true => rfl
   | false => exact zbl x l r
theorem zew {names : List (Str × NameKind)} {n : Nat} {acc : List (Str × Addr)} {x : Str} {c : Addr} (h : (cellsFrom n names acc).lookup x = some c) :
   ((cellsFrom n names []).lookup x = some c) ∨ ((cellsFrom n names []).lookup x = none ∧ acc.lookup x = some c) := by
 rw [zd3, zbl] at h
 cases e : (cellsFrom n names []).lookup x with
 | some d => rw [e] at h; exact .inl h
 | none => rw [e] at h; exact .inr ⟨rfl, h⟩
theorem zfv {env : Env} (f : Str × NameKind → List (Str × Addr) → Sem (ForInStep (List (Str × Addr))))
   (hf : ∀ name kind cs, f (name, kind) cs = if (kind == NameKind.free) = true then (do let a ← cellOf env name; pure (.yield ((name, a) :: cs))) else pure (.yield cs)) :
   ∀ (names : List (Str × NameKind)) (acc : List (Str × Addr)), (∀ y ∈ names, y.2 = .free → ∃ c, env.cells.lookup y.1 = some c) → ∃ cl, forIn names acc f = pure cl ∧
     (∀ x c, cl.lookup x = some c → acc.lookup x = some c ∨ ((x, NameKind.free) ∈ names ∧ env.cells.lookup x = some c)) ∧ ∀ x, ((x, NameKind.free) ∈ names ∨ ∃ c, acc.lookup x = some c) → ∃ c, cl.lookup x = some c
 | [], acc, _ => ⟨acc, by rw [List.forIn_nil], λx c h => .inl h, λx h => by
     rcases h with h | h
     · cases h
     · exact h⟩
 | (y, k) :: r, acc, h => by
   by_cases hk : k = NameKind.free
   · subst hk
     obtain ⟨c, hc⟩ := h (y, .free) List.mem_cons_self rfl
     obtain ⟨cl, e, h1, h2⟩ := zfv f hf r ((y, c) :: acc) λz hz => h z (List.mem_cons_of_mem _ hz)
     refine ⟨cl, ?_, λx d hx => ?_, λx hx => h2 x ?_⟩
     · rw [List.forIn_cons, hf]
       have e1 : cellOf env y = pure c := by unfold cellOf; rw [hc]
       simp only [beq_self_eq_true, if_true, e1, pure_bind]
       exact e
     · rcases h1 x d hx with q | ⟨q1, q2⟩
       · rw [List.lookup_cons] at q
         cases hb : x == y with
         | true =>
           rw [hb] at q; cases q
           obtain rfl : x = y := by simpa using hb
           exact .inr ⟨List.mem_cons_self, hc⟩
         | false => rw [hb] at q; exact .inl q
       · exact .inr ⟨List.mem_cons_of_mem _ q1, q2⟩
     · rcases hx with hx | ⟨d, hx⟩
       · rcases List.mem_cons.mp hx with q | q
         · cases q
           exact .inr ⟨c, by simp⟩
         · exact .inl q
       · cases hb : x == y with
         | true => exact .inr ⟨c, by rw [List.lookup_cons, hb]⟩
         | false => exact .inr ⟨d, by rw [List.lookup_cons, hb]; exact hx⟩
   · have hb : (k == NameKind.free) = false := by simpa using hk
     obtain ⟨cl, e, h1, h2⟩ := zfv f hf r acc λz hz => h z (List.mem_cons_of_mem _ hz)
     refine ⟨cl, ?_, λx d hx => ?_, λx hx => h2 x ?_⟩
     · rw [List.forIn_cons, hf, hb]
       simp only [Bool.false_eq_true, if_false, pure_bind]
       exact e
     · rcases h1 x d hx with q | ⟨q1, q2⟩
       · exact .inl q
       · exact .inr ⟨List.mem_cons_of_mem _ q1, q2⟩
     · rcases hx with hx | hx
       · rcases List.mem_cons.mp hx with q | q
         · cases q; exact absurd rfl hk
         · exact .inl q
       · exact .inr hx
theorem zl4 {scope : Scope} {env : Env} (h : ∀ y ∈ scope.names, y.2 = .free → ∃ c, env.cells.lookup y.1 = some c) : ∃ cl, closureFor scope env = pure cl ∧
   (∀ x c, cl.lookup x = some c → (x, NameKind.free) ∈ scope.names ∧ env.cells.lookup x = some c) ∧ ∀ x, (x, NameKind.free) ∈ scope.names → ∃ c, cl.lookup x = some c := by
 obtain ⟨cl, e, h1, h2⟩ := zfv (env := env) (λx cs => if (x.2 == NameKind.free) = true then (do let a ← cellOf env x.1; pure (.yield ((x.1, a) :: cs))) else pure (.yield cs)) (λ_ _ _ => rfl) scope.names [] h
 refine ⟨cl, ?_, λx c q => ?_, λx q => h2 x (.inl q)⟩
 · unfold closureFor
   show (forIn scope.names [] _ >>= λcs => pure cs) = _
   rw [show (forIn scope.names ([] : List (Str × Addr)) _ : Sem (List (Str × Addr))) = _ from e]
   rfl
 · rcases h1 x c q with z | z
   · simp at z
   · exact z
theorem zb3 {env : Env} : ∀ {names : List (Str × NameKind)} {x : Str},
   (names.map λ(n, k) => if (k == NameKind.free && env.scope.kind == .function && env.kindOf n == some .cell) then (n, NameKind.cell) else (n, k)).lookup x =
     (names.lookup x).map λk => if (k == NameKind.free && env.scope.kind == .function && env.kindOf x == some .cell) then NameKind.cell else k
 | [], _ => rfl
 | (n, k) :: r, x => by
   have ih := @zb3 env r x
   show List.lookup x ((if (k == NameKind.free && env.scope.kind == .function && env.kindOf n == some .cell) = true then (n, NameKind.cell) else (n, k)) :: _) = _
   cases hx : x == n with
   | true =>
     obtain rfl : x = n := by simpa using hx
     by_cases hc : (k == NameKind.free && env.scope.kind == .function && env.kindOf x == some .cell) = true
     · rw [if_pos hc]; simp only [List.lookup_cons, hx, Option.map_some, if_pos hc]
     · rw [if_neg hc]; simp only [List.lookup_cons, hx, Option.map_some, if_neg hc]
   | false =>
     by_cases hc : (k == NameKind.free && env.scope.kind == .function && env.kindOf n == some .cell) = true
     · rw [if_pos hc]; simp only [List.lookup_cons, hx]; exact ih
     · rw [if_neg hc]; simp only [List.lookup_cons, hx]; exact ih
theorem zgY {M : Model} {A : Around} {E : Value → Shared → Prop} {s : Shared} {scope : Scope} {globals : Addr} {cl : List (Str × Addr)} {qual : Str} {env : Env} {Q : Env → Shared → Prop}
   (h : Q { scope := scope, locals := s.heap.objs.size, globals := globals, cells := cellsFrom (s.heap.objs.size + 1) scope.names cl, qual := qual, func := none, code := env.code, frame := env.frame, builtins := env.builtins }
     { s with heap := pushCells (s.heap.push { cls := .type "dict", data := .dict #[] }) scope.names }) :
   wpAny M A (newFunctionEnv scope globals cl [] qual none .none (some env)) Q E s := by
 simp only [newFunctionEnv, Option.isSome_some, if_true]
 refine wpAny_bind (wpAny_alloc ?_)
 refine wpAny_bind (wpAny_layCells _ (λname kind cells => by cases hkc : kind == NameKind.cell <;> simp [hkc]) _ _ _ _ ?_)
 rw [show ({ s with heap := s.heap.push { cls := .type "dict", data := .dict #[] } } : Shared).heap.objs.size = s.heap.objs.size + 1 from Heap.size_push ..]
 rw [List.forIn_nil]
 exact wpAny_bind (wpAny_pure (wpAny_pure h))
structure CompOk (X : Cx) (scope : Scope) (N' : List Str) (src : List (Option Nat)) : Prop where
 kind : scope.kind = .function
 uniq : ∀ y ∈ scope.names, scope.names.lookup y.1 = some y.2
 free : ∀ y ∈ scope.names, y.2 = .free → (X.env.kindOf y.1 = some .cell ∨ X.env.kindOf y.1 = some .free)
 len : src.length = N'.length
 src : ∀ (j i : Nat) x, N'[j]? = some x → src[j]? = some (some i) → X.N[i]? = some x ∧ scope.names.lookup x = some .free
def srcV (src : List (Option Nat)) (σ : L2.St) : L2.St := src.map λo => o.bind λi => (σ[i]?).join
def compCx (X : Cx) (scope : Scope) (N' : List Str) (cl : List (Str × Addr)) (s₂ : Shared) (H₂ : Hp) (fp : List Addr) : Cx where
 prog := X.prog
 w := X.w
 K := X.K
 mg := X.mg
 base := X.base
 A := X.A
 N := N'
 s₀ := s₂
 H₀ := H₂
 env := { scope := relabel scope X.env, locals := s₂.heap.objs.size + 1, globals := X.env.globals, cells := cellsFrom (s₂.heap.objs.size + 1 + 1) scope.names cl, qual := X.env.qual, func := none, code := X.env.code, frame := X.env.frame, builtins := X.env.builtins }
 outer := X.stack
 stack := X.stack
 ex := fp
 fn := λx => decide (scope.names.lookup x = some .cell)
 calm := X.calm
 pn := []
 xe := λ_ _ => False
structure IsComp (X : Cx) (scope : Scope) (N' : List Str) (Y : Cx) : Prop where
 prog : Y.prog = X.prog
 w : Y.w = X.w
 K : Y.K = X.K
 mg : Y.mg = X.mg
 base : Y.base = X.base
 A : Y.A = X.A
 N : Y.N = N'
 sc : Y.env.scope = relabel scope X.env
 calm : Y.calm = X.calm
 fn : ∀ x, scope.names.lookup x = some .cell → Y.fn x = true
section
variable {X : Cx} {pins : List (Addr × Obj)} {σ : L2.St} {H : Hp} {s : Shared} {scope : Scope} {N' : List Str} {src : List (Option Nat)} {cl : List (Str × Addr)} {fp : List Addr}
theorem zio : IsComp X scope N' (compCx X scope N' cl s H fp) := ⟨rfl, rfl, rfl, rfl, rfl, rfl, rfl, rfl, rfl, λx h => decide_eq_true h⟩
theorem zjG (I : Inv X pins σ H s) (hf : ∀ b ∈ fp, FpOk X pins H b) (hfe : ∀ b ∈ fp, ∃ o, s.heap.get? b = some o) (ok : CompOk X scope N' src)
   (h1 : ∀ x c, cl.lookup x = some c → (x, NameKind.free) ∈ scope.names ∧ X.env.cells.lookup x = some c) (h2 : ∀ x, (x, NameKind.free) ∈ scope.names → ∃ c, cl.lookup x = some c) {l : Obj} :
   Inv (compCx X scope N' cl s H fp) [] (srcV src σ) H { s with heap := pushCells ((s.heap.push l).push { cls := .type "dict", data := .dict #[] }) scope.names } := by
 have hC : ((s.heap.push l).objs.size) = s.heap.objs.size + 1 := Heap.size_push ..
 have keep : ∀ b o, s.heap.get? b = some o → (pushCells ((s.heap.push l).push { cls := .type "dict", data := .dict #[] }) scope.names).get? b = some o := λb o e =>
   pushCells_keeps _ _ b o (Heap.get?_push_of_some _ (Heap.get?_push_of_some _ e))
 have okc := cellsFrom_ok scope.names ((s.heap.push l).push { cls := .type "dict", data := .dict #[] }) (s.heap.objs.size + 1 + 1) [] ⟨λ_ _ hm => (nomatch hm), List.Pairwise.nil⟩ (by rw [Heap.size_push, hC]; exact Nat.le_refl _)
 rw [Heap.size_push, hC] at okc
 have cells : ∀ x c, (compCx X scope N' cl s H fp).env.cells.lookup x = some c → ((cellsFrom (s.heap.objs.size + 1 + 1) scope.names []).lookup x = some c ∧ s.heap.objs.size + 1 + 1 ≤ c ∧ (x, NameKind.cell) ∈ scope.names) ∨ (X.env.cells.lookup x = some c ∧ (x, NameKind.free) ∈ scope.names) := λx c e => by
   rcases zew e with z | ⟨_, z⟩
   · have := zgU (PySem.mem_of_lookup z)
     exact .inl ⟨z, this.1, this.2⟩
   · exact .inr ⟨(h1 x c z).2, (h1 x c z).1⟩
 have oldc : ∀ x c, X.env.cells.lookup x = some c → c < s.heap.objs.size := λx c e => by
   obtain ⟨v, q⟩ := I.cell x c e
   exact q.lt
 have rel : ∀ x, (compCx X scope N' cl s H fp).env.kindOf x = (scope.names.lookup x).map λk => if (k == NameKind.free && X.env.scope.kind == .function && X.env.kindOf x == some .cell) then NameKind.cell else k := λx => zb3
 have fpl : ∀ b ∈ fp, b < s.heap.objs.size := λb hb => by
   obtain ⟨o, e⟩ := hfe b hb
   exact Heap.lt_size e
 have cap : ∀ x y c, (compCx X scope N' cl s H fp).env.cells.lookup x = some c → (compCx X scope N' cl s H fp).env.cells.lookup y = some c → x = y := λx y c ex ey => by
   rcases cells x c ex with ⟨z1, l1, m1⟩ | ⟨z1, m1⟩ <;> rcases cells y c ey with ⟨z2, l2, m2⟩ | ⟨z2, m2⟩
   · exact name_of_addr okc.apart (PySem.mem_of_lookup z1) (PySem.mem_of_lookup z2)
   · exact absurd (Nat.lt_of_lt_of_le (oldc y c z2) (Nat.le_trans (Nat.le_add_right _ 2) l1)) (Nat.lt_irrefl _)
   · exact absurd (Nat.lt_of_lt_of_le (oldc x c z1) (Nat.le_trans (Nat.le_add_right _ 2) l2)) (Nat.lt_irrefl _)
   · exact I.ok.inj x y c z1 z2
 have hlast : (pushCells ((s.heap.push l).push { cls := .type "dict", data := .dict #[] }) scope.names).Ns (s.heap.objs.size + 1) (λ_ => none) := by
   have q : ((s.heap.push l).push { cls := .type "dict", data := .dict #[] }).Ns (s.heap.push l).objs.size (λ_ => none) := Heap.Ns.new (s.heap.push l) (.type "dict")
   rw [hC] at q
   exact q.keeps (pushCells_keeps _ _)
 refine ⟨⟨I.ok.mod, ok.kind, I.ok.glob, I.ok.blt, Nat.le_succ _, cap, λx hx => ?_, λx c hx e => ?_, I.ok.hd, I.ok.frames, .inl rfl, λb hb => ?_, I.bs, Nat.le_trans I.ok.bsz I.sz, λb o e hb => ?_, λb hb => ?_, I.stack, I.stkFree⟩,
   rfl, I.bare, Un.kept keep, ⟨_, hlast, λi x v e1 e2 e3 => ?_⟩, λx c e => ?_, I.hok.fresh (Nat.le_succ _), λx c e => ?_, λp hp => absurd (show p ∈ ([] : List (Addr × Obj)) from hp) (by simp), I.hok.kept keep, ?_⟩
 · -- has
   rw [rel] at hx
   have hk : scope.names.lookup x = some .cell ∨ scope.names.lookup x = some .free := by
     cases q : scope.names.lookup x with
     | none => rw [q] at hx; simp at hx
     | some k =>
       rw [q] at hx
       simp only [Option.map_some, Option.some.injEq] at hx
       by_cases hk : k = .free
       · exact .inr (by rw [hk])
       · have hb : (k == NameKind.free) = false := by simpa using hk
         simp only [hb, Bool.false_and, Bool.false_eq_true, if_false] at hx
         rcases hx with hx | hx
         · exact .inl (by rw [hx])
         · exact absurd hx hk
   show ∃ c, (cellsFrom (s.heap.objs.size + 1 + 1) scope.names cl).lookup x = some c
   rw [zd3, zbl]
   rcases hk with hk | hk
   · obtain ⟨c, hc⟩ := Option.isSome_iff_exists.mp (PySem.W.cellsFrom_some scope.names (s.heap.objs.size + 1 + 1) [] (.inl hk))
     exact ⟨c, by rw [hc]; rfl⟩
   · obtain ⟨c, hc⟩ := h2 x (PySem.mem_of_lookup hk)
     cases q : (cellsFrom (s.heap.objs.size + 1 + 1) scope.names []).lookup x with
     | some d => exact ⟨d, rfl⟩
     | none => exact ⟨c, hc⟩
 · -- cab
   have hx' : scope.names.lookup x = some .cell := of_decide_eq_true hx
   rcases cells x c e with ⟨_, l1, _⟩ | ⟨_, m1⟩
   · show s.heap.objs.size ≤ c; omega
   · rw [ok.uniq _ m1] at hx'; cases hx'
 · -- exf
   refine ⟨?_, λx c e z => ?_⟩
   · exact Nat.ne_of_lt (Nat.lt_succ_of_lt (fpl b hb))
   · subst z
     rcases cells x c e with ⟨_, l1, _⟩ | ⟨z1, _⟩
     · exact absurd (Nat.lt_of_lt_of_le (fpl c hb) (Nat.le_trans (Nat.le_add_right _ 2) l1)) (Nat.lt_irrefl _)
     · exact (hf c hb).2.2.2.2.1 x c z1 rfl
 · -- noex
   obtain ⟨_, _, _, q, _⟩ := hf b hb
   rcases q with q | q
   · exact I.ok.noex b o e q
   · exact absurd (Nat.lt_of_lt_of_le (Nat.lt_of_lt_of_le (Heap.lt_size e) I.ok.bsz) q) (Nat.lt_irrefl _)
 · -- exfs
   intro z
   obtain ⟨_, f1, f2, _⟩ := hf b hb
   exact (List.mem_cons.mp (I.stkSub b z)).elim f1 f2
 · -- loc
   have e1' : N'[i]? = some x := e1
   obtain ⟨j, hj, hv⟩ : ∃ j, src[i]? = some (some j) ∧ σ[j]? = some (some v) := by
     unfold srcV at e2
     rw [List.getElem?_map] at e2
     cases q : src[i]? with
     | none => rw [q] at e2; simp at e2
     | some o =>
       rw [q] at e2
       cases o with
       | none => simp at e2
       | some j =>
         refine ⟨j, rfl, ?_⟩
         simp only [Option.map_some, Option.bind_some, Option.some.injEq] at e2
         cases q2 : σ[j]? with
         | none => rw [q2] at e2; simp at e2
         | some o2 => rw [q2] at e2; simp at e2; rw [e2]
   obtain ⟨hN, hfr⟩ := ok.src i j x e1' hj
   have hm := PySem.mem_of_lookup hfr
   have hk := ok.free _ hm rfl
   obtain ⟨m, hn, hl⟩ := I.loc
   obtain ⟨u, ru, lk⟩ := hl j x v hN hv (by rcases hk with hk | hk; exact .inr (.inl hk); exact .inr (.inr hk))
   refine ⟨u, ru, .inr ⟨?_, ?_⟩⟩
   · rw [rel, hfr]
     simp only [Option.map_some]
     split
     · exact .inl rfl
     · exact .inr rfl
   · rcases lk with ⟨q, _⟩ | ⟨_, c, hc, hcell⟩
     · rcases hk with hk | hk <;> (rw [q] at hk; cases hk)
     · refine ⟨c, ?_, hcell.keeps keep⟩
       show (cellsFrom (s.heap.objs.size + 1 + 1) scope.names cl).lookup x = some c
       rw [zd3, zbl]
       have hnone : (cellsFrom (s.heap.objs.size + 1 + 1) scope.names []).lookup x = none := by
         cases q : (cellsFrom (s.heap.objs.size + 1 + 1) scope.names []).lookup x with
         | none => rfl
         | some d =>
           have := ok.uniq _ (zgU (PySem.mem_of_lookup q)).2
           rw [hfr] at this; cases this
       rw [hnone]
       obtain ⟨c', hc'⟩ := h2 x hm
       have := (h1 x c' hc').2
       rw [hc] at this; cases this
       exact hc'
 · -- cell
   rcases cells x c e with ⟨z1, _, _⟩ | ⟨z1, _⟩
   · exact ⟨none, (okc.empty x c (PySem.mem_of_lookup z1)).1⟩
   · obtain ⟨v, q⟩ := I.cell x c z1
     exact ⟨v, q.keeps keep⟩
 · -- freeC
   rcases cells x c e with ⟨_, l1, _⟩ | ⟨z1, _⟩
   · exact I.hok.fresh (by omega)
   · exact I.freeC x c z1
 · -- len
   show (srcV src σ).length = N'.length
   unfold srcV
   rw [List.length_map]; exact ok.len
end
theorem zgo {prog : Program} {w : World} {A : Around} {R : Result → Shared → Prop} {s : Shared} {elt target iter : Expr} {ifs : List Expr} {scope : Scope} {pos : Pos} {it acc : Value} {env : Env} (I : Nat → Shared → Prop)
   (turn : ∀ n s, I n s → wpAny (model prog w) A (pyNext it) (λr s₁ => match r with
     | none => R (.ok .next) s₁
     | some v => wpAny (model prog w) A (letOwnedTupleGo target it v) (λ_ s₀ => wpAny (model prog w) A (assign target env v) (λ_ s₂ =>
         wpAny (model prog w) A (forIn ifs true λc r => if r = true then do let ok ← isTrue c env (eval c env); pure (ForInStep.yield ok) else pure (ForInStep.yield r)) (λok s₃ =>
           if ok = true then wpAny (model prog w) A (eval elt env) (λx s₄ =>
             wpAny (model prog w) A (call (.builtin "list.append") [acc, x]) (λ_ s₅ => ∃ m, m < n ∧ I m s₅) (λ_ _ => False) s₄) (λ_ _ => False) s₃
           else ∃ m, m < n ∧ I m s₃) (λ_ _ => False) s₂) (λ_ _ => False) s₀) (λ_ _ => False) s₁) (λ_ _ => False) s)
   (n : Nat) (h : I n s) :
   codeAny (model prog w) A (.compLoop (.ListComp elt [⟨target, iter, ifs, 0⟩] scope pos) 0 it acc env) R s := by
 refine codeAny_loop rfl I (λn s hI => ?_) n h
 show wpAny _ A ((compTurn (.ListComp elt [⟨target, iter, ifs, 0⟩] scope pos) 0 it acc env).onRaise (λx => do noteFrame x env; theTreesLotGoes x)) _ _ s
 refine wpAny_noted ?_
 rw [compTurn_list]
 refine wpAny_bind (wpAny_standAt (wpAny_bind (wpAny_mono (turn n s hI) (λr s₁ h₁ => ?_) λ_ _ h' => h'.elim)))
 cases r with
 | none => exact wpAny_pure h₁
 | some v =>
   refine wpAny_bind (wpAny_mono h₁ (λ_ s₀ h₀ => ?_) λ_ _ h' => h'.elim)
   refine wpAny_bind (wpAny_mono h₀ (λ_ s₂ h₂ => wpAny_bind (wpAny_mono h₂ (λok s₃ h₃ => ?_) λ_ _ h' => h'.elim)) λ_ _ h' => h'.elim)
   cases ok with
   | false => exact wpAny_pure ⟨rfl, h₃⟩
   | true =>
     exact wpAny_bind (wpAny_bind (wpAny_mono h₃ (λx s₄ h₄ => wpAny_bind (wpAny_mono h₄ (λ_ s₅ h₅ => wpAny_pure (wpAny_pure ⟨rfl, h₅⟩)) λ_ _ h' => h'.elim)) λ_ _ h' => h'.elim))
def PTs (X : Cx) (ifs : List Expr) (t : TT) : Prop :=
 ∀ (pins : List (Addr × Obj)) (s : Shared) (σ : L2.St) (H : Hp) (Q : Bool → Hp → Prop), Inv X pins σ H s → t σ H Q →
   wpAny (model X.prog X.w) X.A (forIn ifs true λc r => if r = true then do let ok ← isTrue c X.env (eval c X.env); pure (ForInStep.yield ok) else pure (ForInStep.yield r)) (TP X pins σ Q) X.xe s
theorem zk1 {X : Cx} : PTs X [] (λ_ H Q => Q true H) := λ_ _ _ H _ I h => wpAny_tests_nil ⟨H, I, h⟩
theorem zk0 {X : Cx} {c : Expr} {t : TT} (h : PT X c t) : PTs X [c] t := λpins s σ H Q I q => wpAny_tests_one (h pins s σ H Q I q)
def LcW (J : It) (g : TG) (tt : TT) (te : TE) (Fin : List V → Hp → Prop) (W : Nat → Nat → List V → L2.St → Hp → Prop) : Prop :=
 ∀ i m ys τ H, W i m ys τ H → (J.stop i H ∧ Fin ys H) ∨ (J.go i H ∧ ys.length < sizeLine ∧ ∀ x H', J.yld i H x H' → g x τ H' λτ2 H2 => tt τ2 H2 λb H3 =>
   if b = true then te τ2 H3 λy H4 => ∃ m', m' < m ∧ W (i + 1) m' (ys ++ [y]) τ2 H4 else ∃ m', m' < m ∧ W (i + 1) m' ys τ2 H3)
theorem HOk.track {P : Program} {w : World} {H : Hp} {h : Heap} {a : Addr} {o : HO} (x : HOk P w H h) (hn : H a = none) (new : ObjOk P w (upd H a o) h a o) : HOk P w (upd H a o) h := λb u e => by
 by_cases hb : b = a
 · subst hb; rw [zaw] at e; cases e; exact new
 · rw [zaq hb] at e
   exact (x b u e).stay (λc v _ q => q) (λc q => by rw [zaq (zan q hn)]; exact q) λc xs q => by rw [zaq (zan q hn)]; exact q
theorem Un.track {fs ex : List Addr} {H H' : Hp} {h h' : Heap} {a : Addr} {o : HO} (u : Un fs ex H H' h h') (hn : H' a = none) (ha : h.get? a = none) : Un fs ex H (upd H' a o) h h' where
 keep := u.keep
 slot := u.slot
 free := λb ob q n hx => by
   rw [zaq (λz => by rw [z, ha] at q; cases q)]
   exact u.free b ob q n hx
 there := u.there
 tups := λb xs q => by rw [zaq (zan (u.tups b xs q) hn)]; exact u.tups b xs q
 frzs := λb ob xs q => by rw [zaq (zan (u.frzs b ob xs q) hn)]; exact u.frzs b ob xs q
 tbls := λb ps q => by
   obtain ⟨m, e⟩ := u.tbls b ps q
   exact ⟨m, by rw [zaq (zan e hn)]; exact e⟩
theorem zfQ {X : Cx} {pins : List (Addr × Obj)} {σ : L2.St} {H : Hp} {s : Shared} {scope : Scope} {N' : List Str} {src : List (Option Nat)} {cl : List (Str × Addr)} {fp : List Addr} {elt tg iter : Expr} {ifs : List Expr} {pos : Pos}
   {J : It} {it : Addr} {tn : Nat → Heap → Prop} {g : TG} {tt : TT} {te : TE} {Fin : List V → Hp → Prop} {W : Nat → Nat → List V → L2.St → Hp → Prop} {RR : Value → Addr → Result → Shared → Prop} {E : Value → Shared → Prop}
   (hc : X.calm = true) (ok : CompOk X scope N' src) (I : Inv X pins σ H s) (T : Turn X.prog X.w X.K tg J fp it tn) (st : tn 0 s.heap) (hf : ∀ b ∈ fp, FpOk X pins H b)
   (h1 : ∀ x c, cl.lookup x = some c → (x, NameKind.free) ∈ scope.names ∧ X.env.cells.lookup x = some c) (h2 : ∀ x, (x, NameKind.free) ∈ scope.names → ∃ c, cl.lookup x = some c)
   (hY : ∀ Y, IsComp X scope N' Y → PG Y tg g ∧ PTs Y ifs tt ∧ PE Y elt te)
   (w0 : ∃ m, W 0 m [] (srcV src σ) H) (turn : LcW J g tt te Fin W)
   (hRR : ∀ ys H' s' oC m, H' s.heap.objs.size = none → LCg.NsObj oC m → Inv X (pins ++ [(s.heap.objs.size + 1, oC)]) σ (upd H' s.heap.objs.size (.lst ys)) s' → Fin ys H' → RR (.ref s.heap.objs.size) (s.heap.objs.size + 1) (.ok .next) s') :
   wpAny (model X.prog X.w) X.A (newList []) (λacc s₃ => wpAny (model X.prog X.w) X.A (newFunctionEnv scope X.env.globals cl [] X.env.qual none .none (some X.env)) (λcenv s₄ =>
     codeAny (model X.prog X.w) X.A (.compStart (.ListComp elt [⟨tg, iter, ifs, 0⟩] scope pos) 0 (.ref it) acc { cenv with scope := relabel scope X.env }) (RR acc cenv.locals) s₄) E s₃) E s := by
 have hfe : ∀ b ∈ fp, ∃ o, s.heap.get? b = some o := λb hb => by
   obtain ⟨o, e, _⟩ := T.obj _ _ st b hb
   exact ⟨o, e⟩
 refine wpAny_newObj_type (zgY ?_)
 have hC : (s.heap.push { cls := .type "list", dict := none, data := .seq ([] : List Value).toArray }).objs.size = s.heap.objs.size + 1 := Heap.size_push ..
 dsimp only
 rw [hC]
 have I0 : Inv (compCx X scope N' cl s H fp) [] (srcV src σ) H { s with heap := pushCells ((s.heap.push { cls := .type "list", dict := none, data := .seq ([] : List Value).toArray }).push { cls := .type "dict", data := .dict #[] }) scope.names } :=
   zjG I hf hfe ok h1 h2
 have isY : IsComp X scope N' (compCx X scope N' cl s H fp) := zio
 obtain ⟨hg, ht, he⟩ := hY _ isY
 generalize hYe : compCx X scope N' cl s H fp = Y at I0 isY hg ht he
 have eP : Y.prog = X.prog := isY.prog
 have ew : Y.w = X.w := isY.w
 have eA : Y.A = X.A := isY.A
 have eK : Y.K = X.K := isY.K
 have ecalm : Y.calm = true := isY.calm.trans hc
 have eenv : Y.env = { scope := relabel scope X.env, locals := s.heap.objs.size + 1, globals := X.env.globals, cells := cellsFrom (s.heap.objs.size + 1 + 1) scope.names cl, qual := X.env.qual, func := none, code := X.env.code, frame := X.env.frame, builtins := X.env.builtins } := by rw [← hYe]; rfl
 have exe : Y.xe = λ_ _ => False := by rw [← hYe]; rfl
 have efs : Y.fs = frs X.stack := by rw [← hYe]; rfl
 have eex : Y.ex = fp := by rw [← hYe]; rfl
 have es0 : Y.s₀ = s := by rw [← hYe]; rfl
 have eH0 : Y.H₀ = H := by rw [← hYe]; rfl
 have epn : Y.pn = [] := by rw [← hYe]; rfl
 have eL : Y.env.locals = s.heap.objs.size + 1 := by rw [eenv]
 rw [← eenv]
 have fpl : ∀ b ∈ fp, b < s.heap.objs.size := λb hb => by
   obtain ⟨o, e⟩ := hfe b hb
   exact Heap.lt_size e
 have hD : ∀ (τ : L2.St) (H' : Hp) (s' : Shared) (pn : List (Addr × Obj)), Inv Y pn τ H' s' → ∀ x c, Y.env.cells.lookup x = some c → c ≠ s.heap.objs.size := λτ H' s' pn J' x c e z => by
   have e' := e
   rw [eenv] at e'
   rcases zew e' with q | ⟨_, q⟩
   · have := (zgU (PySem.mem_of_lookup q)).1
     rw [z] at this
     exact absurd (Nat.lt_of_lt_of_le (Nat.lt_succ_self _) (Nat.le_trans (Nat.le_succ _) this)) (Nat.lt_irrefl _)
   · obtain ⟨v, q'⟩ := I.cell x c (h1 x c q).2
     have := q'.lt
     rw [z] at this
     exact absurd this (Nat.lt_irrefl _)
 have stat : ∀ {H' : Hp} {pn : List (Addr × Obj)}, (∀ b ∈ fp, H' b = none) → (∀ p ∈ pn, p.1 = s.heap.objs.size) → ∀ b ∈ fp, FpOk Y pn H' b := λ{H' pn} hn hp b hb => by
   refine ⟨hn b hb, ?_, ?_, .inl (by rw [eex]; exact hb), λx c e z => ?_, λp hm z => ?_⟩
   · rw [eL]; exact Nat.ne_of_lt (Nat.lt_succ_of_lt (fpl b hb))
   · rw [efs]
     intro z
     exact (List.mem_cons.mp (I.stkSub b z)).elim (hf b hb).2.1 (hf b hb).2.2.1
   · subst z
     rw [eenv] at e
     rcases zew e with q | ⟨_, q⟩
     · have := (zgU (PySem.mem_of_lookup q)).1
       exact absurd (Nat.lt_of_lt_of_le (fpl c hb) (Nat.le_trans (Nat.le_add_right _ 2) this)) (Nat.lt_irrefl _)
     · exact (hf c hb).2.2.2.2.1 x c (h1 x c q).2 rfl
   · rw [epn, List.nil_append] at hm
     have e1 := hp p hm
     rw [e1] at z
     have := fpl b hb
     rw [← z] at this
     exact absurd this (Nat.lt_irrefl _)
 obtain ⟨m0, w0⟩ := w0
 have loop : ∀ s₃ : Shared, s₃ = { s with heap := pushCells ((s.heap.push { cls := .type "list", dict := none, data := .seq ([] : List Value).toArray }).push { cls := .type "dict", data := .dict #[] }) scope.names } →
     codeAny (model X.prog X.w) X.A (.compLoop (.ListComp elt [⟨tg, iter, ifs, 0⟩] scope pos) 0 (.ref it) (.ref s.heap.objs.size) Y.env) (RR (.ref s.heap.objs.size) (s.heap.objs.size + 1)) s₃ := by
   rintro s₃ rfl
   refine zgo (λn s' => ∃ i ys τ H' its k, Inv Y [(s.heap.objs.size, { cls := .type "list", data := .seq (List.toArray its) k })] τ H' s' ∧ Vals ys its ∧ ys.length ≤ sizeLine ∧ tn i s'.heap ∧ (∀ b ∈ fp, H' b = none) ∧ W i n ys τ H') ?_ m0 ?_
   · rintro n s3 ⟨i, ys, τ, H3, its, k, I3, rv, hlen, st3, fr3, w3⟩
     have fo3 := stat fr3 (pn := [(s.heap.objs.size, { cls := .type "list", data := .seq (List.toArray its) k })]) (by simp)
     rcases turn i n ys τ H3 w3 with ⟨stop, fin⟩ | ⟨go, hlt, step⟩
     · have q := T.done Y eP ew eK ecalm i _ s3 τ H3 (λ_ _ => False) I3 fo3 st3 stop
       rw [eA] at q
       refine thn q λr s4 ⟨hr, I4⟩ => ?_
       subst hr
       obtain ⟨oD, nD, _⟩ := I4.pin (s.heap.objs.size, { cls := .type "list", data := .seq (List.toArray its) k }) (by rw [epn]; simp)
       obtain ⟨m, hn, _⟩ := I4.loc
       rw [eL] at hn
       obtain ⟨oC, heC, hoC⟩ := LCg.ns_obj hn
       have un := I4.base
       rw [efs, eex, eH0, es0] at un
       have hfresh : s.heap.get? s.heap.objs.size = none := by
         cases q : s.heap.get? s.heap.objs.size with
         | none => rfl
         | some o => exact absurd (Heap.lt_size q) (Nat.lt_irrefl _)
       have hok := I4.hok
       rw [eP, ew] at hok
       have hCn : H3 (s.heap.objs.size + 1) = none := by have := I4.free; rw [eL] at this; exact this
       have I5 : Inv X pins σ (upd H3 s.heap.objs.size (.lst ys)) s4 := by
         refine I.call' (ch := fp) (by have := I4.os; rw [es0] at this; exact this) (Un.track un nD hfresh) (HOk.track hok nD ⟨hlen, its, k, rv, oD⟩) I4.bare λb hb => ?_
         exact ⟨(hf b hb).2.2.2.1, (hf b hb).2.1, (hf b hb).2.2.2.2.1, (hf b hb).2.2.2.2.2⟩
       refine hRR ys H3 s4 oC m nD hoC ?_ fin
       refine I5.pins_of λp hp => ?_
       rcases List.mem_append.mp hp with z | z
       · exact I5.pin p (List.mem_append_right _ z)
       · have e : p = (s.heap.objs.size + 1, oC) := by simpa using z
         subst e
         have fo := I.fpOk (b := s.heap.objs.size + 1) (H' := upd H3 s.heap.objs.size (.lst ys)) (Nat.le_succ _) (by rw [zaq (Nat.ne_of_gt (Nat.lt_succ_self _))]; exact hCn)
         obtain ⟨es, ep, hd, _⟩ := hoC
         exact ⟨heC, fo.1, fo.2.1, fo.2.2.1, λv z => by rw [hd] at z; cases z⟩
     · have q := T.item Y eP ew eK ecalm i _ s3 τ H3 (λ_ _ => False) I3 fo3 st3 go
       rw [eA] at q
       refine thn q λr s4 ⟨u, hr, h4⟩ => ?_
       subst hr
       refine thn h4 λ_ s5 ⟨x, H5, I5, r5, y5, st5, fr5⟩ => ?_
       have fo5 := stat fr5 (pn := [(s.heap.objs.size, { cls := .type "list", data := .seq (List.toArray its) k })]) (by simp)
       have I5' := I5.pinned fo5 (T.obj _ _ st5)
       have q := hg _ s5 τ H5 x u _ I5' r5 (step x H5 y5)
       rw [eP, ew, eA, exe] at q
       refine thn q λ_ s6 ⟨τ6, H6, I6, q6⟩ => ?_
       have q := ht _ s6 τ6 H6 _ I6 q6
       rw [eP, ew, eA, exe] at q
       refine thn q λb s7 ⟨H7, I7, q7⟩ => ?_
       have after : ∀ {τ8 : L2.St} {H8 : Hp} {s8 : Shared}, Inv Y ([(s.heap.objs.size, { cls := .type "list", data := .seq (List.toArray its) k })] ++ pinsAt fp s5.heap) τ8 H8 s8 →
           tn (i + 1) s8.heap ∧ (∀ b ∈ fp, H8 b = none) ∧ s8.heap.get? s.heap.objs.size = some { cls := .type "list", data := .seq (List.toArray its) k } ∧ H8 s.heap.objs.size = none := λ{τ8 H8 s8} I8 => by
         have pi : ∀ b ∈ fp, ∀ o, s5.heap.get? b = some o → s8.heap.get? b = some o ∧ H8 b = none := λb hb o e => by
           have := I8.pin (b, o) (List.mem_append_right _ (List.mem_append_right _ (zdF hb e)))
           exact ⟨this.1, this.2.1⟩
         have pd := I8.pin (s.heap.objs.size, { cls := .type "list", data := .seq (List.toArray its) k }) (List.mem_append_right _ (List.mem_append_left _ (by simp)))
         refine ⟨T.keep _ _ _ st5 λb hb o e => (pi b hb o e).1, λb hb => ?_, pd.1, pd.2.1⟩
         obtain ⟨o, e, d⟩ := T.obj _ _ st5 b hb
         exact (pi b hb o e).2
       cases b with
       | false =>
         rw [if_neg Bool.false_ne_true]
         rw [if_neg Bool.false_ne_true] at q7
         obtain ⟨m', hm, w7⟩ := q7
         obtain ⟨a1, a2, _, _⟩ := after I7
         exact ⟨m', hm, i + 1, ys, τ6, H7, its, k, I7.unpinned, rv, hlen, a1, a2, w7⟩
       | true =>
         rw [if_pos rfl]
         rw [if_pos rfl] at q7
         have q := he _ s7 τ6 H7 _ I7 q7
         rw [eP, ew, eA, exe] at q
         refine thn q λv s8 ⟨y, H8, I8, r8, m', hm, w8⟩ => ?_
         obtain ⟨a1, a2, aD, nD⟩ := after I8
         refine append_at (hsz := by rw [List.size_toArray, ← rv.length]; exact hlen) aD λh9 sb9 e9 => ?_
         have hne : s.heap.objs.size ≠ Y.env.locals := by rw [eL]; exact Nat.ne_of_lt (Nat.lt_succ_self _)
         have I8' : Inv Y [] τ6 H8 s8 := I8.pins_of λp hp => absurd hp (by simp)
         have I9 : Inv Y [] τ6 H8 { s8 with heap := h9 } := I8'.turned (t' := s8.toks) (λb o hb e => sb9.extBut b o hb e) nD hne (.inr (by rw [es0]; exact Nat.le_refl _)) (λx c e => hD _ _ _ _ I8 x c e) (by rw [epn]; simp)
         have I10 : Inv Y [(s.heap.objs.size, { cls := .type "list", data := .seq (List.toArray (its ++ [v])) (k + 1) })] τ6 H8 { s8 with heap := h9 } := I9.pins_of λp hp => by
           have e : p = (s.heap.objs.size, { cls := .type "list", data := .seq (List.toArray (its ++ [v])) (k + 1) }) := by simpa using hp
           subst e
           refine ⟨by rw [← List.push_toArray]; exact e9, nD, hne, ?_, λv z => by cases z⟩
           rw [efs]
           intro z
           rcases List.mem_cons.mp (I.stkSub _ z) with z | z
           · exact absurd I.lt (by rw [← z]; exact Nat.lt_irrefl _)
           · exact I.nofs (Nat.le_refl _) z
         refine ⟨m', hm, i + 1, ys ++ [y], τ6, H8, its ++ [v], k + 1, I10, rv.append (.cons r8 .nil), by rw [List.length_append]; exact hlt, ?_, a2, w8⟩
         exact T.keep _ _ _ a1 λb hb o e => sb9.extBut b o (Nat.ne_of_lt (fpl b hb)) e
   · refine ⟨0, [], srcV src σ, H, [], 0, ?_, .nil, Nat.zero_le _, ?_, λb hb => (hf b hb).1, w0⟩
     · refine I0.pins_of λp hp => ?_
       have e : p = (s.heap.objs.size, { cls := .type "list", data := .seq (List.toArray []) 0 }) := by simpa using hp
       subst e
       refine ⟨pushCells_keeps _ _ _ _ (Heap.get?_push_of_some _ (Heap.get?_push_size _ rfl)), I.hok.fresh (Nat.le_refl _), by rw [eL]; exact Nat.ne_of_lt (Nat.lt_succ_self _), ?_, λv z => by cases z⟩
       rw [efs]
       intro z
       rcases List.mem_cons.mp (I.stkSub _ z) with z | z
       · exact absurd I.lt (by rw [← z]; exact Nat.lt_irrefl _)
       · exact I.nofs (Nat.le_refl _) z
     · exact T.keep _ _ _ st λb hb o e => pushCells_keeps _ _ _ _ (Heap.get?_push_of_some _ (Heap.get?_push_of_some _ e))
 exact codeAny_compStart_list (loop _ rfl) (T.self _ 0 _ _ _ (T.keep _ _ _ st λb hb o e => pushCells_keeps _ _ _ _ (Heap.get?_push_of_some _ (Heap.get?_push_of_some _ e))) (loop _ rfl))
def tLc (wi : TI) (g : TG) (tt : TT) (te : TE) (src : List (Option Nat)) : TE := λσ H Q => wi σ H λJ H1 => ∃ W, (∃ m, W 0 m [] (srcV src σ) H1) ∧
 LcW J g tt te (λys H' => ∀ p, H' p = none → Q (.ref p) (upd H' p (.lst ys))) W
section
variable {X : Cx} {elt tg iter : Expr} {ifs : List Expr} {scope : Scope} {pos : Pos} {N' : List Str} {src : List (Option Nat)} {wi : TI} {g : TG} {tt : TT} {te : TE}
theorem zif (ok : CompOk X scope N' src) {pins : List (Addr × Obj)} {σ : L2.St} {H : Hp} {s : Shared} (I : Inv X pins σ H s) : ∃ cl, closureFor scope X.env = pure cl ∧
   (∀ x c, cl.lookup x = some c → (x, NameKind.free) ∈ scope.names ∧ X.env.cells.lookup x = some c) ∧ ∀ x, (x, NameKind.free) ∈ scope.names → ∃ c, cl.lookup x = some c :=
 zl4 (scope := scope) (env := X.env) λy hy e => I.ok.has y.1 (ok.free y hy e)
theorem zok (hc : X.calm = true) (ok : CompOk X scope N' src) (hi : PI X tg iter wi) (hY : ∀ Y, IsComp X scope N' Y → PG Y tg g ∧ PTs Y ifs tt ∧ PE Y elt te)
   (hs : ∀ x, foldedSetIterable iter X.env x = pure x) : PE X (.ListComp elt [⟨tg, iter, ifs, 0⟩] scope pos) (tLc wi g tt te src) := by
 intro pins s σ H Q I h
 obtain ⟨cl, hclos, h1, h2⟩ := zif ok I
 rw [eval_ListComp]
 refine wpAny_comprehension_free (use := none) rfl hs hclos ok.kind (λy hy e => by rw [ok.uniq y hy, e]) ?_
 refine thn (hi pins s σ H _ I h) λv s1 q1 => thn q1 λitv s2 q2 => ?_
 obtain ⟨it, fp, tn, J, H2, e, I2, T, st2, f2, W, w0, turn⟩ := q2
 subst e
 refine zfQ (RR := λacc C => compPost (model X.prog X.w) X.A X.xe none (EP X pins σ Q) acc C) hc ok I2 T st2 f2 h1 h2 hY w0 turn ?_
 intro ys H' s' oC m nD hoC I3 fin
 obtain ⟨heC, nC, neC, nfC, dC⟩ := I3.pin (s2.heap.objs.size + 1, oC) (List.mem_append_right _ (List.mem_append_right _ (by simp)))
 refine ⟨m, hoC.ns heC, λh'' sb => ⟨.ref s2.heap.objs.size, _, ?_, rfl, fin _ nD⟩⟩
 have I4 : Inv X pins σ (upd H' s2.heap.objs.size (.lst ys)) s' := I3.unpinned
 have fo := I2.fpOk (b := s2.heap.objs.size + 1) (H' := upd H' s2.heap.objs.size (.lst ys)) (Nat.le_succ _) nC
 exact I4.turned (t' := s'.toks) (λb o hb e => sb.extBut b o hb e) nC fo.2.1 fo.2.2.2.1 fo.2.2.2.2.1 fo.2.2.2.2.2
def tLcS (wi : TI) (g : TG) (tt : TT) (te : TE) (src : List (Option Nat)) (i : Nat) : TS := λD σ H => wi σ H λJ H1 => ∃ W, (∃ m, W 0 m [] (srcV src σ) H1) ∧
 LcW J g tt te (λys H' => ∀ p, H' p = none → D.nx (σ.set i (some (.ref p))) (upd H' p (.lst ys))) W
theorem zjr {y : Str} {py spos : Pos} {i : Nat} (hN : X.N.Nodup) (hyi : X.N[i]? = some y) (hy : X.env.kindOf y = some .local)
   (hsw : swapsWith (.ListComp elt [⟨tg, iter, ifs, 0⟩] scope pos) (some (.Name y py)) spos.line X.env = pure true)
   (hc : X.calm = true) (ok : CompOk X scope N' src) (hi : PI X tg iter wi) (hY : ∀ Y, IsComp X scope N' Y → PG Y tg g ∧ PTs Y ifs tt ∧ PE Y elt te)
   (hs : ∀ x, foldedSetIterable iter X.env x = pure x) : PS X (.Assign [.Name y py] (.ListComp elt [⟨tg, iter, ifs, 0⟩] scope pos) spos) (tLcS wi g tt te src i) := by
 intro pins s σ H D I h
 obtain ⟨cl, hclos, h1, h2⟩ := zif ok I
 rw [exec_Assign_Name_used _ _ _ _ hsw]
 refine wpAny_bind (wpAny_standAt (wpAny_bind ?_))
 show wpAny _ _ (do let _ ← comprehension (.ListComp elt [⟨tg, iter, ifs, 0⟩] scope pos) scope X.env _ (newList []) false (eval iter X.env) (some (assign (.Name y py) X.env))) _ _ s
 refine wpAny_bind (wpAny_mono (wpAny_comprehension_free (use := some (assign (.Name y py) X.env)) (Q := λ_ s' => SP X pins D .next s') rfl hs hclos ok.kind (λy hy e => by rw [ok.uniq y hy, e])
   ?_) (λ_ s' hq => wpAny_pure (wpAny_pure hq)) λ_ _ e => e)
 refine thn (hi pins s σ H _ I h) λv s1 q1 => thn q1 λitv s2 q2 => ?_
 obtain ⟨it, fp, tn, J, H2, e, I2, T, st2, f2, W, w0, turn⟩ := q2
 subst e
 refine zfQ (RR := λacc C => compPost (model X.prog X.w) X.A X.xe (some (assign (.Name y py) X.env)) (λ_ s' => SP X pins D .next s') acc C) hc ok I2 T st2 f2 h1 h2 hY w0 turn ?_
 intro ys H' s' oC m nD hoC I3 fin
 show wpAny _ _ (assign (.Name y py) X.env (.ref s2.heap.objs.size)) _ _ s'
 refine wpAny_assign_Name (zcY I3 hN hyi (.inl hy) (v := .ref s2.heap.objs.size) rfl (λs3 I4 => ?_) (.inr hy))
 obtain ⟨heC, nC, neC, nfC, dC⟩ := I4.pin (s2.heap.objs.size + 1, oC) (List.mem_append_right _ (List.mem_append_right _ (by simp)))
 refine ⟨m, hoC.ns heC, λh'' sb => ⟨_, _, ?_, fin _ nD⟩⟩
 have I5 : Inv X pins _ (upd H' s2.heap.objs.size (.lst ys)) s3 := I4.unpinned
 have fo := I2.fpOk (b := s2.heap.objs.size + 1) (H' := upd H' s2.heap.objs.size (.lst ys)) (Nat.le_succ _) nC
 exact I5.turned (t' := s3.toks) (λb o hb e => sb.extBut b o hb e) nC fo.2.1 fo.2.2.2.1 fo.2.2.2.2.1 fo.2.2.2.2.2
end
end MX
end
section
set_option autoImplicit false
namespace MX
open PySem PySem.Spec PyProof.Rows L2
abbrev TF := Sg → So → Option (Bool × So)
abbrev AF := Sg → So → Option (List D × So)
inductive Fl where
 | nx | bk | ct | rt (d : D)
abbrev SF := Sg → So → Option (Fl × Sg × So)
abbrev GF := D → Sg → So → Option (Sg × So)
def Kb (K : PySem.W.Frag) (H : Hp) (α : List Addr) (S' : So) (Q : Hp → Prop) : Prop := ∀ H' α', StoreR K H' α' S' → Ext K H α H' α' → Q H'
def rdT (K : PySem.W.Frag) (f : TF) : TT := λσ H Q => ∃ σd S α b S', VarsR K H α σd σ ∧ StoreR K H α S ∧ f σd S = some (b, S') ∧ Kb K H α S' (Q b)
def ST (X : Cx) (e : Expr) (f : TF) : Prop := PT X e (rdT X.K f)
def SW (X : Cx) (e : Expr) (f : TF) : Prop := PW X e (rdT X.K f)
def rdA (K : PySem.W.Frag) (f : AF) : TA := λσ H Q => ∃ σd S α ds S', VarsR K H α σd σ ∧ StoreR K H α S ∧ f σd S = some (ds, S') ∧ ∀ vs H' α', StoreR K H' α' S' → Ext K H α H' α' → Reps K H' α' ds vs → Q vs H'
def SA (X : Cx) (es : List Expr) (f : AF) : Prop := PA X es (rdA X.K f)
def Ks (K : PySem.W.Frag) (H : Hp) (α : List Addr) (fl : Fl) (σd' : Sg) (S' : So) (D : Ends) : Prop :=
 ∀ σ' H' α', VarsR K H' α' σd' σ' → StoreR K H' α' S' → Ext K H α H' α' → match fl with
   | .nx => D.nx σ' H'
   | .bk => D.bk σ' H'
   | .ct => D.ct σ' H'
   | .rt d => ∀ v, Rep K H' α' d v → D.rt v H'
def rdS (K : PySem.W.Frag) (f : SF) : TS := λD σ H => ∃ σd S α fl σd' S', VarsR K H α σd σ ∧ StoreR K H α S ∧ f σd S = some (fl, σd', S') ∧ Ks K H α fl σd' S' D
def SS (X : Cx) (st : Stmt) (f : SF) : Prop := PS X st (rdS X.K f)
def SSs (X : Cx) (sts : List Stmt) (f : SF) : Prop := PSs X sts (rdS X.K f)
def rdG (K : PySem.W.Frag) (f : GF) : TG := λv σ H Q => ∃ σd S α d σd' S', VarsR K H α σd σ ∧ StoreR K H α S ∧ Rep K H α d v ∧ f d σd S = some (σd', S') ∧
 ∀ σ' H' α', VarsR K H' α' σd' σ' → StoreR K H' α' S' → Ext K H α H' α' → Q σ' H'
def SG (X : Cx) (tg : Expr) (f : GF) : Prop := PG X tg (rdG X.K f)
theorem PT.imp {X : Cx} {e : Expr} {t t' : TT} (h : PT X e t) (k : ∀ σ H Q, t' σ H Q → t σ H Q) : PT X e t' := λpins s σ H Q I q => h pins s σ H Q I (k σ H Q q)
theorem PW.imp {X : Cx} {e : Expr} {t t' : TT} (h : PW X e t) (k : ∀ σ H Q, t' σ H Q → t σ H Q) : PW X e t' := λwh pins s σ H Q I q => h wh pins s σ H Q I (k σ H Q q)
theorem PA.imp {X : Cx} {e : List Expr} {t t' : TA} (h : PA X e t) (k : ∀ σ H Q, t' σ H Q → t σ H Q) : PA X e t' := λpos pins s σ H Q I q => h pos pins s σ H Q I (k σ H Q q)
theorem PS.imp {X : Cx} {e : Stmt} {t t' : TS} (h : PS X e t) (k : ∀ D σ H, t' D σ H → t D σ H) : PS X e t' := λpins s σ H D I q => h pins s σ H D I (k D σ H q)
theorem PSs.imp {X : Cx} {e : List Stmt} {t t' : TS} (h : PSs X e t) (k : ∀ D σ H, t' D σ H → t D σ H) : PSs X e t' := λpins s σ H D I q => h pins s σ H D I (k D σ H q)
theorem PG.imp {X : Cx} {e : Expr} {t t' : TG} (h : PG X e t) (k : ∀ v σ H Q, t' v σ H Q → t v σ H Q) : PG X e t' := λpins s σ H v u Q I r q => h pins s σ H v u Q I r (k v σ H Q q)
theorem PI.imp {X : Cx} {tg e : Expr} {t t' : TI} (h : PI X tg e t) (k : ∀ σ H Q, t' σ H Q → t σ H Q) : PI X tg e t' := λpins s σ H Q I q => h pins s σ H Q I (k σ H Q q)
def eVar (i : Nat) : EF := λσ S => match σ[i]? with
 | some (some d) => some (d, S)
 | _ => none
def eC (d : D) : EF := λ_ S => some (d, S)
def eB (g : G2) (fa fb : EF) : EF := λσ S => (fa σ S).bind λr => (fb σ r.2).bind λq => g r.1 q.1 q.2
def eU (g : D → So → Option (D × So)) (fa : EF) : EF := λσ S => (fa σ S).bind λr => g r.1 r.2
def aNil : AF := λ_ S => some ([], S)
def aCons (fa : EF) (fr : AF) : AF := λσ S => (fa σ S).bind λr => (fr σ r.2).bind λq => some (r.1 :: q.1, q.2)
def eN (g : GN) (fa : AF) : EF := λσ S => (fa σ S).bind λr => g r.1 r.2
def eIf (t : TF) (fa fb : EF) : EF := λσ S => (t σ S).bind λr => if r.1 = true then fa σ r.2 else fb σ r.2
def gTup : GN := λds S => if ds.length ≤ sizeLine then some (.tup ds, S) else none
def gLst : GN := λds S => if ds.length ≤ sizeLine then some (.ref S.length, S ++ [.lst ds]) else none
section
variable {X : Cx} {a b : Expr} {fa fb : EF} {pos : Pos}
theorem zmI {i : Nat} {x : Str} (hN : X.N[i]? = some x) (hv : Vis X.env.scope x) (hd : (x == ("__debug__" : Str)) = false) (hcd : (x == ("__classdict__" : Str)) = false) : SE X (.Name x pos) (eVar i) := by
 refine PE.imp (zkf hN hv hd hcd) λσ H Q h => ?_
 obtain ⟨σd, S, α, z, S', hv, hs, hf, k⟩ := h
 unfold eVar at hf
 split at hf
 · rename_i d e
   cases hf
   obtain ⟨v, h1, h2⟩ := hv.2 i _ e
   exact ⟨v, h1, k.same hs h2⟩
 · cases hf
theorem se_c {e : Expr} {d : D} {v : V} (h : PE X e (tC v)) (r : ∀ H α, Rep X.K H α d v) : SE X e (eC d) := by
 refine PE.imp h λσ H Q h => ?_
 obtain ⟨σd, S, α, z, S', hv, hs, hf, k⟩ := h
 cases hf
 exact k.same hs (r _ _)
theorem zmR {i : Int} {j} : SE X (.Constant (.int i) j pos) (eC (.int i)) := se_c zng λ_ _ => .int i
theorem zoe {i : Bool} {j} : SE X (.Constant (.bool i) j pos) (eC (.bl i)) := se_c zon λ_ _ => .bl i
theorem zmM {j} : SE X (.Constant .none j pos) (eC .non) := se_c zne λ_ _ => .non
theorem zmK {x : Str} {j} : SE X (.Constant (.str x) j pos) (eC (.str x)) := se_c znb λ_ _ => .str x
theorem rd2 {K : PySem.W.Frag} {g : G2} {σ : L2.St} {H : Hp} {Q : VK} (h : rdE K (eB g fa fb) σ H Q) : rdE K fa σ H λx H1 => rdE K fb σ H1 λy H2 => rdOp K g x y H2 Q := by
 obtain ⟨σd, S, α, z, S', hv, hs, hf, k⟩ := h
 unfold eB at hf
 simp only [Option.bind_eq_some_iff] at hf
 obtain ⟨⟨x, S1⟩, e1, ⟨y, S2⟩, e2, e3⟩ := hf
 refine ⟨σd, S, α, x, S1, hv, hs, e1, λv H1 α1 s1 x1 r1 => ⟨σd, S1, α1, y, S2, hv.mono x1, s1, e2, λu H2 α2 s2 x2 r2 => ?_⟩⟩
 exact ⟨S2, α2, x, y, z, S', s2, r1.mono x2, r2, e3, k.trans (x1.trans x2)⟩
theorem zoa {op : Operator} (ha : SE X a fa) (hb : SE X b fb) : SE X (.BinOp a op b pos) (eB (gBin op) fa fb) :=
 PE.imp (zoj (zls op) ha hb) λ_ _ _ h => rd2 h
theorem zmT {op : CmpOp} (hu : X.A.units + 64 < cLine) (h1 : op ≠ .In) (h2 : op ≠ .NotIn) (ha : SE X a fa) (hb : SE X b fb) : SE X (.Compare a [op] [b] pos) (eB (gCmp op) fa fb) :=
 PE.imp (zld (zhX hu op) ha hb (nomark b h1 h2)) λ_ _ _ h => rd2 h
theorem zoc (hp : PlainIx b) (ha : SE X a fa) (hb : SE X b fb) : SE X (.Subscript a b pos) (eB gIx fa fb) :=
 PE.imp (zol ixs ha hb hp) λ_ _ _ h => rd2 h
def gNeg : D → So → Option (D × So)
 | .int i, S => some (.int (-i), S)
 | _, _ => none
theorem zmN (ha : SE X a fa) : SE X (.UnaryOp .USub a pos) (eU gNeg fa) := by
 refine PE.imp (zoh zme ha) λσ H Q h => ?_
 obtain ⟨σd, S, α, z, S', hv, hs, hf, k⟩ := h
 unfold eU at hf
 simp only [Option.bind_eq_some_iff] at hf
 obtain ⟨⟨x, S1⟩, e1, e2⟩ := hf
 refine ⟨σd, S, α, x, S1, hv, hs, e1, λv H1 α1 s1 x1 r1 => ?_⟩
 cases r1 with
 | int i => cases e2; exact ⟨_, rfl, (k.trans x1).same s1 (.int _)⟩
 | _ => cases e2
theorem zmV : SA X [] aNil := by
 refine PA.imp znj λσ H Q h => ?_
 obtain ⟨σd, S, α, ds, S', hv, hs, hf, k⟩ := h
 cases hf
 exact k _ _ _ hs Ext.refl .nil
theorem zkX {e : Expr} {es : List Expr} {fe : EF} {fr : AF} (ha : SE X e fe) (hr : SA X es fr) (hst : starEach (e :: es) X.env = (false, eval e X.env) :: starEach es X.env) : SA X (e :: es) (aCons fe fr) := by
 refine PA.imp (zlg ha hr hst) λσ H Q h => ?_
 obtain ⟨σd, S, α, ds, S', hv, hs, hf, k⟩ := h
 unfold aCons at hf
 simp only [Option.bind_eq_some_iff] at hf
 obtain ⟨⟨x, S1⟩, e1, ⟨ys, S2⟩, e2, e3⟩ := hf
 cases e3
 exact ⟨σd, S, α, x, S1, hv, hs, e1, λv H1 α1 s1 x1 r1 => ⟨σd, S1, α1, ys, _, hv.mono x1, s1, e2, λvs H2 α2 s2 x2 r2 => k _ _ _ s2 (x1.trans x2) (.cons (r1.mono x2) r2)⟩⟩
theorem rdN {K : PySem.W.Frag} {g : GN} {fa : AF} {σ : L2.St} {H : Hp} {Q : VK} (h : rdE K (eN g fa) σ H Q) : rdA K fa σ H λvs H1 => rdC K g vs H1 Q := by
 obtain ⟨σd, S, α, z, S', hv, hs, hf, k⟩ := h
 unfold eN at hf
 simp only [Option.bind_eq_some_iff] at hf
 obtain ⟨⟨ds, S1⟩, e1, e2⟩ := hf
 exact ⟨σd, S, α, ds, S1, hv, hs, e1, λvs H1 α1 s1 x1 r1 => ⟨S1, α1, ds, z, S', s1, r1, e2, k.trans x1⟩⟩
theorem zmJ {es : List Expr} {fs : AF} {k0} (h : SA X es fs) : SE X (.Tuple es k0 pos) (eN gTup fs) := by
 refine PE.imp (zna h) λσ H Q q => ?_
 obtain ⟨σd, S, α, ds, S1, hv, hs, e1, k⟩ := rdN q
 refine ⟨σd, S, α, ds, S1, hv, hs, e1, λvs H1 α1 s1 x1 r1 => ?_⟩
 obtain ⟨S2, α2, ds', z, S3, s2, r2, e2, k2⟩ := k vs H1 α1 s1 x1 r1
 unfold gTup at e2
 split at e2
 · rename_i hl
   cases e2
   refine ⟨by rw [← r2.length]; exact hl, λp hp => ?_⟩
   exact k2.new s2 (za5 hp) (.tup (SqT.of zaw) (r2.mono (Same.ext (za5 hp))))
 · cases e2
theorem zmP {es : List Expr} {fs : AF} (h : SA X es fs) : SE X (.List es pos) (eN gLst fs) := by
 refine PE.imp (znf h) λσ H Q q => ?_
 obtain ⟨σd, S, α, ds, S1, hv, hs, e1, k⟩ := rdN q
 refine ⟨σd, S, α, ds, S1, hv, hs, e1, λvs H1 α1 s1 x1 r1 => ?_⟩
 obtain ⟨S2, α2, ds', z, S3, s2, r2, e2, k2⟩ := k vs H1 α1 s1 x1 r1
 unfold gLst at e2
 split at e2
 · rename_i hl
   cases e2
   refine ⟨by rw [← r2.length]; exact hl, λp hp => ?_⟩
   obtain ⟨s', e'⟩ := s2.snoc (p := p) (o := .lst ds') (u := .lst vs) hp λα' e => ⟨_, zaw, r2.mono e⟩
   exact k2 _ _ _ s' e' (.ref (by rw [← s2.len]; simp))
 · cases e2
def truD : D → So → Option Bool
 | .non, _ => some false
 | .bl b, _ => some b
 | .int i, _ => some (i != 0)
 | .str x, _ => if x.length ≤ sizeLine then some ((x.length : Int) != 0) else none
 | .tup xs, _ => some (!xs.isEmpty)
 | .ref n, S => match S[n]? with
   | some (.lst xs) => some (!xs.isEmpty)
   | some (.frz xs) => some (!xs.isEmpty)
   | _ => none
 | _, _ => none
theorem zcK {K : PySem.W.Frag} {H : Hp} {α : List Addr} {ds : List D} {vs : List V} (r : Reps K H α ds vs) : (!ds.isEmpty) = !vs.isEmpty := by cases r <;> rfl
theorem zkw {K : PySem.W.Frag} {H : Hp} {α : List Addr} {S : So} {d : D} {v : V} {b : Bool} (hs : StoreR K H α S) (r : Rep K H α d v) (e : truD d S = some b) : TruV K v H b := by
 cases r with
 | non => cases e; exact rfl
 | bl b => cases e; exact rfl
 | int i => cases e; exact rfl
 | str x =>
   have e' : (if x.length ≤ sizeLine then some ((x.length : Int) != 0) else none) = some b := e
   split at e'
   · rename_i hl; cases e'; exact ⟨hl, rfl⟩
   · cases e'
 | tup h r => cases e; exact .inr (.inl ⟨_, h, zcK r⟩)
 | @ref n a h =>
   simp only [truD] at e
   cases hm : S[n]? with
   | none => simp [hm] at e
   | some o =>
     simp only [hm] at e
     have hob := hs.obj _ _ _ hm h
     cases o with
     | lst xs =>
       cases e
       obtain ⟨vs, h1, r⟩ := hob
       exact .inl ⟨_, SqL.of h1, zcK r⟩
     | frz xs =>
       cases e
       obtain ⟨vs, h1, r⟩ := hob
       exact .inl ⟨_, h1.sq, zcK r⟩
     | ins C fs => cases e
 | ty n => cases e
 | adr a => cases e
def tVal (fa : EF) : TF := λσ S => (fa σ S).bind λr => (truD r.1 r.2).map λb => (b, r.2)
theorem zms (ha : SE X a fa) (he : ∀ whole, isTrue a X.env whole = (do let v ← whole; standAt a.pos; holding [v] (truthy v))) : ST X a (tVal fa) := by
 refine PT.imp (zjo ha he) λσ H Q h => ?_
 obtain ⟨σd, S, α, b, S', hv, hs, hf, k⟩ := h
 unfold tVal at hf
 simp only [Option.bind_eq_some_iff, Option.map_eq_some_iff] at hf
 obtain ⟨⟨x, S1⟩, e1, c, e2, e3⟩ := hf
 cases e3
 exact ⟨σd, S, α, x, S1, hv, hs, e1, λv H1 α1 s1 x1 r1 => ⟨b, zkw s1 r1 e2, k _ _ s1 x1⟩⟩
def tBl (fa : EF) : TF := λσ S => (fa σ S).bind λr => match r.1 with
 | .bl b => some (b, r.2)
 | _ => none
theorem zmu {op : CmpOp} (hu : X.A.units + 64 < cLine) (h1 : op ≠ .In) (h2 : op ≠ .NotIn) (ha : SE X a fa) (hb : SE X b fb) : ST X (.Compare a [op] [b] pos) (tBl (eB (gCmp op) fa fb)) := by
 refine PT.imp (zk2 (zhX hu op) ha hb (nomark b h1 h2)) λσ H Q h => ?_
 obtain ⟨σd, S, α, c, S', hv, hs, hf, k⟩ := h
 unfold tBl at hf
 simp only [Option.bind_eq_some_iff] at hf
 obtain ⟨⟨z, S1⟩, e1, e2⟩ := hf
 cases z with
 | bl c' =>
   cases e2
   exact rd2 ⟨σd, S, α, .bl c, _, hv, hs, e1, λv H1 α1 s1 x1 r1 => by cases r1; exact ⟨c, rfl, k _ _ s1 x1⟩⟩
 | _ => cases e2
def tNotF (t : TF) : TF := λσ S => (t σ S).map λr => (!r.1, r.2)
theorem zmt {t : TF} (ha : ST X a t) : ST X (.UnaryOp .Not a pos) (tNotF t) := by
 refine PT.imp (zm0 ha) λσ H Q h => ?_
 obtain ⟨σd, S, α, c, S', hv, hs, hf, k⟩ := h
 unfold tNotF at hf
 simp only [Option.map_eq_some_iff] at hf
 obtain ⟨⟨b, S1⟩, e1, e2⟩ := hf
 cases e2
 exact ⟨σd, S, α, b, S1, hv, hs, e1, k⟩
def tAndF (t u : TF) : TF := λσ S => (t σ S).bind λr => if r.1 = true then u σ r.2 else some (false, r.2)
def tOrF (t u : TF) : TF := λσ S => (t σ S).bind λr => if r.1 = true then some (true, r.2) else u σ r.2
theorem zkC {t : TF} (ha : ST X a t) : SW X (.BoolOp .And [a] pos) t := zkZ ha
theorem zmq {t : TF} (ha : ST X a t) : SW X (.BoolOp .Or [a] pos) t := zmY ha
theorem zmr {t u : TF} {rest : List Expr} (ha : ST X a t) (hb : SW X (.BoolOp .And (b :: rest) pos) u) : SW X (.BoolOp .And (a :: b :: rest) pos) (tAndF t u) := by
 refine PW.imp (zmZ ha hb) λσ H Q h => ?_
 obtain ⟨σd, S, α, c, S', hv, hs, hf, k⟩ := h
 unfold tAndF at hf
 simp only [Option.bind_eq_some_iff] at hf
 obtain ⟨⟨b1, S1⟩, e1, e2⟩ := hf
 refine ⟨σd, S, α, b1, S1, hv, hs, e1, λH1 α1 s1 x1 => ?_⟩
 cases b1 with
 | true =>
   rw [if_pos rfl]; rw [if_pos rfl] at e2
   exact ⟨σd, S1, α1, c, S', hv.mono x1, s1, e2, λH2 α2 s2 x2 => k _ _ s2 (x1.trans x2)⟩
 | false =>
   rw [if_neg Bool.false_ne_true]; rw [if_neg Bool.false_ne_true] at e2
   cases e2
   exact k _ _ s1 x1
theorem zn6 {t u : TF} {rest : List Expr} (ha : ST X a t) (hb : SW X (.BoolOp .Or (b :: rest) pos) u) : SW X (.BoolOp .Or (a :: b :: rest) pos) (tOrF t u) := by
 refine PW.imp (zof ha hb) λσ H Q h => ?_
 obtain ⟨σd, S, α, c, S', hv, hs, hf, k⟩ := h
 unfold tOrF at hf
 simp only [Option.bind_eq_some_iff] at hf
 obtain ⟨⟨b1, S1⟩, e1, e2⟩ := hf
 refine ⟨σd, S, α, b1, S1, hv, hs, e1, λH1 α1 s1 x1 => ?_⟩
 cases b1 with
 | true =>
   rw [if_pos rfl]; rw [if_pos rfl] at e2
   cases e2
   exact k _ _ s1 x1
 | false =>
   rw [if_neg Bool.false_ne_true]; rw [if_neg Bool.false_ne_true] at e2
   exact ⟨σd, S1, α1, c, S', hv.mono x1, s1, e2, λH2 α2 s2 x2 => k _ _ s2 (x1.trans x2)⟩
theorem zod {c : Expr} {t : TF} (hc : ST X c t) (ha : SE X a fa) (hb : SE X b fb) : SE X (.IfExp c a b pos) (eIf t fa fb) := by
 refine PE.imp (zjx hc ha hb) λσ H Q h => ?_
 obtain ⟨σd, S, α, z, S', hv, hs, hf, k⟩ := h
 unfold eIf at hf
 simp only [Option.bind_eq_some_iff] at hf
 obtain ⟨⟨b1, S1⟩, e1, e2⟩ := hf
 refine ⟨σd, S, α, b1, S1, hv, hs, e1, λH1 α1 s1 x1 => ?_⟩
 cases b1 with
 | true =>
   rw [if_pos rfl]; rw [if_pos rfl] at e2
   exact ⟨σd, S1, α1, z, S', hv.mono x1, s1, e2, k.trans x1⟩
 | false =>
   rw [if_neg Bool.false_ne_true]; rw [if_neg Bool.false_ne_true] at e2
   exact ⟨σd, S1, α1, z, S', hv.mono x1, s1, e2, k.trans x1⟩
def eNot (fa : EF) : EF := λσ S => (fa σ S).bind λr => match r.1 with
 | .bl b => some (.bl (!b), r.2)
 | _ => none
theorem zmL (ha : SE X a fa) : SE X (.UnaryOp .Not a pos) (eNot fa) := by
 refine PE.imp (znd ha) λσ H Q h => ?_
 obtain ⟨σd, S, α, z, S', hv, hs, hf, k⟩ := h
 unfold eNot at hf
 simp only [Option.bind_eq_some_iff] at hf
 obtain ⟨⟨x, S1⟩, e1, e2⟩ := hf
 refine ⟨σd, S, α, x, S1, hv, hs, e1, λv H1 α1 s1 x1 r1 => ?_⟩
 cases r1 with
 | bl c => cases e2; exact ⟨c, rfl, (k.trans x1).same s1 (.bl _)⟩
 | _ => cases e2
def eAnd (fa fb : EF) : EF := λσ S => (fa σ S).bind λr => match r.1 with
 | .bl true => fb σ r.2
 | .bl false => some (.bl false, r.2)
 | _ => none
def eOr (fa fb : EF) : EF := λσ S => (fa σ S).bind λr => match r.1 with
 | .bl true => some (.bl true, r.2)
 | .bl false => fb σ r.2
 | _ => none
theorem zjm {op} (ha : SE X a fa) : SE X (.BoolOp op [a] pos) fa := znc ha
theorem zmU {rest : List Expr} (ha : SE X a fa) (hb : SE X (.BoolOp .And (b :: rest) pos) fb) : SE X (.BoolOp .And (a :: b :: rest) pos) (eAnd fa fb) := by
 refine PE.imp (zni ha hb) λσ H Q h => ?_
 obtain ⟨σd, S, α, z, S', hv, hs, hf, k⟩ := h
 unfold eAnd at hf
 simp only [Option.bind_eq_some_iff] at hf
 obtain ⟨⟨x, S1⟩, e1, e2⟩ := hf
 refine ⟨σd, S, α, x, S1, hv, hs, e1, λv H1 α1 s1 x1 r1 => ?_⟩
 cases r1 with
 | bl c =>
   refine ⟨c, rfl, ?_⟩
   cases c with
   | true => rw [if_pos rfl]; exact ⟨σd, S1, α1, z, S', hv.mono x1, s1, e2, k.trans x1⟩
   | false => rw [if_neg Bool.false_ne_true]; cases e2; exact (k.trans x1).same s1 (.bl _)
 | _ => cases e2
theorem zn9 {rest : List Expr} (ha : SE X a fa) (hb : SE X (.BoolOp .Or (b :: rest) pos) fb) : SE X (.BoolOp .Or (a :: b :: rest) pos) (eOr fa fb) := by
 refine PE.imp (zoi ha hb) λσ H Q h => ?_
 obtain ⟨σd, S, α, z, S', hv, hs, hf, k⟩ := h
 unfold eOr at hf
 simp only [Option.bind_eq_some_iff] at hf
 obtain ⟨⟨x, S1⟩, e1, e2⟩ := hf
 refine ⟨σd, S, α, x, S1, hv, hs, e1, λv H1 α1 s1 x1 r1 => ?_⟩
 cases r1 with
 | bl c =>
   refine ⟨c, rfl, ?_⟩
   cases c with
   | false => rw [if_neg Bool.false_ne_true]; exact ⟨σd, S1, α1, z, S', hv.mono x1, s1, e2, k.trans x1⟩
   | true => rw [if_pos rfl]; cases e2; exact (k.trans x1).same s1 (.bl _)
 | _ => cases e2
end
def spOf (K : PySem.W.Frag) (n : Nat) (φ : GN) : Sp := λvs H Q _ => vs.length = n ∧ rdC K φ vs H Q
def FnRef (X : Cx) (x : Str) (n : Nat) (φ : GN) : Prop := ∃ f fd ps k, X.mg x = some (.ref f) ∧ PySem.W.keepIn X.K (.ref f) = true ∧ Binds X.K fd ps [] ∧
 FnOk X.prog X.w X.K X.mg X.base CX0 k f fd ps (spOf X.K n φ) ∧ Room k X.A
section
variable {X : Cx} {x : Str} {p pos : Pos} {es : List Expr} {fs : AF}
def nArgs (n : Nat) (φ : GN) : GN := λds S => if ds.length = n then φ ds S else none
theorem zkW {e : Expr} {n : Nat} {φ : GN} (hg : Gl X x) (hF : FnRef X x n φ) (ha : SA X (e :: es) fs) (hdb : (x == ("__debug__" : Str)) = false) (he : starEach (e :: es) X.env = (false, eval e X.env) :: starEach es X.env)
   (hpl : (backTo pos (starEach es X.env)).any (·.1) = false) : SE X (.Call (.Name x p) (e :: es) [] pos) (eN (nArgs n φ) fs) := by
 obtain ⟨f, fd, ps, k, hm, hk, hb, F, hr⟩ := hF
 refine PE.imp (zle F hr hg hm hk hb .nil pass0 ha hdb he hpl) λσ H Q h => ?_
 obtain ⟨σd, S, α, ds, S1, hv, hs, e1, k⟩ := rdN h
 refine ⟨σd, S, α, ds, S1, hv, hs, e1, λvs H1 α1 s1 x1 r1 => ?_⟩
 obtain ⟨S2, α2, ds', z, S3, s2, r2, e2, k2⟩ := k vs H1 α1 s1 x1 r1
 unfold nArgs at e2
 split at e2
 · rename_i hl
   rw [List.append_nil]
   exact ⟨by rw [← r2.length]; exact hl, S2, α2, ds', z, S3, s2, r2, e2, k2⟩
 · cases e2
theorem zjl {e : Expr} {id : String} {g : GN} (hc : CallR X (.builtin id) (rdC X.K g)) (hg : Gl X x) (hm : X.mg x = none) (hv : bootBuiltins x = some (.builtin id)) (ha : SA X (e :: es) fs) (hn : x ≠ "__name__") (hdb : (x == ("__debug__" : Str)) = false)
   (he : starEach (e :: es) X.env = (false, eval e X.env) :: starEach es X.env) (hpl : (backTo pos (starEach es X.env)).any (·.1) = false) : SE X (.Call (.Name x p) (e :: es) [] pos) (eN g fs) :=
 PE.imp (zjz hc hg hm hv ha hn hdb he hpl) λ_ _ _ h => rdN h
theorem zjj {e : Expr} {T : String} {g : GN} (hc : CallR X (.type T) (rdC X.K g)) (hg : Gl X x) (hm : X.mg x = none) (hv : bootBuiltins x = some (.type T)) (ha : SA X (e :: es) fs) (hn : x ≠ "__name__") (hdb : (x == ("__debug__" : Str)) = false)
   (he : starEach (e :: es) X.env = (false, eval e X.env) :: starEach es X.env) (hpl : (backTo pos (starEach es X.env)).any (·.1) = false) : SE X (.Call (.Name x p) (e :: es) [] pos) (eN g fs) :=
 PE.imp (zhW hc hg hm hv ha hn hdb he hpl) λ_ _ _ h => rdN h
end
def gNm (i : Nat) : GF := λd σ S => some (σ.set i (some d), S)
abbrev GFs := List D → Sg → So → Option (Sg × So)
def gsNil : GFs := λds σ S => match ds with
 | [] => some (σ, S)
 | _ => none
def gsCons (f : GF) (fr : GFs) : GFs := λds σ S => match ds with
 | d :: r => (f d σ S).bind λq => fr r q.1 q.2
 | [] => none
def gTp (n : Nat) (fr : GFs) : GF := λd σ S => match d with
 | .tup xs => if xs.length = n then fr xs σ S else none
 | _ => none
def rdGs (K : PySem.W.Frag) (f : GFs) : TGs := λvs σ H Q => ∃ σd S α ds σd' S', VarsR K H α σd σ ∧ StoreR K H α S ∧ Reps K H α ds vs ∧ f ds σd S = some (σd', S') ∧
 ∀ σ' H' α', VarsR K H' α' σd' σ' → StoreR K H' α' S' → Ext K H α H' α' → Q σ' H'
def SGs (X : Cx) (tgs : List Expr) (f : GFs) : Prop := PGs X tgs (rdGs X.K f)
section
variable {X : Cx} {pos : Pos}
theorem zkR {i : Nat} {x : Str} (hN : X.N.Nodup) (hi : X.N[i]? = some x) (hx : Loc X.env.scope x) (hf : X.fn x = true ∨ X.env.scope.names.lookup x = some .local) : SG X (.Name x pos) (gNm i) := by
 refine PG.imp (zlc hN hi hx hf) λv σ H Q h => ?_
 obtain ⟨σd, S, α, d, σd', S', hv, hs, r, hf, k⟩ := h
 cases hf
 exact k _ _ _ (hv.set r i) hs Ext.refl
theorem zkQ : SGs X [] gsNil := by
 refine λpins s σ H vs us Q I r0 h => zlb pins s σ H vs us Q I r0 ?_
 obtain ⟨σd, S, α, ds, σd', S', hv, hs, r, hf, k⟩ := h
 cases r with
 | nil => cases hf; exact ⟨rfl, k _ _ _ hv hs Ext.refl⟩
 | cons _ _ => cases hf
theorem zjf {e : Expr} {es : List Expr} {f : GF} {fr : GFs} (h1 : SG X e f) (h2 : SGs X es fr) (hs : (assignEach (e :: es) X.env).map (·.2) = assign e X.env :: (assignEach es X.env).map (·.2)) : SGs X (e :: es) (gsCons f fr) := by
 refine λpins s σ H vs us Q I r0 h => zjv h1 h2 hs pins s σ H vs us Q I r0 ?_
 obtain ⟨σd, S, α, ds, σd', S', hv, hs, r, hf, k⟩ := h
 cases r with
 | nil => cases hf
 | cons r rr =>
   unfold gsCons at hf
   simp only [Option.bind_eq_some_iff] at hf
   obtain ⟨⟨σ1, S1⟩, e1, e2⟩ := hf
   exact ⟨_, _, rfl, σd, S, α, _, σ1, S1, hv, hs, r, e1, λσ' H' α' v' s' x' => ⟨σ1, S1, α', _, σd', S', v', s', rr.mono x', e2, λσ2 H2 α2 v2 s2 x2 => k _ _ _ v2 s2 (x'.trans x2)⟩⟩
theorem zmF {es : List Expr} {k0 : Nat} {f : GFs} {n : Nat} (hc : X.calm = true) (h : SGs X es f) (hn : (assignEach es X.env).length = n) (hst : (assignEach es X.env).findIdx? (·.1) = none) : SG X (.Tuple es k0 pos) (gTp n f) := by
 refine PG.imp (zm8 hc h hn hst) λv σ H Q h => ?_
 obtain ⟨σd, S, α, d, σd', S', hv, hs, r, hf, k⟩ := h
 unfold gTp at hf
 cases r with
 | tup h r =>
   simp only at hf
   split at hf
   · rename_i hl
     exact ⟨_, _, rfl, h, by rw [← r.length]; exact hl, σd, S, α, _, σd', S', hv, hs, r, hf, k⟩
   · cases hf
 | _ => cases hf
end
def sPass : SF := λσ S => some (.nx, σ, S)
def sSeq (f g : SF) : SF := λσ S => (f σ S).bind λr => match r.1 with
 | .nx => g r.2.1 r.2.2
 | fl => some (fl, r.2.1, r.2.2)
def sAsg (fe : EF) (fg : GF) : SF := λσ S => (fe σ S).bind λr => (fg r.1 σ r.2).map λq => (.nx, q.1, q.2)
def sDrop (fe : EF) : SF := λσ S => (fe σ S).map λr => (.nx, σ, r.2)
def sRet (fe : EF) : SF := λσ S => (fe σ S).map λr => (.rt r.1, σ, r.2)
def sRetN : SF := λσ S => some (.rt .non, σ, S)
def sBrk : SF := λσ S => some (.bk, σ, S)
def sCnt : SF := λσ S => some (.ct, σ, S)
def sIf (t : TF) (f g : SF) : SF := λσ S => (t σ S).bind λr => if r.1 = true then f σ r.2 else g σ r.2
section
variable {X : Cx} {st : Stmt} {rest : List Stmt} {f g : SF} {e : Expr} {fe : EF} {pos : Pos}
theorem zmw : SSs X [] sPass := by
 refine PSs.imp zk3 λD σ H h => ?_
 obtain ⟨σd, S, α, fl, σd', S', hv, hs, hf, k⟩ := h
 cases hf
 exact k _ _ _ hv hs Ext.refl
theorem Ks.trans {K : PySem.W.Frag} {H H1 : Hp} {α α1 : List Addr} {fl : Fl} {σd' : Sg} {S' : So} {D : Ends} (k : Ks K H α fl σd' S' D) (e : Ext K H α H1 α1) : Ks K H1 α1 fl σd' S' D := λσ' H' α' v s x => k σ' H' α' v s (e.trans x)
theorem zkK (h1 : SS X st f) (h2 : SSs X rest g) : SSs X (st :: rest) (sSeq f g) := by
 refine PSs.imp (zjp h1 h2) λD σ H h => ?_
 obtain ⟨σd, S, α, fl, σd', S', hv, hs, hf, k⟩ := h
 unfold sSeq at hf
 simp only [Option.bind_eq_some_iff] at hf
 obtain ⟨⟨fl1, σ1, S1⟩, e1, e2⟩ := hf
 refine ⟨σd, S, α, fl1, σ1, S1, hv, hs, e1, λσ' H' α' v' s' x' => ?_⟩
 cases fl1 with
 | nx => exact ⟨σ1, S1, α', fl, σd', S', v', s', e2, k.trans x'⟩
 | bk => cases e2; exact k σ' H' α' v' s' x'
 | ct => cases e2; exact k σ' H' α' v' s' x'
 | rt d => cases e2; exact k σ' H' α' v' s' x'
theorem zkH : SS X (.Pass pos) sPass := by
 refine PS.imp zk5 λD σ H h => ?_
 obtain ⟨σd, S, α, fl, σd', S', hv, hs, hf, k⟩ := h
 cases hf
 exact k _ _ _ hv hs Ext.refl
theorem zmy {x j pos'} : SS X (.Expr (.Constant (.str x) j pos) pos') sPass := by
 refine PS.imp zm4 λD σ H h => ?_
 obtain ⟨σd, S, α, fl, σd', S', hv, hs, hf, k⟩ := h
 cases hf
 exact k _ _ _ hv hs Ext.refl
theorem zmA : SS X (.Break pos) sBrk := by
 refine PS.imp zjs λD σ H h => ?_
 obtain ⟨σd, S, α, fl, σd', S', hv, hs, hf, k⟩ := h
 cases hf
 exact k _ _ _ hv hs Ext.refl
theorem zmz : SS X (.Continue pos) sCnt := by
 refine PS.imp zgd λD σ H h => ?_
 obtain ⟨σd, S, α, fl, σd', S', hv, hs, hf, k⟩ := h
 cases hf
 exact k _ _ _ hv hs Ext.refl
theorem zkJ (he : SE X e fe) (hsw : swapsWith e none pos.line X.env = pure false) : SS X (.Expr e pos) (sDrop fe) := by
 refine PS.imp (zk7 he hsw) λD σ H h => ?_
 obtain ⟨σd, S, α, fl, σd', S', hv, hs, hf, k⟩ := h
 unfold sDrop at hf
 simp only [Option.map_eq_some_iff] at hf
 obtain ⟨⟨d, S1⟩, e1, e2⟩ := hf
 cases e2
 exact ⟨σd, S, α, d, S1, hv, hs, e1, λv H' α' s' x' r' => k _ _ _ (hv.mono x') s' x'⟩
theorem zmv (he : SE X e fe) : SS X (.Return (some e) pos) (sRet fe) := by
 refine PS.imp (zm2 he) λD σ H h => ?_
 obtain ⟨σd, S, α, fl, σd', S', hv, hs, hf, k⟩ := h
 unfold sRet at hf
 simp only [Option.map_eq_some_iff] at hf
 obtain ⟨⟨d, S1⟩, e1, e2⟩ := hf
 cases e2
 exact ⟨σd, S, α, d, S1, hv, hs, e1, λv H' α' s' x' r' => k _ _ _ (hv.mono x') s' x' v r'⟩
theorem zkG : SS X (.Return none pos) sRetN := by
 refine PS.imp zk4 λD σ H h => ?_
 obtain ⟨σd, S, α, fl, σd', S', hv, hs, hf, k⟩ := h
 cases hf
 exact k _ _ _ hv hs Ext.refl _ .non
theorem zgD {tg : Expr} {fg : GF} (he : SE X e fe) (hg : SG X tg fg) (h1 : swapsWithSole [tg] e pos.line X.env = pure false) (h2 : swappedStores [tg] e X.env = pure none)
   (h3 : (assignEach [tg] X.env).map (·.2) = [assign tg X.env]) : SS X (.Assign [tg] e pos) (sAsg fe fg) := by
 refine PS.imp (zm5 he hg h1 h2 h3) λD σ H h => ?_
 obtain ⟨σd, S, α, fl, σd', S', hv, hs, hf, k⟩ := h
 unfold sAsg at hf
 simp only [Option.bind_eq_some_iff, Option.map_eq_some_iff] at hf
 obtain ⟨⟨d, S1⟩, e1, ⟨σ1, S2⟩, e2, e3⟩ := hf
 cases e3
 exact ⟨σd, S, α, d, S1, hv, hs, e1, λv H' α' s' x' r' => ⟨σd, S1, α', d, _, _, hv.mono x', s', r', e2, λσ2 H2 α2 v2 s2 x2 => k _ _ _ v2 s2 (x'.trans x2)⟩⟩
theorem zkd {i : Nat} {x : Str} {pos' : Pos} (hN : X.N.Nodup) (hi : X.N[i]? = some x) (hx : Loc X.env.scope x) (he : SE X e fe) (hsw : swapsWith e (some (.Name x pos')) pos.line X.env = pure false) (hfn : X.fn x = true ∨ X.env.scope.names.lookup x = some .local) :
   SS X (.Assign [.Name x pos'] e pos) (sAsg fe (gNm i)) := by
 refine PS.imp (zm1 hN hi hx he hsw hfn) λD σ H h => ?_
 obtain ⟨σd, S, α, fl, σd', S', hv, hs, hf, k⟩ := h
 unfold sAsg at hf
 simp only [Option.bind_eq_some_iff, Option.map_eq_some_iff] at hf
 obtain ⟨⟨d, S1⟩, e1, ⟨σ1, S2⟩, e2, e3⟩ := hf
 cases e3; cases e2
 exact ⟨σd, S, α, d, S1, hv, hs, e1, λv H' α' s' x' r' => k _ _ _ ((hv.mono x').set r' i) s' x'⟩
theorem zn7 {c : Expr} {a b : List Stmt} {t : TF} (hc : ST X c t) (ha : SSs X a f) (hb : SSs X b g) : SS X (.If c a b pos) (sIf t f g) := by
 refine PS.imp (zog hc ha hb) λD σ H h => ?_
 obtain ⟨σd, S, α, fl, σd', S', hv, hs, hf, k⟩ := h
 unfold sIf at hf
 simp only [Option.bind_eq_some_iff] at hf
 obtain ⟨⟨b1, S1⟩, e1, e2⟩ := hf
 refine ⟨σd, S, α, b1, S1, hv, hs, e1, λH1 α1 s1 x1 => ?_⟩
 cases b1 with
 | true =>
   rw [if_pos rfl]; rw [if_pos rfl] at e2
   exact ⟨σd, S1, α1, fl, σd', S', hv.mono x1, s1, e2, k.trans x1⟩
 | false =>
   rw [if_neg Bool.false_ne_true]; rw [if_neg Bool.false_ne_true] at e2
   exact ⟨σd, S1, α1, fl, σd', S', hv.mono x1, s1, e2, k.trans x1⟩
end
def whN (t : TF) (f : SF) : Nat → SF
 | 0 => λ_ _ => none
 | n + 1 => λσ S => (t σ S).bind λr => if r.1 = true then (f σ r.2).bind λq => match q.1 with
     | .nx => whN t f n q.2.1 q.2.2
     | .ct => whN t f n q.2.1 q.2.2
     | .bk => some (.nx, q.2.1, q.2.2)
     | .rt d => some (.rt d, q.2.1, q.2.2)
   else some (.nx, σ, r.2)
theorem ze9 {t : TF} {f : SF} : ∀ {n : Nat} {σ : Sg} {S : So} {r : Fl × Sg × So}, whN t f n σ S = some r → whN t f (n + 1) σ S = some r
 | 0, _, _, _, h => by cases h
 | n + 1, σ, S, r, h => by
   unfold whN at h ⊢
   simp only [Option.bind_eq_some_iff] at h ⊢
   obtain ⟨q, e1, e2⟩ := h
   refine ⟨q, e1, ?_⟩
   by_cases hb : q.1 = true
   · rw [if_pos hb] at e2 ⊢
     simp only [Option.bind_eq_some_iff] at e2 ⊢
     obtain ⟨q2, e3, e4⟩ := e2
     refine ⟨q2, e3, ?_⟩
     obtain ⟨fl, σ1, S1⟩ := q2
     cases fl with
     | nx => exact ze9 e4
     | ct => exact ze9 e4
     | bk => exact e4
     | rt d => exact e4
   · rw [if_neg hb] at e2 ⊢
     exact e2
theorem zgA {t : TF} {f : SF} {n m : Nat} {σ : Sg} {S : So} {r : Fl × Sg × So} (h : whN t f n σ S = some r) (hm : n ≤ m) : whN t f m σ S = some r := by
 obtain ⟨k, rfl⟩ := Nat.exists_eq_add_of_le hm
 clear hm
 induction k with
 | zero => exact h
 | succ k ih => exact ze9 ih
open Classical in
def sWh (t : TF) (f : SF) : SF := λσ S => if h : ∃ n r, whN t f n σ S = some r then some (Classical.choose (Classical.choose_spec h)) else none
theorem zke {t : TF} {f : SF} {n : Nat} {σ : Sg} {S : So} {r : Fl × Sg × So} (h : whN t f n σ S = some r) : sWh t f σ S = some r := by
 have hx : ∃ n r, whN t f n σ S = some r := ⟨n, r, h⟩
 unfold sWh
 rw [dif_pos hx]
 have e := Classical.choose_spec (Classical.choose_spec hx)
 have e1 := zgA e (Nat.le_max_left _ n)
 have e2 := zgA h (Nat.le_max_right (Classical.choose hx) n)
 rw [e1] at e2
 exact e2
theorem zkg {t : TF} {f : SF} {σ : Sg} {S : So} {r : Fl × Sg × So} (h : sWh t f σ S = some r) : ∃ n, whN t f n σ S = some r := by
 unfold sWh at h
 split at h
 · rename_i hx
   cases h
   exact ⟨_, Classical.choose_spec (Classical.choose_spec hx)⟩
 · cases h
theorem zgF {t : TF} {f : SF} {σ σ1 σ2 : Sg} {S S1 S2 : So} {fl : Fl} {r : Fl × Sg × So} (h1 : t σ S = some (true, S1)) (h2 : f σ S1 = some (fl, σ2, S2)) (hf : fl = .nx ∨ fl = .ct) (h3 : sWh t f σ2 S2 = some r) : sWh t f σ S = some r := by
 obtain ⟨n, e⟩ := zkg h3
 refine zke (n := n + 1) ?_
 unfold whN
 rw [h1]
 simp only [Option.bind_some, if_true]
 rw [h2]
 rcases hf with rfl | rfl <;> exact e
theorem zhO {t : TF} {f : SF} {σ : Sg} {S S1 : So} (h1 : t σ S = some (false, S1)) : sWh t f σ S = some (.nx, σ, S1) := by
 refine zke (n := 1) ?_
 unfold whN
 rw [h1]
 simp
section
variable {X : Cx} {pos : Pos}
theorem zi5 {c : Expr} {body : List Stmt} {t : TF} {f : SF} (hp : PassesOwn (model X.prog X.w) X.A X.env X.xe) (hc : ST X c t) (hb : SSs X body f) : SS X (.While c body [] pos) (sWh t f) := by
 refine PS.imp (zjq hp hc hb) λD σ H h => ?_
 obtain ⟨σd, S, α, fl, σd', S', hv, hs, hf, k⟩ := h
 obtain ⟨n, hn⟩ := zkg hf
 refine ⟨λm σ1 H1 => ∃ σd1 S1 α1, VarsR X.K H1 α1 σd1 σ1 ∧ StoreR X.K H1 α1 S1 ∧ Ext X.K H α H1 α1 ∧ whN t f m σd1 S1 = some (fl, σd', S'), ⟨n, σd, S, α, hv, hs, Ext.refl, hn⟩, ?_⟩
 rintro m σ1 H1 ⟨σd1, S1, α1, v1, s1, x1, e⟩
 cases m with
 | zero => cases e
 | succ m =>
   unfold whN at e
   simp only [Option.bind_eq_some_iff] at e
   obtain ⟨⟨b, S2⟩, e1, e2⟩ := e
   refine ⟨σd1, S1, α1, b, S2, v1, s1, e1, λH2 α2 s2 x2 => ?_⟩
   cases b with
   | false =>
     rw [if_neg Bool.false_ne_true]; rw [if_neg Bool.false_ne_true] at e2
     cases e2
     exact k _ _ _ (v1.mono x2) s2 (x1.trans x2)
   | true =>
     rw [if_pos rfl]; rw [if_pos rfl] at e2
     simp only [Option.bind_eq_some_iff] at e2
     obtain ⟨⟨fl3, σd3, S3⟩, e3, e4⟩ := e2
     refine ⟨λσ4 H4 => ∃ σd4 S4 α4, VarsR X.K H4 α4 σd4 σ4 ∧ StoreR X.K H4 α4 S4 ∧ Ext X.K H α H4 α4 ∧ whN t f m σd4 S4 = some (fl, σd', S'), λσ4 H4 q => ⟨m, Nat.lt_succ_self _, q⟩, ?_⟩
     refine ⟨σd1, S2, α2, fl3, σd3, S3, v1.mono x2, s2, e3, λσ4 H4 α4 v4 s4 x4 => ?_⟩
     have xx := (x1.trans x2).trans x4
     cases fl3 with
     | nx => exact ⟨σd3, S3, α4, v4, s4, xx, e4⟩
     | ct => exact ⟨σd3, S3, α4, v4, s4, xx, e4⟩
     | bk => cases e4; exact k _ _ _ v4 s4 xx
     | rt d => cases e4; exact k _ _ _ v4 s4 xx
end
end MX
end
section
set_option autoImplicit false
namespace MX
open PySem PySem.Spec PyProof.Rows L2
inductive ItD where
 | fix (xs : List D) | lst (n : Nat) | zip (ds : List D)
def seqD (S : So) : D → Option (List D)
 | .tup xs => some xs
 | .ref n => match S[n]? with
   | some (.lst xs) => some xs
   | some (.frz xs) => some xs
   | _ => none
 | _ => none
def seqsD (S : So) : List D → Option (List (List D))
 | [] => some []
 | d :: r => (seqD S d).bind λxs => (seqsD S r).map (xs :: ·)
def minLen : List (List D) → Option Nat
 | [] => none
 | [xs] => some xs.length
 | xs :: r => (minLen r).map λn => min xs.length n
def nxD : ItD → Nat → So → Option (Option D)
 | .fix xs, i, _ => some xs[i]?
 | .lst n, i, S => match S[n]? with
   | some (.lst xs) => some xs[i]?
   | some (.frz xs) => some xs[i]?
   | _ => none
 | .zip ds, i, S => (seqsD S ds).map λxss => (MZ.rowAt xss i).map D.tup
def cntD : ItD → So → Option Nat
 | .fix xs, _ => some xs.length
 | .lst n, S => match S[n]? with
   | some (.lst xs) => some xs.length
   | some (.frz xs) => some xs.length
   | _ => none
 | .zip ds, S => (seqsD S ds).bind minLen
abbrev IF := Sg → So → Option (ItD × So)
def ItR (K : PySem.W.Frag) (H₀ : Hp) (α₀ : List Addr) (j : ItD) (J : It) : Prop := ∀ (i : Nat) H α S, Ext K H₀ α₀ H α → StoreR K H α S →
 (nxD j i S = some none → J.stop i H) ∧ ∀ d, nxD j i S = some (some d) → J.go i H ∧ ∀ x H', J.yld i H x H' → Same H H' ∧ Rep K H' α d x
def rdI (K : PySem.W.Frag) (f : IF) : TI := λσ H R => ∃ σd S α j S', VarsR K H α σd σ ∧ StoreR K H α S ∧ f σd S = some (j, S') ∧ ∀ J H' α', StoreR K H' α' S' → Ext K H α H' α' → ItR K H' α' j J → R J H'
def SI (X : Cx) (tg e : Expr) (f : IF) : Prop := PI X tg e (rdI X.K f)
def iVal (fe : EF) : IF := λσ S => (fe σ S).bind λr => match r.1 with
 | .tup xs => some (.fix xs, r.2)
 | .ref n => match r.2[n]? with
   | some (.lst _) => some (.lst n, r.2)
   | some (.frz _) => some (.lst n, r.2)
   | _ => none
 | _ => none
def rangeD (lo : Int) (n : Nat) : List D := (List.range n).map λk => .int (lo + (k : Nat))
def iRg1 (fa : AF) : IF := λσ S => (fa σ S).bind λr => match r.1 with
 | [.int j] => if -(2 ^ 62) ≤ j ∧ j < 2 ^ 62 then some (.fix (rangeD 0 j.toNat), r.2) else none
 | _ => none
def iRg2 (fa : AF) : IF := λσ S => (fa σ S).bind λr => match r.1 with
 | [.int i, .int j] => if (-(2 ^ 62) ≤ i ∧ i < 2 ^ 62) ∧ -(2 ^ 62) ≤ j ∧ j < 2 ^ 62 then some (.fix (rangeD i (j - i).toNat), r.2) else none
 | _ => none
def iZip (fa : AF) : IF := λσ S => (fa σ S).bind λr => if 2 ≤ r.1.length ∧ r.1.length ≤ 4 then (seqsD r.2 r.1).map λ_ => (.zip r.1, r.2) else none
inductive SrcD (K : PySem.W.Frag) (H : Hp) (α : List Addr) : List D → List (Addr × Bool) → Prop
 | nil : SrcD K H α [] []
 | tup {a : Addr} {xs : List D} {vs : List V} {ds : List D} {l : List (Addr × Bool)} : SqT K H a vs → Reps K H α xs vs → SrcD K H α ds l → SrcD K H α (.tup xs :: ds) ((a, true) :: l)
 | ref {a : Addr} {n : Nat} {ds : List D} {l : List (Addr × Bool)} : α[n]? = some a → SrcD K H α ds l → SrcD K H α (.ref n :: ds) ((a, false) :: l)
inductive Repss (K : PySem.W.Frag) (H : Hp) (α : List Addr) : List (List D) → List (List V) → Prop
 | nil : Repss K H α [] []
 | cons {xs : List D} {vs : List V} {r : List (List D)} {q : List (List V)} : Reps K H α xs vs → Repss K H α r q → Repss K H α (xs :: r) (vs :: q)
theorem zcG {K : PySem.W.Frag} {H H1 : Hp} {α α1 : List Addr} {S1 : So} (x1 : Ext K H α H1 α1) (s1 : StoreR K H1 α1 S1) : ∀ {ds : List D} {l : List (Addr × Bool)} {xss : List (List D)}, SrcD K H α ds l → seqsD S1 ds = some xss → ∃ vss, MZ.SrcsR K H1 l vss ∧ Repss K H1 α1 xss vss
 | _, _, _, .nil, e => by cases e; exact ⟨[], .nil, .nil⟩
 | _, _, _, .tup h r t, e => by
   simp only [seqsD, seqD, Option.bind_some, Option.map_eq_some_iff] at e
   obtain ⟨yss, e1, rfl⟩ := e
   obtain ⟨vss, h1, h2⟩ := zcG x1 s1 t e1
   exact ⟨_, .tup (x1.tups _ _ h) h1, .cons (r.mono x1) h2⟩
 | _, _, _, @SrcD.ref _ _ _ a n ds l h t, e => by
   simp only [seqsD, Option.bind_eq_some_iff, Option.map_eq_some_iff] at e
   obtain ⟨xs, e0, yss, e1, rfl⟩ := e
   obtain ⟨vss, h1, h2⟩ := zcG x1 s1 t e1
   have ha := x1.pre _ _ h
   simp only [seqD] at e0
   split at e0
   · rename_i q
     cases e0
     obtain ⟨vs, q1, q2⟩ := s1.obj _ _ _ q ha
     exact ⟨_, .lst (SqL.of q1) h1, .cons q2 h2⟩
   · rename_i q
     cases e0
     obtain ⟨vs, q1, q2⟩ := s1.obj _ _ _ q ha
     exact ⟨_, .lst q1.sq h1, .cons q2 h2⟩
   · cases e0
theorem zfi {K : PySem.W.Frag} {H : Hp} {α : List Addr} {i : Nat} : ∀ {xss : List (List D)} {vss : List (List V)}, Repss K H α xss vss → (MZ.rowAt xss i = none → MZ.rowAt vss i = none) ∧ ∀ row, MZ.rowAt xss i = some row → ∃ vrow, MZ.rowAt vss i = some vrow ∧ Reps K H α row vrow
 | _, _, .nil => ⟨λh => (by cases h), λrow h => (by cases h; exact ⟨[], rfl, .nil⟩)⟩
 | _, _, @Repss.cons _ _ _ xs vs r q h t => by
   obtain ⟨i1, i2⟩ := zfi (i := i) t
   refine ⟨λe => ?_, λrow e => ?_⟩
   · cases h1 : xs[i]? with
     | none =>
       have : vs[i]? = none := List.getElem?_eq_none (by rw [← h.length]; exact List.getElem?_eq_none_iff.mp h1)
       simp [MZ.rowAt, this]
     | some x =>
       have e' : MZ.rowAt r i = none := by
         cases q2 : MZ.rowAt r i with
         | none => rfl
         | some z => simp [MZ.rowAt, h1, q2] at e
       obtain ⟨v, hv, _⟩ := h.get h1
       simp [MZ.rowAt, hv, i1 e']
   · simp only [MZ.rowAt, Option.bind_eq_some_iff, Option.map_eq_some_iff] at e
     obtain ⟨x, e1, r', e2, rfl⟩ := e
     obtain ⟨v, hv, rv⟩ := h.get e1
     obtain ⟨vr, e3, r3⟩ := i2 r' e2
     exact ⟨v :: vr, by simp [MZ.rowAt, hv, e3], .cons rv r3⟩
theorem zlH {K : PySem.W.Frag} {H : Hp} {α : List Addr} {ds : List D} {l : List (Addr × Bool)} (h : SrcD K H α ds l) : ItR K H α (.zip ds) (MZ.Itz K l) := λi H1 α1 S1 x1 s1 => by
 simp only [nxD, Option.map_eq_some_iff]
 refine ⟨λ⟨xss, e1, e2⟩ => ?_, λd ⟨xss, e1, row, e2, e9⟩ => ?_⟩
 · obtain ⟨vss, h1, h2⟩ := zcG x1 s1 h e1
   exact ⟨vss, h1, (zfi h2).1 (by simpa using e2)⟩
 · subst e9
   obtain ⟨vss, h1, h2⟩ := zcG x1 s1 h e1
   obtain ⟨vrow, e3, r3⟩ := (zfi h2).2 row e2
   refine ⟨⟨vss, vrow, h1, e3⟩, λx H' y => ?_⟩
   obtain ⟨p, row', rfl, hp, rfl, hy⟩ := y
   have := hy vss h1
   rw [e3] at this; cases this
   exact ⟨za5 hp, .tup (SqT.of zaw) (r3.mono (Same.ext (za5 hp)))⟩
theorem zhF {K : PySem.W.Frag} {H : Hp} {α : List Addr} {S : So} (hs : StoreR K H α S) : ∀ {ds : List D} {vs : List V} {xss : List (List D)}, Reps K H α ds vs → seqsD S ds = some xss → ∃ l, SrcD K H α ds l ∧ vs = l.map λp => V.ref p.1
 | _, _, _, .nil, _ => ⟨[], .nil, rfl⟩
 | _, _, _, .cons r rr, e => by
   simp only [seqsD, Option.bind_eq_some_iff, Option.map_eq_some_iff] at e
   obtain ⟨xs, e0, yss, e1, rfl⟩ := e
   obtain ⟨l, h1, h2⟩ := zhF hs rr e1
   cases r with
   | tup h q => exact ⟨_, .tup h q h1, by rw [h2]; rfl⟩
   | ref h => exact ⟨_, .ref h h1, by rw [h2]; rfl⟩
   | _ => cases e0
theorem zff {K : PySem.W.Frag} {H : Hp} {α : List Addr} : ∀ {ds : List D} {l : List (Addr × Bool)}, SrcD K H α ds l → ds.length = l.length
 | _, _, .nil => rfl
 | _, _, .tup _ _ t => by simp [zff t]
 | _, _, .ref _ t => by simp [zff t]
section
variable {X : Cx} {tg : Expr}
theorem PI.or {e : Expr} {t t' : TI} (h : PI X tg e t) (h' : PI X tg e t') : PI X tg e (λσ H R => t σ H R ∨ t' σ H R) := λpins s σ H R I q => by
 rcases q with q | q
 · exact h pins s σ H R I q
 · exact h' pins s σ H R I q
theorem zlI {K : PySem.W.Frag} {H : Hp} {α : List Addr} {a : Addr} {ds : List D} {vs : List V} (h : SqT K H a vs) (r : Reps K H α ds vs) : ItR K H α (.fix ds) (Itt K a) := λi H1 α1 S1 x1 s1 => by
 have h1 := x1.tups _ _ h
 have r1 := r.mono x1
 refine ⟨λe => ?_, λd e => ?_⟩
 · have e' : ds[i]? = none := Option.some.inj e
   exact ⟨vs, h1, by rw [← r.length]; exact List.getElem?_eq_none_iff.mp e'⟩
 · obtain ⟨v, e1, q⟩ := r1.get (Option.some.inj e)
   refine ⟨⟨vs, v, h1, e1⟩, λx H' y => ?_⟩
   obtain ⟨rfl, y⟩ := y
   have := y vs h1
   rw [e1] at this; cases this
   exact ⟨Same.refl _, q⟩
theorem zil {K : PySem.W.Frag} {H : Hp} {α : List Addr} {a : Addr} {n : Nat} (h : α[n]? = some a) : ItR K H α (.lst n) (Itl K a) := λi H1 α1 S1 x1 s1 => by
 have h1 := x1.pre _ _ h
 have core : ∀ ds, (∃ vs, SqL K H1 a vs ∧ Reps K H1 α1 ds vs) → ((some ds[i]? = some (none : Option D)) → (Itl K a).stop i H1) ∧ ∀ d, some ds[i]? = some (some d) → (Itl K a).go i H1 ∧ ∀ x H', (Itl K a).yld i H1 x H' → Same H1 H' ∧ Rep K H' α1 d x := λds ⟨vs, q, r⟩ => by
   refine ⟨λe => ?_, λd e => ?_⟩
   · have e' : ds[i]? = none := Option.some.inj e
     exact ⟨vs, q, by rw [← r.length]; exact List.getElem?_eq_none_iff.mp e'⟩
   · obtain ⟨v, e1, rv⟩ := r.get (Option.some.inj e)
     refine ⟨⟨vs, v, q, e1⟩, λx H' y => ?_⟩
     obtain ⟨rfl, y⟩ := y
     have := y vs q
     rw [e1] at this; cases this
     exact ⟨Same.refl _, rv⟩
 unfold nxD
 cases hm : S1[n]? with
 | none => simp only [hm]; exact ⟨λe => (nomatch e), λd e => (nomatch e)⟩
 | some o =>
   have hob := s1.obj _ _ _ hm h1
   cases o with
   | lst ds => simp only [hm]; obtain ⟨vs, q, r⟩ := hob; exact core ds ⟨vs, SqL.of q, r⟩
   | frz ds => simp only [hm]; obtain ⟨vs, q, r⟩ := hob; exact core ds ⟨vs, q.sq, r⟩
   | ins C fs => simp only [hm]; exact ⟨λe => (nomatch e), λd e => (nomatch e)⟩
theorem zdC {lo : Int} {n i : Nat} : (rangeD lo n)[i]? = if i < n then some (.int (lo + (i : Nat))) else none := by
 unfold rangeD
 rw [List.getElem?_map]
 by_cases h : i < n
 · rw [if_pos h, List.getElem?_range h]; rfl
 · rw [if_neg h, List.getElem?_eq_none (by simpa using h)]; rfl
theorem zfI {K : PySem.W.Frag} {H : Hp} {α : List Addr} {lo : Int} {n : Nat} : ItR K H α (.fix (rangeD lo n)) (Itr lo n) := λi H1 α1 S1 x1 s1 => by
 simp only [nxD]
 rw [zdC]
 by_cases h : i < n
 · rw [if_pos h]
   refine ⟨λe => (nomatch e), λd e => ⟨h, λx H' y => ?_⟩⟩
   obtain ⟨rfl, rfl⟩ := y
   cases e
   exact ⟨Same.refl _, .int _⟩
 · rw [if_neg h]
   exact ⟨λ_ => Nat.le_of_not_lt h, λd e => (nomatch e)⟩
theorem zmE {e : Expr} {fe : EF} (he : SE X e fe) : SI X tg e (iVal fe) := by
 refine PI.imp (PI.or (zm7 he) (zla he)) λσ H R h => ?_
 obtain ⟨σd, S, α, j, S', hv, hs, hf, k⟩ := h
 unfold iVal at hf
 simp only [Option.bind_eq_some_iff] at hf
 obtain ⟨⟨d, S1⟩, e1, e2⟩ := hf
 cases d with
 | tup xs =>
   cases e2
   refine .inl ⟨σd, S, α, .tup xs, _, hv, hs, e1, λv H1 α1 s1 x1 r1 => ?_⟩
   cases r1 with
   | tup h r => exact ⟨_, rfl, ⟨_, h⟩, k _ _ _ s1 x1 (zlI h r)⟩
 | ref n =>
   refine .inr ⟨σd, S, α, .ref n, S1, hv, hs, e1, λv H1 α1 s1 x1 r1 => ?_⟩
   cases r1 with
   | ref h =>
     refine ⟨_, rfl, ?_⟩
     simp only at e2
     cases hm : S1[n]? with
     | none => simp [hm] at e2
     | some o =>
       have hob := s1.obj _ _ _ hm h
       cases o with
       | lst ds => simp only [hm] at e2; cases e2; obtain ⟨vs, q, r⟩ := hob; exact ⟨⟨vs, SqL.of q⟩, k _ _ _ s1 x1 (zil h)⟩
       | frz ds => simp only [hm] at e2; cases e2; obtain ⟨vs, q, r⟩ := hob; exact ⟨⟨vs, q.sq⟩, k _ _ _ s1 x1 (zil h)⟩
       | ins C fs => simp [hm] at e2
 | _ => cases e2
theorem zhM {a : Expr} {fa : AF} {p pos : Pos} (hg : Gl X "range") (hm : X.mg "range" = none) (ha : SA X [a] fa) (hst : starEach [a] X.env = [(false, eval a X.env)]) : SI X tg (.Call (.Name "range" p) [a] [] pos) (iRg1 fa) := by
 refine PI.imp (zhV hg hm ha hst) λσ H R h => ?_
 obtain ⟨σd, S, α, j, S', hv, hs, hf, k⟩ := h
 unfold iRg1 at hf
 simp only [Option.bind_eq_some_iff] at hf
 obtain ⟨⟨ds, S1⟩, e1, e2⟩ := hf
 refine ⟨σd, S, α, ds, S1, hv, hs, e1, λvs H1 α1 s1 x1 r1 => ?_⟩
 split at e2
 · rename_i jj hj
   simp only at hj
   subst hj
   split at e2
   · rename_i hb
     cases e2
     cases r1 with
     | cons r rr => cases r; cases rr; exact ⟨jj, rfl, hb.1, hb.2, k _ _ _ s1 x1 zfI⟩
   · cases e2
 · cases e2
theorem zhL {a b : Expr} {fa : AF} {p pos : Pos} (hg : Gl X "range") (hm : X.mg "range" = none) (ha : SA X [a, b] fa) (hst : starEach [a, b] X.env = [(false, eval a X.env), (false, eval b X.env)]) (hst2 : starEach [b] X.env = [(false, eval b X.env)]) :
   SI X tg (.Call (.Name "range" p) [a, b] [] pos) (iRg2 fa) := by
 refine PI.imp (zhU hg hm ha hst hst2) λσ H R h => ?_
 obtain ⟨σd, S, α, j, S', hv, hs, hf, k⟩ := h
 unfold iRg2 at hf
 simp only [Option.bind_eq_some_iff] at hf
 obtain ⟨⟨ds, S1⟩, e1, e2⟩ := hf
 refine ⟨σd, S, α, ds, S1, hv, hs, e1, λvs H1 α1 s1 x1 r1 => ?_⟩
 split at e2
 · rename_i ii jj hj
   simp only at hj
   subst hj
   split at e2
   · rename_i hb
     cases e2
     cases r1 with
     | cons r rr =>
       cases r
       cases rr with
       | cons r rr => cases r; cases rr; exact ⟨ii, jj, rfl, ⟨hb.1.1, hb.1.2, hb.2.1, hb.2.2⟩, k _ _ _ s1 x1 zfI⟩
   · cases e2
 · cases e2
theorem zmD {e : Expr} {es ts : List Expr} {kk : Nat} {tp p pos : Pos} {fa : AF} (hg : Gl X "zip") (hm : X.mg "zip" = none) (ha : SA X (e :: es) fa) (hst : starEach (e :: es) X.env = (false, eval e X.env) :: starEach es X.env)
   (hpl : (backTo pos (starEach es X.env)).any (·.1) = false) : SI X (.Tuple ts kk tp) (.Call (.Name "zip" p) (e :: es) [] pos) (iZip fa) := by
 refine PI.imp (MZ.zm6 hg hm ha hst hpl) λσ H R h => ?_
 obtain ⟨σd, S, α, j, S', hv, hs, hf, k⟩ := h
 unfold iZip at hf
 simp only [Option.bind_eq_some_iff] at hf
 obtain ⟨⟨ds, S1⟩, e1, e2⟩ := hf
 refine ⟨σd, S, α, ds, S1, hv, hs, e1, λvs H1 α1 s1 x1 r1 => ?_⟩
 split at e2
 · rename_i hb
   simp only [Option.map_eq_some_iff] at e2
   obtain ⟨xss, e3, e4⟩ := e2
   cases e4
   obtain ⟨l, h1, h2⟩ := zhF s1 r1 e3
   have hl := zff h1
   obtain ⟨vss, h3, _⟩ := zcG Ext.refl s1 h1 e3
   exact ⟨l, h2, by rw [← hl]; exact hb.1, by rw [← hl]; exact hb.2, ⟨vss, h3⟩, k _ _ _ s1 x1 (zlH h1)⟩
 · cases e2
end
def forN (nx : Nat → So → Option (Option D)) (g : GF) (f : SF) : Nat → Nat → SF
 | 0, i => λσ S => match nx i S with
   | some none => some (.nx, σ, S)
   | _ => none
 | k + 1, i => λσ S => match nx i S with
   | some (some d) => (g d σ S).bind λq => (f q.1 q.2).bind λr => match r.1 with
     | .nx => forN nx g f k (i + 1) r.2.1 r.2.2
     | .ct => forN nx g f k (i + 1) r.2.1 r.2.2
     | .bk => some (.nx, r.2.1, r.2.2)
     | .rt d => some (.rt d, r.2.1, r.2.2)
   | _ => none
def sFor (fi : IF) (g : GF) (f : SF) : SF := λσ S => (fi σ S).bind λr => (cntD r.1 r.2).bind λn => forN (nxD r.1) g f n 0 σ r.2
theorem zmx {X : Cx} {tg iter : Expr} {body : List Stmt} {fi : IF} {g : GF} {f : SF} {pos : Pos} (hp : PassesOwn (model X.prog X.w) X.A X.env X.xe) (hc : X.calm = true) (hi : SI X tg iter fi) (hg : SG X tg g) (hb : SSs X body f)
   (hfs : ∀ x, foldedSetIterable iter X.env x = pure x) : SS X (.For tg iter body [] pos) (sFor fi g f) := by
 refine PS.imp (zm3 hp hc hi hg hb hfs) λD σ H h => ?_
 obtain ⟨σd, S, α, fl, σd', S', hv, hs, hf, k⟩ := h
 unfold sFor at hf
 simp only [Option.bind_eq_some_iff] at hf
 obtain ⟨⟨j, S1⟩, e1, n, e2, e3⟩ := hf
 refine ⟨σd, S, α, j, S1, hv, hs, e1, λJ H1 α1 s1 x1 jr => ?_⟩
 refine ⟨λi m σ2 H2 => ∃ σd2 S2 α2, VarsR X.K H2 α2 σd2 σ2 ∧ StoreR X.K H2 α2 S2 ∧ Ext X.K H1 α1 H2 α2 ∧ forN (nxD j) g f m i σd2 S2 = some (fl, σd', S'), ⟨n, σd, S1, α1, hv.mono x1, s1, Ext.refl, e3⟩, ?_⟩
 rintro i m σ2 H2 ⟨σd2, S2, α2, v2, s2, x2, e⟩
 obtain ⟨jstop, jgo⟩ := jr i H2 α2 S2 x2 s2
 cases m with
 | zero =>
   unfold forN at e
   split at e
   · rename_i hn
     cases e
     exact .inl ⟨jstop hn, k _ _ _ v2 s2 (x1.trans x2)⟩
   · cases e
 | succ m =>
   unfold forN at e
   split at e
   · rename_i d hn
     obtain ⟨hgo, hy⟩ := jgo d hn
     simp only [Option.bind_eq_some_iff] at e
     obtain ⟨⟨σ3, S3⟩, e4, ⟨fl4, σ4, S4⟩, e5, e6⟩ := e
     refine .inr ⟨hgo, λσ5 H5 => ∃ σd5 S5 α5, VarsR X.K H5 α5 σd5 σ5 ∧ StoreR X.K H5 α5 S5 ∧ Ext X.K H1 α1 H5 α5 ∧ forN (nxD j) g f m (i + 1) σd5 S5 = some (fl, σd', S'), λσ5 H5 q => ⟨m, Nat.lt_succ_self _, q⟩, λx H3 y => ?_⟩
     obtain ⟨sm, rx⟩ := hy x H3 y
     have x3 : Ext X.K H2 α2 H3 α2 := Same.ext sm
     refine ⟨σd2, S2, α2, d, σ3, S3, v2.mono x3, s2.mono sm, rx, e4, λσ5 H5 α5 v5 s5 x5 => ?_⟩
     refine ⟨σ3, S3, α5, fl4, σ4, S4, v5, s5, e5, λσ6 H6 α6 v6 s6 x6 => ?_⟩
     have xx := ((x2.trans x3).trans x5).trans x6
     cases fl4 with
     | nx => exact ⟨σ4, S4, α6, v6, s6, xx, e6⟩
     | ct => exact ⟨σ4, S4, α6, v6, s6, xx, e6⟩
     | bk => cases e6; exact k _ _ _ v6 s6 (x1.trans xx)
     | rt d => cases e6; exact k _ _ _ v6 s6 (x1.trans xx)
   · cases e
def srcD (src : List (Option Nat)) (σ : Sg) : Sg := src.map λo => o.bind λi => (σ[i]?).join
theorem zi8 {K : PySem.W.Frag} {H : Hp} {α : List Addr} {σd : Sg} {σ : L2.St} {src : List (Option Nat)} (h : VarsR K H α σd σ) : VarsR K H α (srcD src σd) (srcV src σ) := by
 refine ⟨by simp [srcD, srcV], λi d e => ?_⟩
 unfold srcD at e
 rw [List.getElem?_map] at e
 cases q : src[i]? with
 | none => rw [q] at e; simp at e
 | some o =>
   rw [q] at e
   cases o with
   | none => simp at e
   | some j =>
     simp only [Option.map_some, Option.bind_some, Option.some.injEq] at e
     cases q2 : σd[j]? with
     | none => rw [q2] at e; simp at e
     | some o2 =>
       rw [q2] at e
       simp at e
       subst e
       obtain ⟨v, h1, h2⟩ := h.2 j d q2
       exact ⟨v, by unfold srcV; rw [List.getElem?_map, q]; simp [h1], h2⟩
def tTru : TF := λ_ S => some (true, S)
def lcN (nx : Nat → So → Option (Option D)) (g : GF) (t : TF) (fe : EF) : Nat → Nat → Sg → So → List D → Option (List D × So)
 | 0, i, _, S, acc => match nx i S with
   | some none => some (acc, S)
   | _ => none
 | k + 1, i, τ, S, acc => match nx i S with
   | some (some d) => (g d τ S).bind λq => (t q.1 q.2).bind λb => if b.1 = true then (fe q.1 b.2).bind λr => lcN nx g t fe k (i + 1) q.1 r.2 (acc ++ [r.1]) else lcN nx g t fe k (i + 1) q.1 b.2 acc
   | _ => none
def lcD (fi : IF) (g : GF) (t : TF) (fe : EF) (src : List (Option Nat)) : Sg → So → Option (List D × So) := λσ S => (fi σ S).bind λr => (cntD r.1 r.2).bind λn => if n ≤ sizeLine then lcN (nxD r.1) g t fe n 0 (srcD src σ) r.2 [] else none
def eLc (fi : IF) (g : GF) (t : TF) (fe : EF) (src : List (Option Nat)) : EF := λσ S => (lcD fi g t fe src σ S).map λq => (.ref q.2.length, q.2 ++ [.lst q.1])
def STs (X : Cx) (ifs : List Expr) (t : TF) : Prop := PTs X ifs (rdT X.K t)
theorem zkF {X : Cx} : STs X [] tTru := λpins s σ H Q I h => zk1 pins s σ H Q I (by
 obtain ⟨σd, S, α, b, S', hv, hs, hf, k⟩ := h
 cases hf
 exact k _ _ hs Ext.refl)
theorem zkE {X : Cx} {c : Expr} {t : TF} (h : ST X c t) : STs X [c] t := zk0 h
section
variable {X : Cx} {elt tg iter : Expr} {ifs : List Expr} {scope : Scope} {pos : Pos} {N' : List Str} {src : List (Option Nat)} {fi : IF} {g : GF} {t : TF} {fe : EF}
theorem zie {K : PySem.W.Frag} {σd : Sg} {σ : L2.St} {S S' : So} {H : Hp} {α : List Addr} {ds : List D} {Fin : List V → Hp → Prop} (hv : VarsR K H α σd σ) (hs : StoreR K H α S) (hf : lcD fi g t fe src σd S = some (ds, S'))
   (k : ∀ ys H' α', StoreR K H' α' S' → Ext K H α H' α' → Reps K H' α' ds ys → Fin ys H') :
   rdI K fi σ H λJ H1 => ∃ W, (∃ m, W 0 m [] (srcV src σ) H1) ∧ LcW J (rdG K g) (rdT K t) (rdE K fe) Fin W := by
 unfold lcD at hf
 simp only [Option.bind_eq_some_iff] at hf
 obtain ⟨⟨j, S1⟩, e1, n, e2, e3⟩ := hf
 split at e3
 · rename_i hn
   refine ⟨σd, S, α, j, S1, hv, hs, e1, λJ H1 α1 s1 x1 jr => ?_⟩
   refine ⟨λi m ys τ H2 => ∃ σd2 S2 α2 acc, VarsR K H2 α2 σd2 τ ∧ StoreR K H2 α2 S2 ∧ Ext K H1 α1 H2 α2 ∧ Reps K H2 α2 acc ys ∧ acc.length + m ≤ sizeLine ∧ lcN (nxD j) g t fe m i σd2 S2 acc = some (ds, S'),
     ⟨n, srcD src σd, S1, α1, [], zi8 (hv.mono x1), s1, Ext.refl, .nil, by simpa using hn, e3⟩, ?_⟩
   rintro i m ys τ H2 ⟨σd2, S2, α2, acc, v2, s2, x2, r2, hl, e⟩
   obtain ⟨jstop, jgo⟩ := jr i H2 α2 S2 x2 s2
   cases m with
   | zero =>
     unfold lcN at e
     split at e
     · rename_i hn
       cases e
       exact .inl ⟨jstop hn, k _ _ _ s2 (x1.trans x2) r2⟩
     · cases e
   | succ m =>
     unfold lcN at e
     split at e
     · rename_i d hn
       obtain ⟨hgo, hy⟩ := jgo d hn
       simp only [Option.bind_eq_some_iff] at e
       obtain ⟨⟨σ3, S3⟩, e4, ⟨b, S4⟩, e5, e6⟩ := e
       refine .inr ⟨hgo, by rw [← r2.length]; omega, λx H3 y => ?_⟩
       obtain ⟨sm, rx⟩ := hy x H3 y
       have x3 : Ext K H2 α2 H3 α2 := Same.ext sm
       refine ⟨σd2, S2, α2, d, σ3, S3, v2.mono x3, s2.mono sm, rx, e4, λσ5 H5 α5 v5 s5 x5 => ?_⟩
       refine ⟨σ3, S3, α5, b, S4, v5, s5, e5, λH6 α6 s6 x6 => ?_⟩
       cases b with
       | false =>
         rw [if_neg Bool.false_ne_true]; rw [if_neg Bool.false_ne_true] at e6
         exact ⟨m, Nat.lt_succ_self _, σ3, S4, α6, acc, v5.mono x6, s6, ((x2.trans x3).trans x5).trans x6, ((r2.mono x3).mono x5).mono x6, by omega, e6⟩
       | true =>
         rw [if_pos rfl]; rw [if_pos rfl] at e6
         simp only [Option.bind_eq_some_iff] at e6
         obtain ⟨⟨z, S7⟩, e7, e8⟩ := e6
         refine ⟨σ3, S4, α6, z, S7, v5.mono x6, s6, e7, λw H8 α8 s8 x8 r8 => ?_⟩
         exact ⟨m, Nat.lt_succ_self _, σ3, S7, α8, acc ++ [z], (v5.mono x6).mono x8, s8, (((x2.trans x3).trans x5).trans x6).trans x8, ((((r2.mono x3).mono x5).mono x6).mono x8).append (.cons r8 .nil), by simp; omega, e8⟩
     · cases e
 · cases e3
theorem ze6 (hY : ∀ Y, IsComp X scope N' Y → SG Y tg g ∧ STs Y ifs t ∧ SE Y elt fe) : ∀ Y, IsComp X scope N' Y → PG Y tg (rdG X.K g) ∧ PTs Y ifs (rdT X.K t) ∧ PE Y elt (rdE X.K fe) := λY hy => by
 obtain ⟨h1, h2, h3⟩ := hY Y hy
 unfold SG at h1
 unfold STs at h2
 unfold SE at h3
 rw [hy.K] at h1 h2 h3
 exact ⟨h1, h2, h3⟩
theorem zmQ (hc : X.calm = true) (ok : CompOk X scope N' src) (hi : SI X tg iter fi) (hY : ∀ Y, IsComp X scope N' Y → SG Y tg g ∧ STs Y ifs t ∧ SE Y elt fe)
   (hfs : ∀ x, foldedSetIterable iter X.env x = pure x) : SE X (.ListComp elt [⟨tg, iter, ifs, 0⟩] scope pos) (eLc fi g t fe src) := by
 refine PE.imp (zok hc ok hi (ze6 hY) hfs) λσ H Q h => ?_
 obtain ⟨σd, S, α, z, S', hv, hs, hf, k⟩ := h
 unfold eLc at hf
 simp only [Option.map_eq_some_iff] at hf
 obtain ⟨⟨ds, S1⟩, e1, e2⟩ := hf
 cases e2
 refine zie hv hs e1 λys H' α' s' x' r' p hp => ?_
 obtain ⟨s2, x2⟩ := s'.snoc (p := p) (o := .lst ds) (u := .lst ys) hp λα'' e => ⟨_, zaw, r'.mono e⟩
 exact k _ _ _ s2 (x'.trans x2) (.ref (by rw [← s'.len]; simp))
theorem zi6 {y : Str} {py spos : Pos} {i : Nat} (hN : X.N.Nodup) (hyi : X.N[i]? = some y) (hy : X.env.kindOf y = some .local)
   (hsw : swapsWith (.ListComp elt [⟨tg, iter, ifs, 0⟩] scope pos) (some (.Name y py)) spos.line X.env = pure true)
   (hc : X.calm = true) (ok : CompOk X scope N' src) (hi : SI X tg iter fi) (hY : ∀ Y, IsComp X scope N' Y → SG Y tg g ∧ STs Y ifs t ∧ SE Y elt fe)
   (hfs : ∀ x, foldedSetIterable iter X.env x = pure x) : SS X (.Assign [.Name y py] (.ListComp elt [⟨tg, iter, ifs, 0⟩] scope pos) spos) (sAsg (eLc fi g t fe src) (gNm i)) := by
 refine PS.imp (zjr hN hyi hy hsw hc ok hi (ze6 hY) hfs) λD σ H h => ?_
 obtain ⟨σd, S, α, fl, σd', S', hv, hs, hf, k⟩ := h
 unfold sAsg eLc at hf
 simp only [Option.bind_eq_some_iff, Option.map_eq_some_iff] at hf
 obtain ⟨⟨d, S1⟩, ⟨⟨ds, S2⟩, e1, e2⟩, ⟨σ1, S3⟩, e3, e4⟩ := hf
 cases e4; cases e3; cases e2
 refine zie hv hs e1 λys H' α' s' x' r' p hp => ?_
 obtain ⟨s2, x2⟩ := s'.snoc (p := p) (o := .lst ds) (u := .lst ys) hp λα'' e => ⟨_, zaw, r'.mono e⟩
 exact k _ _ _ (((hv.mono x').mono x2).set (.ref (by rw [← s'.len]; simp)) i) s2 (x'.trans x2)
end
end MX
end
section
set_option autoImplicit false
namespace MX
open PySem PySem.Spec PyProof.Rows L2
def gLen : GN
 | [.tup xs], S => some (.int xs.length, S)
 | [.str z], S => if z.length ≤ sizeLine then some (.int z.length, S) else none
 | [.ref n], S => match S[n]? with
   | some (.lst xs) => some (.int xs.length, S)
   | some (.frz xs) => some (.int xs.length, S)
   | _ => none
 | _, _ => none
def gAbs : GN
 | [.int i], S => some (.int (if i < 0 then -i else i), S)
 | _, _ => none
def intsD : List D → Option (List Int)
 | [] => some []
 | .int i :: r => (intsD r).map (i :: ·)
 | _ :: _ => none
def minI : List Int → Option Int
 | [] => none
 | i :: r => some (r.foldl (λa b => if b < a then b else a) i)
def maxI : List Int → Option Int
 | [] => none
 | i :: r => some (r.foldl (λa b => if b > a then b else a) i)
def gMin : GN
 | [.int i, .int j], S => some (.int (if j < i then j else i), S)
 | [.ref n], S => match S[n]? with
   | some (.lst xs) => (intsD xs).bind λns => (minI ns).map λm => (.int m, S)
   | _ => none
 | _, _ => none
def gMax : GN
 | [.int i, .int j], S => some (.int (if j > i then j else i), S)
 | [.ref n], S => match S[n]? with
   | some (.lst xs) => (intsD xs).bind λns => (maxI ns).map λm => (.int m, S)
   | _ => none
 | _, _ => none
def gTuple : GN
 | [.tup xs], S => some (.tup xs, S)
 | [.ref n], S => match S[n]? with
   | some (.lst xs) => some (.tup xs, S)
   | some (.frz xs) => some (.tup xs, S)
   | _ => none
 | _, _ => none
def gList : GN
 | [.tup xs], S => some (.ref S.length, S ++ [.lst xs])
 | [.ref n], S => match S[n]? with
   | some (.lst xs) => some (.ref S.length, S ++ [.lst xs])
   | some (.frz xs) => some (.ref S.length, S ++ [.lst xs])
   | _ => none
 | _, _ => none
theorem zdS : ∀ (r : List Int) (i : Int), r.foldl (λa b => if b < a then b else a) i ≤ i ∧ (∀ x ∈ r, r.foldl (λa b => if b < a then b else a) i ≤ x) ∧ (r.foldl (λa b => if b < a then b else a) i = i ∨ r.foldl (λa b => if b < a then b else a) i ∈ r)
 | [], i => ⟨Int.le_refl _, λ_ h => (nomatch h), .inl rfl⟩
 | x :: r, i => by
   obtain ⟨h1, h2, h3⟩ := zdS r (if x < i then x else i)
   rw [List.foldl_cons]
   refine ⟨?_, λy hy => ?_, ?_⟩
   · refine Int.le_trans (by first | exact h1 | (refine Int.le_trans ?_ h1; split <;> omega)) (by first | (split <;> omega) | exact Int.le_refl _)
   · rcases List.mem_cons.mp hy with rfl | hy
     · first
         | exact Int.le_trans h1 (by split <;> omega)
         | exact Int.le_trans (by split <;> omega) h1
     · exact h2 y hy
   · rcases h3 with h3 | h3
     · rw [h3]
       split
       · exact .inr List.mem_cons_self
       · exact .inl rfl
     · exact .inr (List.mem_cons_of_mem _ h3)
theorem zdT : ∀ (r : List Int) (i : Int), i ≤ r.foldl (λa b => if b > a then b else a) i ∧ (∀ x ∈ r, x ≤ r.foldl (λa b => if b > a then b else a) i) ∧ (r.foldl (λa b => if b > a then b else a) i = i ∨ r.foldl (λa b => if b > a then b else a) i ∈ r)
 | [], i => ⟨Int.le_refl _, λ_ h => (nomatch h), .inl rfl⟩
 | x :: r, i => by
   obtain ⟨h1, h2, h3⟩ := zdT r (if x > i then x else i)
   rw [List.foldl_cons]
   refine ⟨?_, λy hy => ?_, ?_⟩
   · refine Int.le_trans (by first | exact h1 | (refine Int.le_trans ?_ h1; split <;> omega)) (by first | (split <;> omega) | exact Int.le_refl _)
   · rcases List.mem_cons.mp hy with rfl | hy
     · first
         | exact Int.le_trans h1 (by split <;> omega)
         | exact Int.le_trans (by split <;> omega) h1
     · exact h2 y hy
   · rcases h3 with h3 | h3
     · rw [h3]
       split
       · exact .inr List.mem_cons_self
       · exact .inl rfl
     · exact .inr (List.mem_cons_of_mem _ h3)
theorem zh7 {ns : List Int} {m : Int} (h1 : m ∈ ns) (h2 : ∀ a ∈ ns, m ≤ a) : minI ns = some m := by
 cases ns with
 | nil => cases h1
 | cons i r =>
   obtain ⟨a, b, c⟩ := zdS r i
   unfold minI
   have l1 : m ≤ r.foldl (λa b => if b < a then b else a) i := by
     rcases c with c | c
     · rw [c]; exact h2 i List.mem_cons_self
     · exact h2 _ (List.mem_cons_of_mem _ c)
   have l2 : r.foldl (λa b => if b < a then b else a) i ≤ m := by
     rcases List.mem_cons.mp h1 with rfl | h1
     · exact a
     · exact b m h1
   exact congrArg some (Int.le_antisymm l2 l1)
theorem zia {ns : List Int} {m : Int} (h1 : m ∈ ns) (h2 : ∀ a ∈ ns, a ≤ m) : maxI ns = some m := by
 cases ns with
 | nil => cases h1
 | cons i r =>
   obtain ⟨a, b, c⟩ := zdT r i
   unfold maxI
   have l1 : r.foldl (λa b => if b > a then b else a) i ≤ m := by
     rcases c with c | c
     · rw [c]; exact h2 i List.mem_cons_self
     · exact h2 _ (List.mem_cons_of_mem _ c)
   have l2 : m ≤ r.foldl (λa b => if b > a then b else a) i := by
     rcases List.mem_cons.mp h1 with rfl | h1
     · exact a
     · exact b m h1
   exact congrArg some (Int.le_antisymm l1 l2)
theorem zcL {K : PySem.W.Frag} {H : Hp} {α : List Addr} : ∀ {ds : List D} {vs : List V} {us : List Value} {ns : List Int}, Reps K H α ds vs → Vals vs us → intsD ds = some ns → IntsAre us ns
 | _, _, _, _, .nil, .nil, e => by cases e; exact .nil
 | _, _, _, _, .cons r rr, .cons rv rvs, e => by
   cases r with
   | int i =>
     simp only [intsD, Option.map_eq_some_iff] at e
     obtain ⟨ms, e1, rfl⟩ := e
     obtain ⟨t, rfl⟩ := rv
     exact .cons _ _ (zcL rr rvs e1)
   | _ => cases e
theorem Reps.inv1 {K : PySem.W.Frag} {H : Hp} {α : List Addr} {d : D} {vs : List V} (r : Reps K H α [d] vs) : ∃ v, vs = [v] ∧ Rep K H α d v := by
 cases r with
 | cons r rr => cases rr; exact ⟨_, rfl, r⟩
theorem Reps.inv2 {K : PySem.W.Frag} {H : Hp} {α : List Addr} {d e : D} {vs : List V} (r : Reps K H α [d, e] vs) : ∃ v u, vs = [v, u] ∧ Rep K H α d v ∧ Rep K H α e u := by
 cases r with
 | cons r rr =>
   obtain ⟨u, rfl, q⟩ := rr.inv1
   exact ⟨_, _, rfl, r, q⟩
theorem za6 {K : PySem.W.Frag} {H : Hp} {α : List Addr} {S : So} {n : Nat} {a : Addr} {xs : List D} (hs : StoreR K H α S) (ha : α[n]? = some a) (h : S[n]? = some (.lst xs) ∨ S[n]? = some (.frz xs)) : ∃ vs, SqL K H a vs ∧ Reps K H α xs vs := by
 rcases h with h | h
 · obtain ⟨vs, q, r⟩ := hs.obj _ _ _ h ha; exact ⟨vs, SqL.of q, r⟩
 · obtain ⟨vs, q, r⟩ := hs.obj _ _ _ h ha; exact ⟨vs, q.sq, r⟩
section
variable {X : Cx}
theorem znZ : CallR X (.builtin "len") (rdC X.K gLen) := by
 intro pins s σ H vs us Q I rv h
 obtain ⟨S, α, ds, z, S', hs, r, hg, k⟩ := h
 unfold gLen at hg
 split at hg
 · cases hg
   obtain ⟨v, rfl, r0⟩ := r.inv1
   cases r0 with
   | tup h r1 => exact zdV pins s σ H _ us Q I rv ⟨_, _, rfl, .inr h, by rw [← r1.length]; exact k.same hs (.int _)⟩
 · split at hg
   · rename_i hl
     cases hg
     obtain ⟨v, rfl, r0⟩ := r.inv1
     cases r0
     exact zfT pins s σ H _ us Q I rv ⟨_, rfl, hl, k.same hs (.int _)⟩
   · cases hg
 · obtain ⟨v, rfl, r0⟩ := r.inv1
   cases r0 with
   | @ref n a ha =>
     have core : ∀ xs, (∃ vs, SqL X.K H a vs ∧ Reps X.K H α xs vs) → some (D.int (xs.length : Int), S) = some (z, S') → wpAny (model X.prog X.w) X.A (call (.builtin "len") us) (EP X pins σ Q) X.xe s := λxs ⟨vs, q, r⟩ e => by
       cases e
       exact zdV pins s σ H _ us Q I rv ⟨_, _, rfl, .inl q, by rw [← r.length]; exact k.same hs (.int _)⟩
     split at hg
     · rename_i e; exact core _ (za6 hs ha (.inl e)) hg
     · rename_i e; exact core _ (za6 hs ha (.inr e)) hg
     · cases hg
 · cases hg
theorem zn2 : CallR X (.builtin "abs") (rdC X.K gAbs) := by
 intro pins s σ H vs us Q I rv h
 obtain ⟨S, α, ds, z, S', hs, r, hg, k⟩ := h
 unfold gAbs at hg
 split at hg
 · cases hg
   obtain ⟨v, rfl, r0⟩ := r.inv1
   cases r0
   exact zj5 pins s σ H _ us Q I rv ⟨_, rfl, k.same hs (.int _)⟩
 · cases hg
theorem znX (hc : X.calm = true) : CallR X (.builtin "min") (rdC X.K gMin) := by
 intro pins s σ H vs us Q I rv h
 obtain ⟨S, α, ds, z, S', hs, r, hg, k⟩ := h
 unfold gMin at hg
 split at hg
 · cases hg
   obtain ⟨v, u, rfl, r1, r2⟩ := r.inv2
   cases r1; cases r2
   exact ziR hc pins s σ H _ us Q I rv ⟨_, _, rfl, k.same hs (.int _)⟩
 · obtain ⟨v, rfl, r0⟩ := r.inv1
   cases r0 with
   | @ref n a ha =>
     split at hg
     · rename_i e
       simp only [Option.bind_eq_some_iff, Option.map_eq_some_iff] at hg
       obtain ⟨ns, e1, m, e2, e3⟩ := hg
       cases e3
       obtain ⟨ws, q, r⟩ := za6 hs ha (.inl e)
       obtain ⟨u, rfl, ru⟩ := vals1 rv
       cases ru
       obtain ⟨its, rr, pl, hz⟩ := I.list q
       have hi := zcL r rr e1
       have hne : 0 < ns.length := by
         cases ns with
         | nil => cases e2
         | cons _ _ => simp
       obtain ⟨xs, hxs⟩ := hi.allInts.items
       have hn := hi.numsOf
       have hnn : numsOf (intItems xs).toList = ns := by rw [← hxs]; simpa using hn
       rw [nums_intItems] at hnn
       have hsz : 0 < xs.size := by
         have := congrArg List.length hnn
         simp at this; omega
       have hl' : s.heap.IsList a (intItems xs) := by rw [← hxs]; exact pl.isList
       refine min_intList (I.ok.hd hc) hl' hsz λv h' tk hv hk => ?_
       obtain ⟨t, rfl⟩ := intItems_at hv
       obtain ⟨h1, h2⟩ := argBest_lt (numAt xs) (xs.size - 1)
       have hm : minI ns = some (numAt xs (argBest (λi j => decide (numAt xs i < numAt xs j)) (xs.size - 1))) := by
         refine zh7 ?_ λb hb => ?_
         · rw [← hnn, numAt_eq]; exact getD_mem (by rw [List.length_map, Array.length_toList]; omega)
         · rw [← hnn] at hb
           obtain ⟨j, hj, rfl⟩ := mem_getD hb
           rw [List.length_map, Array.length_toList] at hj
           rw [← numAt_eq]; exact h2 j (by omega)
       rw [e2] at hm; cases hm
       exact ⟨.int _, H, I.kept hk, ⟨t, rfl⟩, k.same hs (.int _)⟩
     · cases hg
 · cases hg
theorem znY (hc : X.calm = true) : CallR X (.builtin "max") (rdC X.K gMax) := by
 intro pins s σ H vs us Q I rv h
 obtain ⟨S, α, ds, z, S', hs, r, hg, k⟩ := h
 unfold gMax at hg
 split at hg
 · cases hg
   obtain ⟨v, u, rfl, r1, r2⟩ := r.inv2
   cases r1; cases r2
   exact ziS hc pins s σ H _ us Q I rv ⟨_, _, rfl, k.same hs (.int _)⟩
 · obtain ⟨v, rfl, r0⟩ := r.inv1
   cases r0 with
   | @ref n a ha =>
     split at hg
     · rename_i e
       simp only [Option.bind_eq_some_iff, Option.map_eq_some_iff] at hg
       obtain ⟨ns, e1, m, e2, e3⟩ := hg
       cases e3
       obtain ⟨ws, q, r⟩ := za6 hs ha (.inl e)
       obtain ⟨u, rfl, ru⟩ := vals1 rv
       cases ru
       obtain ⟨its, rr, pl, hz⟩ := I.list q
       have hi := zcL r rr e1
       have hne : 0 < ns.length := by
         cases ns with
         | nil => cases e2
         | cons _ _ => simp
       obtain ⟨xs, hxs⟩ := hi.allInts.items
       have hn := hi.numsOf
       have hnn : numsOf (intItems xs).toList = ns := by rw [← hxs]; simpa using hn
       rw [nums_intItems] at hnn
       have hsz : 0 < xs.size := by
         have := congrArg List.length hnn
         simp at this; omega
       have hl' : s.heap.IsList a (intItems xs) := by rw [← hxs]; exact pl.isList
       refine max_intList (I.ok.hd hc) hl' hsz λv h' tk hv hk => ?_
       obtain ⟨t, rfl⟩ := intItems_at hv
       obtain ⟨h1, h2⟩ := argBest_gt (numAt xs) (xs.size - 1)
       have hm : maxI ns = some (numAt xs (argBest (λi j => decide (numAt xs i > numAt xs j)) (xs.size - 1))) := by
         refine zia ?_ λb hb => ?_
         · rw [← hnn, numAt_eq]; exact getD_mem (by rw [List.length_map, Array.length_toList]; omega)
         · rw [← hnn] at hb
           obtain ⟨j, hj, rfl⟩ := mem_getD hb
           rw [List.length_map, Array.length_toList] at hj
           rw [← numAt_eq]; exact h2 j (by omega)
       rw [e2] at hm; cases hm
       exact ⟨.int _, H, I.kept hk, ⟨t, rfl⟩, k.same hs (.int _)⟩
     · cases hg
 · cases hg
theorem zj6 : CallR X (.type "tuple") (rdC X.K gTuple) := by
 intro pins s σ H vs us Q I rv h
 obtain ⟨S, α, ds, z, S', hs, r, hg, k⟩ := h
 unfold gTuple at hg
 split at hg
 · cases hg
   obtain ⟨v, rfl, r0⟩ := r.inv1
   cases r0 with
   | tup h r1 => exact zdv pins s σ H _ us Q I rv ⟨_, _, rfl, .inr ⟨h, k.same hs (.tup h r1)⟩⟩
 · obtain ⟨v, rfl, r0⟩ := r.inv1
   cases r0 with
   | @ref n a ha =>
     have core : ∀ xs, (∃ vs, SqL X.K H a vs ∧ Reps X.K H α xs vs) → some (D.tup xs, S) = some (z, S') → wpAny (model X.prog X.w) X.A (call (.type "tuple") us) (EP X pins σ Q) X.xe s := λxs ⟨vs, q, r⟩ e => by
       cases e
       exact zdv pins s σ H _ us Q I rv ⟨_, _, rfl, .inl ⟨q, λp hp => k.new hs (za5 hp) (.tup (SqT.of zaw) (r.mono (Same.ext (za5 hp))))⟩⟩
     split at hg
     · rename_i e; exact core _ (za6 hs ha (.inl e)) hg
     · rename_i e; exact core _ (za6 hs ha (.inr e)) hg
     · cases hg
 · cases hg
theorem zl7 : CallR X (.type "list") (rdC X.K gList) := by
 intro pins s σ H vs us Q I rv h
 obtain ⟨S, α, ds, z, S', hs, r, hg, k⟩ := h
 have fin : ∀ (xs : List D) (vs : List V) (p : Addr), Reps X.K H α xs vs → H p = none → some (D.ref S.length, S ++ [O.lst xs]) = some (z, S') → Q (.ref p) (upd H p (.lst vs)) := λxs vs p r hp e => by
   cases e
   obtain ⟨s2, x2⟩ := hs.snoc (p := p) (o := .lst xs) (u := .lst vs) hp λα'' e => ⟨_, zaw, r.mono e⟩
   exact k _ _ _ s2 x2 (.ref (by rw [← hs.len]; simp))
 unfold gList at hg
 split at hg
 · obtain ⟨v, rfl, r0⟩ := r.inv1
   cases r0 with
   | tup h r1 => exact zdU pins s σ H _ us Q I rv ⟨_, _, rfl, .inr h, λp hp => fin _ _ p r1 hp hg⟩
 · obtain ⟨v, rfl, r0⟩ := r.inv1
   cases r0 with
   | @ref n a ha =>
     have core : ∀ xs, (∃ vs, SqL X.K H a vs ∧ Reps X.K H α xs vs) → some (D.ref S.length, S ++ [O.lst xs]) = some (z, S') → wpAny (model X.prog X.w) X.A (call (.type "list") us) (EP X pins σ Q) X.xe s := λxs ⟨vs, q, r⟩ e =>
       zdU pins s σ H _ us Q I rv ⟨_, _, rfl, .inl q, λp hp => fin _ _ p r hp e⟩
     split at hg
     · rename_i e; exact core _ (za6 hs ha (.inl e)) hg
     · rename_i e; exact core _ (za6 hs ha (.inr e)) hg
     · cases hg
 · cases hg
end
def isiT (a b : String) : Option Bool := PySem.W.kitOne (default) (.type a) (.type b)
theorem zin {K : PySem.W.Frag} {a b : String} : PySem.W.kitOne K (.type a) (.type b) = isiT a b := by
 unfold isiT PySem.W.kitOne PySem.W.kitCls PySem.W.subIn
 rfl
def tyD : D → So → Option String
 | .non, _ => some "NoneType"
 | .bl _, _ => some "bool"
 | .int _, _ => some "int"
 | .str _, _ => some "str"
 | .tup _, _ => some "tuple"
 | .ref n, S => match S[n]? with
   | some (.lst _) => some "list"
   | _ => none
 | _, _ => none
def gIsi : GN
 | [d, .ty T], S => (tyD d S).bind λt => (isiT t T).map λb => (.bl b, S)
 | _, _ => none
theorem zmf {K : PySem.W.Frag} {H : Hp} {α : List Addr} {S : So} {d : D} {v : V} {t : String} (hs : StoreR K H α S) (r : Rep K H α d v) (e : tyD d S = some t) : (∃ b vs, v = .ref b ∧ SqT K H b vs ∧ t = "tuple") ∨ TyOf K H v (.type t) := by
 cases r with
 | non => cases e; exact .inr .non
 | bl b => cases e; exact .inr (.bl b)
 | int i => cases e; exact .inr (.int i)
 | str x => cases e; exact .inr (.str x)
 | tup h r => cases e; exact .inl ⟨_, _, rfl, h, rfl⟩
 | @ref n a ha =>
   simp only [tyD] at e
   split at e
   · rename_i q
     cases e
     obtain ⟨vs, h, _⟩ := hs.obj _ _ _ q ha
     exact .inr (.lst h)
   · cases e
 | ty n => cases e
 | adr a => cases e
theorem zn0 {X : Cx} : CallR X (.builtin "isinstance") (rdC X.K gIsi) := by
 intro pins s σ H vs us Q I rv h
 obtain ⟨S, α, ds, z, S', hs, r, hg, k⟩ := h
 unfold gIsi at hg
 split at hg
 · simp only [Option.bind_eq_some_iff, Option.map_eq_some_iff] at hg
   obtain ⟨t, e1, b, e2, e3⟩ := hg
   cases e3
   obtain ⟨v, u, rfl, r1, r2⟩ := r.inv2
   cases r2 with
   | ty T =>
     obtain ⟨u1, u2, rfl, q1, q2⟩ := vals2 rv
     cases q2
     rcases zmf hs r1 e1 with ⟨a, ws, rfl, h, rfl⟩ | ty
     · cases q1
       obtain ⟨its, _, ⟨o, h1, h2, _⟩, _⟩ := I.tuple h
       exact PySem.W.kia_one PySem.W.kitx_tuple I.kIn ⟨o, h1, h2⟩ (by rw [zin]; exact e2) (λz => nomatch z) λtk => ⟨.bl b, H, I.tok _, rfl, k.same hs (.bl _)⟩
     · exact zim I q1 ty (by rw [zin]; exact e2) λtk => ⟨.bl b, H, I.tok _, rfl, k.same hs (.bl _)⟩
 · cases hg
abbrev PF := Sg → So → Option (Option Int × So)
def pNone : PF := λ_ S => some (none, S)
def pSome (fe : EF) : PF := λσ S => (fe σ S).bind λr => match r.1 with
 | .int i => some (some i, r.2)
 | _ => none
def cutD (xs : List D) (lo hi : Option Int) : List D := (xs.drop (HT.sIx xs.length 0 lo)).take (HT.sIx xs.length xs.length hi - HT.sIx xs.length 0 lo)
def gSl : D → Option Int → Option Int → So → Option (D × So)
 | .tup xs, lo, hi, S => if ¬ (HT.sIx xs.length 0 lo = 0 ∧ HT.sIx xs.length xs.length hi = xs.length) then some (.tup (cutD xs lo hi), S) else none
 | .ref n, lo, hi, S => match S[n]? with
   | some (.lst xs) => some (.ref S.length, S ++ [.lst (cutD xs lo hi)])
   | some (.frz xs) => some (.ref S.length, S ++ [.lst (cutD xs lo hi)])
   | _ => none
 | _, _, _, _ => none
def eSl (fe : EF) (fl fh : PF) : EF := λσ S => (fe σ S).bind λr => (fl σ r.2).bind λl => (fh σ l.2).bind λh => gSl r.1 l.1 h.1 h.2
def rdP (K : PySem.W.Frag) (f : PF) : TO := λσ H Q => ∃ σd S α p S', VarsR K H α σd σ ∧ StoreR K H α S ∧ f σd S = some (p, S') ∧ ∀ H' α', StoreR K H' α' S' → Ext K H α H' α' → Q p H'
def SPt (X : Cx) (e : Option Expr) (f : PF) : Prop := PO X e (rdP X.K f)
theorem zgP {K : PySem.W.Frag} {H : Hp} {α : List Addr} {ds : List D} {vs : List V} {lo hi : Option Int} (r : Reps K H α ds vs) : Reps K H α (cutD ds lo hi) (cutV vs lo hi) := by
 unfold cutD cutV
 rw [r.length]
 exact (r.drop _).take _
section
variable {X : Cx} {e : Expr} {fe : EF} {lo hi : Option Expr} {fl fh : PF} {pos p2 : Pos}
theorem zkN : SPt X none pNone := λpins s σ H Q I h => zk9 pins s σ H Q I (by
 obtain ⟨σd, S, α, p, S', hv, hs, hf, k⟩ := h
 cases hf
 exact k _ _ hs Ext.refl)
theorem zkL (he : SE X e fe) : SPt X (some e) (pSome fe) := λpins s σ H Q I h => zk8 he pins s σ H Q I (by
 obtain ⟨σd, S, α, p, S', hv, hs, hf, k⟩ := h
 unfold pSome at hf
 simp only [Option.bind_eq_some_iff] at hf
 obtain ⟨⟨d, S1⟩, e1, e2⟩ := hf
 refine ⟨σd, S, α, d, S1, hv, hs, e1, λv H1 α1 s1 x1 r1 => ?_⟩
 cases r1 with
 | int i => cases e2; exact ⟨i, rfl, k _ _ s1 x1⟩
 | _ => cases e2)
theorem zjh (he : SE X e fe) (hl : SPt X lo fl) (hh : SPt X hi fh) : SE X (.Subscript e (.Slice lo hi none p2) pos) (eSl fe fl fh) := by
 refine PE.imp (zjw (SlR.or zmC zkP) he hl hh) λσ H Q h => ?_
 obtain ⟨σd, S, α, z, S', hv, hs, hf, k⟩ := h
 unfold eSl at hf
 simp only [Option.bind_eq_some_iff] at hf
 obtain ⟨⟨d, S1⟩, e1, ⟨l, S2⟩, e2, ⟨u, S3⟩, e3, e4⟩ := hf
 refine ⟨σd, S, α, d, S1, hv, hs, e1, λv H1 α1 s1 x1 r1 => ⟨σd, S1, α1, l, S2, hv.mono x1, s1, e2, λH2 α2 s2 x2 => ⟨σd, S2, α2, u, S3, (hv.mono x1).mono x2, s2, e3, λH3 α3 s3 x3 => ?_⟩⟩⟩
 have r3 := (r1.mono x2).mono x3
 have k3 := k.trans ((x1.trans x2).trans x3)
 simp only at e4
 cases r3 with
 | tup h r =>
   simp only [gSl] at e4
   split at e4
   · rename_i hc
     cases e4
     refine .inl ⟨_, _, rfl, h, by rw [← r.length]; exact hc, λp hp => ?_⟩
     exact k3.new s3 (za5 hp) (.tup (SqT.of zaw) ((zgP r).mono (Same.ext (za5 hp))))
   · cases e4
 | @ref n a ha =>
   simp only [gSl] at e4
   have core : ∀ xs, (∃ vs, SqL X.K H3 a vs ∧ Reps X.K H3 α3 xs vs) → some (D.ref S3.length, S3 ++ [O.lst (cutD xs l u)]) = some (z, S') → rSlT X.K (.ref a) l u H3 Q ∨ rSlL X.K (.ref a) l u H3 Q := λxs ⟨vs, q, r⟩ e => by
     cases e
     refine .inr ⟨_, _, rfl, q, λp hp => ?_⟩
     obtain ⟨s4, x4⟩ := s3.snoc (p := p) (o := .lst (cutD xs l u)) (u := .lst (cutV vs l u)) hp λα'' e => ⟨_, zaw, (zgP r).mono e⟩
     exact k3 _ _ _ s4 x4 (.ref (by rw [← s3.len]; simp))
   split at e4
   · rename_i q; exact core _ (za6 s3 ha (.inl q)) e4
   · rename_i q; exact core _ (za6 s3 ha (.inr q)) e4
   · cases e4
 | _ => cases e4
end
abbrev GM := D → List D → So → Option (D × So)
def rdM (K : PySem.W.Frag) (g : GM) : V → List V → Hp → VK → Prop := λv vs H Q => ∃ S α d ds z S', StoreR K H α S ∧ Rep K H α d v ∧ Reps K H α ds vs ∧ g d ds S = some (z, S') ∧ Kt K H α z S' Q
def gAppend : GM
 | .ref n, [d], S => match S[n]? with
   | some (.lst xs) => if xs.length < sizeLine then some (.non, S.set n (.lst (xs ++ [d]))) else none
   | _ => none
 | _, _, _ => none
theorem zh6 {X : Cx} : MtR X "list.append" (rdM X.K gAppend) := by
 intro pins s σ H v vs vv us Q I rv rs h
 obtain ⟨S, α, d, ds, z, S', hs, r, rr, hg, k⟩ := h
 unfold gAppend at hg
 split at hg
 · cases r with
   | ref ha =>
     split at hg
     · rename_i e
       split at hg
       · rename_i hl
         cases hg
         obtain ⟨w, rfl, rw'⟩ := rr.inv1
         obtain ⟨ws, q, r⟩ := hs.obj _ _ _ e ha
         refine zh4 pins s σ H _ _ _ us Q I rv rs ⟨_, _, _, rfl, rfl, q, by rw [← r.length]; exact hl, ?_⟩
         obtain ⟨s2, x2⟩ := hs.put (o := .lst (_ ++ [_])) (u := .lst (ws ++ [w])) e rfl rfl ha q (.inl ⟨_, rfl⟩) λx => ⟨_, zaw, (r.append (.cons rw' .nil)).mono x⟩
         exact k _ _ _ s2 x2 .non
       · cases hg
     · cases hg
 · cases hg
def eM (g : GM) (fo : EF) (fa : AF) : EF := λσ S => (fo σ S).bind λr => match r.1 with
 | .ref n => match r.2[n]? with
   | some (.lst _) => (fa σ r.2).bind λq => g r.1 q.1 q.2
   | _ => none
 | _ => none
theorem zob {X : Cx} {o e : Expr} {es : List Expr} {fo : EF} {fa : AF} {g : GM} {name : Str} {id : String} {apos cpos : Pos} (slot : Slot "list" name id) (hty : typeOf (.builtin id) = pure (.type "method_descriptor")) (hm : MtR X id (rdM X.K g))
   (ho : SE X o fo) (ha : SA X (e :: es) fa) (hbase : attributeBase o name X.env (eval o X.env) = eval o X.env)
   (hfew : ((backTo cpos (starEach (e :: es) X.env)).all (λx => !x.1) && (backToKw cpos (keywordEach [] X.env)).all (λx => x.1.isSome)
     && decide ((e :: es).length + ([] : List Keyword).length + (if ([] : List Keyword).isEmpty then 0 else 1) < 30)) = true)
   (hline : (apos.endLine == cpos.line) = true) (hst : starEach (e :: es) X.env = (false, eval e X.env) :: starEach es X.env) (hplain : (backTo cpos (starEach es X.env)).any (·.1) = false) :
   SE X (.Call (.Attribute o name apos) (e :: es) [] cpos) (eM g fo fa) := by
 refine PE.imp (zom PySem.F.plainAttrs_list slot hty hm ho ha hbase hfew hline hst hplain) λσ H Q h => ?_
 obtain ⟨σd, S, α, z, S', hv, hs, hf, k⟩ := h
 unfold eM at hf
 simp only [Option.bind_eq_some_iff] at hf
 obtain ⟨⟨d, S1⟩, e1, e2⟩ := hf
 refine ⟨σd, S, α, d, S1, hv, hs, e1, λv H1 α1 s1 x1 r1 => ?_⟩
 simp only at e2
 split at e2
 · rename_i n
   split at e2
   · rename_i xs q
     simp only [Option.bind_eq_some_iff] at e2
     obtain ⟨⟨ds, S2⟩, e3, e4⟩ := e2
     cases r1 with
     | ref ha =>
       obtain ⟨ws, hw, _⟩ := s1.obj _ _ _ q ha
       refine ⟨.inl ⟨rfl, _, SqL.of hw⟩, σd, S1, α1, ds, S2, hv.mono x1, s1, e3, λvs H2 α2 s2 x2 r2 => ?_⟩
       exact ⟨S2, α2, _, ds, z, S', s2, .ref (x2.pre _ _ ha), r2, e4, k.trans (x1.trans x2)⟩
   · cases e2
 · cases e2
end MX
end
section
set_option autoImplicit false
namespace MX
open PySem PySem.Spec PyProof.Rows L2
def boolsD : List D → Option (List Bool)
 | [] => some []
 | .bl b :: r => (boolsD r).map (b :: ·)
 | _ :: _ => none
theorem ze8 {K : PySem.W.Frag} {H : Hp} {α : List Addr} : ∀ {ds : List D} {vs : List V} {us : List Value} {bs : List Bool}, Reps K H α ds vs → Vals vs us → boolsD ds = some bs → LSm.BoolsAre us bs
 | _, _, _, _, .nil, .nil, e => by cases e; exact .nil
 | _, _, _, _, .cons r rr, .cons rv rvs, e => by
   cases r with
   | bl b =>
     simp only [boolsD, Option.map_eq_some_iff] at e
     obtain ⟨ms, e1, rfl⟩ := e
     cases rv
     exact .cons _ (ze8 rr rvs e1)
   | _ => cases e
def gAll : GN
 | [.ref n], S => match S[n]? with
   | some (.lst xs) => (boolsD xs).map λbs => (.bl (bs.all id), S)
   | _ => none
 | _, _ => none
section
variable {X : Cx}
theorem zhw {prog : Program} {w : World} {A : Around} {E : Value → Shared → Prop} {s : Shared} {l : Addr} {vs : List Value} {bs : List Bool} {Q : Value → Shared → Prop} (hh : A.handled = none) (hl : s.heap.IsList l vs.toArray) (hb : LSm.BoolsAre vs bs)
   (h : ∀ h' tk, (∀ b x, s.heap.get? b = some x → h'.get? b = some x) → Q (.bool (bs.all id)) { s with heap := h', toks := tk }) : wpAny (model prog w) A (call (.builtin "all") [.ref l]) Q E s := by
 have hlt : l < s.heap.objs.size := by obtain ⟨_, e, _⟩ := hl; exact Heap.lt_size e
 refine call_all_walk (wpAny_pyIter_list hl ?_)
 refine ⟨s.heap.objs.size, [s.heap.objs.size, l], [s.heap.objs.size], vs.toArray.size, _, _, λi => (bs[i]?).getD true, rfl, Walks.list (A := A.in1) hh _ l (Nat.ne_of_lt hlt) vs.toArray,
   ⟨⟨_, Heap.get?_push_size _ rfl, rfl, rfl⟩, hl.push _⟩, λi v s' Q' E' hP hQ => ?_, λh' tk hk => ?_⟩
 · obtain ⟨b, e, rfl⟩ := hb.get i v (by simpa using hP)
   simp only [e, Option.getD_some] at hQ
   exact wpAny_truthy_bool hQ
 · have e : ((List.range vs.toArray.size).all λi => (bs[i]?).getD true) = bs.all id := by
     rw [List.size_toArray, hb.length]; exact LSm.range_all bs
   rw [e]
   exact h h' tk (LSm.kept_iter hk)
theorem zn1 (hc : X.calm = true) : CallR X (.builtin "all") (rdC X.K gAll) := by
 intro pins s σ H vs us Q I rv h
 obtain ⟨S, α, ds, z, S', hs, r, hg, k⟩ := h
 unfold gAll at hg
 split at hg
 · obtain ⟨v, rfl, r0⟩ := r.inv1
   cases r0 with
   | @ref n a ha =>
     split at hg
     · rename_i e
       simp only [Option.map_eq_some_iff] at hg
       obtain ⟨bs, e1, e2⟩ := hg
       cases e2
       obtain ⟨ws, q, r⟩ := za6 hs ha (.inl e)
       obtain ⟨u, rfl, ru⟩ := vals1 rv
       cases ru
       obtain ⟨its, rr, pl, hz⟩ := I.list q
       exact zhw (I.ok.hd hc) pl.isList (ze8 r rr e1) λh' tk hk => ⟨.bl _, H, I.kept hk, rfl, k.same hs (.bl _)⟩
     · cases hg
 · cases hg
theorem zhk {prog : Program} {w : World} {A : Around} {E : Value → Shared → Prop} {s : Shared} {l : Addr} {xs : Array (Int × Tok)} {Q : Value → Shared → Prop} (hh : A.handled = none) (hl : s.heap.IsTuple l (intItems xs)) (hne : 0 < xs.size)
   (h : ∀ v h' tk, (intItems xs)[argBest (λi j => decide (numAt xs i < numAt xs j)) (xs.size - 1)]? = some v → (∀ b o, s.heap.get? b = some o → h'.get? b = some o) → Q v { s with heap := h', toks := tk }) :
   wpAny (model prog w) A (call (.builtin "min") [.ref l]) Q E s := by
 have hlt : l < s.heap.objs.size := by obtain ⟨_, e, _⟩ := hl; exact Heap.lt_size e
 refine call_min_walk (wpAny_pyIter_tuple hl ?_)
 refine ⟨_, [s.heap.objs.size, l], [s.heap.objs.size], _, _, _, _, rfl, Walks.tuple (A := A.in1) hh _ l (Nat.ne_of_lt hlt) (intItems xs),
   ⟨⟨_, Heap.get?_push_size _ rfl, rfl, rfl⟩, hl.push _⟩, λc hc => ?_, by simpa [intItems] using hne, CmpOf.ints_lt (numAt xs) (λ_ _ => intItems_at), λv h' tk hP hk => ?_⟩
 · show c < (s.heap.push _).objs.size
   rw [Heap.size_push]
   rcases List.mem_cons.mp hc with rfl | hc
   · exact Nat.lt_succ_self _
   · rcases List.mem_cons.mp hc with rfl | hc
     · exact Nat.lt_succ_of_lt hlt
     · cases hc
 · exact h v h' tk (by simpa [intItems] using hP) (LSm.kept_iter hk)
theorem zhl {prog : Program} {w : World} {A : Around} {E : Value → Shared → Prop} {s : Shared} {l : Addr} {xs : Array (Int × Tok)} {Q : Value → Shared → Prop} (hh : A.handled = none) (hl : s.heap.IsTuple l (intItems xs)) (hne : 0 < xs.size)
   (h : ∀ v h' tk, (intItems xs)[argBest (λi j => decide (numAt xs i > numAt xs j)) (xs.size - 1)]? = some v → (∀ b o, s.heap.get? b = some o → h'.get? b = some o) → Q v { s with heap := h', toks := tk }) :
   wpAny (model prog w) A (call (.builtin "max") [.ref l]) Q E s := by
 have hlt : l < s.heap.objs.size := by obtain ⟨_, e, _⟩ := hl; exact Heap.lt_size e
 refine call_max_walk (wpAny_pyIter_tuple hl ?_)
 refine ⟨_, [s.heap.objs.size, l], [s.heap.objs.size], _, _, _, _, rfl, Walks.tuple (A := A.in1) hh _ l (Nat.ne_of_lt hlt) (intItems xs),
   ⟨⟨_, Heap.get?_push_size _ rfl, rfl, rfl⟩, hl.push _⟩, λc hc => ?_, by simpa [intItems] using hne, CmpOf.ints_gt (numAt xs) (λ_ _ => intItems_at), λv h' tk hP hk => ?_⟩
 · show c < (s.heap.push _).objs.size
   rw [Heap.size_push]
   rcases List.mem_cons.mp hc with rfl | hc
   · exact Nat.lt_succ_self _
   · rcases List.mem_cons.mp hc with rfl | hc
     · exact Nat.lt_succ_of_lt hlt
     · cases hc
 · exact h v h' tk (by simpa [intItems] using hP) (LSm.kept_iter hk)
def gMin' : GN
 | [.tup xs], S => (intsD xs).bind λns => (minI ns).map λm => (.int m, S)
 | ds, S => gMin ds S
def gMax' : GN
 | [.tup xs], S => (intsD xs).bind λns => (maxI ns).map λm => (.int m, S)
 | ds, S => gMax ds S
theorem zl9 (hc : X.calm = true) : CallR X (.builtin "min") (rdC X.K gMin') := by
 intro pins s σ H vs us Q I rv h
 obtain ⟨S, α, ds, z, S', hs, r, hg, k⟩ := h
 unfold gMin' at hg
 split at hg
 · obtain ⟨v, rfl, r0⟩ := r.inv1
   cases r0 with
   | @tup a ds vs q r1 =>
     simp only [Option.bind_eq_some_iff, Option.map_eq_some_iff] at hg
     obtain ⟨ns, e1, m, e2, e3⟩ := hg
     cases e3
     obtain ⟨u, rfl, ru⟩ := vals1 rv
     cases ru
     obtain ⟨its, rr, pl, hz⟩ := I.tuple q
     have hi := zcL r1 rr e1
     have hne : 0 < ns.length := by
       cases ns with
       | nil => cases e2
       | cons _ _ => simp
     obtain ⟨xs, hxs⟩ := hi.allInts.items
     have hn := hi.numsOf
     have hnn : numsOf (intItems xs).toList = ns := by rw [← hxs]; simpa using hn
     rw [nums_intItems] at hnn
     have hsz : 0 < xs.size := by
       have := congrArg List.length hnn
       simp at this; omega
     have hl' : s.heap.IsTuple a (intItems xs) := by rw [← hxs]; exact pl
     refine zhk (I.ok.hd hc) hl' hsz λv h' tk hv hk => ?_
     obtain ⟨t, rfl⟩ := intItems_at hv
     obtain ⟨h1, h2⟩ := argBest_lt (numAt xs) (xs.size - 1)
     have hm : minI ns = some (numAt xs (argBest (λi j => decide (numAt xs i < numAt xs j)) (xs.size - 1))) := by
       refine zh7 ?_ λb hb => ?_
       · rw [← hnn, numAt_eq]; exact getD_mem (by rw [List.length_map, Array.length_toList]; omega)
       · rw [← hnn] at hb
         obtain ⟨j, hj, rfl⟩ := mem_getD hb
         rw [List.length_map, Array.length_toList] at hj
         rw [← numAt_eq]; exact h2 j (by omega)
     rw [e2] at hm; cases hm
     exact ⟨.int _, H, I.kept hk, ⟨t, rfl⟩, k.same hs (.int _)⟩
 · exact znX hc pins s σ H vs us Q I rv ⟨S, α, _, z, S', hs, r, hg, k⟩
theorem zma (hc : X.calm = true) : CallR X (.builtin "max") (rdC X.K gMax') := by
 intro pins s σ H vs us Q I rv h
 obtain ⟨S, α, ds, z, S', hs, r, hg, k⟩ := h
 unfold gMax' at hg
 split at hg
 · obtain ⟨v, rfl, r0⟩ := r.inv1
   cases r0 with
   | @tup a ds vs q r1 =>
     simp only [Option.bind_eq_some_iff, Option.map_eq_some_iff] at hg
     obtain ⟨ns, e1, m, e2, e3⟩ := hg
     cases e3
     obtain ⟨u, rfl, ru⟩ := vals1 rv
     cases ru
     obtain ⟨its, rr, pl, hz⟩ := I.tuple q
     have hi := zcL r1 rr e1
     have hne : 0 < ns.length := by
       cases ns with
       | nil => cases e2
       | cons _ _ => simp
     obtain ⟨xs, hxs⟩ := hi.allInts.items
     have hn := hi.numsOf
     have hnn : numsOf (intItems xs).toList = ns := by rw [← hxs]; simpa using hn
     rw [nums_intItems] at hnn
     have hsz : 0 < xs.size := by
       have := congrArg List.length hnn
       simp at this; omega
     have hl' : s.heap.IsTuple a (intItems xs) := by rw [← hxs]; exact pl
     refine zhl (I.ok.hd hc) hl' hsz λv h' tk hv hk => ?_
     obtain ⟨t, rfl⟩ := intItems_at hv
     obtain ⟨h1, h2⟩ := argBest_gt (numAt xs) (xs.size - 1)
     have hm : maxI ns = some (numAt xs (argBest (λi j => decide (numAt xs i > numAt xs j)) (xs.size - 1))) := by
       refine zia ?_ λb hb => ?_
       · rw [← hnn, numAt_eq]; exact getD_mem (by rw [List.length_map, Array.length_toList]; omega)
       · rw [← hnn] at hb
         obtain ⟨j, hj, rfl⟩ := mem_getD hb
         rw [List.length_map, Array.length_toList] at hj
         rw [← numAt_eq]; exact h2 j (by omega)
     rw [e2] at hm; cases hm
     exact ⟨.int _, H, I.kept hk, ⟨t, rfl⟩, k.same hs (.int _)⟩
 · exact znY hc pins s σ H vs us Q I rv ⟨S, α, _, z, S', hs, r, hg, k⟩
end
end MX
end
section
set_option autoImplicit false
namespace MX
open PySem PySem.Spec PyProof.Rows L2
def gSet : D → D → D → So → Option So
 | .ref n, .int i, d, S => match S[n]? with
   | some (.lst xs) => (ixN xs.length i).map λj => S.set n (.lst (xs.set j d))
   | _ => none
 | _, _, _, _ => none
def gSt (fo fi : EF) : GF := λd σ S => (fo σ S).bind λr => (fi σ r.2).bind λq => (gSet r.1 q.1 d q.2).map λS' => (σ, S')
theorem zmG {X : Cx} {o i : Expr} {fo fi : EF} {pos : Pos} (ho : SE X o fo) (hi : SE X i fi)
   (ha : ∀ v, assign (.Subscript o i pos) X.env v = (do
     let ov ← holding [v] (eval o X.env)
     let iv ← holding [v, ov] (eval i X.env)
     standAt pos
     holding [v, ov, iv] (setItem ov iv v)
     release [v, ov, iv] [])) : SG X (.Subscript o i pos) (gSt fo fi) := by
 refine PG.imp (zm9 ho hi zjg ha) λv σ H Q h => ?_
 obtain ⟨σd, S, α, d, σd', S', hv, hs, r, hf, k⟩ := h
 unfold gSt at hf
 simp only [Option.bind_eq_some_iff, Option.map_eq_some_iff] at hf
 obtain ⟨⟨x, S1⟩, e1, ⟨y, S2⟩, e2, S3, e3, e4⟩ := hf
 cases e4
 refine ⟨σd, S, α, x, S1, hv, hs, e1, λov H1 α1 s1 x1 r1 => ⟨σd, S1, α1, y, S2, hv.mono x1, s1, e2, λiv H2 α2 s2 x2 r2 => ?_⟩⟩
 have r1' := r1.mono x2
 have rd := (r.mono x1).mono x2
 simp only at e3
 unfold gSet at e3
 split at e3
 · rename_i n j d
   cases r1' with
   | ref ha =>
     cases r2
     split at e3
     · rename_i xs e
       simp only [Option.map_eq_some_iff] at e3
       obtain ⟨jj, e5, rfl⟩ := e3
       obtain ⟨ws, q, rr⟩ := s2.obj _ _ _ e ha
       refine ⟨_, ws, _, jj, rfl, rfl, q, by rw [← rr.length]; exact e5, ?_⟩
       obtain ⟨s3, x3⟩ := s2.put (o := .lst (xs.set jj _)) (u := .lst (ws.set jj v)) e rfl rfl ha q (.inl ⟨_, rfl⟩) λx => ⟨_, zaw, (Reps.set rd jj rr).mono x⟩
       exact k _ _ _ (((hv.mono x1).mono x2).mono x3) s3 ((x1.trans x2).trans x3)
     · cases e3
 · cases e3
def eM0 (g : GM) (fo : EF) : EF := λσ S => (fo σ S).bind λr => match r.1 with
 | .ref n => match r.2[n]? with
   | some (.lst _) => g r.1 [] r.2
   | _ => none
 | _ => none
theorem zmO {X : Cx} {o : Expr} {fo : EF} {g : GM} {name : Str} {id : String} {apos cpos : Pos} (slot : Slot "list" name id) (hty : typeOf (.builtin id) = pure (.type "method_descriptor")) (hm : MtR X id (rdM X.K g))
   (ho : SE X o fo) (hbase : attributeBase o name X.env (eval o X.env) = eval o X.env) (hline : (apos.endLine == cpos.line) = true) :
   SE X (.Call (.Attribute o name apos) [] [] cpos) (eM0 g fo) := by
 refine PE.imp (znh PySem.F.plainAttrs_list slot hty hm ho hbase hline) λσ H Q h => ?_
 obtain ⟨σd, S, α, z, S', hv, hs, hf, k⟩ := h
 unfold eM0 at hf
 simp only [Option.bind_eq_some_iff] at hf
 obtain ⟨⟨d, S1⟩, e1, e2⟩ := hf
 refine ⟨σd, S, α, d, S1, hv, hs, e1, λv H1 α1 s1 x1 r1 => ?_⟩
 simp only at e2
 split at e2
 · rename_i n
   split at e2
   · rename_i xs q
     cases r1 with
     | ref ha =>
       obtain ⟨ws, hw, _⟩ := s1.obj _ _ _ q ha
       exact ⟨.inl ⟨rfl, _, SqL.of hw⟩, S1, α1, _, [], z, S', s1, .ref ha, .nil, e2, k.trans x1⟩
   · cases e2
 · cases e2
end MX
end
section
set_option autoImplicit false
namespace MX
open PySem PySem.Spec PyProof.Rows L2
def starF : Expr → Bool
 | .Starred _ _ => true
 | _ => false
theorem swapped3 {x y z : Str} {px py pz pt pt2 : Pos} {kt k2 : Nat} {a b d : Expr} {env : Env} (hk : env.scope.kind = .function) (hx : env.scope.names.lookup x = some .local) (hy : env.scope.names.lookup y = some .local) (hz : env.scope.names.lookup z = some .local)
   (l1 : py.line = px.line) (l2 : pz.line = px.line) (xy : x ≠ y) (xz : x ≠ z) (yz : y ≠ z) (s1 : starF a = false) (s2 : starF b = false) (s3 : starF d = false) (f : [a, b, d].all (foldedForSure 8) = false) (g : [a, b, d].all (constantsAlone 8) = false) :
   swappedStores [.Tuple [.Name x px, .Name y py, .Name z pz] kt pt] (.Tuple [a, b, d] k2 pt2) env = pure (some [x, y, z]) := by
 have hb : env.blockKind = .function := by unfold Env.blockKind; rw [hk]; rfl
 have kx : env.kindOf x = some .local := hx
 have ky : env.kindOf y = some .local := hy
 have kz : env.kindOf z = some .local := hz
 have hst : ([a, b, d].any λ| .Starred .. => true | _ => false) = false := by
   have e : ∀ e : Expr, starF e = false → (match e with | .Starred .. => true | _ => false) = false := λe h => by cases e <;> first | rfl | cases h
   simp only [List.any_cons, List.any_nil, e a s1, e b s2, e d s3, Bool.or_false]
 have hln : ∀ e : Pos, (Expr.Name x e).pos = e := λe => rfl
 have hnm : ([Expr.Name x px, Expr.Name y py, Expr.Name z pz].filterMap fun
     | .Name id pos => if env.kindOf id == some .local && pos.line == px.line then some id else none
     | _ => none) = [x, y, z] := by
   simp only [List.filterMap_cons, List.filterMap_nil, kx, ky, kz, l1, l2, beq_self_eq_true, Bool.and_self, if_true]
 have hed : [x, y, z].eraseDups.length = 3 := by
   have q1 : (y == x) = false := by simpa using Ne.symm xy
   have q2 : (z == x) = false := by simpa using Ne.symm xz
   have q3 : (z == y) = false := by simpa using Ne.symm yz
   simp [List.eraseDups_cons, q1, q2, q3, xy, xz, yz, Ne.symm xy, Ne.symm xz, Ne.symm yz]
 have nn : ∀ l : List Str, l = [x, y, z] → ¬ ((l.length != 0 + 1 + 1 + 1 || l.eraseDups.length != l.length) = true) := λl e => by
   subst e
   rw [hed]
   exact (by decide : ¬ ((3 != 3 || 3 != 3) = true))
 unfold swappedStores
 simp only [List.length_cons, List.length_nil, hb, List.head?_cons, Option.map_some, Option.getD_some, hln, f, g]
 rw [if_neg (by decide)]
 refine (if_neg (λh => Bool.noConfusion (hst.symm.trans h))).trans ?_
 refine (if_neg (nn _ hnm)).trans ?_
 rw [if_neg (by decide), if_neg (by decide)]
 exact congrArg (λl => (pure (some l) : Sem (Option (List Str)))) hnm
theorem zg2 {x y z : Str} {px py pz pt pt2 : Pos} {kt k2 : Nat} {vs : List Expr} {env : Env} (h : ¬ (env.scope.names.lookup x = some .local ∧ env.scope.names.lookup y = some .local ∧ env.scope.names.lookup z = some .local)) :
   swappedStores [.Tuple [.Name x px, .Name y py, .Name z pz] kt pt] (.Tuple vs k2 pt2) env = pure none := by
 have hb : ∀ (l : Nat) (w : Str) (p : Pos), (if env.kindOf w == some .local && p.line == l then some w else none) = some w → env.scope.names.lookup w = some .local := λl w p e => by
   by_cases q : (env.kindOf w == some .local && p.line == l) = true
   · exact eq_of_beq (Bool.and_eq_true_iff.mp q).1
   · rw [if_neg q] at e; cases e
 have hl : ∀ l : Nat, (([Expr.Name x px, Expr.Name y py, Expr.Name z pz].filterMap fun
     | .Name id pos => if env.kindOf id == some .local && pos.line == l then some id else none
     | _ => none).length != 0 + 1 + 1 + 1) = true := λl => by
   simp only [List.filterMap_cons, List.filterMap_nil]
   by_cases hx : (env.kindOf x == some .local && px.line == l) = true
   · by_cases hy : (env.kindOf y == some .local && py.line == l) = true
     · by_cases hz : (env.kindOf z == some .local && pz.line == l) = true
       · exact absurd ⟨eq_of_beq (Bool.and_eq_true_iff.mp hx).1, eq_of_beq (Bool.and_eq_true_iff.mp hy).1, eq_of_beq (Bool.and_eq_true_iff.mp hz).1⟩ h
       · rw [if_pos hx, if_pos hy, if_neg hz]; rfl
     · by_cases hz : (env.kindOf z == some .local && pz.line == l) = true
       · rw [if_pos hx, if_neg hy, if_pos hz]; rfl
       · rw [if_pos hx, if_neg hy, if_neg hz]; rfl
   · by_cases hy : (env.kindOf y == some .local && py.line == l) = true
     · by_cases hz : (env.kindOf z == some .local && pz.line == l) = true
       · rw [if_neg hx, if_pos hy, if_pos hz]; rfl
       · rw [if_neg hx, if_pos hy, if_neg hz]; rfl
     · by_cases hz : (env.kindOf z == some .local && pz.line == l) = true
       · rw [if_neg hx, if_neg hy, if_pos hz]; rfl
       · rw [if_neg hx, if_neg hy, if_neg hz]; rfl
 unfold swappedStores
 simp only [List.length_cons, List.length_nil, List.head?_cons, Option.map_some, Option.getD_some]
 split
 · rfl
 · split
   · rfl
   · refine (if_pos ?_).trans rfl
     exact Bool.or_eq_true_iff.mpr (.inl (hl _))
def tPar3 (i j k : Nat) (ta : TA) : TS := λD σ H => ta σ H λvs H1 => ∃ u v w, vs = [u, v, w] ∧ D.nx (((σ.set i (some u)).set j (some v)).set k (some w)) H1
section
variable {X : Cx} {pos : Pos}
theorem zk6 {i j k : Nat} {x y z : Str} {a b d : Expr} {ta : TA} {px py pz pt : Pos} {kt k2 pt2} (hc : X.calm = true) (hN : X.N.Nodup) (hi : X.N[i]? = some x) (hj : X.N[j]? = some y) (hk : X.N[k]? = some z) (hij : i ≠ j) (hik : i ≠ k) (hjk : j ≠ k)
   (hx : X.env.scope.names.lookup x = some .local) (hy : X.env.scope.names.lookup y = some .local) (hz : X.env.scope.names.lookup z = some .local) (ha : PA X [a, b, d] ta)
   (hw : swappedStores [.Tuple [.Name x px, .Name y py, .Name z pz] kt pt] (.Tuple [a, b, d] k2 pt2) X.env = pure (some [x, y, z]))
   (hs : swapsWithSole [.Tuple [.Name x px, .Name y py, .Name z pz] kt pt] (.Tuple [a, b, d] k2 pt2) pos.line X.env = pure false := by rfl) :
   PS X (.Assign [.Tuple [.Name x px, .Name y py, .Name z pz] kt pt] (.Tuple [a, b, d] k2 pt2) pos) (tPar3 i j k ta) := by
 intro pins s σ H D I h
 rw [exec_Assign_arm]
 refine wpAny_bind (wpAny_standAt ?_)
 rw [hs]
 refine wpAny_bind (wpAny_pure ?_)
 rw [if_neg (by decide)]
 refine wpAny_bind (Tuple_ (thn (ha _ pins s σ H _ I h) λus s1 ⟨vs, H1, I1, r1, q1⟩ => ?_))
 obtain ⟨u, v, w, e1, q1⟩ := q1
 subst e1
 obtain ⟨u1, u2, u3, rfl, ru, rv, rw'⟩ : ∃ u1 u2 u3, us = [u1, u2, u3] ∧ RelV u u1 ∧ RelV v u2 ∧ RelV w u3 := by
   cases r1 with
   | cons p q => cases q with
     | cons p' q' => cases q' with
       | cons p'' q'' =>
         cases q''
         exact ⟨_, _, _, rfl, p, p', p''⟩
 refine wpAny_newObj_type ?_ (by show 3 ≤ sizeLine; decide)
 have I2 : Inv X pins σ H1 { s1 with heap := s1.heap.push { cls := .type "tuple", data := .seq [u1, u2, u3].toArray } } := I1.kept (t' := s1.toks) λb o e => Heap.get?_push_of_some _ e
 rw [hw]
 refine wpAny_bind (wpAny_pure ?_)
 show wpAny (model X.prog X.w) X.A (do rule "assign.swapped-stores"; let items ← unpackItems (.ref s1.heap.objs.size) 3 none; assignInOrder [λv => bindName X.env z v, λv => bindName X.env y v, λv => bindName X.env x v] items.reverse; pure Flow.next) _ _ _
 refine wpAny_bind (wpAny_rule (wpAny_bind (unpackItems_tuple (items := #[u1, u2, u3]) (I.ok.hd hc) (IsTup.new s1.heap _) λh' hx' => ?_)))
 have I3 := I2.kept (h' := h') (t' := s1.toks) λb o e => hx' b o (Nat.ne_of_lt (Heap.lt_size e)) e
 show wpAny _ _ (assignInOrder [λv => bindName X.env z v, λv => bindName X.env y v, λv => bindName X.env x v] [u3, u2, u1] >>= λ_ => pure Flow.next) _ _ _
 refine wpAny_bind (assignInOrder_cons (wpAny_bindName (zcY I3 hN hk (.inl hz) rw' (λs2 I4 => ?_) (.inr hz))))
 refine assignInOrder_cons (wpAny_bindName (zcY I4 hN hj (.inl hy) rv (λs3 I5 => ?_) (.inr hy)))
 refine assignInOrder_cons (wpAny_bindName (zcY I5 hN hi (.inl hx) ru (λs4 I6 => assignInOrder_nil (wpAny_pure ?_)) (.inr hx)))
 have e : ((σ.set k (some w)).set j (some v)).set i (some u) = ((σ.set i (some u)).set j (some v)).set k (some w) := by
   rw [List.set_comm _ _ (Ne.symm hjk), List.set_comm _ _ (Ne.symm hik), List.set_comm _ _ (Ne.symm hij)]
 rw [e] at I6
 exact ⟨_, H1, I6, q1⟩
theorem zkI {i j k : Nat} {x y z : Str} {a b d : Expr} {fa : AF} {px py pz pt : Pos} {kt k2 pt2} (hc : X.calm = true) (hN : X.N.Nodup) (hi : X.N[i]? = some x) (hj : X.N[j]? = some y) (hk : X.N[k]? = some z) (hij : i ≠ j) (hik : i ≠ k) (hjk : j ≠ k)
   (hx : X.env.scope.names.lookup x = some .local) (hy : X.env.scope.names.lookup y = some .local) (hz : X.env.scope.names.lookup z = some .local) (ha : SA X [a, b, d] fa)
   (hw : swappedStores [.Tuple [.Name x px, .Name y py, .Name z pz] kt pt] (.Tuple [a, b, d] k2 pt2) X.env = pure (some [x, y, z])) :
   SS X (.Assign [.Tuple [.Name x px, .Name y py, .Name z pz] kt pt] (.Tuple [a, b, d] k2 pt2) pos) (sAsg (eN gTup fa) (gTp 3 (gsCons (gNm i) (gsCons (gNm j) (gsCons (gNm k) gsNil))))) := by
 refine PS.imp (zk6 hc hN hi hj hk hij hik hjk hx hy hz ha hw) λD σ H h => ?_
 obtain ⟨σd, S, α, fl, σd', S', hv, hs, hf, kk⟩ := h
 unfold sAsg eN at hf
 simp only [Option.bind_eq_some_iff, Option.map_eq_some_iff] at hf
 obtain ⟨⟨t, S2⟩, ⟨⟨ds, S1⟩, e1, e2⟩, ⟨σ1, S3⟩, e3, e4⟩ := hf
 cases e4
 unfold gTup at e2
 split at e2
 · cases e2
   simp only [gTp] at e3
   split at e3
   · rename_i hl
     obtain ⟨d1, d2, d3, rfl⟩ : ∃ d1 d2 d3, ds = [d1, d2, d3] := by
       match ds, hl with
       | [d1, d2, d3], _ => exact ⟨d1, d2, d3, rfl⟩
     simp only [gsCons, gsNil, gNm, Option.bind_some, Option.some.injEq, Prod.mk.injEq] at e3
     obtain ⟨rfl, rfl⟩ := e3
     refine ⟨σd, S, α, _, _, hv, hs, e1, λvs H1 α1 s1 x1 r1 => ?_⟩
     cases r1 with
     | cons p q => cases q with
       | cons p' q' => cases q' with
         | cons p'' q'' =>
           cases q''
           exact ⟨_, _, _, rfl, kk _ _ _ ((((hv.mono x1).set p i).set p' j).set p'' k) s1 x1⟩
   · cases e3
 · cases e2
end
end MX
end
section
set_option autoImplicit false
namespace MX
open PySem PySem.Spec PySem.W PyProof.Rows L2
def cxL (P : Program) (w : World) (K : PySem.W.Frag) (mg : Str → Option Value) (base : Heap) (N : List Str) (qual : Str) (scope : Scope) (f : Addr) (cd : Value) (cl : List (Str × Addr)) (A : Around) (outer : List Env) (s : Shared) (H : Hp) (E : XK) : Cx where
 prog := P
 w := w
 K := K
 mg := mg
 base := base
 A := A.deeper (envX qual scope s.heap.objs.size f cd cl)
 N := N
 s₀ := s
 H₀ := H
 env := envX qual scope s.heap.objs.size f cd cl
 outer := outer
 stack := envX qual scope s.heap.objs.size f cd cl :: outer
 ex := []
 calm := true
 fn := λ_ => false
 pn := []
 xe := λe s' => wpAny (model P w) (A.deeper (envX qual scope s.heap.objs.size f cd cl)) (leaving (envX qual scope s.heap.objs.size f cd cl) e) (λ_ s'' => CX0 outer H s E e s'') (λe' s'' => CX0 outer H s E e' s'') s'
structure LamScope (p : Str) (scope : Scope) (cl : List (Str × Addr)) : Prop where
 kind : scope.kind = .function
 co : scope.isCoroutine = false
 gen : scope.isGenerator = false
 par : scope.names.lookup p = some .local
 nocell : ∀ x ∈ scope.names, x.2 ≠ .cell
 has : ∀ x, scope.names.lookup x = some .free → ∃ c, cl.lookup x = some c
 inj : ∀ x y c, cl.lookup x = some c → cl.lookup y = some c → x = y
theorem zlB {scope : Scope} (h : ∀ x ∈ scope.names, x.2 ≠ NameKind.cell) (x : Str) : scope.names.lookup x ≠ some .cell := λe => h _ (PySem.mem_of_lookup e) rfl
theorem callFunE2 {prog : Program} {w : World} {A : Around} {R : Result → Shared → Prop} {s : Shared} {a : Addr} {args : Args} {o : Obj} {fd : FuncData} {body : Expr} {q : Str} (hroom : A.depth < recursionLimit)
   (ho : s.heap.get? a = some o) (hd' : o.data = .func fd) (hco : fd.scope.isCoroutine = false) (hgen : fd.scope.isGenerator = false) (hbody : fd.body = .expr body) (hcd : s.heap.CodeRec fd.code q)
   (h : wpAny (model prog w) A.in1 (bindArgs fd args) (λbinds s₁ =>
     wpAny (model prog w) A.in1 (newFunctionEnv fd.scope fd.globals fd.closure binds (q ++ ".<locals>.") (some a) fd.code none fd.builtins)
       (λenv s₂ => s₂.heap.NoLimit ∧ codeAny (model prog w) A (.expr body env) R s₂) (λe s' => R (.error e) s') s₁) (λe s' => R (.error e) s') s) :
   codeAny (model prog w) A (.call (.ref a) args) R s := by
 refine codeAny_of_tree ?_
 show wpAny _ A.in1 (callAny (.ref a) args) _ _ s
 simp only [callAny]
 refine wpAny_bind (wpAny_load ho ?_)
 obtain ⟨c, oc, vs, tq, hc, hoc, hdc, hq⟩ := hcd
 simp only [hd', callFunction, hco, hgen, hbody, hc]
 rw [hc] at h
 refine wpAny_bind (m := field (.ref c) 1) (wpAny_field hoc hdc hq (wpAny_bind (wpAny_pure ?_)))
 exact wpAny_bind (wpAny_mono h (λbinds s₁ h₁ => wpAny_bind (wpAny_mono h₁ (λenv s₂ h₂ => wpAny_bind (wpAny_enterFrame h₂.1 hroom
   (wpAny_pure (And.intro rfl h₂.2)))) λ_ _ h' => h')) λ_ _ h' => h')
theorem znu {P : Program} {w : World} {K : PySem.W.Frag} {mg : Str → Option Value} {base : Heap} {k : Nat} {a : Addr} {name qual : Str} {params : Arguments} {body : Expr} {scope : Scope} {cl : List (Str × Addr)} {pm cdv ctv : Value} {o : Obj} {p : Str} {cap : List Str} {cvs : List V} {cus : List Value} {sp : Sp}
   {Pt : Addr} {lpos : Pos}
   (ho : base.get? a = some o) (hod : o.data = .func (kla_fn name qual params body scope cl pm cdv ctv)) (hcd : ∀ vs H Q E, sp vs H Q E → ∃ ps, H Pt = some (.tbl ps) ∧ codeAmong lpos ps.toList = some cdv) (S : LamScope p scope cl)
   (hcells : ∀ x c, cl.lookup x = some c → ∃ v, base.IsCell c v) (hcap : ∀ (i : Nat) x v, cap[i]? = some x → cvs[i]? = some v → scope.names.lookup x = some .free ∧ ∃ c u, cl.lookup x = some c ∧ base.IsCell c (some u) ∧ RelV v u) (hlen : cap.length = cvs.length)
   (len : ∀ vs H Q E, sp vs H Q E → vs.length = 1)
   (hbody : ∀ (qual : Str) (A : Around) (outer : List Env) (s : Shared) (H : Hp) (v : V) (Q : VK) (E : XK), Room k (A.deeper (envX qual scope s.heap.objs.size a cdv cl)) → sp [v] H Q E →
     ∃ t, PE (cxL P w K mg base (p :: cap) qual scope a cdv cl A outer s H E).nox body t ∧ t (some v :: cvs.map some) H Q) :
   FnOk P w K mg base CX0 (k + 1) a (kla_fn name qual params body scope cl pm cdv ctv) [p] sp := by
 refine ⟨len, λA outer s H args us vs Q E hr e0 hb r hsp => ?_⟩
 have hl := len _ _ _ _ hsp
 obtain ⟨v, rfl⟩ : ∃ v, vs = [v] := by
   match vs, hl with
   | [v], _ => exact ⟨v, rfl⟩
 obtain ⟨u, rfl, rv⟩ : ∃ u, us = [u] ∧ RelV v u := by
   cases r with
   | cons h1 h2 => cases h2; exact ⟨_, rfl, h1⟩
 have bk : ∀ b o, base.get? b = some o → s.heap.get? b = some o := λb o e => (e0.bs b o e).1
 have lim : s.heap.NoLimit := e0.mod.nolimit.keeps bk
 obtain ⟨ps, hps, ham⟩ := hcd _ _ _ _ hsp
 obtain ⟨_, _, hcp⟩ := e0.hok Pt _ hps
 obtain ⟨cc, q, oc, vs, tq, hc1, _, hc2, hc3, hc4⟩ := hcp lpos cdv ham
 have cr : s.heap.CodeRec cdv q := ⟨cc, oc, vs, tq, hc1, hc2, hc3, hc4⟩
 obtain ⟨t, ht, hq⟩ := hbody q A outer s H v Q E (hr.deeper _) hsp
 refine callFunE2 hr.depth (bk _ _ ho) hod S.co S.gen rfl cr (hb _ _ _ _ ?_)
 have hloc : ∀ y ∈ [p].zip [u], scope.names.lookup y.1 = some .local := λy hy => by
   have : y = (p, u) := by simpa using hy
   subst this; exact S.par
 refine wpAny_newFunctionEnv S.nocell hloc (λh₁ hns hsb => ⟨lim.fresh _ hsb, ?_⟩) S.kind
 show codeAny _ _ (.expr body (envX q scope s.heap.objs.size a cdv cl)) _ _
 have hk₁ : ∀ b o, s.heap.get? b = some o → h₁.get? b = some o := λb o e => hsb.extBut b o (Nat.ne_of_lt (Heap.lt_size e)) (Heap.get?_push_of_some _ e)
 have cellK : ∀ c v, base.IsCell c v → h₁.IsCell c v := λc v ⟨o, e, d⟩ => ⟨o, hk₁ _ _ (bk _ _ e), d⟩
 have noA : ∀ b : Addr, b ∉ (cxL P w K mg base (p :: cap) q scope a cdv cl A outer s H E).ex := λb z => absurd (show b ∈ ([] : List Addr) from z) (by simp)
 have I : Inv (cxL P w K mg base (p :: cap) q scope a cdv cl A outer s H E) [] (some v :: cvs.map some) H { s with heap := h₁, toks := s.toks + ([p].zip [u]).length } := by
   refine ⟨⟨e0.mod, S.kind, rfl, rfl, Nat.le_refl _, S.inj, λy hy => ?_, λy c hf _ => (nomatch hf), λ_ => hr.hd, Around.frames_deeper e0.frames, .inr ⟨rfl, rfl⟩, λb z => absurd z (noA b), e0.bs, e0.bsz, λb _ _ => noA b, λb z => absurd z (noA b), e0.funs, e0.frf⟩,
     rfl, e0.bare, Un.kept hk₁, ⟨_, hns, λi y z h1 h2 h3 => ?_⟩, λy c h => ?_, e0.hok.fresh (Nat.le_refl _), λy c h => ?_, λq hq => absurd (show q ∈ ([] : List (Addr × Obj)) from hq) (by simp), e0.hok.kept hk₁, ?_⟩
   · rcases hy with hy | hy
     · exact absurd hy (zlB S.nocell y)
     · exact S.has y hy
   · cases i with
     | zero =>
       have e1 : p = y := by simpa [cxL] using h1
       have e2 : v = z := by simpa using h2
       subst e1 e2
       exact ⟨u, rv, .inl ⟨S.par, by simp⟩⟩
     | succ i =>
       have e1 : cap[i]? = some y := by simpa [cxL] using h1
       have e2 : cvs[i]? = some z := by
         rw [List.getElem?_cons_succ, List.getElem?_map] at h2
         cases q : cvs[i]? with
         | none => rw [q] at h2; cases h2
         | some x => rw [q] at h2; cases h2; rfl
       obtain ⟨k1, c, u', k2, k3, k4⟩ := hcap i y z e1 e2
       exact ⟨u', k4, .inr ⟨.inr k1, c, k2, cellK _ _ k3⟩⟩
   · obtain ⟨v', hv⟩ := hcells y c h
     exact ⟨v', cellK _ _ hv⟩
   · obtain ⟨v', o', ho', _⟩ := hcells y c h
     exact (e0.bs _ _ ho').2
   · show _ = (p :: cap).length
     simp [hlen]
 refine kla_codeExpr (wpAny_mono (ht.nox [] _ _ H Q I hq) (λu' s' hs => ?_) λe s' hs => hs)
 obtain ⟨v', H', J, rv', q⟩ := hs
 exact ⟨v', H', J.os, J.bare, J.base, J.hok, rv', q⟩
theorem zlG {M : Model} {a : Addr} {fd : FuncData} (h : Heap) (X : h.get? a = some { cls := .type "function", data := .func fd }) : ∃ k, (k = Keeper.frame ∨ k = Keeper.machine ∨ k = Keeper.boundFrame) ∧ Looks M h (keeperOf (.ref a)) k :=
 ⟨.frame, .inl rfl, (Looks.ld (part := none) X).andThen .now⟩
section
variable {X : Cx} {x : Str} {p pos : Pos} {e : Expr} {es : List Expr} {t : TA}
structure Tups (H H' : Hp) : Prop where
 tups : ∀ b xs, H b = some (.tup xs) → H' b = some (.tup xs)
 tbls : ∀ b ps, H b = some (.tbl ps) → ∃ more, H' b = some (.tbl (ps ++ more))
 frzs : ∀ b o u, H b = some (.frz o u) → H' b = some (.frz o u)
theorem zjy {i : Nat} {a : Addr} {fd : FuncData} {q : Str} {k : Nat} {sp : Sp} (F : FnOk X.prog X.w X.K X.mg X.base CX0 k a fd [q] sp) (hr : Room k X.A) (ho : X.base.get? a = some { cls := .type "function", data := .func fd })
   (hb : ∀ (s : Shared) (u : Value), BindsTo s fd ⟨[u], []⟩ [(q, u)]) (hN : X.N[i]? = some x) (hv : Vis X.env.scope x) (ha : PA X (e :: es) t) (hdb : (x == ("__debug__" : Str)) = false) (hcd : (x == ("__classdict__" : Str)) = false)
   (he : starEach (e :: es) X.env = (false, eval e X.env) :: starEach es X.env) (hpl : (backTo pos (starEach es X.env)).any (·.1) = false) :
   PE X (.Call (.Name x p) (e :: es) [] pos) (λσ H Q => σ[i]? = some (some (.ref a)) ∧ t σ H λvs H1 => Tups X.H₀ H1 → sp vs H1 Q E0) := by
 intro pins s σ H Q I h
 obtain ⟨h1, h2⟩ := h
 refine wpAny_Call_Name_kw (thn (zkf hN hv hdb hcd pins s σ H (λv H' => v = V.ref a ∧ t σ H' λvs H1 => Tups X.H₀ H1 → sp vs H1 Q E0) I ⟨.ref a, h1, rfl, h2⟩) λu s1 ⟨v, H1, I1, r1, e1, q1⟩ => ?_)
 subst e1
 obtain rfl : u = Value.ref a := r1
 refine callWith_of (P := λh => h.get? a = some { cls := .type "function", data := .func fd }) (by rw [he]; show ((false || (backTo pos (starEach es X.env)).any (·.1)) || false) = false; rw [hpl]; rfl) zlG ?_
 rw [he]
 refine PySem.Calls.evalArgs_plain ?_
 have ha' := ha pos pins s1 σ H1 _ I1 q1
 rw [he] at ha'
 refine thn ha' λus s2 ⟨vs, H2, I2, r2, q2⟩ => ⟨I2.bk _ _ ho, ?_⟩
 have hsp := q2 ⟨I2.base.tups, I2.base.tbls, I2.base.frzs⟩
 have hl := F.len _ _ _ _ hsp
 obtain ⟨v, rfl⟩ : ∃ v, vs = [v] := by
   match vs, hl with
   | [v], _ => exact ⟨v, rfl⟩
 obtain ⟨u, rfl, rv⟩ : ∃ u, us = [u] ∧ RelV v u := by
   cases r2 with
   | cons h1 h2 => cases h2; exact ⟨_, rfl, h1⟩
 refine wpAny_call (codeAny_mono (F.run X.A X.stack s2 H2 ⟨[u], []⟩ [u] [v] Q E0 hr I2.env0 (hb s2 u) (.cons rv .nil) hsp) λr s' hq => ?_)
 cases r with
 | error e => exact hq.elim
 | ok fl =>
   cases fl with
   | ret u => exact I2.after hq
   | next => exact False.elim hq
   | brk => exact False.elim hq
   | cont => exact False.elim hq
end
end MX
end
section
set_option autoImplicit false
namespace MX
open PySem PySem.Spec PySem.W PyProof.Rows L2
def BM (h : Heap) (mg : Str → Option Value) : Prop := ∃ bm o, mg "__builtins__" = some (.ref bm) ∧ bm ≠ builtinsNs ∧ h.get? bm = some o ∧ o.cls = .type "module" ∧ o.dict = some builtinsNs ∧ o.data = .plain
def SameT (H H' : Hp) : Prop := ∀ b o, H b = some o → (∀ ps, o ≠ .tbl ps) → H' b = some o
theorem zhv {pos : Pos} {cv : Value} : ∀ (l more : List Value), codeAmong pos l = some cv → codeAmong pos (l ++ more) = some cv := λl more => by
 fun_induction codeAmong pos l with
 | case1 line a col b c rest hc =>
   intro e
   simp only [List.cons_append, codeAmong]
   rw [if_pos hc]; exact e
 | case2 line a col b c rest hc ih =>
   intro e
   simp only [List.cons_append, codeAmong]
   rw [if_neg hc]; exact ih e
 | case3 => intro e; cases e
theorem zhu {pos pos' : Pos} {c cv : Value} : ∀ l : List Value, TriplesOk l → codeAmong pos (l ++ [rawInt pos'.line, rawInt pos'.col, c]) = some cv → codeAmong pos l = some cv ∨ cv = c := λl h => by
 fun_induction TriplesOk l with
 | case1 =>
   intro e
   simp only [List.nil_append, codeAmong, rawInt] at e
   split at e
   · cases e; exact .inr rfl
   · cases e
 | case2 a' t b' u x rest ih =>
   intro e
   simp only [List.cons_append, codeAmong] at e ⊢
   split at e
   · rename_i hc; rw [if_pos hc]; exact .inl e
   · rename_i hc; rw [if_neg hc]; exact ih h e
 | case3 l h1 h2 => exact h.elim
section
variable {X : Cx} {pins : List (Addr × Obj)} {σ : L2.St} {H : Hp} {s : Shared}
theorem zgI (I : Inv X pins σ H s) {h' : Heap} {t' : Nat} (k : ∀ b o, s.heap.get? b = some o → h'.get? b = some o) : Inv X pins σ H { s with heap := h', toks := t' } :=
 I.step (h' := h') (g' := s.gens) (d' := s.drawn) (ch := []) (λ_ z => nomatch z) (λb o _ _ _ e _ => k b o e) (λb o _ _ _ e _ => ⟨o.slots, k b o e⟩) (λb o _ _ n => n) (λb o _ e => ⟨o, k b o e⟩) (λ_ _ q => q) (λ_ _ _ q => q) (λ_ ps q => ⟨#[], by rw [q]; simp⟩)
   (λm ⟨o, es, ep, e, r⟩ => ⟨o, es, ep, k _ _ e, r⟩) (I.hok.kept k) I.bare
theorem zir (I : Inv X pins σ H s) {P c' : Addr} {ps : Array Value} {h' : Heap} {t' : Nat} {lpos : Pos} {q : Str} (hT : H P = some (.tbl ps)) (hx : Heap.ExtBut P s.heap h') (hge : s.heap.objs.size ≤ c') (hrec : h'.CodeRec (.ref c') q)
   (hP : h'.get? P = some (tabObj (ps ++ #[rawInt lpos.line, rawInt lpos.col, .ref c']))) :
   Inv X pins σ (upd (upd H P (.tbl (ps ++ #[rawInt lpos.line, rawInt lpos.col, .ref c']))) c' (.own P)) { s with heap := h', toks := t' } := by
 have hc : H c' = none := I.hok.fresh hge
 have hPc : P ≠ c' := λz => by rw [z, hc] at hT; cases hT
 have neP : ∀ b, H b = none → b ≠ P := λb n z => by rw [z, hT] at n; cases n
 have neC : ∀ b o, s.heap.get? b = some o → b ≠ c' := λb o e z => absurd (Nat.lt_of_lt_of_le (Heap.lt_size e) (z ▸ hge)) (Nat.lt_irrefl _)
 have old : ∀ b, b ≠ P → b ≠ c' → upd (upd H P (.tbl (ps ++ #[rawInt lpos.line, rawInt lpos.col, .ref c']))) c' (.own P) b = H b := λb h1 h2 => by rw [zaq h2, zaq h1]
 have oldS : ∀ b o, H b = some o → b ≠ P → upd (upd H P (.tbl (ps ++ #[rawInt lpos.line, rawInt lpos.col, .ref c']))) c' (.own P) b = some o := λb o e h1 => by
   rw [old b h1 (zan e hc)]; exact e
 obtain ⟨eP, tP, cP⟩ := I.hok P _ hT
 refine I.step (h' := h') (g' := s.gens) (d' := s.drawn) (ch := []) (λ_ z => nomatch z) (λb o _ _ _ e n => hx b o (neP b n) e) (λb o _ _ _ e n => ⟨o.slots, hx b o (neP b n) e⟩) (λb o _ e n => by rw [old b (neP b n) (neC b o e)]; exact n) (λb o _ e => ?_)
   (λb xs q => oldS b _ q λz => by rw [z, hT] at q; cases q) (λb o u q => oldS b _ q λz => by rw [z, hT] at q; cases q) (λb qs e => ?_) (λm hm => hm.extBut hx (neP _ I.free)) (λb o e => ?_) I.bare
 · by_cases hb : b = P
   · subst hb; exact ⟨_, hP⟩
   · exact ⟨o, hx b o hb e⟩
 · by_cases hb : b = P
   · subst hb
     rw [hT] at e; cases e
     exact ⟨_, by rw [zaq hPc, zaw]⟩
   · exact ⟨#[], by rw [oldS b _ e hb]; simp⟩
 · obtain ⟨c2, oc, vs, t, ec, hoc, hod, hv⟩ := hrec
   cases ec
   by_cases h1 : b = c'
   · subst h1
     rw [zaw] at e; cases e
     exact ⟨_, hoc⟩
   · rw [zaq h1] at e
     by_cases h2 : b = P
     · subst h2
       rw [zaw] at e; cases e
       refine ⟨hP, by rw [Array.toList_append]; exact TriplesOk_snoc _ _ _ _ tP, λpos cv q => ?_⟩
       rw [Array.toList_append] at q
       rcases zhu _ tP q with q | q
       · obtain ⟨c3, q3, oc3, vs3, t3, e1, e2, e3, e4⟩ := cP pos cv q
         have n3 : c3 ≠ b := λz => by rw [z, hT] at e2; cases e2
         exact ⟨c3, q3, oc3, vs3, t3, e1, oldS _ _ e2 n3, hx _ _ n3 e3, e4⟩
       · exact ⟨c', _, oc, vs, t, q, zaw, hoc, hod, hv⟩
     · rw [zaq h2] at e
       refine (I.hok b o e).stay (λx u hxb g => hx x u ?_ g) (λx g => oldS x _ g λz => by rw [z, hT] at g; cases g) λx xs g => oldS x _ g λz => by rw [z, hT] at g; cases g
       rcases hxb with z | z
       · rw [z]; exact h2
       · intro y; rw [y, hT] at z; cases z
end
section
variable {X : Cx} {pins : List (Addr × Obj)} {σ : L2.St} {H : Hp} {s : Shared} {params : Arguments} {body : Expr} {scope : Scope} {lpos : Pos} {clos : List (Str × Addr)} {c P : Addr} {ps : Array Value} {R : Value → Shared → Prop}
structure Made (X : Cx) (pins : List (Addr × Obj)) (σ : L2.St) (H : Hp) (s : Shared) (params : Arguments) (body : Expr) (scope : Scope) (clos : List (Str × Addr)) (P : Addr) (lpos : Pos) (a : Addr) (s' : Shared) (H' : Hp) : Prop where
 inv : Inv X pins σ H' s'
 same : SameT H H'
 keep : ∀ b o, s.heap.get? b = some o → H b = none → s'.heap.get? b = some o ∧ H' b = none
 no : H' a = none
 new : s.heap.objs.size ≤ a
 obj : ∃ pm cdv ctv, s'.heap.get? a = some { cls := .type "function", data := .func (kla_fn "<lambda>" (X.env.qual ++ "<lambda>") params body scope clos pm cdv ctv) } ∧ ∃ ps, H' P = some (.tbl ps) ∧ codeAmong lpos ps.toList = some cdv
theorem zjE (I : Inv X pins σ H s) (hT : H P = some (.tbl ps)) (hcode : X.env.code = .ref c) (C : CodeHd X.base c P) (B : BM X.base X.mg) (hcl : closureFor scope X.env = pure clos) (hdef : defaultsOf params X.env = ([], []))
   (h : ∀ a s' H', Made X pins σ H s params body scope clos P lpos a s' H' → R (.ref a) s') : wpAny (model X.prog X.w) X.A (eval (.Lambda params body scope lpos) X.env) R X.xe s := by
 refine kla_eval hdef ?_
 obtain ⟨eP, tP, cP⟩ := I.hok P _ hT
 have hg : s.heap.Ns mainGlobals X.mg := I.mod.glob.keeps I.bk
 have hgP : mainGlobals ≠ P := λz => by
   obtain ⟨o, es, ep, e, hd, _⟩ := I.mod.glob
   have := (I.bs _ _ e).2
   rw [z, hT] at this; cases this
 obtain ⟨bm, ob, b1, b2, b3, b4, b5, b6⟩ := B
 have hbP : bm ≠ P := λz => by
   have := (I.bs _ _ b3).2
   rw [z, hT] at this; cases this
 have hbG : bm ≠ mainGlobals := λz => by
   obtain ⟨o, es, ep, e, hd, _⟩ := I.mod.glob
   rw [z, e] at b3; cases b3; rw [hd] at b6; cases b6
 have hb : s.heap.BuiltinsAt X.mg P := ⟨bm, ob, b1, b2, hbG, hbP, I.bk _ _ b3, b4, b5, b6⟩
 have fnew : ∀ {h' : Heap} {o : Obj} {b : Addr}, H b = none → True := λ_ => trivial
 cases hn : codeAmong lpos ps.toList with
 | none =>
   refine kla_makeFunction (mg := X.mg) hcl I.ok.glob hg hcode (C.keeps I.bk) eP tP hn hgP hb λc' ctv h' tk hx hge hlt hrec htb => ?_
   have I1 := zir I (t' := tk) hT hx hge hrec htb
   have I2 := zgI I1 (h' := h'.push (kla_obj "<lambda>" (X.env.qual ++ "<lambda>") params body scope clos ((X.mg "__name__").getD .none) c' ctv)) (t' := tk) λb o e => Heap.get?_push_of_some _ e
   have hc : H c' = none := I.hok.fresh hge
   refine h h'.objs.size _ _ ⟨I2, λb o e ne => ?_, λb o e n => ⟨Heap.get?_push_of_some _ (hx b o (λz => by rw [z, hT] at n; cases n) e), ?_⟩, ?_, ?_, ?_⟩
   · rw [zaq (zan e hc), zaq (λz => ne ps (by rw [z, hT] at e; cases e; rfl))]; exact e
   · have hlt' := Heap.lt_size e
     rw [zaq (Nat.ne_of_lt (Nat.lt_of_lt_of_le hlt' hge)), zaq (λz => by rw [z, hT] at n; cases n)]; exact n
   · rw [zaq (Nat.ne_of_gt hlt), zaq (λz => by
       have := Heap.lt_size htb
       rw [← z] at this; exact absurd this (Nat.lt_irrefl _))]
     refine I.hok.fresh (Nat.le_of_lt (Nat.lt_of_le_of_lt hge hlt))
   · exact Nat.le_of_lt (Nat.lt_of_le_of_lt hge hlt)
   · exact ⟨_, _, ctv, Heap.get?_push_size _ rfl, _, by rw [zaq (zan hT hc), zaw], by rw [Array.toList_append]; exact codeAmong_snoc _ tP hn⟩
 | some cv =>
   obtain ⟨c', q, oc, vs, t, rfl, e2, e3, e4, e5⟩ := cP lpos cv hn
   refine kla_makeFunctionHit (mg := X.mg) hcl I.ok.glob hg hcode (C.keeps I.bk) eP tP hn hb λctv h' tk hk hsz => ?_
   have I2 := zgI I (h' := h'.push { cls := .type "function", data := .func (kla_fn "<lambda>" (X.env.qual ++ "<lambda>") params body scope clos ((X.mg "__name__").getD .none) (.ref c') ctv) }) (t' := tk) λb o e => Heap.get?_push_of_some _ (hk b o e)
   refine h h'.objs.size _ _ ⟨I2, λb o e _ => e, λb o e n => ⟨Heap.get?_push_of_some _ (hk b o e), n⟩, I.hok.fresh hsz, hsz, ?_⟩
   exact ⟨_, _, ctv, Heap.get?_push_size _ rfl, ps, hT, hn⟩
end
end MX
end
section
set_option autoImplicit false
namespace MX
open PySem PySem.Spec PySem.W PyProof.Rows L2
def closG (env : Env) (y : Str × NameKind) : Option (Str × Addr) := if (y.2 == NameKind.free) = true then (env.cells.lookup y.1).map λc => (y.1, c) else none
def closL (env : Env) (names : List (Str × NameKind)) : List (Str × Addr) := (names.filterMap (closG env)).reverse
theorem ze7 {env : Env} : ∀ (names : List (Str × NameKind)) (acc : List (Str × Addr)), (∀ y ∈ names, y.2 = .free → ∃ c, env.cells.lookup y.1 = some c) →
   (forIn names acc (λ(x : Str × NameKind) (cs : List (Str × Addr)) => do if (x.2 == NameKind.free) = true then let c ← cellOf env x.1; pure (ForInStep.yield ((x.1, c) :: cs)) else pure (ForInStep.yield cs)) : Sem (List (Str × Addr)))
     = pure (closL env names ++ acc)
 | [], acc, _ => by simp [closL]
 | y :: r, acc, h => by
   have ih := ze7 (env := env) r
   rw [List.forIn_cons]
   unfold closL at *
   rw [List.filterMap_cons]
   by_cases hk : (y.2 == NameKind.free) = true
   · obtain ⟨c, hc⟩ := h y (List.mem_cons_self ..) (by simpa using hk)
     have hcell : cellOf env y.1 = pure c := by unfold cellOf; rw [hc]
     have hG : closG env y = some (y.1, c) := by unfold closG; rw [if_pos hk, hc]; rfl
     simp only [if_pos hk, hcell, pure_bind]
     rw [ih _ (λz hz => h z (List.mem_cons_of_mem _ hz)), hG]
     simp
   · have hG : closG env y = none := by unfold closG; rw [if_neg hk]
     simp only [if_neg hk, pure_bind]
     rw [ih _ (λz hz => h z (List.mem_cons_of_mem _ hz)), hG]
theorem zhs {env : Env} {scope : Scope} (h : ∀ y ∈ scope.names, y.2 = .free → ∃ c, env.cells.lookup y.1 = some c) :
   closureFor scope env = pure (closL env scope.names) := by
 unfold closureFor
 have := ze7 (env := env) scope.names [] h
 rw [List.append_nil] at this
 simpa using this
theorem zht {env : Env} {y : Str × NameKind} {q : Str × Addr} (e : closG env y = some q) : y.2 = .free ∧ q.1 = y.1 ∧ env.cells.lookup y.1 = some q.2 := by
 unfold closG at e
 split at e
 · rename_i hk
   simp only [Option.map_eq_some_iff] at e
   obtain ⟨c, h1, rfl⟩ := e
   exact ⟨by simpa using hk, rfl, h1⟩
 · cases e
theorem zfR {env : Env} {names : List (Str × NameKind)} {q : Str × Addr} : q ∈ closL env names ↔ ∃ y ∈ names, closG env y = some q := by
 unfold closL
 rw [List.mem_reverse, List.mem_filterMap]
theorem zhn {α : Type} {l : List (Str × α)} {x : Str} {v : α} (h : (x, v) ∈ l) : ∃ u, l.lookup x = some u := by
 induction l with
 | nil => cases h
 | cons q r ih =>
   obtain ⟨k, w⟩ := q
   by_cases hk : x = k
   · subst hk; exact ⟨w, by simp [List.lookup]⟩
   · rcases List.mem_cons.mp h with e | e
     · cases e; exact absurd rfl hk
     · obtain ⟨u, hu⟩ := ih e
       refine ⟨u, ?_⟩
       rw [List.lookup_cons]
       have : (x == k) = false := by simpa using hk
       rw [this]; exact hu
theorem zbv {env : Env} {names : List (Str × NameKind)} {x : Str} {c : Addr} (h : (closL env names).lookup x = some c) : env.cells.lookup x = some c ∧ (x, NameKind.free) ∈ names := by
 obtain ⟨y, hy, e⟩ := zfR.mp (PySem.mem_of_lookup h)
 obtain ⟨h1, h2, h3⟩ := zht e
 obtain ⟨y1, y2⟩ := y
 simp only at h1 h2 h3
 subst h1 h2
 exact ⟨h3, hy⟩
theorem zfS {env : Env} {names : List (Str × NameKind)} {x : Str} {c : Addr} (h : (x, NameKind.free) ∈ names) (hc : env.cells.lookup x = some c) : (closL env names).lookup x = some c := by
 have : (x, c) ∈ closL env names := zfR.mpr ⟨_, h, by unfold closG; simp [hc]⟩
 obtain ⟨u, hu⟩ := zhn this
 have := (zbv hu).1
 rw [hc] at this
 rw [hu, ← this]
def baseOf (h : Heap) (H : Hp) (l : List Env) : Heap := hideAll h (trk h H ++ frs l)
theorem zdL {h : Heap} {H : Hp} {l : List Env} {b : Addr} {o : Obj} (e : h.get? b = some o) (n : H b = none) (hf : b ∉ frs l) : (baseOf h H l).get? b = some o :=
 hideAll_get _ e λhm => by
   rcases List.mem_append.mp hm with z | z
   · have q : (H b).isSome = true := (List.mem_filter.mp z).2
     rw [n] at q; simp at q
   · exact hf z
theorem zh0 {h : Heap} {H : Hp} {l : List Env} {b : Addr} {o : Obj} (e : (baseOf h H l).get? b = some o) : h.get? b = some o ∧ H b = none := by
 have e' : h.get? b = some o := of_hideAll _ e
 refine ⟨e', ?_⟩
 cases q : H b with
 | none => rfl
 | some x =>
   have hm : b ∈ trk h H ++ frs l := List.mem_append_left _ (List.mem_filter.mpr ⟨List.mem_range.mpr (Heap.lt_size e'), by simp [q]⟩)
   have z : (baseOf h H l).get? b = none := hideAll_none _ hm
   rw [z] at e; cases e
theorem zem {h base base' : Heap} : ∀ {l : List Env}, h.FunFrames base l → (∀ b ∈ frs l, base'.get? b = none) → h.FunFrames base' l
 | [], _, _ => trivial
 | env :: r, hl, hb => by
   obtain ⟨h1, ⟨L, o, h2, _, h3, h4⟩, h5⟩ := hl
   refine ⟨h1, ⟨L, o, h2, hb L ?_, h3, h4⟩, zem h5 λb q => hb b ?_⟩
   · unfold frs; rw [List.filterMap_cons, h2]; exact List.mem_cons_self ..
   · unfold frs at *; rw [List.filterMap_cons, h2]; exact List.mem_cons_of_mem _ q
theorem zh5 {K : PySem.W.Frag} {mg : Str → Option Value} {base base' : Heap} (M : Mod K mg base) (k : ∀ b o, base.get? b = some o → base'.get? b = some o) : Mod K mg base' :=
 ⟨M.kin.keeps k, M.glob.keeps k, let ⟨mb, h1, h2⟩ := M.blt; ⟨mb, h1.keeps k, h2⟩, M.nolimit.keeps k⟩
theorem ziM {X : Cx} {pins : List (Addr × Obj)} {σ : L2.St} {H : Hp} {s : Shared} (I : Inv X pins σ H s) : Env0 X.prog X.w X.K X.mg (baseOf s.heap H X.stack) X.A X.stack s H ∧ ∀ b o, X.base.get? b = some o → (baseOf s.heap H X.stack).get? b = some o := by
 have kb : ∀ b o, X.base.get? b = some o → (baseOf s.heap H X.stack).get? b = some o := λb o e =>
   zdL (I.bs b o e).1 (I.bs b o e).2 λz => by
     have := (I.stack.mem z).1
     rw [e] at this; cases this
 refine ⟨⟨I.ok.frames, zh5 I.mod kb, λb o e => zh0 e, by unfold baseOf; rw [hideAll_size]; exact Nat.le_refl _, zem I.stack λb hb => hideAll_none _ (List.mem_append_right _ hb), I.stkFree, I.hok, I.bare⟩, kb⟩
structure Clo (base : Heap) (qual : Str) (params : Arguments) (body : Expr) (scope : Scope) (clos : List (Str × Addr)) (cap : List Str) (cvs : List V) (a : Addr) (cdv : Value) : Prop where
 obj : ∃ pm ctv, base.get? a = some { cls := .type "function", data := .func (kla_fn "<lambda>" (qual ++ "<lambda>") params body scope clos pm cdv ctv) }
 has : ∀ y, (y, NameKind.free) ∈ scope.names → ∃ c, clos.lookup y = some c
 inj : ∀ y z c, clos.lookup y = some c → clos.lookup z = some c → y = z
 cells : ∀ y c, clos.lookup y = some c → ∃ v, base.IsCell c v
 cap : ∀ (i : Nat) y v, cap[i]? = some y → cvs[i]? = some v → (y, NameKind.free) ∈ scope.names ∧ ∃ c u, clos.lookup y = some c ∧ base.IsCell c (some u) ∧ RelV v u
section
variable {X : Cx} {x : Str} {p pos : Pos} {e : Expr} {te : TE} {params : Arguments} {body : Expr} {scope : Scope} {lpos : Pos} {f : Addr} {fd : FuncData} {k : Nat} {p1 p2 : Str} {P c : Addr} {SPf : Addr → Value → List V → Sp} {cap : List Str}
theorem zhg (hcap : ∀ y ∈ cap, (y, NameKind.free) ∈ scope.names) (hfree : ∀ y ∈ scope.names, y.2 = .free → X.env.kindOf y.1 = some .cell) (hfn : ∀ y, X.fn y = true) (hT : ∃ ps, X.H₀ P = some (.tbl ps)) (hcode : X.env.code = .ref c) (C : CodeHd X.base c P) (B : BM X.base X.mg)
   (hdef : defaultsOf params X.env = ([], []))
   (F : ∀ (base : Heap) (a : Addr) (cdv : Value) (cvs : List V) (clos : List (Str × Addr)), Mod X.K X.mg base → (∀ b o, X.base.get? b = some o → base.get? b = some o) → cap.length = cvs.length → Clo base X.env.qual params body scope clos cap cvs a cdv → FnOk X.prog X.w X.K X.mg base CX0 k f fd [p1, p2] (SPf a cdv cvs))
   (hr : Room k X.A) (hg : Gl X x) (hm : X.mg x = some (.ref f)) (hk : keepIn X.K (.ref f) = true) (hb : Binds X.K fd [p1, p2] []) (ha : PE X e te) (hdb : (x == ("__debug__" : Str)) = false)
   (he : starEach [e, .Lambda params body scope lpos] X.env = (false, eval e X.env) :: starEach [.Lambda params body scope lpos] X.env) :
   PE X (.Call (.Name x p) [e, .Lambda params body scope lpos] [] pos) (λσ H Q => te σ H λv1 H1 => ∃ cvs : List V, cap.length = cvs.length ∧ (∀ (i : Nat) y, cap[i]? = some y → ∃ (j : Nat) (v : V), X.N[j]? = some y ∧ σ[j]? = some (some v) ∧ cvs[i]? = some v) ∧
     ∀ a cdv H2, SameT H1 H2 → (∃ ps, H2 P = some (.tbl ps) ∧ codeAmong lpos ps.toList = some cdv) → SPf a cdv cvs [v1, .ref a] H2 Q E0) := by
 intro pins s σ H Q I h
 refine wpAny_Call_Name_kw (zid I hg hm ?_ hdb)
 refine callWith_K (h₀ := X.base) I.ok.mod.kin hk ?_ he rfl
 rw [he]
 show wpAny _ _ (spliced ((false, eval e X.env) :: backTo pos (starEach [.Lambda params body scope lpos] X.env))) _ _ s
 refine Calls.spliced_cons (thn (ha pins s σ H _ I h) λu1 s1 ⟨v1, H1, I1, r1, cvs, hlen, hsl, q1⟩ => ?_)
 have hcells : ∀ y ∈ scope.names, y.2 = .free → ∃ c, X.env.cells.lookup y.1 = some c := λy hy e => I1.ok.has y.1 (.inl (hfree y hy e))
 obtain ⟨ps0, hps0⟩ := hT
 obtain ⟨more, hps⟩ := I1.base.tbls P ps0 hps0
 have key : ∀ a s' H', Made X pins σ H1 s1 params body scope (closL X.env scope.names) P lpos a s' H' → wpAny (model X.prog X.w) X.A (spliced []) (λvs s₂ => X.K.In s₂.heap ∧ wpAny (model X.prog X.w) X.A (call (.ref f) ([] ++ u1 :: Value.ref a :: vs)) (EP X pins σ Q) X.xe s₂) X.xe s' := λa s' H' M => by
   refine Calls.spliced_nil ⟨M.inv.kIn, ?_⟩
   obtain ⟨pm, cdv, ctv, ho, hps'⟩ := M.obj
   have I2 := M.inv
   obtain ⟨e0, kb⟩ := ziM I2
   have notFr : ∀ b, s1.heap.objs.size ≤ b → b ∉ frs X.stack := λb hb z => by
     obtain ⟨_, o, ho, _⟩ := I1.stack.mem z
     exact absurd (Nat.lt_of_lt_of_le (Heap.lt_size ho) hb) (Nat.lt_irrefl _)
   have cellFr : ∀ y c, X.env.cells.lookup y = some c → c ∉ frs X.stack := λy c ec z => by
     rcases List.mem_cons.mp (I2.stkSub c z) with q | q
     · exact I2.cne y c ec q
     · obtain ⟨_, o, ho, _⟩ := I2.ok.funs.mem q
       exact absurd (Nat.lt_of_lt_of_le (Heap.lt_size ho) (I2.ok.cab y c (hfn y) ec)) (Nat.lt_irrefl _)
   have cellB : ∀ y c v, X.env.cells.lookup y = some c → s'.heap.IsCell c v → (baseOf s'.heap H' X.stack).IsCell c v := λy c v ec ⟨o, h1, h2⟩ => ⟨o, zdL h1 (I2.freeC y c ec) (cellFr y c ec), h2⟩
   have clo : Clo (baseOf s'.heap H' X.stack) X.env.qual params body scope (closL X.env scope.names) cap cvs a cdv := by
     refine ⟨⟨pm, ctv, zdL ho M.no (notFr a M.new)⟩, λy hy => ?_, λy z c h1 h2 => I2.ok.inj y z c (zbv h1).1 (zbv h2).1, λy c h1 => ?_, λi y v h1 h2 => ?_⟩
     · obtain ⟨c, hc⟩ := hcells _ hy rfl
       exact ⟨c, zfS hy hc⟩
     · obtain ⟨v, hv⟩ := I2.cell y c (zbv h1).1
       exact ⟨v, cellB y c v (zbv h1).1 hv⟩
     · have hy := hcap y (List.mem_of_getElem? h1)
       obtain ⟨j, v', k1, k2, k3⟩ := hsl i y h1
       rw [h2] at k3; cases k3
       have hkind := hfree _ hy rfl
       obtain ⟨m, _, hloc⟩ := I2.loc
       obtain ⟨u, ru, l⟩ := hloc j y v k1 k2 (.inr (.inl hkind))
       refine ⟨hy, ?_⟩
       rcases l with ⟨l1, _⟩ | ⟨_, c, l2, l3⟩
       · have l1' : X.env.kindOf y = some .local := l1
         have hk' : X.env.kindOf y = some .cell := hkind
         rw [hk'] at l1'; cases l1'
       · exact ⟨c, u, zfS hy l2, cellB y c _ l2 l3, ru⟩
   have G := F _ a cdv cvs _ e0.mod kb hlen clo
   have hsp := q1 a cdv H' M.same hps'
   have hl : ([u1, Value.ref a] ++ []).length = [p1, p2].length := rfl
   refine wpAny_call (codeAny_mono (G.run X.A X.stack s' H' ⟨[u1, .ref a], []⟩ [u1, .ref a] [v1, .ref a] Q E0 hr e0 (hb s' [u1, .ref a] I2.kIn rfl) (.cons r1 (.cons rfl .nil)) hsp) λr s'' hq => ?_)
   cases r with
   | error e => exact hq.elim
   | ok fl =>
     cases fl with
     | ret u => exact I2.after hq
     | next => exact False.elim hq
     | brk => exact False.elim hq
     | cont => exact False.elim hq
 show wpAny _ _ (spliced ((false, eval (.Lambda params body scope lpos) X.env) :: [])) _ _ s1
 exact Calls.spliced_cons (zjE I1 hps hcode C B (zhs hcells) hdef key)
end
end MX
end
section
set_option autoImplicit false
namespace MX
open PySem PySem.Spec PySem.W PyProof.Rows L2
section
variable {K : PySem.W.Frag} {H H' : Hp} {α : List Addr}
theorem Tups.ext (t : Tups H H') : Ext K H [] H' α := ⟨λa vs h => by
 rcases h with (h | ⟨o, h⟩) | h
 · exact .inl (.inl (t.tups _ _ h))
 · exact .inl (.inr ⟨o, t.frzs _ _ _ h⟩)
 · exact .inr h, λn a q => by simp at q⟩
theorem SameT.ext (t : SameT H H') : Ext K H α H' α := ⟨λa vs h => by
 rcases h with (h | ⟨o, h⟩) | h
 · exact .inl (.inl (t _ _ h λ_ z => by cases z))
 · exact .inl (.inr ⟨o, t _ _ h λ_ z => by cases z⟩)
 · exact .inr h, λ_ _ q => q⟩
theorem SameT.store {S : So} (t : SameT H H') (s : StoreR K H α S) : StoreR K H' α S := ⟨s.len, s.nd, λn o a h1 h2 => by
 have ob := s.obj n o a h1 h2
 cases o with
 | lst ds => obtain ⟨vs, e, r⟩ := ob; exact ⟨vs, t _ _ e (λ_ z => by cases z), r.mono t.ext⟩
 | frz ds =>
   obtain ⟨vs, e, r⟩ := ob
   refine ⟨vs, ?_, r.mono t.ext⟩
   rcases e with ⟨ob, e⟩ | e
   · exact .inl ⟨ob, t _ _ e λ_ z => by cases z⟩
   · exact .inr e
 | ins C fs => obtain ⟨dx, gs, e, h, r⟩ := ob; exact ⟨dx, gs, t _ _ e (λ_ z => by cases z), h, r.mono t.ext⟩⟩
theorem Reps.nil_ext {ds : List D} {vs : List V} (r : Reps K H [] ds vs) : Reps K H α ds vs := r.mono ⟨λ_ _ h => h, λn a q => by simp at q⟩
end
def CloFn (P : Program) (w : World) (K : PySem.W.Frag) (mg : Str → Option Value) (base : Heap) (k : Nat) (a : Addr) (R : Hp → Prop) (ψ : GN) : Prop :=
 ∃ fd q sp, FnOk P w K mg base CX0 k a fd [q] sp ∧ base.get? a = some { cls := .type "function", data := .func fd } ∧ (∀ (s : Shared) (u : Value), BindsTo s fd ⟨[u], []⟩ [(q, u)]) ∧ ∀ vs H Q, R H → vs.length = 1 → rdC K ψ vs H Q → sp vs H Q E0
def LocFn (X : Cx) (a : Addr) (ψ : GN) : Prop := ∃ R k, CloFn X.prog X.w X.K X.mg X.base k a R ψ ∧ Room k X.A ∧ ∀ H, Tups X.H₀ H → R H
def eCL (i : Nat) (a : Addr) (ψ : GN) (fs : AF) : EF := λσ S => match σ[i]? with
 | some (some (.adr b)) => if b = a then (fs σ S).bind λr => nArgs 1 ψ r.1 r.2 else none
 | _ => none
section
variable {X : Cx} {x : Str} {p pos : Pos} {e : Expr} {es : List Expr} {fs : AF}
theorem zjk {i : Nat} {a : Addr} {ψ : GN} (hF : LocFn X a ψ) (hN : X.N[i]? = some x) (hv : Vis X.env.scope x) (ha : SA X (e :: es) fs) (hdb : (x == ("__debug__" : Str)) = false) (hcd : (x == ("__classdict__" : Str)) = false)
   (he : starEach (e :: es) X.env = (false, eval e X.env) :: starEach es X.env) (hpl : (backTo pos (starEach es X.env)).any (·.1) = false) : SE X (.Call (.Name x p) (e :: es) [] pos) (eCL i a ψ fs) := by
 obtain ⟨R, k, ⟨fd, q, sp, F, ho, hb, hsp⟩, hr, hR⟩ := hF
 refine PE.imp (zjy F hr ho hb hN hv ha hdb hcd he hpl) λσ H Q h => ?_
 obtain ⟨σd, S, α, z, S', hv, hs, hf, kk⟩ := h
 unfold eCL at hf
 split at hf
 · rename_i b eb
   split at hf
   · rename_i hba
     subst hba
     simp only [Option.bind_eq_some_iff] at hf
     obtain ⟨⟨ds, S1⟩, e1, e2⟩ := hf
     obtain ⟨v, v1, v2⟩ := hv.2 i _ eb
     cases v2
     refine ⟨v1, σd, S, α, ds, S1, hv, hs, e1, λvs H1 α1 s1 x1 r1 ht => ?_⟩
     unfold nArgs at e2
     split at e2
     · rename_i hl
       exact hsp vs H1 Q (hR H1 ht) (by rw [← r1.length]; exact hl) ⟨S1, α1, ds, z, S', s1, r1, e2, kk.trans x1⟩
     · cases e2
   · cases hf
 · cases hf
end
def spH (K : PySem.W.Frag) (R : Hp → Prop) (a : Addr) (ψ : GN) (G : Addr → GN → GN) : Sp := λvs H Q _ => ∃ v1, vs = [v1, .ref a] ∧ R H ∧ ∃ S α d1 z S', StoreR K H α S ∧ Rep K H α d1 v1 ∧ G a ψ [d1, .adr a] S = some (z, S') ∧ Kt K H α z S' Q
def HofOk (P : Program) (w : World) (K : PySem.W.Frag) (mg : Str → Option Value) (base : Heap) (k : Nat) (f : Addr) (fd : FuncData) (ps : List Str) (G : Addr → GN → GN) : Prop :=
 ∀ (a : Addr) (R : Hp → Prop) (ψ : GN), (∀ H H', Tups H H' → R H → R H') → CloFn P w K mg base k a R ψ → FnOk P w K mg base CX0 (k + 1) f fd ps (spH K R a ψ G)
open Classical in
def allA (h : Addr → Option (D × So)) : Option (D × So) := if q : ∃ r, ∀ a, h a = some r then some q.choose else none
theorem ziW {h : Addr → Option (D × So)} {r : D × So} (e : allA h = some r) (a : Addr) : h a = some r := by
 unfold allA at e
 split at e
 · rename_i q
   cases e
   exact q.choose_spec a
 · cases e
theorem zl0 {h : Addr → Option (D × So)} {r : D × So} (e : ∀ a, h a = some r) : allA h = some r := by
 have q : ∃ r, ∀ a, h a = some r := ⟨r, e⟩
 unfold allA
 rw [dif_pos q]
 have h1 := q.choose_spec 0
 rw [e 0] at h1
 exact h1.symm
def capD : List Nat → Sg → Option (List D)
 | [], _ => some []
 | j :: r, σ => match σ[j]? with
   | some (some d) => (capD r σ).map λds => d :: ds
   | _ => none
def lamF (fb : EF) (cds : List D) : GN := λds S => match ds with
 | [d] => fb (some d :: cds.map some) S
 | _ => none
def eHof (fe : EF) (src : List Nat) (fb : EF) (G : Addr → GN → GN) : EF := λσ S => (fe σ S).bind λr => (capD src σ).bind λcds => if los 0 cds = true then allA λa => G a (lamF fb cds) [r.1, .adr a] r.2 else none
theorem zgW {K : PySem.W.Frag} {H : Hp} {α : List Addr} {σd : Sg} {σ : L2.St} (hv : VarsR K H α σd σ) : ∀ {src : List Nat} {cds : List D}, capD src σd = some cds → ∃ cvs : List V, Reps K H α cds cvs ∧ src.length = cvs.length ∧ ∀ (i j : Nat), src[i]? = some j → ∃ v, σ[j]? = some (some v) ∧ cvs[i]? = some v
 | [], cds, e => by cases e; exact ⟨[], .nil, rfl, λi j h => by simp at h⟩
 | j :: r, cds, e => by
   unfold capD at e
   split at e
   · rename_i d ed
     simp only [Option.map_eq_some_iff] at e
     obtain ⟨ds, e1, rfl⟩ := e
     obtain ⟨cvs, h1, h2, h3⟩ := zgW hv e1
     obtain ⟨v, k1, k2⟩ := hv.2 j d ed
     refine ⟨v :: cvs, .cons k2 h1, by simp [h2], λi j' hi => ?_⟩
     cases i with
     | zero => simp at hi; subst hi; exact ⟨v, k1, rfl⟩
     | succ i => simpa using h3 i j' (by simpa using hi)
   · cases e
structure LamAt (X : Cx) (P c : Addr) : Prop where
 fn : ∀ y, X.fn y = true
 tab : ∃ ps, X.H₀ P = some (.tbl ps)
 code : X.env.code = .ref c
 hd : CodeHd X.base c P
 bm : BM X.base X.mg
section
variable {X : Cx} {x : Str} {p pos lpos : Pos} {e : Expr} {fe fb : EF} {params : Arguments} {body : Expr} {scope : Scope} {q : Str} {cap : List Str} {src : List Nat} {G : Addr → GN → GN} {f : Addr} {fd : FuncData} {p1 p2 : Str} {k : Nat} {Pt ct : Addr}
theorem zmS (L : LamAt X Pt ct) (hsc : scope.kind = .function ∧ scope.isCoroutine = false ∧ scope.isGenerator = false ∧ scope.names.lookup q = some .local ∧ ∀ y ∈ scope.names, y.2 ≠ .cell)
   (hu : ∀ y ∈ scope.names, scope.names.lookup y.1 = some y.2)
   (hcap : ∀ y ∈ cap, (y, NameKind.free) ∈ scope.names) (hfree : ∀ y ∈ scope.names, y.2 = .free → X.env.kindOf y.1 = some .cell) (hsrc : ∀ (i : Nat) y, cap[i]? = some y → ∃ j, src[i]? = some j ∧ X.N[j]? = some y) (hlen : cap.length = src.length)
   (hdef : defaultsOf params X.env = ([], [])) (hbind : ∀ (pm cdv ctv : Value) (clos : List (Str × Addr)) (qual : Str) (u : Value), bindArgs (kla_fn "<lambda>" qual params body scope clos pm cdv ctv) ⟨[u], []⟩ = pure [(q, u)])
   (hbody : ∀ (base : Heap), Mod X.K X.mg base → (∀ b o, X.base.get? b = some o → base.get? b = some o) → ∀ (a : Addr) (cdv : Value) (clos : List (Str × Addr)) (qual : Str) (A : Around) (outer : List Env) (s : Shared) (H : Hp) (E : XK), Room k (A.deeper (envX qual scope s.heap.objs.size a cdv clos)) →
     SE (cxL X.prog X.w X.K X.mg base (q :: cap) qual scope a cdv clos A outer s H E).nox body fb)
   (hG : ∀ (base : Heap), Mod X.K X.mg base → (∀ b o, X.base.get? b = some o → base.get? b = some o) → HofOk X.prog X.w X.K X.mg base (k + 1) f fd [p1, p2] G)
   (hr : Room (k + 2) X.A) (hg : Gl X x) (hm : X.mg x = some (.ref f)) (hk : keepIn X.K (.ref f) = true) (hb : Binds X.K fd [p1, p2] []) (ha : SE X e fe) (hdb : (x == ("__debug__" : Str)) = false)
   (he : starEach [e, .Lambda params body scope lpos] X.env = (false, eval e X.env) :: starEach [.Lambda params body scope lpos] X.env) :
   SE X (.Call (.Name x p) [e, .Lambda params body scope lpos] [] pos) (eHof fe src fb G) := by
 have F : ∀ (base : Heap) (a : Addr) (cdv : Value) (cvs : List V) (clos : List (Str × Addr)), Mod X.K X.mg base → (∀ b o, X.base.get? b = some o → base.get? b = some o) → cap.length = cvs.length → Clo base X.env.qual params body scope clos cap cvs a cdv →
     FnOk X.prog X.w X.K X.mg base CX0 (k + 2) f fd [p1, p2] (λvs H Q E => ∃ cds, los 0 cds = true ∧ spH X.K (λH => Reps X.K H [] cds cvs ∧ ∃ ps, H Pt = some (.tbl ps) ∧ codeAmong lpos ps.toList = some cdv) a (lamF fb cds) G vs H Q E) := by
   intro base a cdv cvs clos M kb hl C
   refine ⟨λvs H Q E ⟨cds, _, v1, hvs, _⟩ => by rw [hvs]; rfl, λA outer s H args us vs Q E hr e0 hbn r ⟨cds, hlo, hsp⟩ => ?_⟩
   obtain ⟨pm, ctv, ho⟩ := C.obj
   have lam := znu (P := X.prog) (w := X.w) (K := X.K) (mg := X.mg) (k := k) (Pt := Pt) (lpos := lpos) (p := q) (cap := cap) (cvs := cvs) (cus := [])
     (sp := λvs H Q E => vs.length = 1 ∧ (Reps X.K H [] cds cvs ∧ ∃ ps, H Pt = some (.tbl ps) ∧ codeAmong lpos ps.toList = some cdv) ∧ rdC X.K (lamF fb cds) vs H Q)
     ho rfl (λvs H Q E h => h.2.1.2) ⟨hsc.1, hsc.2.1, hsc.2.2.1, hsc.2.2.2.1, hsc.2.2.2.2, λy hy => C.has y (PySem.mem_of_lookup hy), C.inj⟩ C.cells
     (λi y v h1 h2 => ⟨hu _ (C.cap i y v h1 h2).1, (C.cap i y v h1 h2).2⟩) hl (λvs H Q E h => h.1)
     (λqual A outer s H v Q E hr h => ⟨_, hbody base M kb a cdv clos qual A outer s H E hr, ?_⟩)
   · have clo : CloFn X.prog X.w X.K X.mg base (k + 1) a (λH => Reps X.K H [] cds cvs ∧ ∃ ps, H Pt = some (.tbl ps) ∧ codeAmong lpos ps.toList = some cdv) (lamF fb cds) :=
       ⟨_, q, _, lam, ho, λs u => .of_eq (hbind pm cdv ctv clos _ u), λvs H Q hR h1 h2 => ⟨h1, hR, h2⟩⟩
     refine (hG base M kb a _ _ (λH H' t hR => ⟨hR.1.mono t.ext, ?_⟩) clo).run A outer s H args us vs Q E hr e0 hbn r hsp
     obtain ⟨ps, h1, h2⟩ := hR.2
     obtain ⟨more, h3⟩ := t.tbls _ _ h1
     exact ⟨_, h3, by rw [Array.toList_append]; exact zhv _ _ h2⟩
   · obtain ⟨_, ⟨hrep, _⟩, S, α, ds, z, S', hs, hrs, hf, kk⟩ := h
     unfold lamF at hf
     split at hf
     · rename_i d
       cases hrs with
       | cons r1 r2 =>
         cases r2
         refine ⟨some d :: cds.map some, S, α, z, S', ⟨by simp [hrep.length], λi d' e' => ?_⟩, hs, hf, kk⟩
         cases i with
         | zero =>
           simp at e'; subst e'; exact ⟨v, rfl, r1⟩
         | succ i =>
           rw [List.getElem?_cons_succ, List.getElem?_map] at e'
           cases qd : cds[i]? with
           | none => rw [qd] at e'; cases e'
           | some d2 =>
             rw [qd] at e'; cases e'
             obtain ⟨v2, k1, k2⟩ := (hrep.nil_ext (α := α)).get qd
             exact ⟨v2, by rw [List.getElem?_cons_succ, List.getElem?_map, k1]; rfl, k2⟩
     · cases hf
 refine PE.imp (zhg hcap hfree L.fn L.tab L.code L.hd L.bm hdef F hr hg hm hk hb ha hdb he) λσ H Q h => ?_
 obtain ⟨σd, S, α, z, S', hv, hs, hf, kk⟩ := h
 unfold eHof at hf
 simp only [Option.bind_eq_some_iff] at hf
 obtain ⟨⟨d1, S1⟩, e1, cds, e2, e3⟩ := hf
 split at e3
 · rename_i hlo
   obtain ⟨cvs, c1, c2, c3⟩ := zgW hv e2
   refine ⟨σd, S, α, d1, S1, hv, hs, e1, λv1 H1 α1 s1 x1 r1 => ⟨cvs, by rw [hlen, c2], λi y hi => ?_, λa cdv H2 hst htab => ⟨cds, hlo, v1, rfl, ⟨?_, htab⟩, S1, α1, d1, z, S', hst.store s1, r1.mono hst.ext, ziW e3 a, kk.trans (x1.trans hst.ext)⟩⟩⟩
   · obtain ⟨j, k1, k2⟩ := hsrc i y hi
     obtain ⟨v, k3, k4⟩ := c3 i j k1
     exact ⟨j, v, k2, k3, k4⟩
   · have := (c1.mono (x1.trans hst.ext)).cut 0 hlo
     rwa [List.take_zero] at this
 · cases e3
end
end MX
end
section
set_option autoImplicit false
namespace MX
open PySem PySem.Spec PyProof.Rows L2
structure Ctx where
 N : List Str
 names : List (Str × NameKind)
 sts : List Str
 fns : List (Str × Nat × GN)
 blt : List Str
 lf : Option (Str × Addr × GN) := none
 hof : List (Str × Str × (Addr → GN → GN)) := []
def FnAt (P : Program) (w : World) (K : PySem.W.Frag) (mg : Str → Option Value) (base : Heap) (k : Nat) (x : Str) (n : Nat) (φ : GN) : Prop :=
 ∃ f fd ps, mg x = some (.ref f) ∧ PySem.W.keepIn K (.ref f) = true ∧ Binds K fd ps [] ∧ FnOk P w K mg base CX0 k f fd ps (spOf K n φ)
def oneArg (q : Str) (ap : Pos) : Arguments := { posonlyargs := [], args := [{ arg := q, annotation := none, pos := ap }], vararg := none, kwonlyargs := [], kw_defaults := [], kwarg := none, defaults := [] }
theorem zlz {q : Str} {ap : Pos} (env : Env) : defaultsOf (oneArg q ap) env = ([], []) := rfl
def HofRef (c : Ctx) (X : Cx) (x q : Str) (G : Addr → GN → GN) : Prop := ∃ f fd p1 p2 k Pt ct, LamAt X Pt ct ∧ X.mg x = some (.ref f) ∧ PySem.W.keepIn X.K (.ref f) = true ∧ Binds X.K fd [p1, p2] [] ∧ Room (k + 2) X.A ∧
 (∀ (ap : Pos) (body : Expr) (scope : Scope) (pm cdv ctv : Value) (clos : List (Str × Addr)) (qual : Str) (u : Value), bindArgs (PySem.W.kla_fn "<lambda>" qual (oneArg q ap) body scope clos pm cdv ctv) ⟨[u], []⟩ = pure [(q, u)]) ∧
 (∀ base : Heap, Mod X.K X.mg base → (∀ b o, X.base.get? b = some o → base.get? b = some o) → HofOk X.prog X.w X.K X.mg base (k + 1) f fd [p1, p2] G) ∧
 ∀ base : Heap, Mod X.K X.mg base → (∀ b o, X.base.get? b = some o → base.get? b = some o) → ∀ y n ψ, c.fns.lookup y = some (n, ψ) → FnAt X.prog X.w X.K X.mg base k y n ψ
structure CtxOk (c : Ctx) (X : Cx) : Prop where
 N : X.N = c.N
 nd : c.N.Nodup
 names : X.env.scope.names = c.names
 kind : X.env.scope.kind = .function
 st : ∀ x ∈ c.sts, Loc X.env.scope x ∧ (X.fn x = true ∨ X.env.scope.names.lookup x = some .local)
 fns : ∀ x k φ, c.fns.lookup x = some (k, φ) → FnRef X x k φ
 blt : ∀ x ∈ c.blt, X.mg x = none
 calm : X.calm = true
 un : X.A.units + 64 < cLine
 lf : ∀ x a ψ, c.lf = some (x, a, ψ) → LocFn X a ψ
 hof : ∀ x q G, c.hof.lookup x = some (q, G) → HofRef c X x q G
def slotOf : List Str → Str → Option Nat
 | [], _ => none
 | y :: r, x => if y = x then some 0 else (slotOf r x).map (· + 1)
theorem zaE : ∀ {N : List Str} {x : Str} {i : Nat}, slotOf N x = some i → N[i]? = some x
 | [], _, _, h => by cases h
 | y :: r, x, i, h => by
   unfold slotOf at h
   split at h
   · rename_i e; cases h; rw [e]; rfl
   · simp only [Option.map_eq_some_iff] at h
     obtain ⟨j, h1, rfl⟩ := h
     simpa using zaE h1
def notStar : Expr → Bool
 | .Starred _ _ => false
 | _ => true
theorem zaJ {e : Expr} (h : notStar e = true) (es : List Expr) (env : Env) : starEach (e :: es) env = (false, eval e env) :: starEach es env := by
 cases e with
 | Starred _ _ => cases h
 | _ => simp [starEach]
theorem zcZ {es : List Expr} (h : es.all notStar = true) (pos : Pos) (env : Env) : (backTo pos (starEach es env)).any (·.1) = false := by
 induction es with
 | nil => rfl
 | cons e r ih =>
   rw [List.all_cons, Bool.and_eq_true] at h
   rw [zaJ h.1]
   show (false || (backTo pos (starEach r env)).any (·.1)) = false
   rw [ih h.2]; rfl
theorem zi4 {es : List Expr} (h : es.all notStar = true) (pos : Pos) (env : Env) : (backTo pos (starEach es env)).all (λx => !x.1) = true := by
 induction es with
 | nil => rfl
 | cons e r ih =>
   rw [List.all_cons, Bool.and_eq_true] at h
   rw [zaJ h.1]
   show (!false && (backTo pos (starEach r env)).all (λx => !x.1)) = true
   rw [ih h.2]; rfl
def plainIx : Expr → Bool
 | .Slice _ _ _ _ => false
 | _ => true
theorem zhe {b : Expr} (h : plainIx b = true) : PlainIx b := by
 intro o i
 cases b with
 | Slice _ _ _ _ => cases h
 | _ => rfl
def plainT : Expr → Bool
 | .Name _ _ => true
 | .Call _ _ _ _ => true
 | .Subscript _ _ _ => true
 | .Constant _ _ _ => true
 | .BinOp _ _ _ _ => true
 | .List _ _ => true
 | .Tuple _ _ _ => true
 | .Attribute _ _ _ => true
 | .ListComp _ _ _ _ => true
 | _ => false
theorem zhT {a : Expr} (h : plainT a = true) (env : Env) (whole : Sem Value) : isTrue a env whole = (do let v ← whole; standAt a.pos; holding [v] (truthy v)) := by
 cases a with
 | Name _ _ => rfl
 | Call _ _ _ _ => rfl
 | Subscript _ _ _ => rfl
 | Constant _ _ _ => rfl
 | BinOp _ _ _ _ => rfl
 | List _ _ => rfl
 | Tuple _ _ _ => rfl
 | Attribute _ _ _ => rfl
 | ListComp _ _ _ _ => rfl
 | _ => cases h
def notSet : Expr → Bool
 | .Set _ _ _ => false
 | _ => true
theorem zfH {e : Expr} (h : notSet e = true) (env : Env) (x : Value) : foldedSetIterable e env x = pure x := by
 cases e with
 | Set _ _ _ => cases h
 | _ => rfl
def notComp : Expr → Bool
 | .ListComp _ _ _ _ => false
 | .SetComp _ _ _ _ => false
 | .DictComp _ _ _ _ _ => false
 | _ => true
theorem zbJ {e : Expr} (h : notComp e = true) (t : Option Expr) (l : Nat) (env : Env) : swapsWith e t l env = pure false := by
 cases e with
 | ListComp _ _ _ _ => cases h
 | SetComp _ _ _ _ => cases h
 | DictComp _ _ _ _ _ => cases h
 | _ => rfl
def notTup : Expr → Bool
 | .Tuple _ _ _ => false
 | _ => true
def isTup0 : Expr → Bool
 | .Tuple _ _ _ => true
 | .List _ _ => true
 | _ => false
theorem ze0 {t : Expr} (h : isTup0 t = false) (e : Expr) (env : Env) : swappedStores [t] e env = pure none := by
 cases t with
 | Tuple _ _ _ => cases h
 | List _ _ => cases h
 | _ => rfl
theorem zhj {e : Expr} (h : notTup e = true) (ts : List Expr) (k : Nat) (p : Pos) (env : Env) : swappedStores [.Tuple ts k p] e env = pure none := by
 cases e with
 | Tuple _ _ _ => cases h
 | _ => rfl
def btTy : List (Str × String) := [("int", "int"), ("bool", "bool"), ("str", "str"), ("tuple", "tuple"), ("list", "list")]
theorem ziT {x : Str} {T : String} (h : btTy.lookup x = some T) : bootBuiltins x = some (.type T) := by
 have hm := PySem.mem_of_lookup h
 unfold btTy at hm
 simp only [List.mem_cons, List.mem_nil_iff, or_false, Prod.mk.injEq] at hm
 rcases hm with ⟨rfl, rfl⟩ | ⟨rfl, rfl⟩ | ⟨rfl, rfl⟩ | ⟨rfl, rfl⟩ | ⟨rfl, rfl⟩ <;> decide +kernel
def oddName (x : Str) : Bool := (x == ("__debug__" : Str)) || (x == ("__classdict__" : Str)) || (x == ("__name__" : Str))
theorem odd1 {x : Str} (h : oddName x = false) : (x == ("__debug__" : Str)) = false := by
 unfold oddName at h; rw [Bool.or_eq_false_iff, Bool.or_eq_false_iff] at h; exact h.1.1
theorem odd2 {x : Str} (h : oddName x = false) : (x == ("__classdict__" : Str)) = false := by
 unfold oddName at h; rw [Bool.or_eq_false_iff, Bool.or_eq_false_iff] at h; exact h.1.2
theorem odd3 {x : Str} (h : oddName x = false) : x ≠ ("__name__" : Str) := by
 unfold oddName at h; rw [Bool.or_eq_false_iff] at h
 exact beq_eq_false_iff_ne.mp h.2
def nmE (c : Ctx) (x : Str) : Option EF := if oddName x = true then none else match c.names.lookup x with
 | some .local => (slotOf c.N x).map eVar
 | some .cell => (slotOf c.N x).map eVar
 | some .free => (slotOf c.N x).map eVar
 | some .globalImplicit => if x ∈ c.blt then (btTy.lookup x).map λT => eC (.ty T) else none
 | _ => none
def constE : Const → Option EF
 | .int i => some (eC (.int i))
 | .bool b => some (eC (.bl b))
 | .none => some (eC .non)
 | .str x => some (eC (.str x))
 | _ => none
section
variable {c : Ctx} {X : Cx}
theorem zg8 {x : Str} {f : EF} {pos : Pos} (ok : CtxOk c X) (h : nmE c x = some f) : SE X (.Name x pos) f := by
 unfold nmE at h
 split at h
 · cases h
 · rename_i ho
   have ho' : oddName x = false := by simpa using ho
   have loc : ∀ (v : Vis X.env.scope x), (slotOf c.N x).map eVar = some f → SE X (.Name x pos) f := λv e => by
     simp only [Option.map_eq_some_iff] at e
     obtain ⟨i, e1, rfl⟩ := e
     exact zmI (by rw [ok.N]; exact zaE e1) v (odd1 ho') (odd2 ho')
   split at h
   · rename_i e; exact loc (.inl (by rw [ok.names]; exact e)) h
   · rename_i e; exact loc (.inr (.inl (by rw [ok.names]; exact e))) h
   · rename_i e; exact loc (.inr (.inr (by rw [ok.names]; exact e))) h
   · rename_i e
     split at h
     · rename_i hb
       simp only [Option.map_eq_some_iff] at h
       obtain ⟨T, e1, rfl⟩ := h
       exact se_c (zlf (show X.env.scope.names.lookup x = _ by rw [ok.names]; exact e) (ok.blt x hb) (ziT e1) (v := .ty T) rfl (odd3 ho') (odd1 ho')) λ_ _ => .ty T
     · cases h
   · cases h
theorem zf6 {k : Const} {j : Nat} {f : EF} {pos : Pos} (h : constE k = some f) : SE X (.Constant k j pos) f := by
 cases k with
 | int i => cases h; exact zmR
 | bool b => cases h; exact zoe
 | none => cases h; exact zmM
 | str x => cases h; exact zmK
 | _ => cases h
end
def relN (cn names : List (Str × NameKind)) : List (Str × NameKind) := names.map λ(n, k) => if (k == NameKind.free && true && cn.lookup n == some .cell) then (n, NameKind.cell) else (n, k)
def ownOf (names : List (Str × NameKind)) : List Str := (names.filter λy => (y.2 == .local || y.2 == .cell) && y.1 != (".0" : Str)).map (·.1)
def freeOf (c : Ctx) (names : List (Str × NameKind)) : List (Str × Nat) := names.filterMap λy => if y.2 == NameKind.free then (slotOf c.N y.1).map λi => (y.1, i) else none
def compN (c : Ctx) (names : List (Str × NameKind)) : List Str := ownOf names ++ (freeOf c names).map (·.1)
def compSrc (c : Ctx) (names : List (Str × NameKind)) : List (Option Nat) := (ownOf names).map (λ_ => none) ++ (freeOf c names).map λp => some p.2
def compC (c : Ctx) (names : List (Str × NameKind)) : Ctx := { N := compN c names, names := relN c.names names, sts := ownOf names, fns := c.fns, blt := c.blt }
def compB (c : Ctx) (scope : Scope) : Bool := decide (scope.kind = .function) && scope.names.all (λy => decide (scope.names.lookup y.1 = some y.2)) &&
 scope.names.all (λy => decide (y.2 = .free → (c.names.lookup y.1 = some .cell ∨ c.names.lookup y.1 = some .free))) && decide (compN c scope.names).Nodup
section
variable {c : Ctx} {X : Cx} {scope : Scope}
theorem zjK {names : List (Str × NameKind)} {p : Str × Nat} (h : p ∈ freeOf c names) : (p.1, NameKind.free) ∈ names ∧ slotOf c.N p.1 = some p.2 := by
 unfold freeOf at h
 obtain ⟨y, hy, e⟩ := List.mem_filterMap.mp h
 split at e
 · rename_i hk
   simp only [Option.map_eq_some_iff] at e
   obtain ⟨i, e1, rfl⟩ := e
   have : y.2 = NameKind.free := by simpa using hk
   refine ⟨?_, e1⟩
   rw [← this]; exact hy
 · cases e
theorem zlh {names : List (Str × NameKind)} {x : Str} (h : x ∈ ownOf names) : (x, NameKind.local) ∈ names ∨ (x, NameKind.cell) ∈ names := by
 unfold ownOf at h
 obtain ⟨y, hy, rfl⟩ := List.mem_map.mp h
 obtain ⟨h1, h2⟩ := List.mem_filter.mp hy
 rw [Bool.and_eq_true, Bool.or_eq_true] at h2
 obtain ⟨y1, y2⟩ := y
 rcases h2.1 with q | q
 · have : y2 = NameKind.local := by simpa using q
   subst this; exact .inl h1
 · have : y2 = NameKind.cell := by simpa using q
   subst this; exact .inr h1
theorem zl3 (ok : CtxOk c X) (h : compB c scope = true) : CompOk X scope (compN c scope.names) (compSrc c scope.names) := by
 unfold compB at h
 rw [Bool.and_eq_true, Bool.and_eq_true, Bool.and_eq_true] at h
 obtain ⟨⟨⟨h1, h2⟩, h3⟩, h4⟩ := h
 rw [List.all_eq_true] at h2 h3
 have u : ∀ y ∈ scope.names, scope.names.lookup y.1 = some y.2 := λy hy => of_decide_eq_true (h2 y hy)
 refine ⟨of_decide_eq_true h1, u, λy hy e => ?_, by simp [compSrc, compN], λj i x e1 e2 => ?_⟩
 · have := of_decide_eq_true (h3 y hy) e
   show X.env.scope.names.lookup y.1 = _ ∨ X.env.scope.names.lookup y.1 = _
   rw [ok.names]; exact this
 · unfold compN at e1
   unfold compSrc at e2
   have hj : (ownOf scope.names).length ≤ j := by
     refine Nat.le_of_not_lt λhlt => ?_
     rw [List.getElem?_append_left (by simpa using hlt), List.getElem?_map] at e2
     cases q : (ownOf scope.names)[j]? with
     | none => rw [q] at e2; cases e2
     | some z => rw [q] at e2; cases e2
   rw [List.getElem?_append_right (by simpa using hj), List.getElem?_map, List.length_map] at e2
   rw [List.getElem?_append_right hj, List.getElem?_map] at e1
   cases q : (freeOf c scope.names)[j - (ownOf scope.names).length]? with
   | none => rw [q] at e2; cases e2
   | some p =>
     rw [q] at e1 e2
     simp only [Option.map_some, Option.some.injEq] at e1 e2
     obtain ⟨m1, m2⟩ := zjK (List.mem_of_getElem? q)
     subst e1 e2
     exact ⟨by rw [ok.N]; exact zaE m2, u _ m1⟩
theorem zj2 (ok : CtxOk c X) (h : compB c scope = true) {Y : Cx} (hy : IsComp X scope (compN c scope.names) Y) : CtxOk (compC c scope.names) Y := by
 have h0 := h
 unfold compB at h
 rw [Bool.and_eq_true, Bool.and_eq_true, Bool.and_eq_true] at h
 obtain ⟨⟨⟨h1, h2⟩, h3⟩, h4⟩ := h
 rw [List.all_eq_true] at h2
 have u : ∀ y ∈ scope.names, scope.names.lookup y.1 = some y.2 := λy hy => of_decide_eq_true (h2 y hy)
 have hn : Y.env.scope.names = relN c.names scope.names := by
   rw [hy.sc]
   show List.map _ scope.names = List.map _ scope.names
   refine List.map_congr_left λy _ => ?_
   obtain ⟨n, k⟩ := y
   have e1 : (X.env.scope.kind == .function) = true := by rw [ok.kind]; rfl
   have e2 : X.env.kindOf n = c.names.lookup n := by show X.env.scope.names.lookup n = _; rw [ok.names]
   simp only [e1, e2]
 refine ⟨hy.N, of_decide_eq_true h4, hn, by rw [hy.sc]; exact of_decide_eq_true h1, λx hx => ?_, λx k φ e => ?_, λx hx => by rw [hy.mg]; exact ok.blt x hx, hy.calm.trans ok.calm, by rw [hy.A]; exact ok.un, λ_ _ _ h => (nomatch h), λ_ _ _ h => (nomatch h)⟩
 · have lk : ∀ k, k ≠ .free → scope.names.lookup x = some k → Y.env.scope.names.lookup x = some k := λk hk e => by
     rw [hy.sc]
     show (List.map _ scope.names).lookup x = _
     rw [show (List.map _ scope.names).lookup x = _ from zb3, e]
     have hb : (k == NameKind.free) = false := by simpa using hk
     show some (if (k == NameKind.free && _ && _) = true then NameKind.cell else k) = some k
     rw [hb]
     rfl
   rcases zlh hx with m | m
   · have e := u _ m
     exact ⟨.inl (lk _ (by decide) e), .inr (lk _ (by decide) e)⟩
   · have e := u _ m
     exact ⟨.inr (lk _ (by decide) e), .inl (hy.fn x e)⟩
 · obtain ⟨f, fd, ps, kk, m1, m2, m3, m4, m5⟩ := ok.fns x k φ e
   refine ⟨f, fd, ps, kk, by rw [hy.mg]; exact m1, by rw [hy.K]; exact m2, by rw [hy.K]; exact m3, ?_, by rw [hy.A]; exact m5⟩
   rw [hy.prog, hy.w, hy.K, hy.mg, hy.base]
   exact m4
end
def targ1 (c : Ctx) : Expr → Option GF
 | .Name x _ => if x ∈ c.sts then (slotOf c.N x).map gNm else none
 | _ => none
def targs (c : Ctx) : List Expr → Option GFs
 | [] => some gsNil
 | e :: r => (targ1 c e).bind λf => (targs c r).map λfr => gsCons f fr
def targE (c : Ctx) : Expr → Option GF
 | .Name x p => targ1 c (.Name x p)
 | .Tuple es _ _ => (targs c es).map λfr => gTp es.length fr
 | _ => none
section
variable {c : Ctx} {X : Cx}
theorem zed (ok : CtxOk c X) {e : Expr} {f : GF} (h : targ1 c e = some f) : SG X e f := by
 cases e with
 | Name x p =>
   simp only [targ1] at h
   split at h
   · rename_i hx
     simp only [Option.map_eq_some_iff] at h
     obtain ⟨i, e1, rfl⟩ := h
     obtain ⟨h1, h2⟩ := ok.st x hx
     exact zkR (by rw [ok.N]; exact ok.nd) (by rw [ok.N]; exact zaE e1) h1 h2
   · cases h
 | _ => cases h
theorem zec (ok : CtxOk c X) : ∀ {es : List Expr} {f : GFs}, targs c es = some f → SGs X es f ∧ (assignEach es X.env).length = es.length ∧ (assignEach es X.env).findIdx? (·.1) = none
 | [], f, h => by cases h; exact ⟨zkQ, rfl, rfl⟩
 | e :: r, f, h => by
   unfold targs at h
   simp only [Option.bind_eq_some_iff, Option.map_eq_some_iff] at h
   obtain ⟨f1, e1, fr, e2, rfl⟩ := h
   obtain ⟨i1, i2, i3⟩ := zec ok e2
   have ea : assignEach (e :: r) X.env = (false, assign e X.env) :: assignEach r X.env := by
     cases e with
     | Name x p => rfl
     | _ => cases e1
   refine ⟨zjf (zed ok e1) i1 (by rw [ea]; rfl), by rw [ea, List.length_cons, List.length_cons, i2], ?_⟩
   rw [ea, List.findIdx?_cons, i3]
   rfl
theorem zcj (ok : CtxOk c X) {e : Expr} {f : GF} (h : targE c e = some f) : SG X e f := by
 cases e with
 | Name x p => exact zed ok h
 | Tuple es k p =>
   unfold targE at h
   simp only [Option.map_eq_some_iff] at h
   obtain ⟨fr, e1, rfl⟩ := h
   obtain ⟨i1, i2, i3⟩ := zec ok e1
   exact zmF ok.calm i1 i2 i3
 | _ => cases h
end
def eNever : EF := λ_ _ => none
theorem zji {X : Cx} {e : Expr} : SE X e eNever := λ_ _ _ _ _ _ h => by
 obtain ⟨_, _, _, _, _, _, _, hf, _⟩ := h
 cases hf
section
variable (rE : Ctx → Expr → Option EF) (rT : Ctx → Expr → Option TF)
def argE (c : Ctx) : List Expr → Option AF
 | [] => some aNil
 | e :: r => if notStar e = true then (rE c e).bind λf => (argE c r).map λfr => aCons f fr else none
def boolE (c : Ctx) (op : BoolOp) : List Expr → Option EF
 | [] => none
 | [a] => rE c a
 | a :: b :: r => (rE c a).bind λf => (boolE c op (b :: r)).map λg => match op with
   | .And => eAnd f g
   | .Or => eOr f g
def boolT (c : Ctx) (op : BoolOp) : List Expr → Option TF
 | [] => none
 | [a] => rT c a
 | a :: b :: r => (rT c a).bind λf => (boolT c op (b :: r)).map λg => match op with
   | .And => tAndF f g
   | .Or => tOrF f g
def partE (c : Ctx) : Option Expr → Option PF
 | none => some pNone
 | some e => (rE c e).map pSome
def bltF : List (Str × String × GN) := [("len", "len", gLen), ("abs", "abs", gAbs), ("min", "min", gMin'), ("max", "max", gMax'), ("isinstance", "isinstance", gIsi), ("all", "all", gAll)]
def bltT : List (Str × String × GN) := [("tuple", "tuple", gTuple), ("list", "list", gList)]
def lfOf (c : Ctx) (x : Str) : Option (Addr × GN) := match c.lf with
 | none => none
 | some (y, a, ψ) => if y = x then some (a, ψ) else none
def lamOf (es : List Expr) : Option (Expr × Arguments × Expr × Scope × Pos) := match es with
 | [] => none
 | e :: r => match r with
   | [] => none
   | l :: r2 => match r2 with
     | _ :: _ => none
     | [] => match l with
       | .Lambda params body scope pos => some (e, params, body, scope, pos)
       | _ => none
def oneOf (params : Arguments) : Option (Str × Pos) := match params.args with
 | [] => none
 | a :: r => match r with
   | _ :: _ => none
   | [] => if params.posonlyargs.isEmpty = true ∧ params.vararg.isNone = true ∧ params.kwonlyargs.isEmpty = true ∧ params.kw_defaults.isEmpty = true ∧ params.kwarg.isNone = true ∧ params.defaults.isEmpty = true ∧ a.annotation.isNone = true then some (a.arg, a.pos) else none
def capOf (names : List (Str × NameKind)) : List Str := (names.filter λy => y.2 == NameKind.free).map (·.1)
def srcL (c : Ctx) : List Str → Option (List Nat)
 | [] => some []
 | y :: r => (slotOf c.N y).bind λi => (srcL c r).map λl => i :: l
def lamB (c : Ctx) (q : Str) (scope : Scope) : Bool := decide (scope.kind = .function) && !scope.isCoroutine && !scope.isGenerator && decide (scope.names.lookup q = some .local) && scope.names.all (λy => decide (y.2 ≠ .cell)) &&
 scope.names.all (λy => decide (scope.names.lookup y.1 = some y.2)) && scope.names.all (λy => decide (y.2 = .free → c.names.lookup y.1 = some .cell)) && decide (q :: capOf scope.names).Nodup
def lamC (c : Ctx) (q : Str) (names : List (Str × NameKind)) : Ctx := { N := q :: capOf names, names := names, sts := [], fns := c.fns, blt := c.blt }
def hofE (c : Ctx) (x q : Str) (G : Addr → GN → GN) (es : List Expr) : Option EF := match lamOf es with
 | none => none
 | some (e, params, body, scope, _) => match oneOf params with
   | none => none
   | some (q', _) => if q' = q ∧ c.names.lookup x = some .globalImplicit ∧ notStar e = true ∧ lamB c q scope = true then
       (rE c e).bind λfe => (srcL c (capOf scope.names)).bind λsrc => (rE (lamC c q scope.names) body).map λfb => eHof fe src fb G
     else none
def callG (c : Ctx) (x : Str) (es : List Expr) : Option EF := if oddName x = true then none else
 if c.names.lookup x = some .globalImplicit ∧ es.all notStar = true ∧ es ≠ [] then
   match c.fns.lookup x with
   | some (k, φ) => (argE rE c es).map λfa => eN (nArgs k φ) fa
   | none => if x ∈ c.blt then match bltF.lookup x with
     | some (_, g) => (argE rE c es).map λfa => eN g fa
     | none => match bltT.lookup x with
       | some (_, g) => (argE rE c es).map λfa => eN g fa
       | none => none
     else some eNever
 else none
def callE (c : Ctx) (x : Str) (es : List Expr) : Option EF := match lfOf c x with
 | some (a, ψ) => if oddName x = false ∧ c.names.lookup x = some .local ∧ es.all notStar = true ∧ es ≠ [] then (argE rE c es).bind λfa => (slotOf c.N x).map λi => eCL i a ψ fa else none
 | none => match c.hof.lookup x with
   | some (q, G) => if oddName x = false then hofE rE c x q G es else none
   | none => callG rE c x es
def isTup : Expr → Bool
 | .Tuple _ _ _ => true
 | _ => false
def iterE (c : Ctx) (tg : Expr) : Expr → Option IF
 | .Call (.Name x p) es [] pos => if x = "zip" ∧ c.names.lookup x = some .globalImplicit ∧ x ∈ c.blt ∧ es.all notStar = true ∧ es ≠ [] ∧ isTup tg = true then (argE rE c es).map iZip else if x = "range" ∧ c.names.lookup x = some .globalImplicit ∧ x ∈ c.blt ∧ es.all notStar = true then
     match es with
     | [_] => (argE rE c es).map iRg1
     | [_, _] => (argE rE c es).map iRg2
     | _ => none
   else (rE c (.Call (.Name x p) es [] pos)).map iVal
 | e => (rE c e).map iVal
def ifsT (c : Ctx) : List Expr → Option TF
 | [] => some tTru
 | [t] => rT c t
 | _ => none
def compE (c : Ctx) (elt : Expr) (g : Comprehension) (scope : Scope) : Option EF :=
 if g.is_async = 0 ∧ compB c scope = true ∧ notSet g.iter = true then
   (iterE rE c g.target g.iter).bind λfi => (targE (compC c scope.names) g.target).bind λfg => (ifsT rT (compC c scope.names) g.ifs).bind λft => (rE (compC c scope.names) elt).map λfe => eLc fi fg ft fe (compSrc c scope.names)
 else none
def methF : List (Str × String × GM) := [("append", "list.append", gAppend)]
theorem zjC {X : Cx} {m : Str} {p : String × GM} (h : methF.lookup m = some p) : Slot "list" m p.1 ∧ typeOf (.builtin p.1) = pure (.type "method_descriptor") ∧ MtR X p.1 (rdM X.K p.2) := by
 have hm := PySem.mem_of_lookup h
 unfold methF at hm
 simp only [List.mem_cons, List.mem_nil_iff, or_false, Prod.mk.injEq] at hm
 rcases hm with ⟨rfl, rfl⟩
 · exact ⟨PySem.F.slot_list_append, PySem.F.type_list_append, zh6⟩
def methE (c : Ctx) (o : Expr) (m : Str) (apos : Pos) (es : List Expr) (cpos : Pos) : Option EF :=
 if es.all notStar = true ∧ es.length < 20 ∧ (apos.endLine == cpos.line) = true then
   match o with
   | .Name x p => match methF.lookup m with
     | some (_, g) => match es with
       | [] => (rE c (.Name x p)).map λfo => eM0 g fo
       | e :: r => (rE c (.Name x p)).bind λfo => (argE rE c (e :: r)).map λfa => eM g fo fa
     | none => none
   | _ => none
 else none
def unE (c : Ctx) (op : UnaryOp) (a : Expr) : Option EF := match op with
 | .USub => (rE c a).map (eU gNeg)
 | .Not => (rE c a).map eNot
 | _ => none
def cmpE (c : Ctx) (a : Expr) (ops : List CmpOp) (bs : List Expr) : Option EF := match ops with
 | [] => none
 | op :: r => match r with
   | _ :: _ => none
   | [] => match bs with
     | [] => none
     | b :: q => match q with
       | _ :: _ => none
       | [] => if op ≠ .In ∧ op ≠ .NotIn then (rE c a).bind λfa => (rE c b).map λfb => eB (gCmp op) fa fb else none
def slcE (c : Ctx) (a : Expr) (lo hi st : Option Expr) : Option EF := match st with
 | none => (rE c a).bind λfa => (partE rE c lo).bind λfl => (partE rE c hi).map λfh => eSl fa fl fh
 | some _ => none
def sbxE (c : Ctx) (a b : Expr) : Option EF := match b with
 | .Slice lo hi st _ => slcE rE c a lo hi st
 | _ => none
def subE (c : Ctx) (a b : Expr) : Option EF := if plainIx b = true then (rE c a).bind λfa => (rE c b).map λfb => eB gIx fa fb else sbxE rE c a b
def calE (c : Ctx) (f : Expr) (es : List Expr) (ks : List Keyword) (pos : Pos) : Option EF := match ks with
 | [] => match f with
   | .Name x _ => callE rE c x es
   | .Attribute o m apos => methE rE c o m apos es pos
   | _ => none
 | _ :: _ => none
def lcE (c : Ctx) (elt : Expr) (gs : List Comprehension) (scope : Scope) : Option EF := match gs with
 | [] => none
 | g :: r => match r with
   | [] => compE rE rT c elt g scope
   | _ :: _ => none
def stepE (c : Ctx) (e : Expr) : Option EF := match e with
 | .Name x _ => nmE c x
 | .Constant k _ _ => constE k
 | .BinOp a op b _ => (rE c a).bind λfa => (rE c b).map λfb => eB (gBin op) fa fb
 | .UnaryOp op a _ => unE rE c op a
 | .BoolOp op es _ => boolE rE c op es
 | .Compare a ops bs _ => cmpE rE c a ops bs
 | .Tuple es _ _ => (argE rE c es).map (eN gTup)
 | .List es _ => (argE rE c es).map (eN gLst)
 | .Subscript a b _ => subE rE c a b
 | .IfExp t a b _ => (rT c t).bind λft => (rE c a).bind λfa => (rE c b).map λfb => eIf ft fa fb
 | .Call f es ks pos => calE rE c f es ks pos
 | .ListComp elt gs scope _ => lcE rE rT c elt gs scope
 | _ => none
def stepT (c : Ctx) : Expr → Option TF
 | .UnaryOp .Not a _ => (rT c a).map tNotF
 | .BoolOp op es _ => boolT rT c op es
 | .Compare a [op] [b] _ => if op ≠ .In ∧ op ≠ .NotIn then (rE c a).bind λfa => (rE c b).map λfb => tBl (eB (gCmp op) fa fb) else none
 | e => if plainT e = true then (rE c e).map tVal else none
end
mutual
def cE : Nat → Ctx → Expr → Option EF
 | 0, _, _ => none
 | n + 1, c, e => stepE (cE n) (cT n) c e
def cT : Nat → Ctx → Expr → Option TF
 | 0, _, _ => none
 | n + 1, c, e => stepT (cE n) (cT n) c e
end
def OkE (rE : Ctx → Expr → Option EF) : Prop := ∀ c X e f, CtxOk c X → rE c e = some f → SE X e f
def OkT (rT : Ctx → Expr → Option TF) : Prop := ∀ c X e f, CtxOk c X → rT c e = some f → ST X e f
section
variable {rE : Ctx → Expr → Option EF} {rT : Ctx → Expr → Option TF} {c : Ctx} {X : Cx}
theorem zaI (hE : OkE rE) (ok : CtxOk c X) : ∀ {es : List Expr} {f : AF}, argE rE c es = some f → SA X es f ∧ es.all notStar = true
 | [], f, h => by cases h; exact ⟨zmV, rfl⟩
 | e :: r, f, h => by
   unfold argE at h
   split at h
   · rename_i hn
     simp only [Option.bind_eq_some_iff, Option.map_eq_some_iff] at h
     obtain ⟨f1, e1, fr, e2, rfl⟩ := h
     obtain ⟨i1, i2⟩ := zaI hE ok e2
     exact ⟨zkX (hE c X e f1 ok e1) i1 (zaJ hn r X.env), by rw [List.all_cons, hn, i2]; rfl⟩
   · cases h
theorem zeT (hE : OkE rE) (ok : CtxOk c X) {op : BoolOp} {pos : Pos} : ∀ {es : List Expr} {f : EF}, boolE rE c op es = some f → SE X (.BoolOp op es pos) f
 | [], f, h => by cases h
 | [a], f, h => zjm (hE c X a f ok h)
 | a :: b :: r, f, h => by
   unfold boolE at h
   simp only [Option.bind_eq_some_iff, Option.map_eq_some_iff] at h
   obtain ⟨f1, e1, fr, e2, rfl⟩ := h
   have i := zeT hE ok (pos := pos) e2
   cases op with
   | And => exact zmU (hE c X a f1 ok e1) i
   | Or => exact zn9 (hE c X a f1 ok e1) i
theorem zee (hT : OkT rT) (ok : CtxOk c X) {op : BoolOp} {pos : Pos} : ∀ {es : List Expr} {f : TF}, boolT rT c op es = some f → SW X (.BoolOp op es pos) f
 | [], f, h => by cases h
 | [a], f, h => by
   cases op with
   | And => exact zkC (hT c X a f ok h)
   | Or => exact zmq (hT c X a f ok h)
 | a :: b :: r, f, h => by
   unfold boolT at h
   simp only [Option.bind_eq_some_iff, Option.map_eq_some_iff] at h
   obtain ⟨f1, e1, fr, e2, rfl⟩ := h
   have i := zee hT ok (pos := pos) e2
   cases op with
   | And => exact zmr (hT c X a f1 ok e1) i
   | Or => exact zn6 (hT c X a f1 ok e1) i
theorem zeQ (hE : OkE rE) (ok : CtxOk c X) {e : Option Expr} {f : PF} (h : partE rE c e = some f) : SPt X e f := by
 cases e with
 | none => cases h; exact zkN
 | some e =>
   unfold partE at h
   simp only [Option.map_eq_some_iff] at h
   obtain ⟨f1, e1, rfl⟩ := h
   exact zkL (hE c X e f1 ok e1)
theorem ziV {x : Str} {p : String × GN} (h : bltF.lookup x = some p) (hc : X.calm = true) : bootBuiltins x = some (.builtin p.1) ∧ CallR X (.builtin p.1) (rdC X.K p.2) := by
 have hm := PySem.mem_of_lookup h
 unfold bltF at hm
 simp only [List.mem_cons, List.mem_nil_iff, or_false, Prod.mk.injEq] at hm
 rcases hm with ⟨rfl, rfl⟩ | ⟨rfl, rfl⟩ | ⟨rfl, rfl⟩ | ⟨rfl, rfl⟩ | ⟨rfl, rfl⟩ | ⟨rfl, rfl⟩
 · exact ⟨by decide +kernel, znZ⟩
 · exact ⟨by decide +kernel, zn2⟩
 · exact ⟨by decide +kernel, zl9 hc⟩
 · exact ⟨by decide +kernel, zma hc⟩
 · exact ⟨by decide +kernel, zn0⟩
 · exact ⟨by decide +kernel, zn1 hc⟩
theorem ziU {x : Str} {p : String × GN} (h : bltT.lookup x = some p) : bootBuiltins x = some (.type p.1) ∧ CallR X (.type p.1) (rdC X.K p.2) := by
 have hm := PySem.mem_of_lookup h
 unfold bltT at hm
 simp only [List.mem_cons, List.mem_nil_iff, or_false, Prod.mk.injEq] at hm
 rcases hm with ⟨rfl, rfl⟩ | ⟨rfl, rfl⟩
 · exact ⟨by decide +kernel, zj6⟩
 · exact ⟨by decide +kernel, zl7⟩
theorem zf7 (hE : OkE rE) (ok : CtxOk c X) {x : Str} {es : List Expr} {f : EF} {p pos : Pos} (h : callG rE c x es = some f) : SE X (.Call (.Name x p) es [] pos) f := by
 unfold callG at h
 split at h
 · cases h
 · rename_i ho
   have ho' : oddName x = false := by simpa using ho
   split at h
   · rename_i hc
     obtain ⟨h1, h2, h3⟩ := hc
     have hg : Gl X x := by show X.env.scope.names.lookup x = _; rw [ok.names]; exact h1
     cases es with
     | nil => exact absurd rfl h3
     | cons e r =>
       rw [List.all_cons, Bool.and_eq_true] at h2
       split at h
       · rename_i k φ e1
         simp only [Option.map_eq_some_iff] at h
         obtain ⟨fa, e2, rfl⟩ := h
         exact zkW hg (ok.fns x k φ e1) (zaI hE ok e2).1 (odd1 ho') (zaJ h2.1 r X.env) (zcZ h2.2 pos X.env)
       · split at h
         · rename_i hb
           split at h
           · rename_i q g e1
             simp only [Option.map_eq_some_iff] at h
             obtain ⟨fa, e2, rfl⟩ := h
             obtain ⟨b1, b2⟩ := ziV e1 ok.calm
             exact zjl b2 hg (ok.blt x hb) b1 (zaI hE ok e2).1 (odd3 ho') (odd1 ho') (zaJ h2.1 r X.env) (zcZ h2.2 pos X.env)
           · split at h
             · rename_i q g e1
               simp only [Option.map_eq_some_iff] at h
               obtain ⟨fa, e2, rfl⟩ := h
               obtain ⟨b1, b2⟩ := ziU (X := X) e1
               exact zjj b2 hg (ok.blt x hb) b1 (zaI hE ok e2).1 (odd3 ho') (odd1 ho') (zaJ h2.1 r X.env) (zcZ h2.2 pos X.env)
             · cases h
         · cases h; exact zji
   · cases h
theorem zho {es : List Expr} {e : Expr} {params : Arguments} {body : Expr} {scope : Scope} {lpos : Pos} (h : lamOf es = some (e, params, body, scope, lpos)) : es = [e, .Lambda params body scope lpos] := by
 unfold lamOf at h
 split at h
 · cases h
 · split at h
   · cases h
   · split at h
     · cases h
     · split at h
       · cases h; rfl
       · cases h
theorem zhi {params : Arguments} {q : Str} {ap : Pos} (h : oneOf params = some (q, ap)) : params = oneArg q ap := by
 obtain ⟨a1, a2, a3, a4, a5, a6, a7⟩ := params
 unfold oneOf at h
 simp only at h
 split at h
 · cases h
 · rename_i a r
   split at h
   · cases h
   · split at h
     · rename_i hc
       obtain ⟨h1, h2, h3, h4, h5, h6, h7⟩ := hc
       cases h
       obtain ⟨b1, b2, b3⟩ := a
       simp only [List.isEmpty_iff, Option.isNone_iff_eq_none] at h1 h2 h3 h4 h5 h6 h7
       subst h1 h2 h3 h4 h5 h6 h7
       rfl
     · cases h
theorem zhE {c : Ctx} : ∀ {cap : List Str} {src : List Nat}, srcL c cap = some src → cap.length = src.length ∧ ∀ (i : Nat) y, cap[i]? = some y → ∃ j, src[i]? = some j ∧ c.N[j]? = some y
 | [], src, h => by cases h; exact ⟨rfl, λi y e => by simp at e⟩
 | y :: r, src, h => by
   unfold srcL at h
   simp only [Option.bind_eq_some_iff, Option.map_eq_some_iff] at h
   obtain ⟨i0, e0, l, e1, rfl⟩ := h
   obtain ⟨h1, h2⟩ := zhE e1
   refine ⟨by simp [h1], λi z e => ?_⟩
   cases i with
   | zero => simp at e; subst e; exact ⟨i0, rfl, zaE e0⟩
   | succ i => simpa using h2 i z (by simpa using e)
theorem zl6 {names : List (Str × NameKind)} {y : Str} (h : y ∈ capOf names) : (y, NameKind.free) ∈ names := by
 unfold capOf at h
 obtain ⟨z, hz, rfl⟩ := List.mem_map.mp h
 obtain ⟨h1, h2⟩ := List.mem_filter.mp hz
 obtain ⟨z1, z2⟩ := z
 have : z2 = NameKind.free := by simpa using h2
 subst this; exact h1
theorem zhJ (hE : OkE rE) (ok : CtxOk c X) {x q : Str} {G : Addr → GN → GN} {es : List Expr} {f : EF} {p pos : Pos} (ho : oddName x = false) (hl : c.hof.lookup x = some (q, G)) (h : hofE rE c x q G es = some f) : SE X (.Call (.Name x p) es [] pos) f := by
 unfold hofE at h
 split at h
 · cases h
 · rename_i e params body scope lpos el
   have el := zho el
   split at h
   · cases h
   · rename_i q' ap eo
     have eo := zhi eo
     split at h
     · rename_i hc
       obtain ⟨rfl, h1, h2, h3⟩ := hc
       simp only [Option.bind_eq_some_iff, Option.map_eq_some_iff] at h
       obtain ⟨fe, e1, src, e2, fb, e3, rfl⟩ := h
       subst el eo
       unfold lamB at h3
       simp only [Bool.and_eq_true, decide_eq_true_eq, Bool.not_eq_true', List.all_eq_true] at h3
       obtain ⟨⟨⟨⟨⟨⟨⟨k1, k2⟩, k3⟩, k4⟩, k5⟩, k6⟩, k7⟩, k8⟩ := h3
       obtain ⟨g, fd, p1, p2, k, Pt, ct, L, hm, hk, hb, hr, hbind, hG, hF⟩ := ok.hof x q' G hl
       obtain ⟨s1, s2⟩ := zhE e2
       refine zmS (q := q') (cap := capOf scope.names) (k := k) L ⟨k1, k2, k3, k4, k5⟩ k6 (λy hy => zl6 hy) (λy hy hf => ?_) (λi y hi => ?_) s1 (zlz _) (λpm cdv ctv clos qual u => hbind ap body scope pm cdv ctv clos qual u) (λbase M kb a cdv clos qual A outer s H E hrm => ?_) hG hr ?_ hm hk hb (hE c X e fe ok e1) (odd1 ho) (zaJ h2 _ X.env)
       · show X.env.scope.names.lookup y.1 = _
         rw [ok.names]; exact k7 y hy hf
       · obtain ⟨j, j1, j2⟩ := s2 i y hi
         exact ⟨j, j1, by rw [ok.N]; exact j2⟩
       · refine hE (lamC c q' scope.names) _ body fb ⟨rfl, k8, rfl, k1, λy hy => (nomatch hy), λy n ψ hl => ?_, ok.blt, rfl, hrm.units, λ_ _ _ h => (nomatch h), λ_ _ _ h => (nomatch h)⟩ e3
         obtain ⟨f', fd', ps', m1, m2, m3, m4⟩ := hF base M kb y n ψ hl
         exact ⟨f', fd', ps', k, m1, m2, m3, m4, hrm⟩
       · show X.env.scope.names.lookup x = _
         rw [ok.names]; exact h1
     · cases h
theorem zha (hE : OkE rE) (ok : CtxOk c X) {x : Str} {es : List Expr} {f : EF} {p pos : Pos} (h : callE rE c x es = some f) : SE X (.Call (.Name x p) es [] pos) f := by
 unfold callE at h
 split at h
 · rename_i a ψ el
   split at h
   · rename_i hc
     obtain ⟨h0, h1, h2, h3⟩ := hc
     simp only [Option.bind_eq_some_iff, Option.map_eq_some_iff] at h
     obtain ⟨fa, e1, i, e2, rfl⟩ := h
     unfold lfOf at el
     split at el
     · cases el
     · rename_i y b χ ec
       split at el
       · rename_i hy
         cases el
         cases es with
         | nil => exact absurd rfl h3
         | cons e r =>
           rw [List.all_cons, Bool.and_eq_true] at h2
           exact zjk (ok.lf y _ _ ec) (by rw [ok.N]; exact zaE e2) (.inl (by rw [ok.names]; exact h1)) (zaI hE ok e1).1 (odd1 h0) (odd2 h0) (zaJ h2.1 r X.env) (zcZ h2.2 pos X.env)
       · cases el
   · cases h
 · split at h
   · rename_i q G hl
     split at h
     · rename_i ho
       exact zhJ hE ok ho hl h
     · cases h
   · exact zf7 hE ok h
theorem zeR (hE : OkE rE) (ok : CtxOk c X) {tg e : Expr} {f : IF} (h : iterE rE c tg e = some f) : SI X tg e f := by
 have dflt : ∀ {e : Expr}, (rE c e).map iVal = some f → SI X tg e f := λ{e} q => by
   simp only [Option.map_eq_some_iff] at q
   obtain ⟨f1, e1, rfl⟩ := q
   exact zmE (hE c X e f1 ok e1)
 unfold iterE at h
 split at h
 · rename_i x p es pos
   split at h
   · rename_i hc
     obtain ⟨rfl, h1, h2, h3, h4, h5⟩ := hc
     have hg : Gl X "zip" := by show X.env.scope.names.lookup _ = _; rw [ok.names]; exact h1
     simp only [Option.map_eq_some_iff] at h
     obtain ⟨fa, e2, rfl⟩ := h
     cases es with
     | nil => exact absurd rfl h4
     | cons e r =>
       rw [List.all_cons, Bool.and_eq_true] at h3
       cases tg with
       | Tuple ts kk tp => exact zmD hg (ok.blt _ h2) (zaI hE ok e2).1 (zaJ h3.1 r X.env) (zcZ h3.2 pos X.env)
       | _ => cases h5
   split at h
   · rename_i hc
     obtain ⟨rfl, h1, h2, h3⟩ := hc
     have hg : Gl X "range" := by show X.env.scope.names.lookup _ = _; rw [ok.names]; exact h1
     split at h
     · rename_i a
       simp only [Option.map_eq_some_iff] at h
       obtain ⟨fa, e2, rfl⟩ := h
       rw [List.all_cons, Bool.and_eq_true] at h3
       exact zhM hg (ok.blt _ h2) (zaI hE ok e2).1 (by rw [zaJ h3.1]; rfl)
     · rename_i a b
       simp only [Option.map_eq_some_iff] at h
       obtain ⟨fa, e2, rfl⟩ := h
       rw [List.all_cons, List.all_cons, Bool.and_eq_true, Bool.and_eq_true] at h3
       exact zhL hg (ok.blt _ h2) (zaI hE ok e2).1 (by rw [zaJ h3.1, zaJ h3.2.1]; rfl) (by rw [zaJ h3.2.1]; rfl)
     · cases h
   · exact dflt h
 · exact dflt h
theorem zhI (hT : OkT rT) (ok : CtxOk c X) {ifs : List Expr} {f : TF} (h : ifsT rT c ifs = some f) : STs X ifs f := by
 unfold ifsT at h
 split at h
 · cases h; exact zkF
 · exact zkE (hT c X _ f ok h)
 · cases h
theorem zeS (hE : OkE rE) (hT : OkT rT) (ok : CtxOk c X) {elt : Expr} {g : Comprehension} {scope : Scope} {f : EF} (h : compE rE rT c elt g scope = some f) :
   ∃ fi fg ft fe, f = eLc fi fg ft fe (compSrc c scope.names) ∧ g = ⟨g.target, g.iter, g.ifs, 0⟩ ∧ CompOk X scope (compN c scope.names) (compSrc c scope.names) ∧ SI X g.target g.iter fi ∧
     (∀ Y, IsComp X scope (compN c scope.names) Y → SG Y g.target fg ∧ STs Y g.ifs ft ∧ SE Y elt fe) ∧ ∀ x, foldedSetIterable g.iter X.env x = pure x := by
 unfold compE at h
 split at h
 · rename_i hc
   obtain ⟨h1, h2, h3⟩ := hc
   simp only [Option.bind_eq_some_iff, Option.map_eq_some_iff] at h
   obtain ⟨fi, e1, fg, e2, ft, e3, fe, e4, rfl⟩ := h
   refine ⟨fi, fg, ft, fe, rfl, ?_, zl3 ok h2, zeR hE ok e1, λY hy => ?_, zfH h3 X.env⟩
   · obtain ⟨a, b, d, z⟩ := g
     have : z = 0 := h1
     subst this; rfl
   · have okY := zj2 ok h2 hy
     exact ⟨zcj okY e2, zhI hT okY e3, hE _ Y elt fe okY e4⟩
 · cases h
theorem zg9 (hE : OkE rE) (ok : CtxOk c X) {o : Expr} {m : Str} {apos cpos : Pos} {es : List Expr} {f : EF} (h : methE rE c o m apos es cpos = some f) : SE X (.Call (.Attribute o m apos) es [] cpos) f := by
 unfold methE at h
 split at h
 · rename_i hc
   obtain ⟨h1, h3, h4⟩ := hc
   split at h
   · rename_i x p
     split at h
     · rename_i q g e1
       obtain ⟨m1, m2, m3⟩ := zjC (X := X) e1
       cases es with
       | nil =>
         simp only [Option.map_eq_some_iff] at h
         obtain ⟨fo, e2, rfl⟩ := h
         exact zmO m1 m2 m3 (hE c X _ fo ok e2) rfl h4
       | cons e r =>
         have h1' := h1
         rw [List.all_cons, Bool.and_eq_true] at h1
         simp only [Option.bind_eq_some_iff, Option.map_eq_some_iff] at h
         obtain ⟨fo, e2, fa, e3, rfl⟩ := h
         have few : ((backTo cpos (starEach (e :: r) X.env)).all (λx => !x.1) && (backToKw cpos (keywordEach [] X.env)).all (λx => x.1.isSome)
             && decide ((e :: r).length + ([] : List Keyword).length + (if ([] : List Keyword).isEmpty then 0 else 1) < 30)) = true := by
           rw [zi4 h1']
           show (true && true && _) = true
           rw [Bool.and_eq_true]
           exact ⟨rfl, decide_eq_true (by simp at h3 ⊢; omega)⟩
         exact zob m1 m2 m3 (hE c X _ fo ok e2) (zaI hE ok e3).1 rfl few h4 (zaJ h1.1 r X.env) (zcZ h1.2 cpos X.env)
     · cases h
   · cases h
 · cases h
theorem zf5 (hE : OkE rE) (hT : OkT rT) : OkE (stepE rE rT) := by
 intro c X e f ok h
 cases e with
 | Name x p => exact zg8 ok h
 | Constant k a b => exact zf6 h
 | BinOp a op b p =>
   obtain ⟨fa, e1, h⟩ := Option.bind_eq_some_iff.mp h
   obtain ⟨fb, e2, rfl⟩ := Option.map_eq_some_iff.mp h
   exact zoa (hE c X _ fa ok e1) (hE c X _ fb ok e2)
 | UnaryOp op a p =>
   cases op with
   | USub =>
     obtain ⟨fa, e1, rfl⟩ := Option.map_eq_some_iff.mp h
     exact zmN (hE c X _ fa ok e1)
   | Not =>
     obtain ⟨fa, e1, rfl⟩ := Option.map_eq_some_iff.mp h
     exact zmL (hE c X _ fa ok e1)
   | _ => exact nomatch (show (none : Option EF) = some f from h)
 | BoolOp op es p => exact zeT hE ok h
 | Compare a ops bs p =>
   cases ops with
   | nil => exact nomatch (show (none : Option EF) = some f from h)
   | cons op r =>
     cases r with
     | cons _ _ => exact nomatch (show (none : Option EF) = some f from h)
     | nil =>
       cases bs with
       | nil => exact nomatch (show (none : Option EF) = some f from h)
       | cons b q =>
         cases q with
         | cons _ _ => exact nomatch (show (none : Option EF) = some f from h)
         | nil =>
           change (if op ≠ .In ∧ op ≠ .NotIn then (rE c a).bind λfa => (rE c b).map λfb => eB (gCmp op) fa fb else none) = some f at h
           by_cases hc : op ≠ .In ∧ op ≠ .NotIn
           · rw [if_pos hc] at h
             obtain ⟨fa, e1, h⟩ := Option.bind_eq_some_iff.mp h
             obtain ⟨fb, e2, rfl⟩ := Option.map_eq_some_iff.mp h
             exact zmT ok.un hc.1 hc.2 (hE c X _ fa ok e1) (hE c X _ fb ok e2)
           · rw [if_neg hc] at h; cases h
 | Tuple es a b =>
   obtain ⟨fa, e1, rfl⟩ := Option.map_eq_some_iff.mp h
   exact zmJ (zaI hE ok e1).1
 | List es a =>
   obtain ⟨fa, e1, rfl⟩ := Option.map_eq_some_iff.mp h
   exact zmP (zaI hE ok e1).1
 | Subscript a b p =>
   change (if plainIx b = true then (rE c a).bind λfa => (rE c b).map λfb => eB gIx fa fb else sbxE rE c a b) = some f at h
   by_cases hp : plainIx b = true
   · rw [if_pos hp] at h
     obtain ⟨fa, e1, h⟩ := Option.bind_eq_some_iff.mp h
     obtain ⟨fb, e2, rfl⟩ := Option.map_eq_some_iff.mp h
     exact zoc (zhe hp) (hE c X _ fa ok e1) (hE c X _ fb ok e2)
   · rw [if_neg hp] at h
     cases b with
     | Slice lo hi st q =>
       cases st with
       | some _ => exact nomatch (show (none : Option EF) = some f from h)
       | none =>
         obtain ⟨fa, e1, h⟩ := Option.bind_eq_some_iff.mp h
         obtain ⟨fl, e2, h⟩ := Option.bind_eq_some_iff.mp h
         obtain ⟨fh, e3, rfl⟩ := Option.map_eq_some_iff.mp h
         exact zjh (hE c X _ fa ok e1) (zeQ hE ok e2) (zeQ hE ok e3)
     | _ => exact nomatch (show (none : Option EF) = some f from h)
 | IfExp t a b p =>
   obtain ⟨ft, e0, h⟩ := Option.bind_eq_some_iff.mp h
   obtain ⟨fa, e1, h⟩ := Option.bind_eq_some_iff.mp h
   obtain ⟨fb, e2, rfl⟩ := Option.map_eq_some_iff.mp h
   exact zod (hT c X _ ft ok e0) (hE c X _ fa ok e1) (hE c X _ fb ok e2)
 | Call g es ks pos =>
   cases ks with
   | cons _ _ => exact nomatch (show (none : Option EF) = some f from h)
   | nil =>
     cases g with
     | Name x p => exact zha hE ok h
     | Attribute o m p => exact zg9 hE ok h
     | _ => exact nomatch (show (none : Option EF) = some f from h)
 | ListComp elt gs scope p =>
   cases gs with
   | nil => exact nomatch (show (none : Option EF) = some f from h)
   | cons g r =>
     cases r with
     | cons _ _ => exact nomatch (show (none : Option EF) = some f from h)
     | nil =>
       obtain ⟨fi, fg, ft, fe, rfl, eg, cok, hi, hY, hfs⟩ := zeS hE hT ok h
       rw [eg]
       exact zmQ ok.calm cok hi hY hfs
 | _ => exact nomatch (show (none : Option EF) = some f from h)
theorem zf4 (hE : OkE rE) (hT : OkT rT) : OkT (stepT rE rT) := by
 intro c X e f ok h
 unfold stepT at h
 split at h
 · simp only [Option.map_eq_some_iff] at h
   obtain ⟨fa, e1, rfl⟩ := h
   exact zmt (hT c X _ fa ok e1)
 · exact PW.pt (zee hT ok h)
 · split at h
   · rename_i hc
     simp only [Option.bind_eq_some_iff, Option.map_eq_some_iff] at h
     obtain ⟨fa, e1, fb, e2, rfl⟩ := h
     exact zmu ok.un hc.1 hc.2 (hE c X _ fa ok e1) (hE c X _ fb ok e2)
   · cases h
 · split at h
   · rename_i hp
     simp only [Option.map_eq_some_iff] at h
     obtain ⟨fa, e1, rfl⟩ := h
     exact zms (hE c X _ fa ok e1) (zhT hp X.env)
   · cases h
theorem zbT : ∀ n, OkE (cE n) ∧ OkT (cT n)
 | 0 => ⟨λ_ _ _ _ _ h => by simp [cE] at h, λ_ _ _ _ _ h => by simp [cT] at h⟩
 | n + 1 => by
   obtain ⟨h1, h2⟩ := zbT n
   refine ⟨λc X e f ok h => ?_, λc X e f ok h => ?_⟩
   · rw [cE] at h; exact zf5 h1 h2 c X e f ok h
   · rw [cT] at h; exact zf4 h1 h2 c X e f ok h
end
def sNever : SF := λ_ _ => none
theorem zi7 {X : Cx} {st : Stmt} : SS X st sNever := λ_ _ _ _ _ _ h => by
 obtain ⟨_, _, _, _, _, _, _, _, hf, _⟩ := h
 cases hf
def asgLc (c : Ctx) (x : Str) (e : Expr) : Option SF := match e with
 | .ListComp elt gs scope _ => match gs with
   | [] => none
   | g :: r => match r with
     | _ :: _ => none
     | [] => if x ∈ c.sts then (slotOf c.N x).bind λi => (compE (cE 60) (cT 60) c elt g scope).map λf => sAsg f (gNm i) else none
 | _ => none
def asgSt (c : Ctx) (x : Str) (e : Expr) : Option SF := if x ∈ c.sts then (cE 60 c e).bind λfe => (slotOf c.N x).map λi => sAsg fe (gNm i) else none
def asgSub (c : Ctx) (o i e : Expr) : Option SF := if plainIx i = true then (cE 60 c e).bind λfe => (cE 60 c o).bind λfo => (cE 60 c i).map λfi => sAsg fe (gSt fo fi) else none
def asgTo (c : Ctx) (tg e : Expr) : Option SF := (cE 60 c e).bind λfe => (targE c tg).map λfg => sAsg fe fg
def parOk (c : Ctx) (x y z : Str) (px py pz : Pos) (a b d : Expr) : Bool := decide (c.names.lookup x = some .local ∧ c.names.lookup y = some .local ∧ c.names.lookup z = some .local ∧ py.line = px.line ∧ pz.line = px.line ∧ x ≠ y ∧ x ≠ z ∧ y ≠ z ∧
 starF a = false ∧ starF b = false ∧ starF d = false ∧ [a, b, d].all (foldedForSure 8) = false ∧ [a, b, d].all (constantsAlone 8) = false)
def parNo (c : Ctx) (ts : List Expr) : Bool := match ts with
 | [.Name x _, .Name y _, .Name z _] => decide (¬ (c.names.lookup x = some .local ∧ c.names.lookup y = some .local ∧ c.names.lookup z = some .local))
 | _ => false
theorem zjA {c : Ctx} {X : Cx} (ok : CtxOk c X) {ts vs : List Expr} {k k2 : Nat} {p p2 : Pos} (h : parNo c ts = true) : swappedStores [.Tuple ts k p] (.Tuple vs k2 p2) X.env = pure none := by
 unfold parNo at h
 split at h
 · have := of_decide_eq_true h
   rw [← ok.names] at this
   exact zg2 this
 · cases h
def asgPar3 (c : Ctx) (x y z : Str) (px py pz : Pos) (a b d : Expr) : Option SF := if parOk c x y z px py pz a b d = true then (argE (cE 60) c [a, b, d]).bind λfa => (slotOf c.N x).bind λi => (slotOf c.N y).bind λj => (slotOf c.N z).map λk =>
 sAsg (eN gTup fa) (gTp 3 (gsCons (gNm i) (gsCons (gNm j) (gsCons (gNm k) gsNil)))) else none
def asgPar (c : Ctx) (ts : List Expr) (e : Expr) : Option SF := match e with
 | .Tuple vs _ _ => match ts with
   | [.Name x px, .Name y py, .Name z pz] => match vs with
     | [a, b, d] => asgPar3 c x y z px py pz a b d
     | _ => none
   | _ => none
 | _ => none
def asg1 (c : Ctx) (tg e : Expr) : Option SF :=
 if notComp e = true then
   if notTup e = true then match tg with
     | .Subscript o i _ => asgSub c o i e
     | tg => asgTo c tg e
   else match tg with
     | .Name x _ => asgSt c x e
     | .Tuple ts k p => if parNo c ts = true then asgTo c (.Tuple ts k p) e else asgPar c ts e
     | _ => none
 else match tg with
   | .Name x _ => asgLc c x e
   | _ => none
def isDoc (e : Expr) : Bool := match e with
 | .Constant k _ _ => match k with
   | .str _ => true
   | _ => false
 | _ => false
def expS (c : Ctx) (e : Expr) : Option SF := if isDoc e = true then some sPass else if notComp e = true then (cE 60 c e).map sDrop else none
mutual
def cS : Nat → Ctx → Stmt → Option SF
 | 0, _, _ => none
 | n + 1, c, st => match st with
   | .Pass _ => some sPass
   | .Break _ => some sBrk
   | .Continue _ => some sCnt
   | .Expr e _ => expS c e
   | .Return o _ => match o with
     | none => some sRetN
     | some e => (cE 60 c e).map sRet
   | .Raise _ _ _ => some sNever
   | .Assign tgs e _ => match tgs with
     | [] => none
     | tg :: r => match r with
       | [] => asg1 c tg e
       | _ :: _ => none
   | .If t a b _ => (cT 60 c t).bind λft => (cSs n c a).bind λfa => (cSs n c b).map λfb => sIf ft fa fb
   | .While t a o _ => match o with
     | [] => (cT 60 c t).bind λft => (cSs n c a).map λfa => sWh ft fa
     | _ :: _ => none
   | .For tg it a o _ => match o with
     | [] => if notSet it = true then (iterE (cE 60) c tg it).bind λfi => (targE c tg).bind λfg => (cSs n c a).map λfa => sFor fi fg fa else none
     | _ :: _ => none
   | _ => none
def cSs : Nat → Ctx → List Stmt → Option SF
 | 0, _, _ => none
 | _ + 1, _, [] => some sPass
 | n + 1, c, st :: r => (cS n c st).bind λf => (cSs n c r).map λg => sSeq f g
end
theorem zf8 {c : Ctx} {X : Cx} (ok : CtxOk c X) {x : Str} {px spos : Pos} {e : Expr} {f : SF} (h : asgLc c x e = some f) : SS X (.Assign [.Name x px] e spos) f := by
 have hE := (zbT 60).1
 have hT := (zbT 60).2
 cases e with
 | ListComp elt gs scope p => cases gs with
   | nil => exact nomatch (show (none : Option SF) = some f from h)
   | cons g r => cases r with
     | cons _ _ => exact nomatch (show (none : Option SF) = some f from h)
     | nil =>
       change (if x ∈ c.sts then (slotOf c.N x).bind λi => (compE (cE 60) (cT 60) c elt g scope).map λf => sAsg f (gNm i) else none) = some f at h
       by_cases hx : x ∈ c.sts
       · rw [if_pos hx] at h
         obtain ⟨i, e0, h⟩ := Option.bind_eq_some_iff.mp h
         obtain ⟨f1, e1, rfl⟩ := Option.map_eq_some_iff.mp h
         obtain ⟨fi, fg, ft, fe, rfl, eg, cok, hi, hY, hfs⟩ := zeS hE hT ok e1
         obtain ⟨s1, s2⟩ := ok.st x hx
         have nd : X.N.Nodup := by rw [ok.N]; exact ok.nd
         have sl : X.N[i]? = some x := by rw [ok.N]; exact zaE e0
         rw [eg]
         have key : swapsWith (.ListComp elt [⟨g.target, g.iter, g.ifs, 0⟩] scope p) (some (.Name x px)) spos.line X.env = pure (X.env.blockKind == ScopeKind.function && X.env.kindOf x == some NameKind.local && px.line == p.line && !(scope.names.any λy => y.1 == x && (y.2 == NameKind.local || y.2 == NameKind.cell))) := rfl
         cases hb : (X.env.blockKind == ScopeKind.function && X.env.kindOf x == some NameKind.local && px.line == p.line && !(scope.names.any λy => y.1 == x && (y.2 == NameKind.local || y.2 == NameKind.cell))) with
         | true =>
           rw [hb] at key
           rw [Bool.and_eq_true, Bool.and_eq_true, Bool.and_eq_true] at hb
           have hk : X.env.kindOf x = some .local := by simpa using hb.1.1.2
           exact zi6 nd sl hk key ok.calm cok hi hY hfs
         | false =>
           rw [hb] at key
           exact zkd nd sl s1 (zmQ ok.calm cok hi hY hfs) key s2
       · rw [if_neg hx] at h; cases h
 | _ => exact nomatch (show (none : Option SF) = some f from h)
theorem zfB {c : Ctx} {X : Cx} (ok : CtxOk c X) {ts : List Expr} {k0 : Nat} {p spos : Pos} {e : Expr} {f : SF} (h : asgPar c ts e = some f) : SS X (.Assign [.Tuple ts k0 p] e spos) f := by
 have hE := (zbT 60).1
 unfold asgPar at h
 split at h
 · rename_i vs k1 p1
   split at h
   · rename_i x px y py z pz
     split at h
     · rename_i a b d
       unfold asgPar3 at h
       by_cases hp : parOk c x y z px py pz a b d = true
       · rw [if_pos hp] at h
         unfold parOk at hp
         obtain ⟨q1, q2, q3, q4, q5, q6, q7, q8, q9, q10, q11, q12, q13⟩ := of_decide_eq_true hp
         obtain ⟨fa, e0, h⟩ := Option.bind_eq_some_iff.mp h
         obtain ⟨i, e1, h⟩ := Option.bind_eq_some_iff.mp h
         obtain ⟨j, e2, h⟩ := Option.bind_eq_some_iff.mp h
         obtain ⟨k, e3, rfl⟩ := Option.map_eq_some_iff.mp h
         rw [← ok.names] at q1 q2 q3
         have apart : ∀ {x y : Str} {i j : Nat}, x ≠ y → slotOf c.N x = some i → slotOf c.N y = some j → i ≠ j := λhn a b q => by
           subst q
           have := (zaE a).symm.trans (zaE b)
           cases this
           exact hn rfl
         exact zkI ok.calm (by rw [ok.N]; exact ok.nd) (by rw [ok.N]; exact zaE e1) (by rw [ok.N]; exact zaE e2) (by rw [ok.N]; exact zaE e3) (apart q6 e1 e2) (apart q7 e1 e3) (apart q8 e2 e3) q1 q2 q3 (zaI hE ok e0).1
           (swapped3 ok.kind q1 q2 q3 q4 q5 q6 q7 q8 q9 q10 q11 q12 q13)
       · rw [if_neg hp] at h; cases h
     · cases h
   · cases h
 · cases h
theorem zhb {c : Ctx} {X : Cx} (ok : CtxOk c X) {tg e : Expr} {spos : Pos} {f : SF} (h : asg1 c tg e = some f) : SS X (.Assign [tg] e spos) f := by
 have hE := (zbT 60).1
 unfold asg1 at h
 by_cases hc : notComp e = true
 · rw [if_pos hc] at h
   by_cases ht : notTup e = true
   · rw [if_pos ht] at h
     cases tg with
     | Subscript o i p =>
       change (if plainIx i = true then (cE 60 c e).bind λfe => (cE 60 c o).bind λfo => (cE 60 c i).map λfi => sAsg fe (gSt fo fi) else none) = some f at h
       by_cases hi : plainIx i = true
       · rw [if_pos hi] at h
         obtain ⟨fe, e1, h⟩ := Option.bind_eq_some_iff.mp h
         obtain ⟨fo, e2, h⟩ := Option.bind_eq_some_iff.mp h
         obtain ⟨fi, e3, rfl⟩ := Option.map_eq_some_iff.mp h
         refine zgD (hE c X _ fe ok e1) (zmG (hE c X _ fo ok e2) (hE c X _ fi ok e3) λv => ?_) (by unfold swapsWithSole; exact zbJ hc _ _ _) (ze0 rfl _ _) rfl
         cases i with
         | Slice _ _ _ _ => cases hi
         | _ => rfl
       · rw [if_neg hi] at h; cases h
     | Name _ _ =>
       obtain ⟨fe, e1, h⟩ := Option.bind_eq_some_iff.mp h
       obtain ⟨fg, e2, rfl⟩ := Option.map_eq_some_iff.mp h
       exact zgD (hE c X _ fe ok e1) (zcj ok e2) (by unfold swapsWithSole; exact zbJ hc _ _ _) (ze0 rfl _ _) rfl
     | Tuple _ _ _ =>
       obtain ⟨fe, e1, h⟩ := Option.bind_eq_some_iff.mp h
       obtain ⟨fg, e2, rfl⟩ := Option.map_eq_some_iff.mp h
       exact zgD (hE c X _ fe ok e1) (zcj ok e2) (by unfold swapsWithSole; exact zbJ hc _ _ _) (zhj ht _ _ _ _) rfl
     | _ =>
       obtain ⟨fe, e1, h⟩ := Option.bind_eq_some_iff.mp h
       obtain ⟨fg, e2, h⟩ := Option.map_eq_some_iff.mp h
       cases e2
   · rw [if_neg ht] at h
     cases tg with
     | Name x px =>
       change (if x ∈ c.sts then (cE 60 c e).bind λfe => (slotOf c.N x).map λi => sAsg fe (gNm i) else none) = some f at h
       by_cases hx : x ∈ c.sts
       · rw [if_pos hx] at h
         obtain ⟨fe, e1, h⟩ := Option.bind_eq_some_iff.mp h
         obtain ⟨i, e2, rfl⟩ := Option.map_eq_some_iff.mp h
         obtain ⟨s1, s2⟩ := ok.st x hx
         exact zkd (by rw [ok.N]; exact ok.nd) (by rw [ok.N]; exact zaE e2) s1 (hE c X _ fe ok e1) (zbJ hc _ _ _) s2
       · rw [if_neg hx] at h; cases h
     | Tuple ts k0 p =>
       change (if parNo c ts = true then asgTo c (.Tuple ts k0 p) e else asgPar c ts e) = some f at h
       by_cases hp : parNo c ts = true
       · rw [if_pos hp] at h
         obtain ⟨fe, e1, h⟩ := Option.bind_eq_some_iff.mp h
         obtain ⟨fg, e2, rfl⟩ := Option.map_eq_some_iff.mp h
         cases e with
         | Tuple vs k2 p2 => exact zgD (hE c X _ fe ok e1) (zcj ok e2) (by unfold swapsWithSole; exact zbJ hc _ _ _) (zjA ok hp) rfl
         | _ => exact absurd rfl ht
       · rw [if_neg hp] at h
         exact zfB ok h
     | _ => exact nomatch (show (none : Option SF) = some f from h)
 · rw [if_neg hc] at h
   cases tg with
   | Name x px => exact zf8 ok h
   | _ => exact nomatch (show (none : Option SF) = some f from h)
theorem zhK {c : Ctx} {X : Cx} (ok : CtxOk c X) {e : Expr} {p : Pos} {f : SF} (h : expS c e = some f) : SS X (.Expr e p) f := by
 have hE := (zbT 60).1
 unfold expS at h
 by_cases hd : isDoc e = true
 · rw [if_pos hd] at h
   cases h
   cases e with
   | Constant k a b => cases k with
     | str _ => exact zmy
     | _ => cases hd
   | _ => cases hd
 · rw [if_neg hd] at h
   by_cases hc : notComp e = true
   · rw [if_pos hc] at h
     obtain ⟨fe, e1, rfl⟩ := Option.map_eq_some_iff.mp h
     exact zkJ (hE c X _ fe ok e1) (zbJ hc _ _ _)
   · rw [if_neg hc] at h; cases h
theorem zd1 : ∀ n c X, CtxOk c X → PassesOwn (model X.prog X.w) X.A X.env X.xe → (∀ st f, cS n c st = some f → SS X st f) ∧ ∀ sts f, cSs n c sts = some f → SSs X sts f
 | 0, c, X, ok, hp => ⟨λ_ _ h => by simp [cS] at h, λ_ _ h => by simp [cSs] at h⟩
 | n + 1, c, X, ok, hp => by
   obtain ⟨ih1, ih2⟩ := zd1 n c X ok hp
   have hE := (zbT 60).1
   have hT := (zbT 60).2
   refine ⟨λst f h => ?_, λsts f h => ?_⟩
   · unfold cS at h
     cases st with
     | Pass _ => cases h; exact zkH
     | Break _ => cases h; exact zmA
     | Continue _ => cases h; exact zmz
     | Expr e p => exact zhK ok h
     | Return o p => cases o with
       | none => cases h; exact zkG
       | some e =>
         obtain ⟨fe, e1, rfl⟩ := Option.map_eq_some_iff.mp h
         exact zmv (hE c X _ fe ok e1)
     | Raise _ _ _ => cases h; exact zi7
     | Assign tgs e p => cases tgs with
       | nil => exact nomatch (show (none : Option SF) = some f from h)
       | cons tg r => cases r with
         | nil => exact zhb ok h
         | cons _ _ => exact nomatch (show (none : Option SF) = some f from h)
     | If t a b p =>
       obtain ⟨ft, e0, h⟩ := Option.bind_eq_some_iff.mp h
       obtain ⟨fa, e1, h⟩ := Option.bind_eq_some_iff.mp h
       obtain ⟨fb, e2, rfl⟩ := Option.map_eq_some_iff.mp h
       exact zn7 (hT c X _ ft ok e0) (ih2 _ fa e1) (ih2 _ fb e2)
     | While t a o p => cases o with
       | cons _ _ => exact nomatch (show (none : Option SF) = some f from h)
       | nil =>
         obtain ⟨ft, e0, h⟩ := Option.bind_eq_some_iff.mp h
         obtain ⟨fa, e1, rfl⟩ := Option.map_eq_some_iff.mp h
         exact zi5 hp (hT c X _ ft ok e0) (ih2 _ fa e1)
     | For tg it a o p => cases o with
       | cons _ _ => exact nomatch (show (none : Option SF) = some f from h)
       | nil =>
         change (if notSet it = true then (iterE (cE 60) c tg it).bind λfi => (targE c tg).bind λfg => (cSs n c a).map λfa => sFor fi fg fa else none) = some f at h
         by_cases hn : notSet it = true
         · rw [if_pos hn] at h
           obtain ⟨fi, e0, h⟩ := Option.bind_eq_some_iff.mp h
           obtain ⟨fg, e1, h⟩ := Option.bind_eq_some_iff.mp h
           obtain ⟨fa, e2, rfl⟩ := Option.map_eq_some_iff.mp h
           exact zmx hp ok.calm (zeR hE ok e0) (zcj ok e1) (ih2 _ fa e2) (zfH hn X.env)
         · rw [if_neg hn] at h; cases h
     | _ => exact nomatch (show (none : Option SF) = some f from h)
   · cases sts with
     | nil => rw [cSs] at h; cases h; exact zmw
     | cons st r =>
       rw [cSs] at h
       simp only [Option.bind_eq_some_iff, Option.map_eq_some_iff] at h
       obtain ⟨f1, e1, g1, e2, rfl⟩ := h
       exact zkK (ih1 _ f1 e1) (ih2 _ g1 e2)
end MX
end
section
set_option autoImplicit false
namespace MX
open PySem PySem.Spec PyProof.Rows L2
theorem FnAt.mono {P : Program} {w : World} {K : PySem.W.Frag} {mg : Str → Option Value} {base : Heap} {j k : Nat} {x : Str} {n : Nat} {φ : GN} (h : FnAt P w K mg base j x n φ) (hjk : j ≤ k) : FnAt P w K mg base k x n φ :=
 let ⟨f, fd, ps, a, b, c, d⟩ := h
 ⟨f, fd, ps, a, b, c, d.mono hjk⟩
def ownN (names : List (Str × NameKind)) : List Str := (names.filter λy => y.2 == .local || y.2 == .cell).map (·.1)
def mkC (st : Stmt) (fns : List (Str × Nat × GN)) (blt : List Str) : Ctx := { N := ownN (defScope st).names, names := (defScope st).names, sts := ownN (defScope st).names, fns := fns, blt := blt }
def startD (N : List Str) (ds : List D) : Sg := ds.map some ++ List.replicate (N.length - ds.length) none
theorem zd9 {K : PySem.W.Frag} {H : Hp} {α : List Addr} {N : List Str} {ds : List D} {vs : List V} (r : Reps K H α ds vs) : VarsR K H α (startD N ds) (start N vs) := by
 have hl := r.length
 refine ⟨by simp [startD, L2.start, hl], λi d e => ?_⟩
 have hi : i < ds.length := by
   unfold startD at e
   by_cases hi : i < ds.length
   · exact hi
   · rw [List.getElem?_append_right (by simpa using hi), List.getElem?_replicate] at e
     split at e <;> cases e
 have ed : ds[i]? = some d := by
   unfold startD at e
   rw [List.getElem?_append_left (by simpa using hi), List.getElem?_map] at e
   cases q : ds[i]? with
   | none => rw [q] at e; cases e
   | some z => rw [q] at e; cases e; rfl
 obtain ⟨v, h1, h2⟩ := r.get ed
 refine ⟨v, ?_, h2⟩
 unfold L2.start
 rw [List.getElem?_append_left (by rw [List.length_map, ← hl]; exact hi), List.getElem?_map, h1]
 rfl
def Ends1 (r : Option (Fl × Sg × So)) (z : D) (S S' : So) : Prop := ∃ fl σ' S'', r = some (fl, σ', S'') ∧ (fl = .rt z ∨ (fl = .nx ∧ z = .non)) ∧ S' = S''.take S'.length ∧ S.length ≤ S'.length ∧ D.lo S'.length z = true ∧ ∀ o ∈ S', O.lo S'.length o = true
theorem zdD {names : List (Str × NameKind)} (hu : ∀ y ∈ names, names.lookup y.1 = some y.2) {x : Str} (h : x ∈ ownN names) : names.lookup x = some .local ∨ names.lookup x = some .cell := by
 unfold ownN at h
 obtain ⟨y, hy, rfl⟩ := List.mem_map.mp h
 obtain ⟨h1, h2⟩ := List.mem_filter.mp hy
 rw [Bool.or_eq_true] at h2
 have e := hu y h1
 rcases h2 with q | q
 · exact .inl (by rw [e]; congr 1; simpa using q)
 · exact .inr (by rw [e]; congr 1; simpa using q)
section
variable {P : Program} {w : World} {K : PySem.W.Frag} {mg : Str → Option Value} {base : Heap}
theorem zlO {x qual : Str} {st : Stmt} {f : Addr} {fd : FuncData} {ps : List Str} {k m : Nat} {fns : List (Str × Nat × GN)} {blt : List Str} {fb : SF} {φ : GN}
   (F : Fun K x qual st f fd) (S : FnScope (ownN (defScope st).names) ps (defScope st)) (hu : (defScope st).names.all (λy => decide ((defScope st).names.lookup y.1 = some y.2)) = true)
   (hfns : ∀ y n ψ, fns.lookup y = some (n, ψ) → FnAt P w K mg base k y n ψ) (hblt : ∀ y ∈ blt, mg y = none)
   (hb : cSs m (mkC st fns blt) (defBody st) = some fb)
   (hφ : ∀ ds S₀ z S', WF S₀ → ds.length = ps.length → φ ds S₀ = some (z, S') → Ends1 (fb (startD (ownN (defScope st).names) ds) S₀) z S₀ S') :
   FnOk P w K mg base CX0 (k + 1) f fd ps (spOf K ps.length φ) := by
 refine F.ok S (λvs H Q E h => h.1) (λcdv A outer s H vs Q E hr h => ?_)
 obtain ⟨hlen, S₀, α, ds, z, S', hs, r, e, kk⟩ := h
 have ok : CtxOk (mkC st fns blt) (cxOf CX0 P w K mg base (ownN (defScope st).names) qual (defScope st) f cdv A outer s H E).nox := by
   refine ⟨rfl, S.nd, rfl, S.kind, λy hy => ?_, λy n ψ q => ?_, hblt, rfl, hr.units, λ_ _ _ h => (nomatch h), λ_ _ _ h => (nomatch h)⟩
   · rw [List.all_eq_true] at hu
     exact ⟨zdD (λz hz => of_decide_eq_true (hu z hz)) hy, .inl rfl⟩
   · obtain ⟨f', fd', ps', a, b, c, d⟩ := hfns y n ψ q
     exact ⟨f', fd', ps', k, a, b, c, d, hr⟩
 refine ⟨rdS K fb, (zd1 m _ _ ok PassesOwn.never).2 _ fb hb, ?_⟩
 obtain ⟨fl, σ', S'', e1, e2, e3, e4, e5, e6⟩ := hφ ds S₀ z S' hs.wf (by rw [r.length]; exact hlen) e
 refine ⟨_, S₀, α, fl, σ', S'', zd9 r, hs, e1, λσ2 H2 α2 v2 s2 x2 => ?_⟩
 have s3 : StoreR K H2 (α2.take S'.length) S' := by
   have := s2.cut S'.length (by rw [← e3]; exact e6)
   rw [← e3] at this; exact this
 have x3 : Ext K H α H2 (α2.take S'.length) := ⟨x2.tups, λn a q => by
   have hn : n < S'.length := by
     have := (List.getElem?_eq_some_iff.mp q).1
     rw [hs.len] at this; omega
   rw [List.getElem?_take_of_lt hn]; exact x2.pre n a q⟩
 rcases e2 with rfl | ⟨rfl, rfl⟩
 · exact λv rv => kk v H2 _ s3 x3 (rv.cut _ e5)
 · exact kk .non H2 _ s3 x3 .non
theorem zox {x qual : Str} {st : Stmt} {f : Addr} {fd : FuncData} {ps : List Str} {k m : Nat} {fns : List (Str × Nat × GN)} {blt : List Str} {fb : SF} {φ : GN}
   (F : Fun K x qual st f fd) (hm : mg x = some (.ref f)) (hbd : Binds K fd ps []) (S : FnScope (ownN (defScope st).names) ps (defScope st)) (hu : (defScope st).names.all (λy => decide ((defScope st).names.lookup y.1 = some y.2)) = true)
   (hfns : ∀ y n ψ, fns.lookup y = some (n, ψ) → FnAt P w K mg base k y n ψ) (hblt : ∀ y ∈ blt, mg y = none)
   (hb : cSs m (mkC st fns blt) (defBody st) = some fb)
   (hφ : ∀ ds S₀ z S', WF S₀ → ds.length = ps.length → φ ds S₀ = some (z, S') → Ends1 (fb (startD (ownN (defScope st).names) ds) S₀) z S₀ S') :
   FnAt P w K mg base (k + 1) x ps.length φ := ⟨f, fd, ps, hm, F.kp, hbd, zlO F S hu hfns hblt hb hφ⟩
end
def mkCL (st : Stmt) (fns : List (Str × Nat × GN)) (blt : List Str) (x : Str) (a : Addr) (ψ : GN) : Ctx := { N := ownN (defScope st).names, names := (defScope st).names, sts := ownN (defScope st).names, fns := fns, blt := blt, lf := some (x, a, ψ) }
section
variable {P : Program} {w : World} {K : PySem.W.Frag} {mg : Str → Option Value} {base : Heap}
theorem zjH {x qual : Str} {st : Stmt} {f : Addr} {fd : FuncData} {p1 p2 : Str} {k m : Nat} {fns : List (Str × Nat × GN)} {blt : List Str} {fb : Addr → GN → SF} {G : Addr → GN → GN}
   (F : Fun K x qual st f fd) (S : FnScope (ownN (defScope st).names) [p1, p2] (defScope st)) (hu : (defScope st).names.all (λy => decide ((defScope st).names.lookup y.1 = some y.2)) = true)
   (hfns : ∀ y n ψ, fns.lookup y = some (n, ψ) → FnAt P w K mg base k y n ψ) (hblt : ∀ y ∈ blt, mg y = none)
   (hb : ∀ a ψ, cSs m (mkCL st fns blt p2 a ψ) (defBody st) = some (fb a ψ))
   (hφ : ∀ a ψ ds S₀ z S', WF S₀ → G a ψ ds S₀ = some (z, S') → Ends1 (fb a ψ (startD (ownN (defScope st).names) ds) S₀) z S₀ S') :
   HofOk P w K mg base k f fd [p1, p2] G := by
 intro a R ψ hst C
 refine F.ok S (λvs H Q E ⟨v1, h, _⟩ => by rw [h]; rfl) (λcdv A outer s H vs Q E hr h => ?_)
 obtain ⟨v1, rfl, hR, S₀, α, d1, z, S', hs, r1, e, kk⟩ := h
 have ok : CtxOk (mkCL st fns blt p2 a ψ) (cxOf CX0 P w K mg base (ownN (defScope st).names) qual (defScope st) f cdv A outer s H E).nox := by
   refine ⟨rfl, S.nd, rfl, S.kind, λy hy => ?_, λy n χ q => ?_, hblt, rfl, hr.units, λy b χ h => ?_, λ_ _ _ h => (nomatch h)⟩
   · rw [List.all_eq_true] at hu
     exact ⟨zdD (λz hz => of_decide_eq_true (hu z hz)) hy, .inl rfl⟩
   · obtain ⟨f', fd', ps', a, b, c, d⟩ := hfns y n χ q
     exact ⟨f', fd', ps', k, a, b, c, d, hr⟩
   · cases h
     exact ⟨R, k, C, hr, λH' t => hst _ _ t hR⟩
 refine ⟨rdS K (fb a ψ), (zd1 m _ _ ok PassesOwn.never).2 _ (fb a ψ) (hb a ψ), ?_⟩
 have r : Reps K H α [d1, .adr a] [v1, .ref a] := .cons r1 (.cons (.adr a) .nil)
 obtain ⟨fl, σ', S'', e1, e2, e3, e4, e5, e6⟩ := hφ a ψ [d1, .adr a] S₀ z S' hs.wf e
 refine ⟨_, S₀, α, fl, σ', S'', zd9 r, hs, e1, λσ2 H2 α2 v2 s2 x2 => ?_⟩
 have s3 : StoreR K H2 (α2.take S'.length) S' := by
   have := s2.cut S'.length (by rw [← e3]; exact e6)
   rw [← e3] at this; exact this
 have x3 : Ext K H α H2 (α2.take S'.length) := ⟨x2.tups, λn a q => by
   have hn : n < S'.length := by
     have := (List.getElem?_eq_some_iff.mp q).1
     rw [hs.len] at this; omega
   rw [List.getElem?_take_of_lt hn]; exact x2.pre n a q⟩
 rcases e2 with rfl | ⟨rfl, rfl⟩
 · exact λv rv => kk v H2 _ s3 x3 (rv.cut _ e5)
 · exact kk .non H2 _ s3 x3 .non
end
def spLaw (K : PySem.W.Frag) (n : Nat) : Sp := λvs H Q _ => ∃ (a : Addr) (ns : List Int), vs = [.ref a] ∧ FzL K H a (ns.map V.int) ∧ ns.length ≤ n ∧ ∀ H', Q (.bl true) H'
theorem zfF {K : PySem.W.Frag} {H : Hp} {α : List Addr} : ∀ ns : List Int, Reps K H α (ns.map D.int) (ns.map V.int)
 | [] => .nil
 | n :: r => .cons (.int n) (zfF r)
section
variable {P : Program} {w : World} {K : PySem.W.Frag} {mg : Str → Option Value} {base : Heap}
def spLawT (K : PySem.W.Frag) (n : Nat) (Pt : Addr) : Sp := λvs H Q E => (∃ ps, H Pt = some (.tbl ps)) ∧ spLaw K n vs H Q E
def mkCH (st : Stmt) (fns : List (Str × Nat × GN)) (blt : List Str) (hof : List (Str × Str × (Addr → GN → GN))) : Ctx := { N := ownN (defScope st).names, names := (defScope st).names, sts := ownN (defScope st).names, fns := fns, blt := blt, hof := hof }
theorem zig {x qual : Str} {st : Stmt} {f : Addr} {fd : FuncData} {p : Str} {k m n : Nat} {fns : List (Str × Nat × GN)} {blt : List Str} {fb : SF} {hof : List (Str × Str × (Addr → GN → GN))} {c Pt : Addr}
   (F : Fun K x qual st f fd) (hcode : fd.code = .ref c) (S : FnScope (ownN (defScope st).names) [p] (defScope st)) (hu : (defScope st).names.all (λy => decide ((defScope st).names.lookup y.1 = some y.2)) = true)
   (C : PySem.W.CodeHd base c Pt) (B : BM base mg)
   (hfns : ∀ b' : Heap, Mod K mg b' → (∀ b o, base.get? b = some o → b'.get? b = some o) → ∀ y n ψ, fns.lookup y = some (n, ψ) → FnAt P w K mg b' k y n ψ) (hM : Mod K mg base) (hblt : ∀ y ∈ blt, mg y = none)
   (hhof : ∀ y q G, hof.lookup y = some (q, G) → ∃ f fd p1 p2, mg y = some (.ref f) ∧ PySem.W.keepIn K (.ref f) = true ∧ Binds K fd [p1, p2] [] ∧
     (∀ (ap : Pos) (body : Expr) (scope : Scope) (pm cdv ctv : Value) (clos : List (Str × Addr)) (qual : Str) (u : Value), bindArgs (PySem.W.kla_fn "<lambda>" qual (oneArg q ap) body scope clos pm cdv ctv) ⟨[u], []⟩ = pure [(q, u)]) ∧
     ∀ b' : Heap, Mod K mg b' → (∀ b o, base.get? b = some o → b'.get? b = some o) → HofOk P w K mg b' (k + 1) f fd [p1, p2] G)
   (hb : cSs m (mkCH st fns blt hof) (defBody st) = some fb)
   (hφ : ∀ ns : List Int, ns.length ≤ n → ∃ σ' S'', fb (startD (ownN (defScope st).names) [.ref 0]) [.frz (ns.map D.int)] = some (.rt (.bl true), σ', S'')) :
   FnOk P w K mg base CX0 (k + 3) f fd [p] (spLawT K n Pt) := by
 have hcd : ∀ cdv : Value, True := λ_ => trivial
 obtain ⟨oc, od, kV, doc, pm, an, cdv0, ct, osl, rfl, lk, hcdin⟩ := F.ex
 refine znF lk hcdin S (λvs H Q E h => ?_) (λA outer s H vs Q E hr h => ?_)
 · obtain ⟨_, a, ns, rfl, _⟩ := h; rfl
 obtain ⟨htab, a, ns, rfl, hz, hl, kk⟩ := h
 have ok : CtxOk (mkCH st fns blt hof) (cxOf CX0 P w K mg base (ownN (defScope st).names) qual (defScope st) f cdv0 A outer s H E).nox := by
   refine ⟨rfl, S.nd, rfl, S.kind, λy hy => ?_, λy n ψ q => ?_, hblt, rfl, hr.units, λ_ _ _ h => (nomatch h), λy q G h => ?_⟩
   · rw [List.all_eq_true] at hu
     exact ⟨zdD (λz hz => of_decide_eq_true (hu z hz)) hy, .inl rfl⟩
   · obtain ⟨f', fd', ps', a, b, c, d⟩ := hfns base hM (λ_ _ e => e) y n ψ q
     exact ⟨f', fd', ps', k, a, b, c, d, hr.mono (by omega)⟩
   · obtain ⟨f', fd', p1, p2, m1, m2, m3, m4, m5⟩ := hhof y q G h
     exact ⟨f', fd', p1, p2, k, Pt, c, ⟨λ_ => rfl, htab, hcode, C, B⟩, m1, m2, m3, hr, m4, m5, hfns⟩
 refine ⟨rdS K fb, ((zd1 m _ _ ok PassesOwn.never).2 _ fb hb).nox, ?_⟩
 obtain ⟨σ', S'', e⟩ := hφ ns hl
 have hs : StoreR K H [a] [.frz (ns.map D.int)] := by
   refine ⟨rfl, λi j o o' b h1 h2 w1 w2 _ _ => ?_, λi o b h1 h2 => ?_⟩
   · cases i with
     | zero => cases h1; cases w1
     | succ i => simp at h1
   · cases i with
     | zero => cases h1; cases h2; exact ⟨_, hz, zfF ns⟩
     | succ i => simp at h1
 refine ⟨_, _, [a], _, σ', S'', zd9 (K := K) (α := [a]) (.cons (.ref rfl) .nil), hs, e, λσ2 H2 α2 v2 s2 x2 v rv => ?_⟩
 cases rv
 exact kk H2
end
end MX
end
section
set_option autoImplicit false
namespace MX
open PySem L2
theorem zd2 {nx : Nat → So → Option (Option D)} {g : GF} {t : TF} {fe : EF} {S : So} {xs : List D} (T : Sg → Prop) (p : D → Bool) (h : D → D) (hnx : ∀ i : Nat, nx i S = some xs[i]?)
   (hstep : ∀ d ∈ xs, ∀ τ, T τ → ∃ τ', g d τ S = some (τ', S) ∧ T τ' ∧ t τ' S = some (p d, S) ∧ (p d = true → fe τ' S = some (h d, S))) :
   ∀ (n i : Nat) (τ : Sg) (acc : List D), T τ → i + n = xs.length → lcN nx g t fe n i τ S acc = some (acc ++ ((xs.drop i).filter p).map h, S)
 | 0, i, τ, acc, hT, hl => by
   unfold lcN
   rw [hnx, List.getElem?_eq_none (by omega), List.drop_of_length_le (by omega)]
   simp
 | n + 1, i, τ, acc, hT, hl => by
   have hi : i < xs.length := by omega
   unfold lcN
   rw [hnx, List.getElem?_eq_getElem hi, List.drop_eq_getElem_cons hi]
   obtain ⟨τ', h1, h2, h3, h4⟩ := hstep xs[i] (List.getElem_mem hi) τ hT
   simp only [h1, Option.bind_some, h3]
   cases hp : p xs[i] with
   | false =>
     simp only [Bool.false_eq_true, if_false]
     rw [zd2 T p h hnx hstep n (i + 1) τ' acc h2 (by omega), List.filter_cons_of_neg (by simp [hp])]
   | true =>
     simp only [if_true, h4 hp, Option.bind_some]
     rw [zd2 T p h hnx hstep n (i + 1) τ' _ h2 (by omega), List.filter_cons_of_pos hp]
     simp
theorem zfp {nx : Nat → So → Option (Option D)} {g : GF} {f : SF} {xs : List D} (P : Nat → Sg → So → Prop) (hnx : ∀ (i : Nat) σ S, P i σ S → nx i S = some xs[i]?)
   (hstep : ∀ (i : Nat) d σ S, xs[i]? = some d → P i σ S → ∃ σ1 S1 fl σ2 S2, g d σ S = some (σ1, S1) ∧ f σ1 S1 = some (fl, σ2, S2) ∧ (fl = .nx ∨ fl = .ct) ∧ P (i + 1) σ2 S2) :
   ∀ (n i : Nat) (σ : Sg) (S : So), P i σ S → i + n = xs.length → ∃ σ' S', forN nx g f n i σ S = some (.nx, σ', S') ∧ P xs.length σ' S'
 | 0, i, σ, S, hP, hl => by
   unfold forN
   rw [hnx i σ S hP, List.getElem?_eq_none (by omega)]
   have : i = xs.length := by omega
   subst this
   exact ⟨σ, S, rfl, hP⟩
 | n + 1, i, σ, S, hP, hl => by
   have hi : i < xs.length := by omega
   unfold forN
   rw [hnx i σ S hP, List.getElem?_eq_getElem hi]
   obtain ⟨σ1, S1, fl, σ2, S2, h1, h2, h3, h4⟩ := hstep i xs[i] σ S (List.getElem?_eq_getElem hi) hP
   obtain ⟨σ', S', e1, e2⟩ := zfp P hnx hstep n (i + 1) σ2 S2 h4 (by omega)
   refine ⟨σ', S', ?_, e2⟩
   simp only [h1, Option.bind_some, h2]
   rcases h3 with rfl | rfl <;> exact e1
theorem zfJ (ns : List Int) : intsD (ns.map D.int) = some ns := by
 induction ns with
 | nil => rfl
 | cons n r ih => simp [intsD, ih]
end MX
end
section
set_option autoImplicit false
namespace MX
open PySem PySem.Spec PyProof.Rows L2
def stD (n : Nat) (ds : List D) : Sg := ds.map some ++ List.replicate (n - ds.length) none
open Classical in
def fnOf (n : Nat) (fb : SF) : GN := λds S => match fb (stD n ds) S with
 | some (.rt z, _, S'') => if S''.take S.length = S ∧ D.lo S.length z = true then some (z, S) else if S.length ≤ S''.length ∧ D.lo S''.length z = true ∧ WF S'' then some (z, S'') else none
 | some (.nx, _, S'') => if S''.take S.length = S then some (.non, S) else if S.length ≤ S''.length ∧ WF S'' then some (.non, S'') else none
 | _ => none
theorem zfL {N : List Str} {n : Nat} {fb : SF} (hn : N.length = n) {ds : List D} {S : So} {z : D} {S' : So} (hS : WF S) (h : fnOf n fb ds S = some (z, S')) : Ends1 (fb (startD N ds) S) z S S' := by
 have e0 : startD N ds = stD n ds := by unfold startD stD; rw [hn]
 rw [e0]
 unfold fnOf at h
 split at h
 · rename_i z' σ' S'' e
   split at h
   · rename_i hc
     cases h
     exact ⟨_, _, _, e, .inl rfl, hc.1.symm, Nat.le_refl _, hc.2, hS⟩
   · split at h
     · rename_i hc
       cases h
       exact ⟨_, _, _, e, .inl rfl, by simp, hc.1, hc.2.1, hc.2.2⟩
     · cases h
 · rename_i σ' S'' e
   split at h
   · rename_i hc
     cases h
     exact ⟨_, _, _, e, .inr ⟨rfl, rfl⟩, hc.symm, Nat.le_refl _, by simp [D.lo], hS⟩
   · split at h
     · rename_i hc
       cases h
       exact ⟨_, _, _, e, .inr ⟨rfl, rfl⟩, by simp, hc.1, by simp [D.lo], hc.2⟩
     · cases h
 · cases h
theorem zad {n : Nat} {fb : SF} {ds : List D} {S : So} {z : D} {σ' : Sg} {S' : So} (h : fb (stD n ds) S = some (.rt z, σ', S')) (hS : S'.take S.length = S) (hz : D.lo S.length z = true) : fnOf n fb ds S = some (z, S) := by
 unfold fnOf
 rw [h]
 simp only
 rw [if_pos ⟨hS, hz⟩]
theorem ze3 {n : Nat} {fb : SF} {ds : List D} {S : So} {σ' : Sg} {S' : So} (h : fb (stD n ds) S = some (.nx, σ', S')) (hS : S'.take S.length = S) : fnOf n fb ds S = some (.non, S) := by
 unfold fnOf
 rw [h]
 simp only
 rw [if_pos hS]
theorem zde {n : Nat} {fb : SF} {ds : List D} {S : So} {z : D} {σ' : Sg} {S' : So} (h : fb (stD n ds) S = some (.rt z, σ', S')) (hne : ¬ (S'.take S.length = S ∧ D.lo S.length z = true)) (hl : S.length ≤ S'.length) (hz : D.lo S'.length z = true) (hw : WF S') : fnOf n fb ds S = some (z, S') := by
 unfold fnOf
 rw [h]
 simp only
 rw [if_neg hne, if_pos ⟨hl, hz, hw⟩]
def DefK (K : PySem.W.Frag) (x : Str) (st : Stmt) : Prop := ∃ f fd, PySem.W.nsIn K mainGlobals x = some (some (.ref f)) ∧ Fun K x x st f fd
theorem DefK.mk' {K : PySem.W.Frag} {x : Str} {st : Stmt} {f : Addr} {oc : Value} {od an : Option Addr} {osl : Array (Option Value)} {kV doc pm cdv ct : Value} (a : PySem.W.nsIn K mainGlobals x = some (some (.ref f)))
   (l : K.lookup f = some ⟨oc, od, .func (PySem.W.fnOf x x (defArgs st) (defBody st) (defScope st) .none kV doc pm an cdv ct), osl⟩)
   (c : PySem.W.codeIn K cdv x = true) (k : PySem.W.keepIn K (.ref f) = true) : DefK K x st := ⟨f, _, a, znE l c k⟩
def FnsOk (P : Program) (w : World) (K : PySem.W.Frag) (mg : Str → Option Value) (base : Heap) (k : Nat) (fns : List (Str × Nat × GN)) : Prop := ∀ y n ψ, fns.lookup y = some (n, ψ) → FnAt P w K mg base k y n ψ
section
variable {P : Program} {w : World} {K : PySem.W.Frag} {mg : Str → Option Value} {base h : Heap}
theorem FnsOk.nil {k : Nat} : FnsOk P w K mg base k [] := λ_ _ _ e => by cases e
theorem FnsOk.snoc {k n : Nat} {x : Str} {φ : GN} {fns : List (Str × Nat × GN)} (hs : FnsOk P w K mg base k fns) (h : FnAt P w K mg base (k + 1) x n φ) : FnsOk P w K mg base (k + 1) ((x, n, φ) :: fns) := λy m ψ e => by
 rw [List.lookup_cons] at e
 split at e
 · rename_i q
   cases e
   have : y = x := by simpa using q
   subst this
   exact h
 · exact (hs y m ψ e).mono (Nat.le_succ _)
def BindK (x : Str) (st : Stmt) (ps : List Str) : Prop := ∀ (kV doc pm : Value) (an : Option Addr) (cdv ct : Value) (us : List Value), us.length = ps.length → bindArgs (PySem.W.fnOf x x (defArgs st) (defBody st) (defScope st) .none kV doc pm an cdv ct) ⟨us, []⟩ = pure (ps.zip us)
theorem bind1 {x : Str} {st : Stmt} {p0 : Str} (h : ∀ (kV doc pm : Value) (an : Option Addr) (cdv ct : Value) (u0 : Value), bindArgs (PySem.W.fnOf x x (defArgs st) (defBody st) (defScope st) .none kV doc pm an cdv ct) ⟨[u0], []⟩ = pure ([p0].zip [u0])) : BindK x st [p0] := λkV doc pm an cdv ct us hl => match us, hl with
 | [u0], _ => h kV doc pm an cdv ct u0
theorem bind2 {x : Str} {st : Stmt} {p0 p1 : Str} (h : ∀ (kV doc pm : Value) (an : Option Addr) (cdv ct : Value) (u0 u1 : Value), bindArgs (PySem.W.fnOf x x (defArgs st) (defBody st) (defScope st) .none kV doc pm an cdv ct) ⟨[u0, u1], []⟩ = pure ([p0, p1].zip [u0, u1])) : BindK x st [p0, p1] := λkV doc pm an cdv ct us hl => match us, hl with
 | [u0, u1], _ => h kV doc pm an cdv ct u0 u1
theorem bind3 {x : Str} {st : Stmt} {p0 p1 p2 : Str} (h : ∀ (kV doc pm : Value) (an : Option Addr) (cdv ct : Value) (u0 u1 u2 : Value), bindArgs (PySem.W.fnOf x x (defArgs st) (defBody st) (defScope st) .none kV doc pm an cdv ct) ⟨[u0, u1, u2], []⟩ = pure ([p0, p1, p2].zip [u0, u1, u2])) : BindK x st [p0, p1, p2] := λkV doc pm an cdv ct us hl => match us, hl with
 | [u0, u1, u2], _ => h kV doc pm an cdv ct u0 u1 u2
theorem bind4 {x : Str} {st : Stmt} {p0 p1 p2 p3 : Str} (h : ∀ (kV doc pm : Value) (an : Option Addr) (cdv ct : Value) (u0 u1 u2 u3 : Value), bindArgs (PySem.W.fnOf x x (defArgs st) (defBody st) (defScope st) .none kV doc pm an cdv ct) ⟨[u0, u1, u2, u3], []⟩ = pure ([p0, p1, p2, p3].zip [u0, u1, u2, u3])) : BindK x st [p0, p1, p2, p3] := λkV doc pm an cdv ct us hl => match us, hl with
 | [u0, u1, u2, u3], _ => h kV doc pm an cdv ct u0 u1 u2 u3
theorem zah {x : Str} {st : Stmt} {ps : List Str} {k m n : Nat} {fns : List (Str × Nat × GN)} {blt : List Str} {fb : SF} (hs : FnsOk P w K mg base k fns) (KX : K.In h) (G : h.Ns mainGlobals mg) (hblt : ∀ y ∈ blt, mg y = none)
   (hD : DefK K x st) (hb0 : BindK x st ps) (S : FnScope (ownN (defScope st).names) ps (defScope st)) (hu : (defScope st).names.all (λy => decide ((defScope st).names.lookup y.1 = some y.2)) = true)
   (hn : (ownN (defScope st).names).length = n) (hb : cSs m (mkC st fns blt) (defBody st) = some fb) : FnsOk P w K mg base (k + 1) ((x, ps.length, fnOf n fb) :: fns) := by
 obtain ⟨f, fd, a, F⟩ := hD
 exact hs.snoc (zox F (PySem.W.mg_of KX G a) (F.binds hb0) S hu hs hblt hb λds S₀ z S' hw _ e => zfL hn hw e)
theorem zjI {x : Str} {st : Stmt} {p1 p2 : Str} {m n : Nat} {fns : List (Str × Nat × GN)} {blt : List Str} {fb : Addr → GN → SF} (KX : K.In h) (G : h.Ns mainGlobals mg) (hblt : ∀ y ∈ blt, mg y = none)
   (hD : DefK K x st) (hb0 : BindK x st [p1, p2]) (S : FnScope (ownN (defScope st).names) [p1, p2] (defScope st)) (hu : (defScope st).names.all (λy => decide ((defScope st).names.lookup y.1 = some y.2)) = true)
   (hn : (ownN (defScope st).names).length = n) (hb : ∀ a ψ, cSs m (mkCL st fns blt p2 a ψ) (defBody st) = some (fb a ψ)) :
   ∃ f fd, mg x = some (.ref f) ∧ PySem.W.keepIn K (.ref f) = true ∧ Binds K fd [p1, p2] [] ∧ ∀ (base : Heap) (k : Nat), FnsOk P w K mg base k fns → HofOk P w K mg base k f fd [p1, p2] (λa ψ => fnOf n (fb a ψ)) := by
 obtain ⟨f, fd, a, F⟩ := hD
 exact ⟨f, fd, PySem.W.mg_of KX G a, F.kp, F.binds hb0, λbase k hs => zjH F S hu hs hblt hb λa ψ ds S₀ z S' hw e => zfL hn hw e⟩
theorem FnsOk.up {j k : Nat} {fns : List (Str × Nat × GN)} (hs : FnsOk P w K mg base j fns) (hjk : j ≤ k) : FnsOk P w K mg base k fns := λy n ψ e => (hs y n ψ e).mono hjk
def DefKc (K : PySem.W.Frag) (x : Str) (st : Stmt) (c : Addr) : Prop := ∃ f fd, PySem.W.nsIn K mainGlobals x = some (some (.ref f)) ∧ Fun K x x st f fd ∧ fd.code = .ref c
theorem zii {x p : Str} {st : Stmt} {k m n : Nat} {fns : List (Str × Nat × GN)} {blt : List Str} {fb : SF} {fa c Pt : Addr} {hof : List (Str × Str × (Addr → GN → GN))} (KX : K.In h) (G : h.Ns mainGlobals mg) (hblt : ∀ y ∈ blt, mg y = none) (hfa : mg x = some (.ref fa))
   (hD : DefKc K x st c) (hC : ∀ h : Heap, K.In h → PySem.W.CodeHd h c Pt) (hb0 : BindK x st [p]) (S : FnScope (ownN (defScope st).names) [p] (defScope st)) (hu : (defScope st).names.all (λy => decide ((defScope st).names.lookup y.1 = some y.2)) = true)
   (hn : (ownN (defScope st).names).length = n) (hb : cSs m (mkCH st fns blt hof) (defBody st) = some fb) (hs : ∀ base, FnsOk P w K mg base k fns)
   (hhof : ∀ y q G, hof.lookup y = some (q, G) → ∃ f fd p1 p2, mg y = some (.ref f) ∧ PySem.W.keepIn K (.ref f) = true ∧ Binds K fd [p1, p2] [] ∧
     (∀ (ap : Pos) (body : Expr) (scope : Scope) (pm cdv ctv : Value) (clos : List (Str × Addr)) (qual : Str) (u : Value), bindArgs (PySem.W.kla_fn "<lambda>" qual (oneArg q ap) body scope clos pm cdv ctv) ⟨[u], []⟩ = pure [(q, u)]) ∧
     ∀ b' : Heap, HofOk P w K mg b' (k + 1) f fd [p1, p2] G)
   (hφ : ∀ ns : List Int, ns.length ≤ 63 → ∃ σ' S'', fb (stD n [.ref 0]) [.frz (ns.map D.int)] = some (.rt (.bl true), σ', S'')) :
   ∃ (fd : FuncData) (c : Addr), (∀ h : Heap, K.In h → PySem.W.CodeHd h c Pt) ∧ (∀ (s : Shared) (v : Value), BindsTo s fd ⟨[v], []⟩ [(p, v)]) ∧ ∀ base : Heap, Mod K mg base → PySem.W.CodeHd base c Pt → BM base mg → FnOk P w K mg base CX0 (k + 3) fa fd [p] (spLawT K 63 Pt) := by
 obtain ⟨f, fd, a, F, hcode⟩ := hD
 have e := hfa.symm.trans (PySem.W.mg_of KX G a)
 cases e
 refine ⟨fd, c, hC, λs v => ?_, λbase M C B => zig F hcode S hu C B (λb' _ _ => hs b') M hblt (λy q G e => ?_) hb λns hl => ?_⟩
 · obtain ⟨oc, od, kV, doc, pm, an, cdv, ct, osl, rfl, lk, hcd⟩ := F.ex
   exact .of_eq (hb0 kV doc pm an cdv ct [v] rfl)
 · obtain ⟨f', fd', p1, p2, m1, m2, m3, m4, m5⟩ := hhof y q G e
   exact ⟨f', fd', p1, p2, m1, m2, m3, m4, λb' _ _ => m5 b'⟩
 · have e0 : startD (ownN (defScope st).names) [D.ref 0] = stD n [D.ref 0] := by unfold startD stD; rw [hn]
   rw [e0]
   exact hφ ns hl
theorem zj8 {blt : List Str} (KX : K.In h) (G : h.Ns mainGlobals mg) (hz : ∀ y ∈ blt, PySem.W.nsIn K mainGlobals y = some none) : ∀ y ∈ blt, mg y = none := λy hy => PySem.W.mg_none_of KX G (hz y hy)
end
end MX
end
section
set_option autoImplicit false
namespace MX
open PySem PySem.Spec PySem.W PyProof.Rows L2
section
variable {P : Program} {w : World} {K : PySem.W.Frag} {mg mb : Str → Option Value}
theorem zih {k : Nat} {fa a : Addr} {fd : FuncData} {x : Str} {s₁ : Shared} {vs : List Value} {ns : List Int} {c Pt : Addr}
   (KX : K.In s₁.heap) (hns : s₁.heap.Ns mainGlobals mg) (hb : s₁.heap.Ns builtinsNs mb) (hbb : ∀ x : Str, x ≠ "__name__" → mb x = bootBuiltins x) (hlim : s₁.heap.NoLimit) (hg : s₁.gens = #[])
   (ha : s₁.heap.get? a = some { cls := .type "list", data := .seq vs.toArray }) (hi : IntsAre vs ns) (hl : ns.length ≤ 63) (hr : Room k callerA)
   (hP : s₁.heap.get? Pt = some (tabObj #[])) (hKP : K.lookup Pt = none) (C : CodeHd s₁.heap c Pt) (hbm : BM s₁.heap mg)
   (F : ∀ base : Heap, Mod K mg base → CodeHd base c Pt → BM base mg → FnOk P w K mg base CX0 k fa fd [x] (spLawT K 63 Pt)) (hbind : ∀ (s : Shared) (u : Value), BindsTo s fd ⟨[u], []⟩ [(x, u)]) :
   codeAny (model P w) callerA (.call (.ref fa) ⟨[.ref a], []⟩) (λr s' => r = .ok (.ret (.bool true)) ∧ OldK s₁.heap s'.heap ∧ s'.os = s₁.os ∧ AllBare s'.gens) s₁ := by
 have rv := zfz hi
 have lenV := hi.length
 have hPa : Pt ≠ a := λz => by rw [z, ha] at hP; cases hP
 have hl' : ns.length ≤ sizeLine := Nat.le_trans hl (by rw [sizeLine_eq]; decide)
 have core : ∀ H : Hp, FzL K H a (ns.map V.int) → HOk P w H s₁.heap → H Pt = some (.tbl #[]) → (∀ b, b ≠ Pt → H b = none ∨ (b = a ∧ K.lookup a = none ∧ ∃ o xs, H b = some (.frz o (.lst xs)))) →
     codeAny (model P w) callerA (.call (.ref fa) ⟨[.ref a], []⟩) (λr s' => r = .ok (.ret (.bool true)) ∧ OldK s₁.heap s'.heap ∧ s'.os = s₁.os ∧ AllBare s'.gens) s₁ := by
   intro H hS hok hT hO
   have base_of : ∀ {b : Addr} {o : Obj}, s₁.heap.get? b = some o → H b = none → (hidT s₁.heap H).get? b = some o := λe n => zjJ e n
   have none_of : ∀ {b : Addr} {o : Obj}, s₁.heap.get? b = some o → o ≠ tabObj #[] → o ≠ { cls := .type "list", data := .seq vs.toArray } → H b = none := λ{b o} e n1 n2 => by
     by_cases hb : b = Pt
     · subst hb; rw [hP] at e; cases e; exact absurd rfl n1
     · rcases hO b hb with z | ⟨z, _⟩
       · exact z
       · subst z; rw [ha] at e; cases e; exact absurd rfl n2
   have noA : ∀ {b : Addr} {o : Obj} {es : Array DictEntry} {ep : Nat}, s₁.heap.get? b = some o → o.data = .dict es ep → H b = none := λ{b o es ep} e d =>
     none_of e (λz => by rw [z] at d; cases d) (λz => by rw [z] at d; cases d)
   have nsK : ∀ {b : Addr} {m : Str → Option Value}, s₁.heap.Ns b m → (hidT s₁.heap H).Ns b m := λ{b m} ⟨o, es, ep, e, d, r⟩ => ⟨o, es, ep, base_of e (noA e d), d, r⟩
   have hKb : K.In (hidT s₁.heap H) := λb o e => base_of (KX b o e) (by
     by_cases hb : b = Pt
     · subst hb; rw [hKP] at e; cases e
     · rcases hO b hb with z | ⟨z, z2, _⟩
       · exact z
       · subst z; rw [z2] at e; cases e)
   have hM : Mod K mg (hidT s₁.heap H) := ⟨hKb, nsK hns, ⟨mb, nsK hb, hbb⟩, let ⟨mc, h1, h2⟩ := hlim; ⟨mc, nsK h1, h2⟩⟩
   have e0 : Env0 P w K mg (hidT s₁.heap H) callerA [] s₁ H := ⟨rfl, hM, λb o e => zlA e, Nat.le_of_eq (zit _ _), trivial, λb hb => absurd (show b ∈ ([] : List Addr) from hb) (by simp), hok, .of_eq hg⟩
   have hC : CodeHd (hidT s₁.heap H) c Pt := by
     obtain ⟨o, vs', file, tf, flags, tg, inF, text, tt, e, hc1, hc2, r⟩ := C
     exact ⟨o, vs', file, tf, flags, tg, inF, text, tt, base_of e (none_of e (λz => by rw [z] at hc1; cases hc1) (λz => by rw [z] at hc1; exact absurd (Value.type.inj hc1) (by decide))), hc1, hc2, r⟩
   have hB : BM (hidT s₁.heap H) mg := by
     obtain ⟨bm, o, h1, h2, h3, h4, h5, h6⟩ := hbm
     exact ⟨bm, o, h1, h2, base_of h3 (none_of h3 (λz => by rw [z] at h4; cases h4) (λz => by rw [z] at h4; exact absurd (Value.type.inj h4) (by decide))), h4, h5, h6⟩
   have hsp : spLawT K 63 Pt [.ref a] H (λv _ => v = .bl true) λ_ _ _ => False := ⟨⟨_, hT⟩, a, ns, rfl, hS, hl, λ_ => rfl⟩
   refine codeAny_mono ((F _ hM hC hB).run callerA [] s₁ H ⟨[.ref a], []⟩ [.ref a] [.ref a] _ _ hr e0 (hbind s₁ (.ref a)) (.cons rfl .nil) hsp) λr s' h => ?_
   cases r with
   | error e => exact h.elim
   | ok fl =>
     cases fl with
     | next => exact False.elim h
     | brk => exact False.elim h
     | cont => exact False.elim h
     | ret u =>
       obtain ⟨v, H', os, bare, un, hok', r', q⟩ := h
       have q' : v = .bl true := q
       subst q'
       obtain rfl : u = Value.bool true := r'
       have kept : ∀ b o, b ≠ Pt → s₁.heap.get? b = some o → s'.heap.get? b = some o := λb o hb e => by
         rcases hO b hb with z | ⟨_, _, ob, xs, z⟩
         · exact un.keep b o e z (by intro z; exact absurd (show b ∈ ([] : List Addr) from z) (by simp)) (by simp)
         · have z2 := un.frzs b ob _ z
           obtain ⟨e1, _⟩ := hok b _ z
           obtain ⟨e2, _⟩ := hok' b _ z2
           rw [e] at e1; cases e1
           exact e2
       obtain ⟨more, hm⟩ := un.tbls Pt _ hT
       obtain ⟨em, _⟩ := hok' Pt _ hm
       refine ⟨rfl, ⟨λb o e => ?_, λb o e => ?_⟩, os, bare⟩
       · by_cases hb : b = Pt
         · subst hb
           rw [hP] at e; cases e
           exact .inr (.inl ⟨(C.tab hP).isCodeTable, rfl, #[], more, rfl, em⟩)
         · exact .inl (kept b o hb e)
       · by_cases hb : b = Pt
         · subst hb; exact ⟨_, em⟩
         · exact ⟨o, kept b o hb e⟩
 have tabOk : ∀ H : Hp, ObjOk P w H s₁.heap Pt (.tbl #[]) := λH => ⟨hP, trivial, λpos cv q => by simp [codeAmong] at q⟩
 cases hk : K.lookup a with
 | some o =>
   have e := KX a o hk
   rw [ha] at e
   cases e
   refine core (λb => if b = Pt then some (.tbl #[]) else none) (.inr ⟨_, vs.toArray, _, hk, rfl, rfl, rfl, by rw [List.size_toArray, lenV]; exact hl', by simpa using rv⟩) (λb u z => ?_) (if_pos rfl) (λb hb => .inl (if_neg hb))
   by_cases hb : b = Pt
   · have z' := (if_pos hb).symm.trans z
     cases z'; subst hb
     exact tabOk _
   · have z' := (if_neg hb).symm.trans z
     cases z'
 | none =>
   refine core (λb => if b = Pt then some (.tbl #[]) else if b = a then some (.frz { cls := .type "list", data := .seq vs.toArray } (.lst (ns.map V.int))) else none) (.inl ⟨{ cls := .type "list", data := .seq vs.toArray }, (if_neg (Ne.symm hPa)).trans (if_pos rfl)⟩) (λb u z => ?_) (if_pos rfl) (λb hb => ?_)
   · by_cases hb : b = Pt
     · have z' := (if_pos hb).symm.trans z
       cases z'; subst hb
       exact tabOk _
     · have z1 := (if_neg hb).symm.trans z
       by_cases hba : b = a
       · have z' := (if_pos hba).symm.trans z1
         cases z'
         subst hba
         exact ⟨ha, by rw [List.length_map]; exact hl', vs, _, rv, ha⟩
       · have z' := (if_neg hba).symm.trans z1
         cases z'
   · by_cases hba : b = a
     · exact .inr ⟨hba, hk, _, _, (if_neg hb).trans (if_pos hba)⟩
     · exact .inl ((if_neg hb).trans (if_neg hba))
end
end MX
end
section
set_option autoImplicit false
namespace MX
open PySem PySem.Spec PySem.W PyProof.Rows L2
theorem zen : ∀ (os : List Obj) (b a : Nat) (o : Obj), (fragFrom os b).lookup a = some o → b ≤ a ∧ os[a - b]? = some o ∧ keepO a o = true
 | [], _, _, _, e => by cases e
 | o' :: r, b, a, o, e => by
   have low : (fragFrom r (Nat.succ b)).lookup a = some o → b ≤ a ∧ (o' :: r)[a - b]? = some o ∧ keepO a o = true := λe => by
     obtain ⟨h1, h2, h3⟩ := zen r (Nat.succ b) a o e
     refine ⟨by omega, ?_, h3⟩
     have : a - b = (a - Nat.succ b) + 1 := by omega
     rw [this, List.getElem?_cons_succ]
     exact h2
   unfold fragFrom at e
   cases q : keepO b o' with
   | false => rw [q] at e; exact low e
   | true =>
     rw [q] at e
     simp only [cond_true, List.lookup_cons] at e
     cases z : a == b with
     | false => rw [z] at e; exact low e
     | true =>
       rw [z] at e
       cases e
       have z' : a = b := by simpa using z
       subst z'
       exact ⟨Nat.le_refl _, by rw [Nat.sub_self]; rfl, q⟩
theorem zfK (h : Heap) : (fragAt h).In h := λa o e => by
 obtain ⟨_, h2, h3⟩ := zen _ _ _ _ e
 rw [Nat.sub_zero, Array.getElem?_toList] at h2
 unfold Heap.get?
 rw [h2]
 obtain ⟨c, d, dt, sl⟩ := o
 cases dt <;> first | rfl | (exact absurd h3 (by intro z; cases z))
theorem zoF (s : Stmt) : dA s = defArgs s := by cases s <;> rfl
theorem zoE (s : Stmt) : dB s = defBody s := by cases s <;> rfl
theorem zoD (s : Stmt) : dS s = defScope s := by cases s <;> rfl
theorem DefK.of_seen {K : PySem.W.Frag} {x : Str} {st : Stmt} (h : seenDef K x = some (dA st, dB st, dS st, true)) : DefK K x st := by
 rw [zoF, zoE, zoD] at h
 unfold seenDef at h
 split at h
 · rename_i f a
   split at h
   · rename_i oc od n q ps b sc g kV doc pm an cd ct bn osl l
     simp only [Option.some.injEq, Prod.mk.injEq, Bool.and_eq_true, beq_iff_eq] at h
     obtain ⟨e1, e2, e3, e4, e5, e6, e7, e8, e9⟩ := h
     have e6 := Nat.eq_of_beq_eq_true e6
     have e7 := Nat.eq_of_beq_eq_true e7
     subst e1 e2 e3 e4 e5 e6 e7
     exact DefK.mk' a l e8 e9
   · cases h
 · cases h
theorem zgb {K : PySem.W.Frag} {h : Heap} {x : Str} {st : Stmt} (D : DefK K x st) (e : seenCode K h x = (some (tabObj #[]), true)) :
   ∃ c Pt : Addr, DefKc K x st c ∧ codeHdIn K c Pt = true ∧ K.lookup Pt = none ∧ h.get? Pt = some (tabObj #[]) := by
 obtain ⟨f, fd, a, F⟩ := D
 unfold seenCode at e
 rw [a] at e
 simp only at e
 split at e
 · rename_i oc od F' osl l
   split at e
   · rename_i c hc
     split at e
     · rename_i c1 d1 vs s1 lc
       split at e
       · rename_i Pt hv
         simp only [Prod.mk.injEq, Bool.and_eq_true] at e
         obtain ⟨e1, e2, e3⟩ := e
         refine ⟨c, Pt, ⟨f, fd, a, F, ?_⟩, e2, ?_, e1⟩
         · obtain ⟨oc', od', kV, doc, pm, an, cdv, ct, osl', hfd, hl, _⟩ := F.ex
           rw [l] at hl
           cases hl
           exact hc
         · cases q : K.lookup Pt with
           | none => rfl
           | some o => rw [q] at e3; cases e3
       · cases e
     · cases e
   · cases e
 · cases e
def topHook (ds : List (Str × Stmt)) (blt : List Str) : Hook where
 α := List (Option (Arguments × List Stmt × Scope × Bool)) × List (Option (Option Value))
 obs := obsP ds blt
 val := λ_ => valP ds blt
 says := λ_ h => ∃ K : PySem.W.Frag, K.In h ∧ (∀ y ∈ ds, DefK K y.1 y.2) ∧ ∀ y ∈ blt, nsIn K mainGlobals y = some none
 of := λ_ s e => ⟨fragAt s.heap, zfK _, λy hy => DefK.of_seen (List.map_inj_left.mp (Prod.mk.inj e).1 y hy), List.map_inj_left.mp (Prod.mk.inj e).2⟩
 keeps := λ_ _ _ ⟨K, a, b⟩ k => ⟨K, a.keeps k, b⟩
def topHookT (ds : List (Str × Stmt)) (blt : List Str) (x : Str) (st : Stmt) : Hook where
 α := (List (Option (Arguments × List Stmt × Scope × Bool)) × List (Option (Option Value))) × Option (Arguments × List Stmt × Scope × Bool) × (Option Obj × Bool)
 obs := obsT ds blt x
 val := λ_ => valT ds blt st
 says := λ_ h => ∃ K : PySem.W.Frag, K.In h ∧ ((∀ y ∈ ds, DefK K y.1 y.2) ∧ ∀ y ∈ blt, nsIn K mainGlobals y = some none) ∧ ∃ c Pt : Addr, DefKc K x st c ∧ codeHdIn K c Pt = true ∧ K.lookup Pt = none ∧ h.get? Pt = some (tabObj #[])
 of := λ_ s e => ⟨fragAt s.heap, zfK _, ⟨λy hy => DefK.of_seen (List.map_inj_left.mp (Prod.mk.inj (Prod.mk.inj e).1).1 y hy), List.map_inj_left.mp (Prod.mk.inj (Prod.mk.inj e).1).2⟩,
   zgb (DefK.of_seen (Prod.mk.inj (Prod.mk.inj e).2).1) (Prod.mk.inj (Prod.mk.inj e).2).2⟩
 keeps := λ_ _ _ ⟨K, a, b, c, Pt, z1, z2, z3, z4⟩ k => ⟨K, a.keeps k, b, c, Pt, z1, z2, z3, k _ _ z4⟩
theorem zhy {l : PySem.W.OpenLaw} {q : Program} {loose : List Str} {XP : (Str → Option Value) → Heap → Prop} {d : DefRec} {x y : Str} {k : Nat} {ds : List (Str × Stmt)} {blt : List Str} {st : Stmt} (hn : l.most = some 63) (hdf : d.params.defaults = []) (hr : Room k callerA)
   (F : ∀ (w : World) (mg : Str → Option Value) (fa : Addr) (h : Heap) (K : PySem.W.Frag) (c Pt : Addr), K.In h → h.Ns mainGlobals mg → mg d.name = some (.ref fa) → (∀ y ∈ ds, DefK K y.1 y.2) → (∀ y ∈ blt, nsIn K mainGlobals y = some none) → DefKc K y st c →
     (∀ h : Heap, K.In h → CodeHd h c Pt) →
     ∃ (fd : FuncData) (c : Addr), (∀ h : Heap, K.In h → CodeHd h c Pt) ∧ (∀ (s : Shared) (u : Value), BindsTo s fd ⟨[u], []⟩ [(x, u)]) ∧ ∀ base : Heap, Mod K mg base → CodeHd base c Pt → BM base mg → FnOk l.prog w K mg base CX0 k fa fd [x] (spLawT K 63 Pt)) :
   PySem.W.WalkO q loose XP (topHookT ds blt y st).says l.row.toRowW d [] (λf vs => PySem.call f vs) := by
 refine Att.zgp hn hdf λw s₀ s₁ mg mb fa o pm cd doc a vs ns G Y ho hd hcd hmg hobj hints hlen hg => ?_
 obtain ⟨K, KX, ⟨hD, hB⟩, c0, Pt, z1, z2, z3, z4⟩ := Y
 obtain ⟨fd, c, hC, hb, hF⟩ := F w mg fa _ K c0 Pt KX G.T.g hmg hD hB z1 (λh X => codeHd_of_K X z2)
 have hbm : BM s₁.heap mg := by
   obtain ⟨bm, ob, b1, b2, b3, b4, b5, b6⟩ := G.T.bmain
   exact ⟨bm, ob, b1, b2, b3, b4, b5, b6⟩
 exact zih KX G.T.g G.T.b G.T.builtins G.T.nolimit hg hobj hints hlen hr z4 z3 (hC _ KX) hbm hF hb
theorem zlK {l : PySem.W.OpenLaw} {q : Program} {d : DefRec} {H : Hook} {N : Nat} (said0 : l.wellSaid = true)
   (left : LeftO l.prog q [] (λ_ => true) H.obs H.val N) (hdef : defOf q l.name = some (d, [])) (hp : l.prog.theDef l.name = some (d.params, d.body, d.scope))
   (hk : kwWritten? d.params.kwonlyargs d.params.kw_defaults = some []) (ok : (chainsOk q && opensWell l.prog && (frees l.row.toRowW && l.row.within.isEmpty)) = true) (hb : l.prog.bare) (hw : l.row.toRowW.promised)
   (call : PySem.W.WalkO q [] (λ_ _ => True) H.says l.row.toRowW d [] λf vs => PySem.call f vs) : l.Holds := by
 refine holds_law said0 λsaid => ?_
 refine holds_open (r := l.row) (Xt := λ_ => true) (XP := λ_ _ => True) left H.of H.keeps ?_ ?_ hdef hp hk ?_ ?_ said ok hb hw call
 · exact λ_ _ => trivial
 · exact λ_ _ _ _ _ => trivial
 · exact λs _ => recFacts_of (R := []) rfl
 · show (!l.row.writes || true) = true
   exact Bool.or_true _
end MX
end
section
namespace MX.P
open PySem L2 MX
def zdW : SF := sSeq (sRet (eLc (iVal (eVar 0)) (gNm 0) (tTru) (eB gIx (eVar 0) (eVar 1)) [none, some 1])) (sPass)
def zfN : GN := fnOf 2 zdW
def zcf : SF := sSeq (sRet (eN gAll (aCons (eLc (iZip (aCons (eVar 0) (aCons (eVar 1) (aNil)))) (gTp 2 (gsCons (gNm 0) (gsCons (gNm 1) (gsNil)))) (tTru) (eB (gCmp .LtE) (eVar 0) (eVar 1)) [none, none]) (aNil)))) (sPass)
def zb4 : GN := fnOf 2 zcf
def zdM : SF := sSeq (sIf (tBl (eB (gCmp .Eq) (eSl (eVar 0) (pNone) (pSome (eC (.int 1)))) (eN gTup (aCons (eC (.str "box")) (aNil))))) (sSeq (sRet (eAnd (eB (gCmp .Eq) (eN gLen (aCons (eVar 0) (aNil))) (eC (.int 3))) (eN (nArgs 2 zb4) (aCons (eB gIx (eVar 0) (eC (.int 1))) (aCons (eB gIx (eVar 0) (eC (.int 2))) (aNil)))))) (sPass)) (sPass)) (sSeq (sRet (eAnd (eB (gCmp .Eq) (eSl (eVar 0) (pNone) (pSome (eC (.int 1)))) (eN gTup (aCons (eC (.str "triangle")) (aNil)))) (eB (gCmp .Eq) (eN gLen (aCons (eVar 0) (aNil))) (eC (.int 4))))) (sPass))
def zc2 : GN := fnOf 1 zdM
def zbj : SF := sSeq (sIf (tNotF (tVal (eN (nArgs 1 zc2) (aCons (eVar 0) (aNil))))) (sSeq (sNever) (sPass)) (sPass)) (sPass)
def zbf : GN := fnOf 1 zbj
def zcE : SF := sSeq (sIf (tBl (eB (gCmp .Eq) (eVar 0) (eN gLst (aNil)))) (sSeq (sRet (eB (gBin .Mult) (eVar 1) (eC (.int 7919)))) (sPass)) (sPass)) (sSeq (sRet (eB (gBin .Add) (eB gIx (eVar 0) (eB (gBin .Mod) (eVar 1) (eN gLen (aCons (eVar 0) (aNil))))) (eB (gBin .Mult) (eB (gBin .FloorDiv) (eVar 1) (eN gLen (aCons (eVar 0) (aNil)))) (eC (.int 104729))))) (sPass))
def zdf : GN := fnOf 2 zcE
def zb2 : SF := sSeq (sAsg (eB (gBin .Mod) (eB (gBin .Add) (eB (gBin .Mult) (eVar 0) (eC (.int 6364136223846793005))) (eB (gBin .Mult) (eB (gBin .Add) (eVar 1) (eC (.int 1))) (eC (.int 1442695040888963407)))) (eC (.int 340282366920938463463374607431768211507))) (gNm 2)) (sSeq (sRet (eB (gBin .Mod) (eB (gBin .Mult) (eVar 2) (eVar 2)) (eC (.int 340282366920938463463374607431768211297)))) (sPass))
def zaU : GN := fnOf 3 zb2
def zb1 : SF := sSeq (sAsg (eN (nArgs 2 zaU) (aCons (eVar 0) (aCons (eVar 1) (aNil)))) (gNm 2)) (sSeq (sAsg (eB gIx (eN gLst (aCons (eC (.int 3)) (aCons (eC (.int 7)) (aCons (eC (.int 13)) (aCons (eC (.int 2001)) (aNil)))))) (eB (gBin .Mod) (eVar 2) (eC (.int 4)))) (gNm 3)) (sSeq (sAsg (eN gTuple (aCons (eLc (iRg1 (aCons (eC (.int 3)) (aNil))) (gNm 0) (tTru) (eB (gBin .Sub) (eB (gBin .Mod) (eB (gBin .FloorDiv) (eVar 1) (eB (gBin .Mult) (eC (.int 8)) (eB (gBin .Add) (eB (gBin .Mult) (eVar 0) (eC (.int 37))) (eC (.int 1))))) (eVar 2)) (eB (gBin .FloorDiv) (eVar 2) (eC (.int 2)))) [none, some 2, some 3]) (aNil))) (gNm 4)) (sSeq (sIf (tBl (eB (gCmp .Eq) (eB (gBin .Mod) (eB (gBin .FloorDiv) (eVar 2) (eC (.int 4))) (eC (.int 16))) (eC (.int 3)))) (sSeq (sRet (eN gTuple (aCons (eLc (iVal (eVar 4)) (gNm 0) (tTru) (eB (gBin .Mult) (eVar 0) (eB (gBin .Add) (eC (.int 1)) (eB (gBin .Mod) (eVar 1) (eB (gBin .LShift) (eC (.int 1)) (eC (.int 60)))))) [none, some 0]) (aNil)))) (sPass)) (sPass)) (sSeq (sRet (eVar 4)) (sPass)))))
def za1 : GN := fnOf 5 zb1
def zbz : SF := sSeq (sWh (tBl (eB (gCmp .NotEq) (eVar 1) (eC (.int 0)))) (sSeq (sAsg (eB (gBin .Mod) (eVar 0) (eVar 1)) (gNm 2)) (sSeq (sAsg (eVar 1) (gNm 0)) (sSeq (sAsg (eVar 2) (gNm 1)) (sPass))))) (sSeq (sRet (eN gAbs (aCons (eVar 0) (aNil)))) (sPass))
def zaZ : GN := fnOf 3 zbz
def zb8 : SF := sSeq (sAsg (eN (nArgs 2 zaZ) (aCons (eB gIx (eVar 0) (eC (.int 0))) (aCons (eB gIx (eVar 0) (eC (.int 1))) (aNil)))) (gNm 1)) (sSeq (sRet (eN gTup (aCons (eB (gBin .FloorDiv) (eB gIx (eVar 0) (eC (.int 0))) (eVar 1)) (aCons (eB (gBin .FloorDiv) (eB gIx (eVar 0) (eC (.int 1))) (eVar 1)) (aNil))))) (sPass))
def zaC : GN := fnOf 2 zb8
def zdw : SF := sSeq (sRet (eB (gCmp .Lt) (eB (gBin .Mult) (eB gIx (eVar 0) (eC (.int 0))) (eB gIx (eVar 1) (eC (.int 1)))) (eB (gBin .Mult) (eB gIx (eVar 1) (eC (.int 0))) (eB gIx (eVar 0) (eC (.int 1)))))) (sPass)
def zck : GN := fnOf 2 zdw
def zbI : SF := sSeq (sRet (eN gTup (aCons (eB (gBin .Sub) (eB gIx (eVar 1) (eC (.int 0))) (eB gIx (eVar 0) (eC (.int 0)))) (aCons (eB (gBin .Sub) (eB gIx (eVar 1) (eC (.int 1))) (eB gIx (eVar 0) (eC (.int 1)))) (aCons (eB (gBin .Sub) (eB gIx (eVar 1) (eC (.int 2))) (eB gIx (eVar 0) (eC (.int 2)))) (aNil)))))) (sPass)
def zae : GN := fnOf 2 zbI
def zka : SF := sSeq (sRet (eB (gBin .Add) (eB (gBin .Add) (eB (gBin .Mult) (eB gIx (eVar 0) (eC (.int 0))) (eB gIx (eVar 1) (eC (.int 0)))) (eB (gBin .Mult) (eB gIx (eVar 0) (eC (.int 1))) (eB gIx (eVar 1) (eC (.int 1))))) (eB (gBin .Mult) (eB gIx (eVar 0) (eC (.int 2))) (eB gIx (eVar 1) (eC (.int 2)))))) (sPass)
def za0 : GN := fnOf 2 zka
def zfx : SF := sSeq (sRet (eN gTup (aCons (eB (gBin .Sub) (eB (gBin .Mult) (eB gIx (eVar 0) (eC (.int 1))) (eB gIx (eVar 1) (eC (.int 2)))) (eB (gBin .Mult) (eB gIx (eVar 0) (eC (.int 2))) (eB gIx (eVar 1) (eC (.int 1))))) (aCons (eB (gBin .Sub) (eB (gBin .Mult) (eB gIx (eVar 0) (eC (.int 2))) (eB gIx (eVar 1) (eC (.int 0)))) (eB (gBin .Mult) (eB gIx (eVar 0) (eC (.int 0))) (eB gIx (eVar 1) (eC (.int 2))))) (aCons (eB (gBin .Sub) (eB (gBin .Mult) (eB gIx (eVar 0) (eC (.int 0))) (eB gIx (eVar 1) (eC (.int 1)))) (eB (gBin .Mult) (eB gIx (eVar 0) (eC (.int 1))) (eB gIx (eVar 1) (eC (.int 0))))) (aNil)))))) (sPass)
def zaO : GN := fnOf 2 zfx
def zcQ : SF := sSeq (sIf (tBl (eB (gCmp .Gt) (eVar 1) (eC (.int 0)))) (sSeq (sRet (eN gTup (aCons (eN gTup (aCons (eB (gBin .Sub) (eVar 2) (eVar 0)) (aCons (eVar 1) (aNil)))) (aCons (eN gTup (aCons (eB (gBin .Sub) (eVar 3) (eVar 0)) (aCons (eVar 1) (aNil)))) (aNil))))) (sPass)) (sPass)) (sSeq (sRet (eN gTup (aCons (eN gTup (aCons (eB (gBin .Sub) (eVar 0) (eVar 3)) (aCons (eU gNeg (eVar 1)) (aNil)))) (aCons (eN gTup (aCons (eB (gBin .Sub) (eVar 0) (eVar 2)) (aCons (eU gNeg (eVar 1)) (aNil)))) (aNil))))) (sPass))
def zcN : GN := fnOf 4 zcQ
def zgw : SF := sAsg (eN gTup (aCons (eC (.int 0)) (aCons (eC (.int 1)) (aNil)))) (gNm 2)
def zgv : SF := sAsg (eC .non) (gNm 3)
def zeO : SF := sIf (tBl (eB (gCmp .Eq) (eVar 5) (eC (.int 0)))) (sSeq (sIf (tOrF (tBl (eB (gCmp .Lt) (eVar 4) (eVar 6))) (tBl (eB (gCmp .Gt) (eVar 4) (eVar 7)))) (sSeq (sRet (eC .non)) (sPass)) (sPass)) (sSeq (sCnt) (sPass))) (sPass)
def zeN : SF := sAsg (eN (nArgs 4 zcN) (aCons (eVar 4) (aCons (eVar 5) (aCons (eVar 6) (aCons (eVar 7) (aNil)))))) (gNm 8)
def zeM : SF := sIf (tVal (eN (nArgs 2 zck) (aCons (eVar 2) (aCons (eB gIx (eVar 8) (eC (.int 0))) (aNil))))) (sSeq (sAsg (eB gIx (eVar 8) (eC (.int 0))) (gNm 2)) (sPass)) (sPass)
def zeL : SF := sIf (tOrF (tBl (eB (gCmp .Is) (eVar 3) (eC .non))) (tVal (eN (nArgs 2 zck) (aCons (eB gIx (eVar 8) (eC (.int 1))) (aCons (eVar 3) (aNil)))))) (sSeq (sAsg (eB gIx (eVar 8) (eC (.int 1))) (gNm 3)) (sPass)) (sPass)
def zfY : SF := sSeq zeO (sSeq zeN (sSeq zeM (sSeq zeL sPass)))
def zgu : SF := sFor (iZip (aCons (eB gIx (eVar 0) (eC (.int 0))) (aCons (eB gIx (eVar 0) (eC (.int 1))) (aCons (eB gIx (eVar 1) (eC (.int 0))) (aCons (eB gIx (eVar 1) (eC (.int 1))) (aNil)))))) (gTp 4 (gsCons (gNm 4) (gsCons (gNm 5) (gsCons (gNm 6) (gsCons (gNm 7) (gsNil)))))) zfY
def zgt : SF := sIf (tVal (eN (nArgs 2 zck) (aCons (eVar 3) (aCons (eVar 2) (aNil))))) (sSeq (sRet (eC .non)) (sPass)) (sPass)
def zgs : SF := sRet (eN gTup (aCons (eVar 2) (aCons (eVar 3) (aNil))))
def zfZ : SF := sSeq zgw (sSeq zgv (sSeq zgu (sSeq zgt (sSeq zgs sPass))))
def zfM : GN := fnOf 9 zfZ
def zeB : SF := sSeq (sAsg (eN (nArgs 2 zfM) (aCons (eVar 0) (aCons (eVar 1) (aNil)))) (gNm 2)) (sSeq (sIf (tBl (eB (gCmp .Is) (eVar 2) (eC .non))) (sSeq (sRet (eC .non)) (sPass)) (sPass)) (sSeq (sRet (eN (nArgs 1 zaC) (aCons (eB gIx (eVar 2) (eC (.int 0))) (aNil)))) (sPass)))
def zer : GN := fnOf 3 zeB
def zc4 : SF := sSeq (sRet (eN gLst (aCons (eN gTup (aCons (eB gIx (eVar 0) (eC (.int 0))) (aCons (eB gIx (eVar 0) (eC (.int 1))) (aNil)))) (aCons (eN gTup (aCons (eB gIx (eVar 0) (eC (.int 1))) (aCons (eB gIx (eVar 0) (eC (.int 2))) (aNil)))) (aCons (eN gTup (aCons (eB gIx (eVar 0) (eC (.int 2))) (aCons (eB gIx (eVar 0) (eC (.int 0))) (aNil)))) (aNil)))))) (sPass)
def zbg : GN := fnOf 1 zc4
def za8 : SF := sSeq (sAsg (eB gIx (eVar 0) (eC (.int 1))) (gNm 3)) (sSeq (sAsg (eN (nArgs 2 zae) (aCons (eB gIx (eVar 0) (eC (.int 0))) (aCons (eVar 1) (aNil)))) (gNm 4)) (sSeq (sIf (tBl (eB (gCmp .NotEq) (eN (nArgs 2 zaO) (aCons (eVar 4) (aCons (eVar 3) (aNil)))) (eN gTup (aCons (eC (.int 0)) (aCons (eC (.int 0)) (aCons (eC (.int 0)) (aNil))))))) (sSeq (sRet (eC .non)) (sPass)) (sPass)) (sSeq (sAsg (eN gTup (aCons (eN (nArgs 2 za0) (aCons (eVar 4) (aCons (eVar 3) (aNil)))) (aCons (eN (nArgs 2 za0) (aCons (eN (nArgs 2 zae) (aCons (eB gIx (eVar 0) (eC (.int 0))) (aCons (eVar 2) (aNil)))) (aCons (eVar 3) (aNil)))) (aNil)))) (gNm 5)) (sSeq (sIf (tBl (eB (gCmp .Lt) (eN gMax' (aCons (eVar 5) (aNil))) (eC (.int 0)))) (sSeq (sRet (eC .non)) (sPass)) (sPass)) (sSeq (sRet (eN (nArgs 1 zaC) (aCons (eN gTup (aCons (eN gMax' (aCons (eN gMin' (aCons (eVar 5) (aNil))) (aCons (eC (.int 0)) (aNil)))) (aCons (eN (nArgs 2 za0) (aCons (eVar 3) (aCons (eVar 3) (aNil)))) (aNil)))) (aNil)))) (sPass))))))
def zcB : GN := fnOf 6 za8
def zax : SF := sSeq (sAsg (eB gIx (eVar 0) (eC (.int 1))) (gNm 3)) (sSeq (sAsg (eN (nArgs 2 zae) (aCons (eVar 1) (aCons (eVar 2) (aNil)))) (gNm 4)) (sSeq (sAsg (eN (nArgs 2 zaO) (aCons (eVar 3) (aCons (eVar 4) (aNil)))) (gNm 5)) (sSeq (sIf (tBl (eB (gCmp .Eq) (eVar 5) (eN gTup (aCons (eC (.int 0)) (aCons (eC (.int 0)) (aCons (eC (.int 0)) (aNil))))))) (sSeq (sRet (eN (nArgs 3 zcB) (aCons (eVar 0) (aCons (eVar 1) (aCons (eVar 2) (aNil)))))) (sPass)) (sPass)) (sSeq (sAsg (eN (nArgs 2 zae) (aCons (eB gIx (eVar 0) (eC (.int 0))) (aCons (eVar 1) (aNil)))) (gNm 6)) (sSeq (sIf (tBl (eB (gCmp .NotEq) (eN (nArgs 2 za0) (aCons (eVar 6) (aCons (eVar 5) (aNil)))) (eC (.int 0)))) (sSeq (sRet (eC .non)) (sPass)) (sPass)) (sSeq (sAsg (eN (nArgs 2 za0) (aCons (eVar 5) (aCons (eVar 5) (aNil)))) (gNm 7)) (sSeq (sAsg (eN (nArgs 2 za0) (aCons (eN (nArgs 2 zaO) (aCons (eVar 6) (aCons (eVar 4) (aNil)))) (aCons (eVar 5) (aNil)))) (gNm 8)) (sSeq (sAsg (eN (nArgs 2 za0) (aCons (eN (nArgs 2 zaO) (aCons (eVar 6) (aCons (eVar 3) (aNil)))) (aCons (eVar 5) (aNil)))) (gNm 9)) (sSeq (sIf (tOrF (tBl (eB (gCmp .Lt) (eVar 8) (eC (.int 0)))) (tOrF (tBl (eB (gCmp .Lt) (eVar 9) (eC (.int 0)))) (tBl (eB (gCmp .Gt) (eVar 9) (eVar 7))))) (sSeq (sRet (eC .non)) (sPass)) (sPass)) (sSeq (sRet (eN (nArgs 1 zaC) (aCons (eN gTup (aCons (eVar 8) (aCons (eVar 7) (aNil)))) (aNil)))) (sPass)))))))))))
def zbL : GN := fnOf 10 zax
def zcS : SF := sAsg (eC .non) (gNm 2)
def za7 : SF := sAsg (eN (nArgs 3 zbL) (aCons (eVar 0) (aCons (eVar 3) (aCons (eVar 4) (aNil))))) (gNm 5)
def zap : SF := sIf (tAndF (tBl (eB (gCmp .IsNot) (eVar 5) (eC .non))) (tOrF (tBl (eB (gCmp .Is) (eVar 2) (eC .non))) (tVal (eN (nArgs 2 zck) (aCons (eVar 5) (aCons (eVar 2) (aNil))))))) (sSeq (sAsg (eVar 5) (gNm 2)) (sPass)) (sPass)
def zby : SF := sSeq za7 (sSeq zap sPass)
def zbP : SF := sFor (iVal (eN (nArgs 1 zbg) (aCons (eVar 1) (aNil)))) (gTp 2 (gsCons (gNm 3) (gsCons (gNm 4) (gsNil)))) zby
def zcR : SF := sRet (eVar 2)
def zcC : SF := sSeq zcS (sSeq zbP (sSeq zcR sPass))
def zaV : GN := fnOf 6 zcC
def zbq : SF := sSeq (sAsg (eLc (iVal (eVar 2)) (gNm 0) (tTru) (eN (nArgs 2 zae) (aCons (eVar 1) (aCons (eVar 0) (aNil)))) [none, some 0]) (gNm 3)) (sSeq (sAsg (eLc (iVal (eN (nArgs 1 zbg) (aCons (eVar 3) (aNil)))) (gTp 2 (gsCons (gNm 0) (gsCons (gNm 1) (gsNil)))) (tTru) (eN (nArgs 2 za0) (aCons (eVar 2) (aCons (eN (nArgs 2 zaO) (aCons (eVar 0) (aCons (eVar 1) (aNil)))) (aNil)))) [none, none, some 1]) (gNm 4)) (sSeq (sRet (eOr (eB (gCmp .GtE) (eN gMin' (aCons (eVar 4) (aNil))) (eC (.int 0))) (eB (gCmp .LtE) (eN gMax' (aCons (eVar 4) (aNil))) (eC (.int 0))))) (sPass)))
def zat : GN := fnOf 5 zbq
def zaL : SF := sSeq (sIf (tVal (eN (nArgs 3 zat) (aCons (eB gIx (eVar 0) (eC (.int 0))) (aCons (eVar 2) (aCons (eVar 1) (aNil)))))) (sSeq (sRet (eN gTup (aCons (eC (.int 0)) (aCons (eC (.int 1)) (aNil))))) (sPass)) (sPass)) (sSeq (sRet (eN (nArgs 2 zaV) (aCons (eVar 0) (aCons (eVar 1) (aNil))))) (sPass))
def zau : GN := fnOf 3 zaL
def zam : SF := sSeq (sAsg (eN (nArgs 2 zaO) (aCons (eN (nArgs 2 zae) (aCons (eB gIx (eVar 1) (eC (.int 0))) (aCons (eB gIx (eVar 1) (eC (.int 1))) (aNil)))) (aCons (eN (nArgs 2 zae) (aCons (eB gIx (eVar 1) (eC (.int 0))) (aCons (eB gIx (eVar 1) (eC (.int 2))) (aNil)))) (aNil)))) (gNm 2)) (sSeq (sIf (tBl (eB (gCmp .Eq) (eVar 2) (eN gTup (aCons (eC (.int 0)) (aCons (eC (.int 0)) (aCons (eC (.int 0)) (aNil))))))) (sSeq (sRet (eN (nArgs 2 zaV) (aCons (eVar 0) (aCons (eVar 1) (aNil))))) (sPass)) (sPass)) (sSeq (sAsg (eN (nArgs 2 za0) (aCons (eN (nArgs 2 zae) (aCons (eB gIx (eVar 0) (eC (.int 0))) (aCons (eB gIx (eVar 1) (eC (.int 0))) (aNil)))) (aCons (eVar 2) (aNil)))) (gNm 3)) (sSeq (sAsg (eN (nArgs 2 za0) (aCons (eB gIx (eVar 0) (eC (.int 1))) (aCons (eVar 2) (aNil)))) (gNm 4)) (sSeq (sIf (tBl (eB (gCmp .Eq) (eVar 4) (eC (.int 0)))) (sSeq (sRet (eIf (tBl (eB (gCmp .Eq) (eVar 3) (eC (.int 0)))) (eN (nArgs 3 zau) (aCons (eVar 0) (aCons (eVar 1) (aCons (eVar 2) (aNil))))) (eC .non))) (sPass)) (sPass)) (sSeq (sIf (tBl (eB (gCmp .Lt) (eVar 4) (eC (.int 0)))) (sSeq (sAsg (eU gNeg (eVar 3)) (gNm 3)) (sSeq (sAsg (eU gNeg (eVar 4)) (gNm 4)) (sPass))) (sPass)) (sSeq (sIf (tOrF (tBl (eB (gCmp .Lt) (eVar 3) (eC (.int 0)))) (tNotF (tVal (eN (nArgs 3 zat) (aCons (eB gIx (eVar 0) (eC (.int 0))) (aCons (eB gIx (eVar 0) (eC (.int 1))) (aCons (eVar 1) (aNil)))))))) (sSeq (sRet (eC .non)) (sPass)) (sPass)) (sSeq (sRet (eN (nArgs 1 zaC) (aCons (eN gTup (aCons (eVar 3) (aCons (eVar 4) (aNil)))) (aNil)))) (sPass))))))))
def zag : GN := fnOf 5 zam
def zbi : SF := sSeq (sIf (tBl (eB (gCmp .Eq) (eB gIx (eVar 0) (eC (.int 1))) (eN gTup (aCons (eC (.int 0)) (aCons (eC (.int 0)) (aCons (eC (.int 0)) (aNil))))))) (sSeq (sNever) (sPass)) (sPass)) (sPass)
def zbe : GN := fnOf 1 zbi
def zeA : SF := sSeq (sIf (tBl (eB (gCmp .Eq) (eB gIx (eVar 1) (eC (.int 0))) (eC (.str "box")))) (sSeq (sRet (eN (nArgs 2 zer) (aCons (eVar 0) (aCons (eSl (eVar 1) (pSome (eC (.int 1))) (pNone)) (aNil))))) (sPass)) (sPass)) (sSeq (sRet (eN (nArgs 2 zag) (aCons (eVar 0) (aCons (eSl (eVar 1) (pSome (eC (.int 1))) (pNone)) (aNil))))) (sPass))
def zeq : GN := fnOf 2 zeA
def zgx : SF := sSeq (sDrop (eN (nArgs 1 zbe) (aCons (eVar 0) (aNil)))) (sSeq (sDrop (eN (nArgs 1 zbf) (aCons (eVar 1) (aNil)))) (sSeq (sRet (eN (nArgs 2 zeq) (aCons (eVar 0) (aCons (eVar 1) (aNil))))) (sPass)))
def zgh : GN := fnOf 2 zgx
def zcU : SF := sSeq (sRet (eAnd (eN gIsi (aCons (eVar 0) (aCons (eC (.ty "int")) (aNil)))) (eNot (eN gIsi (aCons (eVar 0) (aCons (eC (.ty "bool")) (aNil))))))) (sPass)
def zbV : GN := fnOf 1 zcU
def zcs : SF := sSeq (sAsg (eN (nArgs 2 za1) (aCons (eVar 0) (aCons (eB (gBin .Add) (eVar 1) (eC (.int 1))) (aNil)))) (gNm 2)) (sSeq (sAsg (eN (nArgs 2 zaU) (aCons (eVar 0) (aCons (eB (gBin .Add) (eVar 1) (eC (.int 2))) (aNil)))) (gNm 3)) (sSeq (sIf (tOrF (tBl (eB (gCmp .Eq) (eB (gBin .Mod) (eVar 3) (eC (.int 3))) (eC (.int 0)))) (tBl (eB (gCmp .Eq) (eVar 2) (eN gTup (aCons (eC (.int 0)) (aCons (eC (.int 0)) (aCons (eC (.int 0)) (aNil)))))))) (sSeq (sAsg (eB gIx (eN gLst (aCons (eN gTup (aCons (eC (.int 1)) (aCons (eC (.int 0)) (aCons (eC (.int 0)) (aNil))))) (aCons (eN gTup (aCons (eC (.int 0)) (aCons (eB (gBin .Sub) (eC (.int 0)) (eC (.int 2))) (aCons (eC (.int 0)) (aNil))))) (aCons (eN gTup (aCons (eC (.int 0)) (aCons (eC (.int 0)) (aCons (eC (.int 3)) (aNil))))) (aCons (eN gTup (aCons (eC (.int 1)) (aCons (eC (.int 1)) (aCons (eC (.int 0)) (aNil))))) (aCons (eN gTup (aCons (eC (.int 0)) (aCons (eC (.int 1)) (aCons (eB (gBin .Sub) (eC (.int 0)) (eC (.int 1))) (aNil))))) (aCons (eN gTup (aCons (eB (gBin .Sub) (eC (.int 0)) (eC (.int 1))) (aCons (eC (.int 0)) (aCons (eC (.int 0)) (aNil))))) (aNil)))))))) (eB (gBin .Mod) (eB (gBin .FloorDiv) (eVar 3) (eC (.int 4))) (eC (.int 6)))) (gNm 2)) (sPass)) (sPass)) (sSeq (sRet (eN gTup (aCons (eN (nArgs 2 za1) (aCons (eVar 0) (aCons (eVar 1) (aNil)))) (aCons (eVar 2) (aNil))))) (sPass))))
def zcm : GN := fnOf 4 zcs
def zb0 : SF := sSeq (sAsg (eN gAbs (aCons (eVar 0) (aNil))) (gNm 2)) (sSeq (sAsg (eN gAbs (aCons (eVar 1) (aNil))) (gNm 3)) (sSeq (sWh (tBl (eB (gCmp .NotEq) (eVar 3) (eC (.int 0)))) (sSeq (sAsg (eB (gBin .Sub) (eVar 2) (eB (gBin .Mult) (eB (gBin .FloorDiv) (eVar 2) (eVar 3)) (eVar 3))) (gNm 4)) (sSeq (sAsg (eVar 3) (gNm 2)) (sSeq (sAsg (eVar 4) (gNm 3)) (sPass))))) (sSeq (sIf (tBl (eB (gCmp .Lt) (eVar 1) (eC (.int 0)))) (sSeq (sAsg (eB (gBin .Sub) (eC (.int 0)) (eVar 2)) (gNm 2)) (sPass)) (sPass)) (sSeq (sRet (eN gTup (aCons (eB (gBin .FloorDiv) (eVar 0) (eVar 2)) (aCons (eB (gBin .FloorDiv) (eVar 1) (eVar 2)) (aNil))))) (sPass)))))
def zbW : GN := fnOf 5 zb0
def zdj : SF := sSeq (sRet (eB (gCmp .Lt) (eB (gBin .Mult) (eB gIx (eVar 0) (eC (.int 0))) (eB gIx (eVar 1) (eC (.int 1)))) (eB (gBin .Mult) (eB gIx (eVar 1) (eC (.int 0))) (eB gIx (eVar 0) (eC (.int 1)))))) (sPass)
def zbN : GN := fnOf 2 zdj
def zch : SF := sSeq (sIf (tOrF (tNotF (tVal (eN gIsi (aCons (eVar 0) (aCons (eC (.ty "tuple")) (aNil)))))) (tOrF (tBl (eB (gCmp .NotEq) (eN gLen (aCons (eVar 0) (aNil))) (eC (.int 2)))) (tOrF (tNotF (tVal (eN (nArgs 1 zbV) (aCons (eB gIx (eVar 0) (eC (.int 0))) (aNil))))) (tNotF (tVal (eN (nArgs 1 zbV) (aCons (eB gIx (eVar 0) (eC (.int 1))) (aNil)))))))) (sSeq (sRet (eC (.bl false))) (sPass)) (sPass)) (sSeq (sRet (eAnd (eB (gCmp .GtE) (eB gIx (eVar 0) (eC (.int 0))) (eC (.int 0))) (eAnd (eB (gCmp .Gt) (eB gIx (eVar 0) (eC (.int 1))) (eC (.int 0))) (eB (gCmp .Eq) (eN (nArgs 2 zbW) (aCons (eB gIx (eVar 0) (eC (.int 0))) (aCons (eB gIx (eVar 0) (eC (.int 1))) (aNil)))) (eVar 0))))) (sPass))
def zb5 : GN := fnOf 1 zch
def zeF : SF := sSeq (sRet (eB (gBin .Sub) (eB (gBin .Add) (eB gIx (eB gIx (eVar 0) (eC (.int 0))) (eVar 3)) (eB (gBin .Mult) (eVar 1) (eB gIx (eB gIx (eVar 0) (eC (.int 1))) (eVar 3)))) (eB (gBin .Mod) (eB (gBin .FloorDiv) (eVar 2) (eB (gBin .Mult) (eC (.int 64)) (eB (gBin .Add) (eB (gBin .Mult) (eVar 3) (eC (.int 7))) (eC (.int 1))))) (eC (.int 3))))) (sPass)
def zgi : GN := fnOf 4 zeF
def zeG : SF := sSeq (sRet (eN gTuple (aCons (eLc (iRg1 (aCons (eC (.int 3)) (aNil))) (gNm 0) (tTru) (eB (gBin .Add) (eB (gBin .Mult) (eB gIx (eB gIx (eVar 1) (eC (.int 0))) (eVar 0)) (eB gIx (eVar 2) (eC (.int 1)))) (eB (gBin .Mult) (eB gIx (eB gIx (eVar 1) (eC (.int 1))) (eVar 0)) (eB gIx (eVar 2) (eC (.int 0))))) [none, some 0, some 1]) (aNil)))) (sPass)
def zds : GN := fnOf 2 zeG
def zdN : SF := sSeq (sRet (eN gTuple (aCons (eLc (iRg1 (aCons (eC (.int 3)) (aNil))) (gNm 0) (tTru) (eB (gBin .Sub) (eB gIx (eVar 2) (eVar 0)) (eB gIx (eVar 1) (eVar 0))) [none, some 0, some 1]) (aNil)))) (sPass)
def zbh : GN := fnOf 2 zdN
def zbS : SF := sSeq (sRet (eB (gBin .Sub) (eB (gBin .Mult) (eB gIx (eVar 0) (eVar 2)) (eB gIx (eVar 1) (eVar 3))) (eB (gBin .Mult) (eB gIx (eVar 0) (eVar 3)) (eB gIx (eVar 1) (eVar 2))))) (sPass)
def zar : GN := fnOf 4 zbS
def zdc : SF := sIf (tOrF (tBl (eB (gCmp .Lt) (eB gIx (eVar 0) (eVar 4)) (eB (gBin .Mult) (eN gMin' (aCons (eN gLst (aCons (eB gIx (eVar 2) (eVar 4)) (aCons (eB gIx (eVar 3) (eVar 4)) (aNil)))) (aNil))) (eVar 1)))) (tBl (eB (gCmp .Gt) (eB gIx (eVar 0) (eVar 4)) (eB (gBin .Mult) (eN gMax' (aCons (eN gLst (aCons (eB gIx (eVar 2) (eVar 4)) (aCons (eB gIx (eVar 3) (eVar 4)) (aNil)))) (aNil))) (eVar 1))))) (sSeq (sRet (eC (.bl false))) (sPass)) (sPass)
def zcW : SF := sSeq zdc sPass
def zbR : SF := sFor (iRg1 (aCons (eC (.int 3)) (aNil))) (gNm 4) zcW
def zeE : SF := sAsg (eLc (iRg1 (aCons (eC (.int 3)) (aNil))) (gNm 0) (tTru) (eB (gBin .Sub) (eB gIx (eVar 2) (eVar 0)) (eB (gBin .Mult) (eB gIx (eVar 1) (eVar 0)) (eVar 3))) [none, some 2, some 0, some 1]) (gNm 5)
def zeD : SF := sAsg (eN (nArgs 2 zbh) (aCons (eVar 2) (aCons (eVar 3) (aNil)))) (gNm 6)
def zeC : SF := sRet (eN gAll (aCons (eLc (iRg1 (aCons (eC (.int 3)) (aNil))) (gNm 0) (tTru) (eB (gCmp .Eq) (eN (nArgs 4 zar) (aCons (eVar 1) (aCons (eVar 2) (aCons (eVar 0) (aCons (eB (gBin .Mod) (eB (gBin .Add) (eVar 0) (eC (.int 1))) (eC (.int 3))) (aNil)))))) (eC (.int 0))) [none, some 5, some 6]) (aNil)))
def zcw : SF := sSeq zbR (sSeq zeE (sSeq zeD (sSeq zeC sPass)))
def zcO : GN := fnOf 7 zcw
def zcD : SF := sSeq (sIf (tBl (eB (gCmp .Lt) (eVar 1) (eC (.int 0)))) (sSeq (sRet (eN gTup (aCons (eB (gBin .Sub) (eC (.int 0)) (eVar 0)) (aCons (eB (gBin .Sub) (eC (.int 0)) (eVar 1)) (aNil))))) (sPass)) (sPass)) (sSeq (sRet (eN gTup (aCons (eVar 0) (aCons (eVar 1) (aNil))))) (sPass))
def zaP : GN := fnOf 2 zcD
def zcX : SF := sSeq (sRet (eLc (iRg1 (aCons (eC (.int 3)) (aNil))) (gNm 0) (tBl (eB (gCmp .NotEq) (eB gIx (eB gIx (eVar 2) (eC (.int 1))) (eVar 0)) (eC (.int 0)))) (eN (nArgs 2 zaP) (aCons (eB (gBin .Sub) (eB gIx (eVar 1) (eVar 0)) (eB gIx (eB gIx (eVar 2) (eC (.int 0))) (eVar 0))) (aCons (eB gIx (eB gIx (eVar 2) (eC (.int 1))) (eVar 0)) (aNil)))) [none, some 1, some 0])) (sPass)
def zbX : GN := fnOf 2 zcX
def zci : SF := sSeq (sAsg (eN gLst (aNil)) (gNm 3)) (sSeq (sFor (iVal (eN gLst (aCons (eN gTup (aCons (eC (.int 0)) (aCons (eC (.int 1)) (aNil)))) (aCons (eN gTup (aCons (eC (.int 1)) (aCons (eC (.int 2)) (aNil)))) (aCons (eN gTup (aCons (eC (.int 2)) (aCons (eC (.int 0)) (aNil)))) (aNil)))))) (gTp 2 (gsCons (gNm 4) (gsCons (gNm 5) (gsNil)))) (sSeq (sAsg (eN gTup (aCons (eB (gBin .Sub) (eB gIx (eVar 2) (eVar 4)) (eB gIx (eVar 1) (eVar 4))) (aCons (eB (gBin .Sub) (eB gIx (eVar 2) (eVar 5)) (eB gIx (eVar 1) (eVar 5))) (aNil)))) (gNm 6)) (sSeq (sAsg (eB (gBin .Sub) (eB (gBin .Mult) (eB gIx (eB gIx (eVar 0) (eC (.int 1))) (eVar 4)) (eB gIx (eVar 6) (eC (.int 1)))) (eB (gBin .Mult) (eB gIx (eB gIx (eVar 0) (eC (.int 1))) (eVar 5)) (eB gIx (eVar 6) (eC (.int 0))))) (gNm 7)) (sSeq (sIf (tBl (eB (gCmp .NotEq) (eVar 7) (eC (.int 0)))) (sSeq (sAsg (eN gTup (aCons (eB (gBin .Sub) (eB gIx (eVar 1) (eVar 4)) (eB gIx (eB gIx (eVar 0) (eC (.int 0))) (eVar 4))) (aCons (eB (gBin .Sub) (eB gIx (eVar 1) (eVar 5)) (eB gIx (eB gIx (eVar 0) (eC (.int 0))) (eVar 5))) (aNil)))) (gNm 8)) (sSeq (sDrop (eM gAppend (eVar 3) (aCons (eN (nArgs 2 zaP) (aCons (eB (gBin .Sub) (eB (gBin .Mult) (eB gIx (eVar 8) (eC (.int 0))) (eB gIx (eVar 6) (eC (.int 1)))) (eB (gBin .Mult) (eB gIx (eVar 8) (eC (.int 1))) (eB gIx (eVar 6) (eC (.int 0))))) (aCons (eVar 7) (aNil)))) (aNil)))) (sPass))) (sPass)) (sPass))))) (sSeq (sRet (eVar 3)) (sPass)))
def zbm : GN := fnOf 9 zci
def zbw (a : Addr) (ψ : GN) : SF := sSeq (sAsg (eC .non) (gNm 2)) (sSeq (sFor (iVal (eVar 0)) (gNm 3) (sSeq (sIf (tAndF (tBl (eB (gCmp .GtE) (eB gIx (eVar 3) (eC (.int 0))) (eC (.int 0)))) (tOrF (tBl (eB (gCmp .Is) (eVar 2) (eC .non))) (tVal (eN (nArgs 2 zbN) (aCons (eVar 3) (aCons (eVar 2) (aNil))))))) (sSeq (sIf (tVal (eCL 1 a ψ (aCons (eVar 3) (aNil)))) (sSeq (sAsg (eVar 3) (gNm 2)) (sPass)) (sPass)) (sPass)) (sPass)) (sPass))) (sSeq (sIf (tBl (eB (gCmp .Is) (eVar 2) (eC .non))) (sSeq (sRet (eC .non)) (sPass)) (sPass)) (sSeq (sRet (eN (nArgs 2 zbW) (aCons (eB gIx (eVar 2) (eC (.int 0))) (aCons (eB gIx (eVar 2) (eC (.int 1))) (aNil))))) (sPass))))
def zcM : Addr → GN → GN := λa ψ => fnOf 4 (zbw a ψ)
def zc5 : SF := sSeq (sAsg (eN (nArgs 2 za1) (aCons (eVar 0) (aCons (eVar 1) (aNil)))) (gNm 2)) (sSeq (sIf (tBl (eB (gCmp .Lt) (eB (gBin .Mod) (eN (nArgs 2 zaU) (aCons (eVar 0) (aCons (eB (gBin .Add) (eVar 1) (eC (.int 3))) (aNil)))) (eC (.int 3))) (eC (.int 2)))) (sSeq (sRet (eN gTuple (aCons (eLc (iVal (eVar 2)) (gNm 0) (tTru) (eB (gBin .Mult) (eC (.int 6)) (eVar 0)) [none]) (aNil)))) (sPass)) (sPass)) (sSeq (sRet (eVar 2)) (sPass)))
def zcl : GN := fnOf 3 zc5
def zbx : SF := sSeq (sAsg (eN (nArgs 2 zcm) (aCons (eVar 0) (aCons (eVar 1) (aNil)))) (gNm 3)) (sSeq (sAsg (eN (nArgs 2 zaU) (aCons (eVar 0) (aCons (eB (gBin .Add) (eVar 1) (eC (.int 4))) (aNil)))) (gNm 4)) (sSeq (sIf (tBl (eB (gCmp .Eq) (eB (gBin .Mod) (eVar 4) (eC (.int 5))) (eC (.int 0)))) (sSeq (sRet (eVar 3)) (sPass)) (sPass)) (sSeq (sAsg (eVar 2) (gTp 3 (gsCons (gNm 5) (gsCons (gNm 6) (gsCons (gNm 7) (gsNil)))))) (sSeq (sAsg (eB (gBin .Mod) (eB (gBin .FloorDiv) (eVar 4) (eC (.int 8))) (eC (.int 7))) (gNm 8)) (sSeq (sAsg (eB (gBin .Mod) (eB (gBin .FloorDiv) (eVar 4) (eC (.int 64))) (eC (.int 8))) (gNm 9)) (sSeq (sAsg (eN gLst (aCons (eB gIx (eVar 3) (eC (.int 1))) (aCons (eN gTuple (aCons (eLc (iRg1 (aCons (eC (.int 3)) (aNil))) (gNm 0) (tTru) (eB (gBin .Sub) (eB gIx (eVar 1) (eVar 0)) (eB gIx (eVar 2) (eVar 0))) [none, some 5, some 6]) (aNil))) (aCons (eN gTuple (aCons (eLc (iRg1 (aCons (eC (.int 3)) (aNil))) (gNm 0) (tTru) (eB (gBin .Sub) (eB (gBin .Add) (eB gIx (eVar 1) (eVar 0)) (eB gIx (eVar 3) (eVar 0))) (eB (gBin .Mult) (eC (.int 2)) (eB gIx (eVar 2) (eVar 0)))) [none, some 5, some 6, some 7]) (aNil))) (aNil))))) (gNm 10)) (sSeq (sAsg (eB gIx (eVar 10) (eB (gBin .Mod) (eB (gBin .Mod) (eVar 4) (eC (.int 5))) (eC (.int 3)))) (gNm 11)) (sSeq (sIf (tBl (eB (gCmp .Eq) (eVar 11) (eN gTup (aCons (eC (.int 0)) (aCons (eC (.int 0)) (aCons (eC (.int 0)) (aNil))))))) (sSeq (sAsg (eB gIx (eVar 3) (eC (.int 1))) (gNm 11)) (sPass)) (sPass)) (sSeq (sAsg (eB (gBin .Sub) (eB (gBin .Mod) (eB (gBin .FloorDiv) (eVar 4) (eC (.int 512))) (eC (.int 6))) (eC (.int 1))) (gNm 12)) (sSeq (sAsg (eLc (iRg1 (aCons (eC (.int 3)) (aNil))) (gNm 0) (tTru) (eB (gBin .FloorDiv) (eB (gBin .Add) (eB (gBin .Add) (eB (gBin .Mult) (eVar 4) (eB gIx (eVar 1) (eVar 0))) (eB (gBin .Mult) (eVar 5) (eB gIx (eVar 2) (eVar 0)))) (eB (gBin .Mult) (eB (gBin .Sub) (eB (gBin .Sub) (eC (.int 6)) (eVar 4)) (eVar 5)) (eB gIx (eVar 3) (eVar 0)))) (eC (.int 6))) [none, some 5, some 6, some 7, some 8, some 9]) (gNm 13)) (sSeq (sRet (eN gTup (aCons (eN gTuple (aCons (eLc (iRg1 (aCons (eC (.int 3)) (aNil))) (gNm 0) (tTru) (eB (gBin .Sub) (eB gIx (eVar 2) (eVar 0)) (eB (gBin .Mult) (eVar 1) (eB gIx (eVar 3) (eVar 0)))) [none, some 12, some 13, some 11]) (aNil))) (aCons (eVar 11) (aNil))))) (sPass))))))))))))
def za2 : GN := fnOf 14 zbx
def zbH : SF := sAsg (eVar 2) (gTp 3 (gsCons (gNm 3) (gsCons (gNm 4) (gsCons (gNm 5) (gsNil)))))
def zbG : SF := sAsg (eN (nArgs 2 zbh) (aCons (eVar 3) (aCons (eVar 4) (aNil)))) (gNm 6)
def zbF : SF := sAsg (eN (nArgs 2 zbh) (aCons (eVar 3) (aCons (eVar 5) (aNil)))) (gNm 7)
def zbE : SF := sAsg (eLc (iRg1 (aCons (eC (.int 3)) (aNil))) (gNm 0) (tTru) (eB (gBin .Sub) (eB gIx (eVar 2) (eVar 0)) (eB (gBin .Mult) (eB gIx (eVar 1) (eVar 0)) (eVar 3))) [none, some 3, some 0, some 1]) (gNm 8)
def zaR : SF := sAsg (eN (nArgs 4 zar) (aCons (eVar 6) (aCons (eVar 7) (aCons (eVar 9) (aCons (eVar 10) (aNil)))))) (gNm 11)
def zaQ : SF := sIf (tBl (eB (gCmp .NotEq) (eVar 11) (eC (.int 0)))) (sSeq (sAsg (eN (nArgs 4 zar) (aCons (eVar 8) (aCons (eVar 7) (aCons (eVar 9) (aCons (eVar 10) (aNil)))))) (gNm 12)) (sSeq (sAsg (eN (nArgs 4 zar) (aCons (eVar 6) (aCons (eVar 8) (aCons (eVar 9) (aCons (eVar 10) (aNil)))))) (gNm 13)) (sSeq (sIf (tBl (eB (gCmp .Lt) (eVar 11) (eC (.int 0)))) (sSeq (sAsg (eN gTup (aCons (eB (gBin .Sub) (eC (.int 0)) (eVar 12)) (aCons (eB (gBin .Sub) (eC (.int 0)) (eVar 13)) (aCons (eB (gBin .Sub) (eC (.int 0)) (eVar 11)) (aNil))))) (gTp 3 (gsCons (gNm 12) (gsCons (gNm 13) (gsCons (gNm 11) (gsNil)))))) (sPass)) (sPass)) (sSeq (sIf (tOrF (tBl (eB (gCmp .Lt) (eVar 12) (eC (.int 0)))) (tOrF (tBl (eB (gCmp .Lt) (eVar 13) (eC (.int 0)))) (tBl (eB (gCmp .Gt) (eB (gBin .Add) (eVar 12) (eVar 13)) (eB (gBin .Mult) (eVar 11) (eVar 1)))))) (sSeq (sRet (eC (.bl false))) (sPass)) (sPass)) (sSeq (sAsg (eLc (iRg1 (aCons (eC (.int 3)) (aNil))) (gNm 0) (tTru) (eB (gBin .Add) (eB (gBin .Mult) (eVar 2) (eB gIx (eVar 4) (eVar 0))) (eB (gBin .Mult) (eVar 3) (eB gIx (eVar 1) (eVar 0)))) [none, some 7, some 12, some 13, some 6]) (gNm 14)) (sSeq (sRet (eB (gCmp .Eq) (eVar 14) (eLc (iVal (eVar 8)) (gNm 0) (tTru) (eB (gBin .Mult) (eVar 0) (eVar 1)) [none, some 11]))) (sPass))))))) (sPass)
def zay : SF := sSeq zaR (sSeq zaQ sPass)
def zbD : SF := sFor (iVal (eN gLst (aCons (eN gTup (aCons (eC (.int 0)) (aCons (eC (.int 1)) (aNil)))) (aCons (eN gTup (aCons (eC (.int 1)) (aCons (eC (.int 2)) (aNil)))) (aCons (eN gTup (aCons (eC (.int 2)) (aCons (eC (.int 0)) (aNil)))) (aNil)))))) (gTp 2 (gsCons (gNm 9) (gsCons (gNm 10) (gsNil)))) zay
def zbC : SF := sRet (eOr (eN (nArgs 4 zcO) (aCons (eVar 0) (aCons (eVar 1) (aCons (eVar 3) (aCons (eVar 4) (aNil)))))) (eOr (eN (nArgs 4 zcO) (aCons (eVar 0) (aCons (eVar 1) (aCons (eVar 4) (aCons (eVar 5) (aNil)))))) (eN (nArgs 4 zcO) (aCons (eVar 0) (aCons (eVar 1) (aCons (eVar 5) (aCons (eVar 3) (aNil))))))))
def zbb : SF := sSeq zbH (sSeq zbG (sSeq zbF (sSeq zbE (sSeq zbD (sSeq zbC sPass)))))
def zaK : GN := fnOf 15 zbb
def zaS : SF := sSeq (sAsg (eN (nArgs 2 zcl) (aCons (eVar 0) (aCons (eVar 1) (aNil)))) (gNm 2)) (sSeq (sAsg (eN (nArgs 2 zcl) (aCons (eVar 0) (aCons (eB (gBin .Add) (eVar 1) (eC (.int 1))) (aNil)))) (gNm 3)) (sSeq (sAsg (eN (nArgs 2 zcl) (aCons (eVar 0) (aCons (eB (gBin .Add) (eVar 1) (eC (.int 2))) (aNil)))) (gNm 4)) (sSeq (sAsg (eN (nArgs 2 zaU) (aCons (eVar 0) (aCons (eB (gBin .Add) (eVar 1) (eC (.int 6))) (aNil)))) (gNm 5)) (sSeq (sIf (tBl (eB (gCmp .Eq) (eB (gBin .Mod) (eVar 5) (eC (.int 7))) (eC (.int 0)))) (sSeq (sAsg (eN gTuple (aCons (eLc (iRg1 (aCons (eC (.int 3)) (aNil))) (gNm 0) (tTru) (eB (gBin .Sub) (eB (gBin .Mult) (eC (.int 2)) (eB gIx (eVar 2) (eVar 0))) (eB gIx (eVar 1) (eVar 0))) [none, some 2, some 3]) (aNil))) (gNm 4)) (sPass)) (sPass)) (sSeq (sIf (tBl (eB (gCmp .Eq) (eB (gBin .Mod) (eVar 5) (eC (.int 7))) (eC (.int 1)))) (sSeq (sAsg (eVar 2) (gNm 4)) (sPass)) (sPass)) (sSeq (sIf (tBl (eB (gCmp .Eq) (eB (gBin .Mod) (eVar 5) (eC (.int 21))) (eC (.int 1)))) (sSeq (sAsg (eVar 2) (gNm 3)) (sPass)) (sPass)) (sSeq (sRet (eN gTup (aCons (eVar 2) (aCons (eVar 3) (aCons (eVar 4) (aNil)))))) (sPass))))))))
def zb6 : GN := fnOf 6 zaS
def zdb : SF := sAsg (eVar 1) (gTp 3 (gsCons (gNm 2) (gsCons (gNm 3) (gsCons (gNm 4) (gsNil)))))
def zda : SF := sAsg (eC (.int 0)) (gNm 5)
def zc9 : SF := sAsg (eC (.int 0)) (gNm 6)
def zcv : SF := sAsg (eN (nArgs 4 zar) (aCons (eN (nArgs 2 zbh) (aCons (eVar 2) (aCons (eVar 3) (aNil)))) (aCons (eN (nArgs 2 zbh) (aCons (eVar 2) (aCons (eVar 4) (aNil)))) (aCons (eB (gBin .Mod) (eB (gBin .Add) (eVar 7) (eC (.int 1))) (eC (.int 3))) (aCons (eB (gBin .Mod) (eB (gBin .Add) (eVar 7) (eC (.int 2))) (eC (.int 3))) (aNil)))))) (gNm 8)
def zcu : SF := sAsg (eB (gBin .Add) (eVar 5) (eB (gBin .Mult) (eVar 8) (eB (gBin .Sub) (eB gIx (eVar 2) (eVar 7)) (eB gIx (eB gIx (eVar 0) (eC (.int 0))) (eVar 7))))) (gNm 5)
def zct : SF := sAsg (eB (gBin .Add) (eVar 6) (eB (gBin .Mult) (eVar 8) (eB gIx (eB gIx (eVar 0) (eC (.int 1))) (eVar 7)))) (gNm 6)
def zba : SF := sSeq zcv (sSeq zcu (sSeq zct sPass))
def zc8 : SF := sFor (iRg1 (aCons (eC (.int 3)) (aNil))) (gNm 7) zba
def zbr : SF := sIf (tBl (eB (gCmp .Eq) (eVar 6) (eC (.int 0)))) (sSeq (sRet (eN gLst (aNil))) (sPass)) (sPass)
def zcg : SF := sRet (eN gLst (aCons (eN (nArgs 2 zaP) (aCons (eVar 5) (aCons (eVar 6) (aNil)))) (aNil)))
def zcV : SF := sSeq zdb (sSeq zda (sSeq zc9 (sSeq zc8 (sSeq zbr (sSeq zcg sPass)))))
def zbu : GN := fnOf 9 zcV
def zcr : SF := sAsg (eVar 1) (gTp 3 (gsCons (gNm 2) (gsCons (gNm 3) (gsCons (gNm 4) (gsNil)))))
def zcq : SF := sAsg (eB (gBin .Add) (eN gLst (aCons (eN gTup (aCons (eC (.int 0)) (aCons (eC (.int 1)) (aNil)))) (aNil))) (eN (nArgs 2 zbu) (aCons (eVar 0) (aCons (eVar 1) (aNil))))) (gNm 5)
def zbB : SF := sAsg (eB (gBin .Add) (eB (gBin .Add) (eVar 5) (eN (nArgs 2 zbX) (aCons (eVar 0) (aCons (eVar 6) (aNil))))) (eN (nArgs 3 zbm) (aCons (eVar 0) (aCons (eVar 6) (aCons (eVar 7) (aNil)))))) (gNm 5)
def za9 : SF := sSeq zbB sPass
def zcp : SF := sFor (iVal (eN gLst (aCons (eN gTup (aCons (eVar 2) (aCons (eVar 3) (aNil)))) (aCons (eN gTup (aCons (eVar 3) (aCons (eVar 4) (aNil)))) (aCons (eN gTup (aCons (eVar 4) (aCons (eVar 2) (aNil)))) (aNil)))))) (gTp 2 (gsCons (gNm 6) (gsCons (gNm 7) (gsNil)))) za9
def zco : SF := sRet (eVar 5)
def zbQ : SF := sSeq zcr (sSeq zcq (sSeq zcp (sSeq zco sPass)))
def zbM : GN := fnOf 8 zbQ
def zce : SF := sAsg (eN (nArgs 2 zdf) (aCons (eVar 0) (aCons (eVar 1) (aNil)))) (gNm 2)
def zcd : SF := sAsg (eN (nArgs 2 zb6) (aCons (eVar 2) (aCons (eVar 1) (aNil)))) (gNm 9)
def zcc : SF := sAsg (eVar 9) (gTp 3 (gsCons (gNm 3) (gsCons (gNm 4) (gsCons (gNm 5) (gsNil)))))
def zcb : SF := sAsg (eN (nArgs 3 za2) (aCons (eVar 2) (aCons (eB (gBin .Add) (eVar 1) (eC (.int 11))) (aCons (eVar 9) (aNil))))) (gNm 10)
def zca : SF := sAsg (eN (nArgs 2 zbM) (aCons (eVar 10) (aCons (eVar 9) (aNil)))) (gNm 6)
def zb9 : SF := sAsg (eHof (eVar 6) [9, 10] (eN (nArgs 3 zaK) (aCons (eN (nArgs 2 zds) (aCons (eVar 2) (aCons (eVar 0) (aNil)))) (aCons (eB gIx (eVar 0) (eC (.int 1))) (aCons (eVar 1) (aNil))))) zcM) (gNm 7)
def zbp : SF := sAsg (eN (nArgs 2 zag) (aCons (eVar 10) (aCons (eVar 9) (aNil)))) (gNm 8)
def zbo : SF := sIf (tOrF (tBl (eB (gCmp .NotEq) (eVar 8) (eVar 7))) (tOrF (tBl (eB (gCmp .NotEq) (eN (nArgs 2 zgh) (aCons (eVar 10) (aCons (eN gTup (aCons (eC (.str "triangle")) (aCons (eVar 4) (aCons (eVar 5) (aCons (eVar 3) (aNil)))))) (aNil)))) (eVar 7))) (tBl (eB (gCmp .NotEq) (eN (nArgs 2 zag) (aCons (eVar 10) (aCons (eN gTup (aCons (eVar 5) (aCons (eVar 4) (aCons (eVar 3) (aNil))))) (aNil)))) (eVar 7))))) (sSeq (sRet (eC (.bl false))) (sPass)) (sPass)
def zbn : SF := sIf (tAndF (tBl (eB (gCmp .IsNot) (eVar 7) (eC .non))) (tNotF (tVal (eN (nArgs 1 zb5) (aCons (eVar 8) (aNil)))))) (sSeq (sRet (eC (.bl false))) (sPass)) (sPass)
def zcT : SF := sSeq zce (sSeq zcd (sSeq zcc (sSeq zcb (sSeq zca (sSeq zb9 (sSeq zbp (sSeq zbo (sSeq zbn sPass))))))))
def zgz : SF := sFor (iRg1 (aCons (eN gMax' (aCons (eC (.int 1)) (aCons (eN gMin' (aCons (eC (.int 4)) (aCons (eN gLen (aCons (eVar 0) (aNil))) (aNil)))) (aNil)))) (aNil))) (gNm 1) zcT
def zgy : SF := sRet (eC (.bl true))
def zf0 : SF := sSeq zgz (sSeq zgy sPass)
end MX.P
end
section
set_option autoImplicit false
namespace MX
open PySem L2
theorem zcn {p : Prop} {i : Decidable p} (h : p) : @decide p i = true := decide_eq_true h
theorem za3 {p : Prop} {i : Decidable p} (h : ¬ p) : @decide p i = false := decide_eq_false h
section
variable {σ σ1 : Sg} {S S1 S2 : So} {x y z d : D} {xs ds : List D} {fa fb fe fo : EF} {aa : AF}
theorem zav {g : G2} {r : Option (D × So)} (h1 : fa σ S = some (x, S1)) (h2 : fb σ S1 = some (y, S2)) (h3 : g x y S2 = r) : eB g fa fb σ S = r := by
 unfold eB; rw [h1]; simp only [Option.bind_some]; rw [h2]; simp only [Option.bind_some]; exact h3
theorem zoB {g : D → So → Option (D × So)} {r : Option (D × So)} (h1 : fa σ S = some (x, S1)) (h3 : g x S1 = r) : eU g fa σ S = r := by
 unfold eU; rw [h1]; simp only [Option.bind_some]; exact h3
theorem zaH {g : GN} {r : Option (D × So)} (h1 : aa σ S = some (ds, S1)) (h2 : g ds S1 = r) : eN g aa σ S = r := by
 unfold eN; rw [h1]; simp only [Option.bind_some]; exact h2
theorem zab {fr : AF} (h1 : fa σ S = some (x, S1)) (h2 : fr σ S1 = some (xs, S2)) : aCons fa fr σ S = some (x :: xs, S2) := by
 unfold aCons; rw [h1]; simp only [Option.bind_some]; rw [h2]; rfl
theorem zal : aNil σ S = some ([], S) := rfl
theorem zaX : eC d σ S = some (d, S) := rfl
theorem zaa {i : Nat} (h : σ[i]? = some (some d)) : eVar i σ S = some (d, S) := by unfold eVar; rw [h]
theorem zai {n : Nat} {φ : GN} {r : Option (D × So)} (h1 : ds.length = n) (h2 : φ ds S = r) : nArgs n φ ds S = r := by unfold nArgs; rw [if_pos h1]; exact h2
def iteK {α : Type} (b : Bool) (x y : α) : α := if b = true then x else y
theorem zaF {α : Type} {b : Bool} {x y r : α} (h : b = true) (hx : x = r) : iteK b x y = r := by unfold iteK; rw [if_pos h]; exact hx
theorem zaz {α : Type} {b : Bool} {x y r : α} (h : b = false) (hx : y = r) : iteK b x y = r := by unfold iteK; rw [if_neg (by rw [h]; exact Bool.false_ne_true)]; exact hx
theorem znT {t : TF} {b : Bool} {r : Option (D × So)} (h1 : t σ S = some (b, S1)) (h2 : iteK b (fa σ S1) (fb σ S1) = r) : eIf t fa fb σ S = r := by
 unfold eIf; rw [h1]; simp only [Option.bind_some]; exact h2
theorem zlY {b : Bool} (h1 : fa σ S = some (.bl b, S1)) : eNot fa σ S = some (.bl (!b), S1) := by unfold eNot; rw [h1]; rfl
theorem zgl {b : Bool} {r : Option (D × So)} (h1 : fa σ S = some (.bl b, S1)) (h2 : iteK b (fb σ S1) (some (.bl false, S1)) = r) : eAnd fa fb σ S = r := by
 unfold eAnd; rw [h1]; simp only [Option.bind_some]; cases b <;> exact h2
theorem zfO {b : Bool} {r : Option (D × So)} (h1 : fa σ S = some (.bl b, S1)) (h2 : iteK b (some (.bl true, S1)) (fb σ S1) = r) : eOr fa fb σ S = r := by
 unfold eOr; rw [h1]; simp only [Option.bind_some]; cases b <;> exact h2
theorem zaY {b : Bool} (h1 : fa σ S = some (.bl b, S1)) : tBl fa σ S = some (b, S1) := by unfold tBl; rw [h1]; rfl
theorem zfr {b : Bool} (h1 : fa σ S = some (x, S1)) (h2 : truD x S1 = some b) : tVal fa σ S = some (b, S1) := by unfold tVal; rw [h1]; simp only [Option.bind_some]; rw [h2]; rfl
theorem ziB {t : TF} {b : Bool} (h1 : t σ S = some (b, S1)) : tNotF t σ S = some (!b, S1) := by unfold tNotF; rw [h1]; rfl
theorem zdg {t u : TF} {b : Bool} {r : Option (Bool × So)} (h1 : t σ S = some (b, S1)) (h2 : iteK b (u σ S1) (some (false, S1)) = r) : tAndF t u σ S = r := by
 unfold tAndF; rw [h1]; simp only [Option.bind_some]; exact h2
theorem zbA {t u : TF} {b : Bool} {r : Option (Bool × So)} (h1 : t σ S = some (b, S1)) (h2 : iteK b (some (true, S1)) (u σ S1) = r) : tOrF t u σ S = r := by
 unfold tOrF; rw [h1]; simp only [Option.bind_some]; exact h2
theorem zb7 : tTru σ S = some (true, S) := rfl
abbrev SR := Option (Fl × Sg × So)
def seqK (fl : Fl) (g : SF) (σ : Sg) (S : So) : SR := match fl with
 | .nx => g σ S
 | fl => some (fl, σ, S)
theorem zaf {g : SF} {r : SR} (h : g σ S = r) : seqK .nx g σ S = r := h
theorem zao {g : SF} : seqK (.rt z) g σ S = some (.rt z, σ, S) := rfl
theorem zkU {g : SF} : seqK .bk g σ S = some (.bk, σ, S) := rfl
theorem zkT {g : SF} : seqK .ct g σ S = some (.ct, σ, S) := rfl
theorem zac {f g : SF} {fl : Fl} {r : SR} (h1 : f σ S = some (fl, σ1, S1)) (h2 : seqK fl g σ1 S1 = r) : sSeq f g σ S = r := by
 unfold sSeq; rw [h1]; simp only [Option.bind_some]; cases fl <;> exact h2
theorem zak : sPass σ S = some (.nx, σ, S) := rfl
theorem zlQ : sCnt σ S = some (.ct, σ, S) := rfl
theorem zlR : sBrk σ S = some (.bk, σ, S) := rfl
theorem zjN : sRetN σ S = some (.rt .non, σ, S) := rfl
theorem zaG (h : fe σ S = some (x, S1)) : sRet fe σ S = some (.rt x, σ, S1) := by unfold sRet; rw [h]; rfl
theorem zgM (h : fe σ S = some (x, S1)) : sDrop fe σ S = some (.nx, σ, S1) := by unfold sDrop; rw [h]; rfl
theorem zaj {g : GF} (h1 : fe σ S = some (x, S1)) (h2 : g x σ S1 = some (σ1, S2)) : sAsg fe g σ S = some (.nx, σ1, S2) := by unfold sAsg; rw [h1]; simp only [Option.bind_some]; rw [h2]; rfl
theorem zaD {t : TF} {f g : SF} {b : Bool} {r : SR} (h1 : t σ S = some (b, S1)) (h2 : iteK b (f σ S1) (g σ S1) = r) : sIf t f g σ S = r := by
 unfold sIf; rw [h1]; simp only [Option.bind_some]; exact h2
theorem zkq {i : Nat} (h : σ.set i (some d) = σ1) : gNm i d σ S = some (σ1, S) := by unfold gNm; rw [h]
theorem znQ {n : Nat} {fr : GFs} {r : Option (Sg × So)} (h1 : ds.length = n) (h2 : fr ds σ S = r) : gTp n fr (.tup ds) σ S = r := by unfold gTp; simp only; rw [if_pos h1]; exact h2
theorem zj0 : gsNil [] σ S = some (σ, S) := rfl
theorem ziF {f : GF} {fr : GFs} {r : Option (Sg × So)} (h1 : f d σ S = some (σ1, S1)) (h2 : fr ds σ1 S1 = r) : gsCons f fr (d :: ds) σ S = r := by unfold gsCons; simp only; rw [h1]; exact h2
theorem ze5 {i j : Int} : gBin .Add (.int i) (.int j) S = some (.int (i + j), S) := rfl
theorem zkn {i j : Int} : gBin .Sub (.int i) (.int j) S = some (.int (i - j), S) := rfl
theorem zdt {i j : Int} (h : mulOk i j = true) : gBin .Mult (.int i) (.int j) S = some (.int (i * j), S) := by
 unfold gBin gMul; simp only; rw [if_pos h]
theorem zks {i j : Int} (h : divOk j = true) : gBin .FloorDiv (.int i) (.int j) S = some (.int (i.fdiv j), S) := by
 unfold gBin gDiv; simp only; rw [if_pos h]
theorem ziC {i j : Int} (h : j ≠ 0) : gBin .Mod (.int i) (.int j) S = some (.int (i.fmod j), S) := by
 unfold gBin gMod; simp only; rw [if_pos h]
theorem znL {i j : Int} : gCmp .Lt (.int i) (.int j) S = some (.bl (decide (i < j)), S) := rfl
theorem zoz {i j : Int} : gCmp .LtE (.int i) (.int j) S = some (.bl (decide (i ≤ j)), S) := rfl
theorem znO {i j : Int} : gCmp .Gt (.int i) (.int j) S = some (.bl (decide (j < i)), S) := rfl
theorem znP {i j : Int} : gCmp .GtE (.int i) (.int j) S = some (.bl (decide (j ≤ i)), S) := rfl
theorem znR {i j : Int} : gCmp .Eq (.int i) (.int j) S = some (.bl (decide (i = j)), S) := rfl
theorem zlS {i j : Int} : gCmp .NotEq (.int i) (.int j) S = some (.bl (!decide (i = j)), S) := rfl
theorem zoA : gCmp .Is x .non S = some (.bl (isNon x), S) := by cases x <;> rfl
theorem zjY : gCmp .IsNot x .non S = some (.bl (!isNon x), S) := by cases x <;> rfl
theorem znK {i : Int} : gNeg (.int i) S = some (.int (-i), S) := rfl
theorem zbY {i : Int} (h : atI xs i = some z) : gIx (.tup xs) (.int i) S = some (z, S) := by unfold gIx; simp only; rw [h]; rfl
theorem znN {n : Nat} {i : Int} (h1 : S[n]? = some (.lst xs)) (h : atI xs i = some z) : gIx (.ref n) (.int i) S = some (z, S) := by unfold gIx; simp only; rw [h1]; simp only; rw [h]; rfl
theorem zkp {n : Nat} {i : Int} (h1 : S[n]? = some (.frz xs)) (h : atI xs i = some z) : gIx (.ref n) (.int i) S = some (z, S) := by unfold gIx; simp only; rw [h1]; simp only; rw [h]; rfl
theorem znG (h : ds.length ≤ sizeLine) : gTup ds S = some (.tup ds, S) := by unfold gTup; rw [if_pos h]
theorem znM (h : ds.length ≤ sizeLine) : gLst ds S = some (.ref S.length, S ++ [.lst ds]) := by unfold gLst; rw [if_pos h]
theorem zlV : gLen [.tup xs] S = some (.int xs.length, S) := rfl
theorem zlW {n : Nat} (h1 : S[n]? = some (.lst xs)) : gLen [.ref n] S = some (.int xs.length, S) := by unfold gLen; simp only; rw [h1]
theorem zgk {n : Nat} (h1 : S[n]? = some (.frz xs)) : gLen [.ref n] S = some (.int xs.length, S) := by unfold gLen; simp only; rw [h1]
theorem ziA {n : Nat} (h1 : S[n]? = some (.lst xs)) : gTuple [.ref n] S = some (.tup xs, S) := by unfold gTuple; simp only; rw [h1]
theorem zjX {n : Nat} (h1 : S[n]? = some (.lst xs)) : gList [.ref n] S = some (.ref S.length, S ++ [.lst xs]) := by unfold gList; simp only; rw [h1]
theorem zjW : gList [.tup xs] S = some (.ref S.length, S ++ [.lst xs]) := rfl
theorem zlT {i j : Int} : gMin' [.int i, .int j] S = some (.int (if j < i then j else i), S) := rfl
theorem zlU {i j : Int} : gMax' [.int i, .int j] S = some (.int (if j > i then j else i), S) := rfl
theorem zkt {i : Int} : gAbs [.int i] S = some (.int (if i < 0 then -i else i), S) := rfl
theorem zgj {n : Nat} {ns : List Int} {m : Int} (h1 : S[n]? = some (.lst (ns.map .int))) (h : minI ns = some m) : gMin' [.ref n] S = some (.int m, S) := by unfold gMin' gMin; simp only; rw [h1]; simp only; rw [zfJ]; simp only [Option.bind_some]; rw [h]; rfl
theorem ziD {n : Nat} {ns : List Int} {m : Int} (h1 : S[n]? = some (.lst (ns.map .int))) (h : maxI ns = some m) : gMax' [.ref n] S = some (.int m, S) := by unfold gMax' gMax; simp only; rw [h1]; simp only; rw [zfJ]; simp only [Option.bind_some]; rw [h]; rfl
theorem ziI {n : Nat} {bs : List Bool} (h1 : S[n]? = some (.lst xs)) (h2 : boolsD xs = some bs) : gAll [.ref n] S = some (.bl (bs.all id), S) := by unfold gAll; simp only; rw [h1]; simp only; rw [h2]; rfl
theorem zjS {n : Nat} {ns : List Int} {m : Int} (h1 : S[n]? = some (.lst xs)) (h2 : intsD xs = some ns) (h : minI ns = some m) : gMin' [.ref n] S = some (.int m, S) := by unfold gMin' gMin; simp only; rw [h1]; simp only; rw [h2]; simp only [Option.bind_some]; rw [h]; rfl
theorem zjV {n : Nat} {ns : List Int} {m : Int} (h1 : S[n]? = some (.lst xs)) (h2 : intsD xs = some ns) (h : maxI ns = some m) : gMax' [.ref n] S = some (.int m, S) := by unfold gMax' gMax; simp only; rw [h1]; simp only; rw [h2]; simp only [Option.bind_some]; rw [h]; rfl
theorem zjR {ns : List Int} {m : Int} (h2 : intsD xs = some ns) (h : minI ns = some m) : gMin' [.tup xs] S = some (.int m, S) := by unfold gMin'; simp only; rw [h2]; simp only [Option.bind_some]; rw [h]; rfl
theorem zjU {ns : List Int} {m : Int} (h2 : intsD xs = some ns) (h : maxI ns = some m) : gMax' [.tup xs] S = some (.int m, S) := by unfold gMax'; simp only; rw [h2]; simp only [Option.bind_some]; rw [h]; rfl
theorem zjQ {i j : Int} : gMin' [.tup [.int i, .int j]] S = some (.int (if j < i then j else i), S) := rfl
theorem zjT {i j : Int} : gMax' [.tup [.int i, .int j]] S = some (.int (if j > i then j else i), S) := rfl
theorem ziH {n : Nat} (h1 : S[n]? = some (.lst xs)) (h : xs.length < sizeLine) {S3 : So} (h3 : S.set n (.lst (xs ++ [d])) = S3) : gAppend (.ref n) [d] S = some (.non, S3) := by
 unfold gAppend; simp only; rw [h1]; simp only; rw [if_pos h, h3]
theorem zoC {g : GM} {n : Nat} {r : Option (D × So)} (h1 : fo σ S = some (.ref n, S1)) (h2 : S1[n]? = some (.lst xs)) (h3 : aa σ S1 = some (ds, S2)) (h4 : g (.ref n) ds S2 = r) : eM g fo aa σ S = r := by
 unfold eM; rw [h1]; simp only [Option.bind_some]; rw [h2]; simp only; rw [h3]; exact h4
theorem znS {fl fh : PF} {l h : Option Int} {S3 : So} {r : Option (D × So)} (h1 : fe σ S = some (x, S1)) (h2 : fl σ S1 = some (l, S2)) (h3 : fh σ S2 = some (h, S3)) (h4 : gSl x l h S3 = r) : eSl fe fl fh σ S = r := by
 unfold eSl; rw [h1]; simp only [Option.bind_some]; rw [h2]; simp only [Option.bind_some]; rw [h3]; exact h4
theorem zjP : pNone σ S = some (none, S) := rfl
theorem zjO {i : Int} (h : fe σ S = some (.int i, S1)) : pSome fe σ S = some (some i, S1) := by unfold pSome; rw [h]; rfl
theorem znH {l h : Option Int} {ys : List D} (hc : ¬ (HT.sIx xs.length 0 l = 0 ∧ HT.sIx xs.length xs.length h = xs.length)) (e : cutD xs l h = ys) : gSl (.tup xs) l h S = some (.tup ys, S) := by
 unfold gSl; simp only; rw [if_pos hc, e]
theorem znI {n : Nat} {l h : Option Int} {ys : List D} (h1 : S[n]? = some (.lst xs)) (e : cutD xs l h = ys) : gSl (.ref n) l h S = some (.ref S.length, S ++ [.lst ys]) := by
 unfold gSl; simp only; rw [h1]; simp only; rw [e]
theorem zgO : cutD (x :: xs) (some 1) none = xs := by
 unfold cutD
 have h1 : HT.sIx (x :: xs).length 0 (some 1) = 1 := by
   unfold HT.sIx
   simp
   try omega
 have h2 : HT.sIx (x :: xs).length (x :: xs).length none = (x :: xs).length := rfl
 rw [h1, h2]
 simp
theorem zgQ : cutD (x :: xs) none (some 1) = [x] := by
 unfold cutD
 have h1 : HT.sIx (x :: xs).length (x :: xs).length (some 1) = 1 := by
   unfold HT.sIx
   simp
   try omega
 have h2 : HT.sIx (x :: xs).length 0 none = 0 := rfl
 rw [h1, h2]
 simp
theorem ziE {j : Int} (h1 : aa σ S = some ([.int j], S1)) (hb : -(2 ^ 62) ≤ j ∧ j < 2 ^ 62) : iRg1 aa σ S = some (.fix (rangeD 0 j.toNat), S1) := by
 unfold iRg1; rw [h1]; simp only [Option.bind_some]; rw [if_pos hb]
theorem zjZ (h1 : fe σ S = some (.tup xs, S1)) : iVal fe σ S = some (.fix xs, S1) := by unfold iVal; rw [h1]; rfl
theorem zbZ {n : Nat} (h1 : fe σ S = some (.ref n, S1)) (h2 : S1[n]? = some (.lst xs)) : iVal fe σ S = some (.lst n, S1) := by unfold iVal; rw [h1]; simp only [Option.bind_some]; rw [h2]
theorem zlX {xss : List (List D)} (h1 : aa σ S = some (ds, S1)) (h2 : 2 ≤ ds.length ∧ ds.length ≤ 4) (h3 : seqsD S1 ds = some xss) : iZip aa σ S = some (.zip ds, S1) := by
 unfold iZip; rw [h1]; simp only [Option.bind_some]; rw [if_pos h2, h3]; rfl
theorem zhr {fi : IF} {g : GF} {t : TF} {src : List (Option Nat)} {j : ItD} {n : Nat} {ys : List D} (h1 : fi σ S = some (j, S1)) (h2 : cntD j S1 = some n) (hn : n ≤ sizeLine) (hτ : srcD src σ = σ1) (h3 : lcN (nxD j) g t fe n 0 σ1 S1 [] = some (ys, S2)) : eLc fi g t fe src σ S = some (.ref S2.length, S2 ++ [.lst ys]) := by
 subst hτ; unfold eLc lcD; rw [h1]; simp only [Option.bind_some]; rw [h2]; simp only [Option.bind_some]; rw [if_pos hn, h3]; rfl
theorem zgN {nx : Nat → So → Option (Option D)} {g : GF} {t : TF} {i : Nat} {acc : List D} (h : nx i S = some none) : lcN nx g t fe 0 i σ S acc = some (acc, S) := by unfold lcN; rw [h]
theorem zc7 {nx : Nat → So → Option (Option D)} {g : GF} {t : TF} {k i : Nat} {acc acc' : List D} {r : Option (List D × So)} {S3 : So} (h : nx i S = some (some d)) (h1 : g d σ S = some (σ1, S1)) (h2 : t σ1 S1 = some (true, S2)) (h3 : fe σ1 S2 = some (x, S3)) (ha : acc ++ [x] = acc')
   (h4 : lcN nx g t fe k (i + 1) σ1 S3 acc' = r) : lcN nx g t fe (k + 1) i σ S acc = r := by
 unfold lcN; rw [h]; simp only; rw [h1]; simp only [Option.bind_some]; rw [h2]; simp only [Option.bind_some, if_true]; rw [h3]; rw [← ha] at h4; exact h4
theorem zbO {fi : IF} {g : GF} {f : SF} {j : ItD} {n : Nat} {r : SR} (h1 : fi σ S = some (j, S1)) (h2 : cntD j S1 = some n) (h3 : forN (nxD j) g f n 0 σ S1 = r) : sFor fi g f σ S = r := by
 unfold sFor; rw [h1]; simp only [Option.bind_some]; rw [h2]; exact h3
theorem zdh {nx : Nat → So → Option (Option D)} {g : GF} {f : SF} {i : Nat} (h : nx i S = some none) : forN nx g f 0 i σ S = some (.nx, σ, S) := by unfold forN; rw [h]
def forK (fl : Fl) (nx : Nat → So → Option (Option D)) (g : GF) (f : SF) (k i : Nat) (σ : Sg) (S : So) : SR := match fl with
 | .nx => forN nx g f k i σ S
 | .ct => forN nx g f k i σ S
 | .bk => some (.nx, σ, S)
 | .rt d => some (.rt d, σ, S)
theorem zas {nx : Nat → So → Option (Option D)} {g : GF} {f : SF} {k i : Nat} {fl : Fl} {σ2 : Sg} {r : SR} (h : nx i S = some (some d)) (h1 : g d σ S = some (σ1, S1)) (h2 : f σ1 S1 = some (fl, σ2, S2)) (h3 : forK fl nx g f k (i + 1) σ2 S2 = r) : forN nx g f (k + 1) i σ S = r := by
 unfold forN; rw [h]; simp only; rw [h1]; simp only [Option.bind_some]; rw [h2]; simp only [Option.bind_some]; cases fl <;> exact h3
theorem zaA {nx : Nat → So → Option (Option D)} {g : GF} {f : SF} {k i : Nat} {r : SR} (h : forN nx g f k i σ S = r) : forK .nx nx g f k i σ S = r := h
theorem zlM {nx : Nat → So → Option (Option D)} {g : GF} {f : SF} {k i : Nat} {r : SR} (h : forN nx g f k i σ S = r) : forK .ct nx g f k i σ S = r := h
theorem zdd {nx : Nat → So → Option (Option D)} {g : GF} {f : SF} {k i : Nat} : forK (.rt z) nx g f k i σ S = some (.rt z, σ, S) := rfl
theorem zlN {nx : Nat → So → Option (Option D)} {g : GF} {f : SF} {k i : Nat} : forK .bk nx g f k i σ S = some (.nx, σ, S) := rfl
theorem zns {i : Nat} (h : xs[i]? = some d) : nxD (.fix xs) i S = some (some d) := by show some xs[i]? = _; rw [h]
theorem zaM {n i : Nat} (h1 : S[n]? = some (.lst xs)) (h : xs[i]? = some d) : nxD (.lst n) i S = some (some d) := by unfold nxD; simp only; rw [h1]; simp only; rw [h]
theorem zow {n i : Nat} {lo : Int} {z : Int} (h : i < n) (hz : lo + (i : Nat) = z) : nxD (.fix (rangeD lo n)) i S = some (some (.int z)) := by
 unfold nxD; simp only; rw [zdC, if_pos h, hz]
theorem zaT {o : O} : (S ++ [o])[S.length]? = some o := by simp
theorem zcI {o p : O} {n : Nat} (h : S[n]? = some o) : (S ++ [p])[n]? = some o := by
 rw [List.getElem?_append_left (List.getElem?_eq_some_iff.mp h).1]; exact h
end
end MX
end
section
set_option autoImplicit false
namespace MX
open PySem L2
def pln : Nat → D → Bool
 | _, .non => true
 | _, .int _ => true
 | _, .str x => PyData.strOk x
 | n + 1, .tup xs => xs.all (pln n)
 | _, _ => false
def pyD : Nat → D → PyData
 | _, .int i => .int i
 | _, .str x => .str x
 | n + 1, .tup xs => .tuple (xs.map (pyD n))
 | _, _ => .none
theorem zfa {f : D → Option PyData} {g : D → PyData} : ∀ {xs : List D}, (∀ d ∈ xs, f d = some (g d)) → toPl f xs = some (xs.map g)
 | [], _ => rfl
 | d :: r, h => by
   unfold toPl
   rw [h d List.mem_cons_self, zfa (xs := r) λe he => h e (List.mem_cons_of_mem _ he)]
   rfl
theorem zd7 {S : So} : ∀ {n : Nat} {d : D}, pln n d = true → toP S (n + 1) d = some (pyD n d)
 | n, .non, _ => by simp [toP]; cases n <;> rfl
 | n, .int i, _ => by simp [toP]; cases n <;> rfl
 | n, .str x, _ => by simp [toP]; cases n <;> rfl
 | n + 1, .tup xs, h => by
   unfold pln at h
   rw [List.all_eq_true] at h
   unfold toP
   rw [zfa λd hd => zd7 (h d hd)]
   rfl
 | 0, .tup xs, h => by simp [pln] at h
 | _, .bl _, h => by simp [pln] at h
 | _, .ref _, h => by simp [pln] at h
 | _, .ty _, h => by simp [pln] at h
 | _, .adr _, h => by simp [pln] at h
theorem zdk {S : So} : ∀ {n m : Nat} {d : D} {p : PyData}, toP S n d = some p → n ≤ m → toP S m d = some p
 | 0, _, _, _, h, _ => by simp [toP] at h
 | n + 1, 0, _, _, _, hm => by omega
 | n + 1, m + 1, d, p, h, hm => by
   have aux : ∀ {xs : List D} {ps : List PyData}, toPl (toP S n) xs = some ps → toPl (toP S m) xs = some ps := λ{xs} => by
     induction xs with
     | nil => intro ps e; exact e
     | cons x r ih =>
       intro ps e
       simp only [toPl, Option.bind_eq_some_iff, Option.map_eq_some_iff] at e ⊢
       obtain ⟨q, e1, qs, e2, e3⟩ := e
       exact ⟨q, zdk e1 (by omega), qs, ih e2, e3⟩
   cases d with
   | tup xs =>
     simp only [toP, Option.map_eq_some_iff] at h ⊢
     obtain ⟨ps, e1, e2⟩ := h
     exact ⟨ps, aux e1, e2⟩
   | ref k =>
     simp only [toP] at h ⊢
     split at h
     · rename_i q
       simp only [Option.map_eq_some_iff] at h ⊢
       obtain ⟨ps, e1, e2⟩ := h
       exact ⟨ps, aux e1, e2⟩
     · rename_i q
       simp only [Option.map_eq_some_iff] at h ⊢
       obtain ⟨ps, e1, e2⟩ := h
       exact ⟨ps, aux e1, e2⟩
     · cases h
   | non => simpa [toP] using h
   | bl b => simpa [toP] using h
   | int i => simpa [toP] using h
   | str x => simpa [toP] using h
   | ty x => simp [toP] at h
   | adr x => simp [toP] at h
theorem canAll {ps : List PyData} (h : ∀ p ∈ ps, PyData.canLay0 p = true) : PyData.canLayAll0 ps = true := by
 induction ps with
 | nil => rfl
 | cons p r ih => unfold PyData.canLayAll0; rw [h p List.mem_cons_self, ih λq hq => h q (List.mem_cons_of_mem _ hq)]; rfl
theorem depAll {ps : List PyData} {n : Nat} (h : ∀ p ∈ ps, PyData.depth p ≤ n) : PyData.depthAll ps ≤ n := by
 induction ps with
 | nil => exact Nat.zero_le _
 | cons p r ih => unfold PyData.depthAll; exact Nat.max_le.mpr ⟨h p List.mem_cons_self, ih λq hq => h q (List.mem_cons_of_mem _ hq)⟩
theorem zfG : ∀ {n : Nat} {d : D}, pln n d = true → PyData.canLay0 (pyD n d) = true ∧ PyData.depth (pyD n d) ≤ n
 | n, .non, _ => by cases n <;> exact ⟨rfl, Nat.zero_le _⟩
 | n, .int i, _ => by cases n <;> exact ⟨rfl, Nat.zero_le _⟩
 | n, .str x, h => by
   have h' : PyData.strOk x = true := by cases n <;> simpa [pln] using h
   cases n <;> exact ⟨h', Nat.zero_le _⟩
 | n + 1, .tup xs, h => by
   unfold pln at h
   rw [List.all_eq_true] at h
   constructor
   · show PyData.canLayAll0 (xs.map (pyD n)) = true
     refine canAll λp hp => ?_
     obtain ⟨d, hd, rfl⟩ := List.mem_map.mp hp
     exact (zfG (h d hd)).1
   · show PyData.depthAll (xs.map (pyD n)) + 1 ≤ n + 1
     refine Nat.succ_le_succ (depAll λp hp => ?_)
     obtain ⟨d, hd, rfl⟩ := List.mem_map.mp hp
     exact (zfG (h d hd)).2
 | 0, .tup xs, h => by simp [pln] at h
 | _, .bl _, h => by simp [pln] at h
 | _, .ref _, h => by simp [pln] at h
 | _, .ty _, h => by simp [pln] at h
 | _, .adr _, h => by simp [pln] at h
theorem zeV {n : Nat} {d : D} (h : pln n d = true) (hn : n ≤ 64) : SeqAt.shaped (pyD n d) = true := by
 unfold SeqAt.shaped
 obtain ⟨a, b⟩ := zfG h
 rw [a, Bool.true_and]
 exact decide_eq_true (by omega)
theorem ziK {f : D → PyData} {xs : List D} : ∀ {ys : List D}, (∀ x ∈ xs, ∀ y ∈ ys, (PyData.eqv (f x) (f y) = true ↔ x = y)) → (PyData.eqvAll (xs.map f) (ys.map f) = true ↔ xs = ys) := by
 induction xs with
 | nil => intro ys h; cases ys <;> simp [PyData.eqvAll]
 | cons x r ih =>
   intro ys h
   cases ys with
   | nil => simp [PyData.eqvAll]
   | cons y s =>
     simp only [List.map_cons, PyData.eqvAll, Bool.and_eq_true, List.cons.injEq]
     rw [h x List.mem_cons_self y List.mem_cons_self, ih λa ha b hb => h a (List.mem_cons_of_mem _ ha) b (List.mem_cons_of_mem _ hb)]
theorem ziJ : ∀ {n : Nat} {x y : D}, pln n x = true → pln n y = true → (PyData.eqv (pyD n x) (pyD n y) = true ↔ x = y) := by
 intro n
 induction n with
 | zero =>
   intro x y hx hy
   cases x <;> cases y <;> simp_all [pln, pyD, PyData.eqv]
 | succ n ih =>
   intro x y hx hy
   cases x <;> cases y <;> simp_all [pln, pyD, PyData.eqv]
   exact ziK λa ha b hb => ih (hx a ha) (hy b hb)
open Classical in
theorem ziL {S : So} {x y : D} (n : Nat) (hx : pln n x = true) (hy : pln n y = true) (hn : n ≤ 23 := by decide) : eqD S x y = some (decide (x = y)) := by
 unfold eqD
 rw [zdk (zd7 hx) (by omega), zdk (zd7 hy) (by omega)]
 simp only [Option.bind_some]
 rw [if_pos ⟨zeV hx (by omega), zeV hy (by omega)⟩]
 congr 1
 rw [Bool.eq_iff_iff, ziJ hx hy, decide_eq_true_eq]
open Classical in
theorem zl1 {S : So} {n m : Nat} {xs ys : List D} (k : Nat) (h1 : S[n]? = some (.lst xs) ∨ S[n]? = some (.frz xs)) (h2 : S[m]? = some (.lst ys) ∨ S[m]? = some (.frz ys)) (hx : ∀ x ∈ xs, pln k x = true) (hy : ∀ y ∈ ys, pln k y = true) (hk : k ≤ 20 := by decide) :
   eqD S (.ref n) (.ref m) = some (decide (xs = ys)) := by
 have e1 : toP S (k + 2) (.ref n) = some (.list (xs.map (pyD k))) := by
   unfold toP
   rcases h1 with h1 | h1 <;> (rw [h1]; simp only; rw [zfa λd hd => zd7 (hx d hd)]; rfl)
 have e2 : toP S (k + 2) (.ref m) = some (.list (ys.map (pyD k))) := by
   unfold toP
   rcases h2 with h2 | h2 <;> (rw [h2]; simp only; rw [zfa λd hd => zd7 (hy d hd)]; rfl)
 have sh : ∀ zs : List D, (∀ z ∈ zs, pln k z = true) → SeqAt.shaped (.list (zs.map (pyD k))) = true := λzs hz => by
   unfold SeqAt.shaped
   rw [Bool.and_eq_true]
   constructor
   · show PyData.canLayAll0 _ = true
     refine canAll λp hp => ?_
     obtain ⟨d, hd, rfl⟩ := List.mem_map.mp hp
     exact (zfG (hz d hd)).1
   · refine decide_eq_true ?_
     show PyData.depthAll _ + 1 ≤ 64
     have : PyData.depthAll (zs.map (pyD k)) ≤ k := depAll λp hp => by
       obtain ⟨d, hd, rfl⟩ := List.mem_map.mp hp
       exact (zfG (hz d hd)).2
     omega
 unfold eqD
 rw [zdk e1 (by omega), zdk e2 (by omega)]
 simp only [Option.bind_some]
 rw [if_pos ⟨sh xs hx, sh ys hy⟩]
 congr 1
 rw [Bool.eq_iff_iff, decide_eq_true_eq]
 show PyData.eqvAll _ _ = true ↔ _
 exact ziK λa ha b hb => ziJ (hx a ha) (hy b hb)
section
variable {S : So} {x y : D}
def nInt : D → D → Bool
 | .int _, .int _ => false
 | _, _ => true
open Classical in
theorem ziG (h : nInt x y = true) (n : Nat) (hx : pln n x = true) (hy : pln n y = true) (hn : n ≤ 23) : gCmp .Eq x y S = some (.bl (decide (x = y)), S) := by
 have e : gCmp .Eq x y S = (eqD S x y).map λb => (.bl b, S) := by cases x <;> cases y <;> first | rfl | cases h
 rw [e, ziL n hx hy hn]; rfl
open Classical in
theorem zko (h : nInt x y = true) (n : Nat) (hx : pln n x = true) (hy : pln n y = true) (hn : n ≤ 23) : gCmp .NotEq x y S = some (.bl (!decide (x = y)), S) := by
 have e : gCmp .NotEq x y S = (eqD S x y).map λb => (.bl (!b), S) := by cases x <;> cases y <;> first | rfl | cases h
 rw [e, ziL n hx hy hn]; rfl
open Classical in
theorem zkr {n m : Nat} {xs ys : List D} (k : Nat) (h1 : S[n]? = some (.lst xs) ∨ S[n]? = some (.frz xs)) (h2 : S[m]? = some (.lst ys) ∨ S[m]? = some (.frz ys)) (hx : ∀ x ∈ xs, pln k x = true) (hy : ∀ y ∈ ys, pln k y = true) (hk : k ≤ 20) :
   gCmp .Eq (.ref n) (.ref m) S = some (.bl (decide (xs = ys)), S) := by
 show (eqD S (.ref n) (.ref m)).map _ = _
 rw [zl1 k h1 h2 hx hy hk]; rfl
end
end MX
end
section
set_option autoImplicit false
namespace MX
open PySem L2
open Builtin.Int (intBits)
def Bd (k : Nat) (x : Int) : Prop := x.natAbs < 2 ^ k
theorem Bd.le {k l : Nat} {x : Int} (h : Bd k x) (hl : k ≤ l) : Bd l x := Nat.lt_of_lt_of_le h (Nat.pow_le_pow_right (by decide) hl)
theorem Bd.add {k l : Nat} {x y : Int} (h : Bd k x) (g : Bd l y) : Bd (max k l + 1) (x + y) := by
 have h1 := h.le (Nat.le_max_left k l)
 have h2 := g.le (Nat.le_max_right k l)
 unfold Bd at *
 rw [Nat.pow_succ]
 have := Int.natAbs_add_le x y
 omega
theorem Bd.neg {k : Nat} {x : Int} (h : Bd k x) : Bd k (-x) := by unfold Bd at *; rw [Int.natAbs_neg]; exact h
theorem Bd.sub {k l : Nat} {x y : Int} (h : Bd k x) (g : Bd l y) : Bd (max k l + 1) (x - y) := by
 rw [Int.sub_eq_add_neg]; exact h.add g.neg
theorem Bd.mul {k l : Nat} {x y : Int} (h : Bd k x) (g : Bd l y) : Bd (k + l) (x * y) := by
 unfold Bd at *
 rw [Int.natAbs_mul, Nat.pow_add]
 exact Nat.mul_lt_mul'' h g
theorem Bd.lit (x : Int) : Bd (intBits x) x := by
 unfold Bd intBits
 split
 · rename_i h
   have : x = 0 := by simpa using h
   subst this; decide
 · exact Nat.lt_log2_self
theorem Bd.fmod {m x : Int} (h : 0 < m) : Bd (intBits m) (x.fmod m) := by
 have h1 := Int.fmod_nonneg_of_pos x h
 have h2 := Int.fmod_lt_of_pos x h
 have h3 := Bd.lit m
 unfold Bd at *
 omega
theorem Bd.fmodV {k : Nat} {m x : Int} (h : 0 < m) (hb : Bd k m) : Bd k (x.fmod m) := by
 have h1 := Int.fmod_nonneg_of_pos x h
 have h2 := Int.fmod_lt_of_pos x h
 unfold Bd at *
 omega
theorem zjM {x y : Int} (hy : 0 < y) : (x.fdiv y).natAbs ≤ x.natAbs := by
 rw [Int.fdiv_eq_ediv_of_nonneg _ (by omega)]
 exact Int.natAbs_ediv_le_natAbs x y
theorem Bd.fdiv {k : Nat} {x y : Int} (h : Bd k x) (hy : 0 < y) : Bd k (x.fdiv y) := Nat.lt_of_le_of_lt (zjM hy) h
theorem znJ {i j : Int} {S : So} (h : 0 ≤ j ∧ j ≤ 1000000 ∧ i.natAbs < 2 ^ 64) : gBin .LShift (.int i) (.int j) S = some (.int (i * 2 ^ j.toNat), S) := by
 unfold gBin gShl; simp only; rw [if_pos h]
theorem Bd.bits {k : Nat} {x : Int} (h : Bd k x) : intBits x ≤ k := by
 unfold Bd at h
 unfold intBits
 split
 · exact Nat.zero_le _
 · rename_i hn
   have hx : x.natAbs ≠ 0 := λe => hn (by have := Int.natAbs_eq_zero.mp e; subst this; rfl)
   exact (Nat.log2_lt hx).mpr h
theorem zbk {k l : Nat} {x y : Int} (h : Bd k x) (g : Bd l y) (hl : k + l ≤ 134217728) : mulOk x y = true := by
 unfold mulOk
 have h1 := h.bits
 have h2 := g.bits
 rw [Bool.or_eq_true]
 exact .inr (decide_eq_true (by omega))
theorem zh3 {x y : Int} (h : intBits y ≤ 64) : mulOk x y = true := by
 unfold mulOk
 rw [Bool.or_eq_true, Bool.or_eq_true]
 exact .inl (.inr (decide_eq_true h))
theorem zlD {x y : Int} (h : intBits x ≤ 64) : mulOk x y = true := by
 unfold mulOk
 rw [Bool.or_eq_true, Bool.or_eq_true]
 exact .inl (.inl (decide_eq_true h))
theorem zdu {k : Nat} {y : Int} (h : Bd k y) (h0 : y ≠ 0) (hl : k ≤ 8000) : divOk y = true := by
 unfold divOk
 have := h.bits
 rw [Bool.and_eq_true]
 exact ⟨decide_eq_true h0, decide_eq_true (by omega)⟩
abbrev P3 (x y z : Int) : D := .tup [.int x, .int y, .int z]
abbrev R2 (x y : Int) : D := .tup [.int x, .int y]
end MX
namespace MX
open PySem L2
theorem D.lo_mono : ∀ {d : D} {n m : Nat}, n ≤ m → D.lo n d = true → D.lo m d = true := by
 have key : ∀ (k : Nat) (d : D) (n m : Nat), sizeOf d ≤ k → n ≤ m → D.lo n d = true → D.lo m d = true := by
   intro k
   induction k with
   | zero => intro d n m hk; cases d <;> simp at hk
   | succ k ih =>
     intro d n m hk hm h
     cases d with
     | tup xs =>
       rw [D.lo] at h ⊢
       have aux : ∀ ys : List D, sizeOf ys ≤ k → los n ys = true → los m ys = true := by
         intro ys
         induction ys with
         | nil => intro _ _; simp [los]
         | cons y r ihr =>
           intro hs hl
           rw [los, Bool.and_eq_true] at hl ⊢
           simp at hs
           exact ⟨ih y n m (by omega) hm hl.1, ihr (by omega) hl.2⟩
       exact aux xs (by simp at hk; omega) h
     | ref j => rw [D.lo] at h ⊢; exact decide_eq_true (Nat.lt_of_lt_of_le (of_decide_eq_true h) hm)
     | _ => simp [D.lo]
 exact λ{d n m} hm h => key (sizeOf d) d n m (Nat.le_refl _) hm h
theorem zdG {n : Nat} : ∀ {xs : List D}, los n xs = true ↔ ∀ x ∈ xs, D.lo n x = true
 | [] => by simp [los]
 | x :: r => by rw [los, Bool.and_eq_true, zdG (xs := r)]; simp
theorem zfn {n m : Nat} {xs : List D} (hm : n ≤ m) (h : los n xs = true) : los m xs = true := zdG.mpr λx hx => D.lo_mono hm (zdG.mp h x hx)
theorem O.lo_mono {n m : Nat} {o : O} (hm : n ≤ m) (h : O.lo n o = true) : O.lo m o = true := by
 cases o with
 | lst xs => exact zfn hm h
 | frz xs => exact zfn hm h
 | ins C fs => exact zfn hm h
theorem WF.snoc {S : So} {o : O} (h : WF S) (ho : O.lo S.length o = true) : WF (S ++ [o]) := λp hp => by
 rw [List.length_append, List.length_singleton]
 rcases List.mem_append.mp hp with hp | hp
 · exact O.lo_mono (Nat.le_succ _) (h p hp)
 · rw [List.mem_singleton.mp hp]; exact O.lo_mono (Nat.le_succ _) ho
theorem zfo (n : Nat) (ns : List Int) : O.lo n (.lst (ns.map .int)) = true := zdG.mpr λx hx => by
 obtain ⟨i, _, rfl⟩ := List.mem_map.mp hx
 simp [D.lo]
def Gr (S S' : So) : Prop := (∃ G, S' = S ++ G) ∧ WF S'
theorem Gr.refl {S : So} (h : WF S) : Gr S S := ⟨⟨[], by simp⟩, h⟩
theorem Gr.trans {S S1 S2 : So} (a : Gr S S1) (b : Gr S1 S2) : Gr S S2 := by
 obtain ⟨⟨G, rfl⟩, _⟩ := a
 obtain ⟨⟨G', rfl⟩, h⟩ := b
 exact ⟨⟨G ++ G', by simp⟩, h⟩
theorem Gr.snoc {S S1 : So} {o : O} (a : Gr S S1) (ho : O.lo S1.length o = true) : Gr S (S1 ++ [o]) := by
 obtain ⟨⟨G, rfl⟩, h⟩ := a
 exact ⟨⟨G ++ [o], by simp⟩, h.snoc ho⟩
theorem Gr.old {S S1 : So} (a : Gr S S1) {n : Nat} {o : O} (h : S[n]? = some o) : S1[n]? = some o := by
 obtain ⟨⟨G, rfl⟩, _⟩ := a
 rw [List.getElem?_append_left (List.getElem?_eq_some_iff.mp h).1]; exact h
theorem Gr.take {S S1 : So} (a : Gr S S1) : S1.take S.length = S := by
 obtain ⟨⟨G, rfl⟩, _⟩ := a
 simp
end MX
namespace MX.P
open PySem L2 MX
abbrev Pt := Int × Int × Int
abbrev pD (p : Pt) : D := P3 p.1 p.2.1 p.2.2
theorem lo_pts (n : Nat) (pts : List Pt) : O.lo n (.lst (pts.map pD)) = true := zdG.mpr λx hx => by
 obtain ⟨i, _, rfl⟩ := List.mem_map.mp hx
 simp [D.lo, los]
end MX.P
end
open MX
local macro_rules | `(tactic| wtm_at "mx dec") => `(tactic| first | rfl | assumption | exact zcn (by first | assumption | rfl | omega) | exact za3 (by first | assumption | omega) | (simp only [Bool.not_eq_true', Bool.not_eq_false', Bool.not_true, Bool.not_false, decide_eq_true_eq, decide_eq_false_iff_not, isNon]; first | assumption | omega))
local macro_rules | `(tactic| wtm_at "mx so") => `(tactic| first | assumption | exact zaT | (apply zcI; wtm_at "mx so"))
local macro_rules | `(tactic| wtm_at "mx bdr") => `(tactic| first | assumption | ((with_reducible apply Bd.mul); (focus wtm_at "mx bdr"); (focus wtm_at "mx bdr")) | ((with_reducible apply Bd.add); (focus wtm_at "mx bdr"); (focus wtm_at "mx bdr")) | ((with_reducible apply Bd.sub); (focus wtm_at "mx bdr"); (focus wtm_at "mx bdr")) | ((with_reducible apply Bd.neg); wtm_at "mx bdr") | ((with_reducible apply Bd.fmod); decide) | ((with_reducible apply Bd.fmodV); (focus first | assumption | decide); (focus wtm_at "mx bdr")) | ((with_reducible apply Bd.fdiv); (focus wtm_at "mx bdr"); (focus first | decide | assumption | omega)) | exact Bd.lit _)
local macro_rules | `(tactic| wtm_at "mx bd") => `(tactic| (apply Bd.le; (focus wtm_at "mx bdr"); (focus first | decide | (simp only [Nat.reduceAdd, Nat.reduceMax, Nat.max_self]; omega))))
local macro_rules | `(tactic| wtm_at "mx side") => `(tactic| first | assumption | rfl | wtm_at "mx so" | (refine zh3 (by decide)) | (refine zlD (by decide)) | (apply zbk; (focus wtm_at "mx bdr"); (focus wtm_at "mx bdr"); (focus first | decide | omega)) | wtm_at "mx bd" | decide | omega)
local macro_rules | `(tactic| wtm_at "mx wf") => `(tactic| first | assumption | ((with_reducible apply WF.snoc); (focus wtm_at "mx wf"); (focus first | exact zfo _ _ | assumption | rfl)))
local macro_rules | `(tactic| wtm_at "mx op") => `(tactic| first
 | (with_reducible exact ze5) | (with_reducible exact zkn) | (with_reducible exact znL) | (with_reducible exact zoz) | (with_reducible exact znO) | (with_reducible exact znP) | (with_reducible exact znR) | (with_reducible exact zlS) | (with_reducible exact zoA) | (with_reducible exact zjY) | (with_reducible exact znK)
 | ((with_reducible apply zdt); wtm_at "mx side") | ((with_reducible apply ziC); wtm_at "mx side") | ((with_reducible apply zks); first | decide | wtm_at "mx side") | ((with_reducible apply znJ); decide)
 | ((with_reducible apply zbY); first | (with_reducible assumption) | rfl) | ((with_reducible apply znN); (focus wtm_at "mx so"); (focus first | (with_reducible assumption) | rfl)) | ((with_reducible apply zkp); (focus wtm_at "mx so"); (focus first | (with_reducible assumption) | rfl))
 | (refine ziG ?_ 8 ?_ ?_ ?_ <;> first | decide +kernel | rfl | decide) | (refine zko ?_ 8 ?_ ?_ ?_ <;> first | decide +kernel | rfl | decide))
local macro_rules | `(tactic| wtm_at "mx fn") => `(tactic| first
 | ((with_reducible apply znG); exact Nat.le_of_ble_eq_true rfl) | ((with_reducible apply znM); exact Nat.le_of_ble_eq_true rfl) | (with_reducible exact zlV) | (with_reducible exact zjQ) | (with_reducible exact zjT) | (with_reducible exact zlT) | (with_reducible exact zlU) | (with_reducible exact zkt) | (with_reducible exact zjW)
 | ((with_reducible apply zlW); wtm_at "mx so") | ((with_reducible apply zgk); wtm_at "mx so") | ((with_reducible apply ziA); wtm_at "mx so") | ((with_reducible apply zjX); wtm_at "mx so")
 | ((with_reducible apply ziI); (focus wtm_at "mx so"); (focus rfl)) | ((with_reducible apply zjS); (focus wtm_at "mx so"); (focus rfl); (focus rfl)) | ((with_reducible apply zjV); (focus wtm_at "mx so"); (focus rfl); (focus rfl)) | ((with_reducible apply zjR); (focus rfl); (focus rfl)) | ((with_reducible apply zjU); (focus rfl); (focus rfl))
 | ((with_reducible apply zai); (focus rfl); (focus wtm_at "mx call")))
local macro_rules | `(tactic| wtm_at "mx decq") => `(tactic| first | rfl | (with_reducible assumption) | exact zcn (by with_reducible assumption) | exact za3 (by with_reducible assumption) | exact zcn rfl)
local macro_rules | `(tactic| wtm_at "mx ite") => `(tactic| first | (apply zaF; (focus wtm_at "mx decq"); wtm_at "mx ev") | (apply zaz; (focus wtm_at "mx decq"); wtm_at "mx ev") | (apply zaF; (focus wtm_at "mx dec"); wtm_at "mx ev") | (apply zaz; (focus wtm_at "mx dec"); wtm_at "mx ev"))
local macro_rules | `(tactic| wtm_at "mx set") => `(tactic| first | (simp only [List.set_cons_zero, List.set_cons_succ, List.set]; done) | (simp only [List.set_cons_zero, List.set_cons_succ, List.set]; rfl) | rfl)
local macro_rules | `(tactic| wtm_at "mx tg") => `(tactic| first
 | ((with_reducible apply zkq); wtm_at "mx set")
 | ((with_reducible apply znQ); (focus rfl); (focus wtm_at "mx tg"))
 | ((with_reducible apply ziF); (focus wtm_at "mx tg"); (focus wtm_at "mx tg"))
 | (with_reducible exact zj0))
local macro_rules | `(tactic| wtm_at "mx ev") => `(tactic| first
 | (with_reducible exact zaX) | ((with_reducible apply zaa); rfl)
 | ((with_reducible apply zav); (focus wtm_at "mx ev"); (focus wtm_at "mx ev"); (focus wtm_at "mx op"))
 | ((with_reducible apply zaH); (focus wtm_at "mx ev"); (focus wtm_at "mx fn"))
 | ((with_reducible apply zab); (focus wtm_at "mx ev"); (focus wtm_at "mx ev")) | (with_reducible exact zal)
 | ((with_reducible apply zac); (focus wtm_at "mx ev"); (focus wtm_at "mx seq"))
 | ((with_reducible apply zaG); wtm_at "mx ev") | (with_reducible exact zak) | (with_reducible exact zjN) | (with_reducible exact zlQ) | (with_reducible exact zlR)
 | ((with_reducible apply zaj); (focus wtm_at "mx ev"); (focus wtm_at "mx tg"))
 | ((with_reducible apply zaD); (focus wtm_at "mx ev"); (focus wtm_at "mx ite"))
 | ((with_reducible apply zgM); wtm_at "mx ev")
 | ((with_reducible apply zaY); wtm_at "mx ev") | ((with_reducible apply ziB); wtm_at "mx ev")
 | ((with_reducible apply zdg); (focus wtm_at "mx ev"); (focus wtm_at "mx ite")) | ((with_reducible apply zbA); (focus wtm_at "mx ev"); (focus wtm_at "mx ite"))
 | ((with_reducible apply zfr); (focus wtm_at "mx ev"); (focus rfl))
 | ((with_reducible apply zoB); (focus wtm_at "mx ev"); (focus wtm_at "mx op"))
 | ((with_reducible apply zlY); wtm_at "mx ev")
 | ((with_reducible apply zgl); (focus wtm_at "mx ev"); (focus wtm_at "mx ite")) | ((with_reducible apply zfO); (focus wtm_at "mx ev"); (focus wtm_at "mx ite"))
 | ((with_reducible apply znT); (focus wtm_at "mx ev"); (focus wtm_at "mx ite"))
 | ((with_reducible apply znS); (focus wtm_at "mx ev"); (focus wtm_at "mx ev"); (focus wtm_at "mx ev"); (focus wtm_at "mx sl")) | (with_reducible exact zjP) | ((with_reducible apply zjO); wtm_at "mx ev")
 | ((with_reducible apply zhr); (focus wtm_at "mx it"); (focus rfl); (focus exact Nat.le_of_ble_eq_true rfl); (focus simp only [srcD, List.map_cons, List.map_nil, Option.bind_some, Option.bind_none, List.getElem?_cons_zero, List.getElem?_cons_succ, Option.join_some]; rfl); (focus wtm_at "mx lc"))
 | ((with_reducible apply zbO); (focus wtm_at "mx it"); (focus rfl); (focus wtm_at "mx for"))
 | (with_reducible exact zb7)
 | exact rfl)
local macro_rules | `(tactic| wtm_at "mx it") => `(tactic| first | ((with_reducible apply ziE); (focus wtm_at "mx ev"); (focus decide)) | ((with_reducible apply zjZ); wtm_at "mx ev") | ((with_reducible apply zlX); (focus wtm_at "mx ev"); (focus exact ⟨Nat.le_of_ble_eq_true rfl, Nat.le_of_ble_eq_true rfl⟩); (focus rfl)) | ((with_reducible apply zbZ); (focus wtm_at "mx ev"); (focus wtm_at "mx so")))
local macro_rules | `(tactic| wtm_at "mx lc") => `(tactic| first | (apply zc7; (focus wtm_at "mx nx"); (focus wtm_at "mx tg"); (focus wtm_at "mx ev"); (focus wtm_at "mx ev"); (focus simp only [List.nil_append, List.cons_append]; rfl); (focus wtm_at "mx lc")) | (apply zgN; rfl))
local macro_rules | `(tactic| wtm_at "mx ge") => `(tactic| first | (simp only [List.getElem?_cons_zero, List.getElem?_cons_succ]; done) | (simp only [List.getElem?_cons_zero, List.getElem?_cons_succ]; rfl) | rfl)
local macro_rules | `(tactic| wtm_at "mx nx") => `(tactic| first | ((with_reducible apply zow); (focus decide); (focus first | (simp; rfl) | rfl)) | ((with_reducible apply zns); wtm_at "mx ge") | ((with_reducible apply zaM); (focus wtm_at "mx so"); (focus wtm_at "mx ge")) | rfl)
local macro_rules | `(tactic| wtm_at "mx for") => `(tactic| first | (apply zas; (focus wtm_at "mx nx"); (focus wtm_at "mx tg"); (focus wtm_at "mx ev"); (focus wtm_at "mx fork")) | (apply zdh; rfl))
local macro_rules | `(tactic| wtm_at "mx fork") => `(tactic| first | (with_reducible exact zdd) | (with_reducible exact zlN) | ((with_reducible apply zaA); wtm_at "mx for") | ((with_reducible apply zlM); wtm_at "mx for"))
local macro_rules | `(tactic| wtm_at "mx sl") => `(tactic| first | ((with_reducible apply znH); (focus exact of_decide_eq_false rfl); (focus first | exact zgO | exact zgQ)) | ((with_reducible apply znI); (focus wtm_at "mx so"); (focus first | exact zgO | exact zgQ | rfl)))
local macro_rules | `(tactic| wtm_at "mx seq") => `(tactic| first | exact zao | ((with_reducible apply zaf); wtm_at "mx ev") | (with_reducible exact zkU) | (with_reducible exact zkT))
local macro_rules | `(tactic| wtm_at "mx st") => `(tactic| simp only [stD, List.map_cons, List.map_nil, List.length_cons, List.length_nil, Nat.reduceAdd, Nat.reduceSub, Nat.zero_add, Nat.sub_self, List.replicate, List.cons_append, List.nil_append, List.append_nil])
local macro_rules | `(tactic| wtm_at "mx take") => `(tactic| first | exact List.take_length | simp [List.take_append])
local macro_rules | `(tactic| wtm_at "mx gr") => `(tactic| first | assumption | (apply Gr.refl; wtm_at "mx wf") | ((with_reducible apply Gr.snoc); (focus wtm_at "mx gr"); (focus first | exact zfo _ _ | exact MX.P.lo_pts _ _ | rfl | assumption)))
section
set_option autoImplicit false
namespace MX.P
open PySem L2 MX
theorem zeH (a b c d e f : Int) (S : So) : zae [P3 a b c, P3 d e f] S = some (P3 (d - a) (e - b) (f - c), S) := by
 refine zad (σ' := [some (P3 a b c), some (P3 d e f)]) (S' := S) ?_ (by simp) rfl
 show zbI [some (P3 a b c), some (P3 d e f)] S = _
 unfold zbI
 wtm_at "mx ev"
theorem zmB {k l : Nat} {a b c d e f : Int} (ha : Bd k a) (hb : Bd k b) (hc : Bd k c) (hd : Bd l d) (he : Bd l e) (hf : Bd l f) (hk : k + l ≤ 134217728) (S : So) : za0 [P3 a b c, P3 d e f] S = some (.int (a * d + b * e + c * f), S) := by
 refine zad (σ' := [some (P3 a b c), some (P3 d e f)]) (S' := S) ?_ (by simp) rfl
 show zka [some (P3 a b c), some (P3 d e f)] S = _
 unfold zka
 wtm_at "mx ev"
theorem zjc {k l : Nat} {a b c d e f : Int} (ha : Bd k a) (hb : Bd k b) (hc : Bd k c) (hd : Bd l d) (he : Bd l e) (hf : Bd l f) (hk : k + l ≤ 134217728) (S : So) : zaO [P3 a b c, P3 d e f] S = some (P3 (b * f - c * e) (c * d - a * f) (a * e - b * d), S) := by
 refine zad (σ' := [some (P3 a b c), some (P3 d e f)]) (S' := S) ?_ (by simp) rfl
 show zfx [some (P3 a b c), some (P3 d e f)] S = _
 unfold zfx
 wtm_at "mx ev"
theorem sp_is_less {k l : Nat} {a b c d : Int} (ha : Bd k a) (hb : Bd k b) (hc : Bd l c) (hd : Bd l d) (hk : k + l ≤ 134217728) (S : So) : zck [R2 a b, R2 c d] S = some (.bl (decide (a * d < c * b)), S) := by
 refine zad (σ' := [some (R2 a b), some (R2 c d)]) (S' := S) ?_ (by simp) rfl
 show zdw [some (R2 a b), some (R2 c d)] S = _
 unfold zdw
 wtm_at "mx ev"
def drawnI (c k : Int) : Int := (((c * 6364136223846793005 + (k + 1) * 1442695040888963407).fmod 340282366920938463463374607431768211507) * ((c * 6364136223846793005 + (k + 1) * 1442695040888963407).fmod 340282366920938463463374607431768211507)).fmod 340282366920938463463374607431768211297
theorem sp_drawn (c k : Int) (S : So) : zaU [.int c, .int k] S = some (.int (drawnI c k), S) := by
 refine zad (σ' := [some (.int c), some (.int k), some (.int ((c * 6364136223846793005 + (k + 1) * 1442695040888963407).fmod 340282366920938463463374607431768211507))]) (S' := S) ?_ (by simp) rfl
 show zb2 [some (.int c), some (.int k), none] S = _
 unfold zb2
 wtm_at "mx ev"
end MX.P
end
section
set_option autoImplicit false
local macro_rules | `(tactic| wtm_at "mx call") => `(tactic| exact MX.P.sp_drawn _ _ _)
namespace MX.P
open PySem L2 MX
def cellI (ns : List Int) (k : Int) : Int := if ns = [] then k * 7919 else (ns[(k.fmod ns.length).toNat]?.getD 0) + k.fdiv ns.length * 104729
theorem plnInts (k : Nat) (ns : List Int) : ∀ x ∈ ns.map D.int, pln k x = true := λx hx => by
 obtain ⟨n, _, rfl⟩ := List.mem_map.mp hx
 cases k <;> rfl
theorem zkO {ns : List Int} (hn : ns.length ≤ 63) (k : Int) {S : So} (h : S[0]? = some (.frz (ns.map .int))) : zdf [.ref 0, .int k] S = some (.int (cellI ns k), S) := by
 have e1 : tBl (eB (gCmp .Eq) (eVar 0) (eN gLst (aNil))) [some (.ref 0), some (.int k)] S = some (decide (ns.map D.int = []), S ++ [.lst []]) := by
   apply zaY
   apply zav
   · wtm_at "mx ev"
   · wtm_at "mx ev"
   · rw [zkr 0 (.inr (zcI h)) (.inl zaT) (plnInts 0 ns) (by simp) (by decide)]
 by_cases hz : ns = []
 · apply zad
   · wtm_at "mx st"
     unfold zcE
     apply zac
     · apply zaD
       · exact e1
       · apply zaF
         · simp [hz]
         · wtm_at "mx ev"
     · have : cellI ns k = k * 7919 := by unfold cellI; rw [if_pos hz]
       rw [this]
       wtm_at "mx seq"
   · simp
   · rfl
 · have hl : 0 < ns.length := List.length_pos_iff.mpr hz
   have hl' : (0 : Int) < ((ns.map D.int).length : Int) := by simp; omega
   have h1 := Int.fmod_nonneg_of_pos k hl'
   have h2 := Int.fmod_lt_of_pos k hl'
   have hb : Bd 7 ((ns.map D.int).length : Int) := by unfold Bd; simp; omega
   have e2 : atI (ns.map D.int) (k.fmod ((ns.map D.int).length : Int)) = some (.int (ns[(k.fmod ns.length).toNat]?.getD 0)) := by
     unfold atI ixN
     rw [if_pos h1, if_pos h2]
     simp only [List.length_map] at h2 h1 ⊢
     simp only [Option.bind_some, List.getElem?_map]
     have : (k.fmod (ns.length : Int)).toNat < ns.length := by omega
     rw [List.getElem?_eq_getElem this]
     rfl
   apply zad
   · wtm_at "mx st"
     unfold zcE
     apply zac
     · apply zaD
       · exact e1
       · apply zaz
         · simp [hz]
         · wtm_at "mx ev"
     · apply zaf
       apply zac
       · apply zaG
         apply zav
         · apply zav
           · wtm_at "mx ev"
           · apply zav
             · wtm_at "mx ev"
             · apply zaH
               · wtm_at "mx ev"
               · exact zgk (zcI h)
             · exact ziC (by omega)
           · exact zkp (zcI h) e2
         · apply zav
           · apply zav
             · wtm_at "mx ev"
             · apply zaH
               · wtm_at "mx ev"
               · exact zgk (zcI h)
             · exact zks (zdu hb (by omega) (by decide))
           · wtm_at "mx ev"
           · exact zdt (zh3 (by decide))
         · exact ze5
       · have : cellI ns k = (ns[(k.fmod ns.length).toNat]?.getD 0) + k.fdiv ((ns.map D.int).length : Int) * 104729 := by unfold cellI; rw [if_neg hz, List.length_map]
         rw [this]
         exact zao
   · simp
   · rfl
theorem zcy (c k : Int) : ∃ x y z : Int, Bd 80 x ∧ Bd 80 y ∧ Bd 80 z ∧ ∀ S, za1 [.int c, .int k] S = some (P3 x y z, S) := by
 obtain ⟨w, hw0, hw1, ew⟩ : ∃ w : Int, 0 < w ∧ w ≤ 2001 ∧ atI [D.int 3, .int 7, .int 13, .int 2001] ((drawnI c k).fmod 4) = some (.int w) := by
   have h1 := Int.fmod_nonneg_of_pos (drawnI c k) (by decide : (0 : Int) < 4)
   have h2 := Int.fmod_lt_of_pos (drawnI c k) (by decide : (0 : Int) < 4)
   generalize (drawnI c k).fmod 4 = i at h1 h2
   have : i = 0 ∨ i = 1 ∨ i = 2 ∨ i = 3 := by omega
   rcases this with rfl | rfl | rfl | rfl
   · exact ⟨3, by decide, by decide, rfl⟩
   · exact ⟨7, by decide, by decide, rfl⟩
   · exact ⟨13, by decide, by decide, rfl⟩
   · exact ⟨2001, by decide, by decide, rfl⟩
 have hwb : Bd 11 w := by unfold Bd; omega
 have hwn : w ≠ 0 := by omega
 have bx : ∀ y : Int, Bd 12 (y.fmod w - w.fdiv 2) := λy => by
   have h1 := Int.fmod_nonneg_of_pos y hw0
   have h2 := Int.fmod_lt_of_pos y hw0
   have h3 : w.fdiv 2 = w / 2 := Int.fdiv_eq_ediv_of_nonneg _ (by decide)
   unfold Bd
   rw [h3]; omega
 by_cases hb : ((drawnI c k).fdiv 4).fmod 16 = 3
 · have hm : Bd 61 (1 + c.fmod (1 * 2 ^ (60 : Int).toNat)) := by
     have h1 := Int.fmod_nonneg_of_pos c (by decide : (0 : Int) < 1 * 2 ^ (60 : Int).toNat)
     have h2 := Int.fmod_lt_of_pos c (by decide : (0 : Int) < 1 * 2 ^ (60 : Int).toNat)
     unfold Bd
     have : (1 * 2 ^ (60 : Int).toNat : Int) = 1152921504606846976 := by decide
     rw [this] at h1 h2 ⊢
     omega
   have bb : ∀ y : Int, Bd 80 ((y.fmod w - w.fdiv 2) * (1 + c.fmod (1 * 2 ^ (60 : Int).toNat))) := λy => ((bx y).mul hm).le (by decide)
   have mm : ∀ y : Int, mulOk (y.fmod w - w.fdiv 2) (1 + c.fmod (1 * 2 ^ (60 : Int).toNat)) = true := λy => zbk (bx y) hm (by decide)
   refine' ⟨_, _, _, bb _, bb _, bb _, λS => ?h⟩
   case h =>
     apply zad
     · wtm_at "mx st"
       unfold zb1
       wtm_at "mx ev"
     · wtm_at "mx take"
     · rfl
 · have bb : ∀ y : Int, Bd 80 (y.fmod w - w.fdiv 2) := λy => (bx y).le (by decide)
   refine' ⟨_, _, _, bb _, bb _, bb _, λS => ?h2⟩
   case h2 =>
     apply zad
     · wtm_at "mx st"
       unfold zb1
       wtm_at "mx ev"
     · wtm_at "mx take"
     · rfl
end MX.P
end
section
set_option autoImplicit false
namespace MX.P
open PySem L2 MX
def co (k : Int) (p : Pt) : Int := if k = 0 then p.1 else if k = 1 then p.2.1 else p.2.2
theorem zaW {k : Int} (h0 : 0 ≤ k) (h2 : k ≤ 2) (p : Pt) : atI [D.int p.1, .int p.2.1, .int p.2.2] k = some (.int (co k p)) := by
 have : k = 0 ∨ k = 1 ∨ k = 2 := by omega
 rcases this with rfl | rfl | rfl <;> rfl
theorem zlE {σ : Sg} {S : So} {i j n : Nat} {k : Int} {pts : List Pt} (hi : σ[i]? = some (some (.ref n))) (hj : σ[j]? = some (some (.int k))) (hn : S[n]? = some (.lst (pts.map pD))) (hl : pts.length ≤ 1000) (h0 : 0 ≤ k) (h2 : k ≤ 2) :
   eLc (iVal (eVar i)) (gNm 0) tTru (eB gIx (eVar 0) (eVar 1)) [none, some j] σ S = some (.ref S.length, S ++ [.lst ((pts.map (co k)).map .int)]) := by
 have key : lcN (nxD (.lst n)) (gNm 0) tTru (eB gIx (eVar 0) (eVar 1)) (pts.map pD).length 0 [none, some (.int k)] S [] = some ((pts.map (co k)).map .int, S) := by
   have := zd2 (nx := nxD (.lst n)) (g := gNm 0) (t := tTru) (fe := eB gIx (eVar 0) (eVar 1)) (S := S) (xs := pts.map pD) (λτ => ∃ v, τ = [v, some (.int k)]) (λ_ => true) (λd => match d with | .tup xs => (atI xs k).getD .non | _ => .non)
     (λi => by unfold nxD; simp only; rw [hn]) (λd hd τ hT => ?_) (pts.map pD).length 0 [none, some (.int k)] [] ⟨none, rfl⟩ (by simp)
   · rw [this]
     congr 2
     rw [List.nil_append, List.drop_zero, List.filter_eq_self.mpr (λ_ _ => rfl), List.map_map, List.map_map]
     refine List.map_congr_left λp _ => ?_
     show (atI [D.int p.1, .int p.2.1, .int p.2.2] k).getD .non = _
     rw [zaW h0 h2]; rfl
   · obtain ⟨v, rfl⟩ := hT
     obtain ⟨p, _, rfl⟩ := List.mem_map.mp hd
     refine ⟨[some (pD p), some (.int k)], rfl, ⟨_, rfl⟩, rfl, λ_ => ?_⟩
     apply zav
     · wtm_at "mx ev"
     · wtm_at "mx ev"
     · show gIx (.tup [D.int p.1, .int p.2.1, .int p.2.2]) (.int k) S = _
       rw [zbY (zaW h0 h2 p)]
       show _ = some ((atI [D.int p.1, .int p.2.1, .int p.2.2] k).getD .non, S)
       rw [zaW h0 h2]; rfl
 apply zhr
 · exact zbZ (zaa hi) hn
 · show (match S[n]? with | some (.lst xs) => some xs.length | some (.frz xs) => some xs.length | _ => none) = _
   rw [hn]
 · rw [sizeLine_eq, List.length_map]; omega
 · simp only [srcD, List.map_cons, List.map_nil, Option.bind_some, Option.bind_none, hj, Option.join_some]; rfl
 · exact key
theorem sp_numbers_at {S : So} {n : Nat} {k : Int} {pts : List Pt} (hS : WF S) (hn : S[n]? = some (.lst (pts.map pD))) (hl : pts.length ≤ 1000) (h0 : 0 ≤ k) (h2 : k ≤ 2) :
   zfN [.ref n, .int k] S = some (.ref S.length, S ++ [.lst ((pts.map (co k)).map .int)]) := by
 apply zde
 · wtm_at "mx st"
   unfold zdW
   apply zac
   · apply zaG
     exact zlE rfl rfl hn hl h0 h2
   · exact zao
 · intro h; simp [D.lo] at h
 · simp
 · simp [D.lo]
 · exact hS.snoc (zfo _ _)
end MX.P
local macro_rules | `(tactic| wtm_at "mx call") => `(tactic| (apply MX.P.sp_numbers_at; (focus wtm_at "mx wf"); (focus wtm_at "mx so"); (focus assumption); (focus decide); (focus decide)))
local macro_rules | `(tactic| wtm_at "mx fn") => `(tactic| first | ((with_reducible apply zgj); (focus wtm_at "mx so"); (focus assumption)) | ((with_reducible apply ziD); (focus wtm_at "mx so"); (focus assumption)))
namespace MX.P
theorem sp_are_in_order {S : So} {a b c d e f : Int} : zb4 [P3 a b c, P3 d e f] S = some (.bl ([decide (a ≤ d), decide (b ≤ e), decide (c ≤ f)].all id), S) := by
 apply zad
 · wtm_at "mx st"
   unfold zcf
   wtm_at "mx ev"
 · wtm_at "mx take"
 · rfl
theorem zg1 : ¬ (D.tup [.str "triangle"] = D.tup [.str "box"]) := by
 intro h
 simp only [D.tup.injEq, List.cons.injEq, D.str.injEq, and_true] at h
 exact absurd h (by decide +kernel)
end MX.P
local macro_rules | `(tactic| wtm_at "mx call") => `(tactic| exact MX.P.sp_are_in_order)
namespace MX.P
theorem zeb {S : So} {a b c : D} : zc2 [.tup [.str "triangle", a, b, c]] S = some (.bl true, S) := by
 have := zg1
 apply zad
 · wtm_at "mx st"
   unfold zdM
   wtm_at "mx ev"
 · wtm_at "mx take"
 · rfl
end MX.P
end
section
set_option autoImplicit false
local macro_rules | `(tactic| wtm_at "mx call") => `(tactic| (with_reducible assumption))
namespace MX.P
open PySem L2 MX
theorem zdn {S : So} {sh : D} (h : zc2 [sh] S = some (.bl true, S)) : zbf [sh] S = some (.non, S) := by
 apply ze3
 · wtm_at "mx st"
   unfold zbj
   wtm_at "mx ev"
 · wtm_at "mx take"
end MX.P
end
section
set_option autoImplicit false
local macro_rules | `(tactic| wtm_at "mx call") => `(tactic| (with_reducible assumption))
namespace MX.P
open PySem L2 MX
def redQ (a b : Int) : Int × Int := ((Rat.divInt a b).num, ((Rat.divInt a b).den : Int))
theorem zhQ {a b c d : Int} (hb : b ≠ 0) (hd : d ≠ 0) (h : a * d = c * b) : redQ a b = redQ c d := by
 unfold redQ
 rw [(Rat.divInt_eq_divInt_iff hb hd).mpr h]
theorem zdq {a b : Int} (hb : 0 < b) : redQ a b = (a / ((Nat.gcd a.natAbs b.natAbs : Nat) : Int), b / ((Nat.gcd a.natAbs b.natAbs : Nat) : Int)) := by
 unfold redQ
 rw [Rat.num_divInt, Rat.den_divInt, if_neg (by omega), Int.sign_eq_one_of_pos hb, Int.one_mul, Int.gcd_eq_natAbs_gcd_natAbs, Nat.gcd_comm]
 congr 1
 have : (b.natAbs : Int) = b := by omega
 rw [Int.natCast_ediv, this]
theorem ziu {a b : Int} (hb : b ≠ 0) : 0 < Nat.gcd a.natAbs b.natAbs := Nat.gcd_pos_of_pos_right _ (by omega)
theorem ziw (a b : Int) : ((Nat.gcd a.natAbs b.natAbs : Nat) : Int) ∣ a := by
 exact Int.ofNat_dvd_left.mpr (Nat.gcd_dvd_left _ _)
theorem ziv (a b : Int) : ((Nat.gcd a.natAbs b.natAbs : Nat) : Int) ∣ b := by
 exact Int.ofNat_dvd_left.mpr (Nat.gcd_dvd_right _ _)
theorem zbU (a b : Int) : 0 < (redQ a b).2 := by
 unfold redQ
 have := (Rat.divInt a b).den_pos
 simp only
 omega
theorem zhc {a b : Int} (hb : b ≠ 0) : (redQ a b).1 * b = a * (redQ a b).2 := by
 unfold redQ
 have h := (Rat.divInt a b).num_divInt_den
 have := (Rat.divInt_eq_divInt_iff (by have := (Rat.divInt a b).den_pos; omega) hb).mp h
 exact this
theorem zeh (a b : Int) : redQ (redQ a b).1 (redQ a b).2 = redQ a b := by
 unfold redQ
 simp only [Rat.num_divInt_den]
theorem zcA {a b : Int} (ha : 0 ≤ a) (hb : 0 < b) : 0 ≤ (redQ a b).1 := by
 rw [zdq hb]
 exact Int.ediv_nonneg ha (by omega)
theorem Bd.of_le {k : Nat} {x y : Int} (h : Bd k y) (hx : x.natAbs ≤ y.natAbs) : Bd k x := Nat.lt_of_le_of_lt hx h
theorem zgc {k : Nat} {a b : Int} (ha : Bd k a) (hb : Bd k b) (h : 0 < b) : Bd k (redQ a b).1 ∧ Bd k (redQ a b).2 := by
 rw [zdq h]
 exact ⟨Bd.of_le ha (Int.natAbs_ediv_le_natAbs _ _), Bd.of_le hb (Int.natAbs_ediv_le_natAbs _ _)⟩
theorem zkk {k : Nat} {a b : Int} (hb : Bd k b) (h : b ≠ 0) : Bd k ((Nat.gcd a.natAbs b.natAbs : Nat) : Int) := by
 refine Bd.of_le hb ?_
 show Nat.gcd a.natAbs b.natAbs ≤ b.natAbs
 exact Nat.le_of_dvd (by omega) (Nat.gcd_dvd_right _ _)
theorem zmd : ∀ (N : Nat) (m n : Nat) (r : Option D) (S : So), n ≤ N → ∃ r', sWh (tBl (eB (gCmp .NotEq) (eVar 1) (eC (.int 0)))) (sSeq (sAsg (eB (gBin .Mod) (eVar 0) (eVar 1)) (gNm 2)) (sSeq (sAsg (eVar 1) (gNm 0)) (sSeq (sAsg (eVar 2) (gNm 1)) (sPass))))
   [some (.int (m : Nat)), some (.int (n : Nat)), r] S = some (.nx, [some (.int (Nat.gcd m n : Nat)), some (.int 0), r'], S)
 | N, m, 0, r, S, _ => by
   refine ⟨r, ?_⟩
   rw [Nat.gcd_zero_right]
   apply zhO
   apply zaY
   apply zav
   · wtm_at "mx ev"
   · wtm_at "mx ev"
   · rfl
 | 0, _, n + 1, _, _, h => by omega
 | N + 1, m, n + 1, r, S, h => by
   obtain ⟨r', e⟩ := zmd N (n + 1) (m % (n + 1)) (some (.int ((m % (n + 1) : Nat) : Int))) S (by have := Nat.mod_lt m (show 0 < n + 1 by omega); omega)
   refine ⟨r', ?_⟩
   have hg : Nat.gcd m (n + 1) = Nat.gcd (n + 1) (m % (n + 1)) := by rw [Nat.gcd_comm m, Nat.gcd_rec, Nat.gcd_comm]
   rw [hg]
   have hm : ((m : Nat) : Int).fmod ((n + 1 : Nat) : Int) = ((m % (n + 1) : Nat) : Int) := by
     rw [Int.fmod_eq_emod_of_nonneg _ (by omega)]; rfl
   refine zgF (σ1 := []) (fl := .nx) (S1 := S) (S2 := S) ?_ ?_ (.inl rfl) e
   · apply zaY
     have : D.bl true = .bl (!decide (((n + 1 : Nat) : Int) = 0)) := by
       rw [za3 (by omega)]; rfl
     rw [this]
     apply zav
     · wtm_at "mx ev"
     · wtm_at "mx ev"
     · wtm_at "mx op"
   · rw [← hm]
     have h0 : ((n + 1 : Nat) : Int) ≠ 0 := by omega
     wtm_at "mx ev"
theorem zdz (m n : Nat) (S : So) : zaZ [.int (m : Nat), .int (n : Nat)] S = some (.int (Nat.gcd m n : Nat), S) := by
 obtain ⟨r', e⟩ := zmd n m n none S (Nat.le_refl _)
 apply zad
 · wtm_at "mx st"
   unfold zbz
   apply zac
   · exact e
   · apply zaf
     apply zac
     · apply zaG
       apply zaH
       · wtm_at "mx ev"
       · exact zkt
     · have : (if ((Nat.gcd m n : Nat) : Int) < 0 then -((Nat.gcd m n : Nat) : Int) else ((Nat.gcd m n : Nat) : Int)) = ((Nat.gcd m n : Nat) : Int) := if_neg (by omega)
       rw [this]
       exact zao
 · wtm_at "mx take"
 · rfl
abbrev rD (p : Int × Int) : D := R2 p.1 p.2
theorem za4 {k : Nat} {a b : Int} (ha : 0 ≤ a) (hb : 0 < b) (hk : Bd k b) (h8 : k ≤ 8000) (S : So) : zaC [R2 a b] S = some (rD (redQ a b), S) := by
 have e : zaZ [.int a, .int b] S = some (.int ((Nat.gcd a.natAbs b.natAbs : Nat) : Int), S) := by
   have := zdz a.natAbs b.natAbs S
   have h1 : (a.natAbs : Int) = a := by omega
   have h2 : (b.natAbs : Int) = b := by omega
   rw [h1, h2] at this
   exact this
 have hg := ziu (a := a) (show b ≠ 0 by omega)
 have hd : divOk ((Nat.gcd a.natAbs b.natAbs : Nat) : Int) = true := zdu (zkk hk (by omega)) (by omega) h8
 apply zad
 · wtm_at "mx st"
   unfold zb8
   rw [zdq hb]
   rw [← Int.fdiv_eq_ediv_of_nonneg a (show (0 : Int) ≤ ((Nat.gcd a.natAbs b.natAbs : Nat) : Int) by omega), ← Int.fdiv_eq_ediv_of_nonneg b (show (0 : Int) ≤ ((Nat.gcd a.natAbs b.natAbs : Nat) : Int) by omega)]
   wtm_at "mx ev"
 · wtm_at "mx take"
 · rfl
theorem zmc {k : Nat} (hk : k ≤ 8000) : ∀ (N : Nat) (m n : Nat) (x y : D) (r : Option D) (S : So), n ≤ N → Bd k (m : Int) → Bd k (n : Int) → ∃ r', sWh (tBl (eB (gCmp .NotEq) (eVar 3) (eC (.int 0)))) (sSeq (sAsg (eB (gBin .Sub) (eVar 2) (eB (gBin .Mult) (eB (gBin .FloorDiv) (eVar 2) (eVar 3)) (eVar 3))) (gNm 4)) (sSeq (sAsg (eVar 3) (gNm 2)) (sSeq (sAsg (eVar 4) (gNm 3)) (sPass))))
   [some x, some y, some (.int (m : Nat)), some (.int (n : Nat)), r] S = some (.nx, [some x, some y, some (.int (Nat.gcd m n : Nat)), some (.int 0), r'], S)
 | N, m, 0, x, y, r, S, _, _, _ => by
   refine ⟨r, ?_⟩
   rw [Nat.gcd_zero_right]
   apply zhO
   apply zaY
   apply zav
   · wtm_at "mx ev"
   · wtm_at "mx ev"
   · rfl
 | 0, _, n + 1, _, _, _, _, h, _, _ => by omega
 | N + 1, m, n + 1, x, y, r, S, h, bm, bn => by
   have hlt := Nat.mod_lt m (show 0 < n + 1 by omega)
   obtain ⟨r', e⟩ := zmc hk N (n + 1) (m % (n + 1)) x y (some (.int ((m % (n + 1) : Nat) : Int))) S (by omega) bn (Bd.of_le bn (show m % (n + 1) ≤ n + 1 by omega))
   refine ⟨r', ?_⟩
   have hg : Nat.gcd m (n + 1) = Nat.gcd (n + 1) (m % (n + 1)) := by rw [Nat.gcd_comm m, Nat.gcd_rec, Nat.gcd_comm]
   rw [hg]
   have hm : ((m : Nat) : Int) - ((m : Nat) : Int).fdiv ((n + 1 : Nat) : Int) * ((n + 1 : Nat) : Int) = ((m % (n + 1) : Nat) : Int) := by
     rw [Int.fdiv_eq_ediv_of_nonneg _ (by omega)]
     have := Int.mul_ediv_add_emod (m : Int) ((n + 1 : Nat) : Int)
     rw [Int.mul_comm] at this
     have e2 : ((m % (n + 1) : Nat) : Int) = (m : Int) % ((n + 1 : Nat) : Int) := rfl
     rw [e2]
     omega
   have hdv : divOk ((n + 1 : Nat) : Int) = true := zdu bn (by omega) hk
   have hmu : mulOk (((m : Nat) : Int).fdiv ((n + 1 : Nat) : Int)) ((n + 1 : Nat) : Int) = true := zbk (Bd.fdiv bm (by omega)) bn (by omega)
   refine zgF (σ1 := []) (fl := .nx) (S1 := S) (S2 := S) ?_ ?_ (.inl rfl) e
   · apply zaY
     have : D.bl true = .bl (!decide (((n + 1 : Nat) : Int) = 0)) := by
       rw [za3 (by omega)]; rfl
     rw [this]
     apply zav
     · wtm_at "mx ev"
     · wtm_at "mx ev"
     · wtm_at "mx op"
   · rw [← hm]
     wtm_at "mx ev"
theorem zgL {x g : Int} (h : g ∣ x) (hg : 0 < g) : x.fdiv (0 - g) = -x / g := by
 obtain ⟨c, rfl⟩ := h
 have h1 : -(g * c) / g = -c := by rw [← Int.mul_neg, Int.mul_ediv_cancel_left _ (by omega)]
 have h2 : (g * c).fdiv (0 - g) = -c := by
   have : g * c = (0 - g) * (-c) := by grind
   rw [this, Int.mul_fdiv_cancel_left _ (by omega)]
 rw [h1, h2]
theorem zjn {a b : Int} (hb : b < 0) : redQ a b = (-a / ((Nat.gcd a.natAbs b.natAbs : Nat) : Int), -b / ((Nat.gcd a.natAbs b.natAbs : Nat) : Int)) := by
 have := zhQ (a := a) (b := b) (c := -a) (d := -b) (by omega) (by omega) (by grind)
 rw [this, zdq (by omega), Int.natAbs_neg, Int.natAbs_neg]
theorem zdQ {k : Nat} {a b : Int} (hb : b ≠ 0) (ba : Bd k a) (bb : Bd k b) (h8 : k ≤ 8000) (S : So) : zbW [.int a, .int b] S = some (rD (redQ a b), S) := by
 have ea : (if a < 0 then -a else a) = ((a.natAbs : Nat) : Int) := by split <;> omega
 have eb : (if b < 0 then -b else b) = ((b.natAbs : Nat) : Int) := by split <;> omega
 obtain ⟨r', e⟩ := zmc (k := k) h8 b.natAbs a.natAbs b.natAbs (.int a) (.int b) none S (Nat.le_refl _) (by unfold Bd at *; simpa using ba) (by unfold Bd at *; simpa using bb)
 have hg := ziu (a := a) hb
 have hgb := zkk (a := a) bb hb
 have hd : divOk ((Nat.gcd a.natAbs b.natAbs : Nat) : Int) = true := zdu hgb (by omega) h8
 have hd' : divOk (0 - ((Nat.gcd a.natAbs b.natAbs : Nat) : Int)) = true := zdu (k := k) (by rw [Int.zero_sub]; exact hgb.neg) (by omega) h8
 by_cases hn : b < 0
 · apply zad
   · wtm_at "mx st"
     unfold zb0
     apply zac
     · wtm_at "mx ev"
     · apply zaf
       apply zac
       · wtm_at "mx ev"
       · apply zaf
         rw [ea, eb]
         apply zac
         · exact e
         · apply zaf
           rw [zjn hn, ← zgL (ziw a b) (by omega), ← zgL (ziv a b) (by omega)]
           wtm_at "mx ev"
   · wtm_at "mx take"
   · rfl
 · apply zad
   · wtm_at "mx st"
     unfold zb0
     apply zac
     · wtm_at "mx ev"
     · apply zaf
       apply zac
       · wtm_at "mx ev"
       · apply zaf
         rw [ea, eb]
         apply zac
         · exact e
         · apply zaf
           rw [zdq (by omega), ← Int.fdiv_eq_ediv_of_nonneg a (show (0 : Int) ≤ ((Nat.gcd a.natAbs b.natAbs : Nat) : Int) by omega), ← Int.fdiv_eq_ediv_of_nonneg b (show (0 : Int) ≤ ((Nat.gcd a.natAbs b.natAbs : Nat) : Int) by omega)]
           wtm_at "mx ev"
   · wtm_at "mx take"
   · rfl
theorem zf2 {k l : Nat} {a b c d : Int} (ha : Bd k a) (hb : Bd k b) (hc : Bd l c) (hd : Bd l d) (hk : k + l ≤ 134217728) (S : So) : zbN [R2 a b, R2 c d] S = some (.bl (decide (a * d < c * b)), S) := by
 apply zad
 · wtm_at "mx st"
   unfold zdj
   wtm_at "mx ev"
 · wtm_at "mx take"
 · rfl
end MX.P
end
section
set_option autoImplicit false
local macro_rules | `(tactic| wtm_at "mx call") => `(tactic| first | (with_reducible assumption) | ((with_reducible apply MX.P.sp_is_less); (focus with_reducible assumption); (focus with_reducible assumption); (focus with_reducible assumption); (focus with_reducible assumption); (focus omega)))
namespace MX.P
open PySem L2 MX
def lessQ (a b : Int × Int) : Prop := a.1 * b.2 < b.1 * a.2
instance (a b : Int × Int) : Decidable (lessQ a b) := by unfold lessQ; infer_instance
end MX.P
end
section
set_option autoImplicit false
local macro_rules | `(tactic| wtm_at "mx call") => `(tactic| first | (with_reducible assumption) | ((with_reducible apply MX.P.sp_is_less); (focus with_reducible assumption); (focus with_reducible assumption); (focus with_reducible assumption); (focus with_reducible assumption); (focus omega)))
namespace MX.P
open PySem L2 MX
def BdP (k : Nat) (p : Pt) : Prop := Bd k p.1 ∧ Bd k p.2.1 ∧ Bd k p.2.2
theorem BdP.le {k l : Nat} {p : Pt} (h : BdP k p) (hl : k ≤ l) : BdP l p := ⟨h.1.le hl, h.2.1.le hl, h.2.2.le hl⟩
end MX.P
end
section
set_option autoImplicit false
local macro_rules | `(tactic| wtm_at "mx call") => `(tactic| (with_reducible assumption))
namespace MX.P
open PySem L2 MX
def leQ (a b : Int × Int) : Prop := a.1 * b.2 ≤ b.1 * a.2
theorem zoo {d : Pt} (h : d ≠ (0, 0, 0)) : ¬ (pD d = P3 0 0 0) := λe => by
 simp only [D.tup.injEq, List.cons.injEq, D.int.injEq, and_true] at e
 exact h (by show (d.1, d.2.1, d.2.2) = _; rw [e.1, e.2.1, e.2.2])
theorem zdm {o d : Pt} (h0 : d ≠ (0, 0, 0)) (S : So) : zbe [.tup [pD o, pD d]] S = some (.non, S) := by
 have hne := zoo h0
 apply ze3
 · wtm_at "mx st"
   unfold zbi
   wtm_at "mx ev"
 · wtm_at "mx take"
end MX.P
end
section
set_option autoImplicit false
namespace MX.P
open PySem L2 MX
def ptF (c k : Int) : Pt := ((zcy c k).choose, (zcy c k).choose_spec.choose, (zcy c k).choose_spec.choose_spec.choose)
theorem sp_pt (c k : Int) (S : So) : za1 [.int c, .int k] S = some (pD (ptF c k), S) := (zcy c k).choose_spec.choose_spec.choose_spec.2.2.2 S
theorem zeX (c k : Int) : BdP 80 (ptF c k) := ⟨(zcy c k).choose_spec.choose_spec.choose_spec.1, (zcy c k).choose_spec.choose_spec.choose_spec.2.1, (zcy c k).choose_spec.choose_spec.choose_spec.2.2.1⟩
end MX.P
local macro_rules | `(tactic| wtm_at "mx call") => `(tactic| first | (with_reducible exact MX.P.sp_drawn _ _ _) | (with_reducible exact MX.P.sp_pt _ _ _) | (with_reducible assumption))
namespace MX.P
open PySem L2 MX
theorem zi0 (i : Int) (h1 : 0 ≤ i) (h2 : i < 6) : ∃ d : Pt, BdP 80 d ∧ d ≠ (0, 0, 0) ∧ atI [P3 1 0 0, P3 0 (0 - 2) 0, P3 0 0 3, P3 1 1 0, P3 0 1 (0 - 1), P3 (0 - 1) 0 0] i = some (pD d) := by
 have : i = 0 ∨ i = 1 ∨ i = 2 ∨ i = 3 ∨ i = 4 ∨ i = 5 := by omega
 have bb : ∀ x : Int, x.natAbs ≤ 3 → Bd 80 x := λx h => Nat.lt_of_le_of_lt h (by decide)
 rcases this with rfl | rfl | rfl | rfl | rfl | rfl
 · exact ⟨(1, 0, 0), ⟨bb _ (by decide), bb _ (by decide), bb _ (by decide)⟩, by decide, rfl⟩
 · exact ⟨(0, 0 - 2, 0), ⟨bb _ (by decide), bb _ (by decide), bb _ (by decide)⟩, by decide, rfl⟩
 · exact ⟨(0, 0, 3), ⟨bb _ (by decide), bb _ (by decide), bb _ (by decide)⟩, by decide, rfl⟩
 · exact ⟨(1, 1, 0), ⟨bb _ (by decide), bb _ (by decide), bb _ (by decide)⟩, by decide, rfl⟩
 · exact ⟨(0, 1, 0 - 1), ⟨bb _ (by decide), bb _ (by decide), bb _ (by decide)⟩, by decide, rfl⟩
 · exact ⟨(0 - 1, 0, 0), ⟨bb _ (by decide), bb _ (by decide), bb _ (by decide)⟩, by decide, rfl⟩
theorem zg4 (c k : Int) : ∃ o d : Pt, BdP 80 o ∧ BdP 80 d ∧ d ≠ (0, 0, 0) ∧ ∀ S, zcm [.int c, .int k] S = some (.tup [pD o, pD d], S) := by
 obtain ⟨d', hd1, hd2, em⟩ := zi0 (((drawnI c (k + 2)).fdiv 4).fmod 6) (Int.fmod_nonneg_of_pos _ (by decide)) (Int.fmod_lt_of_pos _ (by decide))
 by_cases h3 : (drawnI c (k + 2)).fmod 3 = 0
 · refine ⟨ptF c k, d', zeX _ _, hd1, hd2, λS => ?_⟩
   apply zad
   · wtm_at "mx st"
     unfold zcs
     wtm_at "mx ev"
   · wtm_at "mx take"
   · rfl
 · by_cases hw : pD (ptF c (k + 1)) = P3 0 0 0
   · refine ⟨ptF c k, d', zeX _ _, hd1, hd2, λS => ?_⟩
     apply zad
     · wtm_at "mx st"
       unfold zcs
       wtm_at "mx ev"
     · wtm_at "mx take"
     · rfl
   · refine ⟨ptF c k, ptF c (k + 1), zeX _ _, zeX _ _, λe => hw (by rw [e]), λS => ?_⟩
     apply zad
     · wtm_at "mx st"
       unfold zcs
       wtm_at "mx ev"
     · wtm_at "mx take"
     · rfl
theorem zdi {k : Nat} {p : Pt} (h : BdP k p) (j : Int) : Bd k (co j p) := by unfold co; split; exact h.1; split; exact h.2.1; exact h.2.2
theorem sp_near {o d : Pt} {n m j : Int} (hd : BdP 80 d) (hn : Bd 4 n) (h0 : 0 ≤ j) (h2 : j ≤ 2) (S : So) : zgi [.tup [pD o, pD d], .int n, .int m, .int j] S = some (.int (co j o + n * co j d - (m.fdiv (64 * (j * 7 + 1))).fmod 3), S) := by
 have a1 := zaW h0 h2 o
 have a2 := zaW h0 h2 d
 have b := zdi hd j
 have hdv : divOk (64 * (j * 7 + 1)) = true := by
   have : j = 0 ∨ j = 1 ∨ j = 2 := by omega
   rcases this with rfl | rfl | rfl <;> decide
 apply zad
 · wtm_at "mx st"
   unfold zeF
   wtm_at "mx ev"
 · wtm_at "mx take"
 · rfl
theorem co0 (p : Pt) : co 0 p = p.1 := rfl
theorem co1 (p : Pt) : co 1 p = p.2.1 := rfl
theorem co2 (p : Pt) : co 2 p = p.2.2 := rfl
end MX.P
local macro_rules | `(tactic| wtm_at "mx call") => `(tactic| ((with_reducible apply MX.P.sp_near); (focus assumption); (focus assumption); (focus decide); (focus decide)))
namespace MX.P
end MX.P
end
section
set_option autoImplicit false
namespace MX.P
open PySem L2 MX
def wb (a b : Pt) : Pt := (b.1 - a.1, b.2.1 - a.2.1, b.2.2 - a.2.2)
def vdot (a b : Pt) : Int := a.1 * b.1 + a.2.1 * b.2.1 + a.2.2 * b.2.2
def vcross (a b : Pt) : Pt := (a.2.1 * b.2.2 - a.2.2 * b.2.1, a.2.2 * b.1 - a.1 * b.2.2, a.1 * b.2.1 - a.2.1 * b.1)
theorem BdP.wb {k l : Nat} {a b : Pt} (ha : BdP k a) (hb : BdP l b) : BdP (max k l + 1) (wb a b) :=
 ⟨(hb.1.sub ha.1).le (by omega), (hb.2.1.sub ha.2.1).le (by omega), (hb.2.2.sub ha.2.2).le (by omega)⟩
theorem BdP.cross {k l : Nat} {a b : Pt} (ha : BdP k a) (hb : BdP l b) : BdP (k + l + 1) (vcross a b) :=
 ⟨((ha.2.1.mul hb.2.2).sub (ha.2.2.mul hb.2.1)).le (by omega), ((ha.2.2.mul hb.1).sub (ha.1.mul hb.2.2)).le (by omega), ((ha.1.mul hb.2.1).sub (ha.2.1.mul hb.1)).le (by omega)⟩
theorem BdP.dot {k l : Nat} {a b : Pt} (ha : BdP k a) (hb : BdP l b) : Bd (k + l + 2) (vdot a b) :=
 (((ha.1.mul hb.1).add (ha.2.1.mul hb.2.1)).add (ha.2.2.mul hb.2.2)).le (by omega)
theorem sp_wb (a b : Pt) (S : So) : zae [pD a, pD b] S = some (pD (wb a b), S) := zeH _ _ _ _ _ _ _
theorem sp_vdot {k l : Nat} {a b : Pt} (ha : BdP k a) (hb : BdP l b) (h : k + l ≤ 134217728) (S : So) : za0 [pD a, pD b] S = some (.int (vdot a b), S) := zmB ha.1 ha.2.1 ha.2.2 hb.1 hb.2.1 hb.2.2 h S
theorem sp_vcross {k l : Nat} {a b : Pt} (ha : BdP k a) (hb : BdP l b) (h : k + l ≤ 134217728) (S : So) : zaO [pD a, pD b] S = some (pD (vcross a b), S) := zjc ha.1 ha.2.1 ha.2.2 hb.1 hb.2.1 hb.2.2 h S
theorem zop {a b : Pt} : pD a = pD b ↔ a = b := by
 constructor
 · intro h
   simp only [D.tup.injEq, List.cons.injEq, D.int.injEq, and_true] at h
   exact Prod.ext h.1 (Prod.ext h.2.1 h.2.2)
 · intro h; rw [h]
theorem zcJ {a : Pt} : pD a = P3 0 0 0 ↔ a = (0, 0, 0) := zop (b := (0, 0, 0))
def maxZ (a b : Int) : Int := if b > a then b else a
def minZ (a b : Int) : Int := if b < a then b else a
abbrev Tq := Option (Int × Int)
def tqD : Tq → D
 | none => .non
 | some p => rD (redQ p.1 p.2)
def alongM (o d a b : Pt) : Tq :=
 if vcross (wb o a) d = (0, 0, 0) then
   if maxZ (vdot (wb o a) d) (vdot (wb o b) d) < 0 then none else some (maxZ (minZ (vdot (wb o a) d) (vdot (wb o b) d)) 0, vdot d d)
 else none
def segM (o d a b : Pt) : Tq :=
 if vcross d (wb a b) = (0, 0, 0) then alongM o d a b
 else if vdot (wb o a) (vcross d (wb a b)) = 0 then
   if vdot (vcross (wb o a) (wb a b)) (vcross d (wb a b)) < 0 ∨ vdot (vcross (wb o a) d) (vcross d (wb a b)) < 0 ∨ vdot (vcross d (wb a b)) (vcross d (wb a b)) < vdot (vcross (wb o a) d) (vcross d (wb a b)) then none
   else some (vdot (vcross (wb o a) (wb a b)) (vcross d (wb a b)), vdot (vcross d (wb a b)) (vcross d (wb a b)))
 else none
theorem zbs (x : Int) : 0 ≤ x * x := by
 by_cases h : 0 ≤ x
 · exact Int.mul_nonneg h h
 · have := Int.mul_nonneg (show 0 ≤ -x by omega) (show 0 ≤ -x by omega)
   rwa [Int.neg_mul_neg] at this
theorem zhG {x : Int} (h : x ≠ 0) : 0 < x * x := by
 have h1 := zbs x
 have : x * x ≠ 0 := λe => by rcases Int.mul_eq_zero.mp e with e | e <;> exact h e
 omega
theorem zaB {a : Pt} (h : a ≠ (0, 0, 0)) : 0 < vdot a a := by
 unfold vdot
 have h1 := zbs a.1
 have h2 := zbs a.2.1
 have h3 := zbs a.2.2
 by_cases q1 : a.1 = 0
 · by_cases q2 : a.2.1 = 0
   · have q3 : a.2.2 ≠ 0 := λq3 => h (by show (a.1, a.2.1, a.2.2) = _; rw [q1, q2, q3])
     have := zhG q3
     omega
   · have := zhG q2
     omega
 · have := zhG q1
   omega
end MX.P
local macro_rules | `(tactic| wtm_at "mx call") => `(tactic| first | (with_reducible exact MX.P.sp_wb _ _ _) | ((with_reducible apply MX.P.sp_vdot); (focus with_reducible assumption); (focus with_reducible assumption); (focus omega)) | ((with_reducible apply MX.P.sp_vcross); (focus with_reducible assumption); (focus with_reducible assumption); (focus omega)) | (with_reducible assumption))
namespace MX.P
open PySem L2 MX
theorem zeJ {k : Nat} {o d a b : Pt} (ho : BdP k o) (hd : BdP k d) (ha : BdP k a) (hb : BdP k b) (h0 : d ≠ (0, 0, 0)) (hk : k ≤ 1500) (S : So) :
   zcB [.tup [pD o, pD d], pD a, pD b] S = some (tqD (alongM o d a b), S) := by
 have w1 := (ho.wb ha).le (show max k k + 1 ≤ k + 1 by omega)
 have w2 := (ho.wb hb).le (show max k k + 1 ≤ k + 1 by omega)
 have hdd := hd.dot hd
 have hpos := zaB h0
 unfold alongM
 by_cases hc : vcross (wb o a) d = (0, 0, 0)
 · rw [if_pos hc]
   have hc' : pD (vcross (wb o a) d) = P3 0 0 0 := zcJ.mpr hc
   by_cases hm : maxZ (vdot (wb o a) d) (vdot (wb o b) d) < 0
   · rw [if_pos hm]
     unfold maxZ at hm
     apply zad
     · wtm_at "mx st"
       unfold za8
       wtm_at "mx ev"
     · wtm_at "mx take"
     · rfl
   · rw [if_neg hm]
     have hnn : 0 ≤ maxZ (minZ (vdot (wb o a) d) (vdot (wb o b) d)) 0 := by unfold maxZ; split <;> omega
     have hl := za4 hnn hpos hdd (show k + k + 2 ≤ 8000 by omega) S
     unfold maxZ minZ at hl
     unfold maxZ at hm
     apply zad
     · wtm_at "mx st"
       unfold za8
       wtm_at "mx ev"
     · wtm_at "mx take"
     · rfl
 · rw [if_neg hc]
   have hc' : ¬ pD (vcross (wb o a) d) = P3 0 0 0 := λe => hc (zcJ.mp e)
   apply zad
   · wtm_at "mx st"
     unfold za8
     wtm_at "mx ev"
   · wtm_at "mx take"
   · rfl
end MX.P
end
section
set_option autoImplicit false
local macro_rules | `(tactic| wtm_at "mx call") => `(tactic| first | (with_reducible exact MX.P.sp_wb _ _ _) | ((with_reducible apply MX.P.sp_vdot); (focus with_reducible assumption); (focus with_reducible assumption); (focus omega)) | ((with_reducible apply MX.P.sp_vcross); (focus with_reducible assumption); (focus with_reducible assumption); (focus omega)) | (with_reducible assumption))
namespace MX.P
open PySem L2 MX
theorem zdX {k : Nat} {o d a b : Pt} (ho : BdP k o) (hd : BdP k d) (ha : BdP k a) (hb : BdP k b) (h0 : d ≠ (0, 0, 0)) (hk : k ≤ 1500) (S : So) :
   zbL [.tup [pD o, pD d], pD a, pD b] S = some (tqD (segM o d a b), S) := by
 have w1 := (ho.wb ha).le (show max k k + 1 ≤ k + 1 by omega)
 have w2 := (ha.wb hb).le (show max k k + 1 ≤ k + 1 by omega)
 have w3 := hd.cross w2
 have w4 := w1.cross w2
 have w5 := w1.cross hd
 have hdd := w3.dot w3
 have hal := zeJ ho hd ha hb h0 hk S
 unfold segM
 by_cases hc : vcross d (wb a b) = (0, 0, 0)
 · rw [if_pos hc]
   have hc' : pD (vcross d (wb a b)) = P3 0 0 0 := zcJ.mpr hc
   apply zad
   · wtm_at "mx st"
     unfold zax
     wtm_at "mx ev"
   · wtm_at "mx take"
   · cases alongM o d a b <;> rfl
 · rw [if_neg hc]
   have hpos := zaB hc
   have hc' : ¬ pD (vcross d (wb a b)) = P3 0 0 0 := λe => hc (zcJ.mp e)
   by_cases hq : vdot (wb o a) (vcross d (wb a b)) = 0
   · rw [if_pos hq]
     by_cases p1 : vdot (vcross (wb o a) (wb a b)) (vcross d (wb a b)) < 0
     · rw [if_pos (.inl p1)]
       apply zad
       · wtm_at "mx st"
         unfold zax
         wtm_at "mx ev"
       · wtm_at "mx take"
       · rfl
     · by_cases p2 : vdot (vcross (wb o a) d) (vcross d (wb a b)) < 0
       · rw [if_pos (.inr (.inl p2))]
         apply zad
         · wtm_at "mx st"
           unfold zax
           wtm_at "mx ev"
         · wtm_at "mx take"
         · rfl
       · by_cases p3 : vdot (vcross d (wb a b)) (vcross d (wb a b)) < vdot (vcross (wb o a) d) (vcross d (wb a b))
         · rw [if_pos (.inr (.inr p3))]
           apply zad
           · wtm_at "mx st"
             unfold zax
             wtm_at "mx ev"
           · wtm_at "mx take"
           · rfl
         · rw [if_neg (by rintro (q | q | q); exact p1 q; exact p2 q; exact p3 q)]
           have hl := za4 (show 0 ≤ vdot (vcross (wb o a) (wb a b)) (vcross d (wb a b)) by omega) hpos hdd (show k + (k + 1) + 1 + (k + (k + 1) + 1) + 2 ≤ 8000 by omega) S
           apply zad
           · wtm_at "mx st"
             unfold zax
             wtm_at "mx ev"
           · wtm_at "mx take"
           · rfl
   · rw [if_neg hq]
     apply zad
     · wtm_at "mx st"
       unfold zax
       wtm_at "mx ev"
     · wtm_at "mx take"
     · rfl
def tqB (k : Nat) (t : Tq) : Prop := ∀ p, t = some p → 0 ≤ p.1 ∧ 0 < p.2 ∧ Bd k p.1 ∧ Bd k p.2
theorem zdA {k : Nat} {o d a b : Pt} (ho : BdP k o) (hd : BdP k d) (ha : BdP k a) (hb : BdP k b) (h0 : d ≠ (0, 0, 0)) : tqB (4 * k + 10) (segM o d a b) := by
 have w1 := (ho.wb ha).le (show max k k + 1 ≤ k + 1 by omega)
 have w0 := (ho.wb hb).le (show max k k + 1 ≤ k + 1 by omega)
 have w2 := (ha.wb hb).le (show max k k + 1 ≤ k + 1 by omega)
 have w3 := hd.cross w2
 have w4 := w1.cross w2
 have hdd := w3.dot w3
 have h1 := zaB h0
 intro p hp
 unfold segM at hp
 split at hp
 · unfold alongM at hp
   split at hp
   · split at hp
     · cases hp
     · cases hp
       have a1 := w1.dot hd
       have a2 := w0.dot hd
       refine ⟨?_, h1, ?_, (hd.dot hd).le (by omega)⟩
       · simp only; unfold maxZ; split <;> omega
       · simp only
         have hz : Bd (4 * k + 10) 0 := (Bd.lit 0).le (Nat.zero_le _)
         have e1 := a1.le (show k + 1 + k + 2 ≤ 4 * k + 10 by omega)
         have e2 := a2.le (show k + 1 + k + 2 ≤ 4 * k + 10 by omega)
         unfold maxZ minZ
         split <;> split <;> assumption
   · cases hp
 · rename_i hc
   have hpos := zaB hc
   split at hp
   · split at hp
     · cases hp
     · rename_i hn
       cases hp
       refine ⟨?_, hpos, (w4.dot w3).le (by omega), hdd.le (by omega)⟩
       simp only
       exact Int.not_lt.mp λq => hn (.inl q)
   · cases hp
def redT (t : Tq) : Tq := t.map λp => redQ p.1 p.2
def tD (t : Tq) : D := match t with
 | none => .non
 | some p => rD p
theorem zkc (t : Tq) : tqD t = tD (redT t) := by cases t <;> rfl
def pick (best new : Tq) : Tq := match new with
 | none => best
 | some t => match best with
   | none => some t
   | some b => if lessQ t b then some t else some b
def edgesM (o d a b c : Pt) : Tq := pick (pick (pick none (redT (segM o d a b))) (redT (segM o d b c))) (redT (segM o d c a))
theorem zdB {k : Nat} {t : Tq} (h : tqB k t) : tqB k (redT t) := λp hp => by
 unfold redT at hp
 cases t with
 | none => cases hp
 | some q =>
   cases hp
   obtain ⟨h1, h2, h3, h4⟩ := h q rfl
   obtain ⟨b1, b2⟩ := zgc h3 h4 h2
   exact ⟨zcA h1 h2, zbU _ _, b1, b2⟩
theorem zej {k : Nat} {s t : Tq} (h : tqB k s) (g : tqB k t) : tqB k (pick s t) := by
 unfold pick
 split
 · exact h
 · split
   · exact g
   · split
     · exact g
     · exact h
abbrev eL (a b c : Pt) : O := .lst [.tup [pD a, pD b], .tup [pD b, pD c], .tup [pD c, pD a]]
theorem zev {n : Nat} {xs : List D} {S : So} (h : S[n]? = some (.lst xs)) : cntD (.lst n) S = some xs.length := by
 show (match S[n]? with | some (.lst xs) => some xs.length | some (.frz xs) => some xs.length | _ => none) = _
 rw [h]
theorem zfm {n i : Nat} {xs : List D} {S : So} (h : S[n]? = some (.lst xs)) (hi : xs[i]? = none) : nxD (.lst n) i S = some none := by unfold nxD; simp only; rw [h]; simp only; rw [hi]
theorem zf3 {a b c : Pt} {S : So} (hS : WF S) : zbg [.tup [pD a, pD b, pD c]] S = some (.ref S.length, S ++ [eL a b c]) := by
 apply zde
 · wtm_at "mx st"
   unfold zc4
   wtm_at "mx ev"
 · intro h; simp [D.lo] at h
 · simp
 · simp [D.lo]
 · exact hS.snoc rfl
theorem zfA {a b c : Pt} {n : Nat} {S : So} (hS : WF S) (hn : S[n]? = some (.lst [pD a, pD b, pD c])) : zbg [.ref n] S = some (.ref S.length, S ++ [eL a b c]) := by
 apply zde
 · wtm_at "mx st"
   unfold zc4
   wtm_at "mx ev"
 · intro h; simp [D.lo] at h
 · simp
 · simp [D.lo]
 · exact hS.snoc rfl
theorem zes {k : Nat} {o d p q : Pt} {tr : D} {best : Tq} {x5 : Option D} (ho : BdP k o) (hd : BdP k d) (hp : BdP k p) (hq : BdP k q) (h0 : d ≠ (0, 0, 0)) (hk : k ≤ 1500)
   (hb : tqB (4 * k + 10) best) (S : So) :
   ∃ y, zby [some (.tup [pD o, pD d]), some tr, some (tD best), some (pD p), some (pD q), x5] S = some (.nx, [some (.tup [pD o, pD d]), some tr, some (tD (pick best (redT (segM o d p q)))), some (pD p), some (pD q), y], S) := by
 have hs := zdX ho hd hp hq h0 hk S
 rw [zkc] at hs
 have hb' := zdB (zdA ho hd hp hq h0)
 generalize redT (segM o d p q) = t at *
 have s1 : za7 [some (.tup [pD o, pD d]), some tr, some (tD best), some (pD p), some (pD q), x5] S = some (.nx, [some (.tup [pD o, pD d]), some tr, some (tD best), some (pD p), some (pD q), some (tD t)], S) := by
   unfold za7
   wtm_at "mx ev"
 refine ⟨some (tD t), ?_⟩
 unfold zby
 refine zac s1 (zaf (zac ?_ (zaf zak)))
 unfold pick
 cases t with
 | none =>
   show zap [some (.tup [pD o, pD d]), some tr, some (tD best), some (pD p), some (pD q), some .non] S = some (_, [some (.tup [pD o, pD d]), some tr, some (tD best), some (pD p), some (pD q), some .non], _)
   unfold zap
   wtm_at "mx ev"
 | some t =>
   obtain ⟨t1, t2⟩ := t
   obtain ⟨_, _, b1, b2⟩ := hb' _ rfl
   cases best with
   | none =>
     show zap [some (.tup [pD o, pD d]), some tr, some .non, some (pD p), some (pD q), some (R2 t1 t2)] S = some (_, [some (.tup [pD o, pD d]), some tr, some (R2 t1 t2), some (pD p), some (pD q), some (R2 t1 t2)], _)
     unfold zap
     wtm_at "mx ev"
   | some m =>
     obtain ⟨m1, m2⟩ := m
     obtain ⟨_, _, c1, c2⟩ := hb _ rfl
     have hless := sp_is_less b1 b2 c1 c2 (show 4 * k + 10 + (4 * k + 10) ≤ 134217728 by omega) S
     simp only at hless
     by_cases hc : t1 * m2 < m1 * t2
     · simp only
       rw [if_pos (show lessQ (t1, t2) (m1, m2) from hc)]
       show zap [some (.tup [pD o, pD d]), some tr, some (R2 m1 m2), some (pD p), some (pD q), some (R2 t1 t2)] S = some (_, [some (.tup [pD o, pD d]), some tr, some (R2 t1 t2), some (pD p), some (pD q), some (R2 t1 t2)], _)
       unfold zap
       wtm_at "mx ev"
     · simp only
       rw [if_neg (show ¬ lessQ (t1, t2) (m1, m2) from hc)]
       show zap [some (.tup [pD o, pD d]), some tr, some (R2 m1 m2), some (pD p), some (pD q), some (R2 t1 t2)] S = some (_, [some (.tup [pD o, pD d]), some tr, some (R2 m1 m2), some (pD p), some (pD q), some (R2 t1 t2)], _)
       unfold zap
       wtm_at "mx ev"
end MX.P
end
section
set_option autoImplicit false
local macro_rules | `(tactic| wtm_at "mx call") => `(tactic| (with_reducible assumption))
namespace MX.P
open PySem L2 MX
def inAx (s w lo hi : Int) (t : Int × Int) : Prop := lo * t.2 ≤ s * t.2 + w * t.1 ∧ s * t.2 + w * t.1 ≤ hi * t.2
def inB (o d lo hi : Pt) (t : Int × Int) : Prop := inAx o.1 d.1 lo.1 hi.1 t ∧ inAx o.2.1 d.2.1 lo.2.1 hi.2.1 t ∧ inAx o.2.2 d.2.2 lo.2.2 hi.2.2 t
instance (s w lo hi : Int) (t : Int × Int) : Decidable (inAx s w lo hi t) := by unfold inAx; infer_instance
instance (o d lo hi : Pt) (t : Int × Int) : Decidable (inB o d lo hi t) := by unfold inB; infer_instance
end MX.P
end
section
set_option autoImplicit false
local macro_rules | `(tactic| wtm_at "mx call") => `(tactic| (with_reducible assumption))
namespace MX.P
open PySem L2 MX
end MX.P
end
section
set_option autoImplicit false
local macro_rules | `(tactic| wtm_at "mx call") => `(tactic| (with_reducible assumption))
namespace MX.P
open PySem L2 MX
def okT (o d lo hi : Pt) (t : Int × Int) : Prop := 0 ≤ t.1 ∧ inB o d lo hi t
instance (o d lo hi : Pt) (t : Int × Int) : Decidable (okT o d lo hi t) := by unfold okT; infer_instance
end MX.P
end
section
set_option autoImplicit false
local macro_rules | `(tactic| wtm_at "mx call") => `(tactic| (with_reducible assumption))
namespace MX.P
open PySem L2 MX
theorem zdr (n : Nat) (ts : List (Int × Int)) : O.lo n (.lst (ts.map rD)) = true := zdG.mpr λx hx => by
 obtain ⟨i, _, rfl⟩ := List.mem_map.mp hx
 simp [D.lo, los]
end MX.P
end
section
set_option autoImplicit false
namespace MX.P
open PySem L2 MX
end MX.P
end
section
set_option autoImplicit false
namespace MX.P
open PySem L2 MX
theorem znB : isiT "tuple" "tuple" = some true := by kernel_rfl
theorem znC : isiT "int" "int" = some true := by kernel_rfl
theorem znD : isiT "int" "bool" = some false := by kernel_rfl
theorem ev_isi_tup {xs : List D} {S : So} : gIsi [.tup xs, .ty "tuple"] S = some (.bl true, S) := by
 show ((some "tuple").bind λt => (isiT t "tuple").map λb => (D.bl b, S)) = _
 simp only [Option.bind_some, znB, Option.map_some]
theorem ev_isi_int {i : Int} {S : So} : gIsi [.int i, .ty "int"] S = some (.bl true, S) := by
 show ((some "int").bind λt => (isiT t "int").map λb => (D.bl b, S)) = _
 simp only [Option.bind_some, znC, Option.map_some]
theorem ev_isi_bool {i : Int} {S : So} : gIsi [.int i, .ty "bool"] S = some (.bl false, S) := by
 show ((some "int").bind λt => (isiT t "bool").map λb => (D.bl b, S)) = _
 simp only [Option.bind_some, znD, Option.map_some]
end MX.P
local macro_rules | `(tactic| wtm_at "mx call") => `(tactic| (with_reducible assumption))
local macro_rules | `(tactic| wtm_at "mx fn") => `(tactic| first | (with_reducible exact MX.P.ev_isi_tup) | (with_reducible exact MX.P.ev_isi_int) | (with_reducible exact MX.P.ev_isi_bool))
namespace MX.P
theorem zgE (i : Int) (S : So) : zbV [.int i] S = some (.bl true, S) := by
 apply zad
 · wtm_at "mx st"
   unfold zcU
   wtm_at "mx ev"
 · wtm_at "mx take"
 · rfl
theorem zg5 {k : Nat} {t1 t2 : Int} (h0 : 0 ≤ t1) (h2 : 0 < t2) (hr : redQ t1 t2 = (t1, t2)) (b1 : Bd k t1) (b2 : Bd k t2) (hk : k ≤ 8000) (S : So) : zb5 [R2 t1 t2] S = some (.bl true, S) := by
 have w1 := zgE t1 S
 have w2 := zgE t2 S
 have hra := zdQ (show t2 ≠ 0 by omega) b1 b2 hk S
 rw [hr] at hra
 apply zad
 · wtm_at "mx st"
   unfold zch
   apply zac
   · wtm_at "mx ev"
   · apply zaf
     apply zac
     · apply zaG
       apply zgl
       · wtm_at "mx ev"
       · apply zaF
         · wtm_at "mx dec"
         · apply zgl
           · wtm_at "mx ev"
           · apply zaF
             · wtm_at "mx dec"
             · apply zav
               · wtm_at "mx ev"
               · wtm_at "mx ev"
               · exact ziG rfl 8 rfl rfl (by decide)
     · rw [zcn rfl]
       exact zao
 · wtm_at "mx take"
 · rfl
end MX.P
end
section
set_option autoImplicit false
local macro_rules | `(tactic| wtm_at "mx call") => `(tactic| (with_reducible assumption))
namespace MX.P
open PySem L2 MX
theorem zlF {C : Int} {n : Nat} {body : SF} {ns : List Int} (hC : 1 ≤ C ∧ C ≤ 100) (hns : ns.length ≤ 63)
   (hbody : ∀ (k : Nat) (js : List (Option D)) (S : So), js.length = n → WF S → S[0]? = some (.frz (ns.map .int)) → ∃ fl js' S', body (some (.ref 0) :: some (.int (k : Nat)) :: js) S = some (fl, some (.ref 0) :: some (.int (k : Nat)) :: js', S') ∧ js'.length = n ∧ (fl = .nx ∨ fl = .ct) ∧ Gr S S') :
   ∃ σ' S'', sSeq (sFor (iRg1 (aCons (eN gMax' (aCons (eC (.int 1)) (aCons (eN gMin' (aCons (eC (.int C)) (aCons (eN gLen (aCons (eVar 0) (aNil))) (aNil)))) (aNil)))) (aNil))) (gNm 1) body) (sSeq (sRet (eC (.bl true))) sPass)
     (some (.ref 0) :: none :: List.replicate n none) [.frz (ns.map D.int)] = some (.rt (.bl true), σ', S'') := by
 generalize hN : (if (if ((ns.map D.int).length : Int) < C then ((ns.map D.int).length : Int) else C) > 1 then (if ((ns.map D.int).length : Int) < C then ((ns.map D.int).length : Int) else C) else 1) = N
 have hN1 : 1 ≤ N ∧ N ≤ 100 := by subst hN; split <;> split <;> omega
 have h0 : ([O.frz (ns.map D.int)] : So)[0]? = some (.frz (ns.map .int)) := rfl
 have w0 : WF [O.frz (ns.map D.int)] := λo ho => by
   rw [List.mem_singleton.mp ho]
   exact zfo _ _
 generalize ([O.frz (ns.map D.int)] : So) = S0 at h0 w0
 have hlen : (rangeD 0 N.toNat).length = N.toNat := by simp [rangeD]
 obtain ⟨σ', S', e, x, js, rfl, _⟩ := zfp (nx := nxD (.fix (rangeD 0 N.toNat))) (g := gNm 1) (f := body) (xs := rangeD 0 N.toNat)
   (λi σ S => ∃ x js, σ = some (.ref 0) :: x :: js ∧ js.length = n ∧ WF S ∧ S[0]? = some (.frz (ns.map .int)))
   (λi σ S _ => rfl)
   (λi d σ S hd ⟨x, js, e1, e2, e3, e4⟩ => by
     subst e1
     rw [zdC] at hd
     split at hd
     · cases hd
       have ez : ((0 : Int) + (i : Nat)) = (i : Nat) := by omega
       rw [ez]
       obtain ⟨fl, js', S', q1, q2, q3, q4⟩ := hbody i js S e2 e3 e4
       exact ⟨_, S, fl, _, S', rfl, q1, q3, _, js', rfl, q2, q4.2, q4.old e4⟩
     · cases hd) (rangeD 0 N.toNat).length 0 (some (.ref 0) :: none :: List.replicate n none) S0 ⟨none, _, rfl, by simp, w0, h0⟩ (by simp)
 refine ⟨some (.ref 0) :: x :: js, S', ?_⟩
 apply zac
 · apply zbO
   · refine ziE (j := N) (S1 := S0) ?_ (by omega)
     rw [← hN]
     wtm_at "mx ev"
   · rfl
   · exact e
 · exact zaf (zac (zaG zaX) zao)
end MX.P
end
section
set_option autoImplicit false
local macro_rules | `(tactic| wtm_at "mx call") => `(tactic| first | (with_reducible exact MX.P.sp_wb _ _ _) | ((with_reducible apply MX.P.sp_vdot); (focus with_reducible assumption); (focus with_reducible assumption); (focus omega)) | ((with_reducible apply MX.P.sp_vcross); (focus with_reducible assumption); (focus with_reducible assumption); (focus omega)) | (with_reducible assumption))
namespace MX.P
open PySem L2 MX
theorem zc6 {k : Nat} {o d a b c : Pt} (ho : BdP k o) (hd : BdP k d) (ha : BdP k a) (hb : BdP k b) (hc : BdP k c) (h0 : d ≠ (0, 0, 0)) (hk : k ≤ 1500) (S : So) (hS : WF S) :
   zaV [.tup [pD o, pD d], .tup [pD a, pD b, pD c]] S = some (tD (edgesM o d a b c), S) := by
 have n0 : tqB (4 * k + 10) none := λp hp => by cases hp
 have n1 := zej n0 (zdB (zdA ho hd ha hb h0))
 have n2 := zej n1 (zdB (zdA ho hd hb hc h0))
 obtain ⟨y1, e1⟩ := zes (tr := .tup [pD a, pD b, pD c]) (x5 := none) ho hd ha hb h0 hk n0 (S ++ [eL a b c])
 obtain ⟨y2, e2⟩ := zes (tr := .tup [pD a, pD b, pD c]) (x5 := y1) ho hd hb hc h0 hk n1 (S ++ [eL a b c])
 obtain ⟨y3, e3⟩ := zes (tr := .tup [pD a, pD b, pD c]) (x5 := y2) ho hd hc ha h0 hk n2 (S ++ [eL a b c])
 have hz : D.lo S.length (tD (edgesM o d a b c)) = true := by cases edgesM o d a b c <;> rfl
 have hn : (S ++ [eL a b c])[S.length]? = some (eL a b c) := zaT
 have ed := zf3 (a := a) (b := b) (c := c) hS
 have it : iVal (eN (nArgs 1 zbg) (aCons (eVar 1) (aNil))) [some (.tup [pD o, pD d]), some (.tup [pD a, pD b, pD c]), some .non, none, none, none] S = some (.lst S.length, S ++ [eL a b c]) := by
   wtm_at "mx it"
 have s2 : zbP [some (.tup [pD o, pD d]), some (.tup [pD a, pD b, pD c]), some .non, none, none, none] S = some (.nx, [some (.tup [pD o, pD d]), some (.tup [pD a, pD b, pD c]), some (tD (edgesM o d a b c)), some (pD c), some (pD a), y3], S ++ [eL a b c]) := by
   unfold zbP
   refine zbO it (n := 3) (zev hn) ?_
   exact zas (d := .tup [pD a, pD b]) (zaM hn rfl) rfl e1 (zaA (zas (d := .tup [pD b, pD c]) (zaM hn rfl) rfl e2 (zaA (zas (d := .tup [pD c, pD a]) (zaM hn rfl) rfl e3 (zaA (zdh (zfm hn rfl)))))))
 refine zad (σ' := [some (.tup [pD o, pD d]), some (.tup [pD a, pD b, pD c]), some (tD (edgesM o d a b c)), some (pD c), some (pD a), y3]) (S' := S ++ [eL a b c]) ?_ (by simp) hz
 wtm_at "mx st"
 unfold zcC zcS zcR
 exact zac (zaj zaX rfl) (zaf (zac s2 (zaf (zac (zaG (zaa rfl)) zao))))
def sideM (o w p q : Pt) : Int := vdot w (vcross (wb o p) (wb o q))
def goesM (o w a b c : Pt) : Bool := (decide (0 ≤ sideM o w a b) && decide (0 ≤ sideM o w b c) && decide (0 ≤ sideM o w c a)) || (decide (sideM o w a b ≤ 0) && decide (sideM o w b c ≤ 0) && decide (sideM o w c a ≤ 0))
theorem zcH {k l : Nat} {o w a b c : Pt} (ho : BdP k o) (hw : BdP l w) (ha : BdP k a) (hb : BdP k b) (hc : BdP k c) (hk : k ≤ 10000) (hl : l ≤ 30000) (S : So) (hS : WF S) :
   zat [pD o, pD w, .tup [pD a, pD b, pD c]] S = some (.bl (goesM o w a b c), S) := by
 have w1 := (ho.wb ha).le (show max k k + 1 ≤ k + 1 by omega)
 have w2 := (ho.wb hb).le (show max k k + 1 ≤ k + 1 by omega)
 have w3 := (ho.wb hc).le (show max k k + 1 ≤ k + 1 by omega)
 have c1 := w1.cross w2
 have c2 := w2.cross w3
 have c3 := w3.cross w1
 have em : minI [sideM o w a b, sideM o w b c, sideM o w c a] = some (if sideM o w c a < (if sideM o w b c < sideM o w a b then sideM o w b c else sideM o w a b) then sideM o w c a else (if sideM o w b c < sideM o w a b then sideM o w b c else sideM o w a b)) := rfl
 have eM : maxI [sideM o w a b, sideM o w b c, sideM o w c a] = some (if sideM o w c a > (if sideM o w b c > sideM o w a b then sideM o w b c else sideM o w a b) then sideM o w c a else (if sideM o w b c > sideM o w a b then sideM o w b c else sideM o w a b)) := rfl
 generalize hx : (if sideM o w c a < (if sideM o w b c < sideM o w a b then sideM o w b c else sideM o w a b) then sideM o w c a else (if sideM o w b c < sideM o w a b then sideM o w b c else sideM o w a b)) = x at em
 generalize hy : (if sideM o w c a > (if sideM o w b c > sideM o w a b then sideM o w b c else sideM o w a b) then sideM o w c a else (if sideM o w b c > sideM o w a b then sideM o w b c else sideM o w a b)) = y at eM
 have e1 : goesM o w a b c = (decide (0 ≤ x) || decide (y ≤ 0)) := by
   unfold goesM
   rw [Bool.eq_iff_iff]
   simp only [Bool.or_eq_true, Bool.and_eq_true, decide_eq_true_eq]
   subst hx hy
   split <;> split <;> split <;> split <;> omega
 unfold sideM at em eM
 have gone : ∃ S1, eLc (iVal (eVar 2)) (gNm 0) (tTru) (eN (nArgs 2 zae) (aCons (eVar 1) (aCons (eVar 0) (aNil)))) [none, some 0] [some (pD o), some (pD w), some (.tup [pD a, pD b, pD c]), none, none] S = some (.ref S.length, S1) ∧ S1 = S ++ [.lst [pD (wb o a), pD (wb o b), pD (wb o c)]] := by
   refine ⟨_, ?_, rfl⟩
   wtm_at "mx ev"
 obtain ⟨S1, g1, g2⟩ := gone
 have hS1 : S1[S.length]? = some (.lst [pD (wb o a), pD (wb o b), pD (wb o c)]) := by rw [g2]; exact zaT
 have hW1 : WF S1 := by rw [g2]; exact hS.snoc rfl
 have ed := zfA hW1 hS1
 have hn2 : (S1 ++ [eL (wb o a) (wb o b) (wb o c)])[S1.length]? = some (eL (wb o a) (wb o b) (wb o c)) := zaT
 have sides : eLc (iVal (eN (nArgs 1 zbg) (aCons (eVar 3) (aNil)))) (gTp 2 (gsCons (gNm 0) (gsCons (gNm 1) (gsNil)))) (tTru) (eN (nArgs 2 za0) (aCons (eVar 2) (aCons (eN (nArgs 2 zaO) (aCons (eVar 0) (aCons (eVar 1) (aNil)))) (aNil)))) [none, none, some 1]
     [some (pD o), some (pD w), some (.tup [pD a, pD b, pD c]), some (.ref S.length), none] S1 = some (.ref (S1 ++ [eL (wb o a) (wb o b) (wb o c)]).length, S1 ++ [eL (wb o a) (wb o b) (wb o c)] ++ [.lst ([vdot w (vcross (wb o a) (wb o b)), vdot w (vcross (wb o b) (wb o c)), vdot w (vcross (wb o c) (wb o a))].map D.int)]) := by
   refine zhr (j := .lst S1.length) (n := 3) (S1 := S1 ++ [eL (wb o a) (wb o b) (wb o c)]) ?_ (zev hn2) (Nat.le_of_ble_eq_true rfl) rfl ?_
   · exact zbZ (zaH (zab (zaa rfl) zal) (zai rfl ed)) hn2
   · have one : ∀ (x y : Pt), BdP (k + 1) x → BdP (k + 1) y → eN (nArgs 2 za0) (aCons (eVar 2) (aCons (eN (nArgs 2 zaO) (aCons (eVar 0) (aCons (eVar 1) (aNil)))) (aNil))) [some (pD x), some (pD y), some (pD w)] (S1 ++ [eL (wb o a) (wb o b) (wb o c)]) = some (.int (vdot w (vcross x y)), S1 ++ [eL (wb o a) (wb o b) (wb o c)]) := λx y hx hy => by
       have hxy := hx.cross hy
       wtm_at "mx ev"
     refine zc7 (zaM hn2 rfl) rfl zb7 (one _ _ w1 w2) rfl ?_
     refine zc7 (zaM hn2 rfl) rfl zb7 (one _ _ w2 w3) rfl ?_
     refine zc7 (zaM hn2 rfl) rfl zb7 (one _ _ w3 w1) rfl ?_
     exact zgN (zfm hn2 rfl)
 rw [e1]
 have htake : ∀ o1 o2 : O, (S1 ++ [o1] ++ [o2]).take S.length = S := λo1 o2 => by rw [g2]; simp
 by_cases hxx : 0 ≤ x
 · rw [zcn hxx, Bool.true_or]
   apply zad
   · wtm_at "mx st"
     unfold zbq
     apply zac
     · exact zaj g1 rfl
     · apply zaf
       apply zac
       · exact zaj sides rfl
       · apply zaf
         apply zac
         · apply zaG
           apply zfO
           · apply zav
             · apply zaH
               · wtm_at "mx ev"
               · exact zgj zaT em
             · wtm_at "mx ev"
             · wtm_at "mx op"
           · apply zaF
             · exact zcn hxx
             · rfl
         · exact zao
   · exact htake _ _
   · rfl
 · rw [za3 hxx, Bool.false_or]
   apply zad
   · wtm_at "mx st"
     unfold zbq
     apply zac
     · exact zaj g1 rfl
     · apply zaf
       apply zac
       · exact zaj sides rfl
       · apply zaf
         apply zac
         · apply zaG
           apply zfO
           · apply zav
             · apply zaH
               · wtm_at "mx ev"
               · exact zgj zaT em
             · wtm_at "mx ev"
             · wtm_at "mx op"
           · apply zaz
             · exact za3 hxx
             · apply zav
               · apply zaH
                 · wtm_at "mx ev"
                 · exact ziD zaT eM
               · wtm_at "mx ev"
               · wtm_at "mx op"
         · exact zao
   · exact htake _ _
   · rfl
end MX.P
end
section
set_option autoImplicit false
local macro_rules | `(tactic| wtm_at "mx call") => `(tactic| first | (with_reducible exact MX.P.sp_wb _ _ _) | ((with_reducible apply MX.P.sp_vdot); (focus with_reducible assumption); (focus with_reducible assumption); (focus omega)) | ((with_reducible apply MX.P.sp_vcross); (focus with_reducible assumption); (focus with_reducible assumption); (focus omega)) | (with_reducible assumption))
namespace MX.P
open PySem L2 MX
def withinM (o d a b c up : Pt) : Tq := if goesM o up a b c = true then some (0, 1) else edgesM o d a b c
theorem ziY {o d t up : D} {S : So} (hg : zat [o, up, t] S = some (.bl true, S)) : zau [.tup [o, d], t, up] S = some (R2 0 1, S) := by
 apply zad
 · wtm_at "mx st"
   unfold zaL
   wtm_at "mx ev"
 · wtm_at "mx take"
 · rfl
theorem ziZ {o d t up r : D} {S : So} (hg : zat [o, up, t] S = some (.bl false, S)) (he : zaV [.tup [o, d], t] S = some (r, S)) (hr : D.lo S.length r = true) : zau [.tup [o, d], t, up] S = some (r, S) := by
 apply zad
 · wtm_at "mx st"
   unfold zaL
   apply zac
   · apply zaD
     · wtm_at "mx ev"
     · apply zaz
       · rfl
       · wtm_at "mx ev"
   · apply zaf
     apply zac
     · wtm_at "mx ev"
     · wtm_at "mx seq"
 · wtm_at "mx take"
 · exact hr
theorem zic (n : Nat) (t : Tq) : D.lo n (tD t) = true := by cases t <;> rfl
theorem zea {k l : Nat} {o d a b c up : Pt} (ho : BdP k o) (hd : BdP k d) (ha : BdP k a) (hb : BdP k b) (hc : BdP k c) (hu : BdP l up) (h0 : d ≠ (0, 0, 0)) (hk : k ≤ 1500) (hl : l ≤ 30000) (S : So) (hS : WF S) :
   zau [.tup [pD o, pD d], .tup [pD a, pD b, pD c], pD up] S = some (tD (withinM o d a b c up), S) := by
 have hg := zcH ho hu ha hb hc (by omega) hl S hS
 have he := zc6 ho hd ha hb hc h0 hk S hS
 unfold withinM
 by_cases q : goesM o up a b c = true
 · rw [if_pos q]
   rw [q] at hg
   exact ziY hg
 · rw [if_neg q]
   have q' : goesM o up a b c = false := by simpa using q
   rw [q'] at hg
   exact ziZ hg he (zic _ _)
def triM (o d a b c : Pt) : Tq :=
 if vcross (wb a b) (wb a c) = (0, 0, 0) then edgesM o d a b c
 else if vdot d (vcross (wb a b) (wb a c)) = 0 then
   if vdot (wb o a) (vcross (wb a b) (wb a c)) = 0 then withinM o d a b c (vcross (wb a b) (wb a c)) else none
 else if vdot d (vcross (wb a b) (wb a c)) < 0 then
   if -vdot (wb o a) (vcross (wb a b) (wb a c)) < 0 ∨ goesM o d a b c = false then none else some (redQ (-vdot (wb o a) (vcross (wb a b) (wb a c))) (-vdot d (vcross (wb a b) (wb a c))))
 else if vdot (wb o a) (vcross (wb a b) (wb a c)) < 0 ∨ goesM o d a b c = false then none else some (redQ (vdot (wb o a) (vcross (wb a b) (wb a c))) (vdot d (vcross (wb a b) (wb a c))))
theorem zi3 {o d a b c up : Pt} {r : D} {S : So} (hup : up = vcross (wb a b) (wb a c)) (hz : up = (0, 0, 0)) {k : Nat} (w1 : BdP k (wb a b)) (w2 : BdP k (wb a c)) (hk : k ≤ 10000) (he : zaV [.tup [pD o, pD d], .tup [pD a, pD b, pD c]] S = some (r, S)) (hr : D.lo S.length r = true) :
   zag [.tup [pD o, pD d], .tup [pD a, pD b, pD c]] S = some (r, S) := by
 have hz' : pD (vcross (wb a b) (wb a c)) = P3 0 0 0 := zcJ.mpr (hup ▸ hz)
 apply zad
 · wtm_at "mx st"
   unfold zam
   wtm_at "mx ev"
 · wtm_at "mx take"
 · exact hr
end MX.P
end
section
set_option autoImplicit false
local macro_rules | `(tactic| wtm_at "mx call") => `(tactic| first | (with_reducible assumption))
namespace MX.P
open PySem L2 MX
section
variable {o d a b c e1 e2 q r : D} {u : Pt} {U V : Int} {S : So}
theorem zmn (h1 : zae [a, b] S = some (e1, S)) (h2 : zae [a, c] S = some (e2, S)) (h3 : zaO [e1, e2] S = some (pD u, S)) (hu : ¬ pD u = P3 0 0 0) (h4 : zae [o, a] S = some (q, S)) (h5 : za0 [q, pD u] S = some (.int U, S)) (h6 : za0 [d, pD u] S = some (.int V, S))
   (hV : V = 0) (hU : U = 0) (hr : zau [.tup [o, d], .tup [a, b, c], pD u] S = some (r, S)) (hl : D.lo S.length r = true) : zag [.tup [o, d], .tup [a, b, c]] S = some (r, S) := by
 apply zad
 · wtm_at "mx st"
   unfold zam
   wtm_at "mx ev"
 · wtm_at "mx take"
 · exact hl
theorem zky (h1 : zae [a, b] S = some (e1, S)) (h2 : zae [a, c] S = some (e2, S)) (h3 : zaO [e1, e2] S = some (pD u, S)) (hu : ¬ pD u = P3 0 0 0) (h4 : zae [o, a] S = some (q, S)) (h5 : za0 [q, pD u] S = some (.int U, S)) (h6 : za0 [d, pD u] S = some (.int V, S))
   (hV : V = 0) (hU : ¬ U = 0) : zag [.tup [o, d], .tup [a, b, c]] S = some (.non, S) := by
 apply zad
 · wtm_at "mx st"
   unfold zam
   wtm_at "mx ev"
 · wtm_at "mx take"
 · rfl
theorem zmm (h1 : zae [a, b] S = some (e1, S)) (h2 : zae [a, c] S = some (e2, S)) (h3 : zaO [e1, e2] S = some (pD u, S)) (hu : ¬ pD u = P3 0 0 0) (h4 : zae [o, a] S = some (q, S)) (h5 : za0 [q, pD u] S = some (.int U, S)) (h6 : za0 [d, pD u] S = some (.int V, S))
   (hV0 : ¬ V = 0) (hV : V < 0) (hU : -U < 0) : zag [.tup [o, d], .tup [a, b, c]] S = some (.non, S) := by
 apply zad
 · wtm_at "mx st"
   unfold zam
   wtm_at "mx ev"
 · wtm_at "mx take"
 · rfl
theorem zmk (h1 : zae [a, b] S = some (e1, S)) (h2 : zae [a, c] S = some (e2, S)) (h3 : zaO [e1, e2] S = some (pD u, S)) (hu : ¬ pD u = P3 0 0 0) (h4 : zae [o, a] S = some (q, S)) (h5 : za0 [q, pD u] S = some (.int U, S)) (h6 : za0 [d, pD u] S = some (.int V, S))
   (hV0 : ¬ V = 0) (hV : V < 0) (hU : ¬ -U < 0) (hg : zat [o, d, .tup [a, b, c]] S = some (.bl false, S)) : zag [.tup [o, d], .tup [a, b, c]] S = some (.non, S) := by
 apply zad
 · wtm_at "mx st"
   unfold zam
   wtm_at "mx ev"
 · wtm_at "mx take"
 · rfl
theorem zml (h1 : zae [a, b] S = some (e1, S)) (h2 : zae [a, c] S = some (e2, S)) (h3 : zaO [e1, e2] S = some (pD u, S)) (hu : ¬ pD u = P3 0 0 0) (h4 : zae [o, a] S = some (q, S)) (h5 : za0 [q, pD u] S = some (.int U, S)) (h6 : za0 [d, pD u] S = some (.int V, S))
   (hV0 : ¬ V = 0) (hV : V < 0) (hU : ¬ -U < 0) (hg : zat [o, d, .tup [a, b, c]] S = some (.bl true, S)) (hq : zaC [.tup [.int (-U), .int (-V)]] S = some (r, S)) (hl : D.lo S.length r = true) : zag [.tup [o, d], .tup [a, b, c]] S = some (r, S) := by
 apply zad
 · wtm_at "mx st"
   unfold zam
   wtm_at "mx ev"
 · wtm_at "mx take"
 · exact hl
theorem zmj (h1 : zae [a, b] S = some (e1, S)) (h2 : zae [a, c] S = some (e2, S)) (h3 : zaO [e1, e2] S = some (pD u, S)) (hu : ¬ pD u = P3 0 0 0) (h4 : zae [o, a] S = some (q, S)) (h5 : za0 [q, pD u] S = some (.int U, S)) (h6 : za0 [d, pD u] S = some (.int V, S))
   (hV0 : ¬ V = 0) (hV : ¬ V < 0) (hU : U < 0) : zag [.tup [o, d], .tup [a, b, c]] S = some (.non, S) := by
 apply zad
 · wtm_at "mx st"
   unfold zam
   wtm_at "mx ev"
 · wtm_at "mx take"
 · rfl
theorem zmh (h1 : zae [a, b] S = some (e1, S)) (h2 : zae [a, c] S = some (e2, S)) (h3 : zaO [e1, e2] S = some (pD u, S)) (hu : ¬ pD u = P3 0 0 0) (h4 : zae [o, a] S = some (q, S)) (h5 : za0 [q, pD u] S = some (.int U, S)) (h6 : za0 [d, pD u] S = some (.int V, S))
   (hV0 : ¬ V = 0) (hV : ¬ V < 0) (hU : ¬ U < 0) (hg : zat [o, d, .tup [a, b, c]] S = some (.bl false, S)) : zag [.tup [o, d], .tup [a, b, c]] S = some (.non, S) := by
 apply zad
 · wtm_at "mx st"
   unfold zam
   wtm_at "mx ev"
 · wtm_at "mx take"
 · rfl
theorem zmi (h1 : zae [a, b] S = some (e1, S)) (h2 : zae [a, c] S = some (e2, S)) (h3 : zaO [e1, e2] S = some (pD u, S)) (hu : ¬ pD u = P3 0 0 0) (h4 : zae [o, a] S = some (q, S)) (h5 : za0 [q, pD u] S = some (.int U, S)) (h6 : za0 [d, pD u] S = some (.int V, S))
   (hV0 : ¬ V = 0) (hV : ¬ V < 0) (hU : ¬ U < 0) (hg : zat [o, d, .tup [a, b, c]] S = some (.bl true, S)) (hq : zaC [.tup [.int U, .int V]] S = some (r, S)) (hl : D.lo S.length r = true) : zag [.tup [o, d], .tup [a, b, c]] S = some (r, S) := by
 apply zad
 · wtm_at "mx st"
   unfold zam
   wtm_at "mx ev"
 · wtm_at "mx take"
 · exact hl
end
end MX.P
end
section
set_option autoImplicit false
namespace MX.P
open PySem L2 MX
theorem zbc {k : Nat} {o d a b c : Pt} (ho : BdP k o) (hd : BdP k d) (ha : BdP k a) (hb : BdP k b) (hc : BdP k c) (h0 : d ≠ (0, 0, 0)) (hk : k ≤ 1500) (S : So) (hS : WF S) :
   zag [.tup [pD o, pD d], .tup [pD a, pD b, pD c]] S = some (tD (triM o d a b c), S) := by
 have w1 := ha.wb hb
 have w2 := ha.wb hc
 have w3 := ho.wb ha
 have wu := w1.cross w2
 have bU := w3.dot wu
 have bV := hd.dot wu
 have h1 := sp_wb a b S
 have h2 := sp_wb a c S
 have h3 := sp_vcross w1 w2 (by omega) S
 have h4 := sp_wb o a S
 have h5 := sp_vdot w3 wu (by omega) S
 have h6 := sp_vdot hd wu (by omega) S
 have hg := zcH ho hd ha hb hc (by omega) (by omega) S hS
 have he := zc6 ho hd ha hb hc h0 hk S hS
 have hw := zea ho hd ha hb hc wu h0 hk (by omega) S hS
 unfold triM
 generalize hu : vcross (wb a b) (wb a c) = u at *
 by_cases q0 : u = (0, 0, 0)
 · rw [if_pos q0]
   exact zi3 hu.symm q0 w1 w2 (by omega) he (zic _ _)
 · rw [if_neg q0]
   have hne : ¬ pD u = P3 0 0 0 := λh => q0 (zcJ.mp h)
   generalize vdot (wb o a) u = U at *
   generalize vdot d u = V at *
   by_cases v0 : V = 0
   · rw [if_pos v0]
     by_cases u0 : U = 0
     · rw [if_pos u0]
       exact zmn h1 h2 h3 hne h4 h5 h6 v0 u0 hw (zic _ _)
     · rw [if_neg u0]
       exact zky h1 h2 h3 hne h4 h5 h6 v0 u0
   · rw [if_neg v0]
     by_cases vn : V < 0
     · rw [if_pos vn]
       by_cases un : -U < 0
       · rw [if_pos (Or.inl un)]
         exact zmm h1 h2 h3 hne h4 h5 h6 v0 vn un
       · by_cases gg : goesM o d a b c = false
         · rw [if_pos (Or.inr gg)]
           rw [gg] at hg
           exact zmk h1 h2 h3 hne h4 h5 h6 v0 vn un hg
         · rw [if_neg (λh => h.elim un gg)]
           have gg' : goesM o d a b c = true := by simpa using gg
           rw [gg'] at hg
           exact zml h1 h2 h3 hne h4 h5 h6 v0 vn un hg (za4 (by omega) (by omega) bV.neg (by omega) S) (zic S.length (some (redQ (-U) (-V))))
     · rw [if_neg vn]
       by_cases un : U < 0
       · rw [if_pos (Or.inl un)]
         exact zmj h1 h2 h3 hne h4 h5 h6 v0 vn un
       · by_cases gg : goesM o d a b c = false
         · rw [if_pos (Or.inr gg)]
           rw [gg] at hg
           exact zmh h1 h2 h3 hne h4 h5 h6 v0 vn un hg
         · rw [if_neg (λh => h.elim un gg)]
           have gg' : goesM o d a b c = true := by simpa using gg
           rw [gg'] at hg
           exact zmi h1 h2 h3 hne h4 h5 h6 v0 vn un hg (za4 (by omega) (by omega) bV (by omega) S) (zic S.length (some (redQ U V)))
end MX.P
end
section
set_option autoImplicit false
namespace MX.P
def Comb (k : Int) (d : Pt) (q u v w : Int) (A B C : Pt) : Prop := k * d.1 = q * (u * A.1 + v * B.1 + w * C.1) ∧ k * d.2.1 = q * (u * A.2.1 + v * B.2.1 + w * C.2.1) ∧ k * d.2.2 = q * (u * A.2.2 + v * B.2.2 + w * C.2.2)
def inT (d A B C : Pt) (t : Int × Int) : Prop := ∃ u v w : Int, 0 ≤ u ∧ 0 ≤ v ∧ 0 ≤ w ∧ 0 < u + v + w ∧ Comb ((u + v + w) * t.1) d t.2 u v w A B C
def inS (d A B : Pt) (t : Int × Int) : Prop := ∃ u v : Int, 0 ≤ u ∧ 0 ≤ v ∧ 0 < u + v ∧ Comb ((u + v) * t.1) d t.2 u v 0 A B A
theorem Comb.dot {k q u v w : Int} {d A B C : Pt} (h : Comb k d q u v w A B C) (n : Pt) : k * vdot d n = q * (u * vdot A n + v * vdot B n + w * vdot C n) := by
 obtain ⟨h1, h2, h3⟩ := h
 have e : k * vdot d n = (k * d.1) * n.1 + (k * d.2.1) * n.2.1 + (k * d.2.2) * n.2.2 := by unfold vdot; grind
 rw [e, h1, h2, h3]
 unfold vdot
 grind
theorem cancel {k x y : Int} (hk : 0 < k) (h : k * x = k * y) : x = y := Int.eq_of_mul_eq_mul_left (by omega) h
theorem cancel0 {k x : Int} (hk : 0 < k) (h : 0 = k * x) : x = 0 := by
 rcases Int.mul_eq_zero.mp h.symm with e | e
 · omega
 · exact e
def Inv (X : Int × Int → Prop) : Prop := ∀ t r : Int × Int, 0 < t.2 → 0 < r.2 → t.1 * r.2 = r.1 * t.2 → X t → X r
theorem zgT {s q u v w : Int} {d A B C : Pt} {t r : Int × Int} (ht : 0 < t.2) (e : t.1 * r.2 = r.1 * t.2) (h : Comb (s * t.1) d t.2 u v w A B C) : Comb (s * r.1) d r.2 u v w A B C := by
 obtain ⟨h1, h2, h3⟩ := h
 have f : ∀ x y : Int, s * t.1 * x = t.2 * y → s * r.1 * x = r.2 * y := λx y h => by
   refine cancel ht ?_
   have e1 : t.2 * (s * r.1 * x) = s * x * (r.1 * t.2) := by grind
   have e2 : t.2 * (r.2 * y) = r.2 * (t.2 * y) := by grind
   rw [e1, e2, ← e, ← h]
   grind
 exact ⟨f _ _ h1, f _ _ h2, f _ _ h3⟩
theorem zel (d A B C : Pt) : Inv (inT d A B C) := λt r ht _ e ⟨u, v, w, h1, h2, h3, h4, h⟩ => ⟨u, v, w, h1, h2, h3, h4, zgT (q := 0) ht e h⟩
theorem zdI (d A B : Pt) : Inv (inS d A B) := λt r ht _ e ⟨u, v, h1, h2, h4, h⟩ => ⟨u, v, h1, h2, h4, zgT (q := 0) ht e h⟩
theorem zkj {d A B C : Pt} {t : Int × Int} (h : inS d A B t) : inT d A B C t := by
 obtain ⟨u, v, h1, h2, h4, c1, c2, c3⟩ := h
 refine ⟨u, v, 0, h1, h2, by omega, by omega, ?_, ?_, ?_⟩ <;> grind
theorem zki {d A B C : Pt} {t : Int × Int} (h : inS d B C t) : inT d A B C t := by
 obtain ⟨u, v, h1, h2, h4, c1, c2, c3⟩ := h
 refine ⟨0, u, v, by omega, h1, h2, by omega, ?_, ?_, ?_⟩ <;> grind
theorem zkh {d A B C : Pt} {t : Int × Int} (h : inS d C A t) : inT d A B C t := by
 obtain ⟨u, v, h1, h2, h4, c1, c2, c3⟩ := h
 refine ⟨v, 0, u, h2, by omega, h1, by omega, ?_, ?_, ?_⟩ <;> grind
def IsF (m : Tq) (X : Int × Int → Prop) : Prop := match m with
 | none => ∀ t : Int × Int, 0 ≤ t.1 → 0 < t.2 → ¬ X t
 | some r => 0 ≤ r.1 ∧ 0 < r.2 ∧ X r ∧ ∀ t : Int × Int, 0 ≤ t.1 → 0 < t.2 → X t → leQ r t
theorem IsF.congr {m : Tq} {X Y : Int × Int → Prop} (h : IsF m X) (e : ∀ t : Int × Int, 0 ≤ t.1 → 0 < t.2 → (X t ↔ Y t)) : IsF m Y := by
 unfold IsF at *
 cases m with
 | none => exact λt h1 h2 hy => h t h1 h2 ((e t h1 h2).mpr hy)
 | some r => exact ⟨h.1, h.2.1, (e r h.1 h.2.1).mp h.2.2.1, λt h1 h2 hy => h.2.2.2 t h1 h2 ((e t h1 h2).mpr hy)⟩
theorem zdR {a b c : Int × Int} (ha : 0 < a.2) (hb : 0 < b.2) (hc : 0 < c.2) (h1 : leQ a b) (h2 : leQ b c) : leQ a c := by
 unfold leQ at *
 have h3 := Int.mul_le_mul_of_nonneg_right h1 (show 0 ≤ c.2 by omega)
 have h4 := Int.mul_le_mul_of_nonneg_right h2 (show 0 ≤ a.2 by omega)
 have e1 : a.1 * b.2 * c.2 = b.2 * (a.1 * c.2) := by grind
 have e2 : c.1 * b.2 * a.2 = b.2 * (c.1 * a.2) := by grind
 have e3 : b.1 * a.2 * c.2 = b.1 * c.2 * a.2 := by grind
 refine Int.le_of_mul_le_mul_left (a := b.2) ?_ hb
 omega
theorem IsF.pick {m n : Tq} {X Y : Int × Int → Prop} (hm : IsF m X) (hn : IsF n Y) : IsF (pick m n) (λt => X t ∨ Y t) := by
 unfold MX.P.pick
 cases n with
 | none =>
   refine hm.congr λt h1 h2 => ⟨.inl, λh => h.elim id λh => absurd h (hn t h1 h2)⟩
 | some t =>
   cases m with
   | none =>
     refine hn.congr λt h1 h2 => ⟨.inr, λh => h.elim (λh => absurd h (hm t h1 h2)) id⟩
   | some b =>
     simp only
     split
     · rename_i hl
       refine ⟨hn.1, hn.2.1, .inr hn.2.2.1, λs h1 h2 h => h.elim (λh => ?_) (hn.2.2.2 s h1 h2)⟩
       refine zdR hn.2.1 hm.2.1 h2 ?_ (hm.2.2.2 s h1 h2 h)
       unfold lessQ at hl; unfold leQ; omega
     · rename_i hl
       refine ⟨hm.1, hm.2.1, .inl hm.2.2.1, λs h1 h2 h => h.elim (hm.2.2.2 s h1 h2) (λh => ?_)⟩
       refine zdR hm.2.1 hn.2.1 h2 ?_ (hn.2.2.2 s h1 h2 h)
       unfold lessQ at hl; unfold leQ; omega
theorem IsF.red {m : Tq} {X : Int × Int → Prop} (hi : Inv X) (hm : IsF m X) : IsF (redT m) X := by
 cases m with
 | none => exact hm
 | some r =>
   obtain ⟨h1, h2, h3, h4⟩ := hm
   have hp := zbU r.1 r.2
   have hc := zhc (a := r.1) (b := r.2) (by omega)
   refine ⟨zcA h1 h2, hp, hi r _ h2 hp hc.symm h3, λt g1 g2 g3 => zdR hp h2 g2 ?_ (h4 t g1 g2 g3)⟩
   unfold leQ
   show (redQ r.1 r.2).1 * r.2 ≤ r.1 * (redQ r.1 r.2).2
   omega
def isRed (m : Tq) : Prop := ∀ r, m = some r → redQ r.1 r.2 = r
theorem IsF.uniq {m n : Tq} {X : Int × Int → Prop} (hm : IsF m X) (hn : IsF n X) (r1 : isRed m) (r2 : isRed n) : m = n := by
 cases m with
 | none =>
   cases n with
   | none => rfl
   | some r => exact absurd hn.2.2.1 (hm r hn.1 hn.2.1)
 | some s =>
   cases n with
   | none => exact absurd hm.2.2.1 (hn s hm.1 hm.2.1)
   | some r =>
     have a1 := hm.2.2.2 r hn.1 hn.2.1 hn.2.2.1
     have a2 := hn.2.2.2 s hm.1 hm.2.1 hm.2.2.1
     have p1 := hm.2.1
     have p2 := hn.2.1
     have e := zhQ (a := s.1) (b := s.2) (c := r.1) (d := r.2) (by omega) (by omega) (by unfold leQ at a1 a2; omega)
     rw [r1 s rfl, r2 r rfl] at e
     rw [e]
theorem zdp (m : Tq) : isRed (redT m) := λr hr => by
 cases m with
 | none => cases hr
 | some p => cases hr; exact zeh _ _
theorem zfj {m n : Tq} (hm : isRed m) (hn : isRed n) : isRed (pick m n) := by
 unfold pick
 split
 · exact hm
 · split
   · exact hn
   · split
     · exact hn
     · exact hm
theorem zcx {a b : Pt} (h1 : a.1 = b.1) (h2 : a.2.1 = b.2.1) (h3 : a.2.2 = b.2.2) : a = b := Prod.ext h1 (Prod.ext h2 h3)
theorem lag (x d e : Pt) : vdot (vcross d e) (vcross d e) * x.1 = vdot (vcross x e) (vcross d e) * d.1 - vdot (vcross x d) (vcross d e) * e.1 + vdot x (vcross d e) * (vcross d e).1
   ∧ vdot (vcross d e) (vcross d e) * x.2.1 = vdot (vcross x e) (vcross d e) * d.2.1 - vdot (vcross x d) (vcross d e) * e.2.1 + vdot x (vcross d e) * (vcross d e).2.1
   ∧ vdot (vcross d e) (vcross d e) * x.2.2 = vdot (vcross x e) (vcross d e) * d.2.2 - vdot (vcross x d) (vcross d e) * e.2.2 + vdot x (vcross d e) * (vcross d e).2.2 := by
 simp only [vdot, vcross]
 refine ⟨?_, ?_, ?_⟩ <;> grind
theorem zn5 (o a b : Pt) : wb a b = ((wb o b).1 - (wb o a).1, (wb o b).2.1 - (wb o a).2.1, (wb o b).2.2 - (wb o a).2.2) := by
 refine zcx ?_ ?_ ?_ <;> simp only [wb] <;> omega
def vsub (b a : Pt) : Pt := (b.1 - a.1, b.2.1 - a.2.1, b.2.2 - a.2.2)
theorem zdO (o a b : Pt) : wb a b = vsub (wb o b) (wb o a) := zn5 o a b
theorem zeg {d A B : Pt} {t : Int × Int} (hq : 0 < t.2) (h : inS d A B t) :
   vdot A (vcross d (vsub B A)) = 0 ∧ ∃ u v : Int, 0 ≤ u ∧ 0 ≤ v ∧ 0 < u + v ∧ t.1 * vdot (vcross d (vsub B A)) (vcross d (vsub B A)) = t.2 * vdot (vcross A (vsub B A)) (vcross d (vsub B A))
     ∧ (u + v) * vdot (vcross A d) (vcross d (vsub B A)) = v * vdot (vcross d (vsub B A)) (vcross d (vsub B A)) := by
 obtain ⟨u, v, h1, h2, h3, c⟩ := h
 have c1 := c.dot (vcross d (vsub B A))
 have c2 := c.dot (vcross (vsub B A) (vcross d (vsub B A)))
 have c3 := c.dot (vcross d (vcross d (vsub B A)))
 have z1 : vdot d (vcross d (vsub B A)) = 0 := by simp only [vdot, vcross, vsub]; grind
 have z2 : vdot B (vcross d (vsub B A)) = vdot A (vcross d (vsub B A)) := by simp only [vdot, vcross, vsub]; grind
 have y1 : vdot d (vcross (vsub B A) (vcross d (vsub B A))) = vdot (vcross d (vsub B A)) (vcross d (vsub B A)) := by simp only [vdot, vcross, vsub]; grind
 have y2 : vdot A (vcross (vsub B A) (vcross d (vsub B A))) = vdot (vcross A (vsub B A)) (vcross d (vsub B A)) := by simp only [vdot, vcross, vsub]; grind
 have y3 : vdot B (vcross (vsub B A) (vcross d (vsub B A))) = vdot (vcross A (vsub B A)) (vcross d (vsub B A)) := by simp only [vdot, vcross, vsub]; grind
 have x1 : vdot d (vcross d (vcross d (vsub B A))) = 0 := by simp only [vdot, vcross, vsub]; grind
 have x2 : vdot A (vcross d (vcross d (vsub B A))) = vdot (vcross A d) (vcross d (vsub B A)) := by simp only [vdot, vcross, vsub]; grind
 have x3 : vdot B (vcross d (vcross d (vsub B A))) = vdot (vcross A d) (vcross d (vsub B A)) - vdot (vcross d (vsub B A)) (vcross d (vsub B A)) := by simp only [vdot, vcross, vsub]; grind
 rw [z1, z2] at c1
 rw [y1, y2, y3] at c2
 rw [x1, x2, x3] at c3
 generalize vdot (vcross d (vsub B A)) (vcross d (vsub B A)) = N at *
 generalize vdot (vcross A (vsub B A)) (vcross d (vsub B A)) = T at *
 generalize vdot (vcross A d) (vcross d (vsub B A)) = Sh at *
 generalize vdot A (vcross d (vsub B A)) = Z at *
 refine ⟨?_, u, v, h1, h2, h3, ?_, ?_⟩
 · have : 0 = t.2 * ((u + v) * Z) := by grind
   exact cancel0 h3 (cancel0 hq this).symm
 · refine cancel h3 ?_
   grind
 · have : 0 = t.2 * ((u + v) * Sh - v * N) := by grind
   have := cancel0 hq this
   omega
theorem zmH {d A B : Pt} (hz : vdot A (vcross d (vsub B A)) = 0) (h1 : 0 ≤ vdot (vcross A d) (vcross d (vsub B A))) (h2 : vdot (vcross A d) (vcross d (vsub B A)) ≤ vdot (vcross d (vsub B A)) (vcross d (vsub B A))) (h3 : 0 < vdot (vcross d (vsub B A)) (vcross d (vsub B A))) :
   inS d A B (vdot (vcross A (vsub B A)) (vcross d (vsub B A)), vdot (vcross d (vsub B A)) (vcross d (vsub B A))) := by
 obtain ⟨l1, l2, l3⟩ := lag A d (vsub B A)
 rw [hz] at l1 l2 l3
 generalize vdot (vcross d (vsub B A)) (vcross d (vsub B A)) = N at *
 generalize vdot (vcross A (vsub B A)) (vcross d (vsub B A)) = T at *
 generalize vdot (vcross A d) (vcross d (vsub B A)) = Sh at *
 refine ⟨N - Sh, Sh, by omega, h1, by omega, ?_, ?_, ?_⟩ <;> simp only [vsub] at * <;> grind
theorem zey {d A B : Pt} {t : Int × Int} (hq : 0 < t.2) (hp : vcross d (vsub B A) = (0, 0, 0)) (h : inS d A B t) : vcross A d = (0, 0, 0) ∧ ∃ u v : Int, 0 ≤ u ∧ 0 ≤ v ∧ 0 < u + v ∧ (u + v) * t.1 * vdot d d = t.2 * (u * vdot A d + v * vdot B d) := by
 obtain ⟨u, v, h1, h2, h3, c⟩ := h
 have p1 : (vcross d (vsub B A)).1 = 0 := by rw [hp]
 have p2 : (vcross d (vsub B A)).2.1 = 0 := by rw [hp]
 have p3 : (vcross d (vsub B A)).2.2 = 0 := by rw [hp]
 have f : ∀ E : Pt, vdot (vcross A d) E = 0 := λE => by
   have c1 := c.dot (vcross d E)
   have z1 : vdot d (vcross d E) = 0 := by simp only [vdot, vcross]; grind
   have z2 : vdot A (vcross d E) = vdot (vcross A d) E := by simp only [vdot, vcross]; grind
   have z3 : vdot B (vcross d E) = vdot (vcross A d) E := by simp only [vdot, vcross, vsub] at *; grind
   rw [z1, z2, z3] at c1
   generalize vdot (vcross A d) E = Z at *
   have : 0 = t.2 * ((u + v) * Z) := by grind
   exact cancel0 h3 (cancel0 hq this).symm
 refine ⟨zcx ?_ ?_ ?_, u, v, h1, h2, h3, ?_⟩
 · have := f (1, 0, 0); simp only [vdot] at this; show _ = (0 : Int); omega
 · have := f (0, 1, 0); simp only [vdot] at this; show _ = (0 : Int); omega
 · have := f (0, 0, 1); simp only [vdot] at this; show _ = (0 : Int); omega
 · have := c.dot d
   grind
theorem zfl {d x : Pt} (h : vcross x d = (0, 0, 0)) : vdot d d * x.1 = vdot x d * d.1 ∧ vdot d d * x.2.1 = vdot x d * d.2.1 ∧ vdot d d * x.2.2 = vdot x d * d.2.2 := by
 have p1 : (vcross x d).1 = 0 := by rw [h]
 have p2 : (vcross x d).2.1 = 0 := by rw [h]
 have p3 : (vcross x d).2.2 = 0 := by rw [h]
 simp only [vcross, vdot] at *
 refine ⟨?_, ?_, ?_⟩ <;> grind
theorem ziO {d A B : Pt} (hp : vcross d (vsub B A) = (0, 0, 0)) (h : vcross A d = (0, 0, 0)) : vcross B d = (0, 0, 0) := by
 have p1 : (vcross d (vsub B A)).1 = 0 := by rw [hp]
 have p2 : (vcross d (vsub B A)).2.1 = 0 := by rw [hp]
 have p3 : (vcross d (vsub B A)).2.2 = 0 := by rw [hp]
 have q1 : (vcross A d).1 = 0 := by rw [h]
 have q2 : (vcross A d).2.1 = 0 := by rw [h]
 have q3 : (vcross A d).2.2 = 0 := by rw [h]
 simp only [vcross, vsub] at *
 refine zcx ?_ ?_ ?_ <;> grind
theorem zdo {o d a b : Pt} (h0 : d ≠ (0, 0, 0)) : IsF (segM o d a b) (inS d (wb o a) (wb o b)) := by
 have hD := zaB h0
 unfold segM alongM
 rw [zdO o a b]
 generalize wb o a = A
 generalize wb o b = B
 split
 · rename_i hp
   split
   · rename_i hc
     have la := zfl hc
     have lb := zfl (ziO hp hc)
     have key : ∀ t : Int × Int, 0 < t.2 → inS d A B t → ∃ u v : Int, 0 ≤ u ∧ 0 ≤ v ∧ 0 < u + v ∧ (u + v) * t.1 * vdot d d = t.2 * (u * vdot A d + v * vdot B d) := λt hq h => (zey hq hp h).2
     generalize vdot d d = N at *
     generalize vdot A d = x at *
     generalize vdot B d = y at *
     split
     · rename_i hm
       intro t h1 h2 h
       obtain ⟨u, v, u0, v0, uv, e⟩ := key t h2 h
       have hx : x < 0 ∧ y < 0 := by unfold maxZ at hm; split at hm <;> omega
       have e1 : 0 ≤ (u + v) * t.1 * N := Int.mul_nonneg (Int.mul_nonneg (by omega) h1) (by omega)
       have e2 : u * x + v * y < 0 := by
         rcases Int.lt_or_eq_of_le u0 with q | q
         · have := Int.mul_neg_of_pos_of_neg q hx.1
           have := Int.mul_nonpos_of_nonneg_of_nonpos v0 (show y ≤ 0 by omega)
           omega
         · subst q
           have := Int.mul_neg_of_pos_of_neg (show 0 < v by omega) hx.2
           omega
       have := Int.mul_neg_of_pos_of_neg h2 e2
       omega
     · rename_i hm
       have hm' : 0 ≤ x ∨ 0 ≤ y := by unfold maxZ at hm; split at hm <;> omega
       have hmn : (maxZ (minZ x y) 0 = x ∧ 0 ≤ x ∧ x ≤ y) ∨ (maxZ (minZ x y) 0 = y ∧ 0 ≤ y ∧ y ≤ x) ∨ (maxZ (minZ x y) 0 = 0 ∧ x < 0 ∧ 0 ≤ y) ∨ (maxZ (minZ x y) 0 = 0 ∧ y < 0 ∧ 0 ≤ x) := by
         unfold maxZ minZ
         split <;> split <;> omega
       have hge : 0 ≤ maxZ (minZ x y) 0 := by rcases hmn with h | h | h | h <;> omega
       refine ⟨hge, hD, ?_, λt h1 h2 h => ?_⟩
       · obtain ⟨a1, a2, a3⟩ := la
         obtain ⟨b1, b2, b3⟩ := lb
         rcases hmn with ⟨e, _⟩ | ⟨e, _⟩ | ⟨e, _⟩ | ⟨e, _⟩ <;> rw [e]
         · exact ⟨1, 0, by omega, by omega, by omega, by simp only; grind, by simp only; grind, by simp only; grind⟩
         · exact ⟨0, 1, by omega, by omega, by omega, by simp only; grind, by simp only; grind, by simp only; grind⟩
         · exact ⟨y, -x, by omega, by omega, by omega, by simp only; grind, by simp only; grind, by simp only; grind⟩
         · exact ⟨-y, x, by omega, by omega, by omega, by simp only; grind, by simp only; grind, by simp only; grind⟩
       · obtain ⟨u, v, u0, v0, uv, e⟩ := key t h2 h
         unfold leQ
         simp only
         have low : ∀ m : Int, m ≤ x → m ≤ y → m * t.2 ≤ t.1 * N := λm m1 m2 => by
           refine Int.le_of_mul_le_mul_left (a := u + v) ?_ uv
           have g1 := Int.mul_le_mul_of_nonneg_left m1 u0
           have g2 := Int.mul_le_mul_of_nonneg_left m2 v0
           have g3 := Int.mul_le_mul_of_nonneg_left (show u * m + v * m ≤ u * x + v * y by omega) (show 0 ≤ t.2 by omega)
           have e1 : (u + v) * (m * t.2) = t.2 * (u * m + v * m) := by grind
           have e2 : (u + v) * (t.1 * N) = (u + v) * t.1 * N := by grind
           omega
         rcases hmn with ⟨e, _⟩ | ⟨e, _⟩ | ⟨e, _⟩ | ⟨e, _⟩ <;> rw [e]
         · exact low _ (by omega) (by omega)
         · exact low _ (by omega) (by omega)
         · have := Int.mul_nonneg h1 (show 0 ≤ N by omega); omega
         · have := Int.mul_nonneg h1 (show 0 ≤ N by omega); omega
   · rename_i hc
     exact λt h1 h2 h => hc (zey h2 hp h).1
 · rename_i hp
   have hN := zaB hp
   split
   · rename_i hz
     split
     · rename_i hb
       intro t h1 h2 h
       obtain ⟨_, u, v, u0, v0, uv, e1, e2⟩ := zeg h2 h
       generalize vdot (vcross d (vsub B A)) (vcross d (vsub B A)) = N at *
       generalize vdot (vcross A (vsub B A)) (vcross d (vsub B A)) = T at *
       generalize vdot (vcross A d) (vcross d (vsub B A)) = Sh at *
       rcases hb with q | q | q
       · have := Int.mul_neg_of_pos_of_neg h2 q
         have := Int.mul_nonneg h1 (show 0 ≤ N by omega)
         omega
       · have := Int.mul_neg_of_pos_of_neg uv q
         have := Int.mul_nonneg v0 (show 0 ≤ N by omega)
         omega
       · have g1 := Int.mul_lt_mul_of_pos_left q uv
         have g2 := Int.mul_nonneg u0 (show 0 ≤ N by omega)
         have g3 : (u + v) * N = u * N + v * N := by grind
         omega
     · rename_i hb
       refine ⟨Int.not_lt.mp λq => hb (.inl q), hN, zmH hz (Int.not_lt.mp λq => hb (.inr (.inl q))) (Int.not_lt.mp λq => hb (.inr (.inr q))) hN, λt h1 h2 h => ?_⟩
       obtain ⟨_, u, v, u0, v0, uv, e1, e2⟩ := zeg h2 h
       unfold leQ
       simp only
       rw [Int.mul_comm, ← e1]
       omega
   · rename_i hz
     exact λt h1 h2 h => hz (zeg h2 h).1
end MX.P
end
section
set_option autoImplicit false
namespace MX.P
theorem zgm {o d a b c : Pt} (h0 : d ≠ (0, 0, 0)) : IsF (edgesM o d a b c) (λt => inS d (wb o a) (wb o b) t ∨ inS d (wb o b) (wb o c) t ∨ inS d (wb o c) (wb o a) t) := by
 have n0 : IsF none (λ_ => False) := λ_ _ _ h => h
 have h1 := (zdo (o := o) (a := a) (b := b) h0).red (zdI _ _ _)
 have h2 := (zdo (o := o) (a := b) (b := c) h0).red (zdI _ _ _)
 have h3 := (zdo (o := o) (a := c) (b := a) h0).red (zdI _ _ _)
 unfold edgesM
 refine (((n0.pick h1).pick h2).pick h3).congr λt _ _ => ?_
 constructor
 · rintro (((h | h) | h) | h)
   · exact h.elim
   · exact .inl h
   · exact .inr (.inl h)
   · exact .inr (.inr h)
 · rintro (h | h | h)
   · exact .inl (.inl (.inr h))
   · exact .inl (.inr h)
   · exact .inr h
theorem zfP (o d a b c : Pt) : isRed (edgesM o d a b c) := zfj (zfj (zfj (λ_ h => by cases h) (zdp _)) (zdp _)) (zdp _)
theorem zft {d A B C : Pt} {t : Int × Int} (h : inS d A B t ∨ inS d B C t ∨ inS d C A t) : inT d A B C t := by
 rcases h with h | h | h
 · exact zkj h
 · exact zki h
 · exact zkh h
def Mid (A B C : Pt) : Prop := ∃ i j : Int, 0 ≤ i ∧ 0 ≤ j ∧ 0 < i + j ∧ (i + j) * C.1 = i * A.1 + j * B.1 ∧ (i + j) * C.2.1 = i * A.2.1 + j * B.2.1 ∧ (i + j) * C.2.2 = i * A.2.2 + j * B.2.2
theorem zh8 {d A B C : Pt} {t : Int × Int} (m : Mid A B C) (h : inT d A B C t) : inS d A B t := by
 obtain ⟨i, j, i0, j0, ij, m1, m2, m3⟩ := m
 obtain ⟨u, v, w, u0, v0, w0, uvw, c1, c2, c3⟩ := h
 have g1 := Int.mul_nonneg (show 0 ≤ i + j by omega) u0
 have g2 := Int.mul_nonneg (show 0 ≤ i + j by omega) v0
 have g3 := Int.mul_nonneg i0 w0
 have g4 := Int.mul_nonneg j0 w0
 have g5 := Int.mul_pos ij uvw
 have f : ∀ x a b c : Int, (i + j) * c = i * a + j * b → (u + v + w) * t.1 * x = t.2 * (u * a + v * b + w * c) → ((i + j) * u + i * w + ((i + j) * v + j * w)) * t.1 * x = t.2 * (((i + j) * u + i * w) * a + ((i + j) * v + j * w) * b + 0 * a) := λx a b c e1 e2 => by
   have e3 : ((i + j) * u + i * w + ((i + j) * v + j * w)) * t.1 * x = (i + j) * ((u + v + w) * t.1 * x) := by grind
   rw [e3, e2]
   have e4 : (i + j) * (t.2 * (u * a + v * b + w * c)) = t.2 * ((i + j) * u * a + (i + j) * v * b + w * ((i + j) * c)) := by grind
   rw [e4, e1]
   grind
 refine ⟨(i + j) * u + i * w, (i + j) * v + j * w, by omega, by omega, ?_, f _ _ _ _ m1 c1, f _ _ _ _ m2 c2, f _ _ _ _ m3 c3⟩
 have : (i + j) * u + i * w + ((i + j) * v + j * w) = (i + j) * (u + v + w) := by grind
 omega
theorem zgg {A B C : Pt} (x y z : Int) (hne : ¬ (x = y ∧ y = z)) (e1 : (y - x) * C.1 + (z - y) * A.1 + (x - z) * B.1 = 0) (e2 : (y - x) * C.2.1 + (z - y) * A.2.1 + (x - z) * B.2.1 = 0) (e3 : (y - x) * C.2.2 + (z - y) * A.2.2 + (x - z) * B.2.2 = 0) : Mid A B C ∨ Mid B C A ∨ Mid C A B := by
 by_cases h1 : x ≤ z ∧ z ≤ y
 · exact .inl ⟨y - z, z - x, by omega, by omega, by omega, by grind, by grind, by grind⟩
 · by_cases h2 : y ≤ z ∧ z ≤ x
   · exact .inl ⟨z - y, x - z, by omega, by omega, by omega, by grind, by grind, by grind⟩
   · by_cases h3 : y ≤ x ∧ x ≤ z
     · exact .inr (.inl ⟨z - x, x - y, by omega, by omega, by omega, by grind, by grind, by grind⟩)
     · by_cases h4 : z ≤ x ∧ x ≤ y
       · exact .inr (.inl ⟨x - z, y - x, by omega, by omega, by omega, by grind, by grind, by grind⟩)
       · by_cases h5 : z ≤ y ∧ y ≤ x
         · exact .inr (.inr ⟨x - y, y - z, by omega, by omega, by omega, by grind, by grind, by grind⟩)
         · exact .inr (.inr ⟨y - x, z - y, by omega, by omega, by omega, by grind, by grind, by grind⟩)
theorem zjL {A B C : Pt} (h : vcross (vsub B A) (vsub C A) = (0, 0, 0)) : Mid A B C ∨ Mid B C A ∨ Mid C A B := by
 have p1 : (vcross (vsub B A) (vsub C A)).1 = 0 := by rw [h]
 have p2 : (vcross (vsub B A) (vsub C A)).2.1 = 0 := by rw [h]
 have p3 : (vcross (vsub B A) (vsub C A)).2.2 = 0 := by rw [h]
 simp only [vcross, vsub] at p1 p2 p3
 by_cases h1 : A.1 = B.1 ∧ B.1 = C.1
 · by_cases h2 : A.2.1 = B.2.1 ∧ B.2.1 = C.2.1
   · by_cases h3 : A.2.2 = B.2.2 ∧ B.2.2 = C.2.2
     · exact .inl ⟨1, 0, by omega, by omega, by omega, by omega, by omega, by omega⟩
     · exact zgg A.2.2 B.2.2 C.2.2 h3 (by grind) (by grind) (by grind)
   · exact zgg A.2.1 B.2.1 C.2.1 h2 (by grind) (by grind) (by grind)
 · exact zgg A.1 B.1 C.1 h1 (by grind) (by grind) (by grind)
theorem zdH {d A B C : Pt} {t : Int × Int} (h : inT d A B C t) : inT d B C A t := by
 obtain ⟨u, v, w, h1, h2, h3, h4, c1, c2, c3⟩ := h
 refine ⟨v, w, u, h2, h3, h1, by omega, ?_, ?_, ?_⟩ <;> grind
theorem zeo {d A B C : Pt} {t : Int × Int} (hf : vcross (vsub B A) (vsub C A) = (0, 0, 0)) (h : inT d A B C t) : inS d A B t ∨ inS d B C t ∨ inS d C A t := by
 rcases zjL hf with m | m | m
 · exact .inl (zh8 m h)
 · exact .inr (.inl (zh8 m (zdH h)))
 · exact .inr (.inr (zh8 m (zdH (zdH h))))
def aff (f : Int × Int) (t : Int × Int) : Int := f.1 * t.2 + f.2 * t.1
theorem zez {f r s t : Int × Int} (hr : 0 < r.2) (hs : 0 < s.2) (ht : 0 < t.2) (h1 : leQ r s) (h2 : leQ s t) (f1 : 0 ≤ aff f r) (f2 : 0 ≤ aff f t) : 0 ≤ aff f s := by
 unfold leQ aff at *
 by_cases hb : 0 ≤ f.2
 · have g1 := Int.mul_nonneg f1 (show 0 ≤ s.2 by omega)
   have g2 := Int.mul_le_mul_of_nonneg_left h1 hb
   have e : (f.1 * r.2 + f.2 * r.1) * s.2 = r.2 * (f.1 * s.2) + f.2 * (r.1 * s.2) := by grind
   have e2 : r.2 * (f.1 * s.2 + f.2 * s.1) = r.2 * (f.1 * s.2) + f.2 * (s.1 * r.2) := by grind
   refine Int.le_of_mul_le_mul_left (a := r.2) ?_ hr
   omega
 · have g1 := Int.mul_nonneg f2 (show 0 ≤ s.2 by omega)
   have g2 := Int.mul_le_mul_of_nonpos_left (show f.2 ≤ 0 by omega) h2
   have e : (f.1 * t.2 + f.2 * t.1) * s.2 = t.2 * (f.1 * s.2) + f.2 * (t.1 * s.2) := by grind
   have e2 : t.2 * (f.1 * s.2 + f.2 * s.1) = t.2 * (f.1 * s.2) + f.2 * (s.1 * t.2) := by grind
   refine Int.le_of_mul_le_mul_left (a := t.2) ?_ ht
   omega
theorem ze4 {t : Int × Int} (ht0 : 0 ≤ t.1) (ht : 0 < t.2) : ∀ L : List (Int × Int), (∀ f ∈ L, 0 ≤ aff f t) → (∃ f ∈ L, f.1 < 0) → ∃ r : Int × Int, 0 ≤ r.1 ∧ 0 < r.2 ∧ leQ r t ∧ (∀ f ∈ L, 0 ≤ aff f r) ∧ ∃ f ∈ L, f.1 < 0 ∧ aff f r = 0
 | [], _, h => by obtain ⟨_, h, _⟩ := h; cases h
 | f :: L, ha, hn => by
   have hf := ha f (List.mem_cons_self ..)
   have hL : ∀ g ∈ L, 0 ≤ aff g t := λg hg => ha g (List.mem_cons_of_mem _ hg)
   by_cases hneg : ∃ g ∈ L, g.1 < 0
   · obtain ⟨r, r0, r1, r2, r3, g, g1, g2, g3⟩ := ze4 ht0 ht L hL hneg
     by_cases hr : 0 ≤ aff f r
     · exact ⟨r, r0, r1, r2, λx hx => by rcases List.mem_cons.mp hx with e | e; exact e ▸ hr; exact r3 x e, g, List.mem_cons_of_mem _ g1, g2, g3⟩
     · have hb : 0 < f.2 := by
         refine Int.not_le.mp λq => hr ?_
         unfold aff leQ at *
         have g1 := Int.mul_nonneg hf (show 0 ≤ r.2 by omega)
         have g2 := Int.mul_le_mul_of_nonpos_left q r2
         refine Int.le_of_mul_le_mul_left (a := t.2) ?_ ht
         have e : (f.1 * t.2 + f.2 * t.1) * r.2 = t.2 * (f.1 * r.2) + f.2 * (t.1 * r.2) := by grind
         have e2 : t.2 * (f.1 * r.2 + f.2 * r.1) = t.2 * (f.1 * r.2) + f.2 * (r.1 * t.2) := by grind
         omega
       have hfr : f.1 * r.2 < 0 := by
         unfold aff at hr
         have := Int.mul_nonneg (show 0 ≤ f.2 by omega) r0
         omega
       have hf0 : f.1 < 0 := by
         refine Int.not_le.mp λq => ?_
         have := Int.mul_nonneg q (show 0 ≤ r.2 by omega)
         omega
       have l1 : leQ r (-f.1, f.2) := by
         unfold leQ aff at *
         simp only
         have e1 : r.1 * f.2 = f.2 * r.1 := by grind
         have e2 : -f.1 * r.2 = -(f.1 * r.2) := by grind
         omega
       have l2 : leQ (-f.1, f.2) t := by
         unfold leQ aff at *
         simp only
         have e1 : t.1 * f.2 = f.2 * t.1 := by grind
         have e2 : -f.1 * t.2 = -(f.1 * t.2) := by grind
         omega
       have z : aff f (-f.1, f.2) = 0 := by unfold aff; simp only; grind
       refine ⟨(-f.1, f.2), by simp only; omega, hb, l2, λx hx => ?_, f, List.mem_cons_self .., hf0, z⟩
       rcases List.mem_cons.mp hx with e | e
       · rw [e, z]; omega
       · exact zez r1 hb ht l1 l2 (r3 x e) (hL x e)
   · have hf0 : f.1 < 0 := by
       obtain ⟨g, g1, g2⟩ := hn
       rcases List.mem_cons.mp g1 with e | e
       · exact e ▸ g2
       · exact absurd ⟨g, e, g2⟩ hneg
     have hft : f.1 * t.2 < 0 := Int.mul_neg_of_neg_of_pos hf0 ht
     have hb : 0 < f.2 := by
       refine Int.not_le.mp λq => ?_
       have := Int.mul_nonpos_of_nonpos_of_nonneg q ht0
       unfold aff at hf
       omega
     have l2 : leQ (-f.1, f.2) t := by
       unfold leQ aff at *
       simp only
       have e1 : t.1 * f.2 = f.2 * t.1 := by grind
       have e2 : -f.1 * t.2 = -(f.1 * t.2) := by grind
       omega
     have l1 : leQ (0, 1) (-f.1, f.2) := by unfold leQ; simp only; omega
     have z : aff f (-f.1, f.2) = 0 := by unfold aff; simp only; grind
     refine ⟨(-f.1, f.2), by simp only; omega, hb, l2, λx hx => ?_, f, List.mem_cons_self .., hf0, z⟩
     rcases List.mem_cons.mp hx with e | e
     · rw [e, z]; omega
     · refine zez (r := (0, 1)) (by decide) hb ht l1 l2 ?_ (hL x e)
       have : ¬ x.1 < 0 := λq => hneg ⟨x, e, q⟩
       unfold aff; simp only; omega
end MX.P
end
section
set_option autoImplicit false
namespace MX.P
theorem IsF.widen {m : Tq} {X Y : Int × Int → Prop} (h : IsF m X) (sub : ∀ t, X t → Y t) (dom : ∀ t : Int × Int, 0 ≤ t.1 → 0 < t.2 → Y t → ∃ r : Int × Int, 0 ≤ r.1 ∧ 0 < r.2 ∧ X r ∧ leQ r t) : IsF m Y := by
 cases m with
 | none =>
   intro t h1 h2 hy
   obtain ⟨r, r1, r2, r3, _⟩ := dom t h1 h2 hy
   exact h r r1 r2 r3
 | some s =>
   obtain ⟨a1, a2, a3, a4⟩ := h
   refine ⟨a1, a2, sub _ a3, λt h1 h2 hy => ?_⟩
   obtain ⟨r, r1, r2, r3, r4⟩ := dom t h1 h2 hy
   exact zdR a2 r2 h2 (a4 r r1 r2 r3) r4
theorem zcz (d A B C : Pt) : vdot d (vcross A B) + vdot d (vcross B C) + vdot d (vcross C A) = vdot d (vcross (vsub B A) (vsub C A)) := by
 simp only [vdot, vcross, vsub]; grind
theorem zef (n A B C : Pt) : vdot n (vcross B C) * A.1 + vdot n (vcross C A) * B.1 + vdot n (vcross A B) * C.1 = vdot A (vcross (vsub B A) (vsub C A)) * n.1
   ∧ vdot n (vcross B C) * A.2.1 + vdot n (vcross C A) * B.2.1 + vdot n (vcross A B) * C.2.1 = vdot A (vcross (vsub B A) (vsub C A)) * n.2.1
   ∧ vdot n (vcross B C) * A.2.2 + vdot n (vcross C A) * B.2.2 + vdot n (vcross A B) * C.2.2 = vdot A (vcross (vsub B A) (vsub C A)) * n.2.2 := by
 simp only [vdot, vcross, vsub]
 refine ⟨?_, ?_, ?_⟩ <;> grind
theorem zd6 {d A B C : Pt} {t : Int × Int} (hq : 0 < t.2) (h : inT d A B C t) : ∃ u v w : Int, 0 ≤ u ∧ 0 ≤ v ∧ 0 ≤ w ∧ 0 < u + v + w
   ∧ t.1 * vdot d (vcross (vsub B A) (vsub C A)) = t.2 * vdot A (vcross (vsub B A) (vsub C A))
   ∧ (u + v + w) * vdot d (vcross B C) = u * vdot d (vcross (vsub B A) (vsub C A))
   ∧ (u + v + w) * vdot d (vcross C A) = v * vdot d (vcross (vsub B A) (vsub C A))
   ∧ (u + v + w) * vdot d (vcross A B) = w * vdot d (vcross (vsub B A) (vsub C A)) := by
 obtain ⟨u, v, w, u0, v0, w0, hs, c⟩ := h
 refine ⟨u, v, w, u0, v0, w0, hs, ?_⟩
 have c0 := c.dot (vcross (vsub B A) (vsub C A))
 have b0 : vdot B (vcross (vsub B A) (vsub C A)) = vdot A (vcross (vsub B A) (vsub C A)) := by simp only [vdot, vcross, vsub]; grind
 have d0 : vdot C (vcross (vsub B A) (vsub C A)) = vdot A (vcross (vsub B A) (vsub C A)) := by simp only [vdot, vcross, vsub]; grind
 rw [b0, d0] at c0
 have cA := c.dot (vcross A d)
 have cB := c.dot (vcross B d)
 have cC := c.dot (vcross C d)
 have z : ∀ X : Pt, vdot d (vcross X d) = 0 := λX => by simp only [vdot, vcross]; grind
 have y : ∀ X : Pt, vdot X (vcross X d) = 0 := λX => by simp only [vdot, vcross]; grind
 have x : ∀ X Y : Pt, vdot X (vcross Y d) = vdot d (vcross X Y) := λX Y => by simp only [vdot, vcross]; grind
 have s : ∀ X Y : Pt, vdot d (vcross X Y) = - vdot d (vcross Y X) := λX Y => by simp only [vdot, vcross]; grind
 rw [z, y, x B A, x C A, s B A] at cA
 rw [z, y, x A B, x C B, s C B] at cB
 rw [z, y, x A C, x B C, s A C] at cC
 have e := zcz d A B C
 generalize vdot d (vcross (vsub B A) (vsub C A)) = V at *
 generalize vdot A (vcross (vsub B A) (vsub C A)) = U at *
 generalize vdot d (vcross A B) = s1 at *
 generalize vdot d (vcross B C) = s2 at *
 generalize vdot d (vcross C A) = s3 at *
 have kA : w * s3 - v * s1 = 0 := cancel0 hq (by grind)
 have kB : u * s1 - w * s2 = 0 := cancel0 hq (by grind)
 have kC : v * s2 - u * s3 = 0 := cancel0 hq (by grind)
 refine ⟨?_, ?_, ?_, ?_⟩
 · refine cancel hs ?_
   grind
 · subst e; grind
 · subst e; grind
 · subst e; grind
theorem zmp {d A B C : Pt} (h1 : 0 ≤ vdot d (vcross A B)) (h2 : 0 ≤ vdot d (vcross B C)) (h3 : 0 ≤ vdot d (vcross C A)) (hV : 0 < vdot d (vcross (vsub B A) (vsub C A))) : inT d A B C (vdot A (vcross (vsub B A) (vsub C A)), vdot d (vcross (vsub B A) (vsub C A))) := by
 obtain ⟨m1, m2, m3⟩ := zef d A B C
 have e := zcz d A B C
 generalize vdot d (vcross (vsub B A) (vsub C A)) = V at *
 generalize vdot A (vcross (vsub B A) (vsub C A)) = U at *
 generalize vdot d (vcross A B) = s1 at *
 generalize vdot d (vcross B C) = s2 at *
 generalize vdot d (vcross C A) = s3 at *
 refine ⟨s2, s3, s1, h2, h3, h1, by omega, ?_, ?_, ?_⟩ <;> simp only <;> grind
theorem zkB {d A B C : Pt} (h1 : vdot d (vcross A B) ≤ 0) (h2 : vdot d (vcross B C) ≤ 0) (h3 : vdot d (vcross C A) ≤ 0) (hV : vdot d (vcross (vsub B A) (vsub C A)) < 0) : inT d A B C (-vdot A (vcross (vsub B A) (vsub C A)), -vdot d (vcross (vsub B A) (vsub C A))) := by
 obtain ⟨m1, m2, m3⟩ := zef d A B C
 have e := zcz d A B C
 generalize vdot d (vcross (vsub B A) (vsub C A)) = V at *
 generalize vdot A (vcross (vsub B A) (vsub C A)) = U at *
 generalize vdot d (vcross A B) = s1 at *
 generalize vdot d (vcross B C) = s2 at *
 generalize vdot d (vcross C A) = s3 at *
 refine ⟨-s2, -s3, -s1, by omega, by omega, by omega, by omega, ?_, ?_, ?_⟩ <;> simp only <;> grind
section
variable {d A B C : Pt}
abbrev nrm (A B C : Pt) : Pt := vcross (vsub B A) (vsub C A)
def f1 (d A B C : Pt) : Int × Int := (vdot (nrm A B C) (vcross A B), vdot (nrm A B C) (vcross (vsub B A) d))
def f2 (d A B C : Pt) : Int × Int := (vdot (nrm A B C) (vcross B C), vdot (nrm A B C) (vcross (vsub C B) d))
def f3 (d A B C : Pt) : Int × Int := (vdot (nrm A B C) (vcross C A), vdot (nrm A B C) (vcross (vsub A C) d))
theorem zoy (d A B C : Pt) : (f1 d A B C).1 + (f2 d A B C).1 + (f3 d A B C).1 = vdot (nrm A B C) (nrm A B C) ∧ (f1 d A B C).2 + (f2 d A B C).2 + (f3 d A B C).2 = 0 := by
 refine ⟨zcz (nrm A B C) A B C, ?_⟩
 simp only [f1, f2, f3]
 generalize nrm A B C = n
 simp only [vdot, vcross, vsub]
 grind
theorem zei {n d X Y Z : Pt} {N u v w p q : Int} (c : Comb ((u + v + w) * p) d q u v w X Y Z) (hN : vdot n (vcross X Y) + vdot n (vcross Y Z) + vdot n (vcross Z X) = N) :
   (u + v + w) * (vdot n (vcross Y Z) * q + vdot n (vcross (vsub Z Y) d) * p) = q * u * N := by
 have c0 := c.dot (vcross (vsub Z Y) n)
 have b0 : vdot d (vcross (vsub Z Y) n) = - vdot n (vcross (vsub Z Y) d) := by simp only [vdot, vcross, vsub]; grind
 have b1 : vdot X (vcross (vsub Z Y) n) = - vdot n (vcross Z X) - vdot n (vcross X Y) := by simp only [vdot, vcross, vsub]; grind
 have b2 : vdot Y (vcross (vsub Z Y) n) = vdot n (vcross Y Z) := by simp only [vdot, vcross, vsub]; grind
 have b3 : vdot Z (vcross (vsub Z Y) n) = vdot n (vcross Y Z) := by simp only [vdot, vcross, vsub]; grind
 rw [b0, b1, b2, b3] at c0
 generalize vdot n (vcross X Y) = s1 at *
 generalize vdot n (vcross Y Z) = s2 at *
 generalize vdot n (vcross Z X) = s3 at *
 generalize vdot n (vcross (vsub Z Y) d) = s4 at *
 subst hN
 grind
theorem zgS {k q u v w : Int} {d A B C : Pt} (c : Comb k d q u v w A B C) : Comb k d q v w u B C A := by
 obtain ⟨c1, c2, c3⟩ := c
 refine ⟨?_, ?_, ?_⟩ <;> grind
theorem zbt {s x y : Int} (hs : 0 < s) (h : s * x = y) (hy : 0 ≤ y) : 0 ≤ x := by
 refine Int.le_of_mul_le_mul_left (a := s) ?_ hs
 omega
theorem zjt {t : Int × Int} (hN : 0 < vdot (nrm A B C) (nrm A B C)) (hq : 0 < t.2) (h : inT d A B C t) : 0 ≤ aff (f1 d A B C) t ∧ 0 ≤ aff (f2 d A B C) t ∧ 0 ≤ aff (f3 d A B C) t := by
 obtain ⟨u, v, w, u0, v0, w0, hs, c⟩ := h
 have e : vdot (nrm A B C) (vcross A B) + vdot (nrm A B C) (vcross B C) + vdot (nrm A B C) (vcross C A) = vdot (nrm A B C) (nrm A B C) := zcz (nrm A B C) A B C
 have c' := zgS c
 have c'' := zgS c'
 rw [show u + v + w = v + w + u by omega] at c'
 rw [show u + v + w = w + u + v by omega] at c''
 have p2 := zei c e
 have p3 := zei c' (N := vdot (nrm A B C) (nrm A B C)) (n := nrm A B C) (by omega)
 have p1 := zei c'' (N := vdot (nrm A B C) (nrm A B C)) (n := nrm A B C) (by omega)
 have g : ∀ x : Int, 0 ≤ x → 0 ≤ t.2 * x * vdot (nrm A B C) (nrm A B C) := λx hx => Int.mul_nonneg (Int.mul_nonneg (by omega) hx) (by omega)
 exact ⟨zbt (by omega) p1 (g w w0), zbt (by omega) p2 (g u u0), zbt (by omega) p3 (g v v0)⟩
theorem zfk {t : Int × Int} (hN : 0 < vdot (nrm A B C) (nrm A B C)) (hV : vdot d (nrm A B C) = 0) (hU : vdot A (nrm A B C) = 0) (hq : 0 < t.2) :
   Comb ((aff (f2 d A B C) t + aff (f3 d A B C) t + aff (f1 d A B C) t) * t.1) d t.2 (aff (f2 d A B C) t) (aff (f3 d A B C) t) (aff (f1 d A B C) t) A B C ∧ 0 < aff (f2 d A B C) t + aff (f3 d A B C) t + aff (f1 d A B C) t := by
 obtain ⟨m1, m2, m3⟩ := zef (nrm A B C) A B C
 obtain ⟨l1, l2, l3⟩ := lag d (vsub B A) (vsub C A)
 obtain ⟨s1, s2⟩ := zoy d A B C
 have sum : aff (f2 d A B C) t + aff (f3 d A B C) t + aff (f1 d A B C) t = vdot (nrm A B C) (nrm A B C) * t.2 := by
   unfold aff
   rw [← s1]
   have : ((f1 d A B C).2 + (f2 d A B C).2 + (f3 d A B C).2) * t.1 = 0 := by rw [s2]; grind
   grind
 rw [hU] at m1 m2 m3
 rw [hV] at l1 l2 l3
 have k1 : vdot (vcross d (vsub C A)) (nrm A B C) = (f3 d A B C).2 := by
   simp only [f3]; generalize nrm A B C = n; simp only [vdot, vcross, vsub]; grind
 have k2 : - vdot (vcross d (vsub B A)) (nrm A B C) = (f1 d A B C).2 := by
   simp only [f1]; generalize nrm A B C = n; simp only [vdot, vcross, vsub]; grind
 rw [k1] at l1 l2 l3
 have k2' : vdot (vcross d (vsub B A)) (nrm A B C) = -(f1 d A B C).2 := by omega
 rw [k2'] at l1 l2 l3
 refine ⟨?_, by rw [sum]; exact Int.mul_pos hN hq⟩
 rw [sum]
 have j1 : vdot (nrm A B C) (vcross B C) = (f2 d A B C).1 := rfl
 have j2 : vdot (nrm A B C) (vcross C A) = (f3 d A B C).1 := rfl
 have j3 : vdot (nrm A B C) (vcross A B) = (f1 d A B C).1 := rfl
 rw [j1, j2, j3] at m1 m2 m3
 unfold aff
 generalize vdot (nrm A B C) (nrm A B C) = N at *
 generalize f1 d A B C = g1 at *
 generalize f2 d A B C = g2 at *
 generalize f3 d A B C = g3 at *
 obtain ⟨x1, y1⟩ := g1
 obtain ⟨x2, y2⟩ := g2
 obtain ⟨x3, y3⟩ := g3
 simp only [vsub] at *
 have hy : y2 = - y1 - y3 := by omega
 subst hy
 have gen : ∀ D a b c n1 n2 : Int, x2 * a + x3 * b + x1 * c = 0 * n1 → N * D = y3 * (b - a) - -y1 * (c - a) + 0 * n2 → N * t.2 * t.1 * D = t.2 * ((x2 * t.2 + (-y1 - y3) * t.1) * a + (x3 * t.2 + y3 * t.1) * b + (x1 * t.2 + y1 * t.1) * c) := λD a b c n1 n2 e1 e2 => by
   have e3 : N * t.2 * t.1 * D = t.2 * t.1 * (N * D) := by grind
   rw [e3, e2]
   have e4 : t.2 * ((x2 * t.2 + (-y1 - y3) * t.1) * a + (x3 * t.2 + y3 * t.1) * b + (x1 * t.2 + y1 * t.1) * c) = t.2 * (t.2 * (x2 * a + x3 * b + x1 * c) + t.1 * ((-y1 - y3) * a + y3 * b + y1 * c)) := by grind
   rw [e4, e1]
   grind
 exact ⟨gen _ _ _ _ _ _ m1 l1, gen _ _ _ _ _ _ m2 l2, gen _ _ _ _ _ _ m3 l3⟩
end
theorem zeY {d A B C : Pt} {t : Int × Int} (hN : 0 < vdot (nrm A B C) (nrm A B C)) (hV : vdot d (nrm A B C) = 0) (hU : vdot A (nrm A B C) = 0)
   (hout : vdot (nrm A B C) (vcross A B) < 0 ∨ vdot (nrm A B C) (vcross B C) < 0 ∨ vdot (nrm A B C) (vcross C A) < 0) (hp : 0 ≤ t.1) (hq : 0 < t.2) (h : inT d A B C t) :
   ∃ r : Int × Int, 0 ≤ r.1 ∧ 0 < r.2 ∧ (inS d A B r ∨ inS d B C r ∨ inS d C A r) ∧ leQ r t := by
 obtain ⟨a1, a2, a3⟩ := zjt hN hq h
 obtain ⟨r, r0, r1, r2, r3, f, hf, _, hz⟩ := ze4 hp hq [f1 d A B C, f2 d A B C, f3 d A B C] (by
     intro f hf
     simp only [List.mem_cons, List.mem_nil_iff, or_false] at hf
     rcases hf with e | e | e <;> subst e <;> assumption) (by
     rcases hout with q | q | q
     · exact ⟨f1 d A B C, by simp, q⟩
     · exact ⟨f2 d A B C, by simp, q⟩
     · exact ⟨f3 d A B C, by simp, q⟩)
 refine ⟨r, r0, r1, ?_, r2⟩
 have n1 := r3 (f1 d A B C) (by simp)
 have n2 := r3 (f2 d A B C) (by simp)
 have n3 := r3 (f3 d A B C) (by simp)
 obtain ⟨⟨c1, c2, c3⟩, hs⟩ := zfk (t := r) hN hV hU r1
 simp only [List.mem_cons, List.mem_nil_iff, or_false] at hf
 rcases hf with e | e | e <;> subst e
 · left
   rw [hz] at c1 c2 c3 hs
   generalize aff (f2 d A B C) r = x2 at *
   generalize aff (f3 d A B C) r = x3 at *
   refine ⟨x2, x3, n2, n3, by omega, ?_, ?_, ?_⟩ <;> grind
 · right; left
   rw [hz] at c1 c2 c3 hs
   generalize aff (f1 d A B C) r = x1 at *
   generalize aff (f3 d A B C) r = x3 at *
   refine ⟨x3, x1, n3, n1, by omega, ?_, ?_, ?_⟩ <;> grind
 · right; right
   rw [hz] at c1 c2 c3 hs
   generalize aff (f1 d A B C) r = x1 at *
   generalize aff (f2 d A B C) r = x2 at *
   refine ⟨x1, x2, n1, n2, by omega, ?_, ?_, ?_⟩ <;> grind
theorem zgK (o w a b c : Pt) : goesM o w a b c = true ↔ (0 ≤ sideM o w a b ∧ 0 ≤ sideM o w b c ∧ 0 ≤ sideM o w c a) ∨ (sideM o w a b ≤ 0 ∧ sideM o w b c ≤ 0 ∧ sideM o w c a ≤ 0) := by
 unfold goesM
 simp only [Bool.or_eq_true, Bool.and_eq_true, decide_eq_true_eq, and_assoc]
theorem zbK {o d a b c : Pt} (h0 : d ≠ (0, 0, 0)) : IsF (triM o d a b c) (inT d (wb o a) (wb o b) (wb o c)) := by
 have ef := zgm (o := o) (a := a) (b := b) (c := c) h0
 have gd := zgK o d a b c
 have gn := zgK o (nrm (wb o a) (wb o b) (wb o c)) a b c
 unfold triM withinM
 unfold sideM at gd gn
 rw [zdO o a b, zdO o a c]
 generalize wb o a = A at *
 generalize wb o b = B at *
 generalize wb o c = C at *
 split
 · rename_i hf
   exact ef.congr λt h1 h2 => ⟨zft, zeo hf⟩
 · rename_i hf
   have hN : 0 < vdot (nrm A B C) (nrm A B C) := zaB hf
   split
   · rename_i hV
     split
     · rename_i hU
       have sn : vdot (nrm A B C) (vcross A B) + vdot (nrm A B C) (vcross B C) + vdot (nrm A B C) (vcross C A) = vdot (nrm A B C) (nrm A B C) := zcz (nrm A B C) A B C
       split
       · rename_i hg
         refine ⟨Int.le_refl _, by decide, ?_, λt h1 h2 _ => by unfold leQ; simp only; omega⟩
         obtain ⟨c, hs⟩ := zfk (d := d) (t := (0, 1)) hN hV hU (by decide)
         have e1 : aff (f1 d A B C) (0, 1) = vdot (nrm A B C) (vcross A B) := by unfold aff f1; simp only; omega
         have e2 : aff (f2 d A B C) (0, 1) = vdot (nrm A B C) (vcross B C) := by unfold aff f2; simp only; omega
         have e3 : aff (f3 d A B C) (0, 1) = vdot (nrm A B C) (vcross C A) := by unfold aff f3; simp only; omega
         rcases gn.mp hg with g | g
         · exact ⟨_, _, _, by omega, by omega, by omega, hs, c⟩
         · omega
       · rename_i hg
         refine ef.widen (λt => zft) λt h1 h2 h => zeY hN hV hU ?_ h1 h2 h
         refine Classical.byContradiction λq => hg (gn.mpr (.inl ?_))
         omega
     · rename_i hU
       intro t h1 h2 h
       obtain ⟨_, _, _, _, _, _, _, e, _⟩ := zd6 h2 h
       rw [hV] at e
       exact hU (cancel0 h2 (by omega))
   · rename_i hV
     have sn := zcz d A B C
     split
     · rename_i hVn
       have key : ∀ t : Int × Int, 0 ≤ t.1 → 0 < t.2 → inT d A B C t → t.1 * vdot d (vcross (vsub B A) (vsub C A)) = t.2 * vdot A (vcross (vsub B A) (vsub C A)) ∧ goesM o d a b c = true := λt h1 h2 h => by
         obtain ⟨u, v, w, u0, v0, w0, hs, e, e2, e3, e1⟩ := zd6 h2 h
         refine ⟨e, gd.mpr (.inr ⟨?_, ?_, ?_⟩)⟩
         · have := Int.mul_nonpos_of_nonneg_of_nonpos w0 (show vdot d (vcross (vsub B A) (vsub C A)) ≤ 0 by omega)
           exact Int.le_of_mul_le_mul_left (a := u + v + w) (by omega) hs
         · have := Int.mul_nonpos_of_nonneg_of_nonpos u0 (show vdot d (vcross (vsub B A) (vsub C A)) ≤ 0 by omega)
           exact Int.le_of_mul_le_mul_left (a := u + v + w) (by omega) hs
         · have := Int.mul_nonpos_of_nonneg_of_nonpos v0 (show vdot d (vcross (vsub B A) (vsub C A)) ≤ 0 by omega)
           exact Int.le_of_mul_le_mul_left (a := u + v + w) (by omega) hs
       split
       · rename_i hb
         intro t h1 h2 h
         obtain ⟨e, g⟩ := key t h1 h2 h
         rcases hb with q | q
         · have g1 := Int.mul_nonpos_of_nonneg_of_nonpos h1 (show vdot d (vcross (vsub B A) (vsub C A)) ≤ 0 by omega)
           have g2 := Int.mul_pos h2 (show 0 < vdot A (vcross (vsub B A) (vsub C A)) by omega)
           omega
         · rw [q] at g; cases g
       · rename_i hb
         have hg : goesM o d a b c = true := by
           rcases Bool.eq_false_or_eq_true (goesM o d a b c) with q | q
           · exact q
           · exact absurd (.inr q) hb
         refine IsF.red (m := some (_, _)) (zel _ _ _ _) ⟨Int.not_lt.mp λq => hb (.inl q), by simp only; omega, ?_, λt h1 h2 h => ?_⟩
         · rcases gd.mp hg with g | g
           · omega
           · exact zkB g.1 g.2.1 g.2.2 hVn
         · obtain ⟨e, _⟩ := key t h1 h2 h
           unfold leQ
           simp only
           rw [Int.mul_neg, Int.neg_mul]
           have := Int.mul_comm t.2 (vdot A (vcross (vsub B A) (vsub C A)))
           omega
     · rename_i hVn
       have hVp : 0 < vdot d (vcross (vsub B A) (vsub C A)) := by omega
       have key : ∀ t : Int × Int, 0 ≤ t.1 → 0 < t.2 → inT d A B C t → t.1 * vdot d (vcross (vsub B A) (vsub C A)) = t.2 * vdot A (vcross (vsub B A) (vsub C A)) ∧ goesM o d a b c = true := λt h1 h2 h => by
         obtain ⟨u, v, w, u0, v0, w0, hs, e, e2, e3, e1⟩ := zd6 h2 h
         refine ⟨e, gd.mpr (.inl ⟨?_, ?_, ?_⟩)⟩
         · exact zbt hs e1 (Int.mul_nonneg w0 (show 0 ≤ vdot d (vcross (vsub B A) (vsub C A)) by omega))
         · exact zbt hs e2 (Int.mul_nonneg u0 (show 0 ≤ vdot d (vcross (vsub B A) (vsub C A)) by omega))
         · exact zbt hs e3 (Int.mul_nonneg v0 (show 0 ≤ vdot d (vcross (vsub B A) (vsub C A)) by omega))
       split
       · rename_i hb
         intro t h1 h2 h
         obtain ⟨e, g⟩ := key t h1 h2 h
         rcases hb with q | q
         · have g1 := Int.mul_nonneg h1 (show 0 ≤ vdot d (vcross (vsub B A) (vsub C A)) by omega)
           have g2 := Int.mul_neg_of_pos_of_neg h2 q
           omega
         · rw [q] at g; cases g
       · rename_i hb
         have hg : goesM o d a b c = true := by
           rcases Bool.eq_false_or_eq_true (goesM o d a b c) with q | q
           · exact q
           · exact absurd (.inr q) hb
         refine IsF.red (m := some (_, _)) (zel _ _ _ _) ⟨Int.not_lt.mp λq => hb (.inl q), hVp, ?_, λt h1 h2 h => ?_⟩
         · rcases gd.mp hg with g | g
           · exact zmp g.1 g.2.1 g.2.2 hVp
           · omega
         · obtain ⟨e, _⟩ := key t h1 h2 h
           show vdot A (vcross (vsub B A) (vsub C A)) * t.2 ≤ t.1 * vdot d (vcross (vsub B A) (vsub C A))
           have := Int.mul_comm t.2 (vdot A (vcross (vsub B A) (vsub C A)))
           omega
theorem zdx (o d a b c : Pt) : isRed (triM o d a b c) := by
 unfold triM withinM
 intro r hr
 split at hr
 · exact zfP _ _ _ _ _ r hr
 · split at hr
   · split at hr
     · split at hr
       · cases hr; decide
       · exact zfP _ _ _ _ _ r hr
     · cases hr
   · split at hr
     · split at hr
       · cases hr
       · cases hr; exact zeh _ _
     · split at hr
       · cases hr
       · cases hr; exact zeh _ _
end MX.P
end
section
set_option autoImplicit false
namespace MX.P
end MX.P
end
section
set_option autoImplicit false
namespace MX.P
def atP (o d : Pt) (t : Int × Int) : Pt := (o.1 * t.2 + d.1 * t.1, o.2.1 * t.2 + d.2.1 * t.1, o.2.2 * t.2 + d.2.2 * t.1)
def onBox (x a b q : Int) : Prop := minZ a b * q ≤ x ∧ x ≤ maxZ a b * q
def gapP (P a : Pt) (q : Int) : Pt := (P.1 - a.1 * q, P.2.1 - a.2.1 * q, P.2.2 - a.2.2 * q)
def onS (P : Pt) (q : Int) (a b : Pt) : Prop := (onBox P.1 a.1 b.1 q ∧ onBox P.2.1 a.2.1 b.2.1 q ∧ onBox P.2.2 a.2.2 b.2.2 q) ∧ vcross (gapP P a q) (wb a b) = (0, 0, 0)
theorem zgf {u v p q o d a b : Int} (u0 : 0 ≤ u) (v0 : 0 ≤ v) (uv : 0 < u + v) (hq : 0 < q) (e : (u + v) * p * d = q * (u * (a - o) + v * (b - o) + 0 * (a - o))) : onBox (o * q + d * p) a b q := by
 unfold onBox
 have e1 : (u + v) * (o * q + d * p) = q * (u * a + v * b) := by grind
 have m1 : minZ a b ≤ a ∧ minZ a b ≤ b := by unfold minZ; split <;> omega
 have m2 : a ≤ maxZ a b ∧ b ≤ maxZ a b := by unfold maxZ; split <;> omega
 generalize minZ a b = m at *
 generalize maxZ a b = M at *
 have g1 := Int.mul_le_mul_of_nonneg_left m1.1 u0
 have g2 := Int.mul_le_mul_of_nonneg_left m1.2 v0
 have g3 := Int.mul_le_mul_of_nonneg_left m2.1 u0
 have g4 := Int.mul_le_mul_of_nonneg_left m2.2 v0
 have g5 := Int.mul_le_mul_of_nonneg_left (show u * m + v * m ≤ u * a + v * b by omega) (show 0 ≤ q by omega)
 have g6 := Int.mul_le_mul_of_nonneg_left (show u * a + v * b ≤ u * M + v * M by omega) (show 0 ≤ q by omega)
 constructor
 · refine Int.le_of_mul_le_mul_left (a := u + v) ?_ uv
   have : (u + v) * (m * q) = q * (u * m + v * m) := by grind
   omega
 · refine Int.le_of_mul_le_mul_left (a := u + v) ?_ uv
   have : (u + v) * (M * q) = q * (u * M + v * M) := by grind
   omega
theorem zix {u v p q o d a b : Int} (e : (u + v) * p * d = q * (u * (a - o) + v * (b - o) + 0 * (a - o))) : (u + v) * (o * q + d * p - a * q) = q * v * (b - a) := by grind
theorem zou {o d a b : Pt} {t : Int × Int} (hq : 0 < t.2) (h : inS d (wb o a) (wb o b) t) : onS (atP o d t) t.2 a b := by
 obtain ⟨u, v, u0, v0, uv, c1, c2, c3⟩ := h
 simp only [wb] at c1 c2 c3
 refine ⟨⟨zgf u0 v0 uv hq c1, zgf u0 v0 uv hq c2, zgf u0 v0 uv hq c3⟩, ?_⟩
 have e1 := zix c1
 have e2 := zix c2
 have e3 := zix c3
 simp only [atP, gapP, vcross, wb]
 have z : ∀ x y s r : Int, (u + v) * x = t.2 * v * s → (u + v) * y = t.2 * v * r → x * r - y * s = 0 := λx y s r h1 h2 => by
   refine cancel0 uv ?_
   have : (u + v) * (x * r - y * s) = (u + v) * x * r - (u + v) * y * s := by grind
   rw [this, h1, h2]; grind
 refine zcx ?_ ?_ ?_
 · exact z _ _ _ _ e2 e3
 · exact z _ _ _ _ e3 e1
 · exact z _ _ _ _ e1 e2
theorem zhZ {o d a b : Pt} {t : Int × Int} {x y : Int} (hq : 0 < t.2) (hy : y ≠ 0) (h0 : 0 ≤ x * y) (h1 : x * y ≤ t.2 * (y * y)) (e1 : y * (gapP (atP o d t) a t.2).1 = x * (wb a b).1) (e2 : y * (gapP (atP o d t) a t.2).2.1 = x * (wb a b).2.1) (e3 : y * (gapP (atP o d t) a t.2).2.2 = x * (wb a b).2.2) : inS d (wb o a) (wb o b) t := by
 have hyy : 0 < y * y := by
   have := zbs y
   have : y * y ≠ 0 := λe => by rcases Int.mul_eq_zero.mp e with e | e <;> exact hy e
   omega
 have hqy := Int.mul_pos hq hyy
 simp only [gapP, atP, wb] at e1 e2 e3
 have f : ∀ (o d a b : Int), y * (o * t.2 + d * t.1 - a * t.2) = x * (b - a) → (t.2 * (y * y) - x * y + x * y) * t.1 * d = t.2 * ((t.2 * (y * y) - x * y) * (a - o) + x * y * (b - o) + 0 * (a - o)) := λo d a b e => by
   have e' : y * (y * (o * t.2 + d * t.1 - a * t.2)) = y * (x * (b - a)) := by rw [e]
   grind
 exact ⟨t.2 * (y * y) - x * y, x * y, by omega, h0, by omega, f _ _ _ _ e1, f _ _ _ _ e2, f _ _ _ _ e3⟩
theorem zfw {x a b q : Int} (h : onBox x a b q) : 0 ≤ (x - a * q) * (b - a) ∧ (x - a * q) * (b - a) ≤ q * ((b - a) * (b - a)) := by
 obtain ⟨h1, h2⟩ := h
 by_cases hab : a ≤ b
 · have m1 : minZ a b = a := by unfold minZ; split <;> omega
   have m2 : maxZ a b = b := by unfold maxZ; split <;> omega
   rw [m1] at h1; rw [m2] at h2
   have g1 := Int.mul_nonneg (show 0 ≤ x - a * q by omega) (show 0 ≤ b - a by omega)
   have g2 := Int.mul_nonneg (show 0 ≤ b * q - x by omega) (show 0 ≤ b - a by omega)
   have : (b * q - x) * (b - a) = q * ((b - a) * (b - a)) - (x - a * q) * (b - a) := by grind
   omega
 · have m1 : minZ a b = b := by unfold minZ; split <;> omega
   have m2 : maxZ a b = a := by unfold maxZ; split <;> omega
   rw [m1] at h1; rw [m2] at h2
   have g1 := Int.mul_nonneg (show 0 ≤ a * q - x by omega) (show 0 ≤ a - b by omega)
   have g2 := Int.mul_nonneg (show 0 ≤ x - b * q by omega) (show 0 ≤ a - b by omega)
   have e1 : (a * q - x) * (a - b) = (x - a * q) * (b - a) := by grind
   have e2 : (x - b * q) * (a - b) = q * ((b - a) * (b - a)) - (x - a * q) * (b - a) := by grind
   omega
theorem zov {o d a b : Pt} {t : Int × Int} (hq : 0 < t.2) (h : onS (atP o d t) t.2 a b) : inS d (wb o a) (wb o b) t := by
 obtain ⟨⟨b1, b2, b3⟩, hc⟩ := h
 have p1 : (vcross (gapP (atP o d t) a t.2) (wb a b)).1 = 0 := by rw [hc]
 have p2 : (vcross (gapP (atP o d t) a t.2) (wb a b)).2.1 = 0 := by rw [hc]
 have p3 : (vcross (gapP (atP o d t) a t.2) (wb a b)).2.2 = 0 := by rw [hc]
 simp only [vcross] at p1 p2 p3
 by_cases h1 : (wb a b).1 = 0
 · by_cases h2 : (wb a b).2.1 = 0
   · by_cases h3 : (wb a b).2.2 = 0
     · -- one point
       simp only [wb] at h1 h2 h3
       have z : ∀ x a b : Int, b - a = 0 → onBox x a b t.2 → x = a * t.2 := λx a b e hb => by
         have : b = a := by omega
         subst this
         obtain ⟨k1, k2⟩ := hb
         have m1 : minZ b b = b := by unfold minZ; split <;> omega
         have m2 : maxZ b b = b := by unfold maxZ; split <;> omega
         rw [m1] at k1; rw [m2] at k2
         omega
       have z1 := z _ _ _ h1 b1
       have z2 := z _ _ _ h2 b2
       have z3 := z _ _ _ h3 b3
       simp only [atP] at z1 z2 z3
       refine ⟨1, 0, by omega, by omega, by omega, ?_, ?_, ?_⟩ <;> simp only [wb] <;> grind
     · obtain ⟨s1, s2⟩ := zfw b3
       exact zhZ (x := (gapP (atP o d t) a t.2).2.2) (y := (wb a b).2.2) hq h3 s1 s2 (by grind) (by grind) (by grind)
   · obtain ⟨s1, s2⟩ := zfw b2
     exact zhZ (x := (gapP (atP o d t) a t.2).2.1) (y := (wb a b).2.1) hq h2 s1 s2 (by grind) (by grind) (by grind)
 · obtain ⟨s1, s2⟩ := zfw b1
   exact zhZ (x := (gapP (atP o d t) a t.2).1) (y := (wb a b).1) hq h1 s1 s2 (by grind) (by grind) (by grind)
theorem zeZ {o d a b : Pt} {t : Int × Int} (hq : 0 < t.2) : onS (atP o d t) t.2 a b ↔ inS d (wb o a) (wb o b) t := ⟨zov hq, zou hq⟩
def timeN (a b : Int) : Int × Int := if b < 0 then (0 - a, 0 - b) else (a, b)
theorem zdl {a b : Int} (h : b ≠ 0) : 0 < (timeN a b).2 ∧ (timeN a b).1 * b = a * (timeN a b).2 := by
 unfold timeN
 split
 · exact ⟨by simp only; omega, by simp only; grind⟩
 · exact ⟨by simp only; omega, rfl⟩
def comeL (o d a : Pt) : List (Int × Int) := (if d.1 ≠ 0 then [timeN (a.1 - o.1) d.1] else []) ++ ((if d.2.1 ≠ 0 then [timeN (a.2.1 - o.2.1) d.2.1] else []) ++ (if d.2.2 ≠ 0 then [timeN (a.2.2 - o.2.2) d.2.2] else []))
def crs (a1 a2 d1 d2 e1 e2 : Int) : List (Int × Int) := if d1 * e2 - d2 * e1 ≠ 0 then [timeN (a1 * e2 - a2 * e1) (d1 * e2 - d2 * e1)] else []
def crossL (o d a b : Pt) : List (Int × Int) := crs (a.1 - o.1) (a.2.1 - o.2.1) d.1 d.2.1 (b.1 - a.1) (b.2.1 - a.2.1) ++ (crs (a.2.1 - o.2.1) (a.2.2 - o.2.2) d.2.1 d.2.2 (b.2.1 - a.2.1) (b.2.2 - a.2.2) ++ crs (a.2.2 - o.2.2) (a.1 - o.1) d.2.2 d.1 (b.2.2 - a.2.2) (b.1 - a.1))
def candS (o d a b : Pt) : List (Int × Int) := (0, 1) :: (comeL o d a ++ (comeL o d b ++ crossL o d a b))
theorem zcP {o d a : Pt} : ∀ t ∈ comeL o d a, 0 < t.2 := by
 intro t ht
 unfold comeL at ht
 simp only [List.mem_append] at ht
 rcases ht with ht | ht | ht <;> split at ht <;> simp only [List.mem_cons, List.mem_nil_iff, or_false] at ht <;> first | exact ht.elim | (subst ht; exact (zdl (by assumption)).1)
theorem zl2 {a1 a2 d1 d2 e1 e2 : Int} : ∀ t ∈ crs a1 a2 d1 d2 e1 e2, 0 < t.2 := by
 intro t ht
 unfold crs at ht
 split at ht <;> simp only [List.mem_cons, List.mem_nil_iff, or_false] at ht
 subst ht; exact (zdl (by assumption)).1
theorem zc3 {o d a b : Pt} : ∀ t ∈ crossL o d a b, 0 < t.2 := by
 intro t ht
 unfold crossL at ht
 simp only [List.mem_append] at ht
 rcases ht with ht | ht | ht <;> exact zl2 t ht
theorem ziQ {o d a b : Pt} : ∀ t ∈ candS o d a b, 0 < t.2 := by
 intro t ht
 unfold candS at ht
 simp only [List.mem_cons, List.mem_append] at ht
 rcases ht with ht | ht | ht | ht
 · subst ht; decide
 · exact zcP t ht
 · exact zcP t ht
 · exact zc3 t ht
def hasQ (l : List (Int × Int)) (r : Int × Int) : Prop := ∃ t ∈ l, t.1 * r.2 = r.1 * t.2
theorem zbd {l : List (Int × Int)} {a b : Int} {r : Int × Int} (hb : b ≠ 0) (hm : timeN a b ∈ l) (e : a * r.2 = r.1 * b) : hasQ l r := by
 obtain ⟨h1, h2⟩ := zdl (a := a) hb
 refine ⟨_, hm, ?_⟩
 have : b * ((timeN a b).1 * r.2) = b * (r.1 * (timeN a b).2) := by
   have e1 : b * ((timeN a b).1 * r.2) = ((timeN a b).1 * b) * r.2 := by grind
   have e2 : b * (r.1 * (timeN a b).2) = (r.1 * b) * (timeN a b).2 := by grind
   rw [e1, e2, h2, ← e]; grind
 exact Int.eq_of_mul_eq_mul_left hb this
theorem zgR {o d a : Pt} {r : Int × Int} (h0 : d ≠ (0, 0, 0)) (e1 : (a.1 - o.1) * r.2 = r.1 * d.1) (e2 : (a.2.1 - o.2.1) * r.2 = r.1 * d.2.1) (e3 : (a.2.2 - o.2.2) * r.2 = r.1 * d.2.2) : hasQ (comeL o d a) r := by
 by_cases q1 : d.1 = 0
 · by_cases q2 : d.2.1 = 0
   · have q3 : d.2.2 ≠ 0 := λq3 => h0 (zcx q1 q2 q3)
     exact zbd q3 (by unfold comeL; simp [q3]) e3
   · exact zbd q2 (by unfold comeL; simp [q2]) e2
 · exact zbd q1 (by unfold comeL; simp [q1]) e1
theorem zkV {o d a b : Pt} {r : Int × Int} (h0 : d ≠ (0, 0, 0)) (h : segM o d a b = some r) : hasQ (candS o d a b) r := by
 have sub1 : ∀ {r}, hasQ (comeL o d a) r → hasQ (candS o d a b) r := λ⟨t, h1, h2⟩ => ⟨t, by unfold candS; simp [h1], h2⟩
 have sub2 : ∀ {r}, hasQ (comeL o d b) r → hasQ (candS o d a b) r := λ⟨t, h1, h2⟩ => ⟨t, by unfold candS; simp [h1], h2⟩
 have sub3 : ∀ {r}, hasQ (crossL o d a b) r → hasQ (candS o d a b) r := λ⟨t, h1, h2⟩ => ⟨t, by unfold candS; simp [h1], h2⟩
 have hD := zaB h0
 unfold segM alongM at h
 split at h
 · rename_i hp
   split at h
   · rename_i hc
     have la := zfl hc
     have lb := zfl (d := d) (x := wb o b) (by rw [zdO o a b] at hp; exact ziO hp hc)
     generalize vdot d d = N at *
     generalize vdot (wb o a) d = x at *
     generalize vdot (wb o b) d = y at *
     split at h
     · cases h
     · cases h
       have hmn : maxZ (minZ x y) 0 = x ∨ maxZ (minZ x y) 0 = y ∨ maxZ (minZ x y) 0 = 0 := by
         unfold maxZ minZ
         split <;> split <;> omega
       rcases hmn with e | e | e <;> rw [e]
       · refine sub1 (zgR h0 ?_ ?_ ?_) <;> simp only [wb] at la <;> grind
       · refine sub2 (zgR h0 ?_ ?_ ?_) <;> simp only [wb] at lb <;> grind
       · exact ⟨(0, 1), by unfold candS; simp, by simp⟩
   · cases h
 · rename_i hp
   split at h
   · rename_i hz
     split at h
     · cases h
     · cases h
       have hN := zaB hp
       obtain ⟨l1, l2, l3⟩ := lag (wb o a) d (wb a b)
       rw [hz] at l1 l2 l3
       generalize vdot (vcross d (wb a b)) (vcross d (wb a b)) = N at *
       generalize vdot (vcross (wb o a) (wb a b)) (vcross d (wb a b)) = T at *
       generalize vdot (vcross (wb o a) d) (vcross d (wb a b)) = Sh at *
       simp only [wb] at l1 l2 l3
       refine sub3 ?_
       have crs_has : ∀ (a1 a2 d1 d2 e1 e2 n1 n2 : Int), d1 * e2 - d2 * e1 ≠ 0 → N * a1 = T * d1 - Sh * e1 + 0 * n1 → N * a2 = T * d2 - Sh * e2 + 0 * n2 → (a1 * e2 - a2 * e1) * N = T * (d1 * e2 - d2 * e1) := λa1 a2 d1 d2 e1 e2 n1 n2 _ h1 h2 => by
         have : (a1 * e2 - a2 * e1) * N = (N * a1) * e2 - (N * a2) * e1 := by grind
         rw [this, h1, h2]; grind
       by_cases q3 : d.1 * (b.2.1 - a.2.1) - d.2.1 * (b.1 - a.1) = 0
       · by_cases q1 : d.2.1 * (b.2.2 - a.2.2) - d.2.2 * (b.2.1 - a.2.1) = 0
         · have q2 : d.2.2 * (b.1 - a.1) - d.1 * (b.2.2 - a.2.2) ≠ 0 := λq2 => hp (by simp only [vcross, wb]; exact zcx q1 q2 q3)
           refine zbd q2 ?_ (crs_has _ _ _ _ _ _ _ _ q2 l3 l1)
           unfold crossL crs; simp [q2]
         · refine zbd q1 ?_ (crs_has _ _ _ _ _ _ _ _ q1 l2 l3)
           unfold crossL crs; simp [q1]
       · refine zbd q3 ?_ (crs_has _ _ _ _ _ _ _ _ q3 l1 l2)
         unfold crossL crs; simp [q3]
   · cases h
def stepF (p : Int × Int → Bool) (m : Tq) (t : Int × Int) : Tq := if 0 ≤ t.1 ∧ (∀ b, m = some b → lessQ t b) ∧ p t = true then some t else m
def firstF (p : Int × Int → Bool) (l : List (Int × Int)) : Tq := l.foldl (stepF p) none
theorem zep {p : Int × Int → Bool} : ∀ (l : List (Int × Int)) (m : Tq), (∀ t ∈ l, 0 < t.2) → (∀ b, m = some b → 0 < b.2) →
   (∀ r, l.foldl (stepF p) m = some r → (m = some r ∨ (r ∈ l ∧ 0 ≤ r.1 ∧ p r = true)) ∧ (∀ b, m = some b → leQ r b) ∧ ∀ t ∈ l, 0 ≤ t.1 → p t = true → leQ r t) ∧
   (l.foldl (stepF p) m = none → m = none ∧ ∀ t ∈ l, 0 ≤ t.1 → p t = true → False)
 | [], m, _, _ => ⟨λr h => ⟨.inl h, λb hb => by rw [show m = some r from h] at hb; cases hb; exact Int.le_refl _, λt ht => by cases ht⟩, λh => ⟨h, λt ht => by cases ht⟩⟩
 | t :: l, m, hl, hm => by
   have ht : 0 < t.2 := hl t (List.mem_cons_self ..)
   have hl' : ∀ t ∈ l, 0 < t.2 := λx hx => hl x (List.mem_cons_of_mem _ hx)
   rw [List.foldl_cons]
   by_cases hc : 0 ≤ t.1 ∧ (∀ b, m = some b → lessQ t b) ∧ p t = true
   · have es : stepF p m t = some t := by unfold stepF; rw [if_pos hc]
     rw [es]
     obtain ⟨i1, i2⟩ := zep (p := p) l (some t) hl' (λb hb => by cases hb; exact ht)
     refine ⟨λr hr => ?_, λhn => ?_⟩
     · obtain ⟨j1, j2, j3⟩ := i1 r hr
       have hrt := j2 t rfl
       have rpos : 0 < r.2 := by
         rcases j1 with j | ⟨j, _⟩
         · cases j; exact ht
         · exact hl' r j
       refine ⟨?_, λb hb => ?_, λx hx x0 xp => ?_⟩
       · rcases j1 with j | ⟨j, k1, k2⟩
         · cases j; exact .inr ⟨List.mem_cons_self .., hc.1, hc.2.2⟩
         · exact .inr ⟨List.mem_cons_of_mem _ j, k1, k2⟩
       · refine zdR rpos ht (hm b hb) hrt ?_
         have := hc.2.1 b hb
         unfold lessQ at this; unfold leQ; omega
       · rcases List.mem_cons.mp hx with e | e
         · subst e; exact hrt
         · exact j3 x e x0 xp
     · obtain ⟨j1, _⟩ := i2 hn
       cases j1
   · have es : stepF p m t = m := by unfold stepF; rw [if_neg hc]
     rw [es]
     obtain ⟨i1, i2⟩ := zep (p := p) l m hl' hm
     refine ⟨λr hr => ?_, λhn => ?_⟩
     · obtain ⟨j1, j2, j3⟩ := i1 r hr
       refine ⟨?_, j2, λx hx x0 xp => ?_⟩
       · rcases j1 with j | ⟨j, k⟩
         · exact .inl j
         · exact .inr ⟨List.mem_cons_of_mem _ j, k⟩
       · rcases List.mem_cons.mp hx with e | e
         · subst e
           have : ¬ ∀ b, m = some b → lessQ x b := λq => hc ⟨x0, q, xp⟩
           have hex : ∃ b, m = some b ∧ ¬ lessQ x b := Classical.byContradiction λq => this λb hb => Classical.byContradiction λq2 => q ⟨b, hb, q2⟩
           obtain ⟨b, hb, nb⟩ := hex
           have rpos : 0 < r.2 := by
             rcases j1 with j | ⟨j, _⟩
             · exact hm r j
             · exact hl' r j
           refine zdR rpos (hm b hb) ht (j2 b hb) ?_
           unfold lessQ at nb; unfold leQ; omega
         · exact j3 x e x0 xp
     · obtain ⟨j1, j2⟩ := i2 hn
       refine ⟨j1, λx hx x0 xp => ?_⟩
       rcases List.mem_cons.mp hx with e | e
       · subst e
         exact hc ⟨x0, (λb hb => by rw [j1] at hb; cases hb), xp⟩
       · exact j2 x e x0 xp
theorem ziz {p : Int × Int → Bool} {l : List (Int × Int)} {X : Int × Int → Prop} {m : Tq} (hl : ∀ t ∈ l, 0 < t.2) (hp : ∀ t ∈ l, 0 < t.2 → (p t = true ↔ X t)) (hi : Inv X) (hm : IsF m X) (hh : ∀ r, m = some r → hasQ l r) : IsF (firstF p l) X := by
 obtain ⟨i1, i2⟩ := zep (p := p) l none hl (λb hb => by cases hb)
 have cand : ∀ r, m = some r → ∃ t ∈ l, 0 ≤ t.1 ∧ 0 < t.2 ∧ p t = true ∧ leQ t r := λr hr => by
   subst hr
   obtain ⟨h1, h2, h3, _⟩ := hm
   obtain ⟨t, ht, e⟩ := hh r rfl
   have tp := hl t ht
   refine ⟨t, ht, ?_, tp, (hp t ht tp).mpr (hi r t h2 tp e.symm h3), by unfold leQ; omega⟩
   have : 0 ≤ t.1 * r.2 := by rw [e]; exact Int.mul_nonneg h1 (by omega)
   exact Int.le_of_mul_le_mul_right (a := r.2) (by omega) h2
 cases e : firstF p l with
 | none =>
   obtain ⟨_, i4⟩ := i2 e
   cases m with
   | none => exact hm
   | some r =>
     obtain ⟨t, ht, k1, k2, k3, _⟩ := cand r rfl
     exact (i4 t ht k1 k3).elim
 | some f =>
   obtain ⟨j1, _, j3⟩ := i1 f e
   rcases j1 with j | ⟨j, k1, k2⟩
   · cases j
   · have fp := hl f j
     have fX := (hp f j fp).mp k2
     refine ⟨k1, fp, fX, λt h1 h2 hX => ?_⟩
     cases m with
     | none => exact absurd hX (hm t h1 h2)
     | some r =>
       obtain ⟨c, hc, q1, q2, q3, q4⟩ := cand r rfl
       exact zdR fp hm.2.1 h2 (zdR fp q2 hm.2.1 (j3 c hc q1 q3) q4) (hm.2.2.2 t h1 h2 hX)
end MX.P
end
section
set_option autoImplicit false
namespace MX.P
def okK (R L g : Pt) (q W x y : Int) : Prop := 0 ≤ x ∧ 0 ≤ y ∧ x + y ≤ W * q ∧ x * R.1 + y * L.1 = g.1 * W ∧ x * R.2.1 + y * L.2.1 = g.2.1 * W ∧ x * R.2.2 + y * L.2.2 = g.2.2 * W
def signK (R L g : Pt) (q W x y : Int) : Prop := if W < 0 then okK R L g q (0 - W) (0 - x) (0 - y) else okK R L g q W x y
def inTriL (P : Pt) (q : Int) (a b c : Pt) : Prop :=
 if (vcross (wb a b) (wb a c)).2.2 ≠ 0 then signK (wb a b) (wb a c) (gapP P a q) q (vcross (wb a b) (wb a c)).2.2 (vcross (gapP P a q) (wb a c)).2.2 (vcross (wb a b) (gapP P a q)).2.2
 else if (vcross (wb a b) (wb a c)).1 ≠ 0 then signK (wb a b) (wb a c) (gapP P a q) q (vcross (wb a b) (wb a c)).1 (vcross (gapP P a q) (wb a c)).1 (vcross (wb a b) (gapP P a q)).1
 else if (vcross (wb a b) (wb a c)).2.1 ≠ 0 then signK (wb a b) (wb a c) (gapP P a q) q (vcross (wb a b) (wb a c)).2.1 (vcross (gapP P a q) (wb a c)).2.1 (vcross (wb a b) (gapP P a q)).2.1
 else onS P q a b ∨ onS P q b c ∨ onS P q c a
theorem znr {o d a b c : Pt} {t : Int × Int} {W x y : Int} (hq : 0 < t.2) (hW : 0 < W) (h : okK (wb a b) (wb a c) (gapP (atP o d t) a t.2) t.2 W x y) : inT d (wb o a) (wb o b) (wb o c) t := by
 obtain ⟨h1, h2, h3, e1, e2, e3⟩ := h
 have hp := Int.mul_pos hW hq
 simp only [wb, gapP, atP] at e1 e2 e3
 refine ⟨W * t.2 - x - y, x, y, by omega, h1, h2, by omega, ?_, ?_, ?_⟩ <;> simp only [wb] <;> grind
theorem zga {o d a b c : Pt} {t : Int × Int} {W x y : Int} (hq : 0 < t.2) (hW : W ≠ 0) (h : signK (wb a b) (wb a c) (gapP (atP o d t) a t.2) t.2 W x y) : inT d (wb o a) (wb o b) (wb o c) t := by
 unfold signK at h
 split at h
 · exact znr hq (by omega) h
 · exact znr hq (by omega) h
theorem znq {R L g : Pt} {q W x y s v w : Int} (hs : 0 < s) (hq : 0 < q) (v0 : 0 ≤ v) (w0 : 0 ≤ w) (vw : v + w ≤ s) (hW : 0 < W) (ex : s * x = q * v * W) (ey : s * y = q * w * W)
   (g1 : s * g.1 = q * (v * R.1 + w * L.1)) (g2 : s * g.2.1 = q * (v * R.2.1 + w * L.2.1)) (g3 : s * g.2.2 = q * (v * R.2.2 + w * L.2.2)) : okK R L g q W x y := by
 have p1 := Int.mul_nonneg (Int.mul_nonneg (show 0 ≤ q by omega) v0) (show 0 ≤ W by omega)
 have p2 := Int.mul_nonneg (Int.mul_nonneg (show 0 ≤ q by omega) w0) (show 0 ≤ W by omega)
 have p3 := Int.mul_nonneg (Int.mul_nonneg (show 0 ≤ q by omega) (show 0 ≤ s - v - w by omega)) (show 0 ≤ W by omega)
 have f : ∀ r l k : Int, s * k = q * (v * r + w * l) → x * r + y * l = k * W := λr l k e => by
   refine cancel hs ?_
   have e1 : s * (x * r + y * l) = (s * x) * r + (s * y) * l := by grind
   have e2 : s * (k * W) = (s * k) * W := by grind
   rw [e1, e2, ex, ey, e]; grind
 refine ⟨zbt hs ex p1, zbt hs ey p2, ?_, f _ _ _ g1, f _ _ _ g2, f _ _ _ g3⟩
 refine Int.le_of_mul_le_mul_left (a := s) ?_ hs
 have e1 : s * (x + y) = s * x + s * y := by grind
 have e2 : q * (s - v - w) * W = s * (W * q) - q * v * W - q * w * W := by grind
 rw [e1, ex, ey]; omega
theorem zf9 {R L g : Pt} {q W x y s v w : Int} (hs : 0 < s) (hq : 0 < q) (v0 : 0 ≤ v) (w0 : 0 ≤ w) (vw : v + w ≤ s) (hW : W ≠ 0) (ex : s * x = q * v * W) (ey : s * y = q * w * W)
   (g1 : s * g.1 = q * (v * R.1 + w * L.1)) (g2 : s * g.2.1 = q * (v * R.2.1 + w * L.2.1)) (g3 : s * g.2.2 = q * (v * R.2.2 + w * L.2.2)) : signK R L g q W x y := by
 unfold signK
 split
 · exact znq hs hq v0 w0 vw (by omega) (by grind) (by grind) g1 g2 g3
 · exact znq hs hq v0 w0 vw (by omega) ex ey g1 g2 g3
theorem gap3 {u v w p q o d a b c : Int} (e : (u + v + w) * p * d = q * (u * (a - o) + v * (b - o) + w * (c - o))) : (u + v + w) * (o * q + d * p - a * q) = q * (v * (b - a) + w * (c - a)) := by grind
theorem zhA {s q v w r1 r2 l1 l2 g1 g2 : Int} (e1 : s * g1 = q * (v * r1 + w * l1)) (e2 : s * g2 = q * (v * r2 + w * l2)) :
   s * (g1 * l2 - g2 * l1) = q * v * (r1 * l2 - r2 * l1) ∧ s * (r1 * g2 - r2 * g1) = q * w * (r1 * l2 - r2 * l1) := by
 constructor
 · have : s * (g1 * l2 - g2 * l1) = (s * g1) * l2 - (s * g2) * l1 := by grind
   rw [this, e1, e2]; grind
 · have : s * (r1 * g2 - r2 * g1) = (s * g2) * r1 - (s * g1) * r2 := by grind
   rw [this, e1, e2]; grind
theorem zis {o d a b c : Pt} {t : Int × Int} (hq : 0 < t.2) : inTriL (atP o d t) t.2 a b c ↔ inT d (wb o a) (wb o b) (wb o c) t := by
 unfold inTriL
 constructor
 · intro h
   split at h
   · exact zga hq (by assumption) h
   · split at h
     · exact zga hq (by assumption) h
     · split at h
       · exact zga hq (by assumption) h
       · rw [zeZ hq, zeZ hq, zeZ hq] at h
         exact zft h
 · intro h
   obtain ⟨u, v, w, u0, v0, w0, hs, c1, c2, c3⟩ := id h
   simp only [wb] at c1 c2 c3
   have g1 := gap3 c1
   have g2 := gap3 c2
   have g3 := gap3 c3
   have t12 := zhA g1 g2
   have t23 := zhA g2 g3
   have t31 := zhA g3 g1
   split
   · exact zf9 hs hq v0 w0 (by omega) (by assumption) t12.1 t12.2 g1 g2 g3
   · split
     · exact zf9 hs hq v0 w0 (by omega) (by assumption) t23.1 t23.2 g1 g2 g3
     · split
       · exact zf9 hs hq v0 w0 (by omega) (by assumption) t31.1 t31.2 g1 g2 g3
       · rename_i n1 n2 n3
         rw [zeZ hq, zeZ hq, zeZ hq]
         refine zeo ?_ h
         rw [← zdO, ← zdO]
         exact zcx (Decidable.not_not.mp n2) (Decidable.not_not.mp n3) (Decidable.not_not.mp n1)
def planeL (o d a b c : Pt) : List (Int × Int) := if vdot (vcross (wb a b) (wb a c)) d = 0 then [] else [timeN (vdot (vcross (wb a b) (wb a c)) (wb o a)) (vdot (vcross (wb a b) (wb a c)) d)]
def candT (o d a b c : Pt) : List (Int × Int) := [(0, 1)] ++ planeL o d a b c ++ comeL o d a ++ crossL o d a b ++ comeL o d b ++ crossL o d b c ++ comeL o d c ++ crossL o d c a
theorem zex {o d a b c : Pt} : ∀ t ∈ candT o d a b c, 0 < t.2 := by
 intro t ht
 unfold candT at ht
 simp only [List.mem_append] at ht
 rcases ht with ((((((ht | ht) | ht) | ht) | ht) | ht) | ht) | ht
 · simp only [List.mem_cons, List.mem_nil_iff, or_false] at ht
   subst ht; decide
 · unfold planeL at ht
   split at ht
   · cases ht
   · simp only [List.mem_cons, List.mem_nil_iff, or_false] at ht
     subst ht; exact (zdl (by assumption)).1
 · exact zcP t ht
 · exact zc3 t ht
 · exact zcP t ht
 · exact zc3 t ht
 · exact zcP t ht
 · exact zc3 t ht
theorem hasQ.mono {l l' : List (Int × Int)} {r : Int × Int} (h : hasQ l r) (s : ∀ t ∈ l, t ∈ l') : hasQ l' r := by
 obtain ⟨t, h1, h2⟩ := h
 exact ⟨t, s t h1, h2⟩
theorem hasQ.same {l : List (Int × Int)} {r s : Int × Int} (hl : ∀ t ∈ l, 0 < t.2) (hr : 0 < r.2) (hs : 0 < s.2) (e : r.1 * s.2 = s.1 * r.2) (h : hasQ l r) : hasQ l s := by
 obtain ⟨t, h1, h2⟩ := h
 refine ⟨t, h1, ?_⟩
 refine cancel hr ?_
 have e1 : r.2 * (t.1 * s.2) = (t.1 * r.2) * s.2 := by grind
 have e2 : r.2 * (s.1 * t.2) = (s.1 * r.2) * t.2 := by grind
 rw [e1, e2, h2, ← e]; grind
theorem ziy {m : Tq} {X Y : Int × Int → Prop} {r : Int × Int} (hm : IsF m Y) (hr0 : 0 ≤ r.1) (hr : 0 < r.2) (hX : ∀ t : Int × Int, 0 ≤ t.1 → 0 < t.2 → X t → leQ r t) (sub : ∀ t, Y t → X t) (hY : Y r) : ∃ s, m = some s ∧ 0 < s.2 ∧ s.1 * r.2 = r.1 * s.2 := by
 cases m with
 | none => exact absurd hY (hm r hr0 hr)
 | some s =>
   obtain ⟨s1, s2, s3, s4⟩ := hm
   have l1 := s4 r hr0 hr hY
   have l2 := hX s s1 s2 (sub s s3)
   unfold leQ at l1 l2
   exact ⟨s, rfl, s2, by omega⟩
theorem zkz {o d a b c : Pt} {m : Tq} {r : Int × Int} (h0 : d ≠ (0, 0, 0)) (hm : IsF m (inT d (wb o a) (wb o b) (wb o c))) (e : m = some r) : hasQ (candT o d a b c) r := by
 subst e
 obtain ⟨r0, r1, rT, rF⟩ := hm
 have edge : (inS d (wb o a) (wb o b) r ∨ inS d (wb o b) (wb o c) r ∨ inS d (wb o c) (wb o a) r) → hasQ (candT o d a b c) r := λh => by
   have one : ∀ x y : Pt, (∀ t, inS d (wb o x) (wb o y) t → inT d (wb o a) (wb o b) (wb o c) t) → (∀ t ∈ candS o d x y, t ∈ candT o d a b c) → inS d (wb o x) (wb o y) r → hasQ (candT o d a b c) r := λx y sub mem hx => by
     obtain ⟨s, e1, e2, e3⟩ := ziy (zdo (o := o) (a := x) (b := y) h0) r0 r1 rF sub hx
     exact ((zkV h0 e1).mono mem).same zex e2 r1 e3
   rcases h with h | h | h
   · refine one a b (λt h => zkj h) (λt ht => ?_) h
     unfold candS at ht
     unfold candT
     simp only [List.mem_cons, List.mem_append, List.mem_nil_iff, or_false] at ht ⊢
     rcases ht with q | q | q | q <;> simp [q]
   · refine one b c (λt h => zki h) (λt ht => ?_) h
     unfold candS at ht
     unfold candT
     simp only [List.mem_cons, List.mem_append, List.mem_nil_iff, or_false] at ht ⊢
     rcases ht with q | q | q | q <;> simp [q]
   · refine one c a (λt h => zkh h) (λt ht => ?_) h
     unfold candS at ht
     unfold candT
     simp only [List.mem_cons, List.mem_append, List.mem_nil_iff, or_false] at ht ⊢
     rcases ht with q | q | q | q <;> simp [q]
 have nought : inT d (wb o a) (wb o b) (wb o c) (0, 1) → hasQ (candT o d a b c) r := λh => by
   have l := rF (0, 1) (by decide) (by decide) h
   unfold leQ at l
   simp only [Int.mul_one, Int.zero_mul] at l
   exact ⟨(0, 1), by unfold candT; simp, by simp only [Int.zero_mul, Int.mul_one]; omega⟩
 obtain ⟨u, v, w, u0, v0, w0, hs, cc⟩ := id rT
 have en : nrm (wb o a) (wb o b) (wb o c) = vcross (wb a b) (wb a c) := by
   show vcross _ _ = _
   rw [← zdO, ← zdO]
 have dots := cc.dot (nrm (wb o a) (wb o b) (wb o c))
 have eB : vdot (wb o b) (nrm (wb o a) (wb o b) (wb o c)) = vdot (wb o a) (nrm (wb o a) (wb o b) (wb o c)) := by
   generalize wb o a = A; generalize wb o b = B; generalize wb o c = C
   simp only [nrm, vdot, vcross, vsub]; grind
 have eC : vdot (wb o c) (nrm (wb o a) (wb o b) (wb o c)) = vdot (wb o a) (nrm (wb o a) (wb o b) (wb o c)) := by
   generalize wb o a = A; generalize wb o b = B; generalize wb o c = C
   simp only [nrm, vdot, vcross, vsub]; grind
 rw [eB, eC] at dots
 have key : r.1 * vdot d (nrm (wb o a) (wb o b) (wb o c)) = r.2 * vdot (wb o a) (nrm (wb o a) (wb o b) (wb o c)) := by
   refine cancel hs ?_
   generalize vdot d (nrm (wb o a) (wb o b) (wb o c)) = V at *
   generalize vdot (wb o a) (nrm (wb o a) (wb o b) (wb o c)) = U at *
   grind
 have comm : ∀ x y : Pt, vdot x y = vdot y x := λx y => by simp only [vdot]; grind
 by_cases hV : vdot d (nrm (wb o a) (wb o b) (wb o c)) = 0
 · by_cases hN : 0 < vdot (nrm (wb o a) (wb o b) (wb o c)) (nrm (wb o a) (wb o b) (wb o c))
   · have hU : vdot (wb o a) (nrm (wb o a) (wb o b) (wb o c)) = 0 := by
       rw [hV, Int.mul_zero] at key
       exact cancel0 r1 key
     by_cases hout : vdot (nrm (wb o a) (wb o b) (wb o c)) (vcross (wb o a) (wb o b)) < 0 ∨ vdot (nrm (wb o a) (wb o b) (wb o c)) (vcross (wb o b) (wb o c)) < 0 ∨ vdot (nrm (wb o a) (wb o b) (wb o c)) (vcross (wb o c) (wb o a)) < 0
     · obtain ⟨s, s0, s1, s2, s3⟩ := zeY hN hV hU hout r0 r1 rT
       have l := rF s s0 s1 (zft s2)
       have e : s.1 * r.2 = r.1 * s.2 := by unfold leQ at l s3; omega
       refine edge ?_
       rcases s2 with q | q | q
       · exact .inl (zdI _ _ _ s r s1 r1 e q)
       · exact .inr (.inl (zdI _ _ _ s r s1 r1 e q))
       · exact .inr (.inr (zdI _ _ _ s r s1 r1 e q))
     · refine nought ?_
       obtain ⟨⟨c1, c2, c3⟩, hs⟩ := zfk (t := (0, 1)) hN hV hU (by decide)
       have a1 : ∀ f : Int × Int, aff f (0, 1) = f.1 := λf => by simp only [aff]; omega
       rw [a1, a1, a1] at c1 c2 c3 hs
       have n1 : 0 ≤ (f1 d (wb o a) (wb o b) (wb o c)).1 := by simp only [f1]; omega
       have n2 : 0 ≤ (f2 d (wb o a) (wb o b) (wb o c)).1 := by simp only [f2]; omega
       have n3 : 0 ≤ (f3 d (wb o a) (wb o b) (wb o c)).1 := by simp only [f3]; omega
       generalize (f1 d (wb o a) (wb o b) (wb o c)).1 = x1 at *
       generalize (f2 d (wb o a) (wb o b) (wb o c)).1 = x2 at *
       generalize (f3 d (wb o a) (wb o b) (wb o c)).1 = x3 at *
       refine ⟨x2, x3, x1, n2, n3, n1, by omega, ?_, ?_, ?_⟩ <;> grind
   · refine edge (zeo ?_ rT)
     have z : ∀ n : Pt, ¬ 0 < vdot n n → n = (0, 0, 0) := λn hn => by
       have s1 := zbs n.1
       have s2 := zbs n.2.1
       have s3 := zbs n.2.2
       simp only [vdot] at hn
       have q : ∀ x : Int, x * x = 0 → x = 0 := λx h => by rcases Int.mul_eq_zero.mp h with h | h <;> exact h
       exact zcx (q _ (by omega)) (q _ (by omega)) (q _ (by omega))
     exact z _ hN
 · have hV' : ¬ vdot (vcross (wb a b) (wb a c)) d = 0 := by rw [← en, comm]; exact hV
   refine (zbd (l := planeL o d a b c) (a := vdot (vcross (wb a b) (wb a c)) (wb o a)) (b := vdot (vcross (wb a b) (wb a c)) d) hV' (by unfold planeL; rw [if_neg hV']; exact List.mem_cons_self) ?_).mono λt ht => by unfold candT; simp [ht]
   rw [← en, comm _ d, comm _ (wb o a)]
   rw [key, Int.mul_comm]
theorem zgJ {d A B C : Pt} {t : Int × Int} (h : inT d A B C t) : inT d C B A t := by
 obtain ⟨u, v, w, h1, h2, h3, h4, c1, c2, c3⟩ := h
 refine ⟨w, v, u, h3, h2, h1, by omega, ?_, ?_, ?_⟩ <;> grind
theorem zkx {o d a b c : Pt} (h0 : d ≠ (0, 0, 0)) : triM o d b c a = triM o d a b c :=
 (zbK h0).uniq ((zbK h0).congr λt _ _ => ⟨zdH, λh => zdH (zdH h)⟩) (zdx _ _ _ _ _) (zdx _ _ _ _ _)
theorem zi2 {o d a b c : Pt} (h0 : d ≠ (0, 0, 0)) : triM o d c b a = triM o d a b c :=
 (zbK h0).uniq ((zbK h0).congr λt _ _ => ⟨zgJ, zgJ⟩) (zdx _ _ _ _ _) (zdx _ _ _ _ _)
theorem zkA {o d a b c : Pt} {p : Int × Int → Bool} (h0 : d ≠ (0, 0, 0)) (hp : ∀ t, 0 < t.2 → (p t = true ↔ inTriL (atP o d t) t.2 a b c)) : redT (firstF p (candT o d a b c)) = redT (triM o d a b c) := by
 have h := ziz (p := p) (l := candT o d a b c) (m := triM o d a b c) zex (λt _ ht => (hp t ht).trans (zis ht)) (zel d (wb o a) (wb o b) (wb o c)) (zbK h0) (λr hr => zkz h0 (zbK h0) hr)
 exact (h.red (zel _ _ _ _)).uniq ((zbK h0).red (zel _ _ _ _)) (zdp _) (zdp _)
end MX.P
end
section
set_option autoImplicit false
local macro_rules | `(tactic| wtm_at "mx call") => `(tactic| first | (with_reducible exact MX.P.sp_pt _ _ _) | (with_reducible exact MX.P.sp_drawn _ _ _) | ((with_reducible apply MX.P.sp_near); (focus assumption); (focus assumption); (focus decide); (focus decide)))
namespace MX.P
open PySem L2 MX
end MX.P
end
section
set_option autoImplicit false
local macro_rules | `(tactic| wtm_at "mx call") => `(tactic| first | (with_reducible assumption))
namespace MX.P
open PySem L2 MX
end MX.P
end
section
set_option autoImplicit false
local macro_rules | `(tactic| wtm_at "mx call") => `(tactic| first | (with_reducible assumption))
namespace MX.P
open PySem L2 MX
theorem zj1 {k : Nat} {o d a b c : Pt} (ho : BdP k o) (hd : BdP k d) (ha : BdP k a) (hb : BdP k b) (hc : BdP k c) (h0 : d ≠ (0, 0, 0)) : tqB (4 * k + 10) (edgesM o d a b c) :=
 zej (zej (zej (λp hp => by cases hp) (zdB (zdA ho hd ha hb h0))) (zdB (zdA ho hd hb hc h0))) (zdB (zdA ho hd hc ha h0))
theorem zmo {k : Nat} {o d a b c : Pt} (ho : BdP k o) (hd : BdP k d) (ha : BdP k a) (hb : BdP k b) (hc : BdP k c) (h0 : d ≠ (0, 0, 0)) : tqB (4 * k + 10) (triM o d a b c) := by
 have eb := zj1 ho hd ha hb hc h0
 have w1 := (ha.wb hb).le (show max k k + 1 ≤ k + 1 by omega)
 have w2 := (ha.wb hc).le (show max k k + 1 ≤ k + 1 by omega)
 have w3 := (ho.wb ha).le (show max k k + 1 ≤ k + 1 by omega)
 have wu := w1.cross w2
 have bU := (w3.dot wu).le (show k + 1 + (k + 1 + (k + 1) + 1) + 2 ≤ 4 * k + 10 by omega)
 have bV := (hd.dot wu).le (show k + (k + 1 + (k + 1) + 1) + 2 ≤ 4 * k + 10 by omega)
 unfold triM withinM
 intro p hp
 split at hp
 · exact eb p hp
 · split at hp
   · split at hp
     · split at hp
       · cases hp
         exact ⟨by decide, by decide, (Bd.lit 0).le (Nat.zero_le _), (Bd.lit 1).le (show 1 ≤ 4 * k + 10 by omega)⟩
       · exact eb p hp
     · cases hp
   · rename_i hV
     split at hp
     · rename_i hn
       split at hp
       · cases hp
       · rename_i hb
         cases hp
         obtain ⟨b1, b2⟩ := zgc bU.neg bV.neg (by omega)
         exact ⟨zcA (Int.not_lt.mp λq => hb (.inl q)) (by omega), zbU _ _, b1, b2⟩
     · rename_i hn
       split at hp
       · cases hp
       · rename_i hb
         cases hp
         obtain ⟨b1, b2⟩ := zgc bU bV (by omega)
         exact ⟨zcA (Int.not_lt.mp λq => hb (.inl q)) (by omega), zbU _ _, b1, b2⟩
end MX.P
end
section
set_option autoImplicit false
local macro_rules | `(tactic| wtm_at "mx call") => `(tactic| first | (with_reducible assumption))
namespace MX.P
open PySem L2 MX
theorem zn8 {k l : Nat} {o d : Pt} {t1 t2 : Int} (ho : BdP k o) (hd : BdP k d) (h1 : Bd l t1) (h2 : Bd l t2) (hk : k + l ≤ 134217000) (S : So) : zds [.tup [pD o, pD d], R2 t1 t2] S = some (pD (atP o d (t1, t2)), S) := by
 obtain ⟨o1, o2, o3⟩ := ho
 obtain ⟨d1, d2, d3⟩ := hd
 apply zad
 · wtm_at "mx st"
   unfold zeG
   wtm_at "mx ev"
 · wtm_at "mx take"
 · rfl
theorem sp_lway (a b : Pt) (S : So) : zbh [pD a, pD b] S = some (pD (wb a b), S) := by
 apply zad
 · wtm_at "mx st"
   unfold zdN
   wtm_at "mx ev"
 · wtm_at "mx take"
 · rfl
theorem sp_time (a b : Int) (S : So) : zaP [.int a, .int b] S = some (rD (timeN a b), S) := by
 unfold timeN
 by_cases h : b < 0
 · rw [if_pos h]
   apply zad
   · wtm_at "mx st"
     unfold zcD
     wtm_at "mx ev"
   · wtm_at "mx take"
   · rfl
 · rw [if_neg h]
   apply zad
   · wtm_at "mx st"
     unfold zcD
     wtm_at "mx ev"
   · wtm_at "mx take"
   · rfl
theorem zc1 {k l : Nat} {n : Nat} {gs ss : List D} {i j x y u v : Int} {S : So} (hn : S[n]? = some (.lst gs)) (e1 : atI gs i = some (.int x)) (e2 : atI gs j = some (.int y)) (e3 : atI ss i = some (.int u)) (e4 : atI ss j = some (.int v)) (bx : Bd k x) (by' : Bd k y) (bu : Bd l u) (bv : Bd l v) (hk : k + l ≤ 134217000) :
   zar [.ref n, .tup ss, .int i, .int j] S = some (.int (x * v - y * u), S) := by
 apply zad
 · wtm_at "mx st"
   unfold zbS
   wtm_at "mx ev"
 · wtm_at "mx take"
 · rfl
theorem zge {k : Nat} {P a b : Pt} {q : Int} (hP : BdP k P) (ha : BdP k a) (hb : BdP k b) (hq : Bd k q) (hk : k ≤ 10000) (j : Int) (h0 : 0 ≤ j) (h2 : j ≤ 2) (x5 x6 : Option D) (S : So) :
   ∃ G, zcW [some (pD P), some (.int q), some (pD a), some (pD b), some (.int j), x5, x6] S = some ((if minZ (co j a) (co j b) * q ≤ co j P ∧ co j P ≤ maxZ (co j a) (co j b) * q then .nx else .rt (.bl false)), [some (pD P), some (.int q), some (pD a), some (pD b), some (.int j), x5, x6], S ++ G) := by
 have a1 := zaW h0 h2 P
 have a2 := zaW h0 h2 a
 have a3 := zaW h0 h2 b
 have c1 := zdi hP j
 have c2 := zdi ha j
 have c3 := zdi hb j
 generalize co j P = x at *
 generalize co j a = y at *
 generalize co j b = z at *
 have bmi : Bd k (minZ y z) := by unfold minZ; split <;> assumption
 have bma : Bd k (maxZ y z) := by unfold maxZ; split <;> assumption
 have emi : ∀ S : So, eN gMin' (aCons (eN gLst (aCons (eB gIx (eVar 2) (eVar 4)) (aCons (eB gIx (eVar 3) (eVar 4)) (aNil)))) (aNil)) [some (pD P), some (.int q), some (pD a), some (pD b), some (.int j), x5, x6] S = some (.int (minZ y z), S ++ [.lst [.int y, .int z]]) := λS => by
   unfold minZ
   wtm_at "mx ev"
 have ema : ∀ S : So, eN gMax' (aCons (eN gLst (aCons (eB gIx (eVar 2) (eVar 4)) (aCons (eB gIx (eVar 3) (eVar 4)) (aNil)))) (aNil)) [some (pD P), some (.int q), some (pD a), some (pD b), some (.int j), x5, x6] S = some (.int (maxZ y z), S ++ [.lst [.int y, .int z]]) := λS => by
   unfold maxZ
   wtm_at "mx ev"
 have t1 : tBl (eB (gCmp .Lt) (eB gIx (eVar 0) (eVar 4)) (eB (gBin .Mult) (eN gMin' (aCons (eN gLst (aCons (eB gIx (eVar 2) (eVar 4)) (aCons (eB gIx (eVar 3) (eVar 4)) (aNil)))) (aNil))) (eVar 1))) [some (pD P), some (.int q), some (pD a), some (pD b), some (.int j), x5, x6] S = some (decide (x < minZ y z * q), S ++ [.lst [.int y, .int z]]) :=
   zaY (zav (zav (zaa rfl) (zaa rfl) (zbY a1)) (zav (emi S) (zaa rfl) (zdt (zbk bmi hq (by omega)))) znL)
 have t2 : tBl (eB (gCmp .Gt) (eB gIx (eVar 0) (eVar 4)) (eB (gBin .Mult) (eN gMax' (aCons (eN gLst (aCons (eB gIx (eVar 2) (eVar 4)) (aCons (eB gIx (eVar 3) (eVar 4)) (aNil)))) (aNil))) (eVar 1))) [some (pD P), some (.int q), some (pD a), some (pD b), some (.int j), x5, x6] (S ++ [.lst [.int y, .int z]]) = some (decide (x > maxZ y z * q), S ++ [.lst [.int y, .int z]] ++ [.lst [.int y, .int z]]) :=
   zaY (zav (zav (zaa rfl) (zaa rfl) (zbY a1)) (zav (ema _) (zaa rfl) (zdt (zbk bma hq (by omega)))) znO)
 unfold zcW zdc
 by_cases p1 : x < minZ y z * q
 · rw [if_neg (by omega)]
   refine ⟨[.lst [.int y, .int z]], zac (zaD (zbA t1 (zaF (zcn p1) rfl)) (zaF rfl ?_)) zao⟩
   wtm_at "mx ev"
 · by_cases p2 : x > maxZ y z * q
   · rw [if_neg (by omega)]
     refine ⟨[.lst [.int y, .int z]] ++ [.lst [.int y, .int z]], ?_⟩
     rw [← List.append_assoc]
     refine zac (zaD (zbA t1 (zaz (za3 p1) t2)) (zaF (zcn p2) ?_)) zao
     wtm_at "mx ev"
   · rw [if_pos (by omega)]
     refine ⟨[.lst [.int y, .int z]] ++ [.lst [.int y, .int z]], ?_⟩
     rw [← List.append_assoc]
     refine zac (zaD (zbA t1 (zaz (za3 p1) t2)) (zaz (za3 p2) ?_)) (zaf zak)
     wtm_at "mx ev"
end MX.P
end
section
set_option autoImplicit false
local macro_rules | `(tactic| wtm_at "mx call") => `(tactic| first | (with_reducible assumption))
namespace MX.P
open PySem L2 MX
instance (P : Pt) (q : Int) (a b : Pt) : Decidable (onS P q a b) := by unfold onS onBox; infer_instance
theorem zkl {k l : Nat} {P a : Pt} {q : Int} (hP : BdP k P) (ha : BdP l a) (hq : Bd l q) (hk : 2 * l ≤ k) : BdP (k + 1) (gapP P a q) := by
 obtain ⟨p1, p2, p3⟩ := hP
 obtain ⟨a1, a2, a3⟩ := ha
 exact ⟨(p1.sub (a1.mul hq)).le (by omega), (p2.sub (a2.mul hq)).le (by omega), (p3.sub (a3.mul hq)).le (by omega)⟩
theorem zkM {k : Nat} {P a b : Pt} {q : Int} (hP : BdP k P) (ha : BdP k a) (hb : BdP k b) (hq : Bd k q) (hk : k ≤ 3000) (S : So) :
   zcO [pD P, .int q, pD a, pD b] S = some (.bl (decide (onS P q a b)), S) := by
 have it : ∀ (S : So) (y : Option D), iRg1 (aCons (eC (.int 3)) (aNil)) [some (pD P), some (.int q), some (pD a), some (pD b), y, none, none] S = some (.fix (rangeD 0 3), S) := λS y => rfl
 have sets : ∀ (S : So) (i : Int) (y : Option D), gNm 4 (.int i) [some (pD P), some (.int q), some (pD a), some (pD b), y, none, none] S = some ([some (pD P), some (.int q), some (pD a), some (pD b), some (.int i), none, none], S) := λS i y => rfl
 obtain ⟨G0, q0⟩ := zge hP ha hb hq (by omega) 0 (by decide) (by decide) none none S
 obtain ⟨G1, q1⟩ := zge hP ha hb hq (by omega) 1 (by decide) (by decide) none none (S ++ G0)
 obtain ⟨G2, q2⟩ := zge hP ha hb hq (by omega) 2 (by decide) (by decide) none none (S ++ G0 ++ G1)
 have n0 : ∀ S : So, nxD (.fix (rangeD 0 3)) 0 S = some (some (.int 0)) := λ_ => rfl
 have n1 : ∀ S : So, nxD (.fix (rangeD 0 3)) (0 + 1) S = some (some (.int 1)) := λ_ => rfl
 have n2 : ∀ S : So, nxD (.fix (rangeD 0 3)) (0 + 1 + 1) S = some (some (.int 2)) := λ_ => rfl
 have n3 : ∀ S : So, nxD (.fix (rangeD 0 3)) (0 + 1 + 1 + 1) S = some none := λ_ => rfl
 by_cases h0 : onBox P.1 a.1 b.1 q
 · rw [if_pos (show minZ (co 0 a) (co 0 b) * q ≤ co 0 P ∧ co 0 P ≤ maxZ (co 0 a) (co 0 b) * q from h0)] at q0
   by_cases h1 : onBox P.2.1 a.2.1 b.2.1 q
   · rw [if_pos (show minZ (co 1 a) (co 1 b) * q ≤ co 1 P ∧ co 1 P ≤ maxZ (co 1 a) (co 1 b) * q from h1)] at q1
     by_cases h2 : onBox P.2.2 a.2.2 b.2.2 q
     · rw [if_pos (show minZ (co 2 a) (co 2 b) * q ≤ co 2 P ∧ co 2 P ≤ maxZ (co 2 a) (co 2 b) * q from h2)] at q2
       have hd : decide (onS P q a b) = decide (vcross (gapP P a q) (wb a b) = (0, 0, 0)) := by
         rw [Bool.eq_iff_iff, decide_eq_true_eq, decide_eq_true_eq]
         exact ⟨λh => h.2, λh => ⟨⟨h0, h1, h2⟩, h⟩⟩
       rw [hd]
       have hg := zkl (hP.le (show k ≤ 2 * k by omega)) ha hq (Nat.le_refl _)
       have hw := ha.wb hb
       obtain ⟨g1, g2, g3⟩ := hg
       obtain ⟨w1, w2, w3⟩ := hw
       generalize hS3 : S ++ G0 ++ G1 ++ G2 = S3 at *
       obtain ⟨p1, p2, p3⟩ := hP
       obtain ⟨a1, a2, a3⟩ := ha
       have gl : eLc (iRg1 (aCons (eC (.int 3)) (aNil))) (gNm 0) (tTru) (eB (gBin .Sub) (eB gIx (eVar 2) (eVar 0)) (eB (gBin .Mult) (eB gIx (eVar 1) (eVar 0)) (eVar 3))) [none, some 2, some 0, some 1]
           [some (pD P), some (.int q), some (pD a), some (pD b), some (.int 2), none, none] S3 = some (.ref S3.length, S3 ++ [.lst [.int (gapP P a q).1, .int (gapP P a q).2.1, .int (gapP P a q).2.2]]) := by
         unfold gapP
         wtm_at "mx ev"
       have hn : (S3 ++ [O.lst [.int (gapP P a q).1, .int (gapP P a q).2.1, .int (gapP P a q).2.2]])[S3.length]? = some (.lst [.int (gapP P a q).1, .int (gapP P a q).2.1, .int (gapP P a q).2.2]) := zaT
       generalize hS4 : S3 ++ [O.lst [.int (gapP P a q).1, .int (gapP P a q).2.1, .int (gapP P a q).2.2]] = S4 at *
       have sway := sp_lway a b S4
       have f0 := zc1 (i := 0) (j := 1) (ss := [.int (wb a b).1, .int (wb a b).2.1, .int (wb a b).2.2]) hn rfl rfl rfl rfl g1 g2 w1 w2 (by omega)
       have f1 := zc1 (i := 1) (j := 2) (ss := [.int (wb a b).1, .int (wb a b).2.1, .int (wb a b).2.2]) hn rfl rfl rfl rfl g2 g3 w2 w3 (by omega)
       have f2 := zc1 (i := 2) (j := 0) (ss := [.int (wb a b).1, .int (wb a b).2.1, .int (wb a b).2.2]) hn rfl rfl rfl rfl g3 g1 w3 w1 (by omega)
       have al : eLc (iRg1 (aCons (eC (.int 3)) (aNil))) (gNm 0) (tTru) (eB (gCmp .Eq) (eN (nArgs 4 zar) (aCons (eVar 1) (aCons (eVar 2) (aCons (eVar 0) (aCons (eB (gBin .Mod) (eB (gBin .Add) (eVar 0) (eC (.int 1))) (eC (.int 3))) (aNil)))))) (eC (.int 0))) [none, some 5, some 6]
           [some (pD P), some (.int q), some (pD a), some (pD b), some (.int 2), some (.ref S3.length), some (pD (wb a b))] S4
           = some (.ref S4.length, S4 ++ [.lst ([decide ((vcross (gapP P a q) (wb a b)).2.2 = 0), decide ((vcross (gapP P a q) (wb a b)).1 = 0), decide ((vcross (gapP P a q) (wb a b)).2.1 = 0)].map .bl)]) := by
         have one : ∀ (j i : Int) (x : Int), (∀ S : So, eB (gBin .Mod) (eB (gBin .Add) (eVar 0) (eC (.int 1))) (eC (.int 3)) [some (.int j), some (.ref S3.length), some (pD (wb a b))] S = some (.int i, S)) → zar [.ref S3.length, pD (wb a b), .int j, .int i] S4 = some (.int x, S4) →
             eB (gCmp .Eq) (eN (nArgs 4 zar) (aCons (eVar 1) (aCons (eVar 2) (aCons (eVar 0) (aCons (eB (gBin .Mod) (eB (gBin .Add) (eVar 0) (eC (.int 1))) (eC (.int 3))) (aNil)))))) (eC (.int 0)) [some (.int j), some (.ref S3.length), some (pD (wb a b))] S4 = some (.bl (decide (x = 0)), S4) := λj i x hm hf =>
           zav (zaH (zab (zaa rfl) (zab (zaa rfl) (zab (zaa rfl) (zab (hm _) zal)))) (zai rfl hf)) zaX znR
         refine zhr (j := .fix (rangeD 0 3)) (n := 3) (S1 := S4) rfl rfl (Nat.le_of_ble_eq_true rfl) rfl ?_
         refine zc7 (d := .int 0) rfl rfl zb7 (one 0 1 _ (λ_ => rfl) f0) rfl ?_
         refine zc7 (d := .int 1) rfl rfl zb7 (one 1 2 _ (λ_ => rfl) f1) rfl ?_
         refine zc7 (d := .int 2) rfl rfl zb7 (one 2 0 _ (λ_ => rfl) f2) rfl ?_
         exact zgN rfl
       have eb : decide (vcross (gapP P a q) (wb a b) = (0, 0, 0)) = [decide ((vcross (gapP P a q) (wb a b)).2.2 = 0), decide ((vcross (gapP P a q) (wb a b)).1 = 0), decide ((vcross (gapP P a q) (wb a b)).2.1 = 0)].all id := by
         generalize vcross (gapP P a q) (wb a b) = c
         rw [Bool.eq_iff_iff]
         simp only [List.all_cons, List.all_nil, id, Bool.and_true, Bool.and_eq_true, decide_eq_true_eq]
         exact ⟨λh => by rw [h]; exact ⟨rfl, rfl, rfl⟩, λ⟨x, y, z⟩ => zcx y z x⟩
       rw [eb]
       refine zad (σ' := [some (pD P), some (.int q), some (pD a), some (pD b), some (.int 2), some (.ref S3.length), some (pD (wb a b))]) (S' := S4 ++ [.lst ([decide ((vcross (gapP P a q) (wb a b)).2.2 = 0), decide ((vcross (gapP P a q) (wb a b)).1 = 0), decide ((vcross (gapP P a q) (wb a b)).2.1 = 0)].map .bl)]) ?_ (by rw [← hS4, ← hS3]; simp) rfl
       wtm_at "mx st"
       unfold zcw zbR zeE zeD zeC
       refine zac (zbO (it _ _) rfl (zas (n0 _) (sets _ _ _) q0 (zaA (zas (n1 _) (sets _ _ _) q1 (zaA (zas (n2 _) (sets _ _ _) q2 (zaA (zdh (n3 _))))))))) (zaf ?_)
       refine zac (zaj gl rfl) (zaf ?_)
       refine zac (zaj (zaH (zab (zaa rfl) (zab (zaa rfl) zal)) (zai rfl sway)) rfl) (zaf ?_)
       exact zac (zaG (zaH (zab al zal) (ziI zaT rfl))) zao
     · rw [if_neg (show ¬ (minZ (co 2 a) (co 2 b) * q ≤ co 2 P ∧ co 2 P ≤ maxZ (co 2 a) (co 2 b) * q) from h2)] at q2
       rw [za3 (show ¬ onS P q a b from λh => h2 h.1.2.2)]
       refine zad (σ' := [some (pD P), some (.int q), some (pD a), some (pD b), some (.int 2), none, none]) (S' := S ++ G0 ++ G1 ++ G2) ?_ (by simp) rfl
       wtm_at "mx st"
       unfold zcw zbR
       exact zac (zbO (it _ _) rfl (zas (n0 _) (sets _ _ _) q0 (zaA (zas (n1 _) (sets _ _ _) q1 (zaA (zas (n2 _) (sets _ _ _) q2 zdd)))))) zao
   · rw [if_neg (show ¬ (minZ (co 1 a) (co 1 b) * q ≤ co 1 P ∧ co 1 P ≤ maxZ (co 1 a) (co 1 b) * q) from h1)] at q1
     rw [za3 (show ¬ onS P q a b from λh => h1 h.1.2.1)]
     refine zad (σ' := [some (pD P), some (.int q), some (pD a), some (pD b), some (.int 1), none, none]) (S' := S ++ G0 ++ G1) ?_ (by simp) rfl
     wtm_at "mx st"
     unfold zcw zbR
     exact zac (zbO (it _ _) rfl (zas (n0 _) (sets _ _ _) q0 (zaA (zas (n1 _) (sets _ _ _) q1 zdd)))) zao
 · rw [if_neg (show ¬ (minZ (co 0 a) (co 0 b) * q ≤ co 0 P ∧ co 0 P ≤ maxZ (co 0 a) (co 0 b) * q) from h0)] at q0
   rw [za3 (show ¬ onS P q a b from λh => h0 h.1.1)]
   refine zad (σ' := [some (pD P), some (.int q), some (pD a), some (pD b), some (.int 0), none, none]) (S' := S ++ G0) ?_ (by simp) rfl
   wtm_at "mx st"
   unfold zcw zbR
   exact zac (zbO (it _ _) rfl (zas (n0 _) (sets _ _ _) q0 zdd)) zao
theorem zjd {o d a : Pt} (S : So) (hS : WF S) : zbX [.tup [pD o, pD d], pD a] S = some (.ref S.length, S ++ [.lst ((comeL o d a).map rD)]) := by
 have key : eLc (iRg1 (aCons (eC (.int 3)) (aNil))) (gNm 0) (tBl (eB (gCmp .NotEq) (eB gIx (eB gIx (eVar 2) (eC (.int 1))) (eVar 0)) (eC (.int 0)))) (eN (nArgs 2 zaP) (aCons (eB (gBin .Sub) (eB gIx (eVar 1) (eVar 0)) (eB gIx (eB gIx (eVar 2) (eC (.int 0))) (eVar 0))) (aCons (eB gIx (eB gIx (eVar 2) (eC (.int 1))) (eVar 0)) (aNil)))) [none, some 1, some 0]
     [some (.tup [pD o, pD d]), some (pD a)] S = some (.ref S.length, S ++ [.lst ((comeL o d a).map rD)]) := by
   refine zhr (σ1 := [none, some (pD a), some (.tup [pD o, pD d])]) (j := .fix (rangeD 0 3)) (n := 3) (S1 := S) (S2 := S) rfl rfl (Nat.le_of_ble_eq_true rfl) rfl ?_
   have h := zd2 (nx := nxD (.fix (rangeD 0 3))) (g := gNm 0) (t := tBl (eB (gCmp .NotEq) (eB gIx (eB gIx (eVar 2) (eC (.int 1))) (eVar 0)) (eC (.int 0)))) (fe := eN (nArgs 2 zaP) (aCons (eB (gBin .Sub) (eB gIx (eVar 1) (eVar 0)) (eB gIx (eB gIx (eVar 2) (eC (.int 0))) (eVar 0))) (aCons (eB gIx (eB gIx (eVar 2) (eC (.int 1))) (eVar 0)) (aNil)))) (S := S) (xs := rangeD 0 3)
     (λτ => ∃ x, τ = [x, some (pD a), some (.tup [pD o, pD d])]) (λD => match D with | .int j => !decide (co j d = 0) | _ => false) (λD => match D with | .int j => rD (timeN (co j a - co j o) (co j d)) | _ => .non) (λi => rfl)
     (λD hD τ hτ => by
       obtain ⟨x, rfl⟩ := hτ
       obtain ⟨j, rfl, j0, j2⟩ : ∃ j : Int, D = .int j ∧ 0 ≤ j ∧ j ≤ 2 := by
         have : D = .int 0 ∨ D = .int 1 ∨ D = .int 2 := by simpa [rangeD, List.range, List.range.loop] using hD
         rcases this with e | e | e
         · exact ⟨0, e, by decide, by decide⟩
         · exact ⟨1, e, by decide, by decide⟩
         · exact ⟨2, e, by decide, by decide⟩
       have a1 := zaW j0 j2 o
       have a2 := zaW j0 j2 d
       have a3 := zaW j0 j2 a
       refine ⟨[some (.int j), some (pD a), some (.tup [pD o, pD d])], rfl, ⟨_, rfl⟩, ?_, λ_ => ?_⟩
       · wtm_at "mx ev"
       · have := sp_time (co j a - co j o) (co j d) S
         wtm_at "mx ev") 3 0 [none, some (pD a), some (.tup [pD o, pD d])] [] ⟨_, rfl⟩ rfl
   rw [h]
   congr 2
   have er : rangeD 0 3 = [.int 0, .int 1, .int 2] := rfl
   rw [er]
   unfold comeL
   simp only [List.nil_append, List.drop_zero, List.filter_cons, List.filter_nil, co0, co1, co2]
   by_cases q1 : d.1 = 0 <;> by_cases q2 : d.2.1 = 0 <;> by_cases q3 : d.2.2 = 0 <;> simp [q1, q2, q3, co0, co1, co2]
 apply zde
 · wtm_at "mx st"
   unfold zcX
   exact zac (zaG key) zao
 · intro h; simp [D.lo] at h
 · simp
 · simp [D.lo]
 · exact hS.snoc (zdr _ _)
end MX.P
end
section
set_option autoImplicit false
local macro_rules | `(tactic| wtm_at "mx call") => `(tactic| first | (with_reducible assumption))
namespace MX.P
open PySem L2 MX
def zku : SF := (sSeq (sAsg (eN gTup (aCons (eB (gBin .Sub) (eB gIx (eVar 2) (eVar 4)) (eB gIx (eVar 1) (eVar 4))) (aCons (eB (gBin .Sub) (eB gIx (eVar 2) (eVar 5)) (eB gIx (eVar 1) (eVar 5))) (aNil)))) (gNm 6)) (sSeq (sAsg (eB (gBin .Sub) (eB (gBin .Mult) (eB gIx (eB gIx (eVar 0) (eC (.int 1))) (eVar 4)) (eB gIx (eVar 6) (eC (.int 1)))) (eB (gBin .Mult) (eB gIx (eB gIx (eVar 0) (eC (.int 1))) (eVar 5)) (eB gIx (eVar 6) (eC (.int 0))))) (gNm 7)) (sSeq (sIf (tBl (eB (gCmp .NotEq) (eVar 7) (eC (.int 0)))) (sSeq (sAsg (eN gTup (aCons (eB (gBin .Sub) (eB gIx (eVar 1) (eVar 4)) (eB gIx (eB gIx (eVar 0) (eC (.int 0))) (eVar 4))) (aCons (eB (gBin .Sub) (eB gIx (eVar 1) (eVar 5)) (eB gIx (eB gIx (eVar 0) (eC (.int 0))) (eVar 5))) (aNil)))) (gNm 8)) (sSeq (sDrop (eM gAppend (eVar 3) (aCons (eN (nArgs 2 zaP) (aCons (eB (gBin .Sub) (eB (gBin .Mult) (eB gIx (eVar 8) (eC (.int 0))) (eB gIx (eVar 6) (eC (.int 1)))) (eB (gBin .Mult) (eB gIx (eVar 8) (eC (.int 1))) (eB gIx (eVar 6) (eC (.int 0))))) (aCons (eVar 7) (aNil)))) (aNil)))) (sPass))) (sPass)) (sPass))))
theorem zgn {k : Nat} {o d a b : Pt} (ho : BdP k o) (hd : BdP k d) (ha : BdP k a) (hb : BdP k b) (hk : k ≤ 10000) (i j : Int) (hi0 : 0 ≤ i) (hi2 : i ≤ 2) (hj0 : 0 ≤ j) (hj2 : j ≤ 2) (x6 x7 x8 : Option D) (S G : So) (xs : List (Int × Int)) (hx : xs.length ≤ 1000) :
   ∃ y6 y7 y8, zku [some (.tup [pD o, pD d]), some (pD a), some (pD b), some (.ref S.length), some (.int i), some (.int j), x6, x7, x8] (S ++ .lst (xs.map rD) :: G)
     = some (.nx, [some (.tup [pD o, pD d]), some (pD a), some (pD b), some (.ref S.length), some (.int i), some (.int j), y6, y7, y8], S ++ .lst ((xs ++ crs (co i a - co i o) (co j a - co j o) (co i d) (co j d) (co i b - co i a) (co j b - co j a)).map rD) :: G) := by
 have o1 := zaW hi0 hi2 o
 have o2 := zaW hj0 hj2 o
 have d1 := zaW hi0 hi2 d
 have d2 := zaW hj0 hj2 d
 have a1 := zaW hi0 hi2 a
 have a2 := zaW hj0 hj2 a
 have b1 := zaW hi0 hi2 b
 have b2 := zaW hj0 hj2 b
 have co1 := zdi ho i
 have co2 := zdi ho j
 have cd1 := zdi hd i
 have cd2 := zdi hd j
 have ca1 := zdi ha i
 have ca2 := zdi ha j
 have cb1 := zdi hb i
 have cb2 := zdi hb j
 generalize co i o = oi at *
 generalize co j o = oj at *
 generalize co i d = di at *
 generalize co j d = dj at *
 generalize co i a = ai at *
 generalize co j a = aj at *
 generalize co i b = bi at *
 generalize co j b = bj at *
 have e1 := (cb1.sub ca1).le (show max k k + 1 ≤ k + 1 by omega)
 have e2 := (cb2.sub ca2).le (show max k k + 1 ≤ k + 1 by omega)
 have g1 := (ca1.sub co1).le (show max k k + 1 ≤ k + 1 by omega)
 have g2 := (ca2.sub co2).le (show max k k + 1 ≤ k + 1 by omega)
 have sx : (S ++ O.lst (xs.map rD) :: G)[S.length]? = some (.lst (xs.map rD)) := by simp
 have sl : ∀ o' : O, (S ++ O.lst (xs.map rD) :: G).set S.length o' = S ++ o' :: G := λo' => by simp
 generalize hT : S ++ O.lst (xs.map rD) :: G = T at *
 have s1 : sAsg (eN gTup (aCons (eB (gBin .Sub) (eB gIx (eVar 2) (eVar 4)) (eB gIx (eVar 1) (eVar 4))) (aCons (eB (gBin .Sub) (eB gIx (eVar 2) (eVar 5)) (eB gIx (eVar 1) (eVar 5))) (aNil)))) (gNm 6) [some (.tup [pD o, pD d]), some (pD a), some (pD b), some (.ref S.length), some (.int i), some (.int j), x6, x7, x8] T
     = some (.nx, [some (.tup [pD o, pD d]), some (pD a), some (pD b), some (.ref S.length), some (.int i), some (.int j), some (R2 (bi - ai) (bj - aj)), x7, x8], T) := by wtm_at "mx ev"
 generalize hE : bi - ai = ei at *
 generalize hF : bj - aj = ej at *
 have s2 : sAsg (eB (gBin .Sub) (eB (gBin .Mult) (eB gIx (eB gIx (eVar 0) (eC (.int 1))) (eVar 4)) (eB gIx (eVar 6) (eC (.int 1)))) (eB (gBin .Mult) (eB gIx (eB gIx (eVar 0) (eC (.int 1))) (eVar 5)) (eB gIx (eVar 6) (eC (.int 0))))) (gNm 7) [some (.tup [pD o, pD d]), some (pD a), some (pD b), some (.ref S.length), some (.int i), some (.int j), some (R2 ei ej), x7, x8] T
     = some (.nx, [some (.tup [pD o, pD d]), some (pD a), some (pD b), some (.ref S.length), some (.int i), some (.int j), some (R2 ei ej), some (.int (di * ej - dj * ei)), x8], T) := by wtm_at "mx ev"
 unfold zku crs
 by_cases hz : di * ej - dj * ei = 0
 · rw [if_neg (by simpa using hz), List.append_nil]
   rw [hT]
   refine ⟨some (R2 ei ej), some (.int (di * ej - dj * ei)), x8, zac s1 (zaf (zac s2 (zaf (zac ?_ (zaf zak)))))⟩
   refine zaD (b := false) (S1 := T) ?_ (zaz rfl zak)
   refine zaY ?_
   have : D.bl false = .bl (!decide (di * ej - dj * ei = 0)) := by rw [zcn hz]; rfl
   rw [this]
   exact zav (zaa rfl) zaX zlS
 · rw [if_pos hz]
   have s3 : sAsg (eN gTup (aCons (eB (gBin .Sub) (eB gIx (eVar 1) (eVar 4)) (eB gIx (eB gIx (eVar 0) (eC (.int 0))) (eVar 4))) (aCons (eB (gBin .Sub) (eB gIx (eVar 1) (eVar 5)) (eB gIx (eB gIx (eVar 0) (eC (.int 0))) (eVar 5))) (aNil)))) (gNm 8) [some (.tup [pD o, pD d]), some (pD a), some (pD b), some (.ref S.length), some (.int i), some (.int j), some (R2 ei ej), some (.int (di * ej - dj * ei)), x8] T
       = some (.nx, [some (.tup [pD o, pD d]), some (pD a), some (pD b), some (.ref S.length), some (.int i), some (.int j), some (R2 ei ej), some (.int (di * ej - dj * ei)), some (R2 (ai - oi) (aj - oj))], T) := by wtm_at "mx ev"
   generalize hG : ai - oi = gi at *
   generalize hH : aj - oj = gj at *
   have tm := sp_time (gi * ej - gj * ei) (di * ej - dj * ei) T
   have arg : aCons (eN (nArgs 2 zaP) (aCons (eB (gBin .Sub) (eB (gBin .Mult) (eB gIx (eVar 8) (eC (.int 0))) (eB gIx (eVar 6) (eC (.int 1)))) (eB (gBin .Mult) (eB gIx (eVar 8) (eC (.int 1))) (eB gIx (eVar 6) (eC (.int 0))))) (aCons (eVar 7) (aNil)))) (aNil) [some (.tup [pD o, pD d]), some (pD a), some (pD b), some (.ref S.length), some (.int i), some (.int j), some (R2 ei ej), some (.int (di * ej - dj * ei)), some (R2 gi gj)] T
       = some ([rD (timeN (gi * ej - gj * ei) (di * ej - dj * ei))], T) := by
     generalize di * ej - dj * ei = u at *
     wtm_at "mx ev"
   refine ⟨some (R2 ei ej), some (.int (di * ej - dj * ei)), some (R2 gi gj), zac s1 (zaf (zac s2 (zaf (zac ?_ (zaf zak)))))⟩
   refine zaD (b := true) (S1 := T) ?_ (zaF rfl (zac s3 (zaf (zac (zgM (zoC (zaa rfl) sx arg (ziH sx (by rw [sizeLine_eq, List.length_map]; omega) (sl _)))) (zaf ?_)))))
   · refine zaY ?_
     have : D.bl true = .bl (!decide (di * ej - dj * ei = 0)) := by rw [za3 hz]; rfl
     rw [this]
     exact zav (zaa rfl) zaX zlS
   · rw [List.map_append]
     exact zak
abbrev prO : O := .lst [.tup [.int 0, .int 1], .tup [.int 1, .int 2], .tup [.int 2, .int 0]]
theorem zg6 {k : Nat} {o d a b : Pt} (ho : BdP k o) (hd : BdP k d) (ha : BdP k a) (hb : BdP k b) (hk : k ≤ 10000) (S : So) (hS : WF S) :
   zbm [.tup [pD o, pD d], pD a, pD b] S = some (.ref S.length, S ++ .lst ((crossL o d a b).map rD) :: [prO]) := by
 obtain ⟨y1, y2, y3, t1⟩ := zgn ho hd ha hb hk 0 1 (by decide) (by decide) (by decide) (by decide) none none none S [prO] [] (by decide)
 obtain ⟨z1, z2, z3, t2⟩ := zgn ho hd ha hb hk 1 2 (by decide) (by decide) (by decide) (by decide) y1 y2 y3 S [prO] ([] ++ crs (co 0 a - co 0 o) (co 1 a - co 1 o) (co 0 d) (co 1 d) (co 0 b - co 0 a) (co 1 b - co 1 a)) (by unfold crs; split <;> simp)
 obtain ⟨w1, w2, w3, t3⟩ := zgn ho hd ha hb hk 2 0 (by decide) (by decide) (by decide) (by decide) z1 z2 z3 S [prO] ([] ++ crs (co 0 a - co 0 o) (co 1 a - co 1 o) (co 0 d) (co 1 d) (co 0 b - co 0 a) (co 1 b - co 1 a) ++ crs (co 1 a - co 1 o) (co 2 a - co 2 o) (co 1 d) (co 2 d) (co 1 b - co 1 a) (co 2 b - co 2 a)) (by unfold crs; split <;> split <;> simp)
 have ec : [] ++ crs (co 0 a - co 0 o) (co 1 a - co 1 o) (co 0 d) (co 1 d) (co 0 b - co 0 a) (co 1 b - co 1 a) ++ crs (co 1 a - co 1 o) (co 2 a - co 2 o) (co 1 d) (co 2 d) (co 1 b - co 1 a) (co 2 b - co 2 a) ++ crs (co 2 a - co 2 o) (co 0 a - co 0 o) (co 2 d) (co 0 d) (co 2 b - co 2 a) (co 0 b - co 0 a) = crossL o d a b := by
   unfold crossL
   simp only [co0, co1, co2, List.nil_append, List.append_assoc]
 rw [ec] at t3
 have pr : ∀ (o : O), (S ++ o :: [prO])[S.length + 1]? = some prO := λo => by simp
 have el : (S ++ [O.lst []]).length = S.length + 1 := by simp
 have it : iVal (eN gLst (aCons (eN gTup (aCons (eC (.int 0)) (aCons (eC (.int 1)) (aNil)))) (aCons (eN gTup (aCons (eC (.int 1)) (aCons (eC (.int 2)) (aNil)))) (aCons (eN gTup (aCons (eC (.int 2)) (aCons (eC (.int 0)) (aNil)))) (aNil))))) [some (.tup [pD o, pD d]), some (pD a), some (pD b), some (.ref S.length), none, none, none, none, none] (S ++ [.lst []]) = some (.lst (S.length + 1), S ++ .lst [] :: [prO]) := by
   have := zbZ (fe := eN gLst (aCons (eN gTup (aCons (eC (.int 0)) (aCons (eC (.int 1)) (aNil)))) (aCons (eN gTup (aCons (eC (.int 1)) (aCons (eC (.int 2)) (aNil)))) (aCons (eN gTup (aCons (eC (.int 2)) (aCons (eC (.int 0)) (aNil)))) (aNil))))) (σ := [some (.tup [pD o, pD d]), some (pD a), some (pD b), some (.ref S.length), none, none, none, none, none]) (S := S ++ [.lst []]) (n := (S ++ [O.lst []]).length) (S1 := S ++ [.lst []] ++ [prO]) (xs := [.tup [.int 0, .int 1], .tup [.int 1, .int 2], .tup [.int 2, .int 0]]) (by wtm_at "mx ev") zaT
   rw [el] at this
   simpa using this
 apply zde (σ' := [some (.tup [pD o, pD d]), some (pD a), some (pD b), some (.ref S.length), some (.int 2), some (.int 0), w1, w2, w3])
 · wtm_at "mx st"
   unfold zci
   refine zac (zaj (x := .ref S.length) (S1 := S ++ [.lst []]) ?_ (zkq rfl)) (zaf ?_)
   · wtm_at "mx ev"
   refine zac (zbO it (n := 3) (zev (pr _)) ?_) (zaf (zac (zaG (zaa rfl)) zao))
   refine zas (d := .tup [.int 0, .int 1]) (zaM (pr _) rfl) rfl t1 (zaA ?_)
   refine zas (d := .tup [.int 1, .int 2]) (zaM (pr _) rfl) rfl t2 (zaA ?_)
   refine zas (d := .tup [.int 2, .int 0]) (zaM (pr _) rfl) rfl t3 (zaA ?_)
   exact zdh (zfm (pr _) rfl)
 · intro h; simp [D.lo] at h
 · simp
 · simp [D.lo]
 · have := (hS.snoc (zdr S.length (crossL o d a b))).snoc (o := prO) rfl
   simpa using this
end MX.P
end
section
set_option autoImplicit false
local macro_rules | `(tactic| wtm_at "mx call") => `(tactic| first | (with_reducible assumption) | (with_reducible exact MX.P.sp_pt _ _ _) | (with_reducible exact MX.P.sp_drawn _ _ _))
namespace MX.P
open PySem L2 MX
theorem znU {i : Nat} {a : Addr} {ψ : GN} {fs : AF} {σ : Sg} {S S1 : So} {d : D} {r : Option (D × So)} (h : σ[i]? = some (some (.adr a))) (h2 : fs σ S = some ([d], S1)) (h3 : ψ [d] S1 = r) : eCL i a ψ fs σ S = r := by
 unfold eCL
 rw [h]
 simp only [if_true]
 rw [h2]
 exact h3
def zgX (a : Addr) (ψ : GN) : SF := (sSeq (sIf (tAndF (tBl (eB (gCmp .GtE) (eB gIx (eVar 3) (eC (.int 0))) (eC (.int 0)))) (tOrF (tBl (eB (gCmp .Is) (eVar 2) (eC .non))) (tVal (eN (nArgs 2 zbN) (aCons (eVar 3) (aCons (eVar 2) (aNil))))))) (sSeq (sIf (tVal (eCL 1 a ψ (aCons (eVar 3) (aNil)))) (sSeq (sAsg (eVar 3) (gNm 2)) (sPass)) (sPass)) (sPass)) (sPass)) (sPass))
theorem zlP {k : Nat} {a : Addr} {ψ : GN} {n : Nat} {m : Tq} {t : Int × Int} {p : Int × Int → Bool} {S : So} (hψ : ψ [rD t] S = some (.bl (p t), S)) (b1 : Bd k t.1) (b2 : Bd k t.2) (hm : ∀ b, m = some b → Bd k b.1 ∧ Bd k b.2) (hk : k ≤ 8000) :
   zgX a ψ [some (.ref n), some (.adr a), some (tD m), some (rD t)] S = some (.nx, [some (.ref n), some (.adr a), some (tD (stepF p m t)), some (rD t)], S) := by
 obtain ⟨t1, t2⟩ := t
 simp only at b1 b2
 have inner : ∀ m : Tq, sSeq (sIf (tVal (eCL 1 a ψ (aCons (eVar 3) (aNil)))) (sSeq (sAsg (eVar 3) (gNm 2)) (sPass)) (sPass)) (sPass) [some (.ref n), some (.adr a), some (tD m), some (R2 t1 t2)] S = some (.nx, [some (.ref n), some (.adr a), some (if p (t1, t2) = true then R2 t1 t2 else tD m), some (R2 t1 t2)], S) := λm => by
   have c : tVal (eCL 1 a ψ (aCons (eVar 3) (aNil))) [some (.ref n), some (.adr a), some (tD m), some (R2 t1 t2)] S = some (p (t1, t2), S) := zfr (znU rfl (zab (zaa rfl) zal) hψ) rfl
   by_cases hp : p (t1, t2) = true
   · rw [if_pos hp]
     exact zac (zaD c (zaF hp (zac (zaj (zaa rfl) rfl) (zaf zak)))) (zaf zak)
   · rw [if_neg hp]
     exact zac (zaD c (zaz (by simpa using hp) zak)) (zaf zak)
 unfold zgX stepF
 have c0 : ∀ m : Tq, tBl (eB (gCmp .GtE) (eB gIx (eVar 3) (eC (.int 0))) (eC (.int 0))) [some (.ref n), some (.adr a), some (tD m), some (R2 t1 t2)] S = some (decide (t1 ≥ 0), S) := λm => zaY (zav (zav (zaa rfl) zaX (zbY rfl)) zaX znP)
 by_cases h0 : t1 ≥ 0
 · cases m with
   | none =>
     have cond : (if 0 ≤ (t1, t2).1 ∧ (∀ b, (none : Tq) = some b → lessQ (t1, t2) b) ∧ p (t1, t2) = true then some (t1, t2) else (none : Tq)) = if p (t1, t2) = true then some (t1, t2) else none := by
       by_cases hp : p (t1, t2) = true
       · rw [if_pos ⟨h0, λb hb => (by cases hb), hp⟩, if_pos hp]
       · rw [if_neg (λq => hp q.2.2), if_neg hp]
     rw [cond]
     have e : tD (if p (t1, t2) = true then some (t1, t2) else none) = if p (t1, t2) = true then R2 t1 t2 else tD none := by split <;> rfl
     rw [e]
     refine zac (zaD (zdg (c0 none) (zaF (zcn h0) (zbA (b := true) (S1 := S) ?_ (zaF rfl rfl)))) (zaF rfl (inner none))) (zaf zak)
     exact zaY (zav (zaa rfl) zaX rfl)
   | some b =>
     obtain ⟨m1, m2⟩ := b
     obtain ⟨c1, c2⟩ := hm _ rfl
     have hless := zf2 b1 b2 c1 c2 (show k + k ≤ 134217728 by omega) S
     simp only at hless
     have isn : tBl (eB (gCmp .Is) (eVar 2) (eC .non)) [some (.ref n), some (.adr a), some (tD (some (m1, m2))), some (R2 t1 t2)] S = some (false, S) := zaY (zav (zaa rfl) zaX rfl)
     have tl : tVal (eN (nArgs 2 zbN) (aCons (eVar 3) (aCons (eVar 2) (aNil)))) [some (.ref n), some (.adr a), some (tD (some (m1, m2))), some (R2 t1 t2)] S = some (decide (t1 * m2 < m1 * t2), S) := zfr (zaH (zab (zaa rfl) (zab (zaa rfl) zal)) (zai rfl hless)) rfl
     by_cases hl : t1 * m2 < m1 * t2
     · have cond : (if 0 ≤ (t1, t2).1 ∧ (∀ b, (some (m1, m2) : Tq) = some b → lessQ (t1, t2) b) ∧ p (t1, t2) = true then some (t1, t2) else (some (m1, m2) : Tq)) = if p (t1, t2) = true then some (t1, t2) else some (m1, m2) := by
         by_cases hp : p (t1, t2) = true
         · rw [if_pos ⟨h0, λb hb => (by cases hb; exact hl), hp⟩, if_pos hp]
         · rw [if_neg (λq => hp q.2.2), if_neg hp]
       rw [cond]
       have e : tD (if p (t1, t2) = true then some (t1, t2) else some (m1, m2)) = if p (t1, t2) = true then R2 t1 t2 else tD (some (m1, m2)) := by split <;> rfl
       rw [e]
       exact zac (zaD (zdg (c0 _) (zaF (zcn h0) (zbA isn (zaz rfl tl)))) (zaF (zcn hl) (inner _))) (zaf zak)
     · have cond : (if 0 ≤ (t1, t2).1 ∧ (∀ b, (some (m1, m2) : Tq) = some b → lessQ (t1, t2) b) ∧ p (t1, t2) = true then some (t1, t2) else (some (m1, m2) : Tq)) = some (m1, m2) := if_neg λq => hl (q.2.1 _ rfl)
       rw [cond]
       exact zac (zaD (zdg (c0 _) (zaF (zcn h0) (zbA isn (zaz rfl tl)))) (zaz (za3 hl) zak)) (zaf zak)
 · rw [if_neg (λq => h0 q.1)]
   exact zac (zaD (zdg (c0 m) (zaz (za3 h0) rfl)) (zaz rfl zak)) (zaf zak)
theorem zfq {p : Int × Int → Bool} : ∀ (l : List (Int × Int)) (m : Tq) (b : Int × Int), l.foldl (stepF p) m = some b → m = some b ∨ b ∈ l
 | [], m, b, h => .inl h
 | t :: l, m, b, h => by
   rw [List.foldl_cons] at h
   rcases zfq l _ b h with q | q
   · unfold stepF at q
     split at q
     · cases q; exact .inr (List.mem_cons_self ..)
     · exact .inl q
   · exact .inr (List.mem_cons_of_mem _ q)
theorem zjb {k : Nat} {a : Addr} {ψ : GN} {n : Nat} {l : List (Int × Int)} {p : Int × Int → Bool} {S : So} (hn : S[n]? = some (.lst (l.map rD))) (hψ : ∀ t ∈ l, ψ [rD t] S = some (.bl (p t), S)) (hb : ∀ t ∈ l, Bd k t.1 ∧ Bd k t.2 ∧ 0 < t.2) (hk : k ≤ 8000) :
   zcM a ψ [.ref n, .adr a] S = some (tqD (firstF p l), S) := by
 have loop : ∃ x, sFor (iVal (eVar 0)) (gNm 3) (zgX a ψ) [some (.ref n), some (.adr a), some .non, none] S = some (.nx, [some (.ref n), some (.adr a), some (tD (firstF p l)), x], S) := by
   obtain ⟨σ', S', e, hS', x, hσ⟩ := zfp (nx := nxD (.lst n)) (g := gNm 3) (f := zgX a ψ) (xs := l.map rD)
     (λi σ S' => S' = S ∧ ∃ x, σ = [some (.ref n), some (.adr a), some (tD ((l.take i).foldl (stepF p) none)), x])
     (λi σ S' h => by
       obtain ⟨rfl, _⟩ := h
       cases q : (l.map rD)[i]? with
       | none => exact zfm hn q
       | some d => exact zaM hn q)
     (λi d σ S' hd h => by
       obtain ⟨rfl, x, rfl⟩ := h
       rw [List.getElem?_map] at hd
       cases q : l[i]? with
       | none => rw [q] at hd; cases hd
       | some t =>
         rw [q] at hd; cases hd
         have ht := List.mem_of_getElem? q
         obtain ⟨b1, b2, b3⟩ := hb t ht
         have turn := zlP (k := k) (a := a) (n := n) (m := (l.take i).foldl (stepF p) none) (hψ t ht) b1 b2 (λb hbm => by
           rcases zfq _ _ _ hbm with z | z
           · cases z
           · obtain ⟨c1, c2, _⟩ := hb b (List.mem_of_mem_take z)
             exact ⟨c1, c2⟩) hk
         refine ⟨_, S', .nx, _, S', rfl, turn, .inl rfl, rfl, some (rD t), ?_⟩
         have : l.take (i + 1) = l.take i ++ [t] := by rw [List.take_succ, q]; rfl
         rw [this, List.foldl_append]
         rfl) (l.map rD).length 0 [some (.ref n), some (.adr a), some .non, none] S ⟨rfl, none, rfl⟩ (by simp)
   subst hS' hσ
   refine ⟨x, zbO (j := .lst n) (zbZ (zaa rfl) hn) (zev hn) ?_⟩
   rw [e, List.length_map, List.take_length]
   rfl
 obtain ⟨x, loop⟩ := loop
 show fnOf 4 (zbw a ψ) [.ref n, .adr a] S = _
 cases e : firstF p l with
 | none =>
   rw [e] at loop
   apply zad (σ' := [some (.ref n), some (.adr a), some .non, x]) (S' := S)
   · wtm_at "mx st"
     unfold zbw
     refine zac (zaj zaX rfl) (zaf (zac loop (zaf (zac (zaD (b := true) (S1 := S) (zaY (zav (zaa rfl) zaX rfl)) (zaF rfl (zac (zaG zaX) zao))) zao))))
   · exact List.take_length
   · rfl
 | some r =>
   rw [e] at loop
   have hr : r ∈ l := by
     rcases zfq l none r e with z | z
     · cases z
     · exact z
   obtain ⟨b1, b2, b3⟩ := hb r hr
   obtain ⟨r1, r2⟩ := r
   have hq := zdQ (a := r1) (b := r2) (by simp only at b3; omega) b1 b2 hk S
   apply zad (σ' := [some (.ref n), some (.adr a), some (R2 r1 r2), x]) (S' := S)
   · wtm_at "mx st"
     unfold zbw
     refine zac (zaj zaX rfl) (zaf (zac loop (zaf (zac (zaD (b := false) (S1 := S) (zaY (zav (zaa rfl) zaX rfl)) (zaz rfl zak)) (zaf ?_)))))
     exact zac (zaG (zaH (zab (zav (zaa rfl) zaX (zbY rfl)) (zab (zav (zaa rfl) zaX (zbY rfl)) zal)) (zai rfl hq))) zao
   · exact List.take_length
   · rfl
theorem zhH (c k : Int) : ∃ p : Pt, BdP 90 p ∧ ∀ S, zcl [.int c, .int k] S = some (pD p, S) := by
 obtain ⟨b1, b2, b3⟩ := zeX c k
 by_cases h : (drawnI c (k + 3)).fmod 3 < 2
 · refine ⟨(6 * (ptF c k).1, 6 * (ptF c k).2.1, 6 * (ptF c k).2.2), ⟨((Bd.lit 6).mul b1).le (by decide), ((Bd.lit 6).mul b2).le (by decide), ((Bd.lit 6).mul b3).le (by decide)⟩, λS => ?_⟩
   apply zad
   · wtm_at "mx st"
     unfold zc5
     wtm_at "mx ev"
   · wtm_at "mx take"
   · rfl
 · refine ⟨ptF c k, (zeX c k).le (by decide), λS => ?_⟩
   apply zad
   · wtm_at "mx st"
     unfold zc5
     wtm_at "mx ev"
   · wtm_at "mx take"
   · rfl
end MX.P
end
section
set_option autoImplicit false
local macro_rules | `(tactic| wtm_at "mx call") => `(tactic| first | (with_reducible assumption) | (with_reducible exact MX.P.sp_drawn _ _ _))
namespace MX.P
open PySem L2 MX
theorem zj9 {x y z : D} (i : Int) (h1 : 0 ≤ i) (h2 : i < 3) : (i = 0 ∧ atI [x, y, z] i = some x) ∨ (i = 1 ∧ atI [x, y, z] i = some y) ∨ (i = 2 ∧ atI [x, y, z] i = some z) := by
 have : i = 0 ∨ i = 1 ∨ i = 2 := by omega
 rcases this with e | e | e <;> subst e
 · exact .inl ⟨rfl, rfl⟩
 · exact .inr (.inl ⟨rfl, rfl⟩)
 · exact .inr (.inr ⟨rfl, rfl⟩)
section
variable {A B C : Pt} {c k : Int} {ro rd : Pt}
theorem zn4 {w : Pt} (hA : BdP 93 A) (hB : BdP 93 B) (hC : BdP 93 C) (hw : BdP 98 w) (hray : ∀ S, zcm [.int c, .int k] S = some (.tup [pD ro, pD rd], S)) (h5 : ¬ (drawnI c (k + 4)).fmod 5 = 0)
   (hm : atI [pD rd, P3 (A.1 - B.1) (A.2.1 - B.2.1) (A.2.2 - B.2.2), P3 (A.1 + C.1 - 2 * B.1) (A.2.1 + C.2.1 - 2 * B.2.1) (A.2.2 + C.2.2 - 2 * B.2.2)] (((drawnI c (k + 4)).fmod 5).fmod 3) = some (pD w)) (hne : ¬ pD w = P3 0 0 0) :
   ∃ o : Pt, BdP 120 o ∧ ∀ S, za2 [.int c, .int k, .tup [pD A, pD B, pD C]] S = some (.tup [pD o, pD w], S) := by
 obtain ⟨a1, a2, a3⟩ := hA
 obtain ⟨b1, b2, b3⟩ := hB
 obtain ⟨c1, c2, c3⟩ := hC
 obtain ⟨w1, w2, w3⟩ := hw
 have bi : Bd 3 (((drawnI c (k + 4)).fdiv 8).fmod 7) := (Bd.fmod (by decide)).le (by decide)
 have bj : Bd 4 (((drawnI c (k + 4)).fdiv 64).fmod 8) := (Bd.fmod (by decide)).le (by decide)
 have bo : Bd 4 (((drawnI c (k + 4)).fdiv 512).fmod 6 - 1) := ((Bd.fmod (by decide)).sub (Bd.lit 1)).le (by decide)
 have bl : Bd 6 (6 - ((drawnI c (k + 4)).fdiv 8).fmod 7 - ((drawnI c (k + 4)).fdiv 64).fmod 8) := (((Bd.lit 6).sub bi).sub bj).le (by decide)
 have pb : ∀ x y z w : Int, Bd 93 x → Bd 93 y → Bd 93 z → Bd 98 w → Bd 120 ((((drawnI c (k + 4)).fdiv 8).fmod 7 * x + ((drawnI c (k + 4)).fdiv 64).fmod 8 * y + (6 - ((drawnI c (k + 4)).fdiv 8).fmod 7 - ((drawnI c (k + 4)).fdiv 64).fmod 8) * z).fdiv 6 - (((drawnI c (k + 4)).fdiv 512).fmod 6 - 1) * w) := λx y z w hx hy hz hw =>
   (((((bi.mul hx).add (bj.mul hy)).add (bl.mul hz)).fdiv (by decide)).sub (bo.mul hw)).le (by decide)
 refine ⟨(_, _, _), ⟨pb _ _ _ _ a1 b1 c1 w1, pb _ _ _ _ a2 b2 c2 w2, pb _ _ _ _ a3 b3 c3 w3⟩, λS => ?_⟩
 have hr := hray S
 apply zad
 · wtm_at "mx st"
   unfold zbx
   wtm_at "mx ev"
 · wtm_at "mx take"
 · rfl
theorem zmb {v : Pt} (hA : BdP 93 A) (hB : BdP 93 B) (hC : BdP 93 C) (hw : BdP 98 rd) (hray : ∀ S, zcm [.int c, .int k] S = some (.tup [pD ro, pD rd], S)) (h5 : ¬ (drawnI c (k + 4)).fmod 5 = 0)
   (hm : atI [pD rd, P3 (A.1 - B.1) (A.2.1 - B.2.1) (A.2.2 - B.2.2), P3 (A.1 + C.1 - 2 * B.1) (A.2.1 + C.2.1 - 2 * B.2.1) (A.2.2 + C.2.2 - 2 * B.2.2)] (((drawnI c (k + 4)).fmod 5).fmod 3) = some (pD v)) (hne : pD v = P3 0 0 0) :
   ∃ o : Pt, BdP 120 o ∧ ∀ S, za2 [.int c, .int k, .tup [pD A, pD B, pD C]] S = some (.tup [pD o, pD rd], S) := by
 obtain ⟨a1, a2, a3⟩ := hA
 obtain ⟨b1, b2, b3⟩ := hB
 obtain ⟨c1, c2, c3⟩ := hC
 obtain ⟨w1, w2, w3⟩ := hw
 have bi : Bd 3 (((drawnI c (k + 4)).fdiv 8).fmod 7) := (Bd.fmod (by decide)).le (by decide)
 have bj : Bd 4 (((drawnI c (k + 4)).fdiv 64).fmod 8) := (Bd.fmod (by decide)).le (by decide)
 have bo : Bd 4 (((drawnI c (k + 4)).fdiv 512).fmod 6 - 1) := ((Bd.fmod (by decide)).sub (Bd.lit 1)).le (by decide)
 have bl : Bd 6 (6 - ((drawnI c (k + 4)).fdiv 8).fmod 7 - ((drawnI c (k + 4)).fdiv 64).fmod 8) := (((Bd.lit 6).sub bi).sub bj).le (by decide)
 have pb : ∀ x y z w : Int, Bd 93 x → Bd 93 y → Bd 93 z → Bd 98 w → Bd 120 ((((drawnI c (k + 4)).fdiv 8).fmod 7 * x + ((drawnI c (k + 4)).fdiv 64).fmod 8 * y + (6 - ((drawnI c (k + 4)).fdiv 8).fmod 7 - ((drawnI c (k + 4)).fdiv 64).fmod 8) * z).fdiv 6 - (((drawnI c (k + 4)).fdiv 512).fmod 6 - 1) * w) := λx y z w hx hy hz hw =>
   (((((bi.mul hx).add (bj.mul hy)).add (bl.mul hz)).fdiv (by decide)).sub (bo.mul hw)).le (by decide)
 refine ⟨(_, _, _), ⟨pb _ _ _ _ a1 b1 c1 w1, pb _ _ _ _ a2 b2 c2 w2, pb _ _ _ _ a3 b3 c3 w3⟩, λS => ?_⟩
 have hr := hray S
 apply zad
 · wtm_at "mx st"
   unfold zbx
   wtm_at "mx ev"
 · wtm_at "mx take"
 · rfl
end
theorem zje (c k : Int) {A B C : Pt} (hA : BdP 93 A) (hB : BdP 93 B) (hC : BdP 93 C) : ∃ o d : Pt, BdP 120 o ∧ BdP 120 d ∧ d ≠ (0, 0, 0) ∧ ∀ S, za2 [.int c, .int k, .tup [pD A, pD B, pD C]] S = some (.tup [pD o, pD d], S) := by
 obtain ⟨ro, rd, bo, bd, hd0, hray⟩ := zg4 c k
 by_cases h5 : (drawnI c (k + 4)).fmod 5 = 0
 · refine ⟨ro, rd, bo.le (by decide), bd.le (by decide), hd0, λS => ?_⟩
   have hr := hray S
   apply zad
   · wtm_at "mx st"
     unfold zbx
     wtm_at "mx ev"
   · wtm_at "mx take"
   · rfl
 · have go : ∀ w : Pt, BdP 98 w → atI [pD rd, P3 (A.1 - B.1) (A.2.1 - B.2.1) (A.2.2 - B.2.2), P3 (A.1 + C.1 - 2 * B.1) (A.2.1 + C.2.1 - 2 * B.2.1) (A.2.2 + C.2.2 - 2 * B.2.2)] (((drawnI c (k + 4)).fmod 5).fmod 3) = some (pD w) →
       ∃ o d : Pt, BdP 120 o ∧ BdP 120 d ∧ d ≠ (0, 0, 0) ∧ ∀ S, za2 [.int c, .int k, .tup [pD A, pD B, pD C]] S = some (.tup [pD o, pD d], S) := λw hw hm => by
     by_cases hz : w = (0, 0, 0)
     · obtain ⟨o, ho, hf⟩ := zmb hA hB hC (bd.le (by decide)) hray h5 hm (zcJ.mpr hz)
       exact ⟨o, rd, ho, bd.le (by decide), hd0, hf⟩
     · obtain ⟨o, ho, hf⟩ := zn4 hA hB hC hw hray h5 hm (λe => hz (zcJ.mp e))
       exact ⟨o, w, ho, hw.le (by decide), hz, hf⟩
   obtain ⟨a1, a2, a3⟩ := id hA
   obtain ⟨b1, b2, b3⟩ := id hB
   obtain ⟨c1, c2, c3⟩ := id hC
   have two : ∀ x y z : Int, Bd 93 x → Bd 93 y → Bd 93 z → Bd 98 (x + z - 2 * y) := λx y z hx hy hz => ((hx.add hz).sub ((Bd.lit 2).mul hy)).le (by decide)
   rcases zj9 (x := pD rd) (y := P3 (A.1 - B.1) (A.2.1 - B.2.1) (A.2.2 - B.2.2)) (z := P3 (A.1 + C.1 - 2 * B.1) (A.2.1 + C.2.1 - 2 * B.2.1) (A.2.2 + C.2.2 - 2 * B.2.2)) (((drawnI c (k + 4)).fmod 5).fmod 3) (Int.fmod_nonneg_of_pos _ (by decide)) (Int.fmod_lt_of_pos _ (by decide)) with ⟨_, e⟩ | ⟨_, e⟩ | ⟨_, e⟩
   · exact go rd (bd.le (by decide)) e
   · exact go (A.1 - B.1, A.2.1 - B.2.1, A.2.2 - B.2.2) ⟨(a1.sub b1).le (by decide), (a2.sub b2).le (by decide), (a3.sub b3).le (by decide)⟩ e
   · exact go (A.1 + C.1 - 2 * B.1, A.2.1 + C.2.1 - 2 * B.2.1, A.2.2 + C.2.2 - 2 * B.2.2) ⟨two _ _ _ a1 b1 c1, two _ _ _ a2 b2 c2, two _ _ _ a3 b3 c3⟩ e
end MX.P
end
section
set_option autoImplicit false
local macro_rules | `(tactic| wtm_at "mx call") => `(tactic| first | (with_reducible assumption) | (with_reducible exact MX.P.sp_drawn _ _ _) | (with_reducible exact MX.P.sp_lway _ _ _) | (with_reducible exact MX.P.sp_time _ _ _))
namespace MX.P
open PySem L2 MX
instance (R L g : Pt) (q W x y : Int) : Decidable (okK R L g q W x y) := by unfold okK; infer_instance
instance (R L g : Pt) (q W x y : Int) : Decidable (signK R L g q W x y) := by unfold signK; infer_instance
instance (P : Pt) (q : Int) (a b c : Pt) : Decidable (inTriL P q a b c) := by unfold inTriL; infer_instance
theorem zc0 {k l : Nat} {gs ss : List D} {i j x y u v : Int} {S : So} (e1 : atI gs i = some (.int x)) (e2 : atI gs j = some (.int y)) (e3 : atI ss i = some (.int u)) (e4 : atI ss j = some (.int v)) (bx : Bd k x) (by' : Bd k y) (bu : Bd l u) (bv : Bd l v) (hk : k + l ≤ 134217000) :
   zar [.tup gs, .tup ss, .int i, .int j] S = some (.int (x * v - y * u), S) := by
 apply zad
 · wtm_at "mx st"
   unfold zbS
   wtm_at "mx ev"
 · wtm_at "mx take"
 · rfl
theorem zfg {k l : Nat} {n : Nat} {gs ss : List D} {i j x y u v : Int} {S : So} (hn : S[n]? = some (.lst ss)) (e1 : atI gs i = some (.int x)) (e2 : atI gs j = some (.int y)) (e3 : atI ss i = some (.int u)) (e4 : atI ss j = some (.int v)) (bx : Bd k x) (by' : Bd k y) (bu : Bd l u) (bv : Bd l v) (hk : k + l ≤ 134217000) :
   zar [.tup gs, .ref n, .int i, .int j] S = some (.int (x * v - y * u), S) := by
 apply zad
 · wtm_at "mx st"
   unfold zbS
   wtm_at "mx ev"
 · wtm_at "mx take"
 · rfl
def triTail : SF := (sSeq (sIf (tOrF (tBl (eB (gCmp .Lt) (eVar 12) (eC (.int 0)))) (tOrF (tBl (eB (gCmp .Lt) (eVar 13) (eC (.int 0)))) (tBl (eB (gCmp .Gt) (eB (gBin .Add) (eVar 12) (eVar 13)) (eB (gBin .Mult) (eVar 11) (eVar 1)))))) (sSeq (sRet (eC (.bl false))) (sPass)) (sPass)) (sSeq (sAsg (eLc (iRg1 (aCons (eC (.int 3)) (aNil))) (gNm 0) (tTru) (eB (gBin .Add) (eB (gBin .Mult) (eVar 2) (eB gIx (eVar 4) (eVar 0))) (eB (gBin .Mult) (eVar 3) (eB gIx (eVar 1) (eVar 0)))) [none, some 7, some 12, some 13, some 6]) (gNm 14)) (sSeq (sRet (eB (gCmp .Eq) (eVar 14) (eLc (iVal (eVar 8)) (gNm 0) (tTru) (eB (gBin .Mult) (eVar 0) (eVar 1)) [none, some 11]))) (sPass))))
theorem zh1 {S : So} {n i : Nat} {xs : List D} (h : S[n]? = some (.lst xs)) (h2 : xs[i]? = none) : nxD (.lst n) i S = some none := by
 show (match S[n]? with | some (.lst xs) => some xs[i]? | some (.frz xs) => some xs[i]? | _ => none) = _
 rw [h]
 exact congrArg some h2
section
variable {k n : Nat} {R L g : Pt} {q W x y : Int} {p0 p2 p3 p4 p5 p9 p10 p14 : Option D} {S : So}
open Classical in
theorem zgB (hn : S[n]? = some (.lst [.int g.1, .int g.2.1, .int g.2.2])) (hR : BdP k R) (hL : BdP k L) (hg : BdP k g) (bq : Bd k q) (bW : Bd k W) (bx : Bd k x) (by' : Bd k y) (hk : k ≤ 60000000) :
   ∃ σ' G, triTail [p0, some (.int q), p2, p3, p4, p5, some (pD R), some (pD L), some (.ref n), p9, p10, some (.int W), some (.int x), some (.int y), p14] S = some (.rt (.bl (decide (okK R L g q W x y))), σ', S ++ G) := by
 obtain ⟨r1, r2, r3⟩ := hR
 obtain ⟨l1, l2, l3⟩ := hL
 obtain ⟨g1, g2, g3⟩ := hg
 have t1 : tBl (eB (gCmp .Lt) (eVar 12) (eC (.int 0))) [p0, some (.int q), p2, p3, p4, p5, some (pD R), some (pD L), some (.ref n), p9, p10, some (.int W), some (.int x), some (.int y), p14] S = some (decide (x < 0), S) := by wtm_at "mx ev"
 have t2 : tBl (eB (gCmp .Lt) (eVar 13) (eC (.int 0))) [p0, some (.int q), p2, p3, p4, p5, some (pD R), some (pD L), some (.ref n), p9, p10, some (.int W), some (.int x), some (.int y), p14] S = some (decide (y < 0), S) := by wtm_at "mx ev"
 have t3 : tBl (eB (gCmp .Gt) (eB (gBin .Add) (eVar 12) (eVar 13)) (eB (gBin .Mult) (eVar 11) (eVar 1))) [p0, some (.int q), p2, p3, p4, p5, some (pD R), some (pD L), some (.ref n), p9, p10, some (.int W), some (.int x), some (.int y), p14] S = some (decide (x + y > W * q), S) := by wtm_at "mx ev"
 unfold triTail
 by_cases q1 : x < 0
 · rw [za3 (show ¬ okK R L g q W x y from λh => by have := h.1; omega)]
   exact ⟨_, [], by rw [List.append_nil]; exact zac (zaD (zbA t1 (zaF (zcn q1) rfl)) (zaF rfl (zac (zaG zaX) zao))) zao⟩
 by_cases q2 : y < 0
 · rw [za3 (show ¬ okK R L g q W x y from λh => by have := h.2.1; omega)]
   exact ⟨_, [], by rw [List.append_nil]; exact zac (zaD (zbA t1 (zaz (za3 q1) (zbA t2 (zaF (zcn q2) rfl)))) (zaF rfl (zac (zaG zaX) zao))) zao⟩
 by_cases q3 : x + y > W * q
 · rw [za3 (show ¬ okK R L g q W x y from λh => by have := h.2.2.1; omega)]
   exact ⟨_, [], by rw [List.append_nil]; exact zac (zaD (zbA t1 (zaz (za3 q1) (zbA t2 (zaz (za3 q2) t3)))) (zaF (zcn q3) (zac (zaG zaX) zao))) zao⟩
 have e1 : eLc (iRg1 (aCons (eC (.int 3)) (aNil))) (gNm 0) (tTru) (eB (gBin .Add) (eB (gBin .Mult) (eVar 2) (eB gIx (eVar 4) (eVar 0))) (eB (gBin .Mult) (eVar 3) (eB gIx (eVar 1) (eVar 0)))) [none, some 7, some 12, some 13, some 6]
     [p0, some (.int q), p2, p3, p4, p5, some (pD R), some (pD L), some (.ref n), p9, p10, some (.int W), some (.int x), some (.int y), p14] S = some (.ref S.length, S ++ [.lst [.int (x * R.1 + y * L.1), .int (x * R.2.1 + y * L.2.1), .int (x * R.2.2 + y * L.2.2)]]) := by wtm_at "mx ev"
 have hn' : (S ++ [O.lst [.int (x * R.1 + y * L.1), .int (x * R.2.1 + y * L.2.1), .int (x * R.2.2 + y * L.2.2)]])[n]? = some (.lst [.int g.1, .int g.2.1, .int g.2.2]) := zcI hn
 have hm : (S ++ [O.lst [.int (x * R.1 + y * L.1), .int (x * R.2.1 + y * L.2.1), .int (x * R.2.2 + y * L.2.2)]])[S.length]? = some (.lst [.int (x * R.1 + y * L.1), .int (x * R.2.1 + y * L.2.1), .int (x * R.2.2 + y * L.2.2)]) := zaT
 refine ⟨[p0, some (.int q), p2, p3, p4, p5, some (pD R), some (pD L), some (.ref n), p9, p10, some (.int W), some (.int x), some (.int y), some (.ref S.length)], [.lst [.int (x * R.1 + y * L.1), .int (x * R.2.1 + y * L.2.1), .int (x * R.2.2 + y * L.2.2)]] ++ [.lst [.int (g.1 * W), .int (g.2.1 * W), .int (g.2.2 * W)]], ?_⟩
 rw [← List.append_assoc]
 generalize hT : S ++ [O.lst [.int (x * R.1 + y * L.1), .int (x * R.2.1 + y * L.2.1), .int (x * R.2.2 + y * L.2.2)]] = T at *
 have e2 : eLc (iVal (eVar 8)) (gNm 0) (tTru) (eB (gBin .Mult) (eVar 0) (eVar 1)) [none, some 11]
     [p0, some (.int q), p2, p3, p4, p5, some (pD R), some (pD L), some (.ref n), p9, p10, some (.int W), some (.int x), some (.int y), some (.ref S.length)] T = some (.ref T.length, T ++ [.lst [.int (g.1 * W), .int (g.2.1 * W), .int (g.2.2 * W)]]) := by
   refine zhr (σ1 := [none, some (.int W)]) (j := .lst n) (n := 3) (S1 := T) (S2 := T) (zbZ (zaa rfl) hn') ?_ (Nat.le_of_ble_eq_true rfl) rfl ?_
   · show (match T[n]? with | some (.lst xs) => some xs.length | some (.frz xs) => some xs.length | _ => none) = _
     rw [hn']; rfl
   · refine zc7 (d := .int g.1) (zaM hn' rfl) rfl zb7 (zav (zaa rfl) (zaa rfl) (zdt (zbk g1 bW (by omega)))) rfl ?_
     refine zc7 (d := .int g.2.1) (zaM hn' rfl) rfl zb7 (zav (zaa rfl) (zaa rfl) (zdt (zbk g2 bW (by omega)))) rfl ?_
     refine zc7 (d := .int g.2.2) (zaM hn' rfl) rfl zb7 (zav (zaa rfl) (zaa rfl) (zdt (zbk g3 bW (by omega)))) rfl ?_
     exact zgN (zh1 hn' rfl)
 have hb : decide (okK R L g q W x y) = decide ([D.int (x * R.1 + y * L.1), .int (x * R.2.1 + y * L.2.1), .int (x * R.2.2 + y * L.2.2)] = [D.int (g.1 * W), .int (g.2.1 * W), .int (g.2.2 * W)]) := by
   rw [Bool.eq_iff_iff, decide_eq_true_eq, decide_eq_true_eq]
   unfold okK
   simp only [List.cons.injEq, D.int.injEq, and_true]
   constructor
   · rintro ⟨_, _, _, a, b, c⟩; exact ⟨a, b, c⟩
   · rintro ⟨a, b, c⟩; exact ⟨by omega, by omega, by omega, a, b, c⟩
 rw [hb]
 refine zac (zaD (zbA t1 (zaz (za3 q1) (zbA t2 (zaz (za3 q2) t3)))) (zaz (za3 q3) zak)) (zaf (zac (zaj e1 rfl) (zaf (zac (zaG (zav (zaa rfl) e2 ?_)) zao))))
 refine zkr 1 (.inl (zcI hm)) (.inl zaT) ?_ ?_ (by decide)
 · intro z hz
   simp only [List.mem_cons, List.mem_nil_iff, or_false] at hz
   rcases hz with e | e | e <;> subst e <;> rfl
 · intro z hz
   simp only [List.mem_cons, List.mem_nil_iff, or_false] at hz
   rcases hz with e | e | e <;> subst e <;> rfl
theorem zd5 {i j : Int} {p11 p12 p13 : Option D} (hf : zar [pD R, pD L, .int i, .int j] S = some (.int 0, S)) :
   zay [p0, some (.int q), p2, p3, p4, p5, some (pD R), some (pD L), some (.ref n), some (.int i), some (.int j), p11, p12, p13, p14] S
     = some (.nx, [p0, some (.int q), p2, p3, p4, p5, some (pD R), some (pD L), some (.ref n), some (.int i), some (.int j), some (.int 0), p12, p13, p14], S) := by
 unfold zay zaR zaQ
 refine zac (zaj (zaH (zab (zaa rfl) (zab (zaa rfl) (zab (zaa rfl) (zab (zaa rfl) zal)))) (zai rfl hf)) rfl) (zaf ?_)
 exact zac (zaD (b := false) (S1 := S) rfl (zaz rfl zak)) (zaf zak)
theorem zd4 {i j : Int} {p11 p12 p13 : Option D} (hf : zar [pD R, pD L, .int i, .int j] S = some (.int W, S)) (hx : zar [.ref n, pD L, .int i, .int j] S = some (.int x, S)) (hy : zar [pD R, .ref n, .int i, .int j] S = some (.int y, S)) (h0 : W ≠ 0)
   (hn : S[n]? = some (.lst [.int g.1, .int g.2.1, .int g.2.2])) (hR : BdP k R) (hL : BdP k L) (hg : BdP k g) (bq : Bd k q) (bW : Bd k W) (bx : Bd k x) (by' : Bd k y) (hk : k ≤ 60000000) :
   ∃ σ' G, zay [p0, some (.int q), p2, p3, p4, p5, some (pD R), some (pD L), some (.ref n), some (.int i), some (.int j), p11, p12, p13, p14] S
     = some (.rt (.bl (decide (signK R L g q W x y))), σ', S ++ G) := by
 have tne : ∀ p12 p13, tBl (eB (gCmp .NotEq) (eVar 11) (eC (.int 0))) [p0, some (.int q), p2, p3, p4, p5, some (pD R), some (pD L), some (.ref n), some (.int i), some (.int j), some (.int W), p12, p13, p14] S = some (true, S) := λp12 p13 => by
   have : tBl (eB (gCmp .NotEq) (eVar 11) (eC (.int 0))) [p0, some (.int q), p2, p3, p4, p5, some (pD R), some (pD L), some (.ref n), some (.int i), some (.int j), some (.int W), p12, p13, p14] S = some (!decide (W = 0), S) := by wtm_at "mx ev"
   rw [this, za3 h0]; rfl
 have tlt : tBl (eB (gCmp .Lt) (eVar 11) (eC (.int 0))) [p0, some (.int q), p2, p3, p4, p5, some (pD R), some (pD L), some (.ref n), some (.int i), some (.int j), some (.int W), some (.int x), some (.int y), p14] S = some (decide (W < 0), S) := by wtm_at "mx ev"
 unfold zay zaR zaQ signK
 by_cases hw : W < 0
 · rw [show decide (if W < 0 then okK R L g q (0 - W) (0 - x) (0 - y) else okK R L g q W x y) = decide (okK R L g q (0 - W) (0 - x) (0 - y)) from by congr 1; rw [if_pos hw]]
   obtain ⟨σ', G, e⟩ := zgB (p0 := p0) (p2 := p2) (p3 := p3) (p4 := p4) (p5 := p5) (p9 := some (.int i)) (p10 := some (.int j)) (p14 := p14) (q := q) (W := 0 - W) (x := 0 - x) (y := 0 - y) hn hR hL hg bq (by rw [Int.zero_sub]; exact bW.neg) (by rw [Int.zero_sub]; exact bx.neg) (by rw [Int.zero_sub]; exact by'.neg) hk
   refine ⟨σ', G, ?_⟩
   refine zac (zaj (zaH (zab (zaa rfl) (zab (zaa rfl) (zab (zaa rfl) (zab (zaa rfl) zal)))) (zai rfl hf)) rfl) (zaf ?_)
   refine zac (zaD (tne _ _) (zaF rfl ?_)) zao
   refine zac (zaj (zaH (zab (zaa rfl) (zab (zaa rfl) (zab (zaa rfl) (zab (zaa rfl) zal)))) (zai rfl hx)) rfl) (zaf ?_)
   refine zac (zaj (zaH (zab (zaa rfl) (zab (zaa rfl) (zab (zaa rfl) (zab (zaa rfl) zal)))) (zai rfl hy)) rfl) (zaf ?_)
   refine zac (zaD tlt (zaF (zcn hw) (zac (zaj (zaH (ds := [.int (0 - x), .int (0 - y), .int (0 - W)]) (S1 := S) rfl rfl) rfl) (zaf zak)))) (zaf ?_)
   exact e
 · rw [show decide (if W < 0 then okK R L g q (0 - W) (0 - x) (0 - y) else okK R L g q W x y) = decide (okK R L g q W x y) from by congr 1; rw [if_neg hw]]
   obtain ⟨σ', G, e⟩ := zgB (p0 := p0) (p2 := p2) (p3 := p3) (p4 := p4) (p5 := p5) (p9 := some (.int i)) (p10 := some (.int j)) (p14 := p14) (q := q) (W := W) (x := x) (y := y) hn hR hL hg bq bW bx by' hk
   refine ⟨σ', G, ?_⟩
   refine zac (zaj (zaH (zab (zaa rfl) (zab (zaa rfl) (zab (zaa rfl) (zab (zaa rfl) zal)))) (zai rfl hf)) rfl) (zaf ?_)
   refine zac (zaD (tne _ _) (zaF rfl ?_)) zao
   refine zac (zaj (zaH (zab (zaa rfl) (zab (zaa rfl) (zab (zaa rfl) (zab (zaa rfl) zal)))) (zai rfl hx)) rfl) (zaf ?_)
   refine zac (zaj (zaH (zab (zaa rfl) (zab (zaa rfl) (zab (zaa rfl) (zab (zaa rfl) zal)))) (zai rfl hy)) rfl) (zaf ?_)
   refine zac (zaD tlt (zaz (za3 hw) zak)) (zaf ?_)
   exact e
end
theorem zeK {k : Nat} {P a b c : Pt} {q : Int} (hP : BdP k P) (ha : BdP k a) (hb : BdP k b) (hc : BdP k c) (hq : Bd k q) (hk : k ≤ 3000) (S : So) :
   zaK [pD P, .int q, .tup [pD a, pD b, pD c]] S = some (.bl (decide (inTriL P q a b c)), S) := by
 have bR := (ha.wb hb).le (show max k k + 1 ≤ 4 * k + 4 by omega)
 have bL := (ha.wb hc).le (show max k k + 1 ≤ 4 * k + 4 by omega)
 have bR' := (ha.wb hb).le (show max k k + 1 ≤ k + 1 by omega)
 have bL' := (ha.wb hc).le (show max k k + 1 ≤ k + 1 by omega)
 have bg' := zkl (hP.le (show k ≤ 2 * k by omega)) ha hq (Nat.le_refl _)
 have bg := bg'.le (show 2 * k + 1 ≤ 4 * k + 4 by omega)
 have bq := hq.le (show k ≤ 4 * k + 4 by omega)
 have gl : eLc (iRg1 (aCons (eC (.int 3)) (aNil))) (gNm 0) (tTru) (eB (gBin .Sub) (eB gIx (eVar 2) (eVar 0)) (eB (gBin .Mult) (eB gIx (eVar 1) (eVar 0)) (eVar 3))) [none, some 3, some 0, some 1]
     [some (pD P), some (.int q), some (.tup [pD a, pD b, pD c]), some (pD a), some (pD b), some (pD c), some (pD (wb a b)), some (pD (wb a c)), none, none, none, none, none, none, none] S = some (.ref S.length, S ++ [.lst [.int (gapP P a q).1, .int (gapP P a q).2.1, .int (gapP P a q).2.2]]) := by
   obtain ⟨p1, p2, p3⟩ := hP
   obtain ⟨a1, a2, a3⟩ := ha
   unfold gapP
   wtm_at "mx ev"
 have hn0 : (S ++ [O.lst [.int (gapP P a q).1, .int (gapP P a q).2.1, .int (gapP P a q).2.2]])[S.length]? = some (.lst [.int (gapP P a q).1, .int (gapP P a q).2.1, .int (gapP P a q).2.2]) := zaT
 have hpre : S ++ [O.lst [.int (gapP P a q).1, .int (gapP P a q).2.1, .int (gapP P a q).2.2]] = S ++ ([O.lst [.int (gapP P a q).1, .int (gapP P a q).2.1, .int (gapP P a q).2.2]]) := rfl
 have hn : (S ++ [O.lst [.int (gapP P a q).1, .int (gapP P a q).2.1, .int (gapP P a q).2.2]] ++ [O.lst [R2 0 1, R2 1 2, R2 2 0]])[S.length]? = some (.lst [.int (gapP P a q).1, .int (gapP P a q).2.1, .int (gapP P a q).2.2]) := zcI hn0
 have hm : (S ++ [O.lst [.int (gapP P a q).1, .int (gapP P a q).2.1, .int (gapP P a q).2.2]] ++ [O.lst [R2 0 1, R2 1 2, R2 2 0]])[(S ++ [O.lst [.int (gapP P a q).1, .int (gapP P a q).2.1, .int (gapP P a q).2.2]]).length]? = some (.lst [R2 0 1, R2 1 2, R2 2 0]) := zaT
 have it : ∀ (σ : Sg) (T : So), iVal (eN gLst (aCons (eN gTup (aCons (eC (.int 0)) (aCons (eC (.int 1)) (aNil)))) (aCons (eN gTup (aCons (eC (.int 1)) (aCons (eC (.int 2)) (aNil)))) (aCons (eN gTup (aCons (eC (.int 2)) (aCons (eC (.int 0)) (aNil)))) (aNil))))) σ T = some (.lst T.length, T ++ [O.lst [R2 0 1, R2 1 2, R2 2 0]]) := λσ T => zbZ (xs := [R2 0 1, R2 1 2, R2 2 0]) rfl zaT
 have tk : ∀ G : So, (S ++ [O.lst [.int (gapP P a q).1, .int (gapP P a q).2.1, .int (gapP P a q).2.2]] ++ [O.lst [R2 0 1, R2 1 2, R2 2 0]] ++ G).take S.length = S := λG => by rw [List.append_assoc, List.append_assoc]; simp
 have tk0 : (S ++ [O.lst [.int (gapP P a q).1, .int (gapP P a q).2.1, .int (gapP P a q).2.2]] ++ [O.lst [R2 0 1, R2 1 2, R2 2 0]]).take S.length = S := by rw [List.append_assoc]; simp
 generalize hT : S ++ [O.lst [.int (gapP P a q).1, .int (gapP P a q).2.1, .int (gapP P a q).2.2]] = T at *
 generalize hU : T ++ [O.lst [R2 0 1, R2 1 2, R2 2 0]] = U at *
 have it' : ∀ σ : Sg, iVal (eN gLst (aCons (eN gTup (aCons (eC (.int 0)) (aCons (eC (.int 1)) (aNil)))) (aCons (eN gTup (aCons (eC (.int 1)) (aCons (eC (.int 2)) (aNil)))) (aCons (eN gTup (aCons (eC (.int 2)) (aCons (eC (.int 0)) (aNil)))) (aNil))))) σ T = some (.lst T.length, U) := λσ => by rw [← hU]; exact it σ T
 obtain ⟨r1, r2, r3⟩ := id bR'
 obtain ⟨l1, l2, l3⟩ := id bL'
 obtain ⟨g1, g2, g3⟩ := id bg'
 have cnt : cntD (.lst T.length) U = some 3 := by
   show (match U[T.length]? with | some (.lst xs) => some xs.length | some (.frz xs) => some xs.length | _ => none) = _
   rw [hm]; rfl
 have w01 := zc0 (S := U) (i := 0) (j := 1) (gs := [.int (wb a b).1, .int (wb a b).2.1, .int (wb a b).2.2]) (ss := [.int (wb a c).1, .int (wb a c).2.1, .int (wb a c).2.2]) rfl rfl rfl rfl r1 r2 l1 l2 (by omega)
 have x01 := zc1 (i := 0) (j := 1) (ss := [.int (wb a c).1, .int (wb a c).2.1, .int (wb a c).2.2]) hn rfl rfl rfl rfl g1 g2 l1 l2 (by omega)
 have y01 := zfg (i := 0) (j := 1) (gs := [.int (wb a b).1, .int (wb a b).2.1, .int (wb a b).2.2]) hn rfl rfl rfl rfl r1 r2 g1 g2 (by omega)
 have w12 := zc0 (S := U) (i := 1) (j := 2) (gs := [.int (wb a b).1, .int (wb a b).2.1, .int (wb a b).2.2]) (ss := [.int (wb a c).1, .int (wb a c).2.1, .int (wb a c).2.2]) rfl rfl rfl rfl r2 r3 l2 l3 (by omega)
 have x12 := zc1 (i := 1) (j := 2) (ss := [.int (wb a c).1, .int (wb a c).2.1, .int (wb a c).2.2]) hn rfl rfl rfl rfl g2 g3 l2 l3 (by omega)
 have y12 := zfg (i := 1) (j := 2) (gs := [.int (wb a b).1, .int (wb a b).2.1, .int (wb a b).2.2]) hn rfl rfl rfl rfl r2 r3 g2 g3 (by omega)
 have w20 := zc0 (S := U) (i := 2) (j := 0) (gs := [.int (wb a b).1, .int (wb a b).2.1, .int (wb a b).2.2]) (ss := [.int (wb a c).1, .int (wb a c).2.1, .int (wb a c).2.2]) rfl rfl rfl rfl r3 r1 l3 l1 (by omega)
 have x20 := zc1 (i := 2) (j := 0) (ss := [.int (wb a c).1, .int (wb a c).2.1, .int (wb a c).2.2]) hn rfl rfl rfl rfl g3 g1 l3 l1 (by omega)
 have y20 := zfg (i := 2) (j := 0) (gs := [.int (wb a b).1, .int (wb a b).2.1, .int (wb a b).2.2]) hn rfl rfl rfl rfl r3 r1 g3 g1 (by omega)
 have bd : ∀ {k' l' : Nat} {x y u v : Int}, Bd k' x → Bd k' y → Bd l' u → Bd l' v → k' ≤ 2 * k + 1 → l' ≤ 2 * k + 1 → k' + l' ≤ 3 * k + 2 → Bd (4 * k + 4) (x * v - y * u) := λhx hy hu hv h1 h2 h3 => ((hx.mul hv).sub (hy.mul hu)).le (by omega)
 have go : ∀ r σ' S', S'.take S.length = S →
     sSeq zbD (sSeq zbC sPass) [some (pD P), some (.int q), some (.tup [pD a, pD b, pD c]), some (pD a), some (pD b), some (pD c), some (pD (wb a b)), some (pD (wb a c)), some (.ref S.length), none, none, none, none, none, none] T = some (.rt (.bl r), σ', S') →
     zaK [pD P, .int q, .tup [pD a, pD b, pD c]] S = some (.bl r, S) := λr σ' S' ht e => by
   refine zad (σ' := σ') (S' := S') ?_ ht rfl
   wtm_at "mx st"
   unfold zbb zbH zbG zbF zbE
   refine zac (zaj (zaa rfl) rfl) (zaf ?_)
   refine zac (zaj (zaH (zab (zaa rfl) (zab (zaa rfl) zal)) (zai rfl (sp_lway a b _))) rfl) (zaf ?_)
   refine zac (zaj (zaH (zab (zaa rfl) (zab (zaa rfl) zal)) (zai rfl (sp_lway a c _))) rfl) (zaf ?_)
   exact zac (zaj gl rfl) (zaf e)
 unfold inTriL
 by_cases h0 : (vcross (wb a b) (wb a c)).2.2 = 0
 · rw [show ((wb a b).1 * (wb a c).2.1 - (wb a b).2.1 * (wb a c).1) = 0 from h0] at w01
   have q0 := zd5 (p0 := some (pD P)) (p2 := some (.tup [pD a, pD b, pD c])) (p3 := some (pD a)) (p4 := some (pD b)) (p5 := some (pD c)) (p11 := none) (p12 := none) (p13 := none) (p14 := none) (n := S.length) (q := q) w01
   by_cases h1 : (vcross (wb a b) (wb a c)).1 = 0
   · rw [show ((wb a b).2.1 * (wb a c).2.2 - (wb a b).2.2 * (wb a c).2.1) = 0 from h1] at w12
     have q1 := zd5 (p0 := some (pD P)) (p2 := some (.tup [pD a, pD b, pD c])) (p3 := some (pD a)) (p4 := some (pD b)) (p5 := some (pD c)) (p11 := some (.int 0)) (p12 := none) (p13 := none) (p14 := none) (n := S.length) (q := q) w12
     by_cases h2 : (vcross (wb a b) (wb a c)).2.1 = 0
     · rw [show ((wb a b).2.2 * (wb a c).1 - (wb a b).1 * (wb a c).2.2) = 0 from h2] at w20
       have q2 := zd5 (p0 := some (pD P)) (p2 := some (.tup [pD a, pD b, pD c])) (p3 := some (pD a)) (p4 := some (pD b)) (p5 := some (pD c)) (p11 := some (.int 0)) (p12 := none) (p13 := none) (p14 := none) (n := S.length) (q := q) w20
       have o1 := zkM hP ha hb hq (by omega) U
       have o2 := zkM hP hb hc hq (by omega) U
       have o3 := zkM hP hc ha hq (by omega) U
       rw [show decide (if (vcross (wb a b) (wb a c)).2.2 ≠ 0 then signK (wb a b) (wb a c) (gapP P a q) q (vcross (wb a b) (wb a c)).2.2 (vcross (gapP P a q) (wb a c)).2.2 (vcross (wb a b) (gapP P a q)).2.2
         else if (vcross (wb a b) (wb a c)).1 ≠ 0 then signK (wb a b) (wb a c) (gapP P a q) q (vcross (wb a b) (wb a c)).1 (vcross (gapP P a q) (wb a c)).1 (vcross (wb a b) (gapP P a q)).1
         else if (vcross (wb a b) (wb a c)).2.1 ≠ 0 then signK (wb a b) (wb a c) (gapP P a q) q (vcross (wb a b) (wb a c)).2.1 (vcross (gapP P a q) (wb a c)).2.1 (vcross (wb a b) (gapP P a q)).2.1
         else onS P q a b ∨ onS P q b c ∨ onS P q c a) = (decide (onS P q a b) || (decide (onS P q b c) || decide (onS P q c a))) from by
           rw [Bool.eq_iff_iff]; simp [h0, h1, h2]]
       refine go _ _ U tk0 (zac (zbO (it' _) cnt (zas (zaM hm rfl) rfl q0 (zaA (zas (zaM hm rfl) rfl q1 (zaA (zas (zaM hm rfl) rfl q2 (zaA (zdh (zh1 hm rfl))))))))) (zaf (zac (zaG (zfO (zaH (zab (zaa rfl) (zab (zaa rfl) (zab (zaa rfl) (zab (zaa rfl) zal)))) (zai rfl o1)) ?_)) zao)))
       by_cases c1 : onS P q a b
       · rw [zcn c1]; exact zaF rfl rfl
       · rw [za3 c1, Bool.false_or]
         refine zaz rfl (zfO (zaH (zab (zaa rfl) (zab (zaa rfl) (zab (zaa rfl) (zab (zaa rfl) zal)))) (zai rfl o2)) ?_)
         by_cases c2 : onS P q b c
         · rw [zcn c2]; exact zaF rfl rfl
         · rw [za3 c2, Bool.false_or]
           exact zaz rfl (zaH (zab (zaa rfl) (zab (zaa rfl) (zab (zaa rfl) (zab (zaa rfl) zal)))) (zai rfl o3))
     · obtain ⟨σ', G, q2⟩ := zd4 (p0 := some (pD P)) (p2 := some (.tup [pD a, pD b, pD c])) (p3 := some (pD a)) (p4 := some (pD b)) (p5 := some (pD c)) (p11 := some (.int 0)) (p12 := none) (p13 := none) (p14 := none) (q := q) w20 x20 y20 h2 hn bR bL bg bq (bd r3 r1 l3 l1 (by omega) (by omega) (by omega)) (bd g3 g1 l3 l1 (by omega) (by omega) (by omega)) (bd r3 r1 g3 g1 (by omega) (by omega) (by omega)) (by omega)
       rw [show decide (if (vcross (wb a b) (wb a c)).2.2 ≠ 0 then signK (wb a b) (wb a c) (gapP P a q) q (vcross (wb a b) (wb a c)).2.2 (vcross (gapP P a q) (wb a c)).2.2 (vcross (wb a b) (gapP P a q)).2.2
         else if (vcross (wb a b) (wb a c)).1 ≠ 0 then signK (wb a b) (wb a c) (gapP P a q) q (vcross (wb a b) (wb a c)).1 (vcross (gapP P a q) (wb a c)).1 (vcross (wb a b) (gapP P a q)).1
         else if (vcross (wb a b) (wb a c)).2.1 ≠ 0 then signK (wb a b) (wb a c) (gapP P a q) q (vcross (wb a b) (wb a c)).2.1 (vcross (gapP P a q) (wb a c)).2.1 (vcross (wb a b) (gapP P a q)).2.1
         else onS P q a b ∨ onS P q b c ∨ onS P q c a) = decide (signK (wb a b) (wb a c) (gapP P a q) q (vcross (wb a b) (wb a c)).2.1 (vcross (gapP P a q) (wb a c)).2.1 (vcross (wb a b) (gapP P a q)).2.1) from by
           rw [Bool.eq_iff_iff]; simp [h0, h1, h2]]
       exact go _ _ (U ++ G) (tk G) (zac (zbO (it' _) cnt (zas (zaM hm rfl) rfl q0 (zaA (zas (zaM hm rfl) rfl q1 (zaA (zas (zaM hm rfl) rfl q2 zdd)))))) zao)
   · obtain ⟨σ', G, q1⟩ := zd4 (p0 := some (pD P)) (p2 := some (.tup [pD a, pD b, pD c])) (p3 := some (pD a)) (p4 := some (pD b)) (p5 := some (pD c)) (p11 := some (.int 0)) (p12 := none) (p13 := none) (p14 := none) (q := q) w12 x12 y12 h1 hn bR bL bg bq (bd r2 r3 l2 l3 (by omega) (by omega) (by omega)) (bd g2 g3 l2 l3 (by omega) (by omega) (by omega)) (bd r2 r3 g2 g3 (by omega) (by omega) (by omega)) (by omega)
     rw [show decide (if (vcross (wb a b) (wb a c)).2.2 ≠ 0 then signK (wb a b) (wb a c) (gapP P a q) q (vcross (wb a b) (wb a c)).2.2 (vcross (gapP P a q) (wb a c)).2.2 (vcross (wb a b) (gapP P a q)).2.2
       else if (vcross (wb a b) (wb a c)).1 ≠ 0 then signK (wb a b) (wb a c) (gapP P a q) q (vcross (wb a b) (wb a c)).1 (vcross (gapP P a q) (wb a c)).1 (vcross (wb a b) (gapP P a q)).1
       else if (vcross (wb a b) (wb a c)).2.1 ≠ 0 then signK (wb a b) (wb a c) (gapP P a q) q (vcross (wb a b) (wb a c)).2.1 (vcross (gapP P a q) (wb a c)).2.1 (vcross (wb a b) (gapP P a q)).2.1
       else onS P q a b ∨ onS P q b c ∨ onS P q c a) = decide (signK (wb a b) (wb a c) (gapP P a q) q (vcross (wb a b) (wb a c)).1 (vcross (gapP P a q) (wb a c)).1 (vcross (wb a b) (gapP P a q)).1) from by
         rw [Bool.eq_iff_iff]; simp [h0, h1]]
     exact go _ _ (U ++ G) (tk G) (zac (zbO (it' _) cnt (zas (zaM hm rfl) rfl q0 (zaA (zas (zaM hm rfl) rfl q1 zdd)))) zao)
 · obtain ⟨σ', G, q0⟩ := zd4 (p0 := some (pD P)) (p2 := some (.tup [pD a, pD b, pD c])) (p3 := some (pD a)) (p4 := some (pD b)) (p5 := some (pD c)) (p11 := none) (p12 := none) (p13 := none) (p14 := none) (q := q) w01 x01 y01 h0 hn bR bL bg bq (bd r1 r2 l1 l2 (by omega) (by omega) (by omega)) (bd g1 g2 l1 l2 (by omega) (by omega) (by omega)) (bd r1 r2 g1 g2 (by omega) (by omega) (by omega)) (by omega)
   rw [show decide (if (vcross (wb a b) (wb a c)).2.2 ≠ 0 then signK (wb a b) (wb a c) (gapP P a q) q (vcross (wb a b) (wb a c)).2.2 (vcross (gapP P a q) (wb a c)).2.2 (vcross (wb a b) (gapP P a q)).2.2
     else if (vcross (wb a b) (wb a c)).1 ≠ 0 then signK (wb a b) (wb a c) (gapP P a q) q (vcross (wb a b) (wb a c)).1 (vcross (gapP P a q) (wb a c)).1 (vcross (wb a b) (gapP P a q)).1
     else if (vcross (wb a b) (wb a c)).2.1 ≠ 0 then signK (wb a b) (wb a c) (gapP P a q) q (vcross (wb a b) (wb a c)).2.1 (vcross (gapP P a q) (wb a c)).2.1 (vcross (wb a b) (gapP P a q)).2.1
     else onS P q a b ∨ onS P q b c ∨ onS P q c a) = decide (signK (wb a b) (wb a c) (gapP P a q) q (vcross (wb a b) (wb a c)).2.2 (vcross (gapP P a q) (wb a c)).2.2 (vcross (wb a b) (gapP P a q)).2.2) from by
       rw [Bool.eq_iff_iff]; simp [h0]]
   exact go _ _ (U ++ G) (tk G) (zac (zbO (it' _) cnt (zas (zaM hm rfl) rfl q0 zdd)) zao)
end MX.P
end
section
set_option autoImplicit false
local macro_rules | `(tactic| wtm_at "mx call") => `(tactic| (with_reducible assumption))
namespace MX.P
open PySem L2 MX
theorem zfb {k : Nat} {a b : Int} (ha : Bd k a) (hb : Bd k b) : Bd k (timeN a b).1 ∧ Bd k (timeN a b).2 := by
 unfold timeN
 split
 · exact ⟨by show Bd k (0 - a); rw [Int.zero_sub]; exact ha.neg, by show Bd k (0 - b); rw [Int.zero_sub]; exact hb.neg⟩
 · exact ⟨ha, hb⟩
theorem zfu {k : Nat} {o d a : Pt} (ho : BdP k o) (hd : BdP k d) (ha : BdP k a) : ∀ t ∈ comeL o d a, Bd (k + 1) t.1 ∧ Bd (k + 1) t.2 := by
 intro t ht
 obtain ⟨o1, o2, o3⟩ := ho
 obtain ⟨d1, d2, d3⟩ := hd
 obtain ⟨a1, a2, a3⟩ := ha
 have f : ∀ x y z : Int, Bd k x → Bd k y → Bd k z → Bd (k + 1) (timeN (x - y) z).1 ∧ Bd (k + 1) (timeN (x - y) z).2 := λx y z hx hy hz => zfb ((hx.sub hy).le (by omega)) (hz.le (by omega))
 unfold comeL at ht
 simp only [List.mem_append] at ht
 rcases ht with ht | ht | ht <;> split at ht <;> simp only [List.mem_cons, List.mem_nil_iff, or_false] at ht <;> first | exact ht.elim | (subst ht; apply f <;> assumption)
theorem ziN {k : Nat} {a1 a2 d1 d2 e1 e2 : Int} (h1 : Bd k a1) (h2 : Bd k a2) (h3 : Bd k d1) (h4 : Bd k d2) (h5 : Bd k e1) (h6 : Bd k e2) : ∀ t ∈ crs a1 a2 d1 d2 e1 e2, Bd (2 * k + 1) t.1 ∧ Bd (2 * k + 1) t.2 := by
 intro t ht
 unfold crs at ht
 split at ht <;> simp only [List.mem_cons, List.mem_nil_iff, or_false] at ht
 subst ht
 exact zfb (((h1.mul h6).sub (h2.mul h5)).le (by omega)) (((h3.mul h6).sub (h4.mul h5)).le (by omega))
theorem zj4 {k : Nat} {o d a b : Pt} (ho : BdP k o) (hd : BdP k d) (ha : BdP k a) (hb : BdP k b) : ∀ t ∈ candS o d a b, Bd (2 * k + 3) t.1 ∧ Bd (2 * k + 3) t.2 ∧ 0 < t.2 := by
 intro t ht
 have hp := ziQ t ht
 have w1 := (ho.wb ha).le (show max k k + 1 ≤ k + 1 by omega)
 have w2 := (ha.wb hb).le (show max k k + 1 ≤ k + 1 by omega)
 have hd' := hd.le (show k ≤ k + 1 by omega)
 unfold candS crossL at ht
 simp only [List.mem_cons, List.mem_append] at ht
 have cr : ∀ {t : Int × Int}, (Bd (2 * (k + 1) + 1) t.1 ∧ Bd (2 * (k + 1) + 1) t.2) → Bd (2 * k + 3) t.1 ∧ Bd (2 * k + 3) t.2 := λh => ⟨h.1.le (by omega), h.2.le (by omega)⟩
 have cm : ∀ {t : Int × Int}, (Bd (k + 1) t.1 ∧ Bd (k + 1) t.2) → Bd (2 * k + 3) t.1 ∧ Bd (2 * k + 3) t.2 := λh => ⟨h.1.le (by omega), h.2.le (by omega)⟩
 have fin : Bd (2 * k + 3) t.1 ∧ Bd (2 * k + 3) t.2 := by
   rcases ht with ht | ht | ht | ht | ht | ht
   · subst ht; exact ⟨(Bd.lit 0).le (Nat.zero_le _), (Bd.lit 1).le (show 1 ≤ 2 * k + 3 by omega)⟩
   · exact cm (zfu ho hd ha t ht)
   · exact cm (zfu ho hd hb t ht)
   · exact cr (ziN w1.1 w1.2.1 hd'.1 hd'.2.1 w2.1 w2.2.1 t ht)
   · exact cr (ziN w1.2.1 w1.2.2 hd'.2.1 hd'.2.2 w2.2.1 w2.2.2 t ht)
   · exact cr (ziN w1.2.2 w1.1 hd'.2.2 hd'.1 w2.2.2 w2.1 t ht)
 exact ⟨fin.1, fin.2, hp⟩
theorem zn3 {k l : Nat} {o d : Pt} {t : Int × Int} (ho : BdP k o) (hd : BdP k d) (h1 : Bd l t.1) (h2 : Bd l t.2) : BdP (k + l + 1) (atP o d t) := by
 obtain ⟨o1, o2, o3⟩ := ho
 obtain ⟨d1, d2, d3⟩ := hd
 exact ⟨((o1.mul h2).add (d1.mul h1)).le (by omega), ((o2.mul h2).add (d2.mul h1)).le (by omega), ((o3.mul h2).add (d3.mul h1)).le (by omega)⟩
theorem zfs {fa fb : EF} {σ : Sg} {S S1 S2 : So} {n m : Nat} {xs ys : List D} (h1 : fa σ S = some (.ref n, S1)) (h2 : fb σ S1 = some (.ref m, S2)) (hn : S2[n]? = some (.lst xs)) (hm : S2[m]? = some (.lst ys)) (hl : xs.length + ys.length ≤ 1000) :
   eB (gBin .Add) fa fb σ S = some (.ref S2.length, S2 ++ [.lst (xs ++ ys)]) := by
 unfold eB
 rw [h1]; simp only [Option.bind_some]
 rw [h2]; simp only [Option.bind_some]
 show gAdd (.ref n) (.ref m) S2 = _
 unfold gAdd
 simp only
 rw [hn, hm]
 simp only
 rw [if_pos (by rw [sizeLine_eq]; omega)]
theorem zlZ {fe : EF} {src : List Nat} {fb : EF} {G : Addr → GN → GN} {σ : Sg} {S S1 : So} {d : D} {cds : List D} {r : D × So} (h1 : fe σ S = some (d, S1)) (h2 : capD src σ = some cds) (h3 : los 0 cds = true) (h4 : ∀ a, G a (lamF fb cds) [d, .adr a] S1 = some r) : eHof fe src fb G σ S = some r := by
 unfold eHof
 rw [h1]; simp only [Option.bind_some]
 rw [h2]; simp only [Option.bind_some]
 rw [if_pos h3]
 exact zl0 h4
theorem Gr.cons2 {S S1 : So} {o p : O} (g : Gr S S1) (ho : O.lo S1.length o = true) (hp : O.lo (S1.length + 1) p = true) : Gr S (S1 ++ o :: [p]) := by
 have := (g.snoc ho).snoc (o := p) (by simpa using hp)
 simpa using this
end MX.P
end
section
set_option autoImplicit false
local macro_rules | `(tactic| wtm_at "mx call") => `(tactic| first | (with_reducible assumption) | (with_reducible exact MX.P.sp_drawn _ _ _) | (with_reducible exact MX.P.sp_lway _ _ _) | (with_reducible exact MX.P.sp_time _ _ _))
namespace MX.P
open PySem L2 MX
theorem zg7 (c k : Int) : ∃ a b d : Pt, BdP 93 a ∧ BdP 93 b ∧ BdP 93 d ∧ ∀ S, zb6 [.int c, .int k] S = some (.tup [pD a, pD b, pD d], S) := by
 obtain ⟨a, ba, fa⟩ := zhH c k
 obtain ⟨b, bb, fb⟩ := zhH c (k + 1)
 obtain ⟨d, bd, fd⟩ := zhH c (k + 2)
 have ba' := ba.le (show 90 ≤ 93 by decide)
 have bb' := bb.le (show 90 ≤ 93 by decide)
 have bd' := bd.le (show 90 ≤ 93 by decide)
 by_cases h7 : (drawnI c (k + 6)).fmod 7 = 0
 · have h71 : ¬ (drawnI c (k + 6)).fmod 7 = 1 := by omega
   have h21 : ¬ (drawnI c (k + 6)).fmod 21 = 1 := λe => by
     have e1 := Int.mul_fdiv_add_fmod (drawnI c (k + 6)) 21
     have e2 := Int.mul_fdiv_add_fmod (drawnI c (k + 6)) 7
     rw [e] at e1; rw [h7] at e2
     omega
   have two : BdP 93 (2 * b.1 - a.1, 2 * b.2.1 - a.2.1, 2 * b.2.2 - a.2.2) :=
     ⟨(((Bd.lit 2).mul bb.1).sub ba.1).le (by decide), (((Bd.lit 2).mul bb.2.1).sub ba.2.1).le (by decide), (((Bd.lit 2).mul bb.2.2).sub ba.2.2).le (by decide)⟩
   refine ⟨a, b, (2 * b.1 - a.1, 2 * b.2.1 - a.2.1, 2 * b.2.2 - a.2.2), ba', bb', two, λS => ?_⟩
   have f1 := fa S
   have f2 := fb S
   have f3 := fd S
   obtain ⟨b1, b2, b3⟩ := bb
   apply zad
   · wtm_at "mx st"
     unfold zaS
     wtm_at "mx ev"
   · wtm_at "mx take"
   · rfl
 · by_cases h71 : (drawnI c (k + 6)).fmod 7 = 1
   · by_cases h21 : (drawnI c (k + 6)).fmod 21 = 1
     · refine ⟨a, a, a, ba', ba', ba', λS => ?_⟩
       have f1 := fa S
       have f2 := fb S
       have f3 := fd S
       apply zad
       · wtm_at "mx st"
         unfold zaS
         wtm_at "mx ev"
       · wtm_at "mx take"
       · rfl
     · refine ⟨a, b, a, ba', bb', ba', λS => ?_⟩
       have f1 := fa S
       have f2 := fb S
       have f3 := fd S
       apply zad
       · wtm_at "mx st"
         unfold zaS
         wtm_at "mx ev"
       · wtm_at "mx take"
       · rfl
   · have h21 : ¬ (drawnI c (k + 6)).fmod 21 = 1 := λe => by
       have e1 := Int.mul_fdiv_add_fmod (drawnI c (k + 6)) 21
       have e2 := Int.mul_fdiv_add_fmod (drawnI c (k + 6)) 7
       have e3 := Int.fmod_nonneg_of_pos (drawnI c (k + 6)) (show (0 : Int) < 7 by decide)
       have e4 := Int.fmod_lt_of_pos (drawnI c (k + 6)) (show (0 : Int) < 7 by decide)
       rw [e] at e1
       omega
     refine ⟨a, b, d, ba', bb', bd', λS => ?_⟩
     have f1 := fa S
     have f2 := fb S
     have f3 := fd S
     apply zad
     · wtm_at "mx st"
       unfold zaS
       wtm_at "mx ev"
     · wtm_at "mx take"
     · rfl
theorem zja {k : Nat} {o d a b c : Pt} (ho : BdP k o) (hd : BdP k d) (ha : BdP k a) (hb : BdP k b) (hc : BdP k c) (hk : k ≤ 10000) (S : So) (hS : WF S) :
   zbu [.tup [pD o, pD d], .tup [pD a, pD b, pD c]] S = some (.ref S.length, S ++ [.lst ((planeL o d a b c).map rD)]) := by
 have bR := (ha.wb hb).le (show max k k + 1 ≤ k + 1 by omega)
 have bL := (ha.wb hc).le (show max k k + 1 ≤ k + 1 by omega)
 obtain ⟨r1, r2, r3⟩ := id bR
 obtain ⟨l1, l2, l3⟩ := id bL
 have w12 := zc0 (S := S) (i := 1) (j := 2) (gs := [.int (wb a b).1, .int (wb a b).2.1, .int (wb a b).2.2]) (ss := [.int (wb a c).1, .int (wb a c).2.1, .int (wb a c).2.2]) rfl rfl rfl rfl r2 r3 l2 l3 (by omega)
 have w20 := zc0 (S := S) (i := 2) (j := 0) (gs := [.int (wb a b).1, .int (wb a b).2.1, .int (wb a b).2.2]) (ss := [.int (wb a c).1, .int (wb a c).2.1, .int (wb a c).2.2]) rfl rfl rfl rfl r3 r1 l3 l1 (by omega)
 have w01 := zc0 (S := S) (i := 0) (j := 1) (gs := [.int (wb a b).1, .int (wb a b).2.1, .int (wb a b).2.2]) (ss := [.int (wb a c).1, .int (wb a c).2.1, .int (wb a c).2.2]) rfl rfl rfl rfl r1 r2 l1 l2 (by omega)
 have bn : BdP (2 * k + 3) (vcross (wb a b) (wb a c)) := ⟨((r2.mul l3).sub (r3.mul l2)).le (by omega), ((r3.mul l1).sub (r1.mul l3)).le (by omega), ((r1.mul l2).sub (r2.mul l1)).le (by omega)⟩
 obtain ⟨n1, n2, n3⟩ := bn
 have hN : vcross (wb a b) (wb a c) = ((wb a b).2.1 * (wb a c).2.2 - (wb a b).2.2 * (wb a c).2.1, (wb a b).2.2 * (wb a c).1 - (wb a b).1 * (wb a c).2.2, (wb a b).1 * (wb a c).2.1 - (wb a b).2.1 * (wb a c).1) := rfl
 have turn : ∀ (j i1 i2 w t u : Int) (x8 : Option D) (y : Option D), 0 ≤ j → j ≤ 2 → (∀ (σ : Sg) (S : So), σ[7]? = some (some (.int j)) → eB (gBin .Mod) (eB (gBin .Add) (eVar 7) (eC (.int 1))) (eC (.int 3)) σ S = some (.int i1, S)) → (∀ (σ : Sg) (S : So), σ[7]? = some (some (.int j)) → eB (gBin .Mod) (eB (gBin .Add) (eVar 7) (eC (.int 2))) (eC (.int 3)) σ S = some (.int i2, S)) → Bd (2 * k + 3) w →
     zar [pD (wb a b), pD (wb a c), .int i1, .int i2] S = some (.int w, S) →
     zba [some (.tup [pD o, pD d]), some (.tup [pD a, pD b, pD c]), some (pD a), some (pD b), some (pD c), some (.int t), some (.int u), some (.int j), x8] S
       = some (.nx, [some (.tup [pD o, pD d]), some (.tup [pD a, pD b, pD c]), some (pD a), some (pD b), some (pD c), some (.int (t + w * (co j a - co j o))), some (.int (u + w * co j d)), some (.int j), some (.int w)], S) := λj i1 i2 w t u x8 y j0 j2 hm1 hm2 bw hf => by
   have a1 := zaW j0 j2 o
   have a2 := zaW j0 j2 a
   have a3 := zaW j0 j2 d
   have c1 := zdi ho j
   have c2 := zdi ha j
   have c3 := zdi hd j
   unfold zba zcv zcu zct
   generalize co j o = xo at *
   generalize co j a = xa at *
   generalize co j d = xd at *
   refine zac (zaj (zaH (zab (zaH (zab (zaa rfl) (zab (zaa rfl) zal)) (zai rfl (sp_lway a b _))) (zab (zaH (zab (zaa rfl) (zab (zaa rfl) zal)) (zai rfl (sp_lway a c _))) (zab (hm1 _ _ rfl) (zab (hm2 _ _ rfl) zal)))) (zai rfl hf)) rfl) (zaf ?_)
   refine zac (zaj (zav (zaa rfl) (zav (zaa rfl) (zav (zav (zaa rfl) (zaa rfl) (zbY a2)) (zav (zav (zaa rfl) zaX (zbY rfl)) (zaa rfl) (zbY a1)) zkn) (zdt (zbk bw (c2.sub c1) (by omega)))) ze5) rfl) (zaf ?_)
   exact zac (zaj (zav (zaa rfl) (zav (zaa rfl) (zav (zav (zaa rfl) zaX (zbY rfl)) (zaa rfl) (zbY a3)) (zdt (zbk bw c3 (by omega)))) ze5) rfl) (zaf zak)
 have md : ∀ (j z i : Int), (j + z).fmod 3 = i → ∀ (σ : Sg) (S : So), σ[7]? = some (some (.int j)) → eB (gBin .Mod) (eB (gBin .Add) (eVar 7) (eC (.int z))) (eC (.int 3)) σ S = some (.int i, S) := λj z i e σ S h => by
   subst e
   exact zav (zav (zaa h) zaX ze5) zaX (ziC (by decide))
 have t0 := turn 0 1 2 _ 0 0 none none (by decide) (by decide) (md 0 1 1 (by decide)) (md 0 2 2 (by decide)) n1 w12
 have t1 := turn 1 2 0 _ (0 + (vcross (wb a b) (wb a c)).1 * (co 0 a - co 0 o)) (0 + (vcross (wb a b) (wb a c)).1 * co 0 d) (some (.int (vcross (wb a b) (wb a c)).1)) none (by decide) (by decide) (md 1 1 2 (by decide)) (md 1 2 0 (by decide)) n2 w20
 have t2 := turn 2 0 1 _ (0 + (vcross (wb a b) (wb a c)).1 * (co 0 a - co 0 o) + (vcross (wb a b) (wb a c)).2.1 * (co 1 a - co 1 o)) (0 + (vcross (wb a b) (wb a c)).1 * co 0 d + (vcross (wb a b) (wb a c)).2.1 * co 1 d) (some (.int (vcross (wb a b) (wb a c)).2.1)) none (by decide) (by decide) (md 2 1 0 (by decide)) (md 2 2 1 (by decide)) n3 w01
 have eU : 0 + (vcross (wb a b) (wb a c)).1 * (co 0 a - co 0 o) + (vcross (wb a b) (wb a c)).2.1 * (co 1 a - co 1 o) + (vcross (wb a b) (wb a c)).2.2 * (co 2 a - co 2 o) = vdot (vcross (wb a b) (wb a c)) (wb o a) := by
   rw [Int.zero_add]; rfl
 have eV : 0 + (vcross (wb a b) (wb a c)).1 * co 0 d + (vcross (wb a b) (wb a c)).2.1 * co 1 d + (vcross (wb a b) (wb a c)).2.2 * co 2 d = vdot (vcross (wb a b) (wb a c)) d := by
   rw [Int.zero_add]; rfl
 have loop : sFor (iRg1 (aCons (eC (.int 3)) (aNil))) (gNm 7) zba [some (.tup [pD o, pD d]), some (.tup [pD a, pD b, pD c]), some (pD a), some (pD b), some (pD c), some (.int 0), some (.int 0), none, none] S
     = some (.nx, [some (.tup [pD o, pD d]), some (.tup [pD a, pD b, pD c]), some (pD a), some (pD b), some (pD c), some (.int (vdot (vcross (wb a b) (wb a c)) (wb o a))), some (.int (vdot (vcross (wb a b) (wb a c)) d)), some (.int 2), some (.int (vcross (wb a b) (wb a c)).2.2)], S) := by
   rw [← eU, ← eV]
   exact zbO (j := .fix (rangeD 0 3)) (n := 3) (S1 := S) rfl rfl (zas (d := .int 0) rfl rfl t0 (zaA (zas (d := .int 1) rfl rfl t1 (zaA (zas (d := .int 2) rfl rfl t2 (zaA (zdh rfl)))))))
 have go : ∀ l : List (Int × Int), sSeq zbr (sSeq zcg sPass) [some (.tup [pD o, pD d]), some (.tup [pD a, pD b, pD c]), some (pD a), some (pD b), some (pD c), some (.int (vdot (vcross (wb a b) (wb a c)) (wb o a))), some (.int (vdot (vcross (wb a b) (wb a c)) d)), some (.int 2), some (.int (vcross (wb a b) (wb a c)).2.2)] S
     = some (.rt (.ref S.length), [some (.tup [pD o, pD d]), some (.tup [pD a, pD b, pD c]), some (pD a), some (pD b), some (pD c), some (.int (vdot (vcross (wb a b) (wb a c)) (wb o a))), some (.int (vdot (vcross (wb a b) (wb a c)) d)), some (.int 2), some (.int (vcross (wb a b) (wb a c)).2.2)], S ++ [.lst (l.map rD)]) →
     zbu [.tup [pD o, pD d], .tup [pD a, pD b, pD c]] S = some (.ref S.length, S ++ [.lst (l.map rD)]) := λl e => by
   apply zde
   · wtm_at "mx st"
     unfold zcV zdb zda zc9 zc8
     exact zac (zaj (zaa rfl) rfl) (zaf (zac (zaj zaX rfl) (zaf (zac (zaj zaX rfl) (zaf (zac loop (zaf e)))))))
   · intro h; simp [D.lo] at h
   · simp
   · simp [D.lo]
   · exact hS.snoc (zdr _ _)
 unfold planeL
 generalize vdot (vcross (wb a b) (wb a c)) (wb o a) = U at *
 generalize vdot (vcross (wb a b) (wb a c)) d = V at *
 generalize (vcross (wb a b) (wb a c)).2.2 = n22 at *
 have tv : tBl (eB (gCmp .Eq) (eVar 6) (eC (.int 0))) [some (.tup [pD o, pD d]), some (.tup [pD a, pD b, pD c]), some (pD a), some (pD b), some (pD c), some (.int U), some (.int V), some (.int 2), some (.int n22)] S = some (decide (V = 0), S) := by wtm_at "mx ev"
 by_cases hV : V = 0
 · rw [if_pos hV]
   refine go [] ?_
   unfold zbr
   exact zac (zaD tv (zaF (zcn hV) (zac (zaG rfl) zao))) zao
 · rw [if_neg hV]
   refine go [timeN U V] ?_
   unfold zbr zcg
   refine zac (zaD tv (zaz (za3 hV) zak)) (zaf (zac (zaG (zaH (zab (zaH (zab (zaa rfl) (zab (zaa rfl) zal)) (zai rfl (sp_time U V S))) zal) rfl)) zao))
end MX.P
end
section
set_option autoImplicit false
local macro_rules | `(tactic| wtm_at "mx call") => `(tactic| (with_reducible assumption))
namespace MX.P
open PySem L2 MX
theorem znt {n : Nat} (l l' : List (Int × Int)) : O.lo n (.lst (l.map rD ++ l'.map rD)) = true := by
 rw [← List.map_append]; exact zdr _ _
theorem zeu (o d a : Pt) : (comeL o d a).length ≤ 3 := by unfold comeL; split <;> split <;> split <;> simp
theorem zdK (o d a b : Pt) : (crossL o d a b).length ≤ 3 := by unfold crossL crs; split <;> split <;> split <;> simp
theorem zhd (o d a b c : Pt) : (planeL o d a b c).length ≤ 1 := by unfold planeL; split <;> simp
theorem zdy {k : Nat} {o d x y : Pt} {p1 p2 p3 p4 : Option D} {S : So} {n : Nat} {l : List (Int × Int)} (hS : WF S) (ho : BdP k o) (hd : BdP k d) (hx : BdP k x) (hy : BdP k y) (hk : k ≤ 10000) (hn : S[n]? = some (.lst (l.map rD))) (hl : l.length ≤ 100) :
   ∃ n' T, Gr S T ∧ T[n']? = some (.lst ((l ++ comeL o d x ++ crossL o d x y).map rD)) ∧ S.length ≤ n' ∧ n' < T.length ∧
     za9 [some (.tup [pD o, pD d]), p1, p2, p3, p4, some (.ref n), some (pD x), some (pD y)] S = some (.nx, [some (.tup [pD o, pD d]), p1, p2, p3, p4, some (.ref n'), some (pD x), some (pD y)], T) := by
 have l1 := zeu o d x
 have l3 := zdK o d x y
 have c1 := zjd (o := o) (d := d) (a := x) S hS
 have e1 : eVar 5 [some (.tup [pD o, pD d]), p1, p2, p3, p4, some (.ref n), some (pD x), some (pD y)] S = some (.ref n, S) := zaa rfl
 have e2 : eN (nArgs 2 zbX) (aCons (eVar 0) (aCons (eVar 6) (aNil))) [some (.tup [pD o, pD d]), p1, p2, p3, p4, some (.ref n), some (pD x), some (pD y)] S = some (.ref S.length, S ++ [.lst ((comeL o d x).map rD)]) := zaH (zab (zaa rfl) (zab (zaa rfl) zal)) (zai rfl c1)
 have g2 : Gr S (S ++ [.lst ((comeL o d x).map rD)]) := (Gr.refl hS).snoc (zdr _ _)
 have n2 : (S ++ [O.lst ((comeL o d x).map rD)])[S.length]? = some (.lst ((comeL o d x).map rD)) := zaT
 have n1' : (S ++ [O.lst ((comeL o d x).map rD)])[n]? = some (.lst (l.map rD)) := zcI hn
 generalize hS2 : S ++ [O.lst ((comeL o d x).map rD)] = S2 at *
 have e3 := zfs e1 e2 n1' n2 (by simp only [List.length_map]; omega)
 have g3 : Gr S (S2 ++ [.lst (l.map rD ++ (comeL o d x).map rD)]) := g2.snoc (znt _ _)
 have n3 : (S2 ++ [O.lst (l.map rD ++ (comeL o d x).map rD)])[S2.length]? = some (.lst (l.map rD ++ (comeL o d x).map rD)) := zaT
 generalize hS3 : S2 ++ [O.lst (l.map rD ++ (comeL o d x).map rD)] = S3 at *
 have c3 := zg6 ho hd hx hy hk S3 g3.2
 have e6 : eN (nArgs 3 zbm) (aCons (eVar 0) (aCons (eVar 6) (aCons (eVar 7) (aNil)))) [some (.tup [pD o, pD d]), p1, p2, p3, p4, some (.ref n), some (pD x), some (pD y)] S3 = some (.ref S3.length, S3 ++ .lst ((crossL o d x y).map rD) :: [prO]) := zaH (zab (zaa rfl) (zab (zaa rfl) (zab (zaa rfl) zal))) (zai rfl c3)
 have g6 : Gr S (S3 ++ .lst ((crossL o d x y).map rD) :: [prO]) := Gr.cons2 g3 (zdr _ _) rfl
 have n6 : (S3 ++ O.lst ((crossL o d x y).map rD) :: [prO])[S3.length]? = some (.lst ((crossL o d x y).map rD)) := by simp
 have n5' : (S3 ++ O.lst ((crossL o d x y).map rD) :: [prO])[S2.length]? = some (.lst (l.map rD ++ (comeL o d x).map rD)) := by
   rw [List.getElem?_append_left (List.getElem?_eq_some_iff.mp n3).1]; exact n3
 generalize hS6 : S3 ++ O.lst ((crossL o d x y).map rD) :: [prO] = S6 at *
 have e7 := zfs e3 e6 n5' n6 (by simp only [List.length_map, List.length_append]; omega)
 have el : l.map rD ++ (comeL o d x).map rD ++ (crossL o d x y).map rD = (l ++ comeL o d x ++ crossL o d x y).map rD := by simp
 rw [el] at e7
 refine ⟨S6.length, S6 ++ [.lst ((l ++ comeL o d x ++ crossL o d x y).map rD)], g6.snoc (zdr _ _), zaT, ?_, by simp, ?_⟩
 · obtain ⟨⟨G, e⟩, _⟩ := g6
   rw [e]; simp
 · unfold za9 zbB
   exact zac (zaj e7 rfl) (zaf zak)
theorem zi9 {k : Nat} {o d a b c : Pt} (ho : BdP k o) (hd : BdP k d) (ha : BdP k a) (hb : BdP k b) (hc : BdP k c) (hk : k ≤ 10000) (S : So) (hS : WF S) :
   ∃ n T, Gr S T ∧ T[n]? = some (.lst ((candT o d a b c).map rD)) ∧ zbM [.tup [pD o, pD d], .tup [pD a, pD b, pD c]] S = some (.ref n, T) := by
 have lp := zhd o d a b c
 have l1 := zeu o d a
 have l2 := zeu o d b
 have l4 := zdK o d a b
 have l5 := zdK o d b c
 have g1 : Gr S (S ++ [.lst [R2 0 1]]) := (Gr.refl hS).snoc rfl
 have e1 : eN gLst (aCons (eN gTup (aCons (eC (.int 0)) (aCons (eC (.int 1)) (aNil)))) (aNil)) [some (.tup [pD o, pD d]), some (.tup [pD a, pD b, pD c]), some (pD a), some (pD b), some (pD c), none, none, none] S = some (.ref S.length, S ++ [.lst [R2 0 1]]) := rfl
 have n1 : (S ++ [O.lst [R2 0 1]])[S.length]? = some (.lst [R2 0 1]) := zaT
 generalize hS1 : S ++ [O.lst [R2 0 1]] = S1 at *
 have c1 := zja ho hd ha hb hc hk S1 g1.2
 have e2 : eN (nArgs 2 zbu) (aCons (eVar 0) (aCons (eVar 1) (aNil))) [some (.tup [pD o, pD d]), some (.tup [pD a, pD b, pD c]), some (pD a), some (pD b), some (pD c), none, none, none] S1 = some (.ref S1.length, S1 ++ [.lst ((planeL o d a b c).map rD)]) := zaH (zab (zaa rfl) (zab (zaa rfl) zal)) (zai rfl c1)
 have g2 : Gr S (S1 ++ [.lst ((planeL o d a b c).map rD)]) := g1.snoc (zdr _ _)
 have n2 : (S1 ++ [O.lst ((planeL o d a b c).map rD)])[S1.length]? = some (.lst ((planeL o d a b c).map rD)) := zaT
 have n1' : (S1 ++ [O.lst ((planeL o d a b c).map rD)])[S.length]? = some (.lst [R2 0 1]) := zcI n1
 generalize hS2 : S1 ++ [O.lst ((planeL o d a b c).map rD)] = S2 at *
 have e3 := zfs e1 e2 n1' n2 (by simp only [List.length_map, List.length_cons, List.length_nil]; omega)
 have el : [R2 0 1] ++ (planeL o d a b c).map rD = ([(0, 1)] ++ planeL o d a b c).map rD := by rw [List.map_append]; rfl
 rw [el] at e3
 have g3 : Gr S (S2 ++ [.lst (([(0, 1)] ++ planeL o d a b c).map rD)]) := g2.snoc (zdr _ _)
 have n3 : (S2 ++ [O.lst (([(0, 1)] ++ planeL o d a b c).map rD)])[S2.length]? = some (.lst (([(0, 1)] ++ planeL o d a b c).map rD)) := zaT
 have hlt : S.length ≤ S2.length := by
   obtain ⟨⟨G, e⟩, _⟩ := g2
   rw [e]; simp
 generalize hS3 : S2 ++ [O.lst (([(0, 1)] ++ planeL o d a b c).map rD)] = S3 at *
 have g4 : Gr S (S3 ++ [.lst [.tup [pD a, pD b], .tup [pD b, pD c], .tup [pD c, pD a]]]) := g3.snoc rfl
 have m4 : (S3 ++ [O.lst [.tup [pD a, pD b], .tup [pD b, pD c], .tup [pD c, pD a]]])[S3.length]? = some (.lst [.tup [pD a, pD b], .tup [pD b, pD c], .tup [pD c, pD a]]) := zaT
 have n4 : (S3 ++ [O.lst [.tup [pD a, pD b], .tup [pD b, pD c], .tup [pD c, pD a]]])[S2.length]? = some (.lst (([(0, 1)] ++ planeL o d a b c).map rD)) := zcI n3
 have it : iVal (eN gLst (aCons (eN gTup (aCons (eVar 2) (aCons (eVar 3) (aNil)))) (aCons (eN gTup (aCons (eVar 3) (aCons (eVar 4) (aNil)))) (aCons (eN gTup (aCons (eVar 4) (aCons (eVar 2) (aNil)))) (aNil))))) [some (.tup [pD o, pD d]), some (.tup [pD a, pD b, pD c]), some (pD a), some (pD b), some (pD c), some (.ref S2.length), none, none] S3
     = some (.lst S3.length, S3 ++ [.lst [.tup [pD a, pD b], .tup [pD b, pD c], .tup [pD c, pD a]]]) := zbZ (xs := [.tup [pD a, pD b], .tup [pD b, pD c], .tup [pD c, pD a]]) rfl zaT
 generalize hS4 : S3 ++ [O.lst [.tup [pD a, pD b], .tup [pD b, pD c], .tup [pD c, pD a]]] = S4 at *
 obtain ⟨m1, T1, h1, h2, h3, h3', t1⟩ := zdy (p1 := some (.tup [pD a, pD b, pD c])) (p2 := some (pD a)) (p3 := some (pD b)) (p4 := some (pD c)) g4.2 ho hd ha hb hk n4 (by simp only [List.length_append, List.length_cons, List.length_nil]; omega)
 obtain ⟨m2, T2, i1, i2, i3, i3', t2⟩ := zdy (p1 := some (.tup [pD a, pD b, pD c])) (p2 := some (pD a)) (p3 := some (pD b)) (p4 := some (pD c)) h1.2 ho hd hb hc hk h2 (by simp only [List.length_append, List.length_cons, List.length_nil]; omega)
 obtain ⟨m3, T3, j1, j2, j3, j3', t3⟩ := zdy (p1 := some (.tup [pD a, pD b, pD c])) (p2 := some (pD a)) (p3 := some (pD b)) (p4 := some (pD c)) i1.2 ho hd hc ha hk i2 (by simp only [List.length_append, List.length_cons, List.length_nil]; omega)
 have G := ((g4.trans h1).trans i1).trans j1
 have M1 := h1.old m4
 have M2 := i1.old M1
 have M3 := j1.old M2
 have L1 : S.length ≤ m3 := by
   have q1 : S.length ≤ T2.length := by
     obtain ⟨⟨G', e⟩, _⟩ := (g4.trans h1).trans i1
     rw [e]; simp
   omega
 refine ⟨m3, T3, G, j2, ?_⟩
 apply zde (σ' := [some (.tup [pD o, pD d]), some (.tup [pD a, pD b, pD c]), some (pD a), some (pD b), some (pD c), some (.ref m3), some (pD c), some (pD a)])
 · wtm_at "mx st"
   unfold zbQ zcr zcq zcp zco
   refine zac (zaj (zaa rfl) rfl) (zaf (zac (zaj e3 rfl) (zaf (zac (zbO it (n := 3) ?_ (zas (zaM m4 rfl) rfl t1 (zaA (zas (zaM M1 rfl) rfl t2 (zaA (zas (zaM M2 rfl) rfl t3 (zaA (zdh (zh1 M3 rfl))))))))) (zaf (zac (zaG (zaa rfl)) zao))))))
   exact zev m4
 · intro h
   have := h.2
   simp only [D.lo, decide_eq_true_eq] at this
   omega
 · obtain ⟨⟨G', e⟩, _⟩ := G
   rw [e]; simp
 · simp only [D.lo, decide_eq_true_eq]; exact j3'
 · exact G.2
theorem zeI {k : Nat} {o d a b c : Pt} (ho : BdP k o) (hd : BdP k d) (ha : BdP k a) (hb : BdP k b) (hc : BdP k c) (h0 : d ≠ (0, 0, 0)) (hk : k ≤ 1500) (S : So) (hS : WF S) :
   zeq [.tup [pD o, pD d], .tup [.str "triangle", pD a, pD b, pD c]] S = some (tD (triM o d a b c), S) := by
 have hm := zbc ho hd ha hb hc h0 hk S hS
 apply zad
 · wtm_at "mx st"
   unfold zeA
   have t : tBl (eB (gCmp .Eq) (eB gIx (eVar 1) (eC (.int 0))) (eC (.str "box"))) [some (.tup [pD o, pD d]), some (.tup [.str "triangle", pD a, pD b, pD c])] S = some (false, S) := by
     have h := zaY (zav (fa := eB gIx (eVar 1) (eC (.int 0))) (fb := eC (.str "box")) (σ := [some (.tup [pD o, pD d]), some (.tup [.str "triangle", pD a, pD b, pD c])]) (S := S) (zav (zaa rfl) zaX (zbY rfl)) zaX (ziG (x := .str "triangle") (y := .str "box") rfl 1 (by decide +kernel) (by decide +kernel) (by decide)))
     rw [h, za3 (λe => by simp only [D.str.injEq] at e; exact absurd e (by decide +kernel))]
   refine zac (zaD t (zaz rfl zak)) (zaf ?_)
   wtm_at "mx ev"
 · wtm_at "mx take"
 · cases triM o d a b c <;> rfl
theorem zg3 {k : Nat} {o d a b c : Pt} (ho : BdP k o) (hd : BdP k d) (ha : BdP k a) (hb : BdP k b) (hc : BdP k c) (h0 : d ≠ (0, 0, 0)) (hk : k ≤ 1500) (S : So) (hS : WF S) :
   zgh [.tup [pD o, pD d], .tup [.str "triangle", pD a, pD b, pD c]] S = some (tD (triM o d a b c), S) := by
 have hm := zeI ho hd ha hb hc h0 hk S hS
 have hr := zdm (o := o) h0 S
 have hs := zdn (zeb (S := S) (a := pD a) (b := pD b) (c := pD c))
 apply zad
 · wtm_at "mx st"
   unfold zgx
   wtm_at "mx ev"
 · wtm_at "mx take"
 · cases triM o d a b c <;> rfl
end MX.P
end
section
set_option autoImplicit false
local macro_rules | `(tactic| wtm_at "mx call") => `(tactic| (with_reducible assumption))
namespace MX.K14
open PySem L2 MX MX.P
theorem zkY {m : Tq} (h : isRed m) : redT m = m := by
 cases m with
 | none => rfl
 | some r => exact congrArg some (h r rfl)
theorem zj3 {k : Nat} {o d a b c : Pt} (ho : BdP k o) (hd : BdP k d) (ha : BdP k a) (hb : BdP k b) (hc : BdP k c) : ∀ t ∈ candT o d a b c, Bd (3 * k + 6) t.1 ∧ Bd (3 * k + 6) t.2 ∧ 0 < t.2 := by
 intro t ht
 have hp := zex t ht
 have cr : ∀ {a b : Pt}, BdP k a → BdP k b → ∀ {t : Int × Int}, t ∈ crossL o d a b → Bd (3 * k + 6) t.1 ∧ Bd (3 * k + 6) t.2 := λ{a b} ha hb {t} ht => by
   have h := zj4 ho hd ha hb t (by unfold candS; simp [ht])
   exact ⟨h.1.le (by omega), h.2.1.le (by omega)⟩
 have cm : ∀ {a : Pt}, BdP k a → ∀ {t : Int × Int}, t ∈ comeL o d a → Bd (3 * k + 6) t.1 ∧ Bd (3 * k + 6) t.2 := λ{a} ha {t} ht => by
   have h := zfu ho hd ha t ht
   exact ⟨h.1.le (by omega), h.2.le (by omega)⟩
 have fin : Bd (3 * k + 6) t.1 ∧ Bd (3 * k + 6) t.2 := by
   unfold candT at ht
   simp only [List.mem_append] at ht
   rcases ht with ((((((ht | ht) | ht) | ht) | ht) | ht) | ht) | ht
   · simp only [List.mem_cons, List.mem_nil_iff, or_false] at ht
     subst ht
     exact ⟨(Bd.lit 0).le (Nat.zero_le _), (Bd.lit 1).le (show 1 ≤ 3 * k + 6 by omega)⟩
   · unfold planeL at ht
     split at ht
     · cases ht
     · simp only [List.mem_cons, List.mem_nil_iff, or_false] at ht
       subst ht
       obtain ⟨r1, r2, r3⟩ := (ha.wb hb).le (show max k k + 1 ≤ k + 1 by omega)
       obtain ⟨l1, l2, l3⟩ := (ha.wb hc).le (show max k k + 1 ≤ k + 1 by omega)
       obtain ⟨o1, o2, o3⟩ := (ho.wb ha).le (show max k k + 1 ≤ k + 1 by omega)
       obtain ⟨d1, d2, d3⟩ := hd
       have n1 : Bd (2 * k + 3) (vcross (wb a b) (wb a c)).1 := ((r2.mul l3).sub (r3.mul l2)).le (by omega)
       have n2 : Bd (2 * k + 3) (vcross (wb a b) (wb a c)).2.1 := ((r3.mul l1).sub (r1.mul l3)).le (by omega)
       have n3 : Bd (2 * k + 3) (vcross (wb a b) (wb a c)).2.2 := ((r1.mul l2).sub (r2.mul l1)).le (by omega)
       exact zfb ((((n1.mul o1).add (n2.mul o2)).add (n3.mul o3)).le (by omega)) ((((n1.mul d1).add (n2.mul d2)).add (n3.mul d3)).le (by omega))
   · exact cm ha ht
   · exact cr ha hb ht
   · exact cm hb ht
   · exact cr hb hc ht
   · exact cm hc ht
   · exact cr hc ha ht
 exact ⟨fin.1, fin.2, hp⟩
theorem znW {k : Nat} {o d a b c : Pt} {x0 x1 x2 : D} {x7 x8 : Option D} {n : Nat} {T : So} (ho : BdP k o) (hd : BdP k d) (ha : BdP k a) (hb : BdP k b) (hc : BdP k c) (h0 : d ≠ (0, 0, 0)) (hk : k ≤ 300) (hn : T[n]? = some (.lst ((candT o d a b c).map rD))) :
   zb9 [some x0, some x1, some x2, some (pD a), some (pD b), some (pD c), some (.ref n), x7, x8, some (.tup [pD a, pD b, pD c]), some (.tup [pD o, pD d])] T
     = some (.nx, [some x0, some x1, some x2, some (pD a), some (pD b), some (pD c), some (.ref n), some (tD (triM o d a b c)), x8, some (.tup [pD a, pD b, pD c]), some (.tup [pD o, pD d])], T) := by
 have cb := zj3 ho hd ha hb hc
 have due := zkA (o := o) (d := d) (a := a) (b := b) (c := c) (p := λt => decide (inTriL (atP o d t) t.2 a b c)) h0 (λt _ => by simp)
 have e : tD (triM o d a b c) = tqD (firstF (λt => decide (inTriL (atP o d t) t.2 a b c)) (candT o d a b c)) := by rw [zkc, due, zkY (zdx _ _ _ _ _)]
 rw [e]
 unfold zb9
 refine zaj (zlZ (cds := [.tup [pD a, pD b, pD c], .tup [pD o, pD d]]) (zaa rfl) rfl rfl λadr => ?_) rfl
 refine zjb (k := 3 * k + 6) hn (λt ht => ?_) cb (by omega)
 obtain ⟨b1, b2, b3⟩ := cb t ht
 have pb := zn3 ho hd b1 b2
 have hat := zn8 (t1 := t.1) (t2 := t.2) ho hd b1 b2 (by omega) T
 have hin := zeK (q := t.2) (pb.le (show k + (3 * k + 6) + 1 ≤ 4 * k + 7 by omega)) (ha.le (show k ≤ 4 * k + 7 by omega)) (hb.le (show k ≤ 4 * k + 7 by omega)) (hc.le (show k ≤ 4 * k + 7 by omega)) (b2.le (show 3 * k + 6 ≤ 4 * k + 7 by omega)) (by omega) T
 obtain ⟨t1, t2⟩ := t
 show eN (nArgs 3 zaK) (aCons (eN (nArgs 2 zds) (aCons (eVar 2) (aCons (eVar 0) (aNil)))) (aCons (eB gIx (eVar 0) (eC (.int 1))) (aCons (eVar 1) (aNil)))) [some (R2 t1 t2), some (.tup [pD a, pD b, pD c]), some (.tup [pD o, pD d])] T = _
 exact zaH (zab (zaH (zab (zaa rfl) (zab (zaa rfl) zal)) (zai rfl hat)) (zab (zav (zaa rfl) zaX (zbY rfl)) (zab (zaa rfl) zal))) (zai rfl hin)
theorem znV {k : Nat} {o d a b c : Pt} {x0 x1 x2 x6 : D} {x8 : Option D} {T : So} (hT : WF T) (ho : BdP k o) (hd : BdP k d) (ha : BdP k a) (hb : BdP k b) (hc : BdP k c) (h0 : d ≠ (0, 0, 0)) (hk : k ≤ 300) :
   sSeq zbp (sSeq zbo (sSeq zbn sPass)) [some x0, some x1, some x2, some (pD a), some (pD b), some (pD c), some x6, some (tD (triM o d a b c)), x8, some (.tup [pD a, pD b, pD c]), some (.tup [pD o, pD d])] T
     = some (.nx, [some x0, some x1, some x2, some (pD a), some (pD b), some (pD c), some x6, some (tD (triM o d a b c)), some (tD (triM o d a b c)), some (.tup [pD a, pD b, pD c]), some (.tup [pD o, pD d])], T) := by
 have m1 := zbc ho hd ha hb hc h0 (by omega) T hT
 have m2 := zg3 ho hd hb hc ha h0 (by omega) T hT
 have m3 := zbc ho hd hc hb ha h0 (by omega) T hT
 rw [zkx h0] at m2
 rw [zi2 h0] at m3
 have bd := zmo ho hd ha hb hc h0
 have rd := zdx o d a b c
 generalize triM o d a b c = v at *
 have hp : pln 8 (tD v) = true := by cases v <;> rfl
 have hq : nInt (tD v) (tD v) = true := by cases v <;> rfl
 have s7 : zbp [some x0, some x1, some x2, some (pD a), some (pD b), some (pD c), some x6, some (tD v), x8, some (.tup [pD a, pD b, pD c]), some (.tup [pD o, pD d])] T = some (.nx, [some x0, some x1, some x2, some (pD a), some (pD b), some (pD c), some x6, some (tD v), some (tD v), some (.tup [pD a, pD b, pD c]), some (.tup [pD o, pD d])], T) := by
   unfold zbp
   exact zaj (zaH (zab (zaa rfl) (zab (zaa rfl) zal)) (zai rfl m1)) rfl
 have same : gCmp .NotEq (tD v) (tD v) T = some (.bl false, T) := by
   have := zko (S := T) hq 8 hp hp (by decide)
   simpa using this
 have s8 : zbo [some x0, some x1, some x2, some (pD a), some (pD b), some (pD c), some x6, some (tD v), some (tD v), some (.tup [pD a, pD b, pD c]), some (.tup [pD o, pD d])] T = some (.nx, [some x0, some x1, some x2, some (pD a), some (pD b), some (pD c), some x6, some (tD v), some (tD v), some (.tup [pD a, pD b, pD c]), some (.tup [pD o, pD d])], T) := by
   unfold zbo
   refine zaD (b := false) (S1 := T) (zbA (b := false) (S1 := T) (zaY (zav (zaa rfl) (zaa rfl) same)) (zaz rfl (zbA (b := false) (S1 := T) (zaY (zav (zaH (zab (zaa rfl) (zab (zaH (ds := [.str "triangle", pD b, pD c, pD a]) (S1 := T) (zab zaX (zab (zaa rfl) (zab (zaa rfl) (zab (zaa rfl) zal)))) rfl) zal)) (zai rfl m2)) (zaa rfl) same)) (zaz rfl ?_)))) (zaz rfl zak)
   exact zaY (zav (zaH (zab (zaa rfl) (zab (zaH (ds := [pD c, pD b, pD a]) (S1 := T) (zab (zaa rfl) (zab (zaa rfl) (zab (zaa rfl) zal))) rfl) zal)) (zai rfl m3)) (zaa rfl) same)
 have s9 : zbn [some x0, some x1, some x2, some (pD a), some (pD b), some (pD c), some x6, some (tD v), some (tD v), some (.tup [pD a, pD b, pD c]), some (.tup [pD o, pD d])] T = some (.nx, [some x0, some x1, some x2, some (pD a), some (pD b), some (pD c), some x6, some (tD v), some (tD v), some (.tup [pD a, pD b, pD c]), some (.tup [pD o, pD d])], T) := by
   unfold zbn
   cases v with
   | none =>
     exact zaD (b := false) (S1 := T) (zdg (b := false) (S1 := T) (zaY (zav (zaa rfl) zaX rfl)) (zaz rfl rfl)) (zaz rfl zak)
   | some r =>
     obtain ⟨h1, h2, h3, h4⟩ := bd r rfl
     have hr := rd r rfl
     have it := zg5 (t1 := r.1) (t2 := r.2) h1 h2 hr h3 h4 (by omega) T
     exact zaD (b := false) (S1 := T) (zdg (b := true) (S1 := T) (zaY (zav (zaa rfl) zaX rfl)) (zaF rfl (ziB (b := true) (zfr (zaH (zab (zaa rfl) zal) (zai rfl it)) rfl)))) (zaz rfl zak)
 exact zac s7 (zaf (zac s8 (zaf (zac s9 (zaf zak)))))
theorem zl8 {ns : List Int} (hns : ns.length ≤ 63) (k : Nat) (js : List (Option D)) (S : So) (hj : js.length = 9) (hw : WF S) (h0 : S[0]? = some (.frz (ns.map .int))) :
   ∃ fl js' S', zcT (some (.ref 0) :: some (.int (k : Nat)) :: js) S = some (fl, some (.ref 0) :: some (.int (k : Nat)) :: js', S') ∧ js'.length = 9 ∧ (fl = .nx ∨ fl = .ct) ∧ Gr S S' := by
 obtain ⟨j2, j3, j4, j5, j6, j7, j8, j9, j10, rfl⟩ : ∃ a b c d e f g h i, js = [a, b, c, d, e, f, g, h, i] := by
   match js, hj with
   | [a, b, c, d, e, f, g, h, i], _ => exact ⟨a, b, c, d, e, f, g, h, i, rfl⟩
 have hc := zkO hns (k : Nat) h0
 generalize cellI ns (k : Nat) = ce at hc
 obtain ⟨a, b, c, ba, bb, bc, hcor⟩ := zg7 ce (k : Nat)
 obtain ⟨o, d, bo, bd, hd0, hray⟩ := zje ce ((k : Nat) + 11) ba bb bc
 have s1 : zce [some (.ref 0), some (.int (k : Nat)), j2, j3, j4, j5, j6, j7, j8, j9, j10] S = some (.nx, [some (.ref 0), some (.int (k : Nat)), some (.int ce), j3, j4, j5, j6, j7, j8, j9, j10], S) := by
   unfold zce
   wtm_at "mx ev"
 have s2 : zcd [some (.ref 0), some (.int (k : Nat)), some (.int ce), j3, j4, j5, j6, j7, j8, j9, j10] S = some (.nx, [some (.ref 0), some (.int (k : Nat)), some (.int ce), j3, j4, j5, j6, j7, j8, some (.tup [pD a, pD b, pD c]), j10], S) := by
   unfold zcd
   exact zaj (zaH (zab (zaa rfl) (zab (zaa rfl) zal)) (zai rfl (hcor S))) rfl
 have s3 : zcc [some (.ref 0), some (.int (k : Nat)), some (.int ce), j3, j4, j5, j6, j7, j8, some (.tup [pD a, pD b, pD c]), j10] S = some (.nx, [some (.ref 0), some (.int (k : Nat)), some (.int ce), some (pD a), some (pD b), some (pD c), j6, j7, j8, some (.tup [pD a, pD b, pD c]), j10], S) := by
   unfold zcc
   exact zaj (zaa rfl) rfl
 have s4 : zcb [some (.ref 0), some (.int (k : Nat)), some (.int ce), some (pD a), some (pD b), some (pD c), j6, j7, j8, some (.tup [pD a, pD b, pD c]), j10] S = some (.nx, [some (.ref 0), some (.int (k : Nat)), some (.int ce), some (pD a), some (pD b), some (pD c), j6, j7, j8, some (.tup [pD a, pD b, pD c]), some (.tup [pD o, pD d])], S) := by
   unfold zcb
   exact zaj (zaH (zab (zaa rfl) (zab (zav (zaa rfl) zaX ze5) (zab (zaa rfl) zal))) (zai rfl (hray S))) rfl
 have ba' := ba.le (show 93 ≤ 120 by decide)
 have bb' := bb.le (show 93 ≤ 120 by decide)
 have bc' := bc.le (show 93 ≤ 120 by decide)
 obtain ⟨n, T, g6, hn, ft⟩ := zi9 bo bd ba' bb' bc' (by decide) S hw
 have s5 : zca [some (.ref 0), some (.int (k : Nat)), some (.int ce), some (pD a), some (pD b), some (pD c), j6, j7, j8, some (.tup [pD a, pD b, pD c]), some (.tup [pD o, pD d])] S = some (.nx, [some (.ref 0), some (.int (k : Nat)), some (.int ce), some (pD a), some (pD b), some (pD c), some (.ref n), j7, j8, some (.tup [pD a, pD b, pD c]), some (.tup [pD o, pD d])], T) := by
   unfold zca
   exact zaj (zaH (zab (zaa rfl) (zab (zaa rfl) zal)) (zai rfl ft)) rfl
 have s6 := znW (x0 := .ref 0) (x1 := .int (k : Nat)) (x2 := .int ce) (x7 := j7) (x8 := j8) bo bd ba' bb' bc' hd0 (by decide) hn
 have s7 := znV (x0 := .ref 0) (x1 := .int (k : Nat)) (x2 := .int ce) (x6 := .ref n) (x8 := j8) g6.2 bo bd ba' bb' bc' hd0 (by decide)
 refine ⟨.nx, [some (.int ce), some (pD a), some (pD b), some (pD c), some (.ref n), some (tD (triM o d a b c)), some (tD (triM o d a b c)), some (.tup [pD a, pD b, pD c]), some (.tup [pD o, pD d])], T, ?_, rfl, .inl rfl, g6⟩
 unfold zcT
 exact zac s1 (zaf (zac s2 (zaf (zac s3 (zaf (zac s4 (zaf (zac s5 (zaf (zac s6 (zaf s7)))))))))))
theorem zjD : ∀ ns : List Int, ns.length ≤ 63 → ∃ σ' S'', zf0 (stD 11 [.ref 0]) [.frz (ns.map D.int)] = some (.rt (.bl true), σ', S'') := λns hns =>
 zlF (C := 4) (n := 9) (by decide) hns (zl8 hns)
end MX.K14
end
section
set_option autoImplicit false
local macro_rules | `(tactic| wtm_at "sc") => `(tactic| exact ⟨rfl, rfl, rfl, by decide +kernel, by kernel_rfl, by decide +kernel, by decide +kernel⟩)
namespace MX.K14
open PySem PySem.Spec PySem.W PyProof.Rows L2 MX MX.P
abbrev F0 : List (Str × Nat × GN) := []
abbrev F1 : List (Str × Nat × GN) := ("common_divisor", 2, zaZ) :: F0
abbrev F2 : List (Str × Nat × GN) := ("lowest_terms", 1, zaC) :: F1
abbrev F3 : List (Str × Nat × GN) := ("is_less", 2, zck) :: F2
abbrev F4 : List (Str × Nat × GN) := ("way_between", 2, zae) :: F3
abbrev F5 : List (Str × Nat × GN) := ("dot", 2, za0) :: F4
abbrev F6 : List (Str × Nat × GN) := ("cross", 2, zaO) :: F5
abbrev F7 : List (Str × Nat × GN) := ("edges_of", 1, zbg) :: F6
abbrev F8 : List (Str × Nat × GN) := ("meets_along", 3, zcB) :: F7
abbrev F9 : List (Str × Nat × GN) := ("meets_segment", 3, zbL) :: F8
abbrev F10 : List (Str × Nat × GN) := ("meets_edges", 2, zaV) :: F9
abbrev F11 : List (Str × Nat × GN) := ("goes_through", 3, zat) :: F10
abbrev F12 : List (Str × Nat × GN) := ("meets_within_plane", 3, zau) :: F11
abbrev F13 : List (Str × Nat × GN) := ("meets_triangle", 2, zag) :: F12
abbrev F14 : List (Str × Nat × GN) := ("times_between", 4, zcN) :: F13
abbrev F15 : List (Str × Nat × GN) := ("span_in", 2, zfM) :: F14
abbrev F16 : List (Str × Nat × GN) := ("meets_box", 2, zer) :: F15
abbrev F17 : List (Str × Nat × GN) := ("refuse_standing", 1, zbe) :: F16
abbrev F18 : List (Str × Nat × GN) := ("are_in_order", 2, zb4) :: F17
abbrev F19 : List (Str × Nat × GN) := ("is_shape", 1, zc2) :: F18
abbrev F20 : List (Str × Nat × GN) := ("refuse_no_shape", 1, zbf) :: F19
abbrev F21 : List (Str × Nat × GN) := ("time_at", 2, zeq) :: F20
abbrev F22 : List (Str × Nat × GN) := ("meets", 2, zgh) :: F21
abbrev F23 : List (Str × Nat × GN) := ("_law_cell", 2, zdf) :: F22
abbrev F24 : List (Str × Nat × GN) := ("_law_drawn", 2, zaU) :: F23
abbrev F25 : List (Str × Nat × GN) := ("_law_whole", 1, zbV) :: F24
abbrev F26 : List (Str × Nat × GN) := ("_law_point", 2, za1) :: F25
abbrev F27 : List (Str × Nat × GN) := ("_law_ray", 2, zcm) :: F26
abbrev F28 : List (Str × Nat × GN) := ("_law_ratio", 2, zbW) :: F27
abbrev F29 : List (Str × Nat × GN) := ("_law_less", 2, zbN) :: F28
abbrev F30 : List (Str × Nat × GN) := ("_law_is_time", 1, zb5) :: F29
abbrev F31 : List (Str × Nat × GN) := ("_law_at", 2, zds) :: F30
abbrev F32 : List (Str × Nat × GN) := ("_law_way", 2, zbh) :: F31
abbrev F33 : List (Str × Nat × GN) := ("_law_flat", 4, zar) :: F32
abbrev F34 : List (Str × Nat × GN) := ("_law_on", 4, zcO) :: F33
abbrev F35 : List (Str × Nat × GN) := ("_law_time", 2, zaP) :: F34
abbrev F36 : List (Str × Nat × GN) := ("_law_comes", 2, zbX) :: F35
abbrev F37 : List (Str × Nat × GN) := ("_law_crosses", 3, zbm) :: F36
abbrev F38 : List (Str × Nat × GN) := ("_law_six", 2, zcl) :: F37
abbrev F39 : List (Str × Nat × GN) := ("_law_aimed", 3, za2) :: F38
abbrev F40 : List (Str × Nat × GN) := ("_law_in_triangle", 3, zaK) :: F39
abbrev F41 : List (Str × Nat × GN) := ("_law_corners", 2, zb6) :: F40
abbrev F42 : List (Str × Nat × GN) := ("_law_plane", 2, zbu) :: F41
abbrev F43 : List (Str × Nat × GN) := ("_law_times", 2, zbM) :: F42
abbrev hofs : List (Str × Str × (Addr → GN → GN)) := [("_law_first", "_law_time_here", zcM)]
theorem call : WalkO seen [] (λ_ _ => True) (topHookT defs blt "law" (top 53)).says PySem.Challenge.rw_firsthit_k14_whole_triangles_met.row.toRowW lawRec [] λf vs => PySem.call f vs := by
 refine zhy (k := 46) (x := "_law_script") rfl rfl ⟨rfl, by decide, by decide⟩ ?F
 case F =>
   intro w mg fa h K c Pt KX G hmg hD hB z hC
   have H : ∀ i (h : i < defs.length), DefK K (defs[i]).1 (defs[i]).2 := λi h => hD _ (List.getElem_mem h)
   have hb := zj8 KX G hB
   have hs : ∀ base : Heap, FnsOk PG w K mg base 37 F37 ∧ FnsOk PG w K mg base 43 F43 := by
     intro base
     have h0 : FnsOk PG w K mg base 0 F0 := FnsOk.nil
     have h1 : FnsOk PG w K mg base 1 F1 := zah (x := "common_divisor") (st := top 1) (ps := ["one", "other"]) (n := 3) (fb := zbz) (m := 40) h0 KX G hb (H 0 (by decide)) (bind2 λ_ _ _ _ _ _ _ _ => rfl) (by wtm_at "sc") (by decide +kernel) (by kernel_rfl) (by kernel_rfl)
     have h2 : FnsOk PG w K mg base 2 F2 := zah (x := "lowest_terms") (st := top 2) (ps := ["ratio"]) (n := 2) (fb := zb8) (m := 40) h1 KX G hb (H 1 (by decide)) (bind1 λ_ _ _ _ _ _ _ => rfl) (by wtm_at "sc") (by decide +kernel) (by kernel_rfl) (by kernel_rfl)
     have h3 : FnsOk PG w K mg base 3 F3 := zah (x := "is_less") (st := top 3) (ps := ["one", "other"]) (n := 2) (fb := zdw) (m := 40) h2 KX G hb (H 2 (by decide)) (bind2 λ_ _ _ _ _ _ _ _ => rfl) (by wtm_at "sc") (by decide +kernel) (by kernel_rfl) (by kernel_rfl)
     have h4 : FnsOk PG w K mg base 4 F4 := zah (x := "way_between") (st := top 4) (ps := ["one", "other"]) (n := 2) (fb := zbI) (m := 40) h3 KX G hb (H 3 (by decide)) (bind2 λ_ _ _ _ _ _ _ _ => rfl) (by wtm_at "sc") (by decide +kernel) (by kernel_rfl) (by kernel_rfl)
     have h5 : FnsOk PG w K mg base 5 F5 := zah (x := "dot") (st := top 5) (ps := ["one", "other"]) (n := 2) (fb := zka) (m := 40) h4 KX G hb (H 4 (by decide)) (bind2 λ_ _ _ _ _ _ _ _ => rfl) (by wtm_at "sc") (by decide +kernel) (by kernel_rfl) (by kernel_rfl)
     have h6 : FnsOk PG w K mg base 6 F6 := zah (x := "cross") (st := top 6) (ps := ["one", "other"]) (n := 2) (fb := zfx) (m := 40) h5 KX G hb (H 5 (by decide)) (bind2 λ_ _ _ _ _ _ _ _ => rfl) (by wtm_at "sc") (by decide +kernel) (by kernel_rfl) (by kernel_rfl)
     have h7 : FnsOk PG w K mg base 7 F7 := zah (x := "edges_of") (st := top 8) (ps := ["triangle"]) (n := 1) (fb := zc4) (m := 40) h6 KX G hb (H 6 (by decide)) (bind1 λ_ _ _ _ _ _ _ => rfl) (by wtm_at "sc") (by decide +kernel) (by kernel_rfl) (by kernel_rfl)
     have h8 : FnsOk PG w K mg base 8 F8 := zah (x := "meets_along") (st := top 9) (ps := ["ray", "one", "other"]) (n := 6) (fb := za8) (m := 40) h7 KX G hb (H 7 (by decide)) (bind3 λ_ _ _ _ _ _ _ _ _ => rfl) (by wtm_at "sc") (by decide +kernel) (by kernel_rfl) (by kernel_rfl)
     have h9 : FnsOk PG w K mg base 9 F9 := zah (x := "meets_segment") (st := top 10) (ps := ["ray", "one", "other"]) (n := 10) (fb := zax) (m := 40) h8 KX G hb (H 8 (by decide)) (bind3 λ_ _ _ _ _ _ _ _ _ => rfl) (by wtm_at "sc") (by decide +kernel) (by kernel_rfl) (by kernel_rfl)
     have h10 : FnsOk PG w K mg base 10 F10 := zah (x := "meets_edges") (st := top 11) (ps := ["ray", "triangle"]) (n := 6) (fb := zcC) (m := 40) h9 KX G hb (H 9 (by decide)) (bind2 λ_ _ _ _ _ _ _ _ => rfl) (by wtm_at "sc") (by decide +kernel) (by kernel_rfl) (by kernel_rfl)
     have h11 : FnsOk PG w K mg base 11 F11 := zah (x := "goes_through") (st := top 12) (ps := ["start", "way", "triangle"]) (n := 5) (fb := zbq) (m := 40) h10 KX G hb (H 10 (by decide)) (bind3 λ_ _ _ _ _ _ _ _ _ => rfl) (by wtm_at "sc") (by decide +kernel) (by kernel_rfl) (by kernel_rfl)
     have h12 : FnsOk PG w K mg base 12 F12 := zah (x := "meets_within_plane") (st := top 13) (ps := ["ray", "triangle", "upright"]) (n := 3) (fb := zaL) (m := 40) h11 KX G hb (H 11 (by decide)) (bind3 λ_ _ _ _ _ _ _ _ _ => rfl) (by wtm_at "sc") (by decide +kernel) (by kernel_rfl) (by kernel_rfl)
     have h13 : FnsOk PG w K mg base 13 F13 := zah (x := "meets_triangle") (st := top 14) (ps := ["ray", "triangle"]) (n := 5) (fb := zam) (m := 40) h12 KX G hb (H 12 (by decide)) (bind2 λ_ _ _ _ _ _ _ _ => rfl) (by wtm_at "sc") (by decide +kernel) (by kernel_rfl) (by kernel_rfl)
     have h14 : FnsOk PG w K mg base 14 F14 := zah (x := "times_between") (st := top 16) (ps := ["start", "step", "low", "high"]) (n := 4) (fb := zcQ) (m := 40) h13 KX G hb (H 13 (by decide)) (bind4 λ_ _ _ _ _ _ _ _ _ _ => rfl) (by wtm_at "sc") (by decide +kernel) (by kernel_rfl) (by kernel_rfl)
     have h15 : FnsOk PG w K mg base 15 F15 := zah (x := "span_in") (st := top 17) (ps := ["ray", "box"]) (n := 9) (fb := zfZ) (m := 40) h14 KX G hb (H 14 (by decide)) (bind2 λ_ _ _ _ _ _ _ _ => rfl) (by wtm_at "sc") (by decide +kernel) (by kernel_rfl) (by kernel_rfl)
     have h16 : FnsOk PG w K mg base 16 F16 := zah (x := "meets_box") (st := top 18) (ps := ["ray", "box"]) (n := 3) (fb := zeB) (m := 40) h15 KX G hb (H 15 (by decide)) (bind2 λ_ _ _ _ _ _ _ _ => rfl) (by wtm_at "sc") (by decide +kernel) (by kernel_rfl) (by kernel_rfl)
     have h17 : FnsOk PG w K mg base 17 F17 := zah (x := "refuse_standing") (st := top 24) (ps := ["ray"]) (n := 1) (fb := zbi) (m := 40) h16 KX G hb (H 16 (by decide)) (bind1 λ_ _ _ _ _ _ _ => rfl) (by wtm_at "sc") (by decide +kernel) (by kernel_rfl) (by kernel_rfl)
     have h18 : FnsOk PG w K mg base 18 F18 := zah (x := "are_in_order") (st := top 25) (ps := ["low", "high"]) (n := 2) (fb := zcf) (m := 40) h17 KX G hb (H 17 (by decide)) (bind2 λ_ _ _ _ _ _ _ _ => rfl) (by wtm_at "sc") (by decide +kernel) (by kernel_rfl) (by kernel_rfl)
     have h19 : FnsOk PG w K mg base 19 F19 := zah (x := "is_shape") (st := top 26) (ps := ["shape"]) (n := 1) (fb := zdM) (m := 40) h18 KX G hb (H 18 (by decide)) (bind1 λ_ _ _ _ _ _ _ => rfl) (by wtm_at "sc") (by decide +kernel) (by kernel_rfl) (by kernel_rfl)
     have h20 : FnsOk PG w K mg base 20 F20 := zah (x := "refuse_no_shape") (st := top 27) (ps := ["shape"]) (n := 1) (fb := zbj) (m := 40) h19 KX G hb (H 19 (by decide)) (bind1 λ_ _ _ _ _ _ _ => rfl) (by wtm_at "sc") (by decide +kernel) (by kernel_rfl) (by kernel_rfl)
     have h21 : FnsOk PG w K mg base 21 F21 := zah (x := "time_at") (st := top 28) (ps := ["ray", "shape"]) (n := 2) (fb := zeA) (m := 40) h20 KX G hb (H 20 (by decide)) (bind2 λ_ _ _ _ _ _ _ _ => rfl) (by wtm_at "sc") (by decide +kernel) (by kernel_rfl) (by kernel_rfl)
     have h22 : FnsOk PG w K mg base 22 F22 := zah (x := "meets") (st := top 29) (ps := ["ray", "shape"]) (n := 2) (fb := zgx) (m := 40) h21 KX G hb (H 21 (by decide)) (bind2 λ_ _ _ _ _ _ _ _ => rfl) (by wtm_at "sc") (by decide +kernel) (by kernel_rfl) (by kernel_rfl)
     have h23 : FnsOk PG w K mg base 23 F23 := zah (x := "_law_cell") (st := top 31) (ps := ["_law_script", "_law_k"]) (n := 2) (fb := zcE) (m := 40) h22 KX G hb (H 22 (by decide)) (bind2 λ_ _ _ _ _ _ _ _ => rfl) (by wtm_at "sc") (by decide +kernel) (by kernel_rfl) (by kernel_rfl)
     have h24 : FnsOk PG w K mg base 24 F24 := zah (x := "_law_drawn") (st := top 32) (ps := ["_law_cell_here", "_law_k"]) (n := 3) (fb := zb2) (m := 40) h23 KX G hb (H 23 (by decide)) (bind2 λ_ _ _ _ _ _ _ _ => rfl) (by wtm_at "sc") (by decide +kernel) (by kernel_rfl) (by kernel_rfl)
     have h25 : FnsOk PG w K mg base 25 F25 := zah (x := "_law_whole") (st := top 33) (ps := ["_law_thing"]) (n := 1) (fb := zcU) (m := 40) h24 KX G hb (H 24 (by decide)) (bind1 λ_ _ _ _ _ _ _ => rfl) (by wtm_at "sc") (by decide +kernel) (by kernel_rfl) (by kernel_rfl)
     have h26 : FnsOk PG w K mg base 26 F26 := zah (x := "_law_point") (st := top 34) (ps := ["_law_cell_here", "_law_k"]) (n := 5) (fb := zb1) (m := 40) h25 KX G hb (H 25 (by decide)) (bind2 λ_ _ _ _ _ _ _ _ => rfl) (by wtm_at "sc") (by decide +kernel) (by kernel_rfl) (by kernel_rfl)
     have h27 : FnsOk PG w K mg base 27 F27 := zah (x := "_law_ray") (st := top 35) (ps := ["_law_cell_here", "_law_k"]) (n := 4) (fb := zcs) (m := 40) h26 KX G hb (H 26 (by decide)) (bind2 λ_ _ _ _ _ _ _ _ => rfl) (by wtm_at "sc") (by decide +kernel) (by kernel_rfl) (by kernel_rfl)
     have h28 : FnsOk PG w K mg base 28 F28 := zah (x := "_law_ratio") (st := top 36) (ps := ["_law_top", "_law_under"]) (n := 5) (fb := zb0) (m := 40) h27 KX G hb (H 27 (by decide)) (bind2 λ_ _ _ _ _ _ _ _ => rfl) (by wtm_at "sc") (by decide +kernel) (by kernel_rfl) (by kernel_rfl)
     have h29 : FnsOk PG w K mg base 29 F29 := zah (x := "_law_less") (st := top 37) (ps := ["_law_one", "_law_other"]) (n := 2) (fb := zdj) (m := 40) h28 KX G hb (H 28 (by decide)) (bind2 λ_ _ _ _ _ _ _ _ => rfl) (by wtm_at "sc") (by decide +kernel) (by kernel_rfl) (by kernel_rfl)
     have h30 : FnsOk PG w K mg base 30 F30 := zah (x := "_law_is_time") (st := top 38) (ps := ["_law_told"]) (n := 1) (fb := zch) (m := 40) h29 KX G hb (H 29 (by decide)) (bind1 λ_ _ _ _ _ _ _ => rfl) (by wtm_at "sc") (by decide +kernel) (by kernel_rfl) (by kernel_rfl)
     have h31 : FnsOk PG w K mg base 31 F31 := zah (x := "_law_at") (st := top 39) (ps := ["_law_ray_here", "_law_time_here"]) (n := 2) (fb := zeG) (m := 40) h30 KX G hb (H 30 (by decide)) (bind2 λ_ _ _ _ _ _ _ _ => rfl) (by wtm_at "sc") (by decide +kernel) (by kernel_rfl) (by kernel_rfl)
     have h32 : FnsOk PG w K mg base 32 F32 := zah (x := "_law_way") (st := top 40) (ps := ["_law_one", "_law_other"]) (n := 2) (fb := zdN) (m := 40) h31 KX G hb (H 31 (by decide)) (bind2 λ_ _ _ _ _ _ _ _ => rfl) (by wtm_at "sc") (by decide +kernel) (by kernel_rfl) (by kernel_rfl)
     have h33 : FnsOk PG w K mg base 33 F33 := zah (x := "_law_flat") (st := top 41) (ps := ["_law_one", "_law_other", "_law_i", "_law_j"]) (n := 4) (fb := zbS) (m := 40) h32 KX G hb (H 32 (by decide)) (bind4 λ_ _ _ _ _ _ _ _ _ _ => rfl) (by wtm_at "sc") (by decide +kernel) (by kernel_rfl) (by kernel_rfl)
     have h34 : FnsOk PG w K mg base 34 F34 := zah (x := "_law_on") (st := top 42) (ps := ["_law_point_here", "_law_under", "_law_one", "_law_other"]) (n := 7) (fb := zcw) (m := 40) h33 KX G hb (H 33 (by decide)) (bind4 λ_ _ _ _ _ _ _ _ _ _ => rfl) (by wtm_at "sc") (by decide +kernel) (by kernel_rfl) (by kernel_rfl)
     have h35 : FnsOk PG w K mg base 35 F35 := zah (x := "_law_time") (st := top 43) (ps := ["_law_top", "_law_under"]) (n := 2) (fb := zcD) (m := 40) h34 KX G hb (H 34 (by decide)) (bind2 λ_ _ _ _ _ _ _ _ => rfl) (by wtm_at "sc") (by decide +kernel) (by kernel_rfl) (by kernel_rfl)
     have h36 : FnsOk PG w K mg base 36 F36 := zah (x := "_law_comes") (st := top 44) (ps := ["_law_ray_here", "_law_point_here"]) (n := 2) (fb := zcX) (m := 40) h35 KX G hb (H 35 (by decide)) (bind2 λ_ _ _ _ _ _ _ _ => rfl) (by wtm_at "sc") (by decide +kernel) (by kernel_rfl) (by kernel_rfl)
     have h37 : FnsOk PG w K mg base 37 F37 := zah (x := "_law_crosses") (st := top 45) (ps := ["_law_ray_here", "_law_one", "_law_other"]) (n := 9) (fb := zci) (m := 40) h36 KX G hb (H 36 (by decide)) (bind3 λ_ _ _ _ _ _ _ _ _ => rfl) (by wtm_at "sc") (by decide +kernel) (by kernel_rfl) (by kernel_rfl)
     have h38 : FnsOk PG w K mg base 38 F38 := zah (x := "_law_six") (st := top 47) (ps := ["_law_cell_here", "_law_k"]) (n := 3) (fb := zc5) (m := 40) h37 KX G hb (H 38 (by decide)) (bind2 λ_ _ _ _ _ _ _ _ => rfl) (by wtm_at "sc") (by decide +kernel) (by kernel_rfl) (by kernel_rfl)
     have h39 : FnsOk PG w K mg base 39 F39 := zah (x := "_law_aimed") (st := top 48) (ps := ["_law_cell_here", "_law_k", "_law_corners_here"]) (n := 14) (fb := zbx) (m := 40) h38 KX G hb (H 39 (by decide)) (bind3 λ_ _ _ _ _ _ _ _ _ => rfl) (by wtm_at "sc") (by decide +kernel) (by kernel_rfl) (by kernel_rfl)
     have h40 : FnsOk PG w K mg base 40 F40 := zah (x := "_law_in_triangle") (st := top 49) (ps := ["_law_point_here", "_law_under", "_law_corners_here"]) (n := 15) (fb := zbb) (m := 40) h39 KX G hb (H 40 (by decide)) (bind3 λ_ _ _ _ _ _ _ _ _ => rfl) (by wtm_at "sc") (by decide +kernel) (by kernel_rfl) (by kernel_rfl)
     have h41 : FnsOk PG w K mg base 41 F41 := zah (x := "_law_corners") (st := top 50) (ps := ["_law_cell_here", "_law_k"]) (n := 6) (fb := zaS) (m := 40) h40 KX G hb (H 41 (by decide)) (bind2 λ_ _ _ _ _ _ _ _ => rfl) (by wtm_at "sc") (by decide +kernel) (by kernel_rfl) (by kernel_rfl)
     have h42 : FnsOk PG w K mg base 42 F42 := zah (x := "_law_plane") (st := top 51) (ps := ["_law_ray_here", "_law_corners_here"]) (n := 9) (fb := zcV) (m := 40) h41 KX G hb (H 42 (by decide)) (bind2 λ_ _ _ _ _ _ _ _ => rfl) (by wtm_at "sc") (by decide +kernel) (by kernel_rfl) (by kernel_rfl)
     have h43 : FnsOk PG w K mg base 43 F43 := zah (x := "_law_times") (st := top 52) (ps := ["_law_ray_here", "_law_corners_here"]) (n := 8) (fb := zbQ) (m := 40) h42 KX G hb (H 43 (by decide)) (bind2 λ_ _ _ _ _ _ _ _ => rfl) (by wtm_at "sc") (by decide +kernel) (by kernel_rfl) (by kernel_rfl)
     exact ⟨h37, h43⟩
   obtain ⟨hf, hfd, m1, m2, m3, m4⟩ := zjI (P := PG) (w := w) (x := "_law_first") (st := top 46) (m := 40) (n := 4) (fb := zbw) (fns := F37) KX G hb (H 37 (by decide)) (show BindK "_law_first" (top 46) ["_law_times_here", "_law_rule"] from bind2 λ_ _ _ _ _ _ _ _ => rfl) (by wtm_at "sc") (by decide +kernel) (by kernel_rfl) (λa ψ => by kernel_rfl)
   refine zii (m := 40) (n := 11) (fb := zf0) (hof := hofs) (fns := F43) KX G hb hmg z hC (show BindK "law" (top 53) ["_law_script"] from bind1 λ_ _ _ _ _ _ _ => rfl) (by wtm_at "sc") (by decide +kernel) (by kernel_rfl) (by kernel_rfl) (λbase => (hs base).2) (λy q G e => ?_) zjD
   rw [List.lookup_cons] at e
   split at e
   · rename_i hy
     cases e
     have : y = "_law_first" := by simpa using hy
     subst this
     exact ⟨hf, hfd, _, _, m1, m2, m3, λ_ _ _ _ _ _ _ _ _ => rfl, λb' => m4 b' _ ((hs b').1.up (by decide))⟩
   · cases e
end MX.K14
theorem PySem.Challenge.cw_firsthit_k14_whole_triangles_met_holds : PySem.Challenge.rw_firsthit_k14_whole_triangles_met.Holds := by
 exact MX.zlK (H := (MX.topHookT MX.K14.defs MX.K14.blt "law" (MX.K14.top 53))) (q := MX.K14.seen) (d := MX.K14.lawRec) MX.K14.p1 MX.K14.left MX.K14.p2 MX.K14.p3 MX.K14.p4 MX.K14.p5 MX.K14.p6 (by w_witness2) MX.K14.call
#print axioms PySem.Challenge.cw_firsthit_k14_whole_triangles_met_holds
end
