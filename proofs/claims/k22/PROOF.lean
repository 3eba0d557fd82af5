import PyProof.Rows.All
import Wide.All
import OpenK.AllK
import Wide.FinOn
import PyProof.EqAt
import PyProof.EqKinds
import PyProof.TupleCall
import KE.KIsAll
import PyProof.DictRoadsH
import PyProof.DictItems
import PySem.Challenge.RW_firsthit_k22_whole_place_in_boxes
abbrev zsX := @List.getElem?_eq_some_iff
abbrev zsY := @List.mem_cons_of_mem
abbrev zsZ := @List.mem_cons_self
abbrev zs0 := @Nat.lt_of_lt_of_le
abbrev zs1 := @PySem.Heap.get?_push_of_some
abbrev zs2 := @Bool.false_ne_true
abbrev zs3 := @Nat.le_of_ble_eq_true
abbrev zs4 := @PySem.mem_of_lookup
abbrev zs5 := @Bool.and_eq_true
abbrev zs6 := @Option.bind_some
abbrev zs7 := @List.length_map
abbrev zs8 := @List.size_toArray
abbrev zs9 := @List.length_append
abbrev zta := @List.append_assoc
abbrev ztb := @List.getElem?_map
abbrev ztc := @Int.fmod_nonneg_of_pos
abbrev ztd := @Int.fmod_lt_of_pos
abbrev zte := @Nat.lt_irrefl
abbrev ztf := @List.mem_append
abbrev ztg := @List.length_cons
abbrev zth := @List.map_append
abbrev zti := @List.getElem?_append_left
abbrev ztj := @List.getElem?_append_right
abbrev ztk := @PySem.Heap.get?_push_size
abbrev ztl := @Nat.lt_of_le_of_lt
abbrev ztm := @PySem.wpAny_bind
abbrev ztn := @PySem.wpAny_pure
abbrev zto := @PySem.wpAny_mono
abbrev ztp := @PySem.Heap.lt_size
abbrev ztq := @Nat.le_refl
abbrev ztr := @List.all_cons
abbrev zts := @List.getElem?_eq_getElem
abbrev ztt := @List.length_nil
abbrev ztu := @List.length_take
abbrev ztv := @Option.map_some
abbrev ztw := @Bool.or_eq_true
abbrev zty := @PySem.F.slot_list_count
abbrev ztA := @Nat.ne_of_lt
abbrev ztD := @List.take_length
abbrev ztF := @List.mem_nil_iff
abbrev ztG := @decide_eq_true_eq
abbrev ztI := @List.lookup_cons
abbrev ztJ := @List.map_cons
abbrev ztK := @List.nil_append
abbrev ztL := @List.getElem?_eq_none
theorem oMs {α β : Type _} {f : α → β} {x : Option α} {b : β} : x.map f = some b ↔ ∃ a, x = some a ∧ f a = b := Option.map_eq_some_iff
theorem oBs {α β : Type _} {f : α → Option β} {x : Option α} {b : β} : x.bind f = some b ↔ ∃ a, x = some a ∧ f a = some b := Option.bind_eq_some_iff
noncomputable section
set_option Elab.async false
set_option linter.all false
set_option maxRecDepth 100000
set_option maxHeartbeats 0
section
namespace MX
open PySem PySem.Spec PySem.W PyProof.Rows
def zsa (a : Addr) (o : Obj) : Bool := match o.data with
 | .freed => false
 | .dict _ _ => true
 | _ => match o.cls with
   | .none => Nat.beq a 3
   | _ => true
def zqh : List Obj -> Addr -> PySem.W.Frag
 | [], _ => []
 | o :: r, a => bif zsa a o then (a, o) :: zqh r (Nat.succ a) else zqh r (Nat.succ a)
def zqG (h : Heap) : PySem.W.Frag := zqh h.objs.toList 0
def zqV (K : PySem.W.Frag) (x : Str) : Option (Arguments × List Stmt × Scope × Bool) := match nsIn K mainGlobals x with
 | some (some (.ref f)) => match K.lookup f with
   | some ⟨_, _, .func ⟨n, q, ps, .stmts b, sc, g, [], .none, _, _, _, _, cd, _, bn⟩, _⟩ => some (ps, b, sc, n == x && (q == x && (Nat.beq g mainGlobals && (Nat.beq bn builtinsNs && (codeIn K cd x && keepIn K (.ref f))))))
   | _ => none
 | _ => none
def zqW (K : PySem.W.Frag) (h : Heap) (x : Str) : Option Obj × Bool := match nsIn K mainGlobals x with
 | some (some (.ref f)) => match K.lookup f with
   | some ⟨_, _, .func F, _⟩ => match F.code with
     | .ref c => match K.lookup c with
       | some ⟨_, _, .fields vs, _⟩ => match (vs[11]? : Option Value) with
         | some (.ref P) => (h.get? P, codeHdIn K c P && (K.lookup P).isNone)
         | _ => (none, false)
       | _ => (none, false)
     | _ => (none, false)
   | _ => (none, false)
 | _ => (none, false)
def dA (s : Stmt) : Arguments := match s with
 | .FunctionDef _ a _ _ _ _ _ _ _ _ => a
 | _ => { posonlyargs := [], args := [], vararg := none, kwonlyargs := [], kw_defaults := [], kwarg := none, defaults := [] }
def dB (s : Stmt) : List Stmt := match s with
 | .FunctionDef _ _ b _ _ _ _ _ _ _ => b
 | _ => []
def dS (s : Stmt) : Scope := match s with
 | .FunctionDef _ _ _ _ _ _ c _ _ _ => c
 | _ => { kind := .function, names := [], isGenerator := false, isCoroutine := false }
def defPos (s : Stmt) : Pos := match s with
 | .FunctionDef _ _ _ _ _ _ _ _ _ p => p
 | _ => ⟨0, 0, 0, 0⟩
def obsP (ds : List (Str × Stmt)) (blt : List Str) (s : Shared) : List (Option (Arguments × List Stmt × Scope × Bool)) × List (Option (Option Value)) := (ds.map fun y => zqV (zqG s.heap) y.1, blt.map fun y => nsIn (zqG s.heap) mainGlobals y)
def valP (ds : List (Str × Stmt)) (blt : List Str) : List (Option (Arguments × List Stmt × Scope × Bool)) × List (Option (Option Value)) := (ds.map fun y => some (dA y.2, dB y.2, dS y.2, true), blt.map fun _ => some none)
def obsT (ds : List (Str × Stmt)) (blt : List Str) (x : Str) (s : Shared) : (List (Option (Arguments × List Stmt × Scope × Bool)) × List (Option (Option Value))) × Option (Arguments × List Stmt × Scope × Bool) × (Option Obj × Bool) := (obsP ds blt s, zqV (zqG s.heap) x, zqW (zqG s.heap) s.heap x)
def valT (ds : List (Str × Stmt)) (blt : List Str) (st : Stmt) : (List (Option (Arguments × List Stmt × Scope × Bool)) × List (Option (Option Value))) × Option (Arguments × List Stmt × Scope × Bool) × (Option Obj × Bool) := (valP ds blt, some (dA st, dB st, dS st, true), (some (tabObj #[]), true))
abbrev veMro : List Value := [.type "ValueError", .type "Exception", .type "BaseException", .type "object"]
def wn : Nat -> Str
 | 0 => "NoRay"
 | 1 => "NoShape"
 | 2 => "NotClosed"
 | _ => "BadRow"
def zp8 (K : PySem.W.Frag) (D : Addr) : Bool :=
 (findIn K (.ref D) "__getattribute__" == some (some (.builtin "BaseException.__getattribute__")) && (findIn K (.ref D) "__getattr__" == some none && mroIn K D (.type "BaseException") == some true)) && ((clsIn K D).isSome && (findIn K (.ref D) "__class__" == some (some (.builtin "object.__class__")) &&
   (specialIn K (.builtin "object.__class__") "__get__" == some (some (.builtin "getset_descriptor.__get__")) && (takesIn K (.builtin "object.__class__") == some true && mroIn K D (.type "object") == some true))))
def zqj (K : PySem.W.Frag) (x : Str) : Addr := match nsIn K mainGlobals x with
 | some (some (.ref a)) => a
 | _ => 0
def zss (K : PySem.W.Frag) (i : Nat) : Bool := (zp8 K (zqj K (wn i)) && excIn K (zqj K (wn i)) veMro "ValueError.__new__") && (mroIn K (zqj K (wn i)) (.ref (zqj K "HitError")) == some true &&
 (kitOne K (.ref (zqj K (wn i))) (.ref (zqj K "HitError")) == some true && (kitOne K (.ref (zqj K (wn i))) (.type "ValueError") == some true &&
   ((List.range 4).all (fun j => kitOne K (.ref (zqj K (wn i))) (.ref (zqj K (wn j))) == some (decide (i = j))) && nsIn K mainGlobals (wn i) == some (some (.ref (zqj K (wn i))))))))
def excB (K : PySem.W.Frag) : Bool := (List.range 4).all (zss K) && ((nsIn K mainGlobals "HitError" == some (some (.ref (zqj K "HitError"))) && excIn K (zqj K "HitError") veMro "ValueError.__new__") && (nsIn K mainGlobals "isinstance" == some none && nsIn K mainGlobals "ValueError" == some none))
def obsX (ds : List (Str × Stmt)) (blt : List Str) (x : Str) (s : Shared) : ((List (Option (Arguments × List Stmt × Scope × Bool)) × List (Option (Option Value))) × Option (Arguments × List Stmt × Scope × Bool) × (Option Obj × Bool)) × Bool := (obsT ds blt x s, excB (zqG s.heap))
def valX (ds : List (Str × Stmt)) (blt : List Str) (st : Stmt) : ((List (Option (Arguments × List Stmt × Scope × Bool)) × List (Option (Option Value))) × Option (Arguments × List Stmt × Scope × Bool) × (Option Obj × Bool)) × Bool := (valT ds blt st, true)
end MX
end
section
namespace MX.K22
open PySem PySem.Spec PySem.W PyProof.Rows MX
abbrev PP : Program := PySem.Challenge.pw_firsthit_k22_whole_place_in_boxes
abbrev PG : Program := PySem.Challenge.rw_firsthit_k22_whole_place_in_boxes.prog
def top (i : Nat) : Stmt := PP.main.body.getD i (.Pass ⟨0, 0, 0, 0⟩)
def blt : List Str := ["len", "abs", "min", "max", "isinstance", "all", "any", "sum", "sorted", "tuple", "list", "range", "zip", "int", "bool", "str"]
def nm (s : Stmt) : Str := match s with
 | .FunctionDef n _ _ _ _ _ _ _ _ _ => n
 | _ => ""
def ixs : List Nat := [7, 8, 9, 10, 11, 12, 14, 15, 16, 17, 18, 19, 20, 22, 23, 24, 25, 26, 27, 28, 30, 31, 32, 33, 34, 35, 36, 37, 38, 39, 40, 41, 42, 43]
def defs : List (Str × Stmt) := ixs.map fun i => (nm (top i), top i)
def seen : Program := view PP [1, 2, 3, 4, 5, 7, 8, 9, 10, 11, 12, 14, 15, 16, 17, 18, 19, 20, 22, 23, 24, 25, 26, 27, 28, 30, 31, 32, 33, 34, 35, 36, 37, 38, 39, 40, 41, 42, 43, 44]
def lawRec : DefRec := ⟨"law", dA (top 44), dB (top 44), dS (top 44), defPos (top 44)⟩
theorem left : LeftO PP seen [] (fun _ => true) (obsX defs blt "law") (fun _ => valX defs blt (top 44)) 4320 := by
 intro w
 kernel_rfl
end MX.K22
end
section
namespace L2
open PySem PySem.Spec PyProof.Rows
abbrev Key := Sum Int Str
def zq7 : Key -> Value -> Bool
 | .inl k, v => Value.isInt k v
 | .inr x, v => Value.isStrOf x v
def keyH (w : World) : Key -> Int
 | .inl k => hashInt k
 | .inr x => hashStr w x
theorem zaI : ∀ {k : Key} {v : Value}, zq7 k v = true -> (∃ i t, k = Sum.inl i /\ v = Value.int i t) \/ (∃ x t, k = Sum.inr x /\ v = Value.str x t)
 | .inl i, v, h => by
   obtain ⟨t, e⟩ := Value.isInt_shape (k := i) (v := v) h
   exact .inl ⟨i, t, rfl, e⟩
 | .inr x, v, h => by
   obtain ⟨t, e⟩ := Value.isStrOf_shape (x := x) (v := v) h
   exact .inr ⟨x, t, rfl, e⟩
theorem zod (a b : Int) : decide ((Sum.inl a : Key) = Sum.inl b) = (a == b) := by
 by_cases e : a = b
 . subst e; simp
 . have h : ¬ (Sum.inl a : Key) = Sum.inl b := fun q => e (Sum.inl.inj q)
   rw [decide_eq_false h]
   exact (beq_eq_false_iff_ne.mpr e).symm
theorem zoa (a b : Str) : decide ((Sum.inr a : Key) = Sum.inr b) = decide (a = b) := by
 by_cases e : a = b
 . subst e; simp
 . have h : ¬ (Sum.inr a : Key) = Sum.inr b := fun q => e (Sum.inr.inj q)
   rw [decide_eq_false h, decide_eq_false e]
theorem zoc (a : Int) (b : Str) : decide ((Sum.inl a : Key) = Sum.inr b) = false := decide_eq_false (fun q => nomatch q)
theorem zob (a : Str) (b : Int) : decide ((Sum.inr a : Key) = Sum.inl b) = false := decide_eq_false (fun q => nomatch q)
def zrd (prog : Program) (w : World) : PySem.KeyKind prog w Key where
 is := zq7
 hash := keyH w
 inj := fun v a b ha hb => by
   rcases zaI ha with ⟨i, t, rfl, rfl⟩ | ⟨x, t, rfl, rfl⟩
   . rcases zaI hb with ⟨j, u, rfl, e⟩ | ⟨y, u, rfl, e⟩
     . injection e with e1 _; rw [e1]
     . exact nomatch e
   . rcases zaI hb with ⟨j, u, rfl, e⟩ | ⟨y, u, rfl, e⟩
     . exact nomatch e
     . injection e with e1 _; rw [e1]
 byValue := fun k v h => by
   rcases zaI h with ⟨i, t, rfl, rfl⟩ | ⟨x, t, rfl, rfl⟩ <;> rfl
 pyHash := fun hv h => by
   rcases zaI hv with ⟨i, t, rfl, rfl⟩ | ⟨x, t, rfl, rfl⟩
   . exact wpAny_pyHash_int h
   . exact wpAny_pyHash_str h
 eqBool := fun hu hv h => by
   rcases zaI hu with ⟨i, t, rfl, rfl⟩ | ⟨x, t, rfl, rfl⟩
   . rcases zaI hv with ⟨j, u, rfl, rfl⟩ | ⟨y, u, rfl, rfl⟩
     . rw [zod] at h; exact wpAny_eqBool_int h
     . rw [zoc] at h; exact SeqAt.EqAt.int_str i t y u _ _ _ _ h
   . rcases zaI hv with ⟨j, u, rfl, rfl⟩ | ⟨y, u, rfl, rfl⟩
     . rw [zob] at h; exact SeqAt.EqAt.str_int x t j u _ _ _ _ h
     . rw [zoa] at h; exact wpAny_eqBool_str h
 «strs» := fun k x t v h => by
   rcases zaI h with ⟨i, u, rfl, e⟩ | ⟨y, u, rfl, e⟩
   . exact nomatch e
   . injection e with e1 _
     subst e1
     cases v <;> rfl
inductive V where
 | non | bl (b : Bool) | int (i : Int) | str (x : Str) | byt (b : Array UInt8) | flt (b : UInt64) | ref (a : Addr) | ty (n : String)
 deriving DecidableEq
def RelV : V -> Value -> Prop
 | .non, u => u = Value.none
 | .bl b, u => u = Value.bool b
 | .int i, u => ∃ t, u = Value.int i t
 | .str x, u => ∃ t, u = Value.str x t
 | .byt b, u => ∃ t, u = Value.bytes b t
 | .flt b, u => ∃ t, u = Value.float b t
 | .ref a, u => u = Value.ref a
 | .ty n, u => u = Value.type n
abbrev Vals : List V -> List Value -> Prop := Paired RelV
theorem Vals.length {xs : List V} {us : List Value} (r : Vals xs us) : xs.length = us.length := Paired.length r
theorem Vals.get : ∀ {xs : List V} {us : List Value} {i : Nat} {x : V}, Vals xs us -> xs[i]? = some x -> ∃ u, us[i]? = some u /\ RelV x u
 | _, _, _, _, .nil, e => by simp at e
 | _, _, 0, _, .cons r _, e => by simp at e; subst e; exact ⟨_, rfl, r⟩
 | _, _, i + 1, x, .cons _ t, e => by
   obtain ⟨u, h1, h2⟩ := Vals.get (i := i) (x := x) t (by simpa using e)
   exact ⟨u, by simpa using h1, h2⟩
theorem Vals.set {x : V} {u : Value} (r : RelV x u) : ∀ {xs : List V} {us : List Value} (i : Nat), Vals xs us -> Vals (xs.set i x) (us.set i u)
 | _, _, _, .nil => .nil
 | _, _, 0, .cons _ t => .cons r t
 | _, _, i + 1, .cons q t => .cons q (Vals.set r i t)
theorem Vals.append : ∀ {xs ys : List V} {us ws : List Value}, Vals xs us -> Vals ys ws -> Vals (xs ++ ys) (us ++ ws)
 | _, _, _, _, .nil, s => s
 | _, _, _, _, .cons r t, s => .cons r (Vals.append t s)
theorem Vals.take : ∀ {xs : List V} {us : List Value} (n : Nat), Vals xs us -> Vals (xs.take n) (us.take n)
 | _, _, 0, _ => .nil
 | _, _, _ + 1, .nil => .nil
 | _, _, n + 1, .cons r t => .cons r (Vals.take n t)
theorem Vals.drop : ∀ {xs : List V} {us : List Value} (n : Nat), Vals xs us -> Vals (xs.drop n) (us.drop n)
 | _, _, 0, r => r
 | _, _, _ + 1, .nil => .nil
 | _, _, n + 1, .cons _ t => Vals.drop n t
def RelO : Option V -> Option Value -> Prop
 | some v, some u => RelV v u
 | none, none => True
 | _, _ => False
def KV {κ : Type} : List (κ × V) -> List (κ × Value) -> Prop := Paired fun (p : κ × V) (q : κ × Value) => p.1 = q.1 /\ RelV p.2 q.2
def kV : Key -> V
 | .inl i => .int i
 | .inr x => .str x
inductive HO where
 | lst (xs : List V)
 | tup (xs : List V)
 | dK (kvs : List (Key × V)) | dT (kvs : List (List Key × V))
 | set (S : Int -> Bool) (n : Nat)
 | ins (C dx : Addr) (fs : List (Str × V))
 | own (x : Addr)
 | xd (fs : List (Str × V))
 | met (f x : Addr)
 | rng (lo hi : Int)
 | frz (o : Obj) (u : HO)
 | tbl (ps : Array Value)
 | ext (φ : Heap -> Prop)
abbrev Hp := Addr -> Option HO
def upd (H : Hp) (a : Addr) (o : HO) : Hp := fun b => if b = a then some o else H b
theorem zam {H : Hp} {a : Addr} {o : HO} : upd H a o a = some o := by unfold upd; rw [if_pos rfl]
theorem zal {H : Hp} {a b : Addr} {o : HO} (h : b ≠ a) : upd H a o b = H b := by unfold upd; rw [if_neg h]
theorem zmf {H : Hp} {a b : Addr} {o u : HO} (h : H a = some o) (h' : H b = some u) (d : o ≠ u) : a ≠ b := by
 intro e; subst e; rw [h] at h'; exact d (Option.some.inj h')
theorem zak {H : Hp} {a b : Addr} {o : HO} (h : H a = some o) (h' : H b = none) : a ≠ b := by
 intro e; subst e; rw [h] at h'; cases h'
section
variable (P : Program) (w : World)
def ObjOk (H : Hp) (h : Heap) (a : Addr) : HO -> Prop
 | .lst xs => xs.length <= sizeLine /\ ∃ (its : List Value) (n : Nat), Vals xs its /\ h.get? a = some { cls := .type "list", data := .seq its.toArray n }
 | .tup xs => xs.length <= sizeLine /\ ∃ its : List Value, Vals xs its /\ IsTup h a its.toArray
 | .dK kvs => kvs.length <= sizeLine /\ (a == sysModules) = false /\ ∃ vs, KV kvs vs /\ h.DictOf (zrd P w) a vs
 | .dT kvs => kvs.length <= sizeLine /\ (a == sysModules) = false /\ ∃ xs : List (List Key × Addr × Value),
     Paired (fun (p : List Key × V) (q : List Key × Addr × Value) => p.1 = q.1 /\ H q.2.1 = some (.tup (p.1.map kV)) /\ RelV p.2 q.2.2) kvs xs /\
     ∃ o es ep, h.get? a = some o /\ o.ExactDict /\ o.data = .dict es ep /\ es.toList = xs.map (entryOfKey (tupleKind (zrd P w))) /\ (xs.map (·.1)).Nodup
 | .set S n => h.SetOf (intKind P w) a S n
 | .ins C dx fs => H dx = some (.own a) /\ fs.length <= 1000 /\ dx ≠ a /\ h.get? a = some (PySem.W.instObj C dx) /\
     ∃ mA, h.Ns1 dx mA /\ (∀ f, RelO (fs.lookup f) (mA f)) /\ PySem.Within mA (fs.map (·.1))
 | .own _ => ∃ o, h.get? a = some o
 | .xd fs => ∃ mA, h.Ns1 a mA /\ ∀ f, RelO (fs.lookup f) (mA f)
 | .rng lo hi => ∃ t u v, h.get? a = some { cls := .type "range", data := .fields #[.int lo t, .int hi u, .int 1 v] }
 | .frz o u => h.get? a = some o /\ ObjOk H h a u
 | .tbl ps => h.get? a = some { cls := .none, data := .fields ps } /\ TriplesOk ps.toList /\ ∀ pos cv, codeAmong pos ps.toList = some cv -> ∃ c q oc vs t, cv = Value.ref c /\ H c = some (.own a) /\ h.get? c = some oc /\ oc.data = .fields vs /\ vs[1]? = some (.str q t)
 | .met f x => h.get? a = some (PySem.W.methodObj (.ref f) (.ref x))
 | .ext φ => φ h /\ (∃ o, h.get? a = some o) /\ ∀ h1 h2 : Heap, φ h1 -> (∀ o, h1.get? a = some o -> h2.get? a = some o) -> φ h2
def HOk (H : Hp) (h : Heap) : Prop := ∀ a o, H a = some o -> ObjOk P w H h a o
end
section
variable {P : Program} {w : World} {H H' : Hp} {h h' : Heap} {a : Addr} {o : HO}
theorem ObjOk.lt (x : ObjOk P w H h a o) : a < h.objs.size := by
 cases o with
 | lst xs => obtain ⟨_, _, _, _, e⟩ := x; exact ztp e
 | tup xs => obtain ⟨_, _, _, p⟩ := x; exact p.lt
 | dK kvs => obtain ⟨_, _, _, _, o, _, _, e, _⟩ := x; exact ztp e
 | dT kvs => obtain ⟨_, _, _, _, o, _, _, e, _⟩ := x; exact ztp e
 | set S n => obtain ⟨o, _, _, _, e, _⟩ := x; exact ztp e
 | ins C dx fs => obtain ⟨_, _, _, e, _⟩ := x; exact ztp e
 | own y => obtain ⟨_, e⟩ := x; exact ztp e
 | xd fs => obtain ⟨_, ⟨_, _, _, e, _⟩, _⟩ := x; exact ztp e
 | rng lo hi => obtain ⟨_, _, _, e⟩ := x; exact ztp e
 | frz ob u => obtain ⟨e, _⟩ := x; exact ztp e
 | tbl ps => exact ztp x.1
 | met f y => exact ztp (show h.get? a = some _ from x)
 | ext φ => obtain ⟨_, ⟨_, e⟩, _⟩ := x; exact ztp e
theorem Paired.mapP {α β : Type} {F G : α -> β -> Prop} : ∀ {l₁ : List α} {l₂ : List β}, Paired F l₁ l₂ -> (∀ a b, F a b -> G a b) -> Paired G l₁ l₂
 | _, _, .nil, _ => .nil
 | _, _, .cons r t, f => .cons (f _ _ r) (Paired.mapP t f)
theorem ObjOk.stay (x : ObjOk P w H h a o) (k : ∀ b u, (b = a \/ H b = some (.own a)) -> h.get? b = some u -> h'.get? b = some u)
   (ho : ∀ b, H b = some (.own a) -> H' b = some (.own a)) (ht : ∀ b xs, H b = some (.tup xs) -> H' b = some (.tup xs)) : ObjOk P w H' h' a o := by
 induction o with
 | lst xs => obtain ⟨z, its, n, r, e⟩ := x; exact ⟨z, its, n, r, k _ _ (.inl rfl) e⟩
 | tup xs => obtain ⟨z, its, r, ob, e, c⟩ := x; exact ⟨z, its, r, ob, k _ _ (.inl rfl) e, c⟩
 | dK kvs => obtain ⟨z, y, vs, r, ob, es, ep, e, c⟩ := x; exact ⟨z, y, vs, r, ob, es, ep, k _ _ (.inl rfl) e, c⟩
 | dT kvs =>
   obtain ⟨z, y, xs, r, ob, es, ep, e, c⟩ := x
   exact ⟨z, y, xs, Paired.mapP r fun p q z => ⟨z.1, ht _ _ z.2.1, z.2.2⟩, ob, es, ep, k _ _ (.inl rfl) e, c⟩
 | set S n => obtain ⟨ob, es, ep, t, e, c⟩ := x; exact ⟨ob, es, ep, t, k _ _ (.inl rfl) e, c⟩
 | ins C dx fs =>
   obtain ⟨d, z, ne, e, mA, ⟨od, es, ep, e2, c⟩, r⟩ := x
   exact ⟨ho _ d, z, ne, k _ _ (.inl rfl) e, mA, ⟨od, es, ep, k _ _ (.inr d) e2, c⟩, r⟩
 | own y => obtain ⟨ob, e⟩ := x; exact ⟨ob, k _ _ (.inl rfl) e⟩
 | xd fs => obtain ⟨mA, ⟨od, es, ep, e, c⟩, r⟩ := x; exact ⟨mA, ⟨od, es, ep, k _ _ (.inl rfl) e, c⟩, r⟩
 | rng lo hi => obtain ⟨t, u, v, e⟩ := x; exact ⟨t, u, v, k _ _ (.inl rfl) e⟩
 | frz ob u ih => obtain ⟨e, q⟩ := x; exact ⟨k _ _ (.inl rfl) e, ih q⟩
 | tbl ps =>
   obtain ⟨e, h1, h2⟩ := x
   refine ⟨k a _ (.inl rfl) e, h1, fun pos cv q => ?_⟩
   obtain ⟨c, q, oc, vs, t, e1, e2, e3, e4⟩ := h2 pos cv q
   exact ⟨c, q, oc, vs, t, e1, ho _ e2, k _ _ (.inr e2) e3, e4⟩
 | met f y =>
   have e : h.get? a = some (PySem.W.methodObj (.ref f) (.ref y)) := x
   show h'.get? a = some (PySem.W.methodObj (.ref f) (.ref y))
   exact k a _ (.inl rfl) e
 | ext φ => obtain ⟨p, ⟨o, e⟩, st⟩ := x; exact ⟨st _ _ p fun o q => k _ _ (.inl rfl) q, ⟨o, k _ _ (.inl rfl) e⟩, st⟩
theorem HOk.lt (x : HOk P w H h) (e : H a = some o) : a < h.objs.size := (x a o e).lt
theorem HOk.fresh (x : HOk P w H h) (e : h.objs.size <= a) : H a = none := by
 cases q : H a with
 | none => rfl
 | some u => exact absurd (zs0 (x.lt q) e) (zte _)
theorem HOk.kept (x : HOk P w H h) (k : ∀ b u, h.get? b = some u -> h'.get? b = some u) : HOk P w H h' := fun a o e =>
 (x a o e).stay (fun b u _ q => k b u q) (fun _ q => q) fun _ _ q => q
theorem HOk.laid (x : HOk P w H h) (k : ∀ b u, h.get? b = some u -> h'.get? b = some u) (hp : h.objs.size <= a) (new : ObjOk P w (upd H a o) h' a o) : HOk P w (upd H a o) h' := fun b u e => by
 have hn := x.fresh hp
 by_cases hb : b = a
 . subst hb; rw [zam] at e; cases e; exact new
 . rw [zal hb] at e
   exact (x b u e).stay (fun c v _ q => k c v q) (fun c q => by rw [zal (zak q hn)]; exact q) fun c xs q => by rw [zal (zak q hn)]; exact q
end
def Rd (H : Hp) (a : Addr) (u : HO) : Prop := H a = some u \/ ∃ o, H a = some (.frz o u)
theorem Rd.ok {P : Program} {w : World} {H : Hp} {h : Heap} {a : Addr} {u : HO} (r : Rd H a u) (x : HOk P w H h) : ObjOk P w H h a u := by
 rcases r with r | ⟨o, r⟩
 . exact x a u r
 . obtain ⟨_, q⟩ := x a _ r
   exact q
def Mut : Option HO -> Prop
 | some (.lst _) => True
 | some (.dK _) => True
 | some (.dT _) => True
 | some (.set _ _) => True
 | some (.ins _ _ _) => True
 | some (.ext _) => True
 | _ => False
section
variable {P : Program} {w : World} {H : Hp} {h h' : Heap} {x e : Addr} {o' : HO}
theorem HOk.write (ok : HOk P w H h) (mu : Mut (H x)) (he : e = x \/ H e = some (.own x)) (k : ∀ b u, b ≠ e -> h.get? b = some u -> h'.get? b = some u) (heo : ∃ u, h'.get? e = some u)
   (new : ObjOk P w (upd H x o') h' x o') : HOk P w (upd H x o') h' := fun b u q => by
 have nown : ∀ c y, H c = some (.own y) -> c ≠ x := fun c y r z => by subst z; rw [r] at mu; exact mu
 have ntup : ∀ c xs, H c = some (.tup xs) -> c ≠ x := fun c xs r z => by subst z; rw [r] at mu; exact mu
 by_cases hb : b = x
 . subst hb; rw [zam] at q; cases q; exact new
 . rw [zal hb] at q
   by_cases hbe : b = e
   . have q' : H b = some (.own x) := by
       rcases he with z | z
       . exact absurd (hbe.trans z) hb
       . rw [hbe]; exact z
     rw [q] at q'; cases q'
     obtain ⟨v, hv⟩ := heo
     exact ⟨v, by rw [hbe]; exact hv⟩
   . refine (ok b u q).stay (fun c v hc r => k c v ?_ r) (fun c r => by rw [zal (nown c b r)]; exact r) fun c xs r => by rw [zal (ntup c xs r)]; exact r
     rcases hc with rfl | hc
     . exact hbe
     . rintro rfl
       rcases he with z | z
       . exact nown c b hc z
       . rw [hc] at z; cases z; exact hb rfl
end
structure Un (fs ex : List Addr) (H H' : Hp) (h h' : Heap) : Prop where
 keep : ∀ b o, h.get? b = some o -> H b = none -> b ∉ fs -> b ∉ ex -> h'.get? b = some o
 slot : ∀ b o, h.get? b = some o -> H b = none -> b ∈ fs -> b ∉ ex -> ∃ sl, h'.get? b = some { o with slots := sl }
 free : ∀ b o, h.get? b = some o -> H b = none -> b ∉ ex -> H' b = none
 there : ∀ b o, h.get? b = some o -> b ∉ ex -> ∃ o', h'.get? b = some o'
 tups : ∀ b xs, H b = some (.tup xs) -> H' b = some (.tup xs)
 frzs : ∀ b o u, H b = some (.frz o u) -> H' b = some (.frz o u)
 tbls : ∀ b ps, H b = some (.tbl ps) -> ∃ more, H' b = some (.tbl (ps ++ more))
section
variable {fs fs' ex ex' : List Addr} {H H1 H2 : Hp} {h h1 h2 h' : Heap} {a x e : Addr} {o : HO}
theorem Un.any (u : Un fs ex H H1 h h1) {b : Addr} {ob : Obj} (q : h.get? b = some ob) (n : H b = none) (hx : b ∉ ex) : ∃ sl, h1.get? b = some { ob with slots := sl } := by
 by_cases hb : b ∈ fs
 . exact u.slot b ob q n hb hx
 . exact ⟨ob.slots, u.keep b ob q n hb hx⟩
theorem Un.kept (k : ∀ b u, h.get? b = some u -> h'.get? b = some u) : Un fs ex H H h h' :=
 ⟨fun b ob q _ _ _ => k b ob q, fun b ob q _ _ _ => ⟨ob.slots, k b ob q⟩, fun _ _ _ n _ => n, fun b ob q _ => ⟨ob, k b ob q⟩, fun _ _ q => q, fun _ _ _ q => q, fun _ ps q => ⟨#[], by rw [q]; simp⟩⟩
theorem Un.refl : Un fs ex H H h h := Un.kept fun _ _ q => q
theorem Un.laid (k : ∀ b u, h.get? b = some u -> h'.get? b = some u) (hp : h.objs.size <= a) (hn : H a = none) : Un fs ex H (upd H a o) h h' where
 keep := fun b u q _ _ _ => k b u q
 slot := fun b u q _ _ _ => ⟨u.slots, k b u q⟩
 free := fun b u q n _ => by rw [zal (ztA (zs0 (ztp q) hp))]; exact n
 there := fun b u q _ => ⟨u, k b u q⟩
 tups := fun b xs q => by rw [zal (zak q hn)]; exact q
 frzs := fun b u xs q => by rw [zal (zak q hn)]; exact q
 tbls := fun b ps q => ⟨#[], by rw [zal (zak q hn), q]; simp⟩
theorem Un.write (mu : Mut (H x)) (he : e = x \/ H e = some (.own x)) (k : ∀ b u, b ≠ e -> h.get? b = some u -> h'.get? b = some u) (heo : ∃ u, h'.get? e = some u) : Un fs ex H (upd H x o) h h' := by
 have hx : ∀ b, H b = none -> b ≠ x := fun b n z => by subst z; rw [n] at mu; exact mu
 have hb : ∀ b, H b = none -> b ≠ e := fun b n z => by
   subst z
   rcases he with r | r
   . exact hx b n r
   . rw [n] at r; cases r
 have hm : ∀ b u, H b = some u -> ¬ Mut (some u) -> b ≠ x := fun b u q nm z => by subst z; rw [q] at mu; exact nm mu
 refine ⟨fun b u q n _ _ => k b u (hb b n) q, fun b u q n _ _ => ⟨u.slots, k b u (hb b n) q⟩, fun b u q n _ => by rw [zal (hx b n)]; exact n, fun b u q _ => ?_,
   fun b xs q => by rw [zal (hm b _ q fun z => z)]; exact q, fun b u xs q => by rw [zal (hm b _ q fun z => z)]; exact q, fun b ps q => ⟨#[], by rw [zal (hm b _ q fun z => z), q]; simp⟩⟩
 by_cases hbe : b = e
 . subst hbe; exact heo
 . exact ⟨u, k b u hbe q⟩
end
def trk (h : Heap) (H : Hp) : List Addr := (List.range h.objs.size).filter fun a => (H a).isSome
def zrM (h : Heap) (H : Hp) : Heap := PySem.W.hideAll h (trk h H)
theorem ziT (h : Heap) (H : Hp) : (zrM h H).objs.size = h.objs.size := PySem.W.hideAll_size _ _
theorem zkr {h : Heap} {H : Hp} {b : Addr} {o : Obj} (e : h.get? b = some o) (n : H b = none) : (zrM h H).get? b = some o :=
 PySem.W.hideAll_get _ e fun hm => by
   have q : (H b).isSome = true := (List.mem_filter.mp hm).2
   rw [n] at q; simp at q
theorem zmb {h : Heap} {H : Hp} {b : Addr} {o : Obj} (e : (zrM h H).get? b = some o) : h.get? b = some o /\ H b = none := by
 have e' : h.get? b = some o := PySem.W.of_hideAll (trk h H) e
 refine ⟨e', ?_⟩
 cases q : H b with
 | none => rfl
 | some x =>
   have hm : b ∈ trk h H := List.mem_filter.mpr ⟨List.mem_range.mpr (ztp e'), by simp [q]⟩
   have z : (zrM h H).get? b = none := PySem.W.hideAll_none (trk h H) hm
   rw [z] at e; cases e
structure Mod (K : PySem.W.Frag) (mg : Str -> Option Value) (base : Heap) : Prop where
 kin : K.In base
 glob : base.Ns mainGlobals mg
 blt : ∃ mb, base.Ns builtinsNs mb /\ ∀ x : Str, x ≠ "__name__" -> mb x = bootBuiltins x
 nolimit : base.NoLimit
structure Cx where
 prog : Program
 w : World
 K : PySem.W.Frag
 mg : Str -> Option Value
 base : Heap
 A : Around
 N : List Str
 s₀ : Shared
 H₀ : Hp
 env : Env
 outer : List Env
 stack : List Env
 ex : List Addr
 fn : Str -> Bool
 calm : Bool
 pn : List (Addr × Obj)
 xe : Value -> Shared -> Prop
def frs (l : List Env) : List Addr := l.filterMap (·.frame)
abbrev Cx.fs (X : Cx) : List Addr := frs X.outer
def Vis (sc : Scope) (x : Str) : Prop := sc.names.lookup x = some .local \/ sc.names.lookup x = some .cell \/ sc.names.lookup x = some .free
def Loc (sc : Scope) (x : Str) : Prop := sc.names.lookup x = some .local \/ sc.names.lookup x = some .cell
def Look (env : Env) (h : Heap) (m : Str -> Option Value) (x : Str) (u : Value) : Prop :=
 (env.kindOf x = some .local /\ m x = some u) \/ ((env.kindOf x = some .cell \/ env.kindOf x = some .free) /\ ∃ c, env.cells.lookup x = some c /\ h.IsCell c (some u))
structure Cx.Ok (X : Cx) : Prop where
 mod : Mod X.K X.mg X.base
 kind : X.env.scope.kind = .function
 glob : X.env.globals = mainGlobals
 blt : X.env.builtins = builtinsNs
 above : X.s₀.heap.objs.size <= X.env.locals
 inj : ∀ x y c, X.env.cells.lookup x = some c -> X.env.cells.lookup y = some c -> x = y
 has : ∀ x, (X.env.kindOf x = some .cell \/ X.env.kindOf x = some .free) -> ∃ c, X.env.cells.lookup x = some c
 cab : ∀ x c, X.fn x = true -> X.env.cells.lookup x = some c -> X.s₀.heap.objs.size <= c
 hd : X.calm = true -> X.A.handled = none
 frames : X.A.frames = some X.stack
 stk : X.stack = X.outer \/ (X.stack = X.env :: X.outer /\ X.env.frame = some X.env.locals)
 exf : ∀ b ∈ X.ex, b ≠ X.env.locals /\ ∀ x c, X.env.cells.lookup x = some c -> c ≠ b
 bs : ∀ b o, X.base.get? b = some o -> X.s₀.heap.get? b = some o /\ X.H₀ b = none
 bsz : X.base.objs.size <= X.s₀.heap.objs.size
 noex : ∀ b o, X.base.get? b = some o -> b ∉ X.ex
 exfs : ∀ b ∈ X.ex, b ∉ X.fs
 funs : X.s₀.heap.FunFrames X.base X.outer
 frf : ∀ b ∈ X.fs, X.H₀ b = none
structure Inv (X : Cx) (pins : List (Addr × Obj)) (σ : List (Option V)) (H : Hp) (s : Shared) : Prop where
 ok : X.Ok
 os : s.os = X.s₀.os
 bare : AllBare s.gens
 base : Un X.fs X.ex X.H₀ H X.s₀.heap s.heap
 loc : ∃ m, s.heap.Ns X.env.locals m /\ ∀ (i : Nat) (x : Str) (v : V), X.N[i]? = some x -> σ[i]? = some (some v) -> Vis X.env.scope x -> ∃ u, RelV v u /\ Look X.env s.heap m x u
 cell : ∀ x c, X.env.cells.lookup x = some c -> ∃ v, s.heap.IsCell c v
 free : H X.env.locals = none
 freeC : ∀ x c, X.env.cells.lookup x = some c -> H c = none
 pin : ∀ p ∈ X.pn ++ pins, s.heap.get? p.1 = some p.2 /\ H p.1 = none /\ p.1 ≠ X.env.locals /\ p.1 ∉ X.fs /\ ∀ v, p.2.data ≠ .cell v
 hok : HOk X.prog X.w H s.heap
 len : σ.length = X.N.length
section
variable {X : Cx} {pins : List (Addr × Obj)} {σ : List (Option V)} {H H' : Hp} {s : Shared} {h' : Heap}
theorem Cx.Ok.nofr (ok : X.Ok) {b : Addr} {o : Obj} (e : X.base.get? b = some o) : b ∉ X.fs := fun hb => by
 have := (ok.funs.mem hb).1
 rw [e] at this; cases this
theorem Inv.bs (I : Inv X pins σ H s) : ∀ b o, X.base.get? b = some o -> s.heap.get? b = some o /\ H b = none := fun b o e =>
 ⟨I.base.keep b o (I.ok.bs b o e).1 (I.ok.bs b o e).2 (I.ok.nofr e) (I.ok.noex b o e), I.base.free b o (I.ok.bs b o e).1 (I.ok.bs b o e).2 (I.ok.noex b o e)⟩
theorem Inv.bk (I : Inv X pins σ H s) : ∀ b o, X.base.get? b = some o -> s.heap.get? b = some o := fun b o e => (I.bs b o e).1
theorem Inv.mod (I : Inv X pins σ H s) : Mod X.K X.mg X.base := I.ok.mod
theorem Inv.kIn (I : Inv X pins σ H s) : X.K.In s.heap := I.ok.mod.kin.keeps I.bk
theorem Inv.lt (I : Inv X pins σ H s) : X.env.locals < s.heap.objs.size := let ⟨_, hn, _⟩ := I.loc; hn.lt
theorem Inv.sz (I : Inv X pins σ H s) : X.s₀.heap.objs.size <= s.heap.objs.size := Nat.le_trans I.ok.above (Nat.le_of_lt I.lt)
theorem Inv.nofs (I : Inv X pins σ H s) {a : Addr} (h : s.heap.objs.size <= a) : a ∉ X.fs := fun hb => by
 obtain ⟨_, o, ho, _⟩ := I.ok.funs.mem hb
 exact absurd (zs0 (ztp ho) (Nat.le_trans I.sz h)) (zte _)
theorem Inv.cne (I : Inv X pins σ H s) : ∀ x c, X.env.cells.lookup x = some c -> c ≠ X.env.locals := fun x c e z => by
 obtain ⟨v, o, ho, hd⟩ := I.cell x c e
 obtain ⟨m, ⟨o', es, ep, ho', hd', _⟩, _⟩ := I.loc
 rw [z, ho'] at ho; cases ho; rw [hd'] at hd; cases hd
theorem Inv.funs (I : Inv X pins σ H s) : s.heap.FunFrames X.base X.outer := by
 have all : ∀ (l : List Env), (∀ b ∈ frs l, b ∈ X.fs) -> X.s₀.heap.FunFrames X.base l -> s.heap.FunFrames X.base l := by
   intro l
   induction l with
   | nil => intro _ _; trivial
   | cons env r ih =>
     intro hs hl
     obtain ⟨hk, ⟨L, o, hf, hn, ho, hd⟩, hr⟩ := hl
     have hL : L ∈ X.fs := hs L (by unfold frs; rw [List.filterMap_cons, hf]; exact zsZ)
     obtain ⟨sl, e⟩ := I.base.slot L o ho (I.ok.frf L hL) hL fun z => I.ok.exfs L z hL
     exact ⟨hk, ⟨L, _, hf, hn, e, hd⟩, ih (fun b hb => hs b (by unfold frs; rw [List.filterMap_cons, hf]; exact zsY _ hb)) hr⟩
 exact all X.outer (fun _ hb => hb) I.ok.funs
theorem Inv.stack (I : Inv X pins σ H s) : s.heap.FunFrames X.base X.stack := by
 rcases I.ok.stk with e | ⟨e, hf⟩
 . rw [e]; exact I.funs
 . rw [e]
   obtain ⟨m, hn, _⟩ := I.loc
   refine .cons (by rw [I.ok.kind]; decide) hf hn ?_ I.funs
   exact Heap.get?_none_of_le (Nat.le_trans I.ok.bsz I.ok.above)
theorem Inv.stkSub (I : Inv X pins σ H s) : ∀ b ∈ frs X.stack, b ∈ X.env.locals :: X.fs := fun b hb => by
 rcases I.ok.stk with e | ⟨e, hf⟩
 . rw [e] at hb; exact zsY _ hb
 . rw [e] at hb
   unfold frs at hb
   rw [List.filterMap_cons, hf] at hb
   exact hb
theorem Inv.stkFree (I : Inv X pins σ H s) : ∀ b ∈ frs X.stack, H b = none := fun b hb => by
 rcases List.mem_cons.mp (I.stkSub b hb) with e | hb
 . rw [e]; exact I.free
 . obtain ⟨_, o, ho, _⟩ := I.ok.funs.mem hb
   exact I.base.free b o ho (I.ok.frf b hb) fun z => I.ok.exfs b z hb
theorem Inv.step {g' : Array GenState} {t' : Nat} {d' : Drawn} {ch : List Addr} (I : Inv X pins σ H s)
   (hch : ∀ b ∈ ch, (b ∈ X.ex \/ X.s₀.heap.objs.size <= b) /\ b ≠ X.env.locals /\ (∀ x c, X.env.cells.lookup x = some c -> c ≠ b) /\ ∀ p ∈ X.pn ++ pins, p.1 ≠ b)
   (keep : ∀ b o, b ≠ X.env.locals -> b ∉ X.fs -> b ∉ ch -> s.heap.get? b = some o -> H b = none -> h'.get? b = some o)
   (slot : ∀ b o, b ≠ X.env.locals -> b ∈ X.fs -> b ∉ ch -> s.heap.get? b = some o -> H b = none -> ∃ sl, h'.get? b = some { o with slots := sl }) (free : ∀ b o, b ∉ ch -> s.heap.get? b = some o -> H b = none -> H' b = none)
   (there : ∀ b o, b ∉ ch -> s.heap.get? b = some o -> ∃ o', h'.get? b = some o')
   (tups : ∀ b xs, H b = some (.tup xs) -> H' b = some (.tup xs)) (frzs : ∀ b o u, H b = some (.frz o u) -> H' b = some (.frz o u)) (tbls : ∀ b ps, H b = some (.tbl ps) -> ∃ more, H' b = some (.tbl (ps ++ more)))
   (ns : ∀ m, s.heap.Ns X.env.locals m -> h'.Ns X.env.locals m) (hok : HOk X.prog X.w H' h') (hg : AllBare g') :
   Inv X pins σ H' { s with heap := h', gens := g', drawn := d', toks := t' } := by
 have neL : ∀ b o, X.s₀.heap.get? b = some o -> b ≠ X.env.locals := fun b o e => ztA (zs0 (ztp e) I.ok.above)
 have neC : ∀ b o, X.s₀.heap.get? b = some o -> b ∉ X.ex -> b ∉ ch := fun b o e hx hb => by
   rcases (hch b hb).1 with z | z
   . exact hx z
   . exact absurd (zs0 (ztp e) z) (zte _)
 have cellK : ∀ x c, X.env.cells.lookup x = some c -> ∀ v, s.heap.IsCell c v -> h'.IsCell c v := fun x c e v ⟨o, ho, hd⟩ => by
   have nch : c ∉ ch := fun z => (hch c z).2.2.1 x c e rfl
   by_cases hc : c ∈ X.fs
   . obtain ⟨sl, q⟩ := slot c o (I.cne x c e) hc nch ho (I.freeC x c e)
     exact ⟨_, q, hd⟩
   . exact ⟨o, keep c o (I.cne x c e) hc nch ho (I.freeC x c e), hd⟩
 refine ⟨I.ok, I.os, hg, ⟨fun b o e n hb hx => ?_, fun b o e n hb hx => ?_, fun b o e n hx => ?_, fun b o e hx => ?_, fun b xs e => tups b xs (I.base.tups b xs e), fun b o xs e => frzs b o xs (I.base.frzs b o xs e), fun b ps e => ?_⟩, ?_, fun x c e => ?_, ?_, fun x c e => ?_, fun p hp => ?_, hok, I.len⟩
 . exact keep b o (neL b o e) hb (neC b o e hx) (I.base.keep b o e n hb hx) (I.base.free b o e n hx)
 . obtain ⟨sl, e1⟩ := I.base.slot b o e n hb hx
   obtain ⟨sl', e2⟩ := slot b _ (neL b o e) hb (neC b o e hx) e1 (I.base.free b o e n hx)
   exact ⟨sl', e2⟩
 . obtain ⟨o', e1⟩ := I.base.there b o e hx
   exact free b o' (neC b o e hx) e1 (I.base.free b o e n hx)
 . obtain ⟨o', e1⟩ := I.base.there b o e hx
   exact there b o' (neC b o e hx) e1
 . obtain ⟨m1, e1⟩ := I.base.tbls b ps e
   obtain ⟨m2, e2⟩ := tbls b _ e1
   exact ⟨m1 ++ m2, by rw [e2, Array.append_assoc]⟩
 . obtain ⟨m, hn, hl⟩ := I.loc
   refine ⟨m, ns m hn, fun i x v e1 e2 e3 => ?_⟩
   obtain ⟨u, r, l⟩ := hl i x v e1 e2 e3
   refine ⟨u, r, ?_⟩
   rcases l with l | ⟨k, c, e, z⟩
   . exact .inl l
   . exact .inr ⟨k, c, e, cellK x c e _ z⟩
 . obtain ⟨v, z⟩ := I.cell x c e
   exact ⟨v, cellK x c e v z⟩
 . obtain ⟨m, ⟨o, _, _, ho, _⟩, _⟩ := I.loc
   exact free _ o (fun z => (hch _ z).2.1 rfl) ho I.free
 . obtain ⟨v, o, ho, hd⟩ := I.cell x c e
   exact free c o (fun z => (hch c z).2.2.1 x c e rfl) ho (I.freeC x c e)
 . obtain ⟨e, n, ne, nf, d⟩ := I.pin p hp
   have nch : p.1 ∉ ch := fun z => (hch p.1 z).2.2.2 p hp rfl
   exact ⟨keep p.1 p.2 ne nf nch e n, free p.1 p.2 nch e n, ne, nf, d⟩
theorem Inv.un {t' : Nat} (I : Inv X pins σ H s) (u : Un X.fs [] H H' s.heap h') (hok : HOk X.prog X.w H' h') : Inv X pins σ H' { s with heap := h', toks := t' } := by
 obtain ⟨m, ⟨o, es, ep, ho, r⟩, _⟩ := id I.loc
 obtain ⟨sl, hL⟩ := u.any ho I.free (by simp)
 exact I.step (g' := s.gens) (d' := s.drawn) (ch := []) (fun _ z => nomatch z) (fun b o _ hb _ e n => u.keep b o e n hb (by simp)) (fun b o _ hb _ e n => u.slot b o e n hb (by simp)) (fun b o _ e n => u.free b o e n (by simp)) (fun b o _ e => u.there b o e (by simp)) u.tups u.frzs u.tbls (fun m' hm => by
   obtain ⟨o', es', ep', ho', r'⟩ := hm
   rw [ho] at ho'; cases ho'
   exact ⟨_, es', ep', hL, r'⟩) hok I.bare
theorem Inv.call {g' : Array GenState} {t' : Nat} {d' : Drawn} {ch : List Addr} (I : Inv X pins σ H s) (u : Un (frs X.stack) ch H H' s.heap h') (hok : HOk X.prog X.w H' h') (hg : AllBare g')
   (hch : ∀ b ∈ ch, (b ∈ X.ex \/ X.s₀.heap.objs.size <= b) /\ b ≠ X.env.locals /\ (∀ x c, X.env.cells.lookup x = some c -> c ≠ b) /\ ∀ p ∈ X.pn ++ pins, p.1 ≠ b) :
   Inv X pins σ H' { s with heap := h', gens := g', drawn := d', toks := t' } := by
 obtain ⟨m, ⟨o, es, ep, ho, r⟩, _⟩ := id I.loc
 obtain ⟨sl, hL⟩ := u.any ho I.free fun z => (hch _ z).2.1 rfl
 exact I.step (ch := ch) hch (fun b o hL hb hc e n => u.keep b o e n (fun z => (List.mem_cons.mp (I.stkSub b z)).elim hL hb) hc) (fun b o _ _ hc e n => u.any e n hc) (fun b o hc e n => u.free b o e n hc) (fun b o hc e => u.there b o e hc) u.tups u.frzs u.tbls (fun m' hm => by
   obtain ⟨o', es', ep', ho', r'⟩ := hm
   rw [ho] at ho'; cases ho'
   exact ⟨_, es', ep', hL, r'⟩) hok hg
theorem Inv.turned {t' : Nat} {it : Addr} (I : Inv X pins σ H s) (k : ∀ b o, b ≠ it -> s.heap.get? b = some o -> h'.get? b = some o) (hn : H it = none) (hL : it ≠ X.env.locals)
   (h1 : it ∈ X.ex \/ X.s₀.heap.objs.size <= it) (h2 : ∀ x c, X.env.cells.lookup x = some c -> c ≠ it) (h3 : ∀ p ∈ X.pn ++ pins, p.1 ≠ it) : Inv X pins σ H { s with heap := h', toks := t' } := by
 have nit : ∀ b u, H b = some u -> b ≠ it := fun b u e z => by rw [z, hn] at e; cases e
 refine I.step (g' := s.gens) (d' := s.drawn) (ch := [it]) (fun b hb => ?_) (fun b o _ _ hc e _ => k b o (fun z => hc (by simp [z])) e) (fun b o _ _ hc e _ => ⟨o.slots, k b o (fun z => hc (by simp [z])) e⟩) (fun _ _ _ _ n => n)
   (fun b o hc e => ⟨o, k b o (fun z => hc (by simp [z])) e⟩) (fun _ _ e => e) (fun _ _ _ e => e) (fun b ps e => ⟨#[], by rw [e]; simp⟩) (fun m hm => ?_) (fun b u e => ?_) I.bare
 . have e : b = it := by simpa using hb
   subst e
   exact ⟨h1, hL, h2, h3⟩
 . obtain ⟨o, es, ep, ho, r⟩ := hm
   exact ⟨o, es, ep, k _ o (Ne.symm hL) ho, r⟩
 . refine (I.hok b u e).stay (fun c v hc q => k c v ?_ q) (fun _ q => q) fun _ _ q => q
   rcases hc with z | z
   . rw [z]; exact nit b u e
   . exact nit c _ z
theorem Inv.tok (I : Inv X pins σ H s) (t : Nat) : Inv X pins σ H { s with toks := t } := I.un (h' := s.heap) (t' := t) Un.refl I.hok
theorem Inv.kept {t' : Nat} (I : Inv X pins σ H s) (k : ∀ b u, s.heap.get? b = some u -> h'.get? b = some u) : Inv X pins σ H { s with heap := h', toks := t' } := I.un (Un.kept k) (I.hok.kept k)
theorem Inv.laid {a : Addr} {o : HO} {t' : Nat} (I : Inv X pins σ H s) (k : ∀ b u, s.heap.get? b = some u -> h'.get? b = some u) (hp : s.heap.objs.size <= a) (new : ObjOk X.prog X.w (upd H a o) h' a o) :
   Inv X pins σ (upd H a o) { s with heap := h', toks := t' } := I.un (Un.laid k hp (I.hok.fresh hp)) (I.hok.laid k hp new)
theorem Inv.write {x e : Addr} {o : HO} {t' : Nat} (I : Inv X pins σ H s) (mu : Mut (H x)) (he : e = x \/ H e = some (.own x)) (k : ∀ b u, b ≠ e -> s.heap.get? b = some u -> h'.get? b = some u) (heo : ∃ u, h'.get? e = some u)
   (new : ObjOk X.prog X.w (upd H x o) h' x o) : Inv X pins σ (upd H x o) { s with heap := h', toks := t' } := I.un (Un.write mu he k heo) (I.hok.write mu he k heo new)
theorem Inv.pins_of {pins' : List (Addr × Obj)} (I : Inv X pins σ H s) (h : ∀ p ∈ pins', s.heap.get? p.1 = some p.2 /\ H p.1 = none /\ p.1 ≠ X.env.locals /\ p.1 ∉ X.fs /\ ∀ v, p.2.data ≠ .cell v) : Inv X pins' σ H s :=
 ⟨I.ok, I.os, I.bare, I.base, I.loc, I.cell, I.free, I.freeC, fun p hp => (ztf.mp hp).elim (fun z => I.pin p (List.mem_append_left _ z)) (h p), I.hok, I.len⟩
theorem zgR {N : List Str} (hN : N.Nodup) {i j : Nat} {x : Str} (a : N[i]? = some x) (b : N[j]? = some x) : i = j := by
 obtain ⟨h1, e1⟩ := zsX.mp a
 obtain ⟨h2, e2⟩ := zsX.mp b
 exact (List.getElem_inj hN).mp (e1.trans e2.symm)
theorem zhX {M : Model} {A : Around} {E : Value -> Shared -> Prop} {i : Nat} {x : Str} {v : V} {u : Value} {Q : Unit -> Shared -> Prop} (I : Inv X pins σ H s) (hN : X.N.Nodup) (hi : X.N[i]? = some x) (hx : Loc X.env.scope x) (r : RelV v u)
   (h : ∀ s', Inv X pins (σ.set i (some v)) H s' -> (∃ a, Heap.SameBut a s.heap s'.heap /\ (a = X.env.locals \/ X.env.cells.lookup x = some a)) -> Q () s') (hf : X.fn x = true \/ X.env.scope.names.lookup x = some .local := by first | exact .inl rfl | exact .inr rfl | assumption) : wpAny M A (storeName X.env x u) Q E s := by
 obtain ⟨m, hn, hl⟩ := id I.loc
 have hcls : (X.env.scope.kind == .class || (X.env.scope.kind == .module && X.env.locals != X.env.globals)) = false := by rw [I.ok.kind]; rfl
 have hiσ : i < σ.length := by rw [I.len]; exact (zsX.mp hi).1
 have cne := I.cne
 have tracked : ∀ {a : Addr} {h' : Heap}, (∃ o, s.heap.get? a = some o /\ H a = none) -> Heap.SameBut a s.heap h' -> HOk X.prog X.w H h' := fun {a h'} ha hs b ob e => by
   obtain ⟨_, _, hfree⟩ := ha
   refine (I.hok b ob e).stay (fun c w' hc q => (hs.2 c ?_).trans q) (fun _ q => q) fun _ _ q => q
   rintro rfl
   rcases hc with rfl | hc
   . rw [hfree] at e; cases e
   . rw [hfree] at hc; cases hc
 rcases hx with hk | hk
 . refine wpAny_storeName_local hk hn (fun h' hn' hs => ?_) hcls
   obtain ⟨oL, _, _, hoL, _⟩ := id hn
   refine h _ ⟨I.ok, I.os, I.bare, ⟨fun b o e n hb hx => ?_, fun b o e n hb hx => ?_, I.base.free, fun b o e hx => ?_, I.base.tups, I.base.frzs, I.base.tbls⟩, ⟨_, hn', fun j y v' e1 e2 e3 => ?_⟩, fun y c e => ?_, I.free, I.freeC, fun p hp => ?_, tracked ⟨oL, hoL, I.free⟩ hs, by simpa using I.len⟩ ⟨_, hs, .inl rfl⟩
   . exact (hs.2 b (ztA (zs0 (ztp e) I.ok.above))).trans (I.base.keep b o e n hb hx)
   . obtain ⟨sl, e1⟩ := I.base.slot b o e n hb hx
     exact ⟨sl, (hs.2 b (ztA (zs0 (ztp e) I.ok.above))).trans e1⟩
   . obtain ⟨o', e1⟩ := I.base.there b o e hx
     exact ⟨o', (hs.2 b (ztA (zs0 (ztp e) I.ok.above))).trans e1⟩
   . by_cases hj : j = i
     . subst hj
       rw [hi] at e1; cases e1
       rw [List.getElem?_set_self hiσ] at e2
       cases e2
       exact ⟨u, r, .inl ⟨hk, by simp⟩⟩
     . rw [List.getElem?_set_ne (Ne.symm hj)] at e2
       obtain ⟨u', r', q⟩ := hl j y v' e1 e2 e3
       refine ⟨u', r', ?_⟩
       rcases q with ⟨k, e⟩ | ⟨k, c, e, z⟩
       . refine .inl ⟨k, ?_⟩
         have : y ≠ x := fun e => hj (zgR hN e1 (e ▸ hi))
         simp [this, e]
       . exact .inr ⟨k, c, e, z.sameBut hs (cne y c e)⟩
   . obtain ⟨w', z⟩ := I.cell y c e
     exact ⟨w', z.sameBut hs (cne y c e)⟩
   . obtain ⟨e, n, ne, nf, d⟩ := I.pin p hp
     exact ⟨(hs.2 p.1 ne).trans e, n, ne, nf, d⟩
 . have hfn : X.fn x = true := by
     rcases hf with z | z
     . exact z
     . rw [z] at hk; cases hk
   obtain ⟨c, hc⟩ := I.ok.has x (.inl hk)
   obtain ⟨w', z⟩ := I.cell x c hc
   refine wpAny_storeName_cell I.ok.kind hk hc z (fun h' hc' hs => ?_)
   obtain ⟨oc, hoc, hocd⟩ := id z
   refine h { s with heap := h' } ⟨I.ok, I.os, I.bare, ⟨fun b o e n hb hx => ?_, fun b o e n hb hx => ?_, I.base.free, fun b o e hx => ?_, I.base.tups, I.base.frzs, I.base.tbls⟩, ⟨m, hn.sameBut hs (Ne.symm (cne x c hc)), fun j y v' e1 e2 e3 => ?_⟩, fun y c' e => ?_, I.free, I.freeC, fun p hp => ?_, tracked ⟨oc, hoc, I.freeC x c hc⟩ hs, by simpa using I.len⟩ ⟨c, hs, .inr hc⟩
   . exact (hs.2 b (ztA (zs0 (ztp e) (I.ok.cab x c hfn hc)))).trans (I.base.keep b o e n hb hx)
   . obtain ⟨sl, e1⟩ := I.base.slot b o e n hb hx
     exact ⟨sl, (hs.2 b (ztA (zs0 (ztp e) (I.ok.cab x c hfn hc)))).trans e1⟩
   . obtain ⟨o', e1⟩ := I.base.there b o e hx
     exact ⟨o', (hs.2 b (ztA (zs0 (ztp e) (I.ok.cab x c hfn hc)))).trans e1⟩
   . by_cases hj : j = i
     . subst hj
       rw [hi] at e1; cases e1
       rw [List.getElem?_set_self hiσ] at e2
       cases e2
       exact ⟨u, r, .inr ⟨.inl hk, c, hc, hc'⟩⟩
     . rw [List.getElem?_set_ne (Ne.symm hj)] at e2
       obtain ⟨u', r', q⟩ := hl j y v' e1 e2 e3
       refine ⟨u', r', ?_⟩
       rcases q with q | ⟨k, c', e, z'⟩
       . exact .inl q
       . refine .inr ⟨k, c', e, z'.sameBut hs ?_⟩
         rintro rfl
         exact hj (zgR hN e1 (I.ok.inj _ _ _ e hc ▸ hi))
   . by_cases hcc : c' = c
     . subst hcc; exact ⟨_, hc'⟩
     . obtain ⟨w2, z2⟩ := I.cell y c' e
       exact ⟨w2, z2.sameBut hs hcc⟩
   . obtain ⟨e, n, ne, nf, d⟩ := I.pin p hp
     refine ⟨(hs.2 p.1 ?_).trans e, n, ne, nf, d⟩
     intro q
     rw [q, hoc] at e
     have q' : oc = p.2 := Option.some.inj e
     exact d w' (by rw [<- q']; exact hocd)
theorem zej {M : Model} {A : Around} {E : Value -> Shared -> Prop} {i : Nat} {x : Str} {v : V} {u : Value} {Q : Unit -> Shared -> Prop} (I : Inv X pins σ H s) (hN : X.N.Nodup) (hi : X.N[i]? = some x) (hx : Loc X.env.scope x) (r : RelV v u)
   (h : ∀ s', Inv X pins (σ.set i (some v)) H s' -> Q () s') (hf : X.fn x = true \/ X.env.scope.names.lookup x = some .local := by first | exact .inl rfl | exact .inr rfl | assumption) : wpAny M A (storeName X.env x u) Q E s :=
 zhX I hN hi hx r (fun s' I' _ => h s' I') hf
theorem Inv.call' {s' : Shared} {ch : List Addr} (I : Inv X pins σ H s) (ho : s'.os = s.os) (u : Un (frs X.stack) ch H H' s.heap s'.heap) (hok : HOk X.prog X.w H' s'.heap) (hg : AllBare s'.gens)
   (hch : ∀ b ∈ ch, (b ∈ X.ex \/ X.s₀.heap.objs.size <= b) /\ b ≠ X.env.locals /\ (∀ x c, X.env.cells.lookup x = some c -> c ≠ b) /\ ∀ p ∈ X.pn ++ pins, p.1 ≠ b) : Inv X pins σ H' s' := by
 obtain ⟨h', g', d', t', o'⟩ := s'
 have e : o' = s.os := ho
 subst e
 exact I.call (g' := g') (t' := t') (d' := d') u hok hg hch
end
abbrev XK := Value -> Option Addr -> Hp -> Prop
abbrev St := List (Option V)
abbrev VK := V -> Hp -> Prop
abbrev TE := St -> Hp -> VK -> Prop
abbrev TT := St -> Hp -> (Bool -> Hp -> Prop) -> Prop
abbrev TA := St -> Hp -> (List V -> Hp -> Prop) -> Prop
structure zse where
 nx : St -> Hp -> Prop
 rt : VK
 bk : St -> Hp -> Prop := fun _ _ => False
 ct : St -> Hp -> Prop := fun _ _ => False
abbrev TS := zse -> St -> Hp -> Prop
def EP (X : Cx) (pins : List (Addr × Obj)) (σ : St) (Q : VK) (u : Value) (s' : Shared) : Prop := ∃ v H', Inv X pins σ H' s' /\ RelV v u /\ Q v H'
def TP (X : Cx) (pins : List (Addr × Obj)) (σ : St) (Q : Bool -> Hp -> Prop) (b : Bool) (s' : Shared) : Prop := ∃ H', Inv X pins σ H' s' /\ Q b H'
def AP (X : Cx) (pins : List (Addr × Obj)) (σ : St) (Q : List V -> Hp -> Prop) (us : List Value) (s' : Shared) : Prop := ∃ vs H', Inv X pins σ H' s' /\ Vals vs us /\ Q vs H'
def SP (X : Cx) (pins : List (Addr × Obj)) (D : zse) (f : Flow) (s' : Shared) : Prop :=
 match f with
 | .next => ∃ σ' H', Inv X pins σ' H' s' /\ D.nx σ' H'
 | .brk => ∃ σ' H', Inv X pins σ' H' s' /\ D.bk σ' H'
 | .cont => ∃ σ' H', Inv X pins σ' H' s' /\ D.ct σ' H'
 | .ret u => ∃ v σ' H', Inv X pins σ' H' s' /\ RelV v u /\ D.rt v H'
def PE (X : Cx) (e : Expr) (t : TE) : Prop :=
 ∀ (pins : List (Addr × Obj)) (s : Shared) (σ : St) (H : Hp) (Q : VK), Inv X pins σ H s -> t σ H Q -> wpAny (model X.prog X.w) X.A (eval e X.env) (EP X pins σ Q) X.xe s
def PT (X : Cx) (e : Expr) (t : TT) : Prop :=
 ∀ (pins : List (Addr × Obj)) (s : Shared) (σ : St) (H : Hp) (Q : Bool -> Hp -> Prop), Inv X pins σ H s -> t σ H Q -> wpAny (model X.prog X.w) X.A (isTrue e X.env (eval e X.env)) (TP X pins σ Q) X.xe s
def PW (X : Cx) (e : Expr) (t : TT) : Prop :=
 ∀ (whole : Sem Value) (pins : List (Addr × Obj)) (s : Shared) (σ : St) (H : Hp) (Q : Bool -> Hp -> Prop), Inv X pins σ H s -> t σ H Q -> wpAny (model X.prog X.w) X.A (isTrue e X.env whole) (TP X pins σ Q) X.xe s
theorem PW.pt {X : Cx} {e : Expr} {t : TT} (h : PW X e t) : PT X e t := h _
def PA (X : Cx) (es : List Expr) (t : TA) : Prop :=
 ∀ (pos : Pos) (pins : List (Addr × Obj)) (s : Shared) (σ : St) (H : Hp) (Q : List V -> Hp -> Prop), Inv X pins σ H s -> t σ H Q -> wpAny (model X.prog X.w) X.A (spliced (backTo pos (starEach es X.env))) (AP X pins σ Q) X.xe s
def PS (X : Cx) (st : Stmt) (t : TS) : Prop :=
 ∀ (pins : List (Addr × Obj)) (s : Shared) (σ : St) (H : Hp) (D : zse), Inv X pins σ H s -> t D σ H -> wpAny (model X.prog X.w) X.A (exec st X.env) (SP X pins D) X.xe s
def PSs (X : Cx) (st : List Stmt) (t : TS) : Prop :=
 ∀ (pins : List (Addr × Obj)) (s : Shared) (σ : St) (H : Hp) (D : zse), Inv X pins σ H s -> t D σ H -> wpAny (model X.prog X.w) X.A (execs st X.env) (SP X pins D) X.xe s
theorem thn {α : Type} {t : Sem α} {Q Q' : α -> Shared -> Prop} {M : Model} {A : Around} {E : Value -> Shared -> Prop} {s : Shared} (h : wpAny M A t Q E s) (hQ : ∀ a s, Q a s -> Q' a s) : wpAny M A t Q' E s := zto h hQ fun _ _ x => x
section
variable {X : Cx}
def tVar (i : Nat) : TE := fun σ H Q => ∃ v, σ[i]? = some (some v) /\ Q v H
def tC (v : V) : TE := fun _ H Q => Q v H
theorem ze6 {i : Nat} {x : Str} {pos : Pos} (hN : X.N[i]? = some x) (hv : Vis X.env.scope x) (hd : (x == ("__debug__" : Str)) = false := by decide) (hcd : (x == ("__classdict__" : Str)) = false := by decide) : PE X (.Name x pos) (tVar i) := by
 intro pins s σ H Q I h
 obtain ⟨v, e, h⟩ := h
 obtain ⟨m, hn, hl⟩ := I.loc
 obtain ⟨u, r, l⟩ := hl i x v hN e hv
 have fin : EP X pins σ Q u s := ⟨v, H, I, r, h⟩
 rcases l with ⟨hk, hm⟩ | ⟨hk, c, hc, hcell⟩
 . exact wpAny_Name (wpAny_loadName_local I.ok.kind hk hn hm fin) hd
 . rcases hk with hk | hk
   . exact wpAny_Name (wpAny_loadName_cell I.ok.kind hk hc hcell fin) hd
   . exact wpAny_Name (wpAny_loadName_free I.ok.kind hk hc hcell fin hcd) hd
theorem zkU {i j pos} : PE X (.Constant (.int i) j pos) (tC (.int i)) := fun _ _ _ H _ I h => wpAny_Constant_int ⟨.int i, H, I.tok _, ⟨_, rfl⟩, h⟩
theorem zlR {b j pos} : PE X (.Constant (.bool b) j pos) (tC (.bl b)) := fun _ _ _ H _ I h => Constant_bool ⟨.bl b, H, I, rfl, h⟩
theorem znO {j pos} : PE X (.Constant .none j pos) (tC .non) := fun _ _ _ H _ I h => Constant_none ⟨.non, H, I, rfl, h⟩
theorem zeK {x j pos} : PE X (.Constant (.str x) j pos) (tC (.str x)) := fun _ _ _ H _ I h => Calls.Constant_str ⟨.str x, H, I.tok _, ⟨_, rfl⟩, h⟩
def Gl (X : Cx) (x : Str) : Prop := X.env.kindOf x = some .globalImplicit
theorem zdX {E : Value -> Shared -> Prop} {pins : List (Addr × Obj)} {s : Shared} {σ : St} {H : Hp} {x : Str} {u : Value} {pos : Pos} {Q : Value -> Shared -> Prop} (I : Inv X pins σ H s) (hg : Gl X x) (hm : X.mg x = some u) (h : Q u s)
   (hd : (x == ("__debug__" : Str)) = false := by decide) : wpAny (model X.prog X.w) X.A (eval (.Name x pos) X.env) Q E s :=
 Calls.Name_function_global I.ok.kind hg (Calls.loadGlobal_global (by rw [I.ok.glob]; exact I.mod.glob.keeps I.bk) hm h) hd
theorem zgV {E : Value -> Shared -> Prop} {pins : List (Addr × Obj)} {s : Shared} {σ : St} {H : Hp} {x : Str} {u : Value} {pos : Pos} {Q : Value -> Shared -> Prop} (I : Inv X pins σ H s) (hg : Gl X x) (hm : X.mg x = none) (hv : bootBuiltins x = some u) (h : Q u s)
   (hn : x ≠ "__name__" := by decide) (hd : (x == ("__debug__" : Str)) = false := by decide) : wpAny (model X.prog X.w) X.A (eval (.Name x pos) X.env) Q E s := by
 obtain ⟨mb, h1, h2⟩ := I.mod.blt
 exact Calls.Name_function_global I.ok.kind hg (Calls.loadGlobal_builtin (by rw [I.ok.glob]; exact I.mod.glob.keeps I.bk) hm (by rw [I.ok.blt]; exact h1.keeps I.bk) ((h2 x hn).trans hv) h) hd
theorem zij {x : Str} {v : V} {u : Value} {pos : Pos} (hg : Gl X x) (hm : X.mg x = some u) (r : RelV v u) (hd : (x == ("__debug__" : Str)) = false := by decide) : PE X (.Name x pos) (tC v) :=
 fun _ _ _ H _ I h => zdX I hg hm ⟨v, H, I, r, h⟩ hd
theorem zim {x : Str} {v : V} {u : Value} {pos : Pos} (hg : Gl X x) (hm : X.mg x = none) (hv : bootBuiltins x = some u) (r : RelV v u) (hn : x ≠ "__name__" := by decide) (hd : (x == ("__debug__" : Str)) = false := by decide) : PE X (.Name x pos) (tC v) :=
 fun _ _ _ H _ I h => zgV I hg hm hv ⟨v, H, I, r, h⟩ hn hd
variable {a b : Expr} {ta tb : TE} {pos : Pos}
def tB (t : TE) : TT := fun σ H Q => t σ H fun x H1 => ∃ c, x = .bl c /\ Q c H1
theorem zkQ {e : Expr} {t : TE} (h : PE X e t) (he : ∀ whole, isTrue e X.env whole = (do let v <- whole; standAt e.pos; holding [v] (truthy v)) := by intro _; rfl) : PT X e (tB t) := by
 intro pins s σ H Q I hw
 refine isTrue_plain (thn (h pins s σ H _ I hw) fun v s1 ⟨x, H1, I1, r1, q1⟩ => ?_) (he _)
 obtain ⟨d, rfl, q⟩ := q1
 cases r1
 exact wpAny_truthy_bool ⟨H1, I1, q⟩
variable {tA tB' : TT} {rest : List Expr}
def tAnd (t u : TT) : TT := fun σ H Q => t σ H fun c H1 => if c = true then u σ H1 Q else Q false H1
def tOr (t u : TT) : TT := fun σ H Q => t σ H fun c H1 => if c = true then Q true H1 else u σ H1 Q
def tNot (t : TT) : TT := fun σ H Q => t σ H fun c H1 => Q (!c) H1
theorem zlD (ha : PT X a tA) : PW X (.BoolOp .And [a] pos) tA := by
 intro wh pins s σ H Q I h
 refine isTrue_and (thn (ha pins s σ H Q I h) fun c s1 e => ?_)
 cases c with
 | true => exact isTrue_and_nil e
 | false => exact e
theorem zkP (ha : PT X a tA) : PW X (.BoolOp .Or [a] pos) tA := by
 intro wh pins s σ H Q I h
 refine isTrue_or (thn (ha pins s σ H Q I h) fun c s1 e => ?_)
 cases c with
 | false => exact isTrue_or_nil e
 | true => exact e
theorem znF (ha : PT X a tA) (hb : PW X (.BoolOp .And (b :: rest) pos) tB') : PW X (.BoolOp .And (a :: b :: rest) pos) (tAnd tA tB') := by
 intro wh pins s σ H Q I h
 refine isTrue_and (thn (ha pins s σ H _ I h) fun c s1 ⟨H1, I1, q1⟩ => ?_)
 cases c with
 | true => exact hb wh pins s1 σ H1 Q I1 q1
 | false => exact ⟨H1, I1, q1⟩
theorem zlC (ha : PT X a tA) (hb : PW X (.BoolOp .Or (b :: rest) pos) tB') : PW X (.BoolOp .Or (a :: b :: rest) pos) (tOr tA tB') := by
 intro wh pins s σ H Q I h
 refine isTrue_or (thn (ha pins s σ H _ I h) fun c s1 ⟨H1, I1, q1⟩ => ?_)
 cases c with
 | true => exact ⟨H1, I1, q1⟩
 | false => exact hb wh pins s1 σ H1 Q I1 q1
theorem zh9 (ha : PT X a tA) : PT X (.UnaryOp .Not a pos) (tNot tA) := by
 intro pins s σ H Q I h
 exact isTrue_not (ha pins s σ H (fun c H1 => Q (!c) H1) I h)
def tAndV (ta tb : TE) : TE := fun σ H Q => ta σ H fun x H1 => ∃ c, x = .bl c /\ if c = true then tb σ H1 Q else Q (.bl false) H1
def tOrV (ta tb : TE) : TE := fun σ H Q => ta σ H fun x H1 => ∃ c, x = .bl c /\ if c = true then Q (.bl true) H1 else tb σ H1 Q
def tNotV (ta : TE) : TE := fun σ H Q => ta σ H fun x H1 => ∃ c, x = .bl c /\ Q (.bl (!c)) H1
theorem znM {op} {t : TE} (h : PE X a t) : PE X (.BoolOp op [a] pos) t := fun pins s σ H Q I hw => BoolOp_one (h pins s σ H Q I hw)
theorem znR (ha : PE X a ta) (hb : PE X (.BoolOp .And (b :: rest) pos) tb) : PE X (.BoolOp .And (a :: b :: rest) pos) (tAndV ta tb) := by
 intro pins s σ H Q I h
 refine BoolOp_and (thn (ha pins s σ H _ I h) fun v s1 ⟨x, H1, I1, r1, q1⟩ => ?_)
 obtain ⟨c, rfl, q1⟩ := q1
 cases r1
 refine wpAny_truthy_bool ?_
 cases c with
 | true => exact hb pins s1 σ H1 Q I1 q1
 | false => exact ⟨.bl false, H1, I1, rfl, q1⟩
theorem zpa (ha : PE X a ta) (hb : PE X (.BoolOp .Or (b :: rest) pos) tb) : PE X (.BoolOp .Or (a :: b :: rest) pos) (tOrV ta tb) := by
 intro pins s σ H Q I h
 refine BoolOp_or (thn (ha pins s σ H _ I h) fun v s1 ⟨x, H1, I1, r1, q1⟩ => ?_)
 obtain ⟨c, rfl, q1⟩ := q1
 cases r1
 refine wpAny_truthy_bool ?_
 cases c with
 | false => exact hb pins s1 σ H1 Q I1 q1
 | true => exact ⟨.bl true, H1, I1, rfl, q1⟩
theorem znN (ha : PE X a ta) : PE X (.UnaryOp .Not a pos) (tNotV ta) := by
 intro pins s σ H Q I h
 refine UnaryOp_ (thn (ha pins s σ H _ I h) fun v s1 ⟨x, H1, I1, r1, q1⟩ => ?_)
 obtain ⟨c, rfl, q1⟩ := q1
 cases r1
 exact not_of (wpAny_truthy_bool ⟨.bl (!c), H1, I1, rfl, q1⟩)
def tIf (t : TT) (ta tb : TE) : TE := fun σ H Q => t σ H fun c H1 => if c = true then ta σ H1 Q else tb σ H1 Q
theorem zka {c : Expr} (hc : PT X c tA) (ha : PE X a ta) (hb : PE X b tb) : PE X (.IfExp c a b pos) (tIf tA ta tb) := by
 intro pins s σ H Q I h
 refine wpAny_IfExp (thn (hc pins s σ H _ I h) fun d s1 ⟨H1, I1, q1⟩ => ?_)
 cases d with
 | true => exact ha pins s1 σ H1 Q I1 q1
 | false => exact hb pins s1 σ H1 Q I1 q1
end
def SqL (K : PySem.W.Frag) (H : Hp) (a : Addr) (xs : List V) : Prop :=
 Rd H a (.lst xs) \/
   ∃ (o : Obj) (its : Array Value) (n : Nat), K.lookup a = some o /\ o.cls = .type "list" /\ o.dict = none /\ o.data = .seq its n /\ its.size <= sizeLine /\ Vals xs its.toList
def SqT (K : PySem.W.Frag) (H : Hp) (a : Addr) (xs : List V) : Prop :=
 Rd H a (.tup xs) \/
   ∃ (o : Obj) (its : Array Value) (n : Nat), K.lookup a = some o /\ o.cls = .type "tuple" /\ o.data = .seq its n /\ its.size <= sizeLine /\ Vals xs its.toList
def absV : Value -> Option V
 | .none => some .non
 | .bool b => some (.bl b)
 | .int i _ => some (.int i)
 | .str x _ => some (.str x)
 | .bytes b _ => some (.byt b)
 | .float b _ => some (.flt b)
 | .ref a => some (.ref a)
 | .type n => some (.ty n)
 | _ => none
theorem RelV.abs {x : V} {u : Value} (r : RelV x u) : absV u = some x := by
 cases x with
 | non => cases r; rfl
 | bl _ => cases r; rfl
 | int _ => obtain ⟨t, rfl⟩ := r; rfl
 | str _ => obtain ⟨t, rfl⟩ := r; rfl
 | byt _ => obtain ⟨t, rfl⟩ := r; rfl
 | flt _ => obtain ⟨t, rfl⟩ := r; rfl
 | ref _ => cases r; rfl
 | ty _ => cases r; rfl
theorem RelV.inj {x y : V} {u : Value} (r : RelV x u) (q : RelV y u) : x = y := Option.some.inj (r.abs.symm.trans q.abs)
theorem Vals.inj : ∀ {xs ys : List V} {us : List Value}, Vals xs us -> Vals ys us -> xs = ys
 | _, _, _, .nil, .nil => rfl
 | _, _, _, .cons r t, .cons r' t' => by rw [r.inj r', Vals.inj t t']
section
variable {X : Cx} {pins : List (Addr × Obj)} {σ : St} {H : Hp} {s : Shared} {a : Addr} {xs ys : List V}
theorem SqL.of {K : PySem.W.Frag} (h : H a = some (.lst xs)) : SqL K H a xs := .inl (.inl h)
theorem SqT.of {K : PySem.W.Frag} (h : H a = some (.tup xs)) : SqT K H a xs := .inl (.inl h)
theorem Inv.list (I : Inv X pins σ H s) (h : SqL X.K H a xs) : ∃ its : List Value, Vals xs its /\ PlainL s.heap a its.toArray /\ xs.length <= sizeLine := by
 rcases h with h | ⟨o, its, n, hk, hc, hd, hs, hz, r⟩
 . obtain ⟨z, its, n, r, e⟩ := h.ok I.hok
   exact ⟨its, r, ⟨_, n, e, rfl, rfl, rfl⟩, z⟩
 . refine ⟨its.toList, r, ⟨o, n, I.kIn a o hk, hc, hd, by simpa using hs⟩, ?_⟩
   have e := r.length
   simp only [Array.length_toList] at e
   omega
theorem Inv.tuple (I : Inv X pins σ H s) (h : SqT X.K H a xs) : ∃ its : List Value, Vals xs its /\ IsTup s.heap a its.toArray /\ xs.length <= sizeLine := by
 rcases h with h | ⟨o, its, n, hk, hc, hs, hz, r⟩
 . obtain ⟨z, its, r, p⟩ := h.ok I.hok
   exact ⟨its, r, p, z⟩
 . refine ⟨its.toList, r, ⟨o, I.kIn a o hk, hc, n, by simpa using hs⟩, ?_⟩
   have e := r.length
   simp only [Array.length_toList] at e
   omega
theorem Inv.list_inj (I : Inv X pins σ H s) (h : SqL X.K H a xs) (h' : SqL X.K H a ys) : xs = ys := by
 obtain ⟨its, r, ⟨o, n, e, _, _, d⟩, _⟩ := I.list h
 obtain ⟨its', r', ⟨o', n', e', _, _, d'⟩, _⟩ := I.list h'
 rw [e] at e'; cases e'
 rw [d] at d'
 injection d' with d1 _
 have : its = its' := by simpa using congrArg Array.toList d1
 subst this
 exact r.inj r'
theorem Inv.tuple_inj (I : Inv X pins σ H s) (h : SqT X.K H a xs) (h' : SqT X.K H a ys) : xs = ys := by
 obtain ⟨its, r, ⟨o, e, _, n, d⟩, _⟩ := I.tuple h
 obtain ⟨its', r', ⟨o', e', _, n', d'⟩, _⟩ := I.tuple h'
 rw [e] at e'; cases e'
 rw [d] at d'
 injection d' with d1 _
 have : its = its' := by simpa using congrArg Array.toList d1
 subst this
 exact r.inj r'
end
abbrev Cx.wish (X : Cx) (E : Value -> Shared -> Prop) : Cx := { X with xe := E }
abbrev Cx.nox (X : Cx) : Cx := X.wish fun _ _ => False
theorem Cx.Ok.wish {X : Cx} (ok : X.Ok) (E : Value -> Shared -> Prop) : (X.wish E).Ok :=
 ⟨ok.mod, ok.kind, ok.glob, ok.blt, ok.above, ok.inj, ok.has, ok.cab, ok.hd, ok.frames, ok.stk, ok.exf, ok.bs, ok.bsz, ok.noex, ok.exfs, ok.funs, ok.frf⟩
theorem Cx.Ok.unwish {X : Cx} {E : Value -> Shared -> Prop} (ok : (X.wish E).Ok) : X.Ok :=
 ⟨ok.mod, ok.kind, ok.glob, ok.blt, ok.above, ok.inj, ok.has, ok.cab, ok.hd, ok.frames, ok.stk, ok.exf, ok.bs, ok.bsz, ok.noex, ok.exfs, ok.funs, ok.frf⟩
section
variable {X : Cx} {pins : List (Addr × Obj)} {σ : St} {H : Hp} {s : Shared} {E : Value -> Shared -> Prop}
theorem Inv.wish (I : Inv X pins σ H s) (E : Value -> Shared -> Prop) : Inv (X.wish E) pins σ H s := ⟨I.ok.wish E, I.os, I.bare, I.base, I.loc, I.cell, I.free, I.freeC, I.pin, I.hok, I.len⟩
theorem Inv.unwish (I : Inv (X.wish E) pins σ H s) : Inv X pins σ H s := ⟨I.ok.unwish, I.os, I.bare, I.base, I.loc, I.cell, I.free, I.freeC, I.pin, I.hok, I.len⟩
theorem SP.unwish {D : zse} {f : Flow} {s' : Shared} (h : SP (X.wish E) pins D f s') : SP X pins D f s' := by
 cases f with
 | next => obtain ⟨σ', H', I, q⟩ := h; exact ⟨σ', H', I.unwish, q⟩
 | brk => obtain ⟨σ', H', I, q⟩ := h; exact ⟨σ', H', I.unwish, q⟩
 | cont => obtain ⟨σ', H', I, q⟩ := h; exact ⟨σ', H', I.unwish, q⟩
 | ret u => obtain ⟨v, σ', H', I, r, q⟩ := h; exact ⟨v, σ', H', I.unwish, r, q⟩
theorem PE.nox {e : Expr} {t : TE} (h : PE X.nox e t) : PE X e t := fun pins s σ H Q I hw =>
 zto (h pins s σ H Q (I.wish _) hw) (fun _ _ ⟨v, H', I', r, q⟩ => ⟨v, H', I'.unwish, r, q⟩) fun _ _ z => False.elim z
theorem PSs.nox {st : List Stmt} {t : TS} (h : PSs X.nox st t) : PSs X st t := fun pins s σ H D I hw =>
 zto (h pins s σ H D (I.wish _) hw) (fun _ _ q => q.unwish) fun _ _ z => False.elim z
end
section
variable {X : Cx} {st : Stmt} {rest : List Stmt} {t u : TS} {e : Expr} {te : TE} {pos : Pos}
def zrp : TS := fun D σ H => D.nx σ H
def tSeq (t u : TS) : TS := fun D σ H => t { D with nx := u D } σ H
theorem zfm : PSs X [] zrp := fun _ _ σ H _ I h => wpAny_execs_nil ⟨σ, H, I, h⟩
theorem zbY (h1 : PS X st t) (h2 : PSs X rest u) : PSs X (st :: rest) (tSeq t u) := by
 intro pins s σ H D I h
 refine wpAny_execs_cons (thn (h1 pins s σ H { D with nx := u D } I h) fun f s1 q => ?_)
 cases f with
 | next =>
   obtain ⟨σ', H', I', q⟩ := q
   exact h2 pins s1 σ' H' D I' q
 | ret v => exact q
 | brk => exact q
 | cont => exact q
theorem zib (h1 : PS X st t) : PSs X [st] t := by
 intro pins s σ H D I h
 refine wpAny_execs_cons (thn (h1 pins s σ H D I h) fun f s1 q => ?_)
 cases f with
 | next => exact wpAny_execs_nil q
 | ret v => exact q
 | brk => exact q
 | cont => exact q
def tBreak : TS := fun D σ H => D.bk σ H
def tCont : TS := fun D σ H => D.ct σ H
theorem zlI : PS X (.Pass pos) zrp := fun _ _ σ H _ I h => wpAny_Pass ⟨σ, H, I, h⟩
theorem zj6 : PS X (.Break pos) tBreak := fun _ _ σ H _ I h => wpAny_Break ⟨σ, H, I, h⟩
theorem zgg : PS X (.Continue pos) tCont := fun _ _ σ H _ I h => wpAny_Continue ⟨σ, H, I, h⟩
theorem Inv.quiet {pins : List (Addr × Obj)} {σ : St} {H : Hp} {s : Shared} (I : Inv X pins σ H s) : interactive X.env = false := by simp [interactive, I.ok.kind]
theorem znH {x j pos pos'} : PS X (.Expr (.Constant (.str x) j pos) pos') zrp := fun _ s σ H _ I h => wpAny_Expr (Calls.Constant_str (show SP X _ _ .next { s with toks := s.toks + 1 } from ⟨σ, H, I.tok _, h⟩)) I.quiet
def tDrop (te : TE) : TS := fun D σ H => te σ H fun _ H1 => D.nx σ H1
theorem zic (he : PE X e te) (hs : swapsWith e none pos.line X.env = pure false := by rfl) : PS X (.Expr e pos) (tDrop te) := by
 intro pins s σ H D I h
 exact wpAny_Expr_any (thn (he pins s σ H _ I h) fun v s1 ⟨x, H1, I1, r1, q1⟩ => ⟨σ, H1, I1, q1⟩) I.quiet hs
def tRet (te : TE) : TS := fun D σ H => te σ H D.rt
theorem zfC (he : PE X e te) : PS X (.Return (some e) pos) (tRet te) := by
 intro pins s σ H D I h
 exact wpAny_Return_some (thn (he pins s σ H _ I h) fun v s1 ⟨x, H1, I1, r1, q1⟩ => ⟨x, σ, H1, I1, r1, q1⟩)
def tRetN : TS := fun D _ H => D.rt .non H
theorem zlH : PS X (.Return none pos) tRetN := fun _ _ σ H _ I h => wpAny_Return_none ⟨.non, σ, H, I, rfl, h⟩
def tIfS (c : TT) (t u : TS) : TS := fun D σ H => c σ H fun b H1 => if b = true then t D σ H1 else u D σ H1
theorem zlJ {c : Expr} {a b : List Stmt} {tc : TT} (hc : PT X c tc) (ha : PSs X a t) (hb : PSs X b u) : PS X (.If c a b pos) (tIfS tc t u) := by
 intro pins s σ H D I h
 refine wpAny_If (thn (hc pins s σ H _ I h) fun d s1 ⟨H1, I1, q1⟩ => ?_)
 cases d with
 | true => exact ha pins s1 σ H1 D I1 q1
 | false => exact hb pins s1 σ H1 D I1 q1
end
abbrev TG := V -> St -> Hp -> (St -> Hp -> Prop) -> Prop
abbrev TGs := List V -> St -> Hp -> (St -> Hp -> Prop) -> Prop
def PG (X : Cx) (target : Expr) (t : TG) : Prop :=
 ∀ (pins : List (Addr × Obj)) (s : Shared) (σ : St) (H : Hp) (v : V) (u : Value) (Q : St -> Hp -> Prop), Inv X pins σ H s -> RelV v u -> t v σ H Q ->
   wpAny (model X.prog X.w) X.A (assign target X.env u) (fun _ s' => ∃ σ' H', Inv X pins σ' H' s' /\ Q σ' H') X.xe s
def PGs (X : Cx) (ts : List Expr) (t : TGs) : Prop :=
 ∀ (pins : List (Addr × Obj)) (s : Shared) (σ : St) (H : Hp) (vs : List V) (us : List Value) (Q : St -> Hp -> Prop), Inv X pins σ H s -> Vals vs us -> t vs σ H Q ->
   wpAny (model X.prog X.w) X.A (assignInOrder ((assignEach ts X.env).map (·.2)) us) (fun _ s' => ∃ σ' H', Inv X pins σ' H' s' /\ Q σ' H') X.xe s
abbrev TSet := V -> V -> V -> Hp -> (Hp -> Prop) -> Prop
def PSet (X : Cx) (t : TSet) : Prop :=
 ∀ (pins : List (Addr × Obj)) (s : Shared) (σ : St) (H : Hp) (o i v : V) (ov iv u : Value) (Q : Hp -> Prop), Inv X pins σ H s -> RelV o ov -> RelV i iv -> RelV v u -> t o i v H Q ->
   wpAny (model X.prog X.w) X.A (setItem ov iv u) (fun _ s' => ∃ H', Inv X pins σ H' s' /\ Q H') X.xe s
section
variable {X : Cx} {pos : Pos}
def zsJ (i : Nat) : TG := fun v σ H Q => Q (σ.set i (some v)) H
theorem zlN {i : Nat} {x : Str} (hN : X.N.Nodup) (hi : X.N[i]? = some x) (hx : Loc X.env.scope x) (hf : X.fn x = true \/ X.env.scope.names.lookup x = some .local := by first | exact .inl rfl | exact .inr rfl | assumption) : PG X (.Name x pos) (zsJ i) := by
 intro pins s σ H v u Q I r h
 exact wpAny_assign_Name (zej I hN hi hx r (fun s' I' => ⟨_, H, I', h⟩) hf)
def gNil : TGs := fun vs σ H Q => vs = [] /\ Q σ H
def gCons (t : TG) (u : TGs) : TGs := fun vs σ H Q => ∃ v r, vs = v :: r /\ t v σ H fun σ' H' => u r σ' H' Q
theorem zlL : PGs X [] gNil := by
 intro pins s σ H vs us Q I r h
 obtain ⟨e, h⟩ := h
 subst e
 cases r
 exact assignInOrder_nil ⟨σ, H, I, h⟩
theorem zj9 {e : Expr} {es : List Expr} {t : TG} {u : TGs} (h1 : PG X e t) (h2 : PGs X es u)
   (hs : (assignEach (e :: es) X.env).map (·.2) = assign e X.env :: (assignEach es X.env).map (·.2) := by rfl) : PGs X (e :: es) (gCons t u) := by
 intro pins s σ H vs us Q I r h
 obtain ⟨v, vr, e1, h⟩ := h
 subst e1
 cases r with
 | cons r rr =>
   rw [hs]
   refine assignInOrder_cons (thn (h1 pins s σ H _ _ _ I r h) fun _ s1 ⟨σ1, H1, I1, q1⟩ => ?_)
   exact h2 pins s1 σ1 H1 _ _ Q I1 rr q1
def zpO (K : PySem.W.Frag) (n : Nat) (t : TGs) : TG := fun v σ H Q => ∃ a xs, v = .ref a /\ SqT K H a xs /\ xs.length = n /\ t xs σ H Q
theorem znK {es : List Expr} {k : Nat} {t : TGs} {n : Nat} (hc : X.calm = true) (h : PGs X es t)
   (hn : (assignEach es X.env).length = n := by rfl) (hst : (assignEach es X.env).findIdx? (·.1) = none := by rfl) : PG X (.Tuple es k pos) (zpO X.K n t) := by
 intro pins s σ H v u Q I r hw
 obtain ⟨a, xs, e1, hq, hl, hw⟩ := hw
 subst e1
 cases r
 obtain ⟨its, rv, ht, hz⟩ := I.tuple hq
 refine assign_Tuple_tuple (I.ok.hd hc) ht (by simp [hn, <- hl, rv.length]) hst fun h' hx => ?_
 have I1 : Inv X pins σ H { s with heap := h' } := I.kept (t' := s.toks) fun b o e => hx b o (ztA (ztp e)) e
 exact h pins _ σ H xs _ Q I1 (by simpa using rv) hw
def gSub (to ti : TE) (t : TSet) : TG := fun v σ H Q => to σ H fun o H1 => ti σ H1 fun i H2 => t o i v H2 fun H3 => Q σ H3
theorem znL {o i : Expr} {to ti : TE} {t : TSet} (ho : PE X o to) (hi : PE X i ti) (hs : PSet X t)
   (ha : ∀ v, assign (.Subscript o i pos) X.env v = (do
     let ov <- holding [v] (eval o X.env)
     let iv <- holding [v, ov] (eval i X.env)
     standAt pos
     holding [v, ov, iv] (setItem ov iv v)
     release [v, ov, iv] []) := by intro _; rfl) : PG X (.Subscript o i pos) (gSub to ti t) := by
 intro pins s σ H v u Q I r h
 rw [ha]
 refine ztm (wpAny_holding (thn (ho pins s σ H _ I h) fun ov s1 ⟨x, H1, I1, r1, q1⟩ => ?_))
 refine ztm (wpAny_holding (thn (hi pins s1 σ H1 _ I1 q1) fun iv s2 ⟨y, H2, I2, r2, q2⟩ => ?_))
 refine ztm (wpAny_standAt (ztm (wpAny_holding (thn (hs pins s2 σ H2 x y v ov iv u _ I2 r1 r2 r q2) fun _ s3 ⟨H3, I3, q3⟩ => ?_))))
 exact wpAny_release ⟨σ, H3, I3, q3⟩
def tAsg (te : TE) (g : TG) : TS := fun D σ H => te σ H fun x H1 => g x σ H1 D.nx
theorem znI {tg e : Expr} {te : TE} {g : TG} (he : PE X e te) (hg : PG X tg g) (hs : swapsWithSole [tg] e pos.line X.env = pure false := by rfl) (hw : swappedStores [tg] e X.env = pure none := by rfl)
   (h1 : (assignEach [tg] X.env).map (·.2) = [assign tg X.env] := by rfl) : PS X (.Assign [tg] e pos) (tAsg te g) := by
 intro pins s σ H D I h
 refine wpAny_Assign_stores (thn (he pins s σ H _ I h) fun v s1 ⟨x, H1, I1, r1, q1⟩ => ?_) hs hw
 rw [h1]
 exact thn (hg pins s1 σ H1 x v _ I1 r1 q1) fun _ s2 q => q
theorem zkR {i : Nat} {x : Str} {e : Expr} {te : TE} {pos' : Pos} (hN : X.N.Nodup) (hi : X.N[i]? = some x) (hx : Loc X.env.scope x) (he : PE X e te) (hs : swapsWith e (some (.Name x pos')) pos.line X.env = pure false := by rfl) (hf : X.fn x = true \/ X.env.scope.names.lookup x = some .local := by first | exact .inl rfl | exact .inr rfl | assumption) :
   PS X (.Assign [.Name x pos'] e pos) (tAsg te (zsJ i)) := by
 intro pins s σ H D I h
 refine wpAny_Assign_Name (thn (he pins s σ H _ I h) fun v s1 ⟨y, H1, I1, r1, q1⟩ => ?_) hs
 exact zej I1 hN hi hx r1 (fun s2 I2 => ⟨_, H1, I2, q1⟩) hf
end
section
variable {X : Cx} {pos : Pos}
def tWhile (c : TT) (tb : TS) : TS := fun D σ H => ∃ W : Nat -> St -> Hp -> Prop, (∃ m, W m σ H) /\ ∀ m σ H, W m σ H ->
 c σ H fun b H1 => if b = true then ∃ N : St -> Hp -> Prop, (∀ σ' H', N σ' H' -> ∃ m', m' < m /\ W m' σ' H') /\ tb { D with nx := N, ct := N, bk := D.nx } σ H1 else D.nx σ H1
theorem zj4 {c : Expr} {body : List Stmt} {tc : TT} {tb : TS} (hp : PassesOwn (model X.prog X.w) X.A X.env X.xe) (hc : PT X c tc) (hb : PSs X body tb) : PS X (.While c body [] pos) (tWhile tc tb) := by
 intro pins s σ H D I h
 obtain ⟨W, ⟨m0, w0⟩, turn⟩ := h
 refine wpAny_While (codeAny_whileLoop (fun n s' => ∃ σ' H', Inv X pins σ' H' s' /\ W n σ' H') ?_ m0 ⟨σ, H, I, w0⟩)
 rintro n s1 ⟨σ1, H1, I1, w1⟩
 refine wpAny_passesOwn hp (thn (hc pins s1 σ1 H1 _ I1 (turn n σ1 H1 w1)) fun b s2 ⟨H2, I2, q2⟩ => ?_)
 cases b with
 | true =>
   obtain ⟨N, hN, q2⟩ := q2
   rw [if_pos rfl]
   refine wpAny_passesOwn hp (thn (hb pins s2 σ1 H2 _ I2 q2) fun f s3 q3 => ?_)
   cases f with
   | next =>
     obtain ⟨σ3, H3, I3, n3⟩ := q3
     obtain ⟨m', hm, w3⟩ := hN σ3 H3 n3
     exact ⟨m', hm, σ3, H3, I3, w3⟩
   | cont =>
     obtain ⟨σ3, H3, I3, n3⟩ := q3
     obtain ⟨m', hm, w3⟩ := hN σ3 H3 n3
     exact ⟨m', hm, σ3, H3, I3, w3⟩
   | brk => exact q3
   | ret v => exact q3
 | false =>
   rw [if_neg zs2]
   exact wpAny_execs_nil ⟨σ1, H2, I2, q2⟩
end
structure It where
 go : Nat -> Hp -> Prop
 yld : Nat -> Hp -> V -> Hp -> Prop
 stop : Nat -> Hp -> Prop
def zr2 (X : Cx) (pins : List (Addr × Obj)) (H : Hp) (b : Addr) : Prop :=
 H b = none /\ b ≠ X.env.locals /\ b ∉ X.fs /\ (b ∈ X.ex \/ X.s₀.heap.objs.size <= b) /\ (∀ x c, X.env.cells.lookup x = some c -> c ≠ b) /\ ∀ p ∈ X.pn ++ pins, p.1 ≠ b
theorem Inv.fpOk {X : Cx} {pins : List (Addr × Obj)} {σ : St} {H H' : Hp} {s : Shared} {b : Addr} (I : Inv X pins σ H s) (hb : s.heap.objs.size <= b) (hn : H' b = none) : zr2 X pins H' b := by
 refine ⟨hn, Nat.ne_of_gt (zs0 I.lt hb), I.nofs hb, .inr (Nat.le_trans I.sz hb), fun x c e z => ?_, fun p hp z => ?_⟩
 . obtain ⟨v, q⟩ := I.cell x c e
   exact absurd (zs0 q.lt (by rw [z]; exact hb)) (zte _)
 . exact absurd (zs0 (ztp (I.pin p hp).1) (by rw [z]; exact hb)) (zte _)
structure Turn (P : Program) (w : World) (K : PySem.W.Frag) (tg : Expr) (J : It) (fp : List Addr) (it : Addr) (tn : Nat -> Heap -> Prop) : Prop where
 mem : it ∈ fp
 obj : ∀ i h, tn i h -> ∀ b ∈ fp, ∃ o, h.get? b = some o /\ ∀ v, o.data ≠ .cell v
 keep : ∀ i h h', tn i h -> (∀ b ∈ fp, ∀ o, h.get? b = some o -> h'.get? b = some o) -> tn i h'
 item : ∀ (X : Cx), X.prog = P -> X.w = w -> X.K = K -> X.calm = true -> ∀ (i : Nat) (pins : List (Addr × Obj)) (s : Shared) (σ : St) (H : Hp) (E : Value -> Shared -> Prop), Inv X pins σ H s -> (∀ b ∈ fp, zr2 X pins H b) -> tn i s.heap -> J.go i H ->
   wpAny (model P w) X.A (pyNext (.ref it)) (fun r s1 => ∃ u, r = some u /\
     wpAny (model P w) X.A (letOwnedTupleGo tg (.ref it) u) (fun _ s2 => ∃ x H', Inv X pins σ H' s2 /\ RelV x u /\ J.yld i H x H' /\ tn (i + 1) s2.heap /\ ∀ b ∈ fp, H' b = none) E s1) E s
 done : ∀ (X : Cx), X.prog = P -> X.w = w -> X.K = K -> X.calm = true -> ∀ (i : Nat) (pins : List (Addr × Obj)) (s : Shared) (σ : St) (H : Hp) (E : Value -> Shared -> Prop), Inv X pins σ H s -> (∀ b ∈ fp, zr2 X pins H b) -> tn i s.heap -> J.stop i H ->
   wpAny (model P w) X.A (pyNext (.ref it)) (fun r s1 => r = none /\ Inv X pins σ H s1) E s
 self : ∀ (A : Around) (i : Nat) (s : Shared) (Q : Value -> Shared -> Prop) (E : Value -> Shared -> Prop), tn i s.heap -> Q (.ref it) s -> wpAny (model P w) A (pyIter (.ref it)) Q E s
abbrev TI := St -> Hp -> (It -> Hp -> Prop) -> Prop
def PIE (X : Cx) (pins : List (Addr × Obj)) (σ : St) (tg : Expr) (R : It -> Hp -> Prop) (itv : Value) (s2 : Shared) : Prop :=
 ∃ (it : Addr) (fp : List Addr) (tn : Nat -> Heap -> Prop) (J : It) (H' : Hp), itv = .ref it /\ Inv X pins σ H' s2 /\ Turn X.prog X.w X.K tg J fp it tn /\ tn 0 s2.heap /\ (∀ b ∈ fp, zr2 X pins H' b) /\ R J H'
def PI (X : Cx) (tg iter : Expr) (wi : TI) : Prop :=
 ∀ (pins : List (Addr × Obj)) (s : Shared) (σ : St) (H : Hp) (R : It -> Hp -> Prop), Inv X pins σ H s -> wi σ H R ->
   wpAny (model X.prog X.w) X.A (eval iter X.env) (fun v s1 => wpAny (model X.prog X.w) X.A (pyIter v) (PIE X pins σ tg R) X.xe s1) X.xe s
theorem zmp {M : Model} {A : Around} {E : Value -> Shared -> Prop} {s : Shared} {tg : Expr} {it : Addr} {u : Value} {o : Obj} {n : String} {vs : Array Value} {Q : Unit -> Shared -> Prop} (ho : s.heap.get? it = some o) (hc : o.cls = .type n) (hd : o.data = .fields vs)
   (hn : ["enumerate", "zip", "dict_itemiterator", "dict_reverseitemiterator", "odict_iterator", "itertools.zip_longest", "itertools.pairwise"].contains n = false) (hQ : Q () s) : wpAny M A (letOwnedTupleGo tg (.ref it) u) Q E s := by
 unfold letOwnedTupleGo
 cases tg <;> first
   | exact ztn hQ
   | (cases u <;> first
       | exact ztn hQ
       | (refine ztm (wpAny_load ho ?_)
          rw [hc, hd]
          show wpAny M A (if (["enumerate", "zip", "dict_itemiterator", "dict_reverseitemiterator", "odict_iterator", "itertools.zip_longest", "itertools.pairwise"].contains n && vs[0]? == some (rawInt _)) = true then _ else _) Q E s
          rw [if_neg (by intro h; rw [hn, Bool.false_and] at h; cases h)]
          exact ztn hQ))
def Itl (K : PySem.W.Frag) (a : Addr) : It :=
 ⟨fun i H => ∃ xs x, SqL K H a xs /\ xs[i]? = some x, fun i H x H' => H' = H /\ ∀ xs, SqL K H a xs -> xs[i]? = some x, fun i H => ∃ xs, SqL K H a xs /\ xs.length <= i⟩
def Itt (K : PySem.W.Frag) (a : Addr) : It :=
 ⟨fun i H => ∃ xs x, SqT K H a xs /\ xs[i]? = some x, fun i H x H' => H' = H /\ ∀ xs, SqT K H a xs -> xs[i]? = some x, fun i H => ∃ xs, SqT K H a xs /\ xs.length <= i⟩
def Itr (lo : Int) (n : Nat) : It := ⟨fun i _ => i < n, fun i H x H' => H' = H /\ x = .int (lo + i), fun i _ => n <= i⟩
theorem zhT {P : Program} {w : World} {K : PySem.W.Frag} {tg : Expr} (a it : Addr) : Turn P w K tg (Itl K a) [it] it (fun i h => h.IsListIter it a i) where
 mem := by simp
 obj := fun i h st b hb => by
   have e : b = it := by simpa using hb
   subst e
   obtain ⟨o, e, c, d⟩ := st
   exact ⟨o, e, fun v z => by rw [d] at z; cases z⟩
 keep := fun i h h' st k => st.at fun o e => k it (by simp) o e
 item := by
   intro X hP hw hK hc i pins s σ H E I hf st hg
   subst hP hw hK
   obtain ⟨xs, x, hq, hx⟩ := hg
   obtain ⟨its, rv, p, hz⟩ := I.list hq
   obtain ⟨u, hu, ru⟩ := rv.get hx
   obtain ⟨f0, f1, f2, f3, f4, f5⟩ := hf it (by simp)
   refine wpAny_pyNext_list_item st p.isList (x := u) (by simpa using hu) fun h' st' sb => ?_
   have I1 : Inv X pins σ H { s with heap := h' } := I.turned (t' := s.toks) (fun b o hb e => (sb.2 b hb).trans e) f0 f1 f3 f4 f5
   obtain ⟨o, e, c, d⟩ := id st'
   exact ⟨u, rfl, zmp (s := { s with heap := h' }) e c d (by decide) ⟨x, H, I1, ru, ⟨rfl, fun ys hy => by rw [I.list_inj hy hq]; exact hx⟩, st', fun b hb => (hf b hb).1⟩⟩
 done := by
   intro X hP hw hK hc i pins s σ H E I hf st hg
   subst hP hw hK
   obtain ⟨xs, hq, hx⟩ := hg
   obtain ⟨its, rv, p, hz⟩ := I.list hq
   obtain ⟨f0, f1, f2, f3, f4, f5⟩ := hf it (by simp)
   have hl := rv.length
   exact wpAny_pyNext_list_end (I.ok.hd hc) st p.isList (by simp; omega) fun h' eb => ⟨rfl, I.turned (t' := s.toks) (fun b o hb e => eb b o hb e) f0 f1 f3 f4 f5⟩
 self := fun _ _ _ _ _ st h => wpAny_pyIter_listiter st h
theorem zhf {P : Program} {w : World} {K : PySem.W.Frag} {tg : Expr} (a it : Addr) : Turn P w K tg (Itt K a) [it] it (fun i h => h.IsTupleIter it a i) where
 mem := by simp
 obj := fun i h st b hb => by
   have e : b = it := by simpa using hb
   subst e
   obtain ⟨o, e, c, d⟩ := st
   exact ⟨o, e, fun v z => by rw [d] at z; cases z⟩
 keep := fun i h h' st k => st.at fun o e => k it (by simp) o e
 item := by
   intro X hP hw hK hc i pins s σ H E I hf st hg
   subst hP hw hK
   obtain ⟨xs, x, hq, hx⟩ := hg
   obtain ⟨its, rv, p, hz⟩ := I.tuple hq
   obtain ⟨u, hu, ru⟩ := rv.get hx
   obtain ⟨f0, f1, f2, f3, f4, f5⟩ := hf it (by simp)
   refine wpAny_pyNext_tuple_item st (show s.heap.IsTuple a its.toArray from p) (x := u) (by simpa using hu) fun h' st' sb => ?_
   have I1 : Inv X pins σ H { s with heap := h' } := I.turned (t' := s.toks) (fun b o hb e => (sb.2 b hb).trans e) f0 f1 f3 f4 f5
   obtain ⟨o, e, c, d⟩ := id st'
   exact ⟨u, rfl, zmp (s := { s with heap := h' }) e c d (by decide) ⟨x, H, I1, ru, ⟨rfl, fun ys hy => by rw [I.tuple_inj hy hq]; exact hx⟩, st', fun b hb => (hf b hb).1⟩⟩
 done := by
   intro X hP hw hK hc i pins s σ H E I hf st hg
   subst hP hw hK
   obtain ⟨xs, hq, hx⟩ := hg
   obtain ⟨its, rv, p, hz⟩ := I.tuple hq
   obtain ⟨f0, f1, f2, f3, f4, f5⟩ := hf it (by simp)
   have hl := rv.length
   exact wpAny_pyNext_tuple_end (I.ok.hd hc) st (show s.heap.IsTuple a its.toArray from p) (by simp; omega) fun h' eb => ⟨rfl, I.turned (t' := s.toks) (fun b o hb e => eb b o hb e) f0 f1 f3 f4 f5⟩
 self := fun _ _ _ _ _ st h => wpAny_pyIter_tupleiter st h
theorem zhg {P : Program} {w : World} {K : PySem.W.Frag} {tg : Expr} (it : Addr) (lo : Int) (n : Nat) : Turn P w K tg (Itr lo n) [it] it (fun i h => IsRangeIter h it (lo + (i : Nat) * 1) ((n : Int) - (i : Nat)) 1) where
 mem := by simp
 obj := fun i h st b hb => by
   have e : b = it := by simpa using hb
   subst e
   exact ⟨_, st, fun v z => by
     have z' : Data.fields _ = Data.cell v := z
     cases z'⟩
 keep := fun i h h' st k => k it (by simp) _ st
 item := by
   intro X hP hw hK hc i pins s σ H E I hf st hg
   subst hP hw hK
   obtain ⟨f0, f1, f2, f3, f4, f5⟩ := hf it (by simp)
   have W := Walks.range (prog := X.prog) (w := X.w) (I.ok.hd hc) it lo 1 n
   refine W.item i s _ _ hg st fun v h' tk hv st' kk => ?_
   obtain ⟨t, rfl⟩ := hv
   have I1 : Inv X pins σ H { s with heap := h', toks := tk } := I.turned (fun b o hb e => kk b o (by simpa using hb) e) f0 f1 f3 f4 f5
   refine ⟨_, rfl, zmp (s := { s with heap := h', toks := tk }) (n := "range_iterator") st' rfl rfl (by decide) ⟨.int (lo + i), H, I1, ⟨t, ?_⟩, ⟨rfl, rfl⟩, st', fun b hb => (hf b hb).1⟩⟩
   rw [Int.mul_one]
 done := by
   intro X hP hw hK hc i pins s σ H E I hf st hg
   subst hP hw hK
   obtain ⟨f0, f1, f2, f3, f4, f5⟩ := hf it (by simp)
   exact wpAny_pyNext_range_end (I.ok.hd hc) st (by have : n <= i := hg; omega) fun h' eb => ⟨rfl, I.turned (t' := s.toks) (fun b o hb e => eb b o hb e) f0 f1 f3 f4 f5⟩
 self := fun _ _ _ _ _ st h => wpAny_pyIter_rangeiter st h
section
variable {X : Cx} {tg : Expr}
def iList (K : PySem.W.Frag) (tl : TE) : TI := fun σ H R => tl σ H fun x H1 => ∃ a, x = .ref a /\ (∃ xs, SqL K H1 a xs) /\ R (Itl K a) H1
def iTup (K : PySem.W.Frag) (tl : TE) : TI := fun σ H R => tl σ H fun x H1 => ∃ a, x = .ref a /\ (∃ xs, SqT K H1 a xs) /\ R (Itt K a) H1
theorem zlK {l : Expr} {tl : TE} (hl : PE X l tl) : PI X tg l (iList X.K tl) := by
 intro pins s σ H R I h
 refine thn (hl pins s σ H _ I h) fun v s1 ⟨x, H1, I1, r1, q1⟩ => ?_
 obtain ⟨a, e, ⟨xs, hq⟩, q⟩ := q1
 subst e
 cases r1
 obtain ⟨its, rv, p, hz⟩ := I1.list hq
 refine wpAny_pyIter_list p.isList ?_
 refine ⟨s1.heap.objs.size, [s1.heap.objs.size], _, _, H1, rfl, I1.kept (t' := s1.toks) fun b o e => zs1 _ e, zhT a _, ⟨_, ztk _ rfl, rfl, rfl⟩, fun b hb => ?_, q⟩
 have e : b = s1.heap.objs.size := by simpa using hb
 subst e
 exact I1.fpOk (ztq _) (I1.hok.fresh (ztq _))
theorem znJ {l : Expr} {tl : TE} (hl : PE X l tl) : PI X tg l (iTup X.K tl) := by
 intro pins s σ H R I h
 refine thn (hl pins s σ H _ I h) fun v s1 ⟨x, H1, I1, r1, q1⟩ => ?_
 obtain ⟨a, e, ⟨xs, hq⟩, q⟩ := q1
 subst e
 cases r1
 obtain ⟨its, rv, p, hz⟩ := I1.tuple hq
 refine wpAny_pyIter_tuple (show s1.heap.IsTuple a its.toArray from p) ?_
 refine ⟨s1.heap.objs.size, [s1.heap.objs.size], _, _, H1, rfl, I1.kept (t' := s1.toks) fun b o e => zs1 _ e, zhf a _, ⟨_, ztk _ rfl, rfl, rfl⟩, fun b hb => ?_, q⟩
 have e : b = s1.heap.objs.size := by simpa using hb
 subst e
 exact I1.fpOk (ztq _) (I1.hok.fresh (ztq _))
theorem zj2 {pins : List (Addr × Obj)} {σ : St} {H : Hp} {s : Shared} {R : It -> Hp -> Prop} {E : Value -> Shared -> Prop} {lo hi : Int} {t u v : Tok} {tk : Nat} (I : Inv X pins σ H s) (h1 : -(2 ^ 62) <= lo) (h2 : lo < 2 ^ 62) (h3 : -(2 ^ 62) <= hi) (h4 : hi < 2 ^ 62)
   (q : R (Itr lo (hi - lo).toNat) H) : wpAny (model X.prog X.w) X.A (pyIter (.ref s.heap.objs.size)) (PIE X pins σ tg R) E { s with heap := s.heap.push { cls := .type "range", data := .fields #[.int lo t, .int hi u, .int 1 v] }, toks := tk } := by
 refine wpAny_pyIter_range (IsRange.new ..) (small_one h1 h2 h3 h4) ?_
 have I1 : Inv X pins σ H { s with heap := s.heap.push { cls := .type "range", data := .fields #[.int lo t, .int hi u, .int 1 v] }, toks := tk } := I.kept fun b o e => zs1 _ e
 refine ⟨(s.heap.push { cls := .type "range", data := .fields #[.int lo t, .int hi u, .int 1 v] }).objs.size, [(s.heap.push { cls := .type "range", data := .fields #[.int lo t, .int hi u, .int 1 v] }).objs.size], _, _, H, rfl,
   I1.kept (t' := tk) fun b o e => zs1 _ e, zhg _ lo (hi - lo).toNat, ?_, fun b hb => ?_, q⟩
 . have e1 : lo + ((0 : Nat) : Int) * 1 = lo := by simp
   have e2 : (((hi - lo).toNat : Nat) : Int) - ((0 : Nat) : Int) = Builtin.Range.rangeSize lo hi 1 := by rw [rangeSize_one]; split <;> omega
   show IsRangeIter _ _ (lo + ((0 : Nat) : Int) * 1) ((((hi - lo).toNat : Nat) : Int) - ((0 : Nat) : Int)) 1
   rw [e1, e2]
   exact ztk _ rfl
 . have e : b = (s.heap.push { cls := .type "range", data := .fields #[.int lo t, .int hi u, .int 1 v] }).objs.size := by simpa using hb
   subst e
   exact I1.fpOk (ztq _) (I1.hok.fresh (ztq _))
def iRng1 (ta : TA) : TI := fun σ H R => ta σ H fun vs H1 => ∃ j : Int, vs = [.int j] /\ -(2 ^ 62) <= j /\ j < 2 ^ 62 /\ R (Itr 0 j.toNat) H1
theorem zih {a : Expr} {ta : TA} {p pos : Pos} (hg : Gl X "range") (hm : X.mg "range" = none) (ha : PA X [a] ta) (hs : starEach [a] X.env = [(false, eval a X.env)] := by rfl) : PI X tg (.Call (.Name "range" p) [a] [] pos) (iRng1 ta) := by
 intro pins s σ H R I h
 refine Call_ (zgV I hg hm boot_range (PyProof.Rows.callWith_type1 (thn (ha pos pins s σ H _ I h) fun us s1 ⟨vs, H1, I1, r1, q1⟩ => ?_) hs rfl))
 obtain ⟨j, e, q1, q2, q⟩ := q1
 subst e
 cases r1 with
 | cons r rr =>
   cases rr
   obtain ⟨t, rfl⟩ := r
   exact call_range_1 (zj2 I1 (by omega) (by omega) q1 q2 (by simpa using q))
def tFor (wi : TI) (g : TG) (tb : TS) : TS := fun D σ H => wi σ H fun J H1 => ∃ W : Nat -> Nat -> St -> Hp -> Prop, (∃ m, W 0 m σ H1) /\ ∀ i m σ H, W i m σ H ->
 (J.stop i H /\ D.nx σ H) \/ (J.go i H /\ ∃ N : St -> Hp -> Prop, (∀ σ' H', N σ' H' -> ∃ m', m' < m /\ W (i + 1) m' σ' H') /\ ∀ x H', J.yld i H x H' -> g x σ H' fun σ2 H2 => tb { D with nx := N, ct := N, bk := D.nx } σ2 H2)
def zq4 (fp : List Addr) (h : Heap) : List (Addr × Obj) := fp.filterMap fun b => (h.get? b).map fun o => (b, o)
theorem zdW {fp : List Addr} {h : Heap} {b : Addr} {o : Obj} (hb : b ∈ fp) (e : h.get? b = some o) : (b, o) ∈ zq4 fp h := List.mem_filterMap.mpr ⟨b, hb, by rw [e]; rfl⟩
theorem ziq {fp : List Addr} {h : Heap} {p : Addr × Obj} (hp : p ∈ zq4 fp h) : p.1 ∈ fp /\ h.get? p.1 = some p.2 := by
 obtain ⟨b, hb, e⟩ := List.mem_filterMap.mp hp
 cases q : h.get? b with
 | none => rw [q] at e; cases e
 | some o =>
   rw [q] at e
   have e' : (b, o) = p := Option.some.inj e
   subst e'
   exact ⟨hb, q⟩
theorem Inv.pinned {pins : List (Addr × Obj)} {σ : St} {H : Hp} {s : Shared} {fp : List Addr} (I : Inv X pins σ H s) (hf : ∀ b ∈ fp, zr2 X pins H b) (ho : ∀ b ∈ fp, ∃ o, s.heap.get? b = some o /\ ∀ v, o.data ≠ .cell v) : Inv X (pins ++ zq4 fp s.heap) σ H s :=
 I.pins_of fun p hp => (ztf.mp hp).elim (fun z => I.pin p (List.mem_append_right _ z)) fun z => by
   obtain ⟨hb, e⟩ := ziq z
   obtain ⟨f0, f1, f2, _⟩ := hf p.1 hb
   obtain ⟨o, e', d⟩ := ho p.1 hb
   rw [e] at e'; cases e'
   exact ⟨e, f0, f1, f2, d⟩
theorem Inv.unpinned {pins pl : List (Addr × Obj)} {σ : St} {H : Hp} {s : Shared} (I : Inv X (pins ++ pl) σ H s) : Inv X pins σ H s := I.pins_of fun p hp => I.pin p (List.mem_append_right _ (List.mem_append_left _ hp))
theorem znG {iter : Expr} {body : List Stmt} {wi : TI} {g : TG} {tb : TS} {pos : Pos} (hp : PassesOwn (model X.prog X.w) X.A X.env X.xe) (hc : X.calm = true) (hi : PI X tg iter wi) (hg : PG X tg g) (hb : PSs X body tb)
   (hs : ∀ x, foldedSetIterable iter X.env x = pure x := by intro _; rfl) : PS X (.For tg iter body [] pos) (tFor wi g tb) := by
 intro pins s σ H D I h
 refine wpAny_For (thn (hi pins s σ H _ I h) fun v s1 h1 => thn h1 fun itv s2 h2 => ?_) hs
 obtain ⟨it, fp, tn, J, H2, e, I2, T, st2, f2, W, ⟨m0, w0⟩, turn⟩ := h2
 subst e
 have stat : ∀ {H' : Hp}, (∀ b ∈ fp, H' b = none) -> ∀ b ∈ fp, zr2 X pins H' b := fun hn b hb => ⟨hn b hb, (f2 b hb).2⟩
 refine codeAny_forLoop_any (fun n s' => ∃ i σ' H', Inv X pins σ' H' s' /\ tn i s'.heap /\ (∀ b ∈ fp, H' b = none) /\ W i n σ' H') ?_ m0 ⟨0, σ, H2, I2, st2, fun b hb => (f2 b hb).1, w0⟩
 rintro n s3 ⟨i, σ3, H3, I3, st3, fr3, w3⟩
 rcases turn i n σ3 H3 w3 with ⟨stop, qn⟩ | ⟨go, N, hN, step⟩
 . refine wpAny_passesOwn hp (thn (T.done X rfl rfl rfl hc i pins s3 σ3 H3 X.xe I3 (stat fr3) st3 stop) fun r s4 ⟨hr, I4⟩ => ?_)
   subst hr
   exact wpAny_execs_nil ⟨σ3, H3, I4, qn⟩
 . refine wpAny_passesOwn hp (thn (T.item X rfl rfl rfl hc i pins s3 σ3 H3 X.xe I3 (stat fr3) st3 go) fun r s4 ⟨u, hr, h4⟩ => ?_)
   subst hr
   refine wpAny_passesOwn hp (thn h4 fun _ s5 ⟨x, H5, I5, r5, y5, st5, fr5⟩ => ?_)
   have I5' := I5.pinned (stat fr5) (T.obj _ _ st5)
   refine wpAny_passesOwn hp (thn (hg _ s5 σ3 H5 x u _ I5' r5 (step x H5 y5)) fun _ s6 ⟨σ6, H6, I6, q6⟩ => ?_)
   refine wpAny_passesOwn hp (thn (hb _ s6 σ6 H6 _ I6 q6) fun f s7 q7 => ?_)
   have again : ∀ {σ7 : St} {H7 : Hp}, Inv X (pins ++ zq4 fp s5.heap) σ7 H7 s7 -> N σ7 H7 -> ∃ m, m < n /\ ∃ i σ' H', Inv X pins σ' H' s7 /\ tn i s7.heap /\ (∀ b ∈ fp, H' b = none) /\ W i m σ' H' := fun {σ7 H7} I7 n7 => by
     obtain ⟨m', hm, w7⟩ := hN σ7 H7 n7
     refine ⟨m', hm, i + 1, σ7, H7, I7.unpinned, T.keep _ _ _ st5 fun b hb o e => (I7.pin (b, o) (List.mem_append_right _ (List.mem_append_right _ (zdW hb e)))).1, fun b hb => ?_, w7⟩
     obtain ⟨o, e, d⟩ := T.obj _ _ st5 b hb
     exact (I7.pin (b, o) (List.mem_append_right _ (List.mem_append_right _ (zdW hb e)))).2.1
   cases f with
   | next => obtain ⟨σ7, H7, I7, n7⟩ := q7; exact again I7 n7
   | cont => obtain ⟨σ7, H7, I7, n7⟩ := q7; exact again I7 n7
   | brk => obtain ⟨σ7, H7, I7, q7⟩ := q7; exact ⟨σ7, H7, I7.unpinned, q7⟩
   | ret v => obtain ⟨x7, σ7, H7, I7, r7, q7⟩ := q7; exact ⟨x7, σ7, H7, I7.unpinned, r7, q7⟩
end
abbrev R2 := V -> V -> Hp -> VK -> Prop
def OpR (X : Cx) (f : Value -> Value -> Sem Value) (r : R2) : Prop :=
 ∀ (pins : List (Addr × Obj)) (s : Shared) (σ : St) (H : Hp) (x y : V) (v u : Value) (Q : VK), Inv X pins σ H s -> RelV x v -> RelV y u -> r x y H Q ->
   wpAny (model X.prog X.w) X.A (f v u) (EP X pins σ Q) X.xe s
def UnR (X : Cx) (f : Value -> Sem Value) (r : V -> Hp -> VK -> Prop) : Prop :=
 ∀ (pins : List (Addr × Obj)) (s : Shared) (σ : St) (H : Hp) (x : V) (v : Value) (Q : VK), Inv X pins σ H s -> RelV x v -> r x H Q ->
   wpAny (model X.prog X.w) X.A (f v) (EP X pins σ Q) X.xe s
def zpS (X : Cx) (f : Value) (r : List V -> Hp -> VK -> Prop) : Prop :=
 ∀ (pins : List (Addr × Obj)) (s : Shared) (σ : St) (H : Hp) (xs : List V) (us : List Value) (Q : VK), Inv X pins σ H s -> Vals xs us -> r xs H Q ->
   wpAny (model X.prog X.w) X.A (call f us) (EP X pins σ Q) X.xe s
def TruR (X : Cx) (r : V -> Hp -> (Bool -> Hp -> Prop) -> Prop) : Prop :=
 ∀ (pins : List (Addr × Obj)) (s : Shared) (σ : St) (H : Hp) (x : V) (v : Value) (Q : Bool -> Hp -> Prop), Inv X pins σ H s -> RelV x v -> r x H Q ->
   wpAny (model X.prog X.w) X.A (truthy v) (TP X pins σ Q) X.xe s
def tOp (r : R2) (ta tb : TE) : TE := fun σ H Q => ta σ H fun x H1 => tb σ H1 fun y H2 => r x y H2 Q
def tUn (r : V -> Hp -> VK -> Prop) (ta : TE) : TE := fun σ H Q => ta σ H fun x H1 => r x H1 Q
def rI (C : Int -> Int -> Prop) (g : Int -> Int -> V) : R2 := fun x y H Q => ∃ i j, x = .int i /\ y = .int j /\ C i j /\ Q (g i j) H
def rI0 (g : Int -> Int -> V) : R2 := fun x y H Q => ∃ i j, x = .int i /\ y = .int j /\ Q (g i j) H
def rU (g : Int -> V) : V -> Hp -> VK -> Prop := fun x H Q => ∃ i, x = .int i /\ Q (g i) H
section
variable {X : Cx} {a b c : Expr} {ta tb tc : TE} {pos : Pos}
theorem binT (ha : PE X a ta) (hb : PE X b tb) {pins : List (Addr × Obj)} {s : Shared} {σ : St} {H : Hp} {R : V -> V -> Hp -> Prop} (I : Inv X pins σ H s)
   (h : ta σ H fun x H1 => tb σ H1 fun y H2 => R x y H2) {Q : Value -> Shared -> Prop} {f : Value -> Value -> Sem Value}
   (hf : ∀ v u s2 x y H2, Inv X pins σ H2 s2 -> RelV x v -> RelV y u -> R x y H2 -> wpAny (model X.prog X.w) X.A (f v u) Q X.xe s2) :
   wpAny (model X.prog X.w) X.A (eval a X.env) (fun v s₁ => wpAny (model X.prog X.w) X.A (eval b X.env) (fun u s₂ => wpAny (model X.prog X.w) X.A (f v u) Q X.xe s₂) X.xe s₁) X.xe s := by
 refine thn (ha pins s σ H _ I h) fun v s1 ⟨x, H1, I1, r1, q1⟩ => ?_
 refine thn (hb pins s1 σ H1 _ I1 q1) fun u s2 ⟨y, H2, I2, r2, q2⟩ => ?_
 exact hf v u s2 x y H2 I2 r1 r2 q2
theorem zpb {op : Operator} {r : R2} (ho : OpR X (binaryOp op) r) (ha : PE X a ta) (hb : PE X b tb) : PE X (.BinOp a op b pos) (tOp r ta tb) := by
 intro pins s σ H Q I h
 exact wpAny_BinOp (binT ha hb I h fun v u s2 x y H2 I2 rx ry q => ho pins s2 σ H2 x y v u Q I2 rx ry q)
theorem zo9 {op : UnaryOp} {r : V -> Hp -> VK -> Prop} (ho : UnR X (unaryOp op) r) (ha : PE X a ta) : PE X (.UnaryOp op a pos) (tUn r ta) := by
 intro pins s σ H Q I h
 exact UnaryOp_ (thn (ha pins s σ H _ I h) fun v s1 ⟨x, H1, I1, r1, q1⟩ => ho pins s1 σ H1 x v Q I1 r1 q1)
theorem opI {f : Value -> Value -> Sem Value} {C : Int -> Int -> Prop} {g : Int -> Int -> Int}
   (rule : ∀ (i j : Int) (t u : Tok) (s : Shared) (Q : Value -> Shared -> Prop) (E : Value -> Shared -> Prop), C i j -> Q (.int (g i j) s.toks) { s with toks := s.toks + 1 } -> wpAny (model X.prog X.w) X.A (f (.int i t) (.int j u)) Q E s) :
   OpR X f (rI C fun i j => .int (g i j)) := by
 intro pins s σ H x y v u Q I rx ry h
 obtain ⟨i, j, rfl, rfl, hc, q⟩ := h
 obtain ⟨t, rfl⟩ := rx
 obtain ⟨t', rfl⟩ := ry
 exact rule i j t t' s _ _ hc ⟨.int (g i j), H, I.tok _, ⟨_, rfl⟩, q⟩
theorem opI0 {f : Value -> Value -> Sem Value} {g : Int -> Int -> Int}
   (rule : ∀ (i j : Int) (t u : Tok) (s : Shared) (Q : Value -> Shared -> Prop) (E : Value -> Shared -> Prop), Q (.int (g i j) s.toks) { s with toks := s.toks + 1 } -> wpAny (model X.prog X.w) X.A (f (.int i t) (.int j u)) Q E s) :
   OpR X f (rI0 fun i j => .int (g i j)) := by
 intro pins s σ H x y v u Q I rx ry h
 obtain ⟨i, j, rfl, rfl, q⟩ := h
 obtain ⟨t, rfl⟩ := rx
 obtain ⟨t', rfl⟩ := ry
 exact rule i j t t' s _ _ ⟨.int (g i j), H, I.tok _, ⟨_, rfl⟩, q⟩
theorem opB0 {f : Value -> Value -> Sem Value} {g : Int -> Int -> Bool}
   (rule : ∀ (i j : Int) (t u : Tok) (s : Shared) (Q : Value -> Shared -> Prop) (E : Value -> Shared -> Prop), Q (.bool (g i j)) s -> wpAny (model X.prog X.w) X.A (f (.int i t) (.int j u)) Q E s) :
   OpR X f (rI0 fun i j => .bl (g i j)) := by
 intro pins s σ H x y v u Q I rx ry h
 obtain ⟨i, j, rfl, rfl, q⟩ := h
 obtain ⟨t, rfl⟩ := rx
 obtain ⟨t', rfl⟩ := ry
 exact rule i j t t' s _ _ ⟨.bl (g i j), H, I, rfl, q⟩
def CPow (i j : Int) : Prop := 0 <= j /\ j <= 1000000 /\ i.natAbs < 2 ^ 64
theorem znX : OpR X (binaryOp .Add) (rI0 fun i j => .int (i + j)) := opI0 fun _ _ _ _ _ _ _ q => add_int q
theorem znS : OpR X (binaryOp .Sub) (rI0 fun i j => .int (i - j)) := opI0 fun _ _ _ _ _ _ _ q => sub_int q
theorem zl7 : OpR X (binaryOp .Mod) (rI (fun _ j => j ≠ 0) fun i j => .int (i.fmod j)) := opI fun _ _ _ _ _ _ _ hc q => mod_int' hc q
theorem znU : OpR X (binaryOp .Pow) (rI CPow fun i j => .int (i ^ j.toNat)) := opI fun _ _ _ _ _ _ _ hc q => pow_int_small hc.1 hc.2.1 hc.2.2 q
theorem znT : OpR X (binaryOp .LShift) (rI CPow fun i j => .int (i * 2 ^ j.toNat)) := opI fun _ _ _ _ _ _ _ hc q => lshift_int_small hc.1 hc.2.1 hc.2.2 q
theorem unI {f : Value -> Sem Value} {g : Int -> Int}
   (rule : ∀ (i : Int) (t : Tok) (s : Shared) (Q : Value -> Shared -> Prop) (E : Value -> Shared -> Prop), Q (.int (g i) s.toks) { s with toks := s.toks + 1 } -> wpAny (model X.prog X.w) X.A (f (.int i t)) Q E s) :
   UnR X f (rU fun i => .int (g i)) := by
 intro pins s σ H x v Q I rx h
 obtain ⟨i, rfl, q⟩ := h
 obtain ⟨t, rfl⟩ := rx
 exact rule i t s _ _ ⟨.int (g i), H, I.tok _, ⟨_, rfl⟩, q⟩
theorem zmX : UnR X (unaryOp .USub) (rU fun i => .int (-i)) := unI fun _ _ _ _ _ q => neg_int q
end
def scal : V -> V -> Bool
 | .non, .non => true | .non, .int _ => true | .int _, .non => true | .non, .bl _ => true | .bl _, .non => true | .non, .str _ => true | .str _, .non => true
 | .int _, .int _ => true | .bl _, .bl _ => true | .str _, .str _ => true | .byt _, .byt _ => true
 | .int _, .str _ => true | .str _, .int _ => true | .bl _, .str _ => true | .str _, .bl _ => true
 | _, _ => false
def rNe : R2 := fun x y H Q => scal x y = true /\ Q (.bl (!decide (x = y))) H
theorem zmF {i j : Int} : decide (V.int i = V.int j) = (i == j) := by
 rw [Bool.eq_iff_iff]
 simp
theorem zoC {i j : Bool} : decide (V.bl i = V.bl j) = (i == j) := by
 rw [Bool.eq_iff_iff]
 simp
theorem zmE {i j : Str} : decide (V.str i = V.str j) = (i == j) := by
 rw [Bool.eq_iff_iff]
 simp
theorem zmG {i j : Array UInt8} : decide (V.byt i = V.byt j) = (i.toList == j.toList) := by
 rw [Bool.eq_iff_iff]
 cases i
 cases j
 simp
section
variable {X : Cx} {a b c : Expr} {ta tb tc : TE} {pos : Pos}
theorem za6 {pins : List (Addr × Obj)} {σ : St} {H : Hp} {s : Shared} {Q : VK} {k k' : Bool} (I : Inv X pins σ H s) (q : Q (.bl k) H) (e : k = k') : EP X pins σ Q (.bool k') s := by
 subst e
 exact ⟨.bl k, H, I, rfl, q⟩
theorem zpf : OpR X (compareOp .NotEq) rNe := by
 intro pins s σ H x y v u Q I rx ry h
 obtain ⟨hs, q⟩ := h
 cases x with
 | non =>
   cases rx
   cases y with
   | non => cases ry; exact PySem.EqNone.ne_none_none (za6 I q (by simp))
   | bl j => cases ry; exact PySem.EqNone.ne_none_bool (za6 I q (by simp))
   | int j => obtain ⟨t', rfl⟩ := ry; exact PySem.EqNone.ne_none_int (za6 I q (by simp))
   | str j => obtain ⟨t', rfl⟩ := ry; exact PySem.EqNone.ne_none_str (za6 I q (by simp))
   | _ => exact absurd (show false = true from hs) zs2
 | bl i =>
   cases rx
   cases y with
   | non => cases ry; exact PySem.EqNone.ne_bool_none (za6 I q (by simp))
   | bl j => cases ry; exact ne_bool (za6 I q (congrArg not zoC))
   | str j => obtain ⟨t', rfl⟩ := ry; exact PySem.EqMixed.ne_bool_str (za6 I q (by simp))
   | _ => exact absurd (show false = true from hs) zs2
 | int i =>
   obtain ⟨t, rfl⟩ := rx
   cases y with
   | non => cases ry; exact PySem.EqNone.ne_int_none (za6 I q (by simp))
   | int j => obtain ⟨t', rfl⟩ := ry; exact ne_int (za6 I q (congrArg not zmF))
   | str j => obtain ⟨t', rfl⟩ := ry; exact PySem.EqMixed.ne_int_str (za6 I q (by simp))
   | _ => exact absurd (show false = true from hs) zs2
 | str i =>
   obtain ⟨t, rfl⟩ := rx
   cases y with
   | non => cases ry; exact PySem.EqNone.ne_str_none (za6 I q (by simp))
   | bl j => cases ry; exact PySem.EqMixed.ne_str_bool (za6 I q (by simp))
   | int j => obtain ⟨t', rfl⟩ := ry; exact PySem.EqMixed.ne_str_int (za6 I q (by simp))
   | str j => obtain ⟨t', rfl⟩ := ry; exact ne_str (za6 I q (congrArg not zmE))
   | _ => exact absurd (show false = true from hs) zs2
 | byt i =>
   obtain ⟨t, rfl⟩ := rx
   cases y with
   | byt j => obtain ⟨t', rfl⟩ := ry; exact PySem.W.ne_bytes (za6 I q (congrArg not zmG))
   | _ => exact absurd (show false = true from hs) zs2
 | _ => cases y <;> exact absurd (show false = true from hs) zs2
theorem zpg : OpR X (compareOp .Lt) (rI0 fun i j => .bl (decide (i < j))) := opB0 fun _ _ _ _ _ _ _ q => lt_int q
theorem zph : OpR X (compareOp .LtE) (rI0 fun i j => .bl (decide (i <= j))) := opB0 fun _ _ _ _ _ _ _ q => le_int q
theorem zpi : OpR X (compareOp .Gt) (rI0 fun i j => .bl (decide (j < i))) := opB0 fun _ _ _ _ _ _ _ q => gt_int q
theorem zpj : OpR X (compareOp .GtE) (rI0 fun i j => .bl (decide (j <= i))) := opB0 fun _ _ _ _ _ _ _ q => ge_int q
theorem znV : OpR X (compareOp .Is) (fun x y H Q => y = .non /\ Q (.bl (decide (x = .non))) H) := by
 intro pins s σ H x y v u Q I rx ry h
 obtain ⟨rfl, q⟩ := h
 cases ry
 refine is_none_gen (za6 I q ?_)
 cases x <;> first
   | (cases rx; rfl)
   | (obtain ⟨t, rfl⟩ := rx; rfl)
theorem zl5 : OpR X (compareOp .IsNot) (fun x y H Q => y = .non /\ Q (.bl (!decide (x = .non))) H) := by
 intro pins s σ H x y v u Q I rx ry h
 obtain ⟨rfl, q⟩ := h
 cases ry
 refine isnot_none_gen (za6 I q ?_)
 cases x <;> first
   | (cases rx; rfl)
   | (obtain ⟨t, rfl⟩ := rx; rfl)
theorem zrJ (b : Expr) {op : CmpOp} (h : op ≠ .In := by decide) (h2 : op ≠ .NotIn := by decide) : behindInMarks op b = false := by
 have e1 : (op == CmpOp.In) = false := by cases op <;> first | rfl | exact absurd rfl h
 have e2 : (op == CmpOp.NotIn) = false := by cases op <;> first | rfl | exact absurd rfl h2
 cases b <;> simp [behindInMarks, e1, e2]
theorem zlP {op : CmpOp} {r : R2} (ho : OpR X (compareOp op) r) (ha : PE X a ta) (hb : PE X b tb) (hm : behindInMarks op b = false) : PE X (.Compare a [op] [b] pos) (tOp r ta tb) := by
 intro pins s σ H Q I h
 exact wpAny_Compare1 (binT ha hb I h fun v u s2 x y H2 I2 rx ry q => ho pins s2 σ H2 x y v u Q I2 rx ry q) hm
def tTest (t : TE) : TT := fun σ H Q => t σ H fun x H' => ∃ k, x = .bl k /\ Q k H'
theorem zia {op : CmpOp} {r : R2} (ho : OpR X (compareOp op) r) (ha : PE X a ta) (hb : PE X b tb) (hm : behindInMarks op b = false) : PT X (.Compare a [op] [b] pos) (tTest (tOp r ta tb)) := by
 intro pins s σ H Q I h
 refine wpAny_isTrue_Compare1 (thn (ha pins s σ H _ I h) fun v s1 ⟨x, H1, I1, r1, q1⟩ => thn (hb pins s1 σ H1 _ I1 q1) fun u s2 ⟨y, H2, I2, r2, q2⟩ =>
   thn (ho pins s2 σ H2 x y v u _ I2 r1 r2 q2) fun c s3 ⟨z, H3, I3, r3, k, e, q3⟩ => ?_) hm
 subst e
 cases r3
 exact wpAny_truthy_bool ⟨H3, I3, q3⟩
def TruV (K : PySem.W.Frag) (x : V) (H : Hp) (k : Bool) : Prop :=
 match x with
 | .non => k = false
 | .bl b => k = b
 | .int i => k = (i != 0)
 | .str y => y.length <= sizeLine /\ k = ((y.length : Int) != 0)
 | .byt y => y.size <= sizeLine /\ k = ((y.size : Int) != 0)
 | .ref p => (∃ xs, SqL K H p xs /\ k = !xs.isEmpty) \/ (∃ xs, SqT K H p xs /\ k = !xs.isEmpty) \/ ∃ kvs, H p = some (.dK kvs) /\ k = !kvs.isEmpty
 | _ => False
theorem zhD {κ : Type} {kvs : List (κ × V)} {vs : List (κ × Value)} (r : KV kvs vs) : (!vs.isEmpty) = !kvs.isEmpty := by
 cases r <;> rfl
theorem ze8 {xs : List V} {its : List Value} (r : Vals xs its) : (!its.toArray.isEmpty) = !xs.isEmpty := by
 cases r <;> simp
theorem zqy : (sizeLine : Nat) < 2 ^ 63 := by rw [sizeLine_eq]; decide
theorem zmZ : TruR X (fun x H Q => ∃ k, TruV X.K x H k /\ Q k H) := by
 intro pins s σ H x v Q I rx h
 obtain ⟨k, e, q⟩ := h
 have hl := zqy
 have hs : sizeLine = 16777216 := sizeLine_eq
 cases x with
 | non =>
   cases rx
   have e' : k = false := e
   subst e'
   exact truthy_none ⟨H, I, q⟩
 | bl b =>
   cases rx
   have e' : k = b := e
   subst e'
   exact wpAny_truthy_bool ⟨H, I, q⟩
 | int i =>
   obtain ⟨t, rfl⟩ := rx
   have e' : k = (i != 0) := e
   subst e'
   exact PySem.P.truthy_int ⟨H, I, q⟩
 | str y =>
   obtain ⟨t, rfl⟩ := rx
   obtain ⟨hy, e'⟩ : y.length <= sizeLine /\ k = ((y.length : Int) != 0) := e
   subst e'
   exact PySem.P.truthy_str (by omega) ⟨H, I.tok _, q⟩
 | byt y =>
   obtain ⟨t, rfl⟩ := rx
   obtain ⟨hy, e'⟩ : y.size <= sizeLine /\ k = ((y.size : Int) != 0) := e
   subst e'
   exact PySem.W.truthy_bytes (by omega) ⟨H, I.tok _, q⟩
 | ref p =>
   cases rx
   have e' : (∃ xs, SqL X.K H p xs /\ k = !xs.isEmpty) \/ (∃ xs, SqT X.K H p xs /\ k = !xs.isEmpty) \/ ∃ kvs, H p = some (.dK kvs) /\ k = !kvs.isEmpty := e
   rcases e' with ⟨xs, hx, e'⟩ | ⟨xs, hx, e'⟩ | ⟨kvs, hx, e'⟩
   . subst e'
     obtain ⟨its, r, pl, hz⟩ := I.list hx
     have hlen := r.length
     exact wpAny_truthy_list pl.isList (by simp only [zs8]; omega) ⟨H, I.tok _, by rw [ze8 r]; exact q⟩
   . subst e'
     obtain ⟨its, r, pl, hz⟩ := I.tuple hx
     have hlen := r.length
     exact truthy_tuple pl (by simp only [zs8]; omega) ⟨H, I.tok _, by rw [ze8 r]; exact q⟩
   . subst e'
     obtain ⟨hz, hS, vs, r, m⟩ : kvs.length <= sizeLine /\ (p == sysModules) = false /\ ∃ vs, KV kvs vs /\ s.heap.DictOf (zrd X.prog X.w) p vs := I.hok p _ hx
     have hlen : kvs.length = vs.length := Paired.length r
     exact wpAny_truthy_dict hS m (by omega) ⟨H, I.tok _, by rw [zhD r]; exact q⟩
 | _ => exact (show False from e).elim
theorem zj3 (ha : PE X a ta) (he : ∀ whole, isTrue a X.env whole = (do let v <- whole; standAt a.pos; holding [v] (truthy v))) :
   PT X a (fun σ H Q => ta σ H fun x H' => ∃ k, TruV X.K x H' k /\ Q k H') := by
 intro pins s σ H Q I h
 exact isTrue_plain (thn (ha pins s σ H _ I h) fun v s1 ⟨x, H1, I1, r1, q1⟩ => zmZ pins s1 σ H1 x v Q I1 r1 q1) (he _)
theorem zhu : OpR X (binaryOp .Add) (fun x y H Q => ∃ i j, x = .str i /\ y = .str j /\ i.length + j.length <= sizeLine /\ Q (.str (i ++ j)) H) := by
 intro pins s σ H x y v u Q I rx ry h
 obtain ⟨i, j, rfl, rfl, hz, q⟩ := h
 obtain ⟨t, rfl⟩ := rx
 obtain ⟨t', rfl⟩ := ry
 exact add_str (fun t' tk => ⟨.str (i ++ j), H, I.tok _, ⟨_, rfl⟩, q⟩) hz
theorem zqm {x : V} {us : List Value} (r : Vals [x] us) : ∃ u, us = [u] /\ RelV x u := by
 cases r with
 | cons r1 r2 => cases r2; exact ⟨_, rfl, r1⟩
theorem zr4 {x y : V} {us : List Value} (r : Vals [x, y] us) : ∃ u w', us = [u, w'] /\ RelV x u /\ RelV y w' := by
 cases r with
 | cons r1 r2 =>
   cases r2 with
   | cons r3 r4 => cases r4; exact ⟨_, _, rfl, r1, r3⟩
theorem zkG : zpS X (.builtin "abs") (fun xs H Q => ∃ i, xs = [.int i] /\ Q (.int (if i < 0 then -i else i)) H) := by
 intro pins s σ H xs us Q I r h
 obtain ⟨i, rfl, q⟩ := h
 obtain ⟨u, rfl, t, rfl⟩ := zqm r
 exact call_abs_int fun u tk => ⟨.int (if i < 0 then -i else i), H, I.tok _, ⟨_, rfl⟩, q⟩
theorem zjz (hc : X.calm = true) : zpS X (.builtin "max") (fun xs H Q => ∃ i j, xs = [.int i, .int j] /\ Q (.int (if j > i then j else i)) H) := by
 intro pins s σ H xs us Q I r h
 obtain ⟨i, j, rfl, q⟩ := h
 obtain ⟨u, w', rfl, ⟨t, rfl⟩, ⟨t', rfl⟩⟩ := zr4 r
 refine max_two_ints (I.ok.hd hc) fun h' tk k => ⟨_, H, I.kept k, ?_, q⟩
 by_cases hj : j > i
 . rw [if_pos hj, if_pos hj]; exact ⟨_, rfl⟩
 . rw [if_neg hj, if_neg hj]; exact ⟨_, rfl⟩
theorem zjy (hc : X.calm = true) : zpS X (.builtin "min") (fun xs H Q => ∃ i j, xs = [.int i, .int j] /\ Q (.int (if j < i then j else i)) H) := by
 intro pins s σ H xs us Q I r h
 obtain ⟨i, j, rfl, q⟩ := h
 obtain ⟨u, w', rfl, ⟨t, rfl⟩, ⟨t', rfl⟩⟩ := zr4 r
 refine min_two_ints (I.ok.hd hc) fun h' tk k => ⟨_, H, I.kept k, ?_, q⟩
 by_cases hj : j < i
 . rw [if_pos hj, if_pos hj]; exact ⟨_, rfl⟩
 . rw [if_neg hj, if_neg hj]; exact ⟨_, rfl⟩
theorem zjA : zpS X (.type "int") (fun xs H Q => (∃ i, xs = [.int i] /\ Q (.int i) H) \/ ∃ k, xs = [.bl k] /\ Q (.int (if k then 1 else 0)) H) := by
 intro pins s σ H xs us Q I r h
 rcases h with ⟨i, rfl, q⟩ | ⟨k, rfl, q⟩
 . obtain ⟨u, rfl, t, rfl⟩ := zqm r
   exact call_int_int ⟨.int i, H, I, ⟨_, rfl⟩, q⟩
 . obtain ⟨u, rfl, r1⟩ := zqm r
   cases r1
   exact call_int_bool ⟨.int (if k then 1 else 0), H, I.tok _, ⟨_, rfl⟩, q⟩
end
structure ObjM (h : Heap) (x dx C : Addr) (mA : Str -> Option Value) : Prop where
 obj : h.get? x = some (PySem.W.instObj C dx)
 ns : h.Ns1 dx mA
 ne : dx ≠ x
theorem ziF {h : Heap} {dx : Addr} {mA : Str -> Option Value} (n : h.Ns1 dx mA) : ∃ od, h.get? dx = some od /\ ∀ name, PySem.W.lookIn name od = some (mA name) := by
 obtain ⟨o, es, ep, ho, hd, hk, _, hm⟩ := n
 refine ⟨o, ho, fun name => ?_⟩
 have e := hm name
 unfold nsFind findBy at e
 rw [<- Array.find?_toList] at e
 unfold PySem.W.lookIn
 rw [hd]
 dsimp only
 split
 . rename_i y q
   rw [q] at e
   exact congrArg some e
 . rename_i q
   rw [q] at e
   have a : es.toList.any (·.refKey) = false := by
     rw [List.any_eq_false]
     intro y hy
     obtain ⟨z, t, hkey⟩ := hk y (Array.mem_toList_iff.mp hy)
     simp [DictEntry.refKey, hkey]
   have a' : ¬ es.toList.any (·.refKey) = true := by rw [a]; exact zs2
   rw [if_neg a']
   exact congrArg some e
theorem ObjM.look {h : Heap} {x dx C : Addr} {mA : Str -> Option Value} (I : ObjM h x dx C mA) : ∃ od, PySem.W.InstAt h x (PySem.W.instObj C dx) C (some od) /\ ∀ name, PySem.W.lookIn name od = some (mA name) :=
 let ⟨od, ho, hl⟩ := ziF I.ns
 ⟨od, ⟨I.obj, rfl, rfl, ho⟩, hl⟩
section
variable {prog : Program} {w : World} {A : Around} {E : Value -> Shared -> Prop} {s : Shared} {K : PySem.W.Frag} {x dx C f : Addr} {mA : Str -> Option Value} {name : Str} {v : Value}
end
section
variable {P : Program} {w : World} {H H' : Hp} {h h' : Heap} {a C dx : Addr} {fs fs' : List (Str × V)}
theorem zmm (hok : HOk P w H h) (e : H a = some (.ins C dx fs)) : ∃ mA, ObjM h a dx C mA /\ (∀ f, RelO (fs.lookup f) (mA f)) /\ PySem.Within mA (fs.map (·.1)) /\ fs.length <= 1000 /\ H dx = some (.own a) := by
 obtain ⟨d, z, ne, ob, mA, n, r, q⟩ := (show ObjOk P w H h a (.ins C dx fs) from hok a _ e)
 exact ⟨mA, ⟨ob, n, ne⟩, r, q, z, d⟩
end
structure Cls (K : PySem.W.Frag) (C : Addr) : Prop where
 pg : PySem.W.plainGet K C Str.empty = true
 hd : PySem.W.hasDictIn K C = true
 po : PySem.W.plainOver K C = true
 sa : PySem.W.findIn K (.ref C) "__setattr__" = some (some (.builtin "object.__setattr__"))
theorem Cls.get {K : PySem.W.Frag} {C : Addr} (c : Cls K C) (f : Str) : PySem.W.plainGet K C f = true := c.pg
section
variable {X : Cx} {pins : List (Addr × Obj)} {σ : St} {H : Hp} {s : Shared} {a C dx : Addr} {fs : List (Str × V)} {f : Str} {v : V} {A : Around} {E : Value -> Shared -> Prop}
end
section
variable {X : Cx} {o e value : Expr} {f : Str} {pos pos' tpos : Pos} {ta tv : TE}
end
section
variable {X : Cx} {pins : List (Addr × Obj)} {σ : St} {H : Hp} {s : Shared} {A : Around} {E : Value -> Shared -> Prop} {Q : Value -> Shared -> Prop} {c : Value} {b : Bool}
inductive zrx (K : PySem.W.Frag) (H : Hp) : V -> Value -> Prop where
 | non : zrx K H .non (.type "NoneType")
 | bl (x : Bool) : zrx K H (.bl x) (.type "bool")
 | int (i : Int) : zrx K H (.int i) (.type "int")
 | str (x : Str) : zrx K H (.str x) (.type "str")
 | flt (x : UInt64) : zrx K H (.flt x) (.type "float")
 | lst {a : Addr} {xs : List V} (e : H a = some (.lst xs)) : zrx K H (.ref a) (.type "list")
 | frz {a : Addr} {o : Obj} {xs : List V} (e : H a = some (.frz o (.lst xs))) : zrx K H (.ref a) (.type "list")
 | tup {a : Addr} {xs : List V} (e : H a = some (.tup xs)) : zrx K H (.ref a) (.type "tuple")
 | dK {a : Addr} {kvs : List (Key × V)} (e : H a = some (.dK kvs)) : zrx K H (.ref a) (.type "dict")
 | dT {a : Addr} {kvs : List (List Key × V)} (e : H a = some (.dT kvs)) : zrx K H (.ref a) (.type "dict")
 | ins {a C dx : Addr} {fs : List (Str × V)} (e : H a = some (.ins C dx fs)) (cl : Cls K C) (ha : PySem.W.findIn K (.ref C) "__class__" = some (some (.builtin "object.__class__")))
     (hn : PySem.W.specialIn K (.builtin "object.__class__") "__get__" = some (some (.builtin "getset_descriptor.__get__"))) (htk : PySem.W.takesIn K (.builtin "object.__class__") = some true)
     (hm : PySem.W.mroIn K C (.type "object") = some true) : zrx K H (.ref a) (.ref C)
theorem ziO {x : V} {u t : Value} (I : Inv X pins σ H s) (rx : RelV x u) (ty : zrx X.K H x t) (e : PySem.W.kitOne X.K t c = some b) (h : ∀ tk, Q (.bool b) { s with toks := tk }) :
   wpAny (model X.prog X.w) A (call (.builtin "isinstance") [u, c]) Q E s := by
 cases ty with
 | non => cases (show u = Value.none from rx); exact PySem.W.kia_one PySem.W.kitx_none I.kIn True.intro e (fun z => nomatch z) h
 | bl y => cases (show u = Value.bool y from rx); exact PySem.W.kia_one PySem.W.kitx_bool I.kIn True.intro e (fun z => nomatch z) h
 | int i => obtain ⟨t, q⟩ := (show ∃ t, u = Value.int i t from rx); cases q; exact PySem.W.kia_one PySem.W.kitx_int I.kIn True.intro e (fun z => nomatch z) h
 | str y => obtain ⟨t, q⟩ := (show ∃ t, u = Value.str y t from rx); cases q; exact PySem.W.kia_one PySem.W.kitx_str I.kIn True.intro e (fun z => nomatch z) h
 | flt y => obtain ⟨t, q⟩ := (show ∃ t, u = Value.float y t from rx); cases q; exact PySem.W.kia_one PySem.W.kitx_float I.kIn True.intro e (fun z => nomatch z) h
 | @lst a xs ea =>
   cases (show u = Value.ref a from rx)
   obtain ⟨_, _, n, _, h1⟩ := (show ObjOk X.prog X.w H s.heap a (.lst xs) from I.hok a _ ea)
   exact PySem.W.kia_one PySem.W.kitx_list I.kIn ⟨_, h1, rfl⟩ e (fun z => nomatch z) h
 | @frz a ob xs ea =>
   cases (show u = Value.ref a from rx)
   obtain ⟨_, _, _, n, _, h1⟩ := (show ObjOk X.prog X.w H s.heap a (.frz ob (.lst xs)) from I.hok a _ ea)
   exact PySem.W.kia_one PySem.W.kitx_list I.kIn ⟨_, h1, rfl⟩ e (fun z => nomatch z) h
 | @tup a xs ea =>
   cases (show u = Value.ref a from rx)
   obtain ⟨_, _, _, p⟩ := (show ObjOk X.prog X.w H s.heap a (.tup xs) from I.hok a _ ea)
   obtain ⟨o, h1, h2, _⟩ := p
   exact PySem.W.kia_one PySem.W.kitx_tuple I.kIn ⟨o, h1, h2⟩ e (fun z => nomatch z) h
 | @dK a kvs ea =>
   cases (show u = Value.ref a from rx)
   obtain ⟨_, _, vs, _, p⟩ := (show ObjOk X.prog X.w H s.heap a (.dK kvs) from I.hok a _ ea)
   obtain ⟨o, es, ep, h1, h2, _⟩ := p
   exact PySem.W.kia_one PySem.W.kitx_dict I.kIn ⟨o, h1, h2.1⟩ e (fun z => nomatch z) h
 | @dT a kvs ea =>
   cases (show u = Value.ref a from rx)
   obtain ⟨_, _, xs, _, o, es, ep, h1, h2, _⟩ := (show ObjOk X.prog X.w H s.heap a (.dT kvs) from I.hok a _ ea)
   exact PySem.W.kia_one PySem.W.kitx_dict I.kIn ⟨o, h1, h2.1⟩ e (fun z => nomatch z) h
 | @ins a C dx fs ea cl ha hn htk hm =>
   cases (show u = Value.ref a from rx)
   obtain ⟨mA, O, _⟩ := zmm I.hok ea
   obtain ⟨od, J, _⟩ := O.look
   exact PySem.W.kia_one (PySem.W.kitx_own (cl.get _) cl.hd ha hn htk hm) I.kIn J e (fun z => nomatch z) h
end
structure Room (k : Nat) (A : Around) : Prop where
 hd : A.handled = none
 dp : A.depth + 3 * k + 5 < recursionLimit
 un : A.units + 16 * k + 200 < cLine
theorem Room.mono {j k : Nat} {A : Around} (r : Room k A) (h : j <= k) : Room j A := ⟨r.hd, by have := r.dp; omega, by have := r.un; omega⟩
theorem Room.deeper {k : Nat} {A : Around} (r : Room (k + 1) A) (env : Env) : Room k (A.deeper env) :=
 ⟨r.hd, by have := r.dp; show A.depth + 1 + 3 * k + 5 < _; omega, by have := r.un; show A.units + 3 + 16 * k + 200 < _; omega⟩
theorem Room.depth {k : Nat} {A : Around} (r : Room k A) : A.depth < recursionLimit := by have := r.dp; omega
theorem Room.units {k : Nat} {A : Around} (r : Room k A) : A.units + 64 < cLine := by have := r.un; omega
def zsg : TA := fun _ H Q => Q [] H
def zqi (ta : TE) (tr : TA) : TA := fun σ H Q => ta σ H fun x H1 => tr σ H1 fun xs H2 => Q (x :: xs) H2
section
variable {X : Cx} {e : Expr} {es : List Expr} {te : TE} {t : TA} {pos : Pos}
theorem zd6 : PA X [] zsg := fun _ _ _ _ H Q I h => Calls.spliced_nil ⟨[], H, I, .nil, h⟩
theorem zaP (ha : PE X e te) (hr : PA X es t) (hs : starEach (e :: es) X.env = (false, eval e X.env) :: starEach es X.env := by rfl) : PA X (e :: es) (zqi te t) := by
 intro pos pins s σ H Q I h
 rw [hs]
 show wpAny _ _ (spliced ((false, eval e X.env) :: backTo pos (starEach es X.env))) _ _ s
 refine Calls.spliced_cons (thn (ha pins s σ H _ I h) fun u s1 ⟨x, H1, I1, r1, q1⟩ => ?_)
 exact thn (hr pos pins s1 σ H1 _ I1 q1) fun us s2 ⟨xs, H2, I2, r2, q2⟩ => ⟨x :: xs, H2, I2, .cons r1 r2, q2⟩
def tTup (t : TA) : TE := fun σ H Q => t σ H fun xs H1 => xs.length <= sizeLine /\ ∀ p, H1 p = none -> Q (.ref p) (upd H1 p (.tup xs))
def tLst (t : TA) : TE := fun σ H Q => t σ H fun xs H1 => xs.length <= sizeLine /\ ∀ p, H1 p = none -> Q (.ref p) (upd H1 p (.lst xs))
theorem zkT {x1} (h : PA X es t) : PE X (.Tuple es x1 pos) (tTup t) := by
 intro pins s σ H Q I hq
 refine wpAny_Tuple_spliced (thn (h pos pins s σ H _ I hq) fun us s1 ⟨xs, H1, I1, r, z, q⟩ => ⟨by rw [<- r.length]; exact z, ?_⟩)
 have hf : H1 s1.heap.objs.size = none := I1.hok.fresh (ztq _)
 refine ⟨.ref s1.heap.objs.size, upd H1 s1.heap.objs.size (.tup xs), I1.laid (t' := s1.toks) (fun b u e => zs1 _ e) (ztq _) ?_, rfl, q _ hf⟩
 exact ⟨z, us, r, ⟨_, ztk _ rfl, rfl, _, rfl⟩⟩
theorem zii (h : PA X es t) : PE X (.List es pos) (tLst t) := by
 intro pins s σ H Q I hq
 refine wpAny_List_spliced (thn (h pos pins s σ H _ I hq) fun us s1 ⟨xs, H1, I1, r, z, q⟩ => ⟨by rw [<- r.length]; exact z, ?_⟩)
 have hf : H1 s1.heap.objs.size = none := I1.hok.fresh (ztq _)
 refine ⟨.ref s1.heap.objs.size, upd H1 s1.heap.objs.size (.lst xs), I1.laid (t' := s1.toks) (fun b u e => zs1 _ e) (ztq _) ?_, rfl, q _ hf⟩
 exact ⟨z, us, 0, r, ztk _ rfl⟩
end
abbrev Sp := List V -> Hp -> VK -> XK -> Prop
abbrev CXT := List Env -> Hp -> Shared -> XK -> Value -> Shared -> Prop
structure zsV (P : Program) (w : World) (K : PySem.W.Frag) (mg : Str -> Option Value) (base : Heap) (A : Around) (outer : List Env) (s : Shared) (H : Hp) : Prop where
 frames : A.frames = some outer
 mod : Mod K mg base
 bs : ∀ b o, base.get? b = some o -> s.heap.get? b = some o /\ H b = none
 bsz : base.objs.size <= s.heap.objs.size
 funs : s.heap.FunFrames base outer
 frf : ∀ b ∈ frs outer, H b = none
 hok : HOk P w H s.heap
 bare : AllBare s.gens
def CE (outer : List Env) (P : Program) (w : World) (H : Hp) (s : Shared) (Q : VK) (u : Value) (s' : Shared) : Prop :=
 ∃ v H', s'.os = s.os /\ AllBare s'.gens /\ Un (frs outer) [] H H' s.heap s'.heap /\ HOk P w H' s'.heap /\ RelV v u /\ Q v H'
def CR (CX : CXT) (outer : List Env) (P : Program) (w : World) (H : Hp) (s : Shared) (Q : VK) (E : XK) (r : Result) (s' : Shared) : Prop :=
 match r with
 | .ok (.ret u) => CE outer P w H s Q u s'
 | .ok _ => False
 | .error e => CX outer H s E e s'
structure FnOk (P : Program) (w : World) (K : PySem.W.Frag) (mg : Str -> Option Value) (base : Heap) (CX : CXT) (k : Nat) (f : Addr) (fd : FuncData) (ps : List Str) (sp : Sp) : Prop where
 len : ∀ vs H Q E, sp vs H Q E -> vs.length = ps.length
 run : ∀ (A : Around) (outer : List Env) (s : Shared) (H : Hp) (args : Args) (us : List Value) (vs : List V) (Q : VK) (E : XK), Room k A -> zsV P w K mg base A outer s H -> BindsTo s fd args (ps.zip us) -> Vals vs us -> sp vs H Q E ->
   codeAny (model P w) A (.call (.ref f) args) (CR CX outer P w H s Q E) s
theorem FnOk.mono {P : Program} {w : World} {K : PySem.W.Frag} {mg : Str -> Option Value} {base : Heap} {CX : CXT} {j k : Nat} {f : Addr} {fd : FuncData} {ps : List Str} {sp : Sp} (F : FnOk P w K mg base CX j f fd ps sp) (h : j <= k) :
   FnOk P w K mg base CX k f fd ps sp := ⟨F.len, fun A outer s H args us vs Q E hr => F.run A outer s H args us vs Q E (hr.mono h)⟩
section
variable {X : Cx} {pins : List (Addr × Obj)} {σ : St} {H : Hp} {s s' : Shared}
theorem Inv.env0 (I : Inv X pins σ H s) : zsV X.prog X.w X.K X.mg X.base X.A X.stack s H :=
 ⟨I.ok.frames, I.ok.mod, I.bs, Nat.le_trans I.ok.bsz I.sz, I.stack, I.stkFree, I.hok, I.bare⟩
theorem Inv.after {Q : VK} {u : Value} (I : Inv X pins σ H s) (h : CE X.stack X.prog X.w H s Q u s') : EP X pins σ Q u s' := by
 obtain ⟨v, H', os, bare, un, hok, r, q⟩ := h
 obtain ⟨hh, g, d, t, os'⟩ := s'
 obtain rfl : os' = s.os := os
 exact ⟨v, H', I.call (h' := hh) (g' := g) (d' := d) (t' := t) (ch := []) un hok bare (fun b z => absurd z (by simp)), r, q⟩
end
def tCall (sp : Sp) (dvs : List V) (E : XK) (t : TA) : TE := fun σ H Q => t σ H fun vs H1 => sp (vs ++ dvs) H1 Q E
def Binds (K : PySem.W.Frag) (fd : FuncData) (ps : List Str) (ds : List Value) : Prop :=
 ∀ (s : Shared) (us : List Value), K.In s.heap -> (us ++ ds).length = ps.length -> BindsTo s fd ⟨us, []⟩ (ps.zip (us ++ ds))
theorem Binds.all {K : PySem.W.Frag} {fd : FuncData} {ps : List Str} (h : ∀ us : List Value, us.length = ps.length -> bindArgs fd ⟨us, []⟩ = pure (ps.zip us)) : Binds K fd ps [] := fun s us _ hl => by
 rw [List.append_nil] at hl ⊢
 exact .of_eq (h us hl)
def zrn (CX : CXT) (X : Cx) (E : XK) : Prop := ∀ (pins : List (Addr × Obj)) (σ : St) (H : Hp) (s : Shared) (e : Value) (s' : Shared), Inv X pins σ H s -> CX X.stack H s E e s' -> X.xe e s'
section
variable {X : Cx} {CX : CXT} {k : Nat} {f C : Addr} {fd : FuncData} {ps : List Str} {sp : Sp} {dvs : List V} {ds : List Value} {E : XK} {x m : Str} {p pos apos : Pos} {e o : Expr} {es : List Expr} {ta : TE} {t : TA}
theorem znE {pins : List (Addr × Obj)} {σ : St} {H : Hp} {s : Shared} {Q : VK} {us : List Value} {vs : List V} (F : FnOk X.prog X.w X.K X.mg X.base CX k f fd ps sp) (hr : Room k X.A) (hb : Binds X.K fd ps ds) (hd : Vals dvs ds) (hx : zrn CX X E)
   (I : Inv X pins σ H s) (r : Vals vs us) (h : sp (vs ++ dvs) H Q E) : wpAny (model X.prog X.w) X.A (call (.ref f) us) (EP X pins σ Q) X.xe s := by
 have r2 : Vals (vs ++ dvs) (us ++ ds) := r.append hd
 have hl : (us ++ ds).length = ps.length := by rw [<- r2.length]; exact F.len _ _ _ _ h
 refine wpAny_call (codeAny_mono (F.run X.A X.stack s H ⟨us, []⟩ (us ++ ds) (vs ++ dvs) Q E hr I.env0 (hb s us I.kIn hl) r2 h) fun r s' hq => ?_)
 cases r with
 | error e => exact hx pins σ H s e s' I hq
 | ok fl =>
   cases fl with
   | ret u => exact I.after hq
   | next => exact False.elim hq
   | brk => exact False.elim hq
   | cont => exact False.elim hq
theorem zil (F : FnOk X.prog X.w X.K X.mg X.base CX k f fd ps sp) (hr : Room k X.A) (hg : Gl X x) (hm : X.mg x = some (.ref f)) (hk : PySem.W.keepIn X.K (.ref f) = true) (hb : Binds X.K fd ps ds) (hd : Vals dvs ds) (hx : zrn CX X E)
   (ha : PA X (e :: es) t) (hdb : (x == ("__debug__" : Str)) = false := by decide) (he : starEach (e :: es) X.env = (false, eval e X.env) :: starEach es X.env := by rfl) (hpl : (backTo pos (starEach es X.env)).any (·.1) = false := by rfl) :
   PE X (.Call (.Name x p) (e :: es) [] pos) (tCall sp dvs E t) := by
 intro pins s σ H Q I h
 refine wpAny_Call_Name_kw (zdX I hg hm ?_ hdb)
 refine PySem.W.callWith_K (h₀ := X.base) I.ok.mod.kin hk (thn (ha pos pins s σ H _ I h) fun us s1 ⟨vs, H1, I1, r, q⟩ => ⟨I1.kIn, ?_⟩) he hpl
 exact znE F hr hb hd hx I1 r q
end
section
variable {X : Cx} {CX : CXT} {k : Nat} {f C : Addr} {fd : FuncData} {ps ks : List Str} {sp : Sp} {E : XK} {x m : Str} {p pos apos kpos : Pos} {e o : Expr} {es : List Expr} {kws : List Keyword} {te ta : TE} {t tk : TA} {nm : Option Str}
variable {g : List Value -> List Value -> List Value} {gV : List V -> List V -> List V}
end
structure zp2 (N P : List Str) (sc : Scope) : Prop where
 kind : sc.kind = .function
 co : sc.isCoroutine = false
 gen : sc.isGenerator = false
 nd : N.Nodup
 pre : N.take P.length = P
 par : ∀ x ∈ P, sc.names.lookup x = some .local \/ sc.names.lookup x = some .cell
 nofree : ∀ y ∈ sc.names, y.2 ≠ .free
theorem zfV {kindOf : Str -> Option NameKind} {x : Str} : ∀ {binds : List (Str × Value)} {m : Str -> Option Value}, (∀ v, (x, v) ∉ binds) -> bindL kindOf binds m x = m x
 | [], _, _ => rfl
 | (n, v) :: r, m, h => by
   unfold bindL
   rw [zfV fun w hw => h w (zsY _ hw)]
   split
   . have : x ≠ n := by rintro rfl; exact h v zsZ
     simp [this]
   . rfl
theorem zfX {kindOf : Str -> Option NameKind} {x : Str} : ∀ {binds : List (Str × Value)} {m : Str -> Option Value}, (∀ v, (x, v) ∉ binds) -> bindC kindOf binds m x = m x
 | [], _, _ => rfl
 | (n, v) :: r, m, h => by
   unfold bindC
   rw [zfX fun w hw => h w (zsY _ hw)]
   split
   . rfl
   . have : x ≠ n := by rintro rfl; exact h v zsZ
     simp [this]
theorem zfW {kindOf : Str -> Option NameKind} {x : Str} {v : Value} : ∀ {P : List Str} {vs : List Value} {i : Nat} {m : Str -> Option Value}, P.Nodup -> P[i]? = some x -> vs[i]? = some v -> kindOf x = some .local ->
   bindL kindOf (P.zip vs) m x = some v
 | [], _, _, _, _, h, _, _ => by simp at h
 | _ :: _, [], _, _, _, _, h, _ => by simp at h
 | p :: P, w :: vs, 0, m, nd, h1, h2, hk => by
   simp at h1 h2; subst h1; subst h2
   show bindL kindOf ((p, w) :: P.zip vs) m p = _
   unfold bindL
   rw [zfV fun v hv => (List.nodup_cons.mp nd).1 (List.of_mem_zip hv).1, if_pos hk]
   simp
 | p :: P, w :: vs, i + 1, m, nd, h1, h2, hk => by
   show bindL kindOf ((p, w) :: P.zip vs) m x = _
   unfold bindL
   exact zfW (i := i) (List.nodup_cons.mp nd).2 (by simpa using h1) (by simpa using h2) hk
theorem zfY {kindOf : Str -> Option NameKind} {x : Str} {v : Value} : ∀ {P : List Str} {vs : List Value} {i : Nat} {m : Str -> Option Value}, P.Nodup -> P[i]? = some x -> vs[i]? = some v -> kindOf x ≠ some .local ->
   bindC kindOf (P.zip vs) m x = some v
 | [], _, _, _, _, h, _, _ => by simp at h
 | _ :: _, [], _, _, _, _, h, _ => by simp at h
 | p :: P, w :: vs, 0, m, nd, h1, h2, hk => by
   simp at h1 h2; subst h1; subst h2
   show bindC kindOf ((p, w) :: P.zip vs) m p = _
   unfold bindC
   rw [zfX fun v hv => (List.nodup_cons.mp nd).1 (List.of_mem_zip hv).1, if_neg hk]
   simp
 | p :: P, w :: vs, i + 1, m, nd, h1, h2, hk => by
   show bindC kindOf ((p, w) :: P.zip vs) m x = _
   unfold bindC
   exact zfY (i := i) (List.nodup_cons.mp nd).2 (by simpa using h1) (by simpa using h2) hk
def start (N : List Str) (vs : List V) : St := vs.map some ++ List.replicate (N.length - vs.length) none
def zri (CX : CXT) (P : Program) (w : World) (K : PySem.W.Frag) (mg : Str -> Option Value) (base : Heap) (N : List Str) (qual : Str) (scope : Scope) (f : Addr) (cd : Value) (A : Around) (outer : List Env) (s : Shared) (H : Hp) (E : XK) : Cx where
 prog := P
 w := w
 K := K
 mg := mg
 base := base
 A := A.deeper (envOfC qual scope s.heap.objs.size f cd)
 N := N
 s₀ := s
 H₀ := H
 env := envOfC qual scope s.heap.objs.size f cd
 outer := outer
 stack := envOfC qual scope s.heap.objs.size f cd :: outer
 ex := []
 calm := true
 fn := fun _ => true
 pn := []
 xe := fun e s' => wpAny (model P w) (A.deeper (envOfC qual scope s.heap.objs.size f cd)) (leaving (envOfC qual scope s.heap.objs.size f cd) e) (fun _ s'' => CX outer H s E e s'') (fun e' s'' => CX outer H s E e' s'') s'
theorem zhc {sc : Scope} {n : Nat} {x : Str} (h : sc.names.lookup x = some .cell) : ∃ c, (cellsFrom n sc.names []).lookup x = some c := by
 have q := PySem.W.cellsFrom_some sc.names n [] (.inl h)
 exact Option.isSome_iff_exists.mp q
theorem zfG {CX : CXT} {P : Program} {w : World} {K : PySem.W.Frag} {mg : Str -> Option Value} {base : Heap} {N ps : List Str} {qual : Str} {scope : Scope} {f : Addr} {cd : Value} {A : Around} {outer : List Env} {s s1 : Shared} {H : Hp} {E : XK} {us : List Value} {vs : List V}
   (S : zp2 N ps scope) (hd : A.handled = none) (e0 : zsV P w K mg base A outer s H) (hl : vs.length = ps.length) (r : Vals vs us)
   (x : InCallC s s.heap.objs.size (bindL (envOfC qual scope s.heap.objs.size f cd).kindOf (ps.zip us) fun _ => none) (cellsFrom (s.heap.objs.size + 1) scope.names []) (bindC (envOfC qual scope s.heap.objs.size f cd).kindOf (ps.zip us) fun _ => none) s1) :
   Inv (zri CX P w K mg base N qual scope f cd A outer s H E) [] (start N vs) H s1 := by
 have hpl : ps.length <= N.length := by have := congrArg List.length S.pre; rw [ztu] at this; omega
 obtain ⟨h1, tk, rfl, hk⟩ := x.done
 have noA : ∀ b : Addr, b ∉ (zri CX P w K mg base N qual scope f cd A outer s H E).ex := fun b z => absurd (show b ∈ ([] : List Addr) from z) (by simp)
 refine ⟨⟨e0.mod, S.kind, rfl, rfl, ztq _, fun y z c h1 h2 => ?_, fun y hy => ?_, fun y c _ h => ?_, fun _ => hd, Around.frames_deeper e0.frames, .inr ⟨rfl, rfl⟩, fun b z => absurd z (noA b), e0.bs, e0.bsz, fun b _ _ => noA b, fun b z => absurd z (noA b), e0.funs, e0.frf⟩,
   rfl, e0.bare, Un.kept hk, ⟨_, x.toInCall.ns, fun i y v h1 h2 h3 => ?_⟩, fun y c h => ⟨_, x.cell y c h⟩, e0.hok.fresh (ztq _), fun y c h => ?_, fun p hp => absurd (show p ∈ ([] : List (Addr × Obj)) from hp) (by simp), e0.hok.kept hk, ?_⟩
 . exact name_of_addr x.apart (zs4 h1) (zs4 h2)
 . have hy : scope.names.lookup y = some .cell \/ scope.names.lookup y = some .free := hy
   rcases hy with hy | hy
   . exact zhc hy
   . exact absurd rfl (S.nofree _ (zs4 hy))
 . exact Nat.le_of_lt (x.above y c (zs4 h))
 . have hi : i < vs.length := by
     unfold start at h2
     by_cases hi : i < vs.length
     . exact hi
     . rw [ztj (by simpa using hi)] at h2
       rw [List.getElem?_replicate] at h2
       split at h2 <;> cases h2
   have ha : vs[i]? = some v := by
     unfold start at h2
     rw [zti (by simpa using hi), ztb] at h2
     cases e : vs[i]? with
     | none => rw [e] at h2; cases h2
     | some a => rw [e] at h2; cases h2; rfl
   obtain ⟨u, hu, rv⟩ := r.get ha
   have hp : ps[i]? = some y := by
     rw [<- S.pre, List.getElem?_take_of_lt (by omega)]; exact h1
   have ndP : ps.Nodup := by rw [<- S.pre]; exact S.nd.sublist (List.take_sublist _ _)
   refine ⟨u, rv, ?_⟩
   rcases S.par y (List.mem_of_getElem? hp) with k | k
   . exact .inl ⟨k, zfW ndP hp hu k⟩
   . obtain ⟨c, e⟩ := zhc (n := s.heap.objs.size + 1) k
     refine .inr ⟨.inl k, c, e, ?_⟩
     have q := x.cell y c e
     rw [zfY ndP hp hu (by show scope.names.lookup y ≠ _; rw [k]; decide)] at q
     exact q
 . exact e0.hok.fresh (Nat.le_of_lt (x.above y c (zs4 h)))
 . unfold start
   show _ = N.length
   rw [zs9, zs7, List.length_replicate]
   omega
theorem zkv {CX : CXT} {P : Program} {w : World} {K : PySem.W.Frag} {mg : Str -> Option Value} {base : Heap} {k : Nat} {f : Addr} {name qual : Str} {params : Arguments} {body : List Stmt} {scope : Scope} {dV kV doc pm cdv ct oc : Value} {an od : Option Addr}
   {osl : Array (Option Value)} {N ps : List Str} {sp : Sp} (lk : K.lookup f = some ⟨oc, od, .func (PySem.W.fnOf name qual params body scope dV kV doc pm an cdv ct), osl⟩) (hcd : PySem.W.codeIn K cdv qual = true) (S : zp2 N ps scope)
   (len : ∀ vs H Q E, sp vs H Q E -> vs.length = ps.length)
   (hbody : ∀ (A : Around) (outer : List Env) (s : Shared) (H : Hp) (vs : List V) (Q : VK) (E : XK), Room k (A.deeper (envOfC qual scope s.heap.objs.size f cdv)) -> sp vs H Q E ->
     ∃ t, PSs (zri CX P w K mg base N qual scope f cdv A outer s H E) body t /\ t { nx := fun _ H' => Q .non H', rt := Q } (start N vs) H) :
   FnOk P w K mg base CX (k + 1) f (PySem.W.fnOf name qual params body scope dV kV doc pm an cdv ct) ps sp := by
 refine ⟨len, fun A outer s H args us vs Q E hr e0 hb r hsp => ?_⟩
 have hl := len _ _ _ _ hsp
 have KX : K.In s.heap := e0.mod.kin.keeps fun b o e => (e0.bs b o e).1
 have lim : s.heap.NoLimit := e0.mod.nolimit.keeps fun b o e => (e0.bs b o e).1
 have hkind : ∀ y ∈ ps.zip us, scope.names.lookup y.1 = some .local \/ (scope.names.lookup y.1 = some .cell /\ ((cellsFrom (s.heap.objs.size + 1) scope.names []).lookup y.1).isSome = true) := fun ⟨n, v⟩ hy => by
   rcases S.par n (List.of_mem_zip hy).1 with q | q
   . exact .inl q
   . exact .inr ⟨q, PySem.W.cellsFrom_some _ _ _ (.inl q)⟩
 refine codeAny_call_function hr.depth (KX _ _ lk) rfl S.co S.gen rfl (PySem.W.codeRec_of KX hcd) (hb _ _ _ _ ?_)
 refine wpAny_newFunctionEnv_cells S.kind hkind fun env he s1 x => ?_
 subst he
 refine ⟨lim.keeps x.toInCall.keep, codeAny_func ?_⟩
 obtain ⟨t, ht, hq⟩ := hbody A outer s H vs Q E (hr.deeper _) hsp
 have I : Inv (zri CX P w K mg base N qual scope f cdv A outer s H E) [] (start N vs) H s1 := zfG S hr.hd e0 hl r x
 refine zto (ht [] s1 (start N vs) H _ I hq) (fun fl s' hs => ?_) fun e s' hs => hs
 have fin : ∀ {σ' : St} {H' : Hp} {v : V} {u : Value}, Inv (zri CX P w K mg base N qual scope f cdv A outer s H E) [] σ' H' s' -> RelV v u -> Q v H' -> CE outer P w H s Q u s' :=
   fun {σ' H' v u} J rv q => ⟨v, H', J.os, J.bare, J.base, J.hok, rv, q⟩
 cases fl with
 | ret u =>
   obtain ⟨v, σ', H', J, rv, q⟩ := hs
   exact fin J rv q
 | next =>
   obtain ⟨σ', H', J, q⟩ := hs
   exact fin (v := V.non) (u := Value.none) J rfl q
 | brk =>
   obtain ⟨_, _, _, q⟩ := hs
   exact False.elim q
 | cont =>
   obtain ⟨_, _, _, q⟩ := hs
   exact False.elim q
section
variable {X : Cx} {x : Str} {p pos : Pos} {e : Expr} {es : List Expr} {t : TA} {id T : String} {r : List V -> Hp -> VK -> Prop}
def tCB (r : List V -> Hp -> VK -> Prop) (t : TA) : TE := fun σ H Q => t σ H fun vs H1 => r vs H1 Q
theorem zgP (hc : zpS X (.builtin id) r) (hg : Gl X x) (hm : X.mg x = none) (hv : bootBuiltins x = some (.builtin id)) (ha : PA X (e :: es) t) (hn : x ≠ "__name__" := by decide) (hdb : (x == ("__debug__" : Str)) = false := by decide)
   (he : starEach (e :: es) X.env = (false, eval e X.env) :: starEach es X.env := by rfl) (hpl : (backTo pos (starEach es X.env)).any (·.1) = false := by rfl) : PE X (.Call (.Name x p) (e :: es) [] pos) (tCB r t) := by
 intro pins s σ H Q I h
 refine wpAny_Call_Name_kw (zgV I hg hm hv ?_ hn hdb)
 exact PyProof.Rows.callWith_builtin1 (thn (ha pos pins s σ H _ I h) fun us s1 ⟨vs, H1, I1, r1, q1⟩ => hc pins s1 σ H1 vs us Q I1 r1 q1) he hpl
theorem zik (hc : zpS X (.type T) r) (hg : Gl X x) (hm : X.mg x = none) (hv : bootBuiltins x = some (.type T)) (ha : PA X (e :: es) t) (hn : x ≠ "__name__" := by decide) (hdb : (x == ("__debug__" : Str)) = false := by decide)
   (he : starEach (e :: es) X.env = (false, eval e X.env) :: starEach es X.env := by rfl) (hpl : (backTo pos (starEach es X.env)).any (·.1) = false := by rfl) : PE X (.Call (.Name x p) (e :: es) [] pos) (tCB r t) := by
 intro pins s σ H Q I h
 refine wpAny_Call_Name_kw (zgV I hg hm hv ?_ hn hdb)
 exact PyProof.Rows.callWith_type1 (thn (ha pos pins s σ H _ I h) fun us s1 ⟨vs, H1, I1, r1, q1⟩ => hc pins s1 σ H1 vs us Q I1 r1 q1) he hpl
end
end L2
namespace HT
open PySem PyProof.Rows
section
open PySem.SeqAt
open PySem.AutoSeq1 (wpAny_loadPart')
open PySem.MeetsSeq PySem.MeetsSeq2 PySem.MeetsSeq3
end
section
variable {prog : Program} {w : World} {A : Around} {E : Value -> Shared -> Prop} {s : Shared}
theorem zmO {t b : Addr} {vs ws : List Value} {Q : Value -> Shared -> Prop} (ht : IsTup s.heap t vs.toArray) (hb : IsTup s.heap b ws.toArray) (hv : vs ≠ [])
   (h1 : ws = [] -> Q (.ref t) s) (h2 : ws ≠ [] -> Q (.ref s.heap.objs.size) { s with heap := s.heap.push { cls := .type "tuple", data := .seq (vs ++ ws).toArray } })
   (hsz : vs.length + ws.length <= sizeLine) : wpAny (model prog w) A (binaryOp .Add (.ref t) (.ref b)) Q E s := by
 obtain ⟨⟨cls, dd, data, sl⟩, ho, hc, n, hd⟩ := id ht
 obtain ⟨⟨cls2, dd2, data2, sl2⟩, ho2, hc2, n2, hd2⟩ := id hb
 simp only at hc hd hc2 hd2
 subst hc hd hc2 hd2
 have e : vs.toArray ++ ws.toArray = (vs ++ ws).toArray := by simp
 by_cases hw : ws = []
 . exact concat_meets ⟨_, ho, rfl⟩ ⟨_, ho2, rfl⟩ noFill_tuple_add seq_tuple_add PySem.F.slot_tuple_add PySem.F.entry_tuple_add (PySem.F.args_tuple_add_2 _ _)
     (tuple_addW1 t b vs.toArray ws.toArray n n2 dd dd2 sl sl2 (by simpa using hv) (by simp [hw])) ⟨ho, ho2, h1 hw⟩
 . refine concat_meets ⟨_, ho, rfl⟩ ⟨_, ho2, rfl⟩ noFill_tuple_add seq_tuple_add PySem.F.slot_tuple_add PySem.F.entry_tuple_add (PySem.F.args_tuple_add_2 _ _)
     (tuple_addW2 t b vs.toArray ws.toArray n n2 dd dd2 sl sl2 (by simpa using hv) (by simpa using hw) (by rw [zs8, zs8]; exact hsz)) ⟨ho, ho2, ?_⟩
   rw [e]
   exact h2 hw
end
end HT
namespace L2
open PySem PySem.Spec PyProof.Rows
section
variable {X : Cx} {e : Expr} {te : TE} {lo hi : Option Expr} {tl th : TO} {pos p2 : Pos}
def rCatT (K : PySem.W.Frag) : R2 := fun x y H Q => ∃ a b xs ys, x = .ref a /\ y = .ref b /\ SqT K H a xs /\ SqT K H b ys /\ xs ≠ [] /\ xs.length + ys.length <= sizeLine /\
 (ys = [] -> Q (.ref a) H) /\ (ys ≠ [] -> ∀ p, H p = none -> Q (.ref p) (upd H p (.tup (xs ++ ys))))
theorem Vals.nil_iff {xs : List V} {us : List Value} (r : Vals xs us) : us = [] ↔ xs = [] := by
 cases r with
 | nil => simp
 | cons _ _ => simp
theorem zl9 : OpR X (binaryOp .Add) (rCatT X.K) := by
 intro pins s σ H x y v u Q I rx ry h
 obtain ⟨a, b, xs, ys, rfl, rfl, ha, hb, hx, hz, q1, q2⟩ := h
 cases rx
 cases ry
 obtain ⟨its, r1, p1, _⟩ := I.tuple ha
 obtain ⟨its2, r2, p2, _⟩ := I.tuple hb
 refine HT.zmO p1 p2 (fun z => hx (r1.nil_iff.mp z)) (fun z => ⟨.ref a, H, I, rfl, q1 (r2.nil_iff.mp z)⟩) (fun z => ?_) (by rw [<- r1.length, <- r2.length]; exact hz)
 refine ⟨.ref s.heap.objs.size, _, I.laid (t' := s.toks) (o := .tup (xs ++ ys)) (fun b ob q => zs1 _ q) (ztq _) ?_, rfl, q2 (fun w => z (r2.nil_iff.mpr w)) _ (I.hok.fresh (ztq _))⟩
 exact ⟨by rw [zs9]; exact hz, _, r1.append r2, IsTup.new _ _⟩
end
def ixN (n : Nat) (i : Int) : Option Nat := if 0 <= i then (if i < n then some i.toNat else none) else if -(n : Int) <= i then some (i + n).toNat else none
def atI {α : Type} (xs : List α) (i : Int) : Option α := (ixN xs.length i).bind fun j => xs[j]?
theorem ziL {n : Nat} {i : Int} {j : Nat} (h : ixN n i = some j) : seqIndex? i n = some j /\ j < n /\ -(n : Int) <= i /\ i < n := by
 unfold ixN at h
 by_cases h0 : 0 <= i
 . rw [if_pos h0] at h
   by_cases h1 : i < n
   . rw [if_pos h1] at h
     have e : i.toNat = j := Option.some.inj h
     exact ⟨by rw [seqIndex_of h0 h1, e], by omega, by omega, h1⟩
   . rw [if_neg h1] at h; cases h
 . rw [if_neg h0] at h
   by_cases h1 : -(n : Int) <= i
   . rw [if_pos h1] at h
     have e : (i + n).toNat = j := Option.some.inj h
     exact ⟨by rw [seqIndex_neg (by omega) h1, e], by omega, h1, by omega⟩
   . rw [if_neg h1] at h; cases h
theorem zgF {α : Type} {xs : List α} {i : Int} {v : α} (h : atI xs i = some v) : ∃ j, seqIndex? i xs.length = some j /\ xs[j]? = some v /\ j < xs.length /\ -(xs.length : Int) <= i /\ i < xs.length := by
 unfold atI at h
 cases e : ixN xs.length i with
 | none => rw [e] at h; cases h
 | some j =>
   rw [e] at h
   obtain ⟨h1, h2, h3, h4⟩ := ziL e
   exact ⟨j, h1, h, h2, h3, h4⟩
def zrk (b : Expr) : Prop := ∀ o i, subscripted b false o i = operate [o, i] (getItem o i)
def IxR (X : Cx) (r : R2) : Prop :=
 ∀ (value slice : Expr) (pins : List (Addr × Obj)) (s : Shared) (σ : St) (H : Hp) (x y : V) (v u : Value) (Q : VK), Inv X pins σ H s -> RelV x v -> RelV y u -> r x y H Q ->
   subscripted slice false v u = operate [v, u] (getItem v u) -> wpAny (model X.prog X.w) X.A (subscriptTail value slice v u) (EP X pins σ Q) X.xe s
def MtR (X : Cx) (id : String) (r : V -> List V -> Hp -> VK -> Prop) : Prop :=
 ∀ (pins : List (Addr × Obj)) (s : Shared) (σ : St) (H : Hp) (x : V) (xs : List V) (v : Value) (us : List Value) (Q : VK), Inv X pins σ H s -> RelV x v -> Vals xs us -> r x xs H Q ->
   wpAny (model X.prog X.w) X.A (call (.builtin id) (v :: us)) (EP X pins σ Q) X.xe s
section
variable {X : Cx} {a b : Expr} {ta tb : TE} {pos : Pos}
theorem znP {r : R2} (hr : IxR X r) (ha : PE X a ta) (hb : PE X b tb) (hs : zrk b) : PE X (.Subscript a b pos) (tOp r ta tb) := by
 intro pins s σ H Q I h
 exact Subscript_ (binT ha hb I h fun v u s2 x y H2 I2 rx ry q => hr a b pins s2 σ H2 x y v u Q I2 rx ry q (hs _ _))
def rIxL (K : PySem.W.Frag) : R2 := fun x y H Q => ∃ p xs i v, x = .ref p /\ y = .int i /\ SqL K H p xs /\ atI xs i = some v /\ Q v H
def rIxT (K : PySem.W.Frag) : R2 := fun x y H Q => ∃ p xs i v, x = .ref p /\ y = .int i /\ SqT K H p xs /\ atI xs i = some v /\ Q v H
def rIxS : R2 := fun x y H Q => ∃ z i c, x = .str z /\ y = .int i /\ z.length <= sizeLine /\ atI z.cps.toList i = some c /\ Q (.str ⟨#[c]⟩) H
theorem zgo : IxR X (rIxL X.K) := by
 intro value slice pins s σ H x y v u Q I rx ry h hs
 obtain ⟨p, xs, i, z, rfl, rfl, hq, he, q⟩ := h
 cases rx
 obtain ⟨t, rfl⟩ := ry
 obtain ⟨its, r, pl, hz⟩ := I.list hq
 obtain ⟨j, h1, h2, h3, h4, h5⟩ := zgF he
 obtain ⟨w, ew, rw'⟩ := r.get h2
 have hl := r.length
 have hn := zqy
 have fin : EP X pins σ Q w s := ⟨z, H, I, rw', q⟩
 by_cases h0 : 0 <= i
 . have hj : i.toNat = j := by
     rw [seqIndex_of h0 h5] at h1
     exact Option.some.inj h1
   exact item_listR pl.isList h0 (by omega) (by rw [hj]; simpa using ew) fin hs
 . have hj : (i + (its.toArray.size : Int)).toNat = j := by
     rw [seqIndex_neg (by omega) h4] at h1
     rw [zs8, <- hl]
     exact Option.some.inj h1
   exact subscriptTail_builtinR (x := w) pl.isList.typeIs slot_list_getitem.lookup
     (wpAny_getItem_list_neg (Q := fun r s' => r = w /\ EP X pins σ Q r s') pl.isList (by omega) (by rw [zs8] <;> omega) (by omega) (by rw [hj]; simpa using ew) ⟨rfl, fin⟩) hs
theorem zoe : IxR X (rIxT X.K) := by
 intro value slice pins s σ H x y v u Q I rx ry h hs
 obtain ⟨p, xs, i, z, rfl, rfl, hq, he, q⟩ := h
 cases rx
 obtain ⟨t, rfl⟩ := ry
 obtain ⟨its, r, pl, hz⟩ := I.tuple hq
 obtain ⟨j, h1, h2, h3, h4, h5⟩ := zgF he
 obtain ⟨w, ew, rw'⟩ := r.get h2
 have hl := r.length
 have hn := zqy
 have fin : EP X pins σ Q w s := ⟨z, H, I, rw', q⟩
 exact subscriptTail_builtinR (x := w) pl.typeIs slot_tuple_getitem.lookup
   (getItem_tuple (j := j) (Q := fun r s' => r = w /\ EP X pins σ Q r s') pl (by omega) (by omega) (by rw [zs8, <- hl]; exact h1) (by simpa using ew) ⟨rfl, fin⟩) hs
theorem zof : IxR X rIxS := by
 intro value slice pins s σ H x y v u Q I rx ry h hs
 obtain ⟨z, i, c, rfl, rfl, hz, he, q⟩ := h
 obtain ⟨t, rfl⟩ := rx
 obtain ⟨t', rfl⟩ := ry
 obtain ⟨j, h1, h2, h3, h4, h5⟩ := zgF he
 have hl : z.cps.toList.length = z.length := by simp [Str.length]
 rw [hl] at h1 h4 h5
 have hn := zqy
 exact tail_any (typeIs_str s z t) slot_str_getitem.lookup (getItem_str (c := c) (by
   have e1 : decide (i < -(2 ^ 63 : Int)) = false := decide_eq_false (by omega)
   have e2 : decide (i ≥ 2 ^ 63) = false := decide_eq_false (by omega)
   rw [e1, e2, Bool.or_false]) (by rw [h1]; simpa using h2) ⟨.str ⟨#[c]⟩, H, I.tok _, ⟨_, rfl⟩, q⟩) hs
theorem zhB (its : List Value) (n j : Nat) (u : Value) : Obj.mapSeq (·.setIfInBounds j u) { cls := .type "list", data := .seq its.toArray n } = { cls := .type "list", data := .seq (its.set j u).toArray n } := by
 simp [Obj.mapSeq]
theorem Inv.lst {pins : List (Addr × Obj)} {σ : St} {H : Hp} {s : Shared} {p : Addr} {xs : List V} (I : Inv X pins σ H s) (h : H p = some (.lst xs)) :
   ∃ (its : List Value) (n : Nat), Vals xs its /\ s.heap.get? p = some { cls := .type "list", data := .seq its.toArray n } /\ xs.length <= sizeLine := by
 obtain ⟨z, its, n, r, e⟩ := I.hok p _ h
 exact ⟨its, n, r, e, z⟩
theorem Inv.lstUpd {pins : List (Addr × Obj)} {σ : St} {H : Hp} {s : Shared} {p : Addr} {xs ys : List V} {its its' : List Value} {n n' : Nat} {f : Obj -> Obj} (I : Inv X pins σ H s) (h : H p = some (.lst xs))
   (ho : s.heap.get? p = some { cls := .type "list", data := .seq its.toArray n }) (hf : f { cls := .type "list", data := .seq its.toArray n } = { cls := .type "list", data := .seq its'.toArray n' }) (r : Vals ys its') (hz : ys.length <= sizeLine) (t : Nat) :
   Inv X pins σ (upd H p (.lst ys)) { s with heap := s.heap.update p f, toks := t } := by
 have e : (s.heap.update p f).get? p = some { cls := .type "list", data := .seq its'.toArray n' } := by
   rw [Heap.get?_update_self f ho (by rw [hf] <;> rfl), hf]
 refine I.write (x := p) (e := p) (by rw [h]; trivial) (.inl rfl) (fun b u hb q => (Heap.get?_update_other _ _ (Ne.symm hb)).trans q) ⟨_, e⟩ ?_
 exact ⟨hz, its', n', r, e⟩
def rSetL : V -> V -> V -> Hp -> (Hp -> Prop) -> Prop := fun o i v H Q => ∃ p xs k j, o = .ref p /\ i = .int k /\ H p = some (.lst xs) /\ ixN xs.length k = some j /\ Q (upd H p (.lst (xs.set j v)))
theorem zjV : PSet X rSetL := by
 intro pins s σ H o i v ov iv u Q I ro ri rv h
 obtain ⟨p, xs, k, j, rfl, rfl, hp, hj, q⟩ := h
 cases ro
 obtain ⟨t, rfl⟩ := ri
 obtain ⟨its, n, r, ho, hz⟩ := I.lst hp
 obtain ⟨h1, h2, h3, h4⟩ := ziL hj
 have hl := r.length
 have hn := zqy
 have I' : Inv X pins σ (upd H p (.lst (xs.set j v))) { s with heap := s.heap.update p (Obj.mapSeq (·.setIfInBounds j u)) } :=
   I.lstUpd hp ho (zhB its n j u) (r.set rv j) (by rw [List.length_set]; exact hz) s.toks
 by_cases h0 : 0 <= k
 . have hk : k.toNat = j := by
     rw [seqIndex_of h0 h4] at h1
     exact Option.some.inj h1
   exact PySem.W.ki_setAt ho h0 (by omega) (by rw [zs8, <- hl]; exact h4) (by rw [hk]; exact ⟨_, I', q⟩)
 . have hk : (k + (its.toArray.size : Int)).toNat = j := by
     rw [seqIndex_neg (by omega) h3] at h1
     rw [zs8, <- hl]
     exact Option.some.inj h1
   exact PySem.W.ki_setBack ho (by omega) (by rw [zs8, <- hl]; exact h3) (by omega) (by rw [hk]; exact ⟨_, I', q⟩)
theorem zeb : zpS X (.builtin "len") (fun xs H Q => ∃ p ys, xs = [.ref p] /\ (SqL X.K H p ys \/ SqT X.K H p ys) /\ Q (.int ys.length) H) := by
 intro pins s σ H xs us Q I r h
 obtain ⟨p, ys, rfl, hq, q⟩ := h
 obtain ⟨u, rfl, rx⟩ := zqm r
 cases rx
 have hn := zqy
 rcases hq with hq | hq
 . obtain ⟨its, r', pl, hz⟩ := I.list hq
   have hlen := r'.length
   exact Calls.call_len_list pl.isList (by simp only [zs8] <;> omega) ⟨.int ys.length, H, I.tok _, ⟨s.toks + 1, by rw [zs8, hlen]⟩, q⟩
 . obtain ⟨its, r', pl, hz⟩ := I.tuple hq
   have hlen := r'.length
   exact len_tuple pl (by simp only [zs8] <;> omega) ⟨.int ys.length, H, I.tok _, ⟨s.toks + 1, by rw [zs8, hlen]⟩, q⟩
theorem zfT : zpS X (.builtin "len") (fun xs H Q => ∃ z, xs = [.str z] /\ z.length <= sizeLine /\ Q (.int z.length) H) := by
 intro pins s σ H xs us Q I r h
 obtain ⟨z, rfl, hz, q⟩ := h
 obtain ⟨u, rfl, t, rfl⟩ := zqm r
 have hn := zqy
 exact len_str (by omega) ⟨.int z.length, H, I.tok _, ⟨_, rfl⟩, q⟩
theorem zea : zpS X (.type "list") (fun xs H Q => ∃ p ys, xs = [.ref p] /\ (SqL X.K H p ys \/ SqT X.K H p ys) /\ ∀ l, H l = none -> Q (.ref l) (upd H l (.lst ys))) := by
 intro pins s σ H xs us Q I r h
 obtain ⟨p, ys, rfl, hq, q⟩ := h
 obtain ⟨u, rfl, rx⟩ := zqm r
 cases rx
 have fin : ∀ (its : List Value), Vals ys its -> ys.length <= sizeLine -> ∀ (h' : Heap) (c' : Nat), (∀ b o', s.heap.get? b = some o' -> h'.get? b = some o') ->
     h'.get? s.heap.objs.size = some { cls := .type "list", dict := none, data := .seq its.toArray c', slots := #[] } -> EP X pins σ Q (.ref s.heap.objs.size) { s with heap := h' } := fun its r' hz h' c' kp e =>
   ⟨.ref s.heap.objs.size, _, I.laid (t' := s.toks) kp (ztq _) (show ObjOk X.prog X.w _ h' _ (.lst ys) from ⟨hz, its, c', r', e⟩), rfl, q _ (I.hok.fresh (ztq _))⟩
 rcases hq with hq | hq
 . obtain ⟨its, r', pl, hz⟩ := I.list hq
   have hlen := r'.length
   obtain ⟨o, ho, hc, n, hd⟩ := pl.isList
   exact call_list_seq p (.inl rfl) ho hc hd (fun h' c' kp e => fin its r' hz h' c' kp e) (by simp only [zs8] <;> omega)
 . obtain ⟨its, r', pl, hz⟩ := I.tuple hq
   have hlen := r'.length
   obtain ⟨o, ho, hc, n, hd⟩ := pl
   exact call_list_seq p (.inr rfl) ho hc hd (fun h' c' kp e => fin its r' hz h' c' kp e) (by simp only [zs8] <;> omega)
theorem zdH : zpS X (.type "tuple") (fun xs H Q => ∃ p ys, xs = [.ref p] /\ ((SqL X.K H p ys /\ ∀ l, H l = none -> Q (.ref l) (upd H l (.tup ys))) \/ (SqT X.K H p ys /\ Q (.ref p) H))) := by
 intro pins s σ H xs us Q I r h
 obtain ⟨p, ys, rfl, h⟩ := h
 obtain ⟨u, rfl, rx⟩ := zqm r
 cases rx
 rcases h with ⟨hq, q⟩ | ⟨hq, q⟩
 . obtain ⟨its, r', pl, hz⟩ := I.list hq
   have hlen := r'.length
   refine call_tuple_list pl.isList (fun h' kp => ?_) (by simp only [zs8] <;> omega)
   have I1 : Inv X pins σ H { s with heap := h' } := I.kept (t' := s.toks) kp
   have I2 : Inv X pins σ (upd H h'.objs.size (.tup ys)) { s with heap := h'.push { cls := .type "tuple", data := .seq its.toArray } } :=
     I1.laid (t' := s.toks) (fun b o e => zs1 _ e) (ztq _) (show ObjOk X.prog X.w _ _ _ (.tup ys) from ⟨hz, its, r', IsTup.new _ _⟩)
   exact ⟨.ref h'.objs.size, _, I2, rfl, q _ (I1.hok.fresh (ztq _))⟩
 . obtain ⟨its, r', pl, hz⟩ := I.tuple hq
   exact call_tuple_same pl ⟨.ref p, H, I, rfl, q⟩
def tyV (K : PySem.W.Frag) (T : String) (x : V) (H : Hp) : Prop := match x with
 | .str _ => T = "str"
 | .int _ => T = "int"
 | .ref p => (T = "list" /\ ∃ xs, SqL K H p xs) \/ (T = "tuple" /\ ∃ o, K.lookup p = some o /\ o.cls = .type "tuple" /\ o.dict = none) \/
     (T = "dict" /\ ((∃ kvs, H p = some (.dK kvs)) \/ ∃ kvs, H p = some (.dT kvs))) \/ (T = "set" /\ ∃ S n, H p = some (.set S n))
 | _ => False
theorem zkK {pins : List (Addr × Obj)} {σ : St} {H : Hp} {s : Shared} {T : String} {x : V} {v : Value} (I : Inv X pins σ H s) (r : RelV x v) (ty : tyV X.K T x H) :
   s.TypeIs v T /\ ∀ a, v = .ref a -> ∃ ob, s.heap.get? a = some ob /\ ob.dict = none := by
 cases x with
 | str z =>
   obtain ⟨t, rfl⟩ := r
   cases (show T = "str" from ty)
   exact ⟨typeIs_str s z t, fun _ e => nomatch e⟩
 | int i =>
   obtain ⟨t, rfl⟩ := r
   cases (show T = "int" from ty)
   exact ⟨typeIs_int s i t, fun _ e => nomatch e⟩
 | ref p =>
   cases r
   rcases ty with ⟨rfl, xs, hq⟩ | ⟨rfl, o, hk, hc, hd⟩ | ⟨rfl, hk⟩ | ⟨rfl, S, n, hk⟩
   . obtain ⟨its, _, pl, _⟩ := I.list hq
     refine ⟨pl.isList.typeIs, fun a e => ?_⟩
     cases e
     obtain ⟨o, n, e, c, hd, _⟩ := pl
     exact ⟨o, e, hd⟩
   . refine ⟨⟨o, I.kIn p o hk, hc⟩, fun a e => ?_⟩
     cases e
     exact ⟨o, I.kIn _ o hk, hd⟩
   . have z : ∃ o, s.heap.get? p = some o /\ o.ExactDict := by
       rcases hk with ⟨kvs, hk⟩ | ⟨kvs, hk⟩
       . obtain ⟨_, _, _, _, o, _, _, e, ex, _⟩ := I.hok p _ hk
         exact ⟨o, e, ex⟩
       . obtain ⟨_, _, _, _, o, _, _, e, ex, _⟩ := I.hok p _ hk
         exact ⟨o, e, ex⟩
     obtain ⟨o, e, ex⟩ := z
     refine ⟨⟨o, e, ex.1⟩, fun a e2 => ?_⟩
     cases e2
     exact ⟨o, e, ex.2.1⟩
   . obtain ⟨o, _, _, _, e, ex, _⟩ := I.hok p _ hk
     refine ⟨⟨o, e, ex.1⟩, fun a e2 => ?_⟩
     cases e2
     exact ⟨o, e, ex.2.1⟩
 | _ => exact False.elim ty
def tBM0 (K : PySem.W.Frag) (T : String) (r : V -> List V -> Hp -> VK -> Prop) (to : TE) : TE := fun σ H Q => to σ H fun x H1 => tyV K T x H1 /\ r x [] H1 Q
def tBM (K : PySem.W.Frag) (T : String) (r : V -> List V -> Hp -> VK -> Prop) (to : TE) (t : TA) : TE := fun σ H Q => to σ H fun x H1 => tyV K T x H1 /\ t σ H1 fun xs H2 => r x xs H2 Q
variable {o e : Expr} {es : List Expr} {to : TE} {t : TA} {name : Str} {apos cpos : Pos} {T id : String} {r : V -> List V -> Hp -> VK -> Prop}
theorem znQ (pa : PlainAttrs T) (slot : Slot T name id) (hty : typeOf (.builtin id) = pure (.type "method_descriptor")) (hm : MtR X id r) (ho : PE X o to)
   (hbase : attributeBase o name X.env (eval o X.env) = eval o X.env := by rfl) (hline : (apos.endLine == cpos.line) = true := by rfl) : PE X (.Call (.Attribute o name apos) [] [] cpos) (tBM0 X.K T r to) := by
 intro pins s σ H Q I h
 refine wpAny_Call_method0_late hbase hline (thn (ho pins s σ H _ I h) fun v s1 ⟨x, H1, I1, r1, ty, q1⟩ => ?_)
 obtain ⟨h1, h2⟩ := zkK I1 r1 ty
 exact ⟨T, id, pa, slot, hty, h1, h2, Calls.callWith_builtin rfl (PySem.evalArgs_none (hm pins s1 σ H1 x [] v [] Q I1 r1 .nil q1))⟩
theorem zlQ (pa : PlainAttrs T) (slot : Slot T name id) (hty : typeOf (.builtin id) = pure (.type "method_descriptor")) (hm : MtR X id r) (ho : PE X o to) (ha : PA X (e :: es) t)
   (hbase : attributeBase o name X.env (eval o X.env) = eval o X.env := by rfl)
   (hfew : ((backTo cpos (starEach (e :: es) X.env)).all (fun x => !x.1) && (backToKw cpos (keywordEach [] X.env)).all (fun x => x.1.isSome)
     && decide ((e :: es).length + ([] : List Keyword).length + (if ([] : List Keyword).isEmpty then 0 else 1) < 30)) = true := by rfl)
   (hline : (apos.endLine == cpos.line) = true := by rfl) (hs : starEach (e :: es) X.env = (false, eval e X.env) :: starEach es X.env := by rfl) (hplain : (backTo cpos (starEach es X.env)).any (·.1) = false := by rfl) :
   PE X (.Call (.Attribute o name apos) (e :: es) [] cpos) (tBM X.K T r to t) := by
 intro pins s σ H Q I h
 refine wpAny_Call_method_late hbase hfew hline rfl (thn (ho pins s σ H _ I h) fun v s1 ⟨x, H1, I1, r1, ty, q1⟩ => ?_)
 obtain ⟨h1, h2⟩ := zkK I1 r1 ty
 refine ⟨T, id, pa, slot, hty, h1, h2, ?_⟩
 have hA := ha cpos pins s1 σ H1 _ I1 q1
 rw [hs] at hA ⊢
 refine Calls.callWith_builtin (by show (false || (backTo cpos (starEach es X.env)).any (·.1)) = false; rw [hplain] <;> rfl) (Calls.evalArgs_plain ?_)
 exact thn hA fun us s2 ⟨vs, H2, I2, r2, q2⟩ => hm pins s2 σ H2 x vs v us Q I2 r1 r2 q2
end
def MtM (X : Cx) (id : String) (r : V -> List V -> Hp -> VK -> Prop) : Prop :=
 ∀ (pins : List (Addr × Obj)) (s : Shared) (σ : St) (H : Hp) (x : V) (xs : List V) (v : Value) (us : List Value) (Q : VK), Inv X pins σ H s -> RelV x v -> Vals xs us -> r x xs H Q ->
   wpAny (model X.prog X.w) X.A (call (.builtin id) (v :: us)) (EP X pins σ Q) X.xe s
theorem Vals.one : ∀ {x : V} {us : List Value}, Vals [x] us -> ∃ u, us = [u] /\ RelV x u
 | _, _, .cons r .nil => ⟨_, rfl, r⟩
theorem Vals.zero : ∀ {us : List Value}, Vals [] us -> us = []
 | _, .nil => rfl
theorem Vals.dropLast {xs : List V} {us : List Value} (h : Vals xs us) : Vals xs.dropLast us.dropLast := by
 induction h with
 | nil => exact .nil
 | cons r t ih =>
   cases t with
   | nil => exact .nil
   | cons q t' => exact .cons r ih
theorem Vals.eraseIdx : ∀ {xs : List V} {us : List Value} (i : Nat), Vals xs us -> Vals (xs.eraseIdx i) (us.eraseIdx i)
 | _, _, _, .nil => .nil
 | _, _, 0, .cons _ t => t
 | _, _, i + 1, .cons r t => .cons r (Vals.eraseIdx i t)
theorem Vals.reverse {xs : List V} {us : List Value} (h : Vals xs us) : Vals xs.reverse us.reverse := by
 induction h with
 | nil => exact .nil
 | cons r t ih => rw [List.reverse_cons, List.reverse_cons]; exact Vals.append ih (.cons r .nil)
theorem zhF {α : Type} (l : List α) : l.eraseIdx (l.length - 1) = l.dropLast := by
 induction l with
 | nil => rfl
 | cons a r ih =>
   cases r with
   | nil => rfl
   | cons b r =>
     have e : (a :: b :: r).length - 1 = ((b :: r).length - 1) + 1 := by
       have h1 : (a :: b :: r).length = r.length + 2 := rfl
       have h2 : (b :: r).length = r.length + 1 := rfl
       omega
     rw [e, List.eraseIdx_cons_succ, ih]
     all_goals rfl
theorem zfF {α : Type} : ∀ (l : List α) (i : Nat), (l.eraseIdx i).length <= l.length
 | [], _ => ztq _
 | _ :: _, 0 => Nat.le_succ _
 | _ :: r, i + 1 => Nat.succ_le_succ (zfF r i)
section
variable {X : Cx} {pins : List (Addr × Obj)} {σ : St} {H : Hp} {s : Shared} {l b : Addr} {xs ys zs : List V}
theorem Inv.lset {its its' : List Value} {n : Nat} {f : Array Value -> Array Value} {t' : Nat} (I : Inv X pins σ H s) (hH : H l = some (.lst xs))
   (e : s.heap.get? l = some { cls := .type "list", data := .seq its.toArray n }) (hf : f its.toArray = its'.toArray) (hv : Vals ys its') (hz : ys.length <= sizeLine) :
   Inv X pins σ (upd H l (.lst ys)) { s with heap := s.heap.update l (Obj.mapSeq f), toks := t' } := by
 have q := PySem.IsL.update e f
 rw [hf] at q
 refine I.write (x := l) (e := l) (by rw [hH]; exact trivial) (.inl rfl) (fun b' u hb hu => (Heap.get?_update_other s.heap (Obj.mapSeq f) (Ne.symm hb)).trans hu) ⟨_, q⟩ ?_
 exact ⟨hz, its', _, hv, q⟩
theorem Inv.lnew {its : List Value} {t' : Nat} (I : Inv X pins σ H s) (hv : Vals ys its) (hz : ys.length <= sizeLine) :
   Inv X pins σ (upd H s.heap.objs.size (.lst ys)) { s with heap := s.heap.push { cls := .type "list", data := .seq its.toArray }, toks := t' } :=
 I.laid (fun _ _ q => zs1 _ q) (ztq _) ⟨hz, its, 0, hv, ztk _ rfl⟩
theorem Inv.fresh (I : Inv X pins σ H s) : H s.heap.objs.size = none := I.hok.fresh (ztq _)
theorem Inv.lstM (I : Inv X pins σ H s) (hH : H l = some (.lst xs)) : xs.length <= sizeLine /\ ∃ (its : List Value) (n : Nat), Vals xs its /\ xs.length = its.length /\ s.heap.get? l = some { cls := .type "list", data := .seq its.toArray n } := by
 obtain ⟨z, its, n, r, e⟩ := I.hok l _ hH
 exact ⟨z, its, n, r, r.length, e⟩
end
section
variable {X : Cx}
def rAppend : V -> List V -> Hp -> VK -> Prop := fun x vs H Q => ∃ l xs y, x = .ref l /\ vs = [y] /\ H l = some (.lst xs) /\ xs.length < sizeLine /\ Q .non (upd H l (.lst (xs ++ [y])))
theorem ziy : MtM X "list.append" rAppend := by
 intro pins s σ H x vs v us Q I rx rv h
 obtain ⟨l, xs, y, rfl, rfl, hH, hz, q⟩ := h
 cases rx
 obtain ⟨u, rfl, ru⟩ := rv.one
 obtain ⟨z, its, n, r, hl, e⟩ := I.lstM hH
 refine call_meets F.slot_list_append ⟨_, e, rfl⟩ F.entry_list_append (F.args_list_append_2 _ _) (PySem.list_append l its.toArray n u (by rw [zs8]; omega)) ⟨e, ?_⟩
 refine ⟨.non, _, I.lset (its' := its ++ [u]) hH e (by simp) (r.append (.cons ru .nil)) ?_, rfl, q⟩
 rw [zs9, List.length_singleton]
 omega
def rPop : V -> List V -> Hp -> VK -> Prop := fun x vs H Q => ∃ l xs y, x = .ref l /\ vs = [] /\ H l = some (.lst xs) /\ xs[xs.length - 1]? = some y /\ Q y (upd H l (.lst xs.dropLast))
theorem zn3 : MtM X "list.pop" rPop := by
 intro pins s σ H x vs v us Q I rx rv h
 obtain ⟨l, xs, y, rfl, rfl, hH, hy, q⟩ := h
 cases rx
 have hus := rv.zero
 subst hus
 obtain ⟨z, its, n, r, hl, e⟩ := I.lstM hH
 obtain ⟨u, hu, ru⟩ := r.get hy
 have hy' : its.toArray[its.toArray.size - 1]? = some u := by
   show its.toArray[its.length - 1]? = some u
   rw [<- Array.getElem?_toList, <- hl]
   exact hu
 refine call_meets F.slot_list_pop ⟨_, e, rfl⟩ F.entry_list_pop (F.args_list_pop_1 _) (MeetsSeq.list_pop_last l its.toArray n u hy' (by rw [zs8]; omega)) ⟨e, ?_⟩
 refine ⟨y, _, I.lset (its' := its.dropLast) hH e ?_ r.dropLast ?_, ru, q⟩
 . show its.toArray.eraseIdxIfInBounds (its.toArray.size - 1) = its.dropLast.toArray
   rw [zs8, List.eraseIdxIfInBounds_toArray, zhF]
 . rw [List.length_dropLast]
   omega
def rPopAt : V -> List V -> Hp -> VK -> Prop := fun x vs H Q => ∃ l xs i k y, x = .ref l /\ vs = [.int i] /\ H l = some (.lst xs) /\ -(2 ^ 63) <= i /\ i < 2 ^ 63 /\ seqIndex? i xs.length = some k /\ xs[k]? = some y /\ Q y (upd H l (.lst (xs.eraseIdx k)))
theorem zke : MtM X "list.pop" rPopAt := by
 intro pins s σ H x vs v us Q I rx rv h
 obtain ⟨l, xs, i, k, y, rfl, rfl, hH, h1, h2, hk, hy, q⟩ := h
 cases rx
 obtain ⟨u, rfl, ru⟩ := rv.one
 obtain ⟨t, rfl⟩ := ru
 obtain ⟨z, its, n, r, hl, e⟩ := I.lstM hH
 obtain ⟨w, hw, rw'⟩ := r.get hy
 refine call_meets F.slot_list_pop ⟨_, e, rfl⟩ F.entry_list_pop (F.args_list_pop_2 _ _)
   (MeetsSeq.list_pop_at l its.toArray n i t k w (fitsIndex_both h1 h2) (by rw [zs8, <- hl]; exact hk) (by rw [<- Array.getElem?_toList]; exact hw) (by rw [zs8]; omega)) ⟨e, ?_⟩
 refine ⟨y, _, I.lset (its' := its.eraseIdx k) hH e ?_ (r.eraseIdx k) ?_, rw', q⟩
 . show its.toArray.eraseIdxIfInBounds k = (its.eraseIdx k).toArray
   rw [List.eraseIdxIfInBounds_toArray]
 . have := zfF xs k
   omega
def rReverse : V -> List V -> Hp -> VK -> Prop := fun x vs H Q => ∃ l xs, x = .ref l /\ vs = [] /\ H l = some (.lst xs) /\ Q .non (upd H l (.lst xs.reverse))
theorem zhx : MtM X "list.reverse" rReverse := by
 intro pins s σ H x vs v us Q I rx rv h
 obtain ⟨l, xs, rfl, rfl, hH, q⟩ := h
 cases rx
 have hus := rv.zero
 subst hus
 obtain ⟨z, its, n, r, hl, e⟩ := I.lstM hH
 refine call_meets F.slot_list_reverse ⟨_, e, rfl⟩ F.entry_list_reverse (F.args_list_reverse_1 _) (AutoSeq1.list_reverse_list_0 l its.toArray n (by rw [zs8]; omega)) ⟨e, ?_⟩
 refine ⟨.non, _, I.lset (its' := its.reverse) hH e (by simp) r.reverse ?_, rfl, q⟩
 rw [List.length_reverse]
 omega
def rCat : R2 := fun x y H Q => ∃ l b xs zs, x = .ref l /\ y = .ref b /\ H l = some (.lst xs) /\ H b = some (.lst zs) /\ xs.length + zs.length <= sizeLine /\ ∀ p, H p = none -> Q (.ref p) (upd H p (.lst (xs ++ zs)))
theorem znW : OpR X (binaryOp .Add) rCat := by
 intro pins s σ H x y v u Q I rx ry h
 obtain ⟨l, b, xs, zs, rfl, rfl, hH, hB, hz, q⟩ := h
 cases rx
 cases ry
 obtain ⟨z, its, n, r, hl, e⟩ := I.lstM hH
 obtain ⟨z2, its2, n2, r2, hl2, e2⟩ := I.lstM hB
 refine PySem.P.add_list e e2 ?_ (by rw [zs8, zs8]; omega)
 have ea : its.toArray ++ its2.toArray = (its ++ its2).toArray := by simp
 rw [ea]
 exact ⟨.ref _, _, I.lnew (t' := s.toks) (r.append r2) (by rw [zs9]; omega), rfl, q _ I.fresh⟩
end
section
variable {prog : Program} {w : World} {A : Around} {E : Value -> Shared -> Prop} {s : Shared}
end
section
variable {X : Cx}
end
end L2
namespace Att
open PySem PySem.W PySem.Calls PyProof.Rows
theorem zeM {P : Params} {h : Heap} : ∀ (ns : List Int) (vs : List Value), WellAll P h vs (ns.map WData.int) -> IntsAre vs ns := by
 intro ns
 induction ns with
 | nil =>
   intro vs w
   rw [List.map_nil] at w
   cases w
   exact .nil
 | cons n ns ih =>
   intro vs w
   rw [ztJ] at w
   cases w with
   | cons a b =>
     cases a
     exact .cons _ _ (ih _ b)
theorem zh6 {l : OpenLaw} {n : Nat} (hn : l.most = some n) {P : Params} {h : Heap} {args : List WData} {vals : List Value}
   (hpre : l.row.toRowW.claim.pre args = true) (hwl : WellAll P h vals args) :
   ∃ a vs ns, vals = [Value.ref a] /\ args = [WData.list (ns.map WData.int)] /\ h.get? a = some { cls := .type "list", data := .seq vs.toArray } /\ IntsAre vs ns /\ ns.length <= n := by
 have hsh : WShape.hasAll [] args [.list .int] = true := (pre_splitW hpre).1
 have hc : l.pre.holds [] { args := args } = true := (pre_splitW hpre).2
 obtain ⟨d, r, rfl, h1, h2⟩ := hasAllW_cons hsh
 obtain rfl := hasAllW_nil h2
 obtain ⟨xs, rfl, h3⟩ := hasW_list h1
 obtain ⟨ns, rfl⟩ := items_int h3
 have hlen : ns.length <= n := by
   unfold OpenLaw.pre at hc
   have h4 : (WTm.not (.lt (.lit (.int (n : Int))) (.len (.arg 0)))).holds [] { args := [.list (ns.map .int)] } = true := by
     have h4 := (holds_andW hc).1
     rw [hn] at h4
     exact h4
   have h5 := condW_of h4 (w_not (w_lt w_lit (w_len_list (w_arg rfl))))
   rw [zs7] at h5
   refine Nat.le_of_not_lt fun q => ?_
   have q' : (n : Int) < ((ns.length : Nat) : Int) := by omega
   first
     | (rw [decide_eq_true q'] at h5; exact absurd h5 (by decide))
     | (simp at h5; omega)
 cases hwl with
 | cons w1 w2 =>
   cases w2
   cases w1 with
   | list ho hall => exact ⟨_, _, ns, rfl, rfl, ho, zeM ns _ hall, hlen⟩
theorem zid (l : OpenLaw) (args : List WData) : l.row.toRowW.claim.post args (.bool true) args = true :=
 postW_of (r := l.row.toRowW) (X := (true == true))
   (show WShape.has [] (.bool true) .bool = true by first | rfl | decide | simp [WShape.has, WShape.arms, WShape.armsAll])
   (show (WTm.eq .res (.lit (.bool true))).value [] { args := args, res := some (.bool true), after := args } = some (.bool (true == true)) from w_eq_bool (w_res rfl) w_lit) rfl
theorem zgD {l : OpenLaw} {n : Nat} {q : Program} {loose : List Str} {XP : (Str -> Option Value) -> Heap -> Prop} {YP : World -> Heap -> Prop} {d : DefRec}
   (hn : l.most = some n) (hdf : d.params.defaults = [])
   (call : ∀ (w : World) (s₀ s₁ : Shared) (mg mb : Str -> Option Value) (fa : Addr) (o : Obj) (pm cd doc : Value) (a : Addr) (vs : List Value) (ns : List Int),
     Ground q loose [] XP w s₀ mg mb s₁.heap -> YP w s₁.heap ->
     s₁.heap.get? fa = some o -> o.data = .func (docDef d.name d.params d.body d.scope pm cd doc) -> s₁.heap.CodeRec cd d.name -> mg d.name = some (.ref fa) ->
     s₁.heap.get? a = some { cls := .type "list", data := .seq vs.toArray } -> IntsAre vs ns -> ns.length <= n -> s₁.gens = #[] ->
     codeAny (model l.prog w) callerA (.call (.ref fa) ⟨[.ref a], []⟩) (fun r s' => r = .ok (.ret (.bool true)) /\ OldK s₁.heap s'.heap /\ s'.os = s₁.os /\ AllBare s'.gens) s₁) :
   WalkO q loose XP YP l.row.toRowW d [] (fun f vs => PySem.call f vs) := by
 intro w s₀ s₁ mg mb G Y fa o pm cd doc dV kV ho hd hcd hD hmg hg args vals as hpre hlay hrd hwl hlo
 obtain rfl : dV = .none := Dflts.none hD hdf
 obtain rfl : kV = .none := Dflts.noKw hD
 obtain ⟨a, vs, ns, rfl, rfl, hobj, hints, hlen⟩ := zh6 hn hpre hwl
 refine enter_call (codeAny_mono (call w s₀ s₁ mg mb fa o pm cd doc a vs ns G Y ho (fd_plain hd) hcd hmg hobj hints hlen hg) fun r s' hq => ?_)
 obtain ⟨rfl, h2, h3, h4⟩ := hq
 exact ⟨.inl ⟨.bool true, .bool true, [], rfl, fun _ => rfl, .bool true, zid l _, fun _ => ⟨List.Pairwise.nil, fun _ hm => (nomatch hm)⟩⟩, h2, h3, h4⟩
section
variable {prog : Program} {w : World} {A : Around} {E : Value -> Shared -> Prop} {s : Shared} {K : Frag}
end
end Att
namespace L2
open PySem PySem.Spec PyProof.Rows
theorem zfy : ∀ {vs : List Value} {ns : List Int}, IntsAre vs ns -> Vals (ns.map V.int) vs
 | _, _, .nil => .nil
 | _, _, .cons n t h => .cons ⟨t, rfl⟩ (zfy h)
def zp4 (s : Stmt) : Arguments := match s with
 | .FunctionDef _ a _ _ _ _ _ _ _ _ => a
 | _ => { posonlyargs := [], args := [], vararg := none, kwonlyargs := [], kw_defaults := [], kwarg := none, defaults := [] }
def zpN (s : Stmt) : List Stmt := match s with
 | .FunctionDef _ _ b _ _ _ _ _ _ _ => b
 | _ => []
def zpB (s : Stmt) : Scope := match s with
 | .FunctionDef _ _ _ _ _ _ sc _ _ _ => sc
 | _ => { kind := .function, names := [], isGenerator := false, isCoroutine := false }
abbrev CX0 : CXT := fun _ _ _ _ _ _ => False
abbrev E0 : XK := fun _ _ _ => False
theorem pass0 {X : Cx} : zrn CX0 X E0 := fun _ _ _ _ _ _ _ h => h.elim
structure Fun (K : PySem.W.Frag) (x qual : Str) (st : Stmt) (f : Addr) (fd : FuncData) : Prop where
 ex : ∃ (oc : Value) (od : Option Addr) (kV doc pm : Value) (an : Option Addr) (cdv ct : Value) (osl : Array (Option Value)),
   fd = PySem.W.fnOf x qual (zp4 st) (zpN st) (zpB st) .none kV doc pm an cdv ct /\ K.lookup f = some ⟨oc, od, .func fd, osl⟩ /\ PySem.W.codeIn K cdv qual = true
 kp : PySem.W.keepIn K (.ref f) = true
section
variable {P : Program} {w : World} {K : PySem.W.Frag} {mg : Str -> Option Value} {base : Heap}
theorem Fun.ok {x qual : Str} {st : Stmt} {f : Addr} {fd : FuncData} {N ps : List Str} {k : Nat} {sp : Sp} (F : Fun K x qual st f fd) (S : zp2 N ps (zpB st)) (len : ∀ vs H Q E, sp vs H Q E -> vs.length = ps.length)
   (hbody : ∀ (cdv : Value) (A : Around) (outer : List Env) (s : Shared) (H : Hp) (vs : List V) (Q : VK) (E : XK), Room k (A.deeper (envOfC qual (zpB st) s.heap.objs.size f cdv)) -> sp vs H Q E ->
     ∃ t, PSs (zri CX0 P w K mg base N qual (zpB st) f cdv A outer s H E).nox (zpN st) t /\ t { nx := fun _ H' => Q .non H', rt := Q } (start N vs) H) : FnOk P w K mg base CX0 (k + 1) f fd ps sp := by
 obtain ⟨oc, od, kV, doc, pm, an, cdv, ct, osl, rfl, lk, hcd⟩ := F.ex
 refine zkv lk hcd S len fun A outer s H vs Q E hr hsp => ?_
 obtain ⟨t, h, q⟩ := hbody cdv A outer s H vs Q E hr hsp
 exact ⟨t, h.nox, q⟩
theorem Fun.binds {x qual : Str} {st : Stmt} {f : Addr} {fd : FuncData} {ps : List Str} (F : Fun K x qual st f fd)
   (h : ∀ (kV doc pm : Value) (an : Option Addr) (cdv ct : Value) (us : List Value), us.length = ps.length -> bindArgs (PySem.W.fnOf x qual (zp4 st) (zpN st) (zpB st) .none kV doc pm an cdv ct) ⟨us, []⟩ = pure (ps.zip us)) : Binds K fd ps [] := by
 obtain ⟨oc, od, kV, doc, pm, an, cdv, ct, osl, rfl, lk, hcd⟩ := F.ex
 exact .all (h kV doc pm an cdv ct)
theorem zoo {x qual : Str} {st : Stmt} {f : Addr} {oc : Value} {od an : Option Addr} {osl : Array (Option Value)} {kV doc pm cdv ct : Value} (l : K.lookup f = some ⟨oc, od, .func (PySem.W.fnOf x qual (zp4 st) (zpN st) (zpB st) .none kV doc pm an cdv ct), osl⟩)
   (c : PySem.W.codeIn K cdv qual = true) (k : PySem.W.keepIn K (.ref f) = true) : Fun K x qual st f (PySem.W.fnOf x qual (zp4 st) (zpN st) (zpB st) .none kV doc pm an cdv ct) := ⟨⟨oc, od, kV, doc, pm, an, cdv, ct, osl, rfl, l, c⟩, k⟩
end
section
variable {X : Cx}
end
def Same (H H' : Hp) : Prop := ∀ b o, H b = some o -> H' b = some o
theorem Same.refl (H : Hp) : Same H H := fun _ _ h => h
end L2
end
section
namespace PySem
open Sem (wp)
section
variable {prog : Program} {w : World} {K : Type} [DecidableEq K] (knd : KeyKind prog w K)
inductive NItems (h : Heap) : List (List K) -> List Value -> Prop
 | nil : NItems h [] []
 | cons {k : List K} {b : Addr} {ks : List (List K)} {vs : List Value} : IsTupleKey knd h k b -> NItems h ks vs -> NItems h (k :: ks) (.ref b :: vs)
def IsNestKey (h : Heap) (ks : List (List K)) (a : Addr) : Prop := ∃ o items n, h.get? a = some o /\ o.cls = .type "tuple" /\ o.data = .seq items n /\ NItems knd h ks items.toList
variable {knd}
theorem NItems.inj {h : Heap} {x y : List (List K)} {vs : List Value} (hx : NItems knd h x vs) (hy : NItems knd h y vs) : x = y := by
 induction hx generalizing y with
 | nil => cases hy; rfl
 | cons h1 _ ih =>
   cases hy with
   | cons h2 t2 => rw [h1.inj h2, ih t2]
theorem IsNestKey.typeIs {s : Shared} {ks : List (List K)} {a : Addr} (x : IsNestKey knd s.heap ks a) : s.TypeIs (.ref a) "tuple" := let ⟨o, _, _, ho, hc, _⟩ := x; ⟨o, ho, hc⟩
theorem IsNestKey.inj {h : Heap} {a : Addr} {x y : List (List K)} (hx : IsNestKey knd h x a) (hy : IsNestKey knd h y a) : x = y := by
 obtain ⟨o, items, n, ho, _, hd, hi⟩ := hx
 obtain ⟨o', items', n', ho', _, hd', hi'⟩ := hy
 obtain rfl : o = o' := Option.some.inj (ho.symm.trans ho')
 rw [hd] at hd'
 injection hd' with h1 _
 subst h1
 exact hi.inj hi'
theorem NItems.keeps {h h' : Heap} {d : Addr} {o : Obj} {es ep} (ho : h.get? d = some o) (hd : o.data = .dict es ep) (hs : Heap.SameBut d h h') {ks : List (List K)} {vs : List Value} (x : NItems knd h ks vs) : NItems knd h' ks vs := by
 induction x with
 | nil => exact .nil
 | cons h1 _ ih => exact .cons (h1.keeps ho hd hs) ih
theorem IsNestKey.keeps {h h' : Heap} {ks : List (List K)} {a d : Addr} {o : Obj} {es ep} (x : IsNestKey knd h ks a) (ho : h.get? d = some o) (hd : o.data = .dict es ep) (hs : Heap.SameBut d h h') : IsNestKey knd h' ks a := by
 obtain ⟨o', items, n, ho', hc, hd', hi⟩ := x
 have hne : a ≠ d := by
   rintro rfl
   obtain rfl : o' = o := Option.some.inj (ho'.symm.trans ho)
   rw [hd] at hd'; exact nomatch hd'
 exact ⟨o', items, n, (hs.2 a hne).trans ho', hc, hd', hi.keeps ho hd hs⟩
def zpZ (ks : List (List K)) : Nat := (ks.map fun k => k.length + 1).sum
def zqX (knd : KeyKind prog w K) (ks : List (List K)) : Int := reduceHash (Builtin.Tuple.tupleHashOf (ks.map (tupleKeyHash knd)))
variable {A : Around} {E : Value -> Shared -> Prop} {s : Shared}
theorem zdP {ks : List (List K)} {a : Addr} {Q : Int -> Shared -> Prop} (hu : A.units + 1 < cLine) (hk : IsNestKey knd s.heap ks a) (h : Q (zqX knd ks) { s with toks := s.toks + (zpZ ks + 1) }) :
   wpAny (model prog w) A (pyHash (.ref a)) Q E s := by
 have hT := hk.typeIs
 obtain ⟨o, items, n, ho, _, hd, hi⟩ := hk
 unfold pyHash
 first | unfold pyHashByItsType | skip
 first | refine ztm (wpAny_cRoomFor_or (.inr (ztl (Nat.le_succ _) hu)) ?_) | skip
 refine ztm (wpAny_specialOf hT F.slot_tuple_hash.lookup ?_)
 show wpAny _ _ (if (some (Value.builtin "tuple.__hash__") == some Value.none) = true then _ else _) Q E s
 rw [if_neg (by rw [beq_builtin_none]; exact zs2)]
 refine ztm (wpAny_specialOf hT F.slot_tuple_hash.lookup ?_)
 show wpAny _ _ (callSpecialIfBoundUnlessNone? (.ref a) "__hash__" _ >>= _) Q E s
 refine ztm (wpAny_callSpecialIfBoundUnlessNone?_slot hT F.slot_tuple_hash (wpAny_call_entry F.slot_tuple_hash hT F.entry_tuple_hash ?_ (F.args_tuple_hash_1 _)))
 show wpAny _ _ (Builtin.Tuple.tupleItemsOf (.ref a) >>= _) _ _ s
 refine ztm (wpAny_tupleItemsOf ho hd ?_)
 refine ztm ?_
 rw [<- Array.forIn_toList]
 refine wpAny_forIn_list _
   (fun rest (b : Array Int) s' => ∃ done left, ks = done ++ left /\ NItems knd s.heap left rest /\ b.toList = done.map (tupleKeyHash knd) /\ s' = { s with toks := s.toks + zpZ done })
   _ ?_ ?_ _ _ ⟨[], ks, rfl, hi, rfl, rfl⟩
 . rintro x rest b s' ⟨done, left, rfl, hl, hb, rfl⟩
   cases hl with
   | @cons k b' ks' _ h1 hl' =>
     have hd2 : zpZ (done ++ [k]) = zpZ done + (k.length + 1) := by simp [zpZ]
     refine ztm (wpAny_pyHash_tuple (s := { s with toks := s.toks + zpZ done }) ?_ h1 ?_)
     . exact hu
     first
       | exact ztn ⟨done ++ [k], ks', by simp, hl', by simp [hb], by rw [hd2]; simp [Nat.add_assoc]⟩
       | exact ztm (ztn (ztn ⟨done ++ [k], ks', by simp, hl', by simp [hb], by rw [hd2]; simp [Nat.add_assoc]⟩))
 . rintro b s' ⟨done, left, rfl, hl, hb, rfl⟩
   cases hl
   rw [List.append_nil] at h
   show wpAny _ _ (retInt (Builtin.Tuple.tupleHashOf b.toList)) _ _ _
   rw [hb]
   refine wpAny_ret_mkInt ?_
   show wpAny _ _ (if (decide (-(2 : Int) ^ 63 <= Builtin.Tuple.tupleHashOf (done.map (tupleKeyHash knd))) && decide (Builtin.Tuple.tupleHashOf (done.map (tupleKeyHash knd)) < 2 ^ 63)) = true then _ else _) Q E _
   unfold zqX reduceHash at h
   by_cases hr : (decide (-(2 : Int) ^ 63 <= Builtin.Tuple.tupleHashOf (done.map (tupleKeyHash knd))) && decide (Builtin.Tuple.tupleHashOf (done.map (tupleKeyHash knd)) < 2 ^ 63)) = true
   . rw [if_pos hr]
     rw [if_pos hr] at h
     exact ztn (by simpa [Nat.add_assoc] using h)
   . rw [if_neg hr]
     rw [if_neg hr] at h
     exact ztm (wpAny_rule (ztn (by simpa [Nat.add_assoc] using h)))
theorem zfE {x y : List (List K)} {a b : Addr} {P : Fin -> Shared -> Prop} (hu : A.units < cLine) (hx : IsNestKey knd s.heap x a) (hy : IsNestKey knd s.heap y b) (h : P (.done (.ret (.bool (decide (x = y))))) s) :
   wpAny (model prog w) A (Builtin.«tuple.__eq__» ⟨[.ref a, .ref b], []⟩) P E s := by
 have hTb := hy.typeIs
 obtain ⟨oa, xs, na, hoa, _, hda, hia⟩ := hx
 obtain ⟨ob, ys, nb, hob, _, hdb, hib⟩ := hy
 show wpAny _ _ (isInstance (.ref b) (.type "tuple") >>= _) _ _ s
 refine ztm (wpAny_isInstance hTb isSubtype_tuple_tuple ?_)
 simp only [Bool.not_true, Bool.false_eq_true, if_false]
 refine ztm (wpAny_tupleItemsOf hoa hda ?_)
 refine ztm (wpAny_tupleItemsOf hob hdb ?_)
 refine ztm ?_
 refine wpAny_forIn_list _
   (fun rest r s' => r.1 = none /\ s' = s /\ ∃ x' y' xs' ys', rest = List.zip xs' ys' /\ NItems knd s.heap x' xs' /\ NItems knd s.heap y' ys' /\ decide (x' = y') = decide (x = y) /\ (xs'.length == ys'.length) = (xs.size == ys.size))
   _ ?_ ?_ _ _ ⟨rfl, rfl, x, y, xs.toList, ys.toList, rfl, hia, hib, rfl, by simp⟩
 . rintro ⟨u, v⟩ rest r s' ⟨hr, rfl, x', y', xs', ys', hz, hx', hy', hdec, hlen⟩
   cases hx' with
   | nil => simp at hz
   | @cons k1 u' x'' xs'' h1 hx'' =>
     cases hy' with
     | nil => simp at hz
     | @cons k2 v' y'' ys'' h2 hy'' =>
       simp only [List.zip_cons_cons, List.cons.injEq, Prod.mk.injEq] at hz
       obtain ⟨⟨rfl, rfl⟩, rfl⟩ := hz
       refine ztm (wpAny_eqBool_tuple (x := k1) (y := k2) hu h1 h2 ?_)
       by_cases hk : k1 = k2
       . subst hk
         rw [decide_eq_true rfl]
         simp only [Bool.not_true, Bool.false_eq_true, if_false]
         refine ztn ⟨rfl, rfl, x'', y'', xs'', ys'', rfl, hx'', hy'', ?_, by simpa using hlen⟩
         rw [<- hdec]
         by_cases hxy : x'' = y''
         . simp [hxy]
         . simp [hxy]
       . rw [decide_eq_false hk]
         simp only [Bool.not_false, if_true]
         have hf : decide (x = y) = false := by rw [<- hdec]; simp [hk]
         rw [hf] at h
         exact ztm (ztn (ztn (ztn h)))
 . rintro ⟨r1, r2⟩ s' ⟨hr, rfl, x', y', xs', ys', hz, hx', hy', hdec, hlen⟩
   simp only at hr
   subst hr
   refine ztn ?_
   have hfin : (xs.size == ys.size) = decide (x = y) := by
     rw [<- hdec, <- hlen]
     cases hx' with
     | nil =>
       cases hy' with
       | nil => simp
       | cons _ _ => simp
     | cons _ _ =>
       cases hy' with
       | nil => simp
       | cons _ _ => simp at hz
   show P (.done (.ret (.bool (xs.size == ys.size)))) s'
   rw [hfin]; exact h
theorem zcd {x y : List (List K)} {a b : Addr} {Q : Bool -> Shared -> Prop} (hu : A.units + 2 < cLine) (hx : IsNestKey knd s.heap x a) (hy : IsNestKey knd s.heap y b) (h : Q (decide (x = y)) s) :
   wpAny (model prog w) A (eqBool (.ref a) (.ref b)) Q E s := by
 unfold eqBool
 try with_reducible refine wpAny_holding ?_
 show wpAny _ _ (if (Value.ref a == Value.ref b) = true then _ else _) Q E s
 by_cases hab : (Value.ref a == Value.ref b) = true
 . rw [if_pos hab]
   have e : a = b := by have := eq_of_beq hab; injection this
   subst e
   obtain rfl := hx.inj hy
   exact ztm (wpAny_rule (ztn (by simpa using h)))
 . rw [if_neg hab]
   refine ztm (wpAny_richCompare_same_room (op := .Eq) hx.typeIs hy.typeIs F.slot_tuple_eq
     (wpAny_call_entry F.slot_tuple_eq hx.typeIs F.entry_tuple_eq (zfE ?_ hx hy ⟨_, rfl, (fun e => nomatch e), wpAny_truthy_bool h⟩) (F.args_tuple_eq_2 _ _)) (ztl (Nat.le_add_right _ 2) hu))
   show A.units + 1 < cLine
   omega
theorem zgf (n : Nat) {ks : List K} {a : Addr} {Q : Bool -> Shared -> Prop} (hk : IsTupleKey knd s.heap ks a) (h : Q true s) : wpAny (model prog w) A (eqIsQuiet (n + 1) (.ref a)) Q E s := by
 have hT := hk.typeIs
 obtain ⟨o, items, m, ho, _, hd, hi⟩ := hk
 unfold eqIsQuiet
 refine ztm (wpAny_specialOf hT F.slot_tuple_eq.lookup ?_)
 show wpAny _ _ (isInstance (.ref a) (.type "tuple") >>= _) _ _ s
 refine ztm (wpAny_isInstance hT isSubtype_tuple_tuple ?_)
 simp only [Bool.not_true, Bool.false_eq_true, if_false]
 refine ztm (wpAny_seqItems ho hd ?_)
 refine ztm ?_
 show wpAny _ _ (forIn items _ _) _ _ s
 rw [<- Array.forIn_toList]
 refine wpAny_forIn_list _ (fun rest r s' => r.1 = none /\ s' = s /\ ∀ v ∈ rest, carriedByValue v = true) _ ?_ ?_ _ _ ⟨rfl, rfl, hi.byValue⟩
 . rintro v rest r s' ⟨hr, rfl, hall⟩
   rw [eqIsQuiet_byValue _ (hall v zsZ)]
   refine ztm (ztn ?_)
   simp only [Bool.not_true, Bool.false_eq_true, if_false]
   exact ztn ⟨rfl, rfl, fun u hu' => hall u (zsY _ hu')⟩
 . rintro ⟨r1, r2⟩ s' ⟨hr, rfl, _⟩
   simp only at hr
   subst hr
   exact ztn h
theorem zda {ks : List (List K)} {a : Addr} {Q : Bool -> Shared -> Prop} (hk : IsNestKey knd s.heap ks a) (h : Q true s) : wpAny (model prog w) A (eqIsQuiet 8 (.ref a)) Q E s := by
 have hT := hk.typeIs
 obtain ⟨o, items, m, ho, _, hd, hi⟩ := hk
 unfold eqIsQuiet
 refine ztm (wpAny_specialOf hT F.slot_tuple_eq.lookup ?_)
 show wpAny _ _ (isInstance (.ref a) (.type "tuple") >>= _) _ _ s
 refine ztm (wpAny_isInstance hT isSubtype_tuple_tuple ?_)
 simp only [Bool.not_true, Bool.false_eq_true, if_false]
 refine ztm (wpAny_seqItems ho hd ?_)
 refine ztm ?_
 show wpAny _ _ (forIn items _ _) _ _ s
 rw [<- Array.forIn_toList]
 refine wpAny_forIn_list _ (fun rest r s' => r.1 = none /\ s' = s /\ ∃ left, NItems knd s.heap left rest) _ ?_ ?_ _ _ ⟨rfl, rfl, ks, hi⟩
 . rintro v rest r s' ⟨hr, rfl, left, hl⟩
   cases hl with
   | cons h1 hl' =>
     refine ztm (zgf 6 h1 ?_)
     simp only [Bool.not_true, Bool.false_eq_true, if_false]
     exact ztn ⟨rfl, rfl, _, hl'⟩
 . rintro ⟨r1, r2⟩ s' ⟨hr, rfl, _⟩
   simp only at hr
   subst hr
   exact ztn h
end
def zpX {prog : Program} {w : World} {K : Type} [DecidableEq K] (knd : KeyKind prog w K) : HeapKind prog w (List (List K)) where
 is := IsNestKey knd
 hash := zqX knd
 draws := fun ks => zpZ ks + 1
 room := fun A => A.units + 2 < cLine
 inj := fun hx hy => hx.inj hy
 keeps := fun x ho hd hs => x.keeps ho hd hs
 pyHash := fun hu hk h => zdP (ztl (Nat.le_succ _) hu) hk h
 eqBool := fun hu hx hy h => zcd hu hx hy h
 quiet := fun hk h => zda hk h
end PySem
end
section
namespace MX
open PySem PySem.Spec PyProof.Rows L2
abbrev NK := List (List Int)
def zsH (k : NK) : Int := reduceHash (Builtin.Tuple.tupleHashOf (k.map fun ks => reduceHash (Builtin.Tuple.tupleHashOf (ks.map hashInt))))
def zsM (x : NK × Addr × Value) : DictEntry := ⟨zsH x.1, .ref x.2.1, x.2.2⟩
def zr1 (h : Heap) (d : Addr) (xs : List (NK × Addr × Value)) : Prop := ∃ o es, h.get? d = some o /\ o.ExactDict /\ o.data = .dict es xs.length /\ es.toList = xs.map zsM /\ (xs.map (·.1)).Nodup
def zqN (a : Addr) (xs : List (NK × Addr × Value)) : HO := .ext fun h => (a == sysModules) = false /\ xs.length <= sizeLine /\ zr1 h a xs
def NKey (K : PySem.W.Frag) (H : Hp) (k : NK) (b : Addr) : Prop := ∃ bs : List Addr, SqT K H b (bs.map V.ref) /\ Paired (fun (ks : List Int) (c : Addr) => SqT K H c (ks.map V.int)) k bs
theorem NKey.mono {K : PySem.W.Frag} {H H' : Hp} {k : NK} {b : Addr} (t : ∀ a vs, SqT K H a vs -> SqT K H' a vs) (h : NKey K H k b) : NKey K H' k b := by
 obtain ⟨bs, h1, h2⟩ := h
 refine ⟨bs, t _ _ h1, ?_⟩
 clear h1
 induction h2 with
 | nil => exact .nil
 | cons hc _ ih => exact .cons (t _ _ hc) ih
inductive DR (K : PySem.W.Frag) (H : Hp) : List (NK × Int) -> List (NK × Addr × Value) -> Prop
 | nil : DR K H [] []
 | cons {k : NK} {i : Int} {b : Addr} {t : Tok} {xs : List (NK × Int)} {ys : List (NK × Addr × Value)} : NKey K H k b -> DR K H xs ys -> DR K H ((k, i) :: xs) ((k, b, .int i t) :: ys)
def zqe (xs : List (NK × Int)) (k : NK) : Option Int := (xs.find? fun x => decide (x.1 = k)).map (·.2)
def zrr (xs : List (NK × Int)) (k : NK) (i : Int) : List (NK × Int) := if (zqe xs k).isSome then xs.map (fun x => if x.1 = k then (x.1, i) else x) else xs ++ [(k, i)]
section
variable {K : PySem.W.Frag} {H H' : Hp} {xs : List (NK × Int)} {ys : List (NK × Addr × Value)}
theorem DR.mono (t : ∀ a vs, SqT K H a vs -> SqT K H' a vs) (h : DR K H xs ys) : DR K H' xs ys := by
 induction h with
 | nil => exact .nil
 | cons hc _ ih => exact .cons (hc.mono t) ih
theorem DR.length (h : DR K H xs ys) : xs.length = ys.length := by
 induction h with
 | nil => rfl
 | cons _ _ ih => simp [ih]
theorem DR.keys (h : DR K H xs ys) : ∀ y ∈ ys, NKey K H y.1 y.2.1 := by
 induction h with
 | nil => intro y hy; cases hy
 | cons hc _ ih =>
   intro y hy
   rcases List.mem_cons.mp hy with rfl | hy
   . exact hc
   . exact ih y hy
theorem DR.get (h : DR K H xs ys) : ∀ {i : Nat} {x : NK × Int}, xs[i]? = some x -> ∃ b t, ys[i]? = some (x.1, b, .int x.2 t) /\ NKey K H x.1 b := by
 induction h with
 | nil => intro i x e; simp at e
 | @cons k j b t xs ys hc _ ih =>
   intro i x e
   cases i with
   | zero =>
     simp only [List.getElem?_cons_zero, Option.some.injEq] at e
     subst e
     exact ⟨b, t, rfl, hc⟩
   | succ n => exact ih (by simpa using e)
theorem DR.at (h : DR K H xs ys) (k : NK) : (atKey ys k = none /\ zqe xs k = none) \/ ∃ b i t, atKey ys k = some (b, .int i t) /\ zqe xs k = some i := by
 induction h with
 | nil => exact .inl ⟨rfl, rfl⟩
 | @cons k' j b t xs ys hc _ ih =>
   by_cases hk : k' = k
   . exact .inr ⟨b, j, t, by simp [atKey, hk], by simp [zqe, hk]⟩
   . have e1 : atKey ((k', b, Value.int j t) :: ys) k = atKey ys k := by simp [atKey, hk]
     have e2 : zqe ((k', j) :: xs) k = zqe xs k := by simp [zqe, hk]
     rw [e1, e2]; exact ih
theorem DR.snoc (h : DR K H xs ys) {k : NK} {b : Addr} {i : Int} {t : Tok} (hb : NKey K H k b) : DR K H (xs ++ [(k, i)]) (ys ++ [(k, b, .int i t)]) := by
 induction h with
 | nil => exact .cons hb .nil
 | cons hc _ ih => exact .cons hc ih
theorem DR.over (h : DR K H xs ys) {k : NK} {i : Int} {t : Tok} : DR K H (xs.map (fun x => if x.1 = k then (x.1, i) else x)) (ys.map (putAt k (.int i t))) := by
 induction h with
 | nil => exact .nil
 | @cons k' j b t' xs ys hc _ ih =>
   by_cases hk : k' = k
   . simp only [ztJ, putAt, hk, if_true]; exact .cons (hk ▸ hc) ih
   . simp only [ztJ, putAt, hk, if_false]; exact .cons hc ih
theorem DR.put (h : DR K H xs ys) {k : NK} {b : Addr} {i : Int} {t : Tok} (hb : NKey K H k b) : DR K H (zrr xs k i) (storedH ys k b (.int i t)) := by
 unfold zrr storedH
 rcases h.at k with ⟨e1, e2⟩ | ⟨b', j, t', e1, e2⟩
 . rw [e1, e2]; exact h.snoc hb
 . rw [e1, e2]; exact h.over
end
section
variable {X : Cx} {pins : List (Addr × Obj)} {σ : L2.St} {H : Hp} {s : Shared}
theorem zoQ (I : Inv X pins σ H s) : sysModules < s.heap.objs.size := by
 have h : mainGlobals < s.heap.objs.size := (I.mod.glob.keeps I.bk).lt
 exact Nat.lt_trans (by decide) h
theorem zek (I : Inv X pins σ H s) {b : Addr} {xs : List V} (h : SqT X.K H b xs) : ∃ o items n, s.heap.get? b = some o /\ o.cls = .type "tuple" /\ o.data = .seq items n /\ Vals xs items.toList := by
 rcases h with h | ⟨o, its, n, h1, h2, h3, _, h5⟩
 . obtain ⟨_, its, r, o, h1, h2, n, h3⟩ := (show ObjOk X.prog X.w H s.heap b (.tup xs) from h.ok I.hok)
   exact ⟨o, its.toArray, n, h1, h2, h3, by simpa using r⟩
 . exact ⟨o, its, n, I.kIn _ _ h1, h2, h3, h5⟩
theorem zdY {P : Program} {w : World} : ∀ {ks : List Int} {us : List Value}, Vals (ks.map V.int) us -> ItemsAre (intKind P w) ks us
 | [], _, .nil => .nil
 | k :: ks, _, .cons h t => by
   obtain ⟨tk, rfl⟩ := h
   exact .cons (by show Value.isInt k (.int k tk) = true; simp [Value.isInt]) (zdY t)
theorem zdC : ∀ {bs : List Addr} {us : List Value}, Vals (bs.map V.ref) us -> us = bs.map Value.ref
 | [], _, .nil => rfl
 | b :: bs, _, .cons h t => by
   have e : _ = Value.ref b := h
   rw [ztJ, <- zdC t, e]
theorem zfn (I : Inv X pins σ H s) {k : NK} {b : Addr} (h : NKey X.K H k b) : (zpX (intKind X.prog X.w)).is s.heap k b := by
 obtain ⟨bs, h1, h2⟩ := h
 obtain ⟨o, items, n, e1, e2, e3, e4⟩ := zek I h1
 refine ⟨o, items, n, e1, e2, e3, ?_⟩
 rw [zdC e4]
 clear e4 h1
 induction h2 with
 | nil => exact .nil
 | cons hc _ ih =>
   obtain ⟨o', items', n', f1, f2, f3, f4⟩ := zek I hc
   exact .cons ⟨o', items', n', f1, f2, f3, zdY f4⟩ ih
theorem zcw (I : Inv X pins σ H s) {a : Addr} {xs : List (NK × Addr × Value)} (e : H a = some (zqN a xs)) : (a == sysModules) = false /\ xs.length <= sizeLine /\ zr1 s.heap a xs :=
 (show ObjOk X.prog X.w H s.heap a (zqN a xs) from I.hok a _ e).1
theorem zoD (I : Inv X pins σ H s) {a : Addr} {xs : List (NK × Addr × Value)} (e : H a = some (zqN a xs)) (hk : ∀ x ∈ xs, NKey X.K H x.1 x.2.1) : s.heap.DictOfH (zpX (intKind X.prog X.w)) a xs := by
 obtain ⟨_, _, o, es, h1, h2, h3, h4, h5⟩ := zcw I e
 exact ⟨o, es, _, h1, h2, h3, h4, fun x hx => zfn I (hk x hx), h5⟩
theorem zju {P : Program} {w : World} {H : Hp} {h : Heap} {a : Addr} {xs : List (NK × Addr × Value)} (h0 : (a == sysModules) = false) (hl : xs.length <= sizeLine) (hd : zr1 h a xs) : ObjOk P w H h a (zqN a xs) :=
 ⟨⟨h0, hl, hd⟩, let ⟨o, _, h1, _⟩ := hd; ⟨o, h1⟩, fun g1 g2 ⟨k0, kl, o', es', k1, k2⟩ kk => ⟨k0, kl, o', es', kk _ k1, k2⟩⟩
theorem zkb {pos : Pos} : PE X (.Dict [] [] pos) (fun _ H Q => ∀ p, H p = none -> Q (.ref p) (upd H p (zqN p []))) := fun pins s σ H Q I h =>
 wpAny_Dict_empty ⟨.ref s.heap.objs.size, _, I.laid (a := s.heap.objs.size) (o := zqN s.heap.objs.size []) (t' := s.toks) (fun _ _ q => zs1 _ q) (ztq _)
   (zju (beq_eq_false_iff_ne.mpr (Ne.symm (ztA (zoQ I)))) (Nat.zero_le _) ⟨_, _, ztk _ rfl, ⟨rfl, rfl, rfl⟩, rfl, rfl, List.nodup_nil⟩), rfl, h _ (I.hok.fresh (ztq _))⟩
theorem zoF {A : Around} {E : Value -> Shared -> Prop} {Q : Value -> Shared -> Prop} {a b : Addr} {k : NK} {xs : List (NK × Addr × Value)} {r : Value} (hu : A.units + 3 < cLine) (I : Inv X pins σ H s) (e : H a = some (zqN a xs)) (hk : ∀ x ∈ xs, NKey X.K H x.1 x.2.1) (hb : NKey X.K H k b)
   (h : ∀ s', Inv X pins σ H s' -> Q (((atKey xs k).map (·.2)).getD r) s') : wpAny (model X.prog X.w) A (call (.builtin "dict.get") [.ref a, .ref b, r]) Q E s := by
 have h0 := (zcw I e).1
 have dd := zoD I e hk
 exact call_meetsIn PySem.F.slot_dict_get dd.typeIs PySem.F.entry_dict_get (PySem.F.args_dict_get_3 _ _ _) (meetsH_dict_get_default (zpX (intKind X.prog X.w)) a b h0 r) ⟨hu, k, xs, zfn I hb, dd, h _ (I.tok _)⟩
end
theorem zkB {prog : Program} {w : World} {A : Around} {E : Value -> Shared -> Prop} {s : Shared} {d b : Addr} {xs : List (NK × Addr × Value)} {k : NK} {v : Value} {Q : Unit -> Shared -> Prop} (hu : (zpX (intKind prog w)).room A)
   (kb : (zpX (intKind prog w)).is s.heap k b) (hd : zr1 s.heap d xs) (gk : ∀ x ∈ xs, (zpX (intKind prog w)).is s.heap x.1 x.2.1) (gz : xs.length < sizeLine)
   (q : ∀ h' t, zr1 h' d (storedH xs k b v) -> Heap.SameBut d s.heap h' -> Q () { s with heap := h', toks := t }) : wpAny (model prog w) A (dictSet d (.ref b) v) Q E s := by
 obtain ⟨o, es, g1, g2, g3, g4, g5⟩ := hd
 have es' : es.size = xs.length := by rw [<- Array.length_toList, g4, zs7]
 unfold dictSet
 refine wpAny_holding ?_
 refine ztm ((zpX (intKind prog w)).pyHash hu kb ?_)
 unfold dictSetHashed
 refine wpAny_holding ?_
 generalize hs1 : s.toks + (zpX (intKind prog w)).draws k = t1
 refine ztm (wpAny_dictFind_heap (knd := zpX (intKind prog w)) (s := { s with toks := t1 }) hu kb g1 g3 g4 gk g5 (fun no => ?_) (fun j p at' => ?_))
 . have e0 : atKey xs k = none := atKey_none_of_get no
   refine ztm (wpAny_rule (wpAny_updateDictKeys (hz := by omega) (s := { s with toks := t1 }) g1 g3 (q _ t1 ?_ (Heap.SameBut.update ..))))
   rw [storedH_new e0]
   refine ⟨_, es.push ⟨zsH k, .ref b, v⟩, Heap.get?_update_self _ g1 (Obj.isFreed_of_dict (Obj.data_mapDictKeys g3 _)), g2.mapDictKeys _, ?_, ?_, ?_⟩
   . rw [zs9]; exact Obj.data_mapDictKeys g3 _
   . rw [Array.toList_push, g4, zth]; rfl
   . rw [zth, List.nodup_append]
     refine ⟨g5, by simp, fun x hx y hy z => ?_⟩
     have : y = k := by simpa using hy
     exact not_mem_keys_of_get no (this ▸ z ▸ hx)
 . have e1 : atKey xs k = some p := atKey_of_get g5 at'
   refine ztm (wpAny_rule (ztm (wpAny_updateDict (s := { s with toks := t1 }) g1 g3 (wpAny_point (q _ t1 ?_ (Heap.SameBut.update ..))))))
   rw [storedH_old e1]
   refine ⟨_, es.modify j fun e => { e with val := v }, Heap.get?_update_self _ g1 (Obj.isFreed_of_dict (Obj.data_mapDict g3 _)), g2.mapDict _, ?_, ?_, ?_⟩
   . rw [zs7]; exact Obj.data_mapDict g3 _
   . have m := modify_map_putAt zsM (fun e : DictEntry => { e with val := v }) k v (fun _ _ => rfl) g5 at'
     rw [<- g4] at m
     obtain ⟨l⟩ := es
     simpa using m
   . rw [keys_map_putAt]; exact g5
section
variable {X : Cx} {pins : List (Addr × Obj)} {σ : L2.St} {H : Hp} {s : Shared}
theorem zoE {A : Around} {E : Value -> Shared -> Prop} {Q : Unit -> Shared -> Prop} {a b : Addr} {k : NK} {xs : List (NK × Addr × Value)} {r : Value} (hu : A.units + 3 < cLine) (I : Inv X pins σ H s) (e : H a = some (zqN a xs)) (hk : ∀ x ∈ xs, NKey X.K H x.1 x.2.1) (hb : NKey X.K H k b) (hl : xs.length < sizeLine)
   (h : ∀ s', Inv X pins σ (upd H a (zqN a (storedH xs k b r))) s' -> Q () s') : wpAny (model X.prog X.w) A (setItem (.ref a) (.ref b) r) Q E s := by
 obtain ⟨h0, hl0, hd⟩ := zcw I e
 have tI : s.TypeIs (.ref a) "dict" := let ⟨o, _, g1, g2, _⟩ := hd; ⟨o, g1, g2.1⟩
 have hlen : (storedH xs k b r).length <= sizeLine := by
   unfold storedH
   split
   . rw [zs7]; exact hl0
   . rw [zs9]; exact hl
 unfold setItem
 refine wpAny_holding ?_
 refine ztm (wpAny_sequenceKey tI (by decide) ?_)
 refine ztm (wpAny_callSpecial?_slot (name := Str.ofString "__setitem__") tI slot_dict_setitem (wpAny_call_entry slot_dict_setitem tI entry_dict_setitem ?_ (args_dict_setitem _ _ _)))
 refine ztm (wpAny_notOrdered_dict tI ?_)
 show wpAny _ _ (dictSet a (.ref b) r >>= _) _ _ _
 refine ztm (zkB hu (zfn I hb) hd (fun x hx => zfn I (hk x hx)) hl fun h' t dd hs => ztn ⟨.none, rfl, ztn (h _ ?_)⟩)
 have ho : ∃ u, h'.get? a = some u := let ⟨o, _, g1, _⟩ := dd; ⟨o, g1⟩
 exact I.write (x := a) (e := a) (by rw [e]; exact True.intro) (.inl rfl) (fun c q hc z => (hs.2 c hc).trans z) ho (zju h0 hlen dd)
end
end MX
end
section
namespace MX
open PySem PySem.Spec PyProof.Rows L2
section
variable {prog : Program} {w : World} {A : Around} {E : Value -> Shared -> Prop} {t : Shared}
theorem zkf (d : Addr) (hS : (d == sysModules) = false) : MeetsIn prog w (Builtin.«dict.items» ⟨[.ref d], []⟩) (fun _ R t => t.TypeIs (.ref d) "dict" /\
   R (.ok (.ret (.ref t.heap.objs.size))) { t with heap := t.heap.push { cls := .type "dict_items", data := .fields #[.ref d] } }) :=
 .of_wp fun B R t ⟨tI, q⟩ => by
   unfold Builtin.«dict.items» Builtin.Dict.noArgs
   refine ztm (ztm (wpAny_notOrdered_dict tI ?_))
   show wpAny _ _ (pure d) _ _ t
   refine ztn ?_
   show wpAny _ _ (Builtin.Dict.showsAll d >>= _) _ _ t
   unfold Builtin.Dict.showsAll
   rw [if_neg (by rw [hS]; exact zs2)]
   exact ztm (ztn (ztm (wpAny_newObj_type (ztn ⟨_, rfl, q⟩))))
theorem zko {v d : Addr} {xs : List (NK × Addr × Value)} {Q : Value -> Shared -> Prop} (hv : t.heap.IsItemsView v d) (hd : zr1 t.heap d xs)
   (q : Q (.ref t.heap.objs.size) { t with heap := t.heap.push { cls := .type "dict_itemiterator", data := .fields #[.none, .bool false, .ref d, .int 0 0, .int xs.length 0, .int xs.length 0, .none, .none] } }) :
   wpAny (model prog w) A (pyIter (.ref v)) Q E t := by
 obtain ⟨ob, b1, b2, b3⟩ := id hv
 obtain ⟨o, es, g1, g2, g3, g4, g5⟩ := hd
 have sz : es.size = xs.length := by rw [<- Array.length_toList, g4, zs7]
 have own : Builtin.Dict_items.ownsTuple "dict_itemiterator" = true := by decide
 refine wpAny_pyIter_slot hv.typeIs F.slot_dict_items_iter (wpAny_call_entry F.slot_dict_items_iter hv.typeIs F.entry_dict_items_iter ?_ (F.args_dict_items_iter_1 _))
 unfold Builtin.«dict_items.__iter__»
 refine ztm (ztn (ztm ?_))
 unfold Builtin.Dict_items.dictOf
 refine ztm (wpAny_field b1 b3 (x := .ref d) rfl (ztn (ztm ?_)))
 unfold Builtin.Dict_items.newIterator
 refine ztm (wpAny_dictEntries g1 g3 (ztm (wpAny_dictEpoch g1 g3 ?_)))
 simp only [own, if_true]
 refine wpAny_newObj_type (ztn ⟨_, rfl, "dict_itemiterator", _, ⟨_, ztk _ rfl, rfl⟩, F.slot_dict_itemiterator_next.lookup, ?_⟩)
   (by simp only [sizeOk, Builtin.Dict_items.ownedTupleFields, zs8, zs9, ztg, ztt, sizeLine_eq] <;> omega)
 simpa [rawInt, sz, Builtin.Dict_items.ownedTupleFields] using q
theorem zmc {it d b : Addr} {i : Nat} {xs : List (NK × Addr × Value)} {k : NK} {v ok ov : Value} {Q : Option Value -> Shared -> Prop} (g : IsItemIter t.heap it d i xs.length xs.length ok ov) (hd : zr1 t.heap d xs) (hx : xs[i]? = some (k, b, v))
   (q : ∀ h', IsItemIterOut h' it d (i + 1) xs.length xs.length (.ref b) v t.heap.objs.size -> h'.get? t.heap.objs.size = some { cls := .type "tuple", data := .seq #[.ref b, v] } -> h'.objs.size = t.heap.objs.size + 1 ->
     (∀ c o, c ≠ it -> t.heap.get? c = some o -> h'.get? c = some o) -> Q (some (.ref t.heap.objs.size)) { t with heap := h' }) : wpAny (model prog w) A (pyNext (.ref it)) Q E t := by
 obtain ⟨hp, gg, dr, tk, os⟩ := t
 obtain ⟨o, es, g1, g2, g3, g4, g5⟩ := hd
 have sz : es.size = xs.length := by rw [<- Array.length_toList, g4, zs7]
 have il : i < xs.length := (zsX.mp hx).1
 have il' : i < es.size := by omega
 have ee : es[i] = ⟨zsH k, .ref b, v⟩ := by
   have e : es.toList[i]? = some (zsM (k, b, v)) := by rw [g4, ztb, hx]; rfl
   rw [Array.getElem?_toList, Array.getElem?_eq_getElem il'] at e
   exact Option.some.inj e
 have own : Builtin.Dict_items.ownsTuple "dict_itemiterator" = true := by decide
 have tI : Shared.TypeIs ⟨hp, gg, dr, tk, os⟩ (.ref it) "dict_itemiterator" := ⟨_, g, rfl⟩
 unfold pyNext
 refine ztm (wpAny_attempt (wpAny_callSpecial?_slot (name := Str.ofString "__next__") tI F.slot_dict_itemiterator_next
   (wpAny_call_entry F.slot_dict_itemiterator_next tI F.entry_dict_itemiterator_next ?_ (F.args_dict_itemiterator_next_1 _))))
 refine ztm (ztn (ztm (ztm ?_)))
 first | refine ztm (wpAny_typeNameOfWhole_itemiter tI (ztn ?_)) | refine ztm (wpAny_typeNameOf_itemiter tI (ztn ?_))
 refine ztm (wpAny_fieldsOf g rfl ?_)
 simp only [own, if_true]
 show wpAny _ _ (if (Value.ref d == Value.none) = true then _ else _) _ _ ⟨hp, gg, dr, tk, os⟩
 rw [if_neg (show ¬ ((Value.ref d == Value.none) = true) from fun z => nomatch z)]
 refine ztm (ztn (ztm (wpAny_dictEntries g1 g3 ?_)))
 rw [if_neg (by rw [sz]; simp)]
 refine ztm (ztn (ztm (wpAny_dictEpoch g1 g3 ?_)))
 rw [if_neg (by simp)]
 refine ztn ?_
 simp only [show ¬ ((i : Int) < 0) from by omega, if_false, Int.toNat_natCast, Array.getElem?_eq_getElem il', ee]
 refine ztm ?_
 first | refine ztm (wpAny_typeNameOfWhole_itemiter tI (ztn ?_)) | refine ztm (wpAny_typeNameOf_itemiter tI (ztn ?_))
 refine ztm (wpAny_isOneOf_itemiter tI ?_)
 show wpAny _ _ (setField (.ref it) 3 (rawInt ((i : Int) + 1)) >>= _) _ _ ⟨hp, gg, dr, tk, os⟩
 refine ztm (wpAny_setField_rec g (by simp) fun k₁ e₁ s₁ => ?_)
 replace s₁ : Heap.SameBut it hp k₁ := s₁
 replace e₁ : IsItemIter k₁ it d (i + 1) xs.length xs.length ok ov := by
   have z : ((i + 1 : Nat) : Int) = (i : Int) + 1 := by omega
   unfold IsItemIter; rw [z]; simpa [rawInt] using e₁
 have tI₁ : Shared.TypeIs ⟨k₁, gg, dr, tk, os⟩ (.ref it) "dict_itemiterator" := ⟨_, e₁, rfl⟩
 refine ztm (wpAny_holding (ztm (wpAny_isOneOf_itemiter tI₁ (ztm (wpAny_isOneOf_itemiter tI₁ ?_)))))
 show wpAny _ _ (Builtin.Dict_items.pairFromOwner (.ref it) 6 (.ref b) v) _ _ ⟨k₁, gg, dr, tk, os⟩
 unfold Builtin.Dict_items.pairFromOwner
 refine ztm (wpAny_newTuple ?_)
 have e₂ : IsItemIter (k₁.push { cls := .type "tuple", data := .seq #[.ref b, v] }) it d (i + 1) xs.length xs.length ok ov := zs1 _ e₁
 have z₁ : k₁.objs.size = hp.objs.size := s₁.1
 have lt : it < hp.objs.size := ztp g
 have t₂ : (k₁.push { cls := .type "tuple", data := .seq #[.ref b, v] }).get? hp.objs.size = some { cls := .type "tuple", data := .seq #[.ref b, v] } := by rw [<- z₁]; exact ztk _ rfl
 have z₂ : (k₁.push { cls := .type "tuple", data := .seq #[.ref b, v] }).objs.size = hp.objs.size + 1 := by rw [Heap.size_push, z₁]
 have c₂ : ∀ c u, c ≠ it -> hp.get? c = some u -> (k₁.push { cls := .type "tuple", data := .seq #[.ref b, v] }).get? c = some u := fun c u hc e => zs1 _ (s₁.extBut c u hc e)
 rw [z₁]
 generalize k₁.push { cls := .type "tuple", data := .seq #[.ref b, v] } = k₂ at e₂ t₂ z₂ c₂
 show wpAny _ _ (Builtin.Dict_items.ownedTupleIsFree (.ref it) >>= _) _ _ ⟨k₂, gg, dr, tk, os⟩
 clear e₁ s₁ tI₁ z₁
 refine ztm ?_
 unfold Builtin.Dict_items.ownedTupleIsFree
 refine ztm (wpAny_field e₂ rfl (x := .none) rfl (ztn ?_))
 simp only [if_true]
 refine ztm (wpAny_field e₂ rfl (x := ok) rfl (ztm (wpAny_field e₂ rfl (x := ov) rfl ?_)))
 refine ztm (wpAny_setField_rec e₂ (by simp) fun k₃ e₃ s₃ => ?_)
 replace s₃ : Heap.SameBut it k₂ k₃ := s₃
 replace e₃ : IsItemIter k₃ it d (i + 1) xs.length xs.length (.ref b) ov := e₃
 refine ztm (wpAny_setField_rec e₃ (by simp) fun k₄ e₄ s₄ => ?_)
 replace s₄ : Heap.SameBut it k₃ k₄ := s₄
 replace e₄ : IsItemIter k₄ it d (i + 1) xs.length xs.length (.ref b) v := e₄
 refine ztm (wpAny_setField_rec e₄ (by simp) fun k₅ e₅ s₅ => ?_)
 replace s₅ : Heap.SameBut it k₄ k₅ := s₅
 replace e₅ : IsItemIterOut k₅ it d (i + 1) xs.length xs.length (.ref b) v hp.objs.size := e₅
 refine ztm (wpAny_setField_rec e₅ (by simp) fun k₆ e₆ s₆ => ?_)
 replace s₆ : Heap.SameBut it k₅ k₆ := s₆
 replace e₆ : IsItemIterOut k₆ it d (i + 1) xs.length xs.length (.ref b) v hp.objs.size := e₆
 have up : ∀ c u, c ≠ it -> k₂.get? c = some u -> k₆.get? c = some u := fun c u hc e => s₆.extBut c u hc (s₅.extBut c u hc (s₄.extBut c u hc (s₃.extBut c u hc e)))
 refine ztm (wpAny_letGo (ztn (ztn ⟨_, rfl, ztn (q k₆ e₆ (up _ _ (Nat.ne_of_gt lt) t₂) ?_ fun c u hc e => up c u hc (c₂ c u hc e))⟩)))
 show k₆.objs.size = hp.objs.size + 1
 rw [s₆.1, s₅.1, s₄.1, s₃.1, z₂]
theorem zmd {it d : Addr} {i : Nat} {xs : List (NK × Addr × Value)} {ok ov : Value} {Q : Option Value -> Shared -> Prop} (hh : A.handled = none) (g : IsItemIter t.heap it d i xs.length xs.length ok ov) (hd : zr1 t.heap d xs) (hx : xs.length <= i)
   (q : ∀ h', Heap.ExtBut it t.heap h' -> Q none { t with heap := h' }) : wpAny (model prog w) A (pyNext (.ref it)) Q E t := by
 obtain ⟨o, es, g1, g2, g3, g4, g5⟩ := hd
 have sz : es.size = xs.length := by rw [<- Array.length_toList, g4, zs7]
 have own : Builtin.Dict_items.ownsTuple "dict_itemiterator" = true := by decide
 have tI : t.TypeIs (.ref it) "dict_itemiterator" := ⟨_, g, rfl⟩
 unfold pyNext
 refine ztm (wpAny_attempt (wpAny_callSpecial?_slot (name := Str.ofString "__next__") tI F.slot_dict_itemiterator_next
   (wpAny_call_entry F.slot_dict_itemiterator_next tI F.entry_dict_itemiterator_next ?_ (F.args_dict_itemiterator_next_1 _))))
 refine ztm (ztn (ztm (ztm ?_)))
 first | refine ztm (wpAny_typeNameOfWhole_itemiter tI (ztn ?_)) | refine ztm (wpAny_typeNameOf_itemiter tI (ztn ?_))
 refine ztm (wpAny_fieldsOf g rfl ?_)
 simp only [own, if_true]
 show wpAny _ _ (if (Value.ref d == Value.none) = true then _ else _) _ _ t
 rw [if_neg (show ¬ ((Value.ref d == Value.none) = true) from fun z => nomatch z)]
 refine ztm (ztn (ztm (wpAny_dictEntries g1 g3 ?_)))
 rw [if_neg (by rw [sz]; simp)]
 refine ztm (ztn (ztm (wpAny_dictEpoch g1 g3 ?_)))
 rw [if_neg (by simp)]
 refine ztn ?_
 simp only [show ¬ ((i : Int) < 0) from by omega, if_false, Int.toNat_natCast, Array.getElem?_eq_none (show es.size <= i by omega)]
 refine ztm ?_
 first | refine ztm (wpAny_typeNameOfWhole_itemiter tI (ztn ?_)) | refine ztm (wpAny_typeNameOf_itemiter tI (ztn ?_))
 show wpAny _ _ (setField (.ref it) 2 .none >>= _) _ _ t
 refine ztm (wpAny_setField g rfl (by simp) ?_)
 show wpAny _ _ (newExc (.type "StopIteration") [] >>= _) _ _ _
 refine ztm ?_
 simp only [newExc, newTuple]
 refine ztm (wpAny_newObj_type ?_ (by size_fits))
 refine ztm (m := firstArgMember _ _) (wpAny_of_eq (a := Value.none) (by first | rfl | (simp only [firstArgMember] <;> rfl)) ?_)
 refine wpAny_newObj_type ?_ (by size_fits)
 simp only [raiseNew]
 refine ztm (wpAny_handled ?_)
 rw [show A.in1.handled = none from hh]
 refine ztm (ztn (wpAny_throw ?_))
 refine ztm ( wpAny_isInstance (T := "StopIteration") (b := true) ⟨_, ztk _ rfl, rfl⟩ isSubtype_stop ?_)
 exact ztn (q _ (((Heap.SameBut.update ..).extBut.push _).push _))
end
section
variable {X : Cx} {pins : List (Addr × Obj)} {σ : L2.St} {H : Hp} {s : Shared}
theorem turnedT {t' : Nat} {h' : Heap} {ch : List Addr} {row : List V} {urow : List Value} (I : Inv X pins σ H s) (k : ∀ b o, b ∉ ch -> s.heap.get? b = some o -> h'.get? b = some o) (hf : ∀ b ∈ ch, zr2 X pins H b)
   (ht : h'.get? s.heap.objs.size = some { cls := .type "tuple", data := .seq urow.toArray }) (rv : Vals row urow) (hz : row.length <= sizeLine) : Inv X pins σ (upd H s.heap.objs.size (.tup row)) { s with heap := h', toks := t' } := by
 have nch : ∀ b u, H b = some u -> b ∉ ch := fun b u e hb => by rw [(hf b hb).1] at e; cases e
 have hn : H s.heap.objs.size = none := I.hok.fresh (ztq _)
 have old : ∀ b o, s.heap.get? b = some o -> b ≠ s.heap.objs.size := fun b o e => ztA (ztp e)
 refine I.step (g' := s.gens) (d' := s.drawn) (ch := ch) (fun b hb => ⟨(hf b hb).2.2.2.1, (hf b hb).2.1, (hf b hb).2.2.2.2.1, (hf b hb).2.2.2.2.2⟩) (fun b o _ _ hc e _ => k b o hc e) (fun b o _ _ hc e _ => ⟨o.slots, k b o hc e⟩)
   (fun b o _ e n => by rw [zal (old b o e)]; exact n)
   (fun b o hc e => ⟨o, k b o hc e⟩) (fun b xs e => by rw [zal (zak e hn)]; exact e) (fun b o u e => by rw [zal (zak e hn)]; exact e) (fun b ps e => ⟨#[], by rw [zal (zak e hn), e]; simp⟩) (fun m hm => ?_) (fun b u e => ?_) I.bare
 . obtain ⟨o, es, ep, ho, r⟩ := hm
   exact ⟨o, es, ep, k _ o (fun hb => (hf _ hb).2.1 rfl) ho, r⟩
 . by_cases hb : b = s.heap.objs.size
   . subst hb
     rw [zam] at e; cases e
     exact ⟨hz, urow, rv, ⟨_, ht, rfl, _, rfl⟩⟩
   . rw [zal hb] at e
     refine (I.hok b u e).stay (fun c v hc q => k c v ?_ q) (fun c q => by rw [zal (zak q hn)]; exact q) fun c xs q => by rw [zal (zak q hn)]; exact q
     rcases hc with rfl | hc
     . exact nch _ _ e
     . exact nch _ _ hc
end
def numV : Value -> V
 | .int i _ => .int i
 | _ => .non
def rowV (y : NK × Addr × Value) : List V := [.ref y.2.1, numV y.2.2]
def ItN (d : Addr) (n : Nat) : It :=
 ⟨fun i H => ∃ ys y j t, H d = some (zqN d ys) /\ ys.length = n /\ ys[i]? = some y /\ y.2.2 = .int j t,
  fun i H x H' => ∃ p row, x = .ref p /\ H p = none /\ H' = upd H p (.tup row) /\ ∀ ys, H d = some (zqN d ys) -> (ys[i]?).map rowV = some row,
  fun i H => ∃ ys, H d = some (zqN d ys) /\ ys.length = n /\ n <= i⟩
theorem zmH {h : Heap} {d : Addr} {xs ys : List (NK × Addr × Value)} (a : zr1 h d xs) (b : zr1 h d ys) (i : Nat) : (xs[i]?).map rowV = (ys[i]?).map rowV := by
 obtain ⟨o, es, g1, _, g3, g4, _⟩ := a
 obtain ⟨o', es', k1, _, k3, k4, _⟩ := b
 rw [g1] at k1
 cases k1
 rw [g3] at k3
 have ee : es = es' := by injection k3
 subst ee
 rw [g4] at k4
 have e : (xs.map zsM)[i]? = (ys.map zsM)[i]? := by rw [k4]
 rw [ztb, ztb] at e
 cases hx : xs[i]? with
 | none =>
   cases hy : ys[i]? with
   | none => rfl
   | some y => rw [hx, hy] at e; cases e
 | some x =>
   cases hy : ys[i]? with
   | none => rw [hx, hy] at e; cases e
   | some y =>
     rw [hx, hy] at e
     have e' : zsM x = zsM y := Option.some.inj e
     have e1 : Value.ref x.2.1 = Value.ref y.2.1 := congrArg DictEntry.key e'
     have e2 : x.2.2 = y.2.2 := congrArg DictEntry.val e'
     have e3 : x.2.1 = y.2.1 := by injection e1
     simp only [ztv, rowV, e2, e3]
theorem entI : entryFor table "dict_itemiterator.__iter__" = some Builtin.«dict_keyiterator.__iter__» := entryFor_alias (id' := "dict_keyiterator.__iter__") (by kernel_rfl) rfl (by decide +kernel) (by kernel_rfl)
theorem zhh {P : Program} {w : World} {K : PySem.W.Frag} {es : List Expr} {kk : Nat} {tp : Pos} (d it : Addr) (n : Nat) :
   Turn P w K (.Tuple es kk tp) (ItN d n) [it] it (fun i h => ∃ ok ov, IsItemIter h it d i n n ok ov) where
 mem := by simp
 obj := fun i h ⟨ok, ov, st⟩ b hb => by
   have e : b = it := by simpa using hb
   subst e
   exact ⟨_, st, fun v z => by cases z⟩
 keep := fun i h h' ⟨ok, ov, st⟩ k => ⟨ok, ov, k it (by simp) _ st⟩
 item := by
   intro X hP hw hK hc i pins s σ H E I hf st hg
   subst hP hw hK
   obtain ⟨ok, ov, st⟩ := st
   obtain ⟨ys, ⟨k, b, v⟩, j, tj, hd, hn, hx, hv⟩ := hg
   subst hn
   have hv' : v = .int j tj := hv
   subst hv'
   obtain ⟨h0, hl, dd⟩ := zcw I hd
   have fi := hf it (by simp)
   refine zmc st dd hx fun h' a1 a2 a3 a4 => ?_
   refine ⟨_, rfl, wpAny_letOwnedTupleGo_items (s := { s with heap := h' }) a1 fun h'' b1 b2 => ?_⟩
   have hne : s.heap.objs.size ≠ it := Nat.ne_of_gt (ztp st)
   have kp : ∀ c o, c ∉ [it] -> s.heap.get? c = some o -> h''.get? c = some o := fun c o hc e => by
     have c1 : c ≠ it := fun q => hc (by simp [q])
     exact b2.extBut _ _ c1 (a4 c o c1 e)
   have rv : Vals (rowV (k, b, .int j tj)) [.ref b, .int j tj] := .cons rfl (.cons ⟨tj, rfl⟩ .nil)
   have I1 : Inv X pins σ (upd H s.heap.objs.size (.tup (rowV (k, b, .int j tj)))) { s with heap := h'' } := turnedT (t' := s.toks) I kp (fun b hb => hf b hb) (b2.extBut _ _ hne a2) rv (by show 2 <= sizeLine; decide)
   refine ⟨.ref s.heap.objs.size, _, I1, rfl, ⟨s.heap.objs.size, _, rfl, I.hok.fresh (ztq _), rfl, fun ys' h => ?_⟩, ⟨_, _, b1⟩, fun c hb => ?_⟩
   . have := zmH dd (zcw I h).2.2 i
     rw [hx] at this
     exact this.symm
   . have e : c = it := by simpa using hb
     subst e
     rw [zal (Ne.symm hne)]; exact fi.1
 done := by
   intro X hP hw hK hc i pins s σ H E I hf st hg
   subst hP hw hK
   obtain ⟨ok, ov, st⟩ := st
   obtain ⟨ys, hd, hn, hx⟩ := hg
   subst hn
   obtain ⟨f0, f1, f2, f3, f4, f5⟩ := hf it (by simp)
   exact zmd (I.ok.hd hc) st (zcw I hd).2.2 hx fun h' eb => ⟨rfl, I.turned (t' := s.toks) (fun b o hb e => eb b o hb e) f0 f1 f3 f4 f5⟩
 self := fun A i s Q E ⟨ok, ov, st⟩ h => by
   have tI : s.TypeIs (.ref it) "dict_itemiterator" := ⟨_, st, rfl⟩
   refine wpAny_pyIter_slot tI F.slot_dict_itemiterator_iter (wpAny_call_entry F.slot_dict_itemiterator_iter tI entI ?_ (F.args_dict_itemiterator_iter_1 _))
   exact ztn ⟨_, rfl, "dict_itemiterator", _, tI, F.slot_dict_itemiterator_next.lookup, h⟩
def iItm (to : TE) : TI := fun σ H R => to σ H fun x H1 => ∃ a ys, x = .ref a /\ H1 a = some (zqN a ys) /\ R (ItN a ys.length) H1
theorem zjt {X : Cx} {pins : List (Addr × Obj)} {σ : L2.St} {H : Hp} {s : Shared} {a : Addr} {ys : List (NK × Addr × Value)} (I : Inv X pins σ H s) (e : H a = some (zqN a ys)) : s.TypeIs (.ref a) "dict" /\ ∀ c, Value.ref a = .ref c -> ∃ ob, s.heap.get? c = some ob /\ ob.dict = none := by
 obtain ⟨_, _, o, es, g1, g2, _⟩ := zcw I e
 exact ⟨⟨o, g1, g2.1⟩, fun c z => by cases z; exact ⟨o, g1, g2.2.1⟩⟩
theorem zj8 {X : Cx} {es : List Expr} {kk : Nat} {tp apos cpos : Pos} {o : Expr} {to : TE} (ho : PE X o to) (hbase : attributeBase o "items" X.env (eval o X.env) = eval o X.env) (hline : (apos.endLine == cpos.line) = true) :
   PI X (.Tuple es kk tp) (.Call (.Attribute o "items" apos) [] [] cpos) (iItm to) := by
 intro pins s σ H R I h
 refine wpAny_Call_method0_late hbase hline (thn (ho pins s σ H _ I h) fun v s1 ⟨x, H1, I1, r1, q1⟩ => ?_)
 obtain ⟨a, ys, rfl, hd, q⟩ := q1
 cases r1
 obtain ⟨d1, d2⟩ := zjt I1 hd
 obtain ⟨h0, hl, dd⟩ := zcw I1 hd
 refine ⟨"dict", "dict.items", F.plainAttrs_dict, F.slot_dict_items, F.type_dict_items, d1, d2, Calls.callWith_builtin rfl (PySem.evalArgs_none ?_)⟩
 refine call_meetsIn F.slot_dict_items d1 F.entry_dict_items (F.args_dict_items_1 _) (zkf a h0) ⟨d1, ?_⟩
 have I2 : Inv X pins σ H1 { s1 with heap := s1.heap.push { cls := .type "dict_items", data := .fields #[.ref a] } } := I1.kept (t' := s1.toks) fun b o e => zs1 _ e
 refine zko (xs := ys) ⟨_, ztk _ rfl, rfl, rfl⟩ (zcw I2 hd).2.2 ?_
 refine ⟨_, [_], _, _, H1, rfl, I2.kept (t' := s1.toks) fun b o e => zs1 _ e, zhh a _ ys.length, ⟨.none, .none, ztk _ rfl⟩, fun b hb => ?_, q⟩
 have e := List.mem_singleton.mp hb
 subst e
 exact I2.fpOk (ztq _) (I2.hok.fresh (ztq _))
theorem zpd {X : Cx} {o e : Expr} {es : List Expr} {to : TE} {t : TA} {name : Str} {apos cpos : Pos} {id : String} {r : V -> List V -> Hp -> VK -> Prop} (slot : Slot "dict" name id) (hty : typeOf (.builtin id) = pure (.type "method_descriptor")) (hm : MtR X id r) (ho : PE X o to) (ha : PA X (e :: es) t)
   (hbase : attributeBase o name X.env (eval o X.env) = eval o X.env)
   (hfew : ((backTo cpos (starEach (e :: es) X.env)).all (fun x => !x.1) && (backToKw cpos (keywordEach [] X.env)).all (fun x => x.1.isSome)
     && decide ((e :: es).length + ([] : List Keyword).length + (if ([] : List Keyword).isEmpty then 0 else 1) < 30)) = true)
   (hline : (apos.endLine == cpos.line) = true) (hs : starEach (e :: es) X.env = (false, eval e X.env) :: starEach es X.env) (hplain : (backTo cpos (starEach es X.env)).any (·.1) = false) :
   PE X (.Call (.Attribute o name apos) (e :: es) [] cpos) (fun σ H Q => to σ H fun x H1 => (∃ a ys, x = .ref a /\ H1 a = some (zqN a ys)) /\ t σ H1 fun xs H2 => r x xs H2 Q) := by
 intro pins s σ H Q I h
 refine wpAny_Call_method_late hbase hfew hline rfl (thn (ho pins s σ H _ I h) fun v s1 ⟨x, H1, I1, r1, ty, q1⟩ => ?_)
 obtain ⟨a, ys, rfl, hd⟩ := ty
 have rr := r1
 cases r1
 obtain ⟨d1, d2⟩ := zjt I1 hd
 refine ⟨"dict", id, F.plainAttrs_dict, slot, hty, d1, d2, ?_⟩
 have hA := ha cpos pins s1 σ H1 _ I1 q1
 rw [hs] at hA ⊢
 refine Calls.callWith_builtin (by show (false || (backTo cpos (starEach es X.env)).any (·.1)) = false; rw [hplain] <;> rfl) (Calls.evalArgs_plain ?_)
 exact thn hA fun us s2 ⟨vs, H2, I2, r2, q2⟩ => hm pins s2 σ H2 _ vs _ us Q I2 rr r2 q2
def rSetN (K : PySem.W.Frag) : V -> V -> V -> Hp -> (Hp -> Prop) -> Prop := fun o i v H Q => ∃ a b k ys j, o = .ref a /\ i = .ref b /\ v = .int j /\ H a = some (zqN a ys) /\ (∀ y ∈ ys, NKey K H y.1 y.2.1) /\ NKey K H k b /\ ys.length < sizeLine /\ ∀ t, Q (upd H a (zqN a (storedH ys k b (.int j t))))
theorem zjW {X : Cx} (hu : X.A.units + 64 < cLine) : PSet X (rSetN X.K) := by
 intro pins s σ H o i v ov iv u Q I ro ri rv h
 obtain ⟨a, b, k, ys, j, rfl, rfl, rfl, hd, hk, hb, hl, q⟩ := h
 cases ro
 cases ri
 obtain ⟨t, rfl⟩ := rv
 exact zoE (by omega) I hd hk hb hl fun s' I' => ⟨_, I', q t⟩
theorem PSet.or {X : Cx} {t t' : TSet} (h : PSet X t) (h' : PSet X t') : PSet X (fun o i v H Q => t o i v H Q \/ t' o i v H Q) := fun pins s σ H o i v ov iv u Q I ro ri rv q => by
 rcases q with q | q
 . exact h pins s σ H o i v ov iv u Q I ro ri rv q
 . exact h' pins s σ H o i v ov iv u Q I ro ri rv q
def rGetN (K : PySem.W.Frag) : V -> List V -> Hp -> VK -> Prop := fun x xs H Q => ∃ a b k ys i j, x = .ref a /\ xs = [.ref b, .int i] /\ H a = some (zqN a ys) /\ (∀ y ∈ ys, NKey K H y.1 y.2.1) /\ NKey K H k b /\ ((atKey ys k = none /\ j = i) \/ ∃ c t, atKey ys k = some (c, .int j t)) /\ Q (.int j) H
theorem zn4 {X : Cx} (hu : X.A.units + 64 < cLine) : MtR X "dict.get" (rGetN X.K) := by
 intro pins s σ H x xs v us Q I r rs h
 obtain ⟨a, b, k, ys, i, j, rfl, rfl, hd, hk, hb, hj, q⟩ := h
 cases r
 cases rs with
 | cons r1 rs =>
   cases r1
   cases rs with
   | cons r2 rs =>
     cases rs
     obtain ⟨t, rfl⟩ := r2
     refine zoF (by omega) I hd hk hb fun s' I' => ?_
     rcases hj with ⟨e, rfl⟩ | ⟨c, t', e⟩
     . rw [e]; exact ⟨.int j, H, I', ⟨t, rfl⟩, q⟩
     . rw [e]; exact ⟨.int j, H, I', ⟨t', rfl⟩, q⟩
section
variable {prog : Program} {w : World} {A : Around} {E : Value -> Shared -> Prop}
theorem zk1 {it l : Addr} {us : Array Value} (ne : l ≠ it) : ∀ (n i : Nat) (t : Shared) (Q : List Value -> Shared -> Prop), t.heap.IsListIter it l i -> t.heap.IsList l us -> i + n <= us.size ->
   (∀ h', h'.IsListIter it l (i + n) -> Heap.SameBut it t.heap h' -> Q ((us.toList.drop i).take n) { t with heap := h' }) -> wpAny (model prog w) A (draw (.ref it) n) Q E t
 | 0, i, t, Q, g, _, _, q => by
   show wpAny _ _ (pure []) Q E t
   exact ztn (by simpa using q t.heap g (Heap.SameBut.refl ..))
 | n + 1, i, t, Q, g, gl, le, q => by
   have lt : i < us.size := by omega
   show wpAny _ _ (pyNext (.ref it) >>= _) Q E t
   refine ztm (wpAny_pyNext_list_item g gl (x := us[i]) (by simp [lt]) fun k₁ g₁ s₁ => ?_)
   have gl₁ : k₁.IsList l us := let ⟨o, e, r⟩ := gl; ⟨o, s₁.extBut _ _ ne e, r⟩
   refine ztm (wpAny_holding (zk1 ne n (i + 1) _ _ g₁ gl₁ (by omega) fun k₂ g₂ s₂ => ztn ?_))
   have e : us.toList.drop i = us[i] :: us.toList.drop (i + 1) := by simp [List.drop_eq_getElem_cons, lt]
   have z := q k₂ (by rw [show i + (n + 1) = i + 1 + n by omega]; exact g₂) (s₁.trans s₂)
   rw [e, List.take_succ_cons] at z
   exact z
theorem zjH {l : Addr} {us : Array Value} {t : Shared} {Q : List Value -> Shared -> Prop} (hh : A.handled = none) (gl : t.heap.IsList l us)
   (q : ∀ h', Heap.ExtBut t.heap.objs.size t.heap h' -> Q us.toList { t with heap := h' }) : wpAny (model prog w) A (unpackItems (.ref l) us.size none) Q E t := by
 have ne : l ≠ t.heap.objs.size := by obtain ⟨o, e, _⟩ := gl; exact ztA (ztp e)
 have gp : ∀ o, (t.heap.push o).IsList l us := fun o => let ⟨u, e, r⟩ := gl; ⟨u, zs1 _ e, r⟩
 unfold unpackItems notIterableAtAll
 refine ztm (ztm (wpAny_specialOf gl.typeIs slot_list_iter.lookup (ztn ?_)))
 simp only [Bool.false_eq_true, if_false]
 refine ztm (wpAny_holding (wpAny_pyIter_list gl (ztm (wpAny_holding (zk1 ne us.size 0 _ _ ⟨_, ztk _ rfl, rfl, rfl⟩ (gp _) (by omega) fun k₁ g₁ s₁ => ?_)))))
 rw [show List.take us.size (List.drop 0 us.toList) = us.toList by rw [List.drop_zero]; exact List.take_of_length_le (by simp), if_neg (by simp)]
 have gl₁ : k₁.IsList l us := let ⟨o, e, r⟩ := gp _; ⟨o, s₁.extBut _ _ ne e, r⟩
 refine ztm (wpAny_holding (wpAny_pyNext_list_end hh g₁ gl₁ (by simp) fun k₂ e₂ => ?_))
 simp only [Option.isSome_none, Bool.false_eq_true, if_false]
 exact ztn (q k₂ fun c o hc e => e₂ c o hc (s₁.extBut c o hc (zs1 _ e)))
end
def gTupL (K : PySem.W.Frag) (n : Nat) (t : TGs) : TG := fun v σ H Q => ∃ a xs, v = .ref a /\ SqL K H a xs /\ xs.length = n /\ t xs σ H Q
theorem zlM {X : Cx} {pos : Pos} {es : List Expr} {k : Nat} {t : TGs} {n : Nat} (hc : X.calm = true) (h : PGs X es t) (hn : (assignEach es X.env).length = n) (hst : (assignEach es X.env).findIdx? (·.1) = none) : PG X (.Tuple es k pos) (gTupL X.K n t) := by
 intro pins s σ H v u Q I r hw
 obtain ⟨a, xs, rfl, hq, hl, hw⟩ := hw
 cases r
 obtain ⟨its, rv, ht, hz⟩ := I.list hq
 rw [arm_assign_Tuple]
 refine ztm (wpAny_standAt ?_)
 unfold unpack
 have el : (assignEach es X.env).length = its.toArray.size := by simp [hn, <- hl, rv.length]
 rw [el, hst]
 refine ztm (wpAny_holding (zjH (I.ok.hd hc) ht.isList fun h' hx => ?_))
 have I1 : Inv X pins σ H { s with heap := h' } := I.kept (t' := s.toks) fun b o e => hx b o (ztA (ztp e)) e
 exact h pins _ σ H xs _ Q I1 (by simpa using rv) hw
theorem PG.or {X : Cx} {e : Expr} {t t' : TG} (h : PG X e t) (h' : PG X e t') : PG X e (fun v σ H Q => t v σ H Q \/ t' v σ H Q) := fun pins s σ H v u Q I r q => by
 rcases q with q | q
 . exact h pins s σ H v u Q I r q
 . exact h' pins s σ H v u Q I r q
end MX
end
section
namespace MZ
open PySem PySem.Spec PyProof.Rows L2
def rowAt {α : Type} : List (List α) -> Nat -> Option (List α)
 | [], _ => some []
 | xs :: r, i => (xs[i]?).bind fun x => (rowAt r i).map (x :: ·)
section
variable {X : Cx} {pins : List (Addr × Obj)} {σ : L2.St} {H : Hp} {s : Shared}
end
end MZ
end
section
namespace MX
open PySem PySem.Spec PyProof.Rows L2
inductive D where
 | non | bl (b : Bool) | int (i : Int) | str (x : Str) | tup (xs : List D) | ref (n : Nat)
 | ty (n : String) | adr (a : Addr)
inductive O where
 | lst (xs : List D)
 | frz (xs : List D)
 | ins (C : Addr) (fs : List (Str × D))
 | dct (xs : List (NK × Int))
abbrev Sg := List (Option D)
abbrev So := List O
mutual
inductive Rep (K : PySem.W.Frag) (H : Hp) (α : List Addr) : D -> V -> Prop
 | non : Rep K H α .non .non
 | bl (b : Bool) : Rep K H α (.bl b) (.bl b)
 | int (i : Int) : Rep K H α (.int i) (.int i)
 | str (x : Str) : Rep K H α (.str x) (.str x)
 | tup {a : Addr} {ds : List D} {vs : List V} : SqT K H a vs -> Reps K H α ds vs -> Rep K H α (.tup ds) (.ref a)
 | ref {n : Nat} {a : Addr} : α[n]? = some a -> Rep K H α (.ref n) (.ref a)
 | ty (n : String) : Rep K H α (.ty n) (.ty n)
 | adr (a : Addr) : Rep K H α (.adr a) (.ref a)
inductive Reps (K : PySem.W.Frag) (H : Hp) (α : List Addr) : List D -> List V -> Prop
 | nil : Reps K H α [] []
 | cons {d : D} {v : V} {ds : List D} {vs : List V} : Rep K H α d v -> Reps K H α ds vs -> Reps K H α (d :: ds) (v :: vs)
end
structure Ext (K : PySem.W.Frag) (H : Hp) (α : List Addr) (H' : Hp) (α' : List Addr) : Prop where
 tups : ∀ a vs, SqT K H a vs -> SqT K H' a vs
 pre : ∀ (n : Nat) a, α[n]? = some a -> α'[n]? = some a
section
variable {K : PySem.W.Frag} {H H' H'' : Hp} {α α' α'' : List Addr}
theorem Ext.refl : Ext K H α H α := ⟨fun _ _ h => h, fun _ _ h => h⟩
theorem Ext.trans (a : Ext K H α H' α') (b : Ext K H' α' H'' α'') : Ext K H α H'' α'' := ⟨fun c vs h => b.tups c vs (a.tups c vs h), fun n c h => b.pre n c (a.pre n c h)⟩
mutual
theorem Rep.mono (e : Ext K H α H' α') : ∀ {d : D} {v : V}, Rep K H α d v -> Rep K H' α' d v
 | _, _, .non => .non
 | _, _, .bl b => .bl b
 | _, _, .int i => .int i
 | _, _, .str x => .str x
 | _, _, .tup h r => .tup (e.tups _ _ h) (Reps.mono e r)
 | _, _, .ref h => .ref (e.pre _ _ h)
 | _, _, .ty n => .ty n
 | _, _, .adr a => .adr a
theorem Reps.mono (e : Ext K H α H' α') : ∀ {ds : List D} {vs : List V}, Reps K H α ds vs -> Reps K H' α' ds vs
 | _, _, .nil => .nil
 | _, _, .cons h r => .cons (Rep.mono e h) (Reps.mono e r)
end
theorem Reps.length : ∀ {ds : List D} {vs : List V}, Reps K H α ds vs -> ds.length = vs.length
 | _, _, .nil => rfl
 | _, _, .cons _ r => by simp [Reps.length r]
theorem Reps.get : ∀ {ds : List D} {vs : List V} {i : Nat} {d : D}, Reps K H α ds vs -> ds[i]? = some d -> ∃ v, vs[i]? = some v /\ Rep K H α d v
 | _, _, _, _, .nil, e => by simp at e
 | _, _, 0, _, .cons h _, e => by simp at e; subst e; exact ⟨_, rfl, h⟩
 | _, _, i + 1, _, .cons _ r, e => by
   obtain ⟨v, h1, h2⟩ := Reps.get (i := i) r (by simpa using e)
   exact ⟨v, by simpa using h1, h2⟩
theorem Reps.append : ∀ {ds es : List D} {vs ws : List V}, Reps K H α ds vs -> Reps K H α es ws -> Reps K H α (ds ++ es) (vs ++ ws)
 | _, _, _, _, .nil, s => s
 | _, _, _, _, .cons h r, s => .cons h (Reps.append r s)
theorem Reps.take : ∀ {ds : List D} {vs : List V} (n : Nat), Reps K H α ds vs -> Reps K H α (ds.take n) (vs.take n)
 | _, _, 0, _ => by simp; exact .nil
 | _, _, _ + 1, .nil => .nil
 | _, _, n + 1, .cons h r => .cons h (Reps.take n r)
theorem Reps.drop : ∀ {ds : List D} {vs : List V} (n : Nat), Reps K H α ds vs -> Reps K H α (ds.drop n) (vs.drop n)
 | _, _, 0, r => by simpa using r
 | _, _, _ + 1, .nil => .nil
 | _, _, n + 1, .cons h r => by simpa using Reps.drop n r
theorem Reps.set {d : D} {v : V} (h : Rep K H α d v) : ∀ {ds : List D} {vs : List V} (i : Nat), Reps K H α ds vs -> Reps K H α (ds.set i d) (vs.set i v)
 | _, _, _, .nil => .nil
 | _, _, 0, .cons _ r => .cons h r
 | _, _, i + 1, .cons q r => .cons q (Reps.set h i r)
theorem Reps.reverse {ds : List D} {vs : List V} (r : Reps K H α ds vs) : Reps K H α ds.reverse vs.reverse := by
 induction ds generalizing vs with
 | nil => cases r; exact .nil
 | cons d ds ih =>
   cases r with
   | cons h r =>
     rw [List.reverse_cons, List.reverse_cons]
     exact (ih r).append (.cons h .nil)
theorem Same.tups (s : Same H H') : ∀ a vs, SqT K H a vs -> SqT K H' a vs := fun a vs h => by
 rcases h with (h | ⟨o, h⟩) | h
 . exact .inl (.inl (s _ _ h))
 . exact .inl (.inr ⟨o, s _ _ h⟩)
 . exact .inr h
theorem Same.ext (s : Same H H') : Ext K H α H' α := ⟨Same.tups s, fun _ _ h => h⟩
theorem zbX {p : Addr} {o : HO} (h : H p = none) : Same H (upd H p o) := fun b u e => by rw [zal (zak e h)]; exact e
def FzL (K : PySem.W.Frag) (H : Hp) (a : Addr) (xs : List V) : Prop :=
 (∃ o, H a = some (.frz o (.lst xs))) \/
   ∃ (o : Obj) (its : Array Value) (n : Nat), K.lookup a = some o /\ o.cls = .type "list" /\ o.dict = none /\ o.data = .seq its n /\ its.size <= sizeLine /\ Vals xs its.toList
theorem FzL.sq {a : Addr} {xs : List V} (h : FzL K H a xs) : SqL K H a xs := by
 rcases h with h | h
 . exact .inl (.inr h)
 . exact .inr h
theorem FzL.same {a : Addr} {xs : List V} (s : Same H H') (h : FzL K H a xs) : FzL K H' a xs := by
 rcases h with ⟨o, h⟩ | h
 . exact .inl ⟨o, s _ _ h⟩
 . exact .inr h
def O.own : O -> Bool
 | .frz _ => false
 | _ => true
def ObjR (K : PySem.W.Frag) (H : Hp) (α : List Addr) (a : Addr) : O -> Prop
 | .lst ds => ∃ vs, H a = some (.lst vs) /\ Reps K H α ds vs
 | .frz ds => ∃ vs, FzL K H a vs /\ Reps K H α ds vs
 | .ins C fs => ∃ dx gs, H a = some (.ins C dx gs) /\ fs.map (·.1) = gs.map (·.1) /\ Reps K H α (fs.map (·.2)) (gs.map (·.2))
 | .dct xs => ∃ ys, H a = some (zqN a ys) /\ DR K H xs ys
structure StoreR (K : PySem.W.Frag) (H : Hp) (α : List Addr) (S : So) : Prop where
 len : α.length = S.length
 nd : ∀ (n m : Nat) o o' a, S[n]? = some o -> S[m]? = some o' -> O.own o = true -> O.own o' = true -> α[n]? = some a -> α[m]? = some a -> n = m
 obj : ∀ (n : Nat) o a, S[n]? = some o -> α[n]? = some a -> ObjR K H α a o
def VarsR (K : PySem.W.Frag) (H : Hp) (α : List Addr) (σd : Sg) (σ : L2.St) : Prop :=
 σd.length = σ.length /\ ∀ (i : Nat) d, σd[i]? = some (some d) -> ∃ v, σ[i]? = some (some v) /\ Rep K H α d v
theorem VarsR.mono {σd : Sg} {σ : L2.St} (e : Ext K H α H' α') (h : VarsR K H α σd σ) : VarsR K H' α' σd σ :=
 ⟨h.1, fun i d q => let ⟨v, h1, h2⟩ := h.2 i d q; ⟨v, h1, h2.mono e⟩⟩
theorem VarsR.set {σd : Sg} {σ : L2.St} {d : D} {v : V} (h : VarsR K H α σd σ) (r : Rep K H α d v) (i : Nat) : VarsR K H α (σd.set i (some d)) (σ.set i (some v)) := by
 refine ⟨by simpa using h.1, fun j e q => ?_⟩
 by_cases hj : j = i
 . subst hj
   by_cases hlt : j < σd.length
   . rw [List.getElem?_set_self hlt] at q
     cases q
     exact ⟨v, by rw [List.getElem?_set_self (by rw [<- h.1]; exact hlt)], r⟩
   . rw [ztL (by simpa using hlt)] at q; cases q
 . rw [List.getElem?_set_ne (Ne.symm hj)] at q
   obtain ⟨u, h1, h2⟩ := h.2 j e q
   exact ⟨u, by rw [List.getElem?_set_ne (Ne.symm hj)]; exact h1, h2⟩
theorem ObjR.mono {a : Addr} {o : O} (s : Same H H') (e : Ext K H α H' α') (h : ObjR K H α a o) : ObjR K H' α' a o := by
 cases o with
 | lst ds => obtain ⟨vs, h1, h2⟩ := h; exact ⟨vs, s _ _ h1, h2.mono e⟩
 | frz ds => obtain ⟨vs, h1, h2⟩ := h; exact ⟨vs, FzL.same s h1, h2.mono e⟩
 | ins C fs => obtain ⟨dx, gs, h1, h2, h3⟩ := h; exact ⟨dx, gs, s _ _ h1, h2, h3.mono e⟩
 | dct xs => obtain ⟨ys, h1, h2⟩ := h; exact ⟨ys, s _ _ h1, h2.mono e.tups⟩
theorem StoreR.mono {S : So} (s : Same H H') (h : StoreR K H α S) : StoreR K H' α S :=
 ⟨h.len, h.nd, fun n o a h1 h2 => (h.obj n o a h1 h2).mono s (Same.ext s)⟩
theorem ObjR.some {a : Addr} {o : O} (h : ObjR K H α a o) (w : O.own o = true) : ∃ u, H a = some u := by
 cases o with
 | lst ds => obtain ⟨vs, h1, _⟩ := h; exact ⟨_, h1⟩
 | frz ds => cases w
 | ins C fs => obtain ⟨dx, gs, h1, _⟩ := h; exact ⟨_, h1⟩
 | dct xs => obtain ⟨ys, h1, _⟩ := h; exact ⟨_, h1⟩
theorem getElem?_snoc {α : Type} {l : List α} {x y : α} {n : Nat} (h : (l ++ [x])[n]? = some y) : l[n]? = some y \/ (n = l.length /\ y = x) := by
 by_cases hn : n < l.length
 . rw [zti hn] at h; exact .inl h
 . rw [ztj (by omega)] at h
   by_cases h0 : n - l.length = 0
   . rw [h0] at h; simp at h; exact .inr ⟨by omega, h.symm⟩
   . rw [ztL (by simp; omega)] at h; cases h
theorem StoreR.snoc {S : So} {p : Addr} {o : O} {u : HO} (h : StoreR K H α S) (hp : H p = none) (ho : ∀ α', Ext K H α (upd H p u) α' -> ObjR K (upd H p u) α' p o) :
   StoreR K (upd H p u) (α ++ [p]) (S ++ [o]) /\ Ext K H α (upd H p u) (α ++ [p]) := by
 have s : Same H (upd H p u) := zbX hp
 have e : Ext K H α (upd H p u) (α ++ [p]) := ⟨Same.tups s, fun n a q => by rw [zti (zsX.mp q).1]; exact q⟩
 have old : ∀ {n : Nat} {o' : O} {a : Addr}, S[n]? = some o' -> (α ++ [p])[n]? = some a -> α[n]? = some a := fun {n o' a} h1 h2 => by
   have hn : n < α.length := by rw [h.len]; exact (zsX.mp h1).1
   rw [zti hn] at h2
   exact h2
 have lastA : (α ++ [p])[S.length]? = some p := by rw [<- h.len]; simp
 have apart : ∀ {n : Nat} {o' : O}, S[n]? = some o' -> O.own o' = true -> ¬ (α ++ [p])[n]? = some p := fun {n o'} h1 w h2 => by
   obtain ⟨u, z⟩ := (h.obj n o' p h1 (old h1 h2)).some w
   rw [hp] at z; cases z
 refine ⟨⟨by simp [h.len], fun n m o1 o2 a h1 h2 w1 w2 a1 a2 => ?_, fun n o' a h1 h2 => ?_⟩, e⟩
 . rcases getElem?_snoc h1 with q1 | ⟨e1, e2⟩ <;> rcases getElem?_snoc h2 with q2 | ⟨e3, e4⟩
   . exact h.nd n m o1 o2 a q1 q2 w1 w2 (old q1 a1) (old q2 a2)
   . rw [e3, lastA] at a2; cases a2
     exact absurd a1 (apart q1 w1)
   . rw [e1, lastA] at a1; cases a1
     exact absurd a2 (apart q2 w2)
   . rw [e1, e3]
 . rcases getElem?_snoc h1 with h1 | ⟨rfl, rfl⟩
   . exact (h.obj n o' a h1 (old h1 h2)).mono s e
   . rw [lastA] at h2; cases h2
     exact ho _ e
theorem StoreR.put {S : So} {n : Nat} {a : Addr} {o₀ o : O} {u₀ u : HO} (h : StoreR K H α S) (hn : S[n]? = some o₀) (w₀ : O.own o₀ = true) (w : O.own o = true) (ha : α[n]? = some a) (hv : H a = some u₀)
   (hu : (∃ vs, u₀ = .lst vs) \/ ∃ f, u₀ = .ext f)
   (ho : Ext K H α (upd H a u) α -> ObjR K (upd H a u) α a o) : StoreR K (upd H a u) α (S.set n o) /\ Ext K H α (upd H a u) α := by
 have nt : ∀ ws, HO.tup ws ≠ u₀ := fun ws z => by rcases hu with ⟨vs, e⟩ | ⟨f, e⟩ <;> (rw [e] at z; cases z)
 have nf : ∀ ob x, HO.frz ob x ≠ u₀ := fun ob x z => by rcases hu with ⟨vs, e⟩ | ⟨f, e⟩ <;> (rw [e] at z; cases z)
 have e : Ext K H α (upd H a u) α := ⟨fun b ws q => by
   rcases q with (q | ⟨o, q⟩) | q
   . exact .inl (.inl (by rw [zal (zmf q hv (nt _))]; exact q))
   . exact .inl (.inr ⟨o, by rw [zal (zmf q hv (nf _ _))]; exact q⟩)
   . exact .inr q, fun _ _ q => q⟩
 have hlt : n < S.length := (zsX.mp hn).1
 have at' : ∀ {m : Nat} {o' : O}, (S.set n o)[m]? = some o' -> (m = n /\ o' = o) \/ (m ≠ n /\ S[m]? = some o') := fun {m o'} h1 => by
   by_cases hm : m = n
   . subst hm
     rw [List.getElem?_set_self hlt] at h1
     exact .inl ⟨rfl, (Option.some.inj h1).symm⟩
   . rw [List.getElem?_set_ne (Ne.symm hm)] at h1
     exact .inr ⟨hm, h1⟩
 refine ⟨⟨by simpa using h.len, fun m k o1 o2 b h1 h2 w1 w2 b1 b2 => ?_, fun m o' b h1 h2 => ?_⟩, e⟩
 . rcases at' h1 with ⟨e1, e2⟩ | ⟨n1, q1⟩ <;> rcases at' h2 with ⟨e3, e4⟩ | ⟨n2, q2⟩
   . rw [e1, e3]
   . rw [e1] at b1 ⊢
     exact h.nd _ _ o₀ o2 b hn q2 w₀ w2 b1 b2
   . rw [e3] at b2 ⊢
     exact h.nd _ _ o1 o₀ b q1 hn w1 w₀ b1 b2
   . exact h.nd _ _ o1 o2 b q1 q2 w1 w2 b1 b2
 . rcases at' h1 with ⟨rfl, rfl⟩ | ⟨hm, h1⟩
   . rw [ha] at h2; cases h2
     exact ho e
   . have q := h.obj m o' b h1 h2
     have hba : O.own o' = true -> b ≠ a := fun w' z => hm (by subst z; exact h.nd m n o' o₀ b h1 hn w' w₀ h2 ha)
     cases o' with
     | lst ds => obtain ⟨ws, q1, q2⟩ := q; exact ⟨ws, by rw [zal (hba rfl)]; exact q1, q2.mono e⟩
     | frz ds =>
       obtain ⟨ws, q1, q2⟩ := q
       refine ⟨ws, ?_, q2.mono e⟩
       rcases q1 with ⟨ob, q1⟩ | q1
       . exact .inl ⟨ob, by rw [zal (zmf q1 hv (nf _ _))]; exact q1⟩
       . exact .inr q1
     | ins C fs => obtain ⟨dx, gs, q1, q2, q3⟩ := q; exact ⟨dx, gs, by rw [zal (hba rfl)]; exact q1, q2, q3.mono e⟩
     | dct xs => obtain ⟨ys, q1, q2⟩ := q; exact ⟨ys, by rw [zal (hba rfl)]; exact q1, q2.mono e.tups⟩
end
mutual
def D.lo (n : Nat) : D -> Bool
 | .tup xs => los n xs
 | .ref m => decide (m < n)
 | _ => true
def los (n : Nat) : List D -> Bool
 | [] => true
 | d :: ds => D.lo n d && los n ds
end
def O.lo (n : Nat) : O -> Bool
 | .lst xs => los n xs
 | .frz xs => los n xs
 | .ins _ fs => los n (fs.map (·.2))
 | .dct _ => true
section
variable {K : PySem.W.Frag} {H : Hp} {α β : List Addr}
mutual
theorem Rep.lo : ∀ {d : D} {v : V}, Rep K H α d v -> D.lo α.length d = true
 | _, _, .non => by simp [D.lo]
 | _, _, .bl _ => by simp [D.lo]
 | _, _, .int _ => by simp [D.lo]
 | _, _, .str _ => by simp [D.lo]
 | _, _, .tup _ r => by rw [D.lo]; exact Reps.lo r
 | _, _, .ref h => by rw [D.lo]; exact decide_eq_true (zsX.mp h).1
 | _, _, .ty _ => by simp [D.lo]
 | _, _, .adr _ => by simp [D.lo]
theorem Reps.lo : ∀ {ds : List D} {vs : List V}, Reps K H α ds vs -> los α.length ds = true
 | _, _, .nil => by simp [los]
 | _, _, .cons h r => by rw [los, Rep.lo h, Reps.lo r]; rfl
end
mutual
theorem Rep.cut (n : Nat) : ∀ {d : D} {v : V}, Rep K H α d v -> D.lo n d = true -> Rep K H (α.take n) d v
 | _, _, .non, _ => .non
 | _, _, .bl b, _ => .bl b
 | _, _, .int i, _ => .int i
 | _, _, .str x, _ => .str x
 | _, _, .tup h r, b => .tup h (Reps.cut n r (by rw [D.lo] at b; exact b))
 | _, _, .ref h, b => .ref (by
     rw [D.lo] at b
     rw [List.getElem?_take_of_lt (of_decide_eq_true b)]; exact h)
 | _, _, .ty n, _ => .ty n
 | _, _, .adr a, _ => .adr a
theorem Reps.cut (n : Nat) : ∀ {ds : List D} {vs : List V}, Reps K H α ds vs -> los n ds = true -> Reps K H (α.take n) ds vs
 | _, _, .nil, _ => .nil
 | _, _, .cons h r, b => by
   rw [los, zs5] at b
   exact .cons (Rep.cut n h b.1) (Reps.cut n r b.2)
end
theorem ObjR.lo {a : Addr} {o : O} (h : ObjR K H α a o) : O.lo α.length o = true := by
 cases o with
 | lst ds => obtain ⟨_, _, r⟩ := h; exact r.lo
 | frz ds => obtain ⟨_, _, r⟩ := h; exact r.lo
 | ins C fs => obtain ⟨_, _, _, _, r⟩ := h; exact r.lo
 | dct xs => rfl
theorem ObjR.cut {a : Addr} {o : O} (n : Nat) (h : ObjR K H α a o) (b : O.lo n o = true) : ObjR K H (α.take n) a o := by
 cases o with
 | lst ds => obtain ⟨vs, h1, r⟩ := h; exact ⟨vs, h1, r.cut n b⟩
 | frz ds => obtain ⟨vs, h1, r⟩ := h; exact ⟨vs, h1, r.cut n b⟩
 | ins C fs => obtain ⟨dx, gs, h1, h2, r⟩ := h; exact ⟨dx, gs, h1, h2, r.cut n b⟩
 | dct xs => exact h
def WF (S : So) : Prop := ∀ o ∈ S, O.lo S.length o = true
theorem StoreR.wf {S : So} (h : StoreR K H α S) : WF S := fun o ho => by
 obtain ⟨n, hn, e⟩ := List.mem_iff_getElem.mp ho
 have hn' : n < α.length := by rw [h.len]; exact hn
 have := (h.obj n o α[n] (by rw [zsX]; exact ⟨hn, e⟩) (by simp)).lo
 rw [h.len] at this
 exact this
theorem StoreR.cut {S : So} (h : StoreR K H α S) (n : Nat) (b : ∀ o ∈ S.take n, O.lo n o = true) : StoreR K H (α.take n) (S.take n) := by
 have lt : ∀ {m : Nat} {o : O}, (S.take n)[m]? = some o -> m < n := fun {m o} h1 => by
   have := (zsX.mp h1).1
   simp at this; omega
 refine ⟨by simp [h.len], fun m k o1 o2 a h1 h2 w1 w2 a1 a2 => ?_, fun m o a h1 h2 => ?_⟩
 . have l1 := lt h1
   have l2 := lt h2
   rw [List.getElem?_take_of_lt l1] at h1 a1
   rw [List.getElem?_take_of_lt l2] at h2 a2
   exact h.nd m k o1 o2 a h1 h2 w1 w2 a1 a2
 have hm : m < n := by
   have := (zsX.mp h1).1
   simp at this; omega
 have b1 := b o (List.mem_of_getElem? h1)
 rw [List.getElem?_take_of_lt hm] at h1 h2
 exact (h.obj m o a h1 h2).cut n b1
end
def zrL : List D -> Option (List Int)
 | [] => some []
 | d :: r => match d with
   | .int i => (zrL r).map fun l => i :: l
   | _ => none
def nkRow : D -> Option (List Int)
 | .tup ds => zrL ds
 | _ => none
def zqx : List D -> Option NK
 | [] => some []
 | d :: r => (nkRow d).bind fun k => (zqx r).map fun ks => k :: ks
def zsm : D -> Option NK
 | .tup ds => zqx ds
 | _ => none
def kD (k : NK) : D := .tup (k.map fun ks => .tup (ks.map .int))
section
variable {K : PySem.W.Frag} {H : Hp} {α : List Addr}
theorem zfH : ∀ {ds : List D} {l : List Int} {vs : List V}, zrL ds = some l -> Reps K H α ds vs -> vs = l.map V.int
 | [], l, vs, h, r => by cases h; cases r; rfl
 | d :: ds, l, _, h, .cons r rr => by
   unfold zrL at h
   split at h
   . simp only [oMs] at h
     obtain ⟨l', e, rfl⟩ := h
     cases r
     rw [zfH e rr]; rfl
   . cases h
theorem ze7 : ∀ {ds : List D} {k : NK} {vs : List V}, zqx ds = some k -> Reps K H α ds vs -> ∃ bs : List Addr, vs = bs.map V.ref /\ Paired (fun (ks : List Int) (c : Addr) => SqT K H c (ks.map V.int)) k bs
 | [], k, vs, h, r => by cases h; cases r; exact ⟨[], rfl, .nil⟩
 | d :: ds, k, _, h, .cons r rr => by
   unfold zqx at h
   simp only [oBs, oMs] at h
   obtain ⟨l, e1, ks, e2, rfl⟩ := h
   obtain ⟨bs, h1, h2⟩ := ze7 e2 rr
   cases r with
   | tup hq hr =>
     have e3 := zfH (show zrL _ = some l from e1) hr
     subst e3
     exact ⟨_ :: bs, by rw [h1]; rfl, .cons hq h2⟩
   | _ => cases e1
theorem zem {d : D} {k : NK} {v : V} (h : zsm d = some k) (r : Rep K H α d v) : ∃ b, v = .ref b /\ NKey K H k b := by
 cases r with
 | tup hq hr =>
   obtain ⟨bs, h1, h2⟩ := ze7 (show zqx _ = some k from h) hr
   subst h1
   exact ⟨_, rfl, bs, hq, h2⟩
 | _ => cases h
theorem zeG : ∀ l : List Int, Reps K H α (l.map .int) (l.map V.int)
 | [] => .nil
 | i :: l => .cons (.int i) (zeG l)
theorem zkd {k : NK} {b : Addr} (h : NKey K H k b) : Rep K H α (kD k) (.ref b) := by
 obtain ⟨bs, h1, h2⟩ := h
 refine .tup h1 ?_
 clear h1
 induction h2 with
 | nil => exact .nil
 | cons hc _ ih => exact .cons (.tup hc (zeG _)) ih
end
end MX
end
section
namespace MX
open PySem PySem.Spec PyProof.Rows L2
open Builtin.Int (intBits)
abbrev EF := Sg -> So -> Option (D × So)
def Kt (K : PySem.W.Frag) (H : Hp) (α : List Addr) (z : D) (S' : So) (Q : VK) : Prop :=
 ∀ w H' α', StoreR K H' α' S' -> Ext K H α H' α' -> Rep K H' α' z w -> Q w H'
def rdE (K : PySem.W.Frag) (f : EF) : TE := fun σ H Q => ∃ σd S α z S', VarsR K H α σd σ /\ StoreR K H α S /\ f σd S = some (z, S') /\ Kt K H α z S' Q
def SE (X : Cx) (e : Expr) (f : EF) : Prop := PE X e (rdE X.K f)
theorem PE.imp {X : Cx} {e : Expr} {t t' : TE} (h : PE X e t) (k : ∀ σ H Q, t' σ H Q -> t σ H Q) : PE X e t' := fun pins s σ H Q I q => h pins s σ H Q I (k σ H Q q)
abbrev G2 := D -> D -> So -> Option (D × So)
abbrev GN := List D -> So -> Option (D × So)
def zrF (K : PySem.W.Frag) (g : G2) : R2 := fun v u H Q => ∃ S α x y z S', StoreR K H α S /\ Rep K H α x v /\ Rep K H α y u /\ g x y S = some (z, S') /\ Kt K H α z S' Q
def rdC (K : PySem.W.Frag) (g : GN) : List V -> Hp -> VK -> Prop := fun vs H Q => ∃ S α ds z S', StoreR K H α S /\ Reps K H α ds vs /\ g ds S = some (z, S') /\ Kt K H α z S' Q
theorem Kt.same {K : PySem.W.Frag} {H : Hp} {α : List Addr} {z : D} {S : So} {Q : VK} {w : V} (k : Kt K H α z S Q) (s : StoreR K H α S) (r : Rep K H α z w) : Q w H := k w H α s Ext.refl r
theorem Kt.new {K : PySem.W.Frag} {H H' : Hp} {α : List Addr} {z : D} {S : So} {Q : VK} {w : V} (k : Kt K H α z S Q) (s : StoreR K H α S) (m : Same H H') (r : Rep K H' α z w) : Q w H' := k w H' α (s.mono m) (Same.ext m) r
theorem Kt.trans {K : PySem.W.Frag} {H H1 : Hp} {α α1 : List Addr} {z : D} {S' : So} {Q : VK} (k : Kt K H α z S' Q) (e : Ext K H α H1 α1) : Kt K H1 α1 z S' Q := fun w H' α' s x r => k w H' α' s (e.trans x) r
def mulOk (i j : Int) : Bool := decide (intBits i <= 64) || decide (intBits j <= 64) || decide (intBits i + intBits j <= 134217728)
theorem mulOk.ok {i j : Int} (h : mulOk i j = true) : IntMulOk i j := by
 unfold mulOk at h
 rw [ztw, ztw] at h
 rcases h with (h | h) | h
 . exact .of_left (of_decide_eq_true h)
 . exact .of_right (of_decide_eq_true h)
 . exact IntMulOk.of_le (ztq _) (ztq _) (of_decide_eq_true h)
def divOk (j : Int) : Bool := decide (j ≠ 0) && decide (intBits j <= 8000)
theorem divOk.ok {i j : Int} (h : divOk j = true) : j ≠ 0 /\ Builtin.divisionGoesByPylong i j = false := by
 unfold divOk at h
 rw [zs5] at h
 have h1 : j ≠ 0 := of_decide_eq_true h.1
 have h2 : intBits j <= 8000 := of_decide_eq_true h.2
 refine ⟨h1, PyProof.noPylong_of_log2 ?_⟩
 have hb : (j == 0) = false := by simpa using h1
 unfold Builtin.Int.intBits at h2
 rw [hb] at h2
 simp only [Bool.false_eq_true, if_false] at h2
 omega
section
variable {X : Cx}
theorem zl6 : OpR X (binaryOp .Mult) (rI (fun i j => mulOk i j = true) fun i j => .int (i * j)) := opI fun _ _ _ _ _ _ _ hc q => mul_int q (mulOk.ok hc)
theorem zl8 : OpR X (binaryOp .FloorDiv) (rI (fun _ j => divOk j = true) fun i j => .int (i.fdiv j)) := opI fun _ _ _ _ _ _ _ hc q => floordiv_int (divOk.ok (i := 0) hc).1 q (.inl (divOk.ok hc).2)
end
def gAdd : G2
 | .int i, .int j, S => some (.int (i + j), S)
 | .str a, .str b, S => if a.length + b.length <= sizeLine then some (.str (a ++ b), S) else none
 | .tup xs, .tup ys, S => if xs ≠ [] /\ xs.length + ys.length <= sizeLine then some (.tup (xs ++ ys), S) else none
 | .ref n, .ref m, S => match S[n]?, S[m]? with
   | some (.lst xs), some (.lst ys) => if xs.length + ys.length <= sizeLine then some (.ref S.length, S ++ [.lst (xs ++ ys)]) else none
   | _, _ => none
 | _, _, _ => none
def gSub : G2
 | .int i, .int j, S => some (.int (i - j), S)
 | _, _, _ => none
def gMul : G2
 | .int i, .int j, S => if mulOk i j = true then some (.int (i * j), S) else none
 | _, _, _ => none
def gDiv : G2
 | .int i, .int j, S => if divOk j = true then some (.int (i.fdiv j), S) else none
 | _, _, _ => none
def gMod : G2
 | .int i, .int j, S => if j ≠ 0 then some (.int (i.fmod j), S) else none
 | _, _, _ => none
def gShl : G2
 | .int i, .int j, S => if 0 <= j /\ j <= 1000000 /\ i.natAbs < 2 ^ 64 then some (.int (i * 2 ^ j.toNat), S) else none
 | _, _, _ => none
def gPow : G2
 | .int i, .int j, S => if 0 <= j /\ j <= 1000000 /\ i.natAbs < 2 ^ 64 then some (.int (i ^ j.toNat), S) else none
 | _, _, _ => none
def zpJ : Operator -> G2
 | .Add => gAdd
 | .Sub => gSub
 | .Mult => gMul
 | .FloorDiv => gDiv
 | .Mod => gMod
 | .LShift => gShl
 | .Pow => gPow
 | _ => fun _ _ _ => none
section
variable {X : Cx}
theorem zl4 : OpR X (binaryOp .Add) (zrF X.K gAdd) := by
 intro pins s σ H v u vv uu Q I rv ru h
 obtain ⟨S, α, x, y, z, S', hs, rx, ry, hg, k⟩ := h
 unfold gAdd at hg
 split at hg
 . cases hg; cases rx; cases ry
   exact znX pins s σ H _ _ _ _ Q I rv ru ⟨_, _, rfl, rfl, k.same hs (.int _)⟩
 . split at hg
   . rename_i hl
     cases hg; cases rx; cases ry
     exact zhu pins s σ H _ _ _ _ Q I rv ru ⟨_, _, rfl, rfl, hl, k.same hs (.str _)⟩
   . cases hg
 . split at hg
   . rename_i hl
     cases hg
     cases rx with
     | tup h1 r1 =>
       cases ry with
       | tup h2 r2 =>
         refine zl9 pins s σ H _ _ _ _ Q I rv ru ⟨_, _, _, _, rfl, rfl, h1, h2, ?_, ?_, ?_, ?_⟩
         . intro e; subst e; cases r1; exact hl.1 rfl
         . rw [<- r1.length, <- r2.length]; exact hl.2
         . intro e; subst e; cases r2
           exact k.same hs (.tup h1 (by rw [List.append_nil]; exact r1))
         . intro _ p hp
           exact k.new hs (zbX hp) (.tup (SqT.of zam) ((r1.append r2).mono (Same.ext (zbX hp))))
   . cases hg
 . split at hg
   . rename_i n m xs ys e1 e2
     split at hg
     . rename_i hl
       cases hg
       cases rx with
       | ref a1 =>
         cases ry with
         | ref a2 =>
           obtain ⟨vs, h1, r1⟩ := hs.obj _ _ _ e1 a1
           obtain ⟨ws, h2, r2⟩ := hs.obj _ _ _ e2 a2
           refine znW pins s σ H _ _ _ _ Q I rv ru ⟨_, _, _, _, rfl, rfl, h1, h2, by rw [<- r1.length, <- r2.length]; exact hl, fun p hp => ?_⟩
           obtain ⟨s', e'⟩ := hs.snoc (p := p) (o := .lst (xs ++ ys)) (u := .lst (vs ++ ws)) hp fun α' e => ⟨_, zam, (r1.append r2).mono e⟩
           exact k _ _ _ s' e' (.ref (by rw [<- hs.len]; simp))
     . cases hg
   . cases hg
 . cases hg
theorem zlT : OpR X (binaryOp .Sub) (zrF X.K gSub) := by
 intro pins s σ H v u vv uu Q I rv ru h
 obtain ⟨S, α, x, y, z, S', hs, rx, ry, hg, k⟩ := h
 unfold gSub at hg
 split at hg
 . cases hg; cases rx; cases ry
   exact znS pins s σ H _ _ _ _ Q I rv ru ⟨_, _, rfl, rfl, k.same hs (.int _)⟩
 . cases hg
theorem zlY : OpR X (binaryOp .Mult) (zrF X.K gMul) := by
 intro pins s σ H v u vv uu Q I rv ru h
 obtain ⟨S, α, x, y, z, S', hs, rx, ry, hg, k⟩ := h
 unfold gMul at hg
 split at hg
 . split at hg
   . rename_i hc
     cases hg; cases rx; cases ry
     exact zl6 pins s σ H _ _ _ _ Q I rv ru ⟨_, _, rfl, rfl, hc, k.same hs (.int _)⟩
   . cases hg
 . cases hg
theorem zl2 : OpR X (binaryOp .FloorDiv) (zrF X.K gDiv) := by
 intro pins s σ H v u vv uu Q I rv ru h
 obtain ⟨S, α, x, y, z, S', hs, rx, ry, hg, k⟩ := h
 unfold gDiv at hg
 split at hg
 . split at hg
   . rename_i hc
     cases hg; cases rx; cases ry
     exact zl8 pins s σ H _ _ _ _ Q I rv ru ⟨_, _, rfl, rfl, hc, k.same hs (.int _)⟩
   . cases hg
 . cases hg
theorem zlZ : OpR X (binaryOp .Mod) (zrF X.K gMod) := by
 intro pins s σ H v u vv uu Q I rv ru h
 obtain ⟨S, α, x, y, z, S', hs, rx, ry, hg, k⟩ := h
 unfold gMod at hg
 split at hg
 . split at hg
   . rename_i hc
     cases hg; cases rx; cases ry
     exact zl7 pins s σ H _ _ _ _ Q I rv ru ⟨_, _, rfl, rfl, hc, k.same hs (.int _)⟩
   . cases hg
 . cases hg
theorem zlU : OpR X (binaryOp .LShift) (zrF X.K gShl) := by
 intro pins s σ H v u vv uu Q I rv ru h
 obtain ⟨S, α, x, y, z, S', hs, rx, ry, hg, k⟩ := h
 unfold gShl at hg
 split at hg
 . split at hg
   . rename_i hc
     cases hg; cases rx; cases ry
     exact znT pins s σ H _ _ _ _ Q I rv ru ⟨_, _, rfl, rfl, hc, k.same hs (.int _)⟩
   . cases hg
 . cases hg
theorem zlV : OpR X (binaryOp .Pow) (zrF X.K gPow) := by
 intro pins s σ H v u vv uu Q I rv ru h
 obtain ⟨S, α, x, y, z, S', hs, rx, ry, hg, k⟩ := h
 unfold gPow at hg
 split at hg
 . split at hg
   . rename_i hc
     cases hg; cases rx; cases ry
     exact znU pins s σ H _ _ _ _ Q I rv ru ⟨_, _, rfl, rfl, hc, k.same hs (.int _)⟩
   . cases hg
 . cases hg
theorem zl3 : ∀ op : Operator, OpR X (binaryOp op) (zrF X.K (zpJ op)) := by
 intro op
 cases op
 case Add => exact zl4
 case Sub => exact zlT
 case Mult => exact zlY
 case FloorDiv => exact zl2
 case Mod => exact zlZ
 case LShift => exact zlU
 case Pow => exact zlV
 all_goals
   intro pins s σ H v u vv uu Q I rv ru h
   obtain ⟨S, α, x, y, z, S', hs, rx, ry, hg, k⟩ := h
   exact absurd hg (by simp [zpJ])
end
def zry (f : D -> Option PyData) : List D -> Option (List PyData)
 | [] => some []
 | d :: ds => (f d).bind fun p => (zry f ds).map fun ps => p :: ps
def toP (S : So) : Nat -> D -> Option PyData
 | 0, _ => none
 | _ + 1, .non => some .none
 | _ + 1, .bl b => some (.bool b)
 | _ + 1, .int i => some (.int i)
 | _ + 1, .str x => some (.str x)
 | n + 1, .tup ds => (zry (toP S n) ds).map .tuple
 | n + 1, .ref m => match S[m]? with
   | some (.lst ds) => (zry (toP S n) ds).map .list
   | some (.frz ds) => (zry (toP S n) ds).map .list
   | _ => none
 | _ + 1, _ => none
theorem ze0 {X : Cx} {s : Shared} {H : Hp} {α : List Addr} {f : D -> Option PyData} (hf : ∀ d v u p, Rep X.K H α d v -> RelV v u -> f d = some p -> ∃ as, Reads s.heap u p as) :
   ∀ ds vs us ps, Reps X.K H α ds vs -> Vals vs us -> zry f ds = some ps -> ∃ as, ReadsAll s.heap us ps as
 | _, _, _, _, .nil, .nil, e => by simp [zry] at e; subst e; exact ⟨_, .nil⟩
 | _, _, _, _, .cons r rr, .cons rv rvs, e => by
   simp only [zry, oBs, oMs] at e
   obtain ⟨p, e1, ps, e2, rfl⟩ := e
   obtain ⟨as, ra⟩ := hf _ _ _ _ r rv e1
   obtain ⟨bs, rb⟩ := ze0 hf _ _ _ _ rr rvs e2
   exact ⟨_, .cons ra rb⟩
theorem zcJ {X : Cx} {pins : List (Addr × Obj)} {s : Shared} {σ : L2.St} {H : Hp} {α : List Addr} {S : So} (I : Inv X pins σ H s) (hs : StoreR X.K H α S) : ∀ (n : Nat) d v u p, Rep X.K H α d v -> RelV v u -> toP S n d = some p -> ∃ as, Reads s.heap u p as
 | 0, d, v, u, p, _, _, e => by simp [toP] at e
 | n + 1, d, v, u, p, r, rv, e => by
   have ih := ze0 (X := X) (s := s) (zcJ I hs n)
   cases r with
   | non => cases rv; simp [toP] at e; subst e; exact ⟨_, .none⟩
   | bl b => cases rv; simp [toP] at e; subst e; exact ⟨_, .bool b⟩
   | int i => obtain ⟨t, rfl⟩ := rv; simp [toP] at e; subst e; exact ⟨_, .int i t⟩
   | str x => obtain ⟨t, rfl⟩ := rv; simp [toP] at e; subst e; exact ⟨_, .str x t⟩
   | tup h r =>
     cases rv
     simp only [toP, oMs] at e
     obtain ⟨ps, e1, rfl⟩ := e
     obtain ⟨its, r', ⟨o, ho, hc, m, hd⟩, _⟩ := I.tuple h
     obtain ⟨as, ra⟩ := ih _ _ _ _ r r' e1
     exact ⟨_, .tuple ho hc hd (by simpa using ra)⟩
   | @ref m a h =>
     cases rv
     simp only [toP] at e
     cases hm : S[m]? with
     | none => rw [hm] at e; simp at e
     | some o =>
       rw [hm] at e
       have hob := hs.obj _ _ _ hm h
       cases o with
       | lst ds =>
         simp only [oMs] at e
         obtain ⟨ps, e1, rfl⟩ := e
         obtain ⟨vs, h1, r⟩ := hob
         obtain ⟨its, r', ⟨o, m, ho, hc, hdd, hd⟩, _⟩ := I.list (SqL.of (K := X.K) h1)
         obtain ⟨as, ra⟩ := ih _ _ _ _ r r' e1
         exact ⟨_, .list ho hc hd (by simpa using ra)⟩
       | frz ds =>
         simp only [oMs] at e
         obtain ⟨ps, e1, rfl⟩ := e
         obtain ⟨vs, h1, r⟩ := hob
         obtain ⟨its, r', ⟨o, m, ho, hc, hdd, hd⟩, _⟩ := I.list h1.sq
         obtain ⟨as, ra⟩ := ih _ _ _ _ r r' e1
         exact ⟨_, .list ho hc hd (by simpa using ra)⟩
       | ins C fs => simp at e
       | dct xs => simp at e
   | ty n => simp [toP] at e
   | adr a => simp [toP] at e
def eqD (S : So) (x y : D) : Option Bool := (toP S 24 x).bind fun p => (toP S 24 y).bind fun q => if SeqAt.shaped p = true /\ SeqAt.shaped q = true then some (PyData.eqv p q) else none
def zrf : D -> Bool
 | .non => true
 | _ => false
def zpM : CmpOp -> G2
 | .Lt, .int i, .int j, S => some (.bl (decide (i < j)), S)
 | .LtE, .int i, .int j, S => some (.bl (decide (i <= j)), S)
 | .Gt, .int i, .int j, S => some (.bl (decide (j < i)), S)
 | .GtE, .int i, .int j, S => some (.bl (decide (j <= i)), S)
 | .Eq, .int i, .int j, S => some (.bl (decide (i = j)), S)
 | .NotEq, .int i, .int j, S => some (.bl (!decide (i = j)), S)
 | .Eq, x, y, S => (eqD S x y).map fun b => (.bl b, S)
 | .NotEq, x, y, S => (eqD S x y).map fun b => (.bl (!b), S)
 | .Is, x, .non, S => some (.bl (zrf x), S)
 | .IsNot, x, .non, S => some (.bl (!zrf x), S)
 | .Is, .bl a, .bl b, S => some (.bl (a == b), S)
 | .IsNot, .bl a, .bl b, S => some (.bl (!(a == b)), S)
 | _, _, _, _ => none
theorem zh8 {K : PySem.W.Frag} {H : Hp} {α : List Addr} {x : D} {v : V} (r : Rep K H α x v) : decide (v = .non) = zrf x := by
 cases r <;> simp [zrf]
section
variable {X : Cx}
theorem zl0 : OpR X (compareOp .Eq) (rI0 fun i j => .bl (decide (i = j))) := opB0 fun _ _ _ _ _ _ _ q => eq_int (by rw [Bool.beq_eq_decide_eq]; exact q)
theorem zlW : OpR X (compareOp .NotEq) (rI0 fun i j => .bl (!decide (i = j))) := opB0 fun _ _ _ _ _ _ _ q => ne_int (by rw [bne, Bool.beq_eq_decide_eq]; exact q)
theorem zl1 {pins : List (Addr × Obj)} {s : Shared} {σ : L2.St} {H : Hp} {v u : V} {vv uu : Value} {Q : VK} {S : So} {α : List Addr} {x y : D} {b : Bool} (hu : X.A.units + 64 < cLine) (I : Inv X pins σ H s) (rv : RelV v vv) (ru : RelV u uu)
   (hs : StoreR X.K H α S) (rx : Rep X.K H α x v) (ry : Rep X.K H α y u) (hg : eqD S x y = some b) (k : Q (.bl b) H) : wpAny (model X.prog X.w) X.A (compareOp .Eq vv uu) (EP X pins σ Q) X.xe s := by
 unfold eqD at hg
 simp only [oBs] at hg
 obtain ⟨p, e1, q, e2, hg⟩ := hg
 split at hg
 . rename_i hc
   obtain ⟨as, ra⟩ := zcJ I hs 24 _ _ _ _ rx rv e1
   obtain ⟨bs, rb⟩ := zcJ I hs 24 _ _ _ _ ry ru e2
   cases hg
   exact SeqAt.compareEq_shaped ra rb hc.1 hc.2 hu ⟨.bl _, H, I, rfl, k⟩
 . cases hg
theorem zlX {pins : List (Addr × Obj)} {s : Shared} {σ : L2.St} {H : Hp} {v u : V} {vv uu : Value} {Q : VK} {S : So} {α : List Addr} {x y : D} {b : Bool} (hu : X.A.units + 64 < cLine) (I : Inv X pins σ H s) (rv : RelV v vv) (ru : RelV u uu)
   (hs : StoreR X.K H α S) (rx : Rep X.K H α x v) (ry : Rep X.K H α y u) (hg : eqD S x y = some b) (k : Q (.bl (!b)) H) : wpAny (model X.prog X.w) X.A (compareOp .NotEq vv uu) (EP X pins σ Q) X.xe s := by
 unfold eqD at hg
 simp only [oBs] at hg
 obtain ⟨p, e1, q, e2, hg⟩ := hg
 split at hg
 . rename_i hc
   obtain ⟨as, ra⟩ := zcJ I hs 24 _ _ _ _ rx rv e1
   obtain ⟨bs, rb⟩ := zcJ I hs 24 _ _ _ _ ry ru e2
   cases hg
   exact SeqAt.compareNe_shaped ra rb hc.1 hc.2 hu ⟨.bl _, H, I, rfl, k⟩
 . cases hg
theorem zin (hu : X.A.units + 64 < cLine) : ∀ op : CmpOp, OpR X (compareOp op) (zrF X.K (zpM op)) := by
 intro op pins s σ H v u vv uu Q I rv ru h
 obtain ⟨S, α, x, y, z, S', hs, rx, ry, hg, k⟩ := h
 unfold zpM at hg
 split at hg
 . cases hg; cases rx; cases ry
   exact zpg pins s σ H _ _ _ _ Q I rv ru ⟨_, _, rfl, rfl, k.same hs (.bl _)⟩
 . cases hg; cases rx; cases ry
   exact zph pins s σ H _ _ _ _ Q I rv ru ⟨_, _, rfl, rfl, k.same hs (.bl _)⟩
 . cases hg; cases rx; cases ry
   exact zpi pins s σ H _ _ _ _ Q I rv ru ⟨_, _, rfl, rfl, k.same hs (.bl _)⟩
 . cases hg; cases rx; cases ry
   exact zpj pins s σ H _ _ _ _ Q I rv ru ⟨_, _, rfl, rfl, k.same hs (.bl _)⟩
 . cases hg; cases rx; cases ry
   exact zl0 pins s σ H _ _ _ _ Q I rv ru ⟨_, _, rfl, rfl, k.same hs (.bl _)⟩
 . cases hg; cases rx; cases ry
   exact zlW pins s σ H _ _ _ _ Q I rv ru ⟨_, _, rfl, rfl, k.same hs (.bl _)⟩
 . simp only [oMs] at hg
   obtain ⟨b, e, hg⟩ := hg
   cases hg
   exact zl1 hu I rv ru hs rx ry e (k.same hs (.bl _))
 . simp only [oMs] at hg
   obtain ⟨b, e, hg⟩ := hg
   cases hg
   exact zlX hu I rv ru hs rx ry e (k.same hs (.bl _))
 . cases hg; cases ry
   exact znV pins s σ H _ _ _ _ Q I rv ru ⟨rfl, by rw [zh8 rx]; exact k.same hs (.bl _)⟩
 . cases hg; cases ry
   refine zl5 pins s σ H _ _ _ _ Q I rv ru ⟨rfl, ?_⟩
   rw [zh8 rx]
   exact k.same hs (.bl _)
 . cases hg; cases rx; cases ry; cases rv; cases ru
   exact is_bool (za6 I (k.same hs (.bl _)) rfl)
 . cases hg; cases rx; cases ry; cases rv; cases ru
   exact isnot_bool (za6 I (k.same hs (.bl _)) rfl)
 . cases hg
end
def gIx : G2
 | .tup xs, .int i, S => (atI xs i).map fun z => (z, S)
 | .ref n, .int i, S => match S[n]? with
   | some (.lst xs) => (atI xs i).map fun z => (z, S)
   | some (.frz xs) => (atI xs i).map fun z => (z, S)
   | _ => none
 | .str z, .int i, S => if z.length <= sizeLine then (atI z.cps.toList i).map fun c => (.str ⟨#[c]⟩, S) else none
 | _, _, _ => none
theorem zgE {K : PySem.W.Frag} {H : Hp} {α : List Addr} {ds : List D} {vs : List V} {i : Int} {z : D} (r : Reps K H α ds vs) (h : atI ds i = some z) : ∃ w, atI vs i = some w /\ Rep K H α z w := by
 unfold atI at h ⊢
 rw [<- r.length]
 cases e : ixN ds.length i with
 | none => rw [e] at h; simp at h
 | some j =>
   rw [e] at h
   exact r.get h
theorem ixs {X : Cx} : IxR X (zrF X.K gIx) := by
 intro value slice pins s σ H v u vv uu Q I rv ru h hsub
 obtain ⟨S, α, x, y, z, S', hs, rx, ry, hg, k⟩ := h
 unfold gIx at hg
 split at hg
 . simp only [oMs] at hg
   obtain ⟨b, e, hg⟩ := hg
   cases hg; cases ry
   cases rx with
   | tup h r =>
     obtain ⟨w, e', rw'⟩ := zgE r e
     exact zoe value slice pins s σ H _ _ _ _ Q I rv ru ⟨_, _, _, _, rfl, rfl, h, e', k.same hs rw'⟩ hsub
 . cases ry
   cases rx with
   | ref h =>
     rename_i n i a
     cases hm : S[n]? with
     | none => rw [hm] at hg; simp at hg
     | some o =>
       rw [hm] at hg
       have hob := hs.obj _ _ _ hm h
       cases o with
       | lst ds =>
         simp only [oMs] at hg
         obtain ⟨b, e, hg⟩ := hg
         cases hg
         obtain ⟨vs, h1, r⟩ := hob
         obtain ⟨w, e', rw'⟩ := zgE r e
         exact zgo value slice pins s σ H _ _ _ _ Q I rv ru ⟨_, _, _, _, rfl, rfl, SqL.of h1, e', k.same hs rw'⟩ hsub
       | frz ds =>
         simp only [oMs] at hg
         obtain ⟨b, e, hg⟩ := hg
         cases hg
         obtain ⟨vs, h1, r⟩ := hob
         obtain ⟨w, e', rw'⟩ := zgE r e
         exact zgo value slice pins s σ H _ _ _ _ Q I rv ru ⟨_, _, _, _, rfl, rfl, h1.sq, e', k.same hs rw'⟩ hsub
       | ins C fs => simp at hg
       | dct xs => simp at hg
 . split at hg
   . rename_i hl
     simp only [oMs] at hg
     obtain ⟨b, e, hg⟩ := hg
     cases hg; cases rx; cases ry
     exact zof value slice pins s σ H _ _ _ _ Q I rv ru ⟨_, _, _, rfl, rfl, hl, e, k.same hs (.str _)⟩ hsub
   . cases hg
 . cases hg
end MX
end
section
namespace MX
open PySem PySem.Spec PyProof.Rows L2
theorem zer (names : List (Str × NameKind)) : ∀ (n : Nat) (acc : List (Str × Addr)), cellsFrom n names acc = cellsFrom n names [] ++ acc := by
 induction names with
 | nil => intro n acc; simp [cellsFrom]
 | cons p r ih =>
   intro n acc
   obtain ⟨x, k⟩ := p
   unfold cellsFrom
   split
   . rw [ih, ih _ [(x, n)], zta]; rfl
   . exact ih n acc
theorem zhb {names : List (Str × NameKind)} : ∀ {n : Nat} {x : Str} {c : Addr}, (x, c) ∈ cellsFrom n names [] -> n <= c /\ (x, NameKind.cell) ∈ names := by
 induction names with
 | nil => intro n x c h; simp [cellsFrom] at h
 | cons p r ih =>
   intro n x c h
   obtain ⟨y, k⟩ := p
   unfold cellsFrom at h
   split at h
   . rename_i hk
     rw [zer, ztf] at h
     rcases h with h | h
     . have := ih h
       exact ⟨by omega, zsY _ this.2⟩
     . have e : (x, c) = (y, n) := by simpa using h
       cases e
       have : k = NameKind.cell := by simpa using hk
       subst this
       exact ⟨ztq _, zsZ⟩
   . have := ih h
     exact ⟨this.1, zsY _ this.2⟩
theorem zbq {α : Type} (x : Str) : ∀ (l r : List (Str × α)), (l ++ r).lookup x = (l.lookup x).or (r.lookup x)
 | [], r => by simp
 | (k, v) :: l, r => by
   rw [List.cons_append, ztI, ztI]
   cases x == k with
   | true => rfl
   | false => exact zbq x l r
theorem zeV {names : List (Str × NameKind)} {n : Nat} {acc : List (Str × Addr)} {x : Str} {c : Addr} (h : (cellsFrom n names acc).lookup x = some c) :
   ((cellsFrom n names []).lookup x = some c) \/ ((cellsFrom n names []).lookup x = none /\ acc.lookup x = some c) := by
 rw [zer, zbq] at h
 cases e : (cellsFrom n names []).lookup x with
 | some d => rw [e] at h; exact .inl h
 | none => rw [e] at h; exact .inr ⟨rfl, h⟩
theorem zfw {env : Env} (f : Str × NameKind -> List (Str × Addr) -> Sem (ForInStep (List (Str × Addr))))
   (hf : ∀ name kind cs, f (name, kind) cs = if (kind == NameKind.free) = true then (do let a <- cellOf env name; pure (.yield ((name, a) :: cs))) else pure (.yield cs)) :
   ∀ (names : List (Str × NameKind)) (acc : List (Str × Addr)), (∀ y ∈ names, y.2 = .free -> ∃ c, env.cells.lookup y.1 = some c) -> ∃ cl, forIn names acc f = pure cl /\
     (∀ x c, cl.lookup x = some c -> acc.lookup x = some c \/ ((x, NameKind.free) ∈ names /\ env.cells.lookup x = some c)) /\ ∀ x, ((x, NameKind.free) ∈ names \/ ∃ c, acc.lookup x = some c) -> ∃ c, cl.lookup x = some c
 | [], acc, _ => ⟨acc, by rw [List.forIn_nil], fun x c h => .inl h, fun x h => by
     rcases h with h | h
     . cases h
     . exact h⟩
 | (y, k) :: r, acc, h => by
   by_cases hk : k = NameKind.free
   . subst hk
     obtain ⟨c, hc⟩ := h (y, .free) zsZ rfl
     obtain ⟨cl, e, h1, h2⟩ := zfw f hf r ((y, c) :: acc) fun z hz => h z (zsY _ hz)
     refine ⟨cl, ?_, fun x d hx => ?_, fun x hx => h2 x ?_⟩
     . rw [List.forIn_cons, hf]
       have e1 : cellOf env y = pure c := by unfold cellOf; rw [hc]
       simp only [beq_self_eq_true, if_true, e1, pure_bind]
       exact e
     . rcases h1 x d hx with q | ⟨q1, q2⟩
       . rw [ztI] at q
         cases hb : x == y with
         | true =>
           rw [hb] at q; cases q
           obtain rfl : x = y := by simpa using hb
           exact .inr ⟨zsZ, hc⟩
         | false => rw [hb] at q; exact .inl q
       . exact .inr ⟨zsY _ q1, q2⟩
     . rcases hx with hx | ⟨d, hx⟩
       . rcases List.mem_cons.mp hx with q | q
         . cases q
           exact .inr ⟨c, by simp⟩
         . exact .inl q
       . cases hb : x == y with
         | true => exact .inr ⟨c, by rw [ztI, hb]⟩
         | false => exact .inr ⟨d, by rw [ztI, hb]; exact hx⟩
   . have hb : (k == NameKind.free) = false := by simpa using hk
     obtain ⟨cl, e, h1, h2⟩ := zfw f hf r acc fun z hz => h z (zsY _ hz)
     refine ⟨cl, ?_, fun x d hx => ?_, fun x hx => h2 x ?_⟩
     . rw [List.forIn_cons, hf, hb]
       simp only [Bool.false_eq_true, if_false, pure_bind]
       exact e
     . rcases h1 x d hx with q | ⟨q1, q2⟩
       . exact .inl q
       . exact .inr ⟨zsY _ q1, q2⟩
     . rcases hx with hx | hx
       . rcases List.mem_cons.mp hx with q | q
         . cases q; exact absurd rfl hk
         . exact .inl q
       . exact .inr hx
theorem zmN {scope : Scope} {env : Env} (h : ∀ y ∈ scope.names, y.2 = .free -> ∃ c, env.cells.lookup y.1 = some c) : ∃ cl, closureFor scope env = pure cl /\
   (∀ x c, cl.lookup x = some c -> (x, NameKind.free) ∈ scope.names /\ env.cells.lookup x = some c) /\ ∀ x, (x, NameKind.free) ∈ scope.names -> ∃ c, cl.lookup x = some c := by
 obtain ⟨cl, e, h1, h2⟩ := zfw (env := env) (fun x cs => if (x.2 == NameKind.free) = true then (do let a <- cellOf env x.1; pure (.yield ((x.1, a) :: cs))) else pure (.yield cs)) (fun _ _ _ => rfl) scope.names [] h
 refine ⟨cl, ?_, fun x c q => ?_, fun x q => h2 x (.inl q)⟩
 . unfold closureFor
   show (forIn scope.names [] _ >>= fun cs => pure cs) = _
   rw [show (forIn scope.names ([] : List (Str × Addr)) _ : Sem (List (Str × Addr))) = _ from e]
   rfl
 . rcases h1 x c q with z | z
   . simp at z
   . exact z
theorem zb4 {env : Env} : ∀ {names : List (Str × NameKind)} {x : Str},
   (names.map fun (n, k) => if (k == NameKind.free && env.scope.kind == .function && env.kindOf n == some .cell) then (n, NameKind.cell) else (n, k)).lookup x =
     (names.lookup x).map fun k => if (k == NameKind.free && env.scope.kind == .function && env.kindOf x == some .cell) then NameKind.cell else k
 | [], _ => rfl
 | (n, k) :: r, x => by
   have ih := @zb4 env r x
   show List.lookup x ((if (k == NameKind.free && env.scope.kind == .function && env.kindOf n == some .cell) = true then (n, NameKind.cell) else (n, k)) :: _) = _
   cases hx : x == n with
   | true =>
     obtain rfl : x = n := by simpa using hx
     by_cases hc : (k == NameKind.free && env.scope.kind == .function && env.kindOf x == some .cell) = true
     . rw [if_pos hc]; simp only [ztI, hx, ztv, if_pos hc]
     . rw [if_neg hc]; simp only [ztI, hx, ztv, if_neg hc]
   | false =>
     by_cases hc : (k == NameKind.free && env.scope.kind == .function && env.kindOf n == some .cell) = true
     . rw [if_pos hc]; simp only [ztI, hx]; exact ih
     . rw [if_neg hc]; simp only [ztI, hx]; exact ih
theorem zhe {M : Model} {A : Around} {E : Value -> Shared -> Prop} {s : Shared} {scope : Scope} {globals : Addr} {cl : List (Str × Addr)} {qual : Str} {env : Env} {Q : Env -> Shared -> Prop}
   (h : Q { scope := scope, locals := s.heap.objs.size, globals := globals, cells := cellsFrom (s.heap.objs.size + 1) scope.names cl, qual := qual, func := none, code := env.code, frame := env.frame, builtins := env.builtins }
     { s with heap := pushCells (s.heap.push { cls := .type "dict", data := .dict #[] }) scope.names }) :
   wpAny M A (newFunctionEnv scope globals cl [] qual none .none (some env)) Q E s := by
 simp only [newFunctionEnv, Option.isSome_some, if_true]
 refine ztm (wpAny_alloc ?_)
 refine ztm (wpAny_layCells _ (fun name kind cells => by cases hkc : kind == NameKind.cell <;> simp [hkc]) _ _ _ _ ?_)
 rw [show ({ s with heap := s.heap.push { cls := .type "dict", data := .dict #[] } } : Shared).heap.objs.size = s.heap.objs.size + 1 from Heap.size_push ..]
 rw [List.forIn_nil]
 exact ztm (ztn (ztn h))
structure zqt (X : Cx) (scope : Scope) (N' : List Str) (src : List (Option Nat)) : Prop where
 kind : scope.kind = .function
 uniq : ∀ y ∈ scope.names, scope.names.lookup y.1 = some y.2
 free : ∀ y ∈ scope.names, y.2 = .free -> (X.env.kindOf y.1 = some .cell \/ X.env.kindOf y.1 = some .free)
 len : src.length = N'.length
 src : ∀ (j i : Nat) x, N'[j]? = some x -> src[j]? = some (some i) -> X.N[i]? = some x /\ scope.names.lookup x = some .free
def zrq (src : List (Option Nat)) (σ : L2.St) : L2.St := src.map fun o => o.bind fun i => (σ[i]?).join
def zqr (X : Cx) (scope : Scope) (N' : List Str) (cl : List (Str × Addr)) (s₂ : Shared) (H₂ : Hp) (fp : List Addr) : Cx where
 prog := X.prog
 w := X.w
 K := X.K
 mg := X.mg
 base := X.base
 A := X.A
 N := N'
 s₀ := s₂
 H₀ := H₂
 env := { scope := relabel scope X.env, locals := s₂.heap.objs.size + 1, globals := X.env.globals, cells := cellsFrom (s₂.heap.objs.size + 1 + 1) scope.names cl, qual := X.env.qual, func := none, code := X.env.code, frame := X.env.frame, builtins := X.env.builtins }
 outer := X.stack
 stack := X.stack
 ex := fp
 fn := fun x => decide (scope.names.lookup x = some .cell)
 calm := X.calm
 pn := []
 xe := fun _ _ => False
structure zqf (X : Cx) (scope : Scope) (N' : List Str) (Y : Cx) : Prop where
 prog : Y.prog = X.prog
 w : Y.w = X.w
 K : Y.K = X.K
 mg : Y.mg = X.mg
 base : Y.base = X.base
 A : Y.A = X.A
 N : Y.N = N'
 sc : Y.env.scope = relabel scope X.env
 calm : Y.calm = X.calm
 fn : ∀ x, scope.names.lookup x = some .cell -> Y.fn x = true
section
variable {X : Cx} {pins : List (Addr × Obj)} {σ : L2.St} {H : Hp} {s : Shared} {scope : Scope} {N' : List Str} {src : List (Option Nat)} {cl : List (Str × Addr)} {fp : List Addr}
theorem ziQ : zqf X scope N' (zqr X scope N' cl s H fp) := ⟨rfl, rfl, rfl, rfl, rfl, rfl, rfl, rfl, rfl, fun x h => decide_eq_true h⟩
theorem zkq (I : Inv X pins σ H s) (hf : ∀ b ∈ fp, zr2 X pins H b) (hfe : ∀ b ∈ fp, ∃ o, s.heap.get? b = some o) (ok : zqt X scope N' src)
   (h1 : ∀ x c, cl.lookup x = some c -> (x, NameKind.free) ∈ scope.names /\ X.env.cells.lookup x = some c) (h2 : ∀ x, (x, NameKind.free) ∈ scope.names -> ∃ c, cl.lookup x = some c) {l : Obj} :
   Inv (zqr X scope N' cl s H fp) [] (zrq src σ) H { s with heap := pushCells ((s.heap.push l).push { cls := .type "dict", data := .dict #[] }) scope.names } := by
 have hC : ((s.heap.push l).objs.size) = s.heap.objs.size + 1 := Heap.size_push ..
 have keep : ∀ b o, s.heap.get? b = some o -> (pushCells ((s.heap.push l).push { cls := .type "dict", data := .dict #[] }) scope.names).get? b = some o := fun b o e =>
   pushCells_keeps _ _ b o (zs1 _ (zs1 _ e))
 have okc := cellsFrom_ok scope.names ((s.heap.push l).push { cls := .type "dict", data := .dict #[] }) (s.heap.objs.size + 1 + 1) [] ⟨fun _ _ hm => (nomatch hm), List.Pairwise.nil⟩ (by rw [Heap.size_push, hC]; exact ztq _)
 rw [Heap.size_push, hC] at okc
 have cells : ∀ x c, (zqr X scope N' cl s H fp).env.cells.lookup x = some c -> ((cellsFrom (s.heap.objs.size + 1 + 1) scope.names []).lookup x = some c /\ s.heap.objs.size + 1 + 1 <= c /\ (x, NameKind.cell) ∈ scope.names) \/ (X.env.cells.lookup x = some c /\ (x, NameKind.free) ∈ scope.names) := fun x c e => by
   rcases zeV e with z | ⟨_, z⟩
   . have := zhb (zs4 z)
     exact .inl ⟨z, this.1, this.2⟩
   . exact .inr ⟨(h1 x c z).2, (h1 x c z).1⟩
 have oldc : ∀ x c, X.env.cells.lookup x = some c -> c < s.heap.objs.size := fun x c e => by
   obtain ⟨v, q⟩ := I.cell x c e
   exact q.lt
 have rel : ∀ x, (zqr X scope N' cl s H fp).env.kindOf x = (scope.names.lookup x).map fun k => if (k == NameKind.free && X.env.scope.kind == .function && X.env.kindOf x == some .cell) then NameKind.cell else k := fun x => zb4
 have fpl : ∀ b ∈ fp, b < s.heap.objs.size := fun b hb => by
   obtain ⟨o, e⟩ := hfe b hb
   exact ztp e
 have cap : ∀ x y c, (zqr X scope N' cl s H fp).env.cells.lookup x = some c -> (zqr X scope N' cl s H fp).env.cells.lookup y = some c -> x = y := fun x y c ex ey => by
   rcases cells x c ex with ⟨z1, l1, m1⟩ | ⟨z1, m1⟩ <;> rcases cells y c ey with ⟨z2, l2, m2⟩ | ⟨z2, m2⟩
   . exact name_of_addr okc.apart (zs4 z1) (zs4 z2)
   . exact absurd (zs0 (oldc y c z2) (Nat.le_trans (Nat.le_add_right _ 2) l1)) (zte _)
   . exact absurd (zs0 (oldc x c z1) (Nat.le_trans (Nat.le_add_right _ 2) l2)) (zte _)
   . exact I.ok.inj x y c z1 z2
 have hlast : (pushCells ((s.heap.push l).push { cls := .type "dict", data := .dict #[] }) scope.names).Ns (s.heap.objs.size + 1) (fun _ => none) := by
   have q : ((s.heap.push l).push { cls := .type "dict", data := .dict #[] }).Ns (s.heap.push l).objs.size (fun _ => none) := Heap.Ns.new (s.heap.push l) (.type "dict")
   rw [hC] at q
   exact q.keeps (pushCells_keeps _ _)
 refine ⟨⟨I.ok.mod, ok.kind, I.ok.glob, I.ok.blt, Nat.le_succ _, cap, fun x hx => ?_, fun x c hx e => ?_, I.ok.hd, I.ok.frames, .inl rfl, fun b hb => ?_, I.bs, Nat.le_trans I.ok.bsz I.sz, fun b o e hb => ?_, fun b hb => ?_, I.stack, I.stkFree⟩,
   rfl, I.bare, Un.kept keep, ⟨_, hlast, fun i x v e1 e2 e3 => ?_⟩, fun x c e => ?_, I.hok.fresh (Nat.le_succ _), fun x c e => ?_, fun p hp => absurd (show p ∈ ([] : List (Addr × Obj)) from hp) (by simp), I.hok.kept keep, ?_⟩
 . -- has
   rw [rel] at hx
   have hk : scope.names.lookup x = some .cell \/ scope.names.lookup x = some .free := by
     cases q : scope.names.lookup x with
     | none => rw [q] at hx; simp at hx
     | some k =>
       rw [q] at hx
       simp only [ztv, Option.some.injEq] at hx
       by_cases hk : k = .free
       . exact .inr (by rw [hk])
       . have hb : (k == NameKind.free) = false := by simpa using hk
         simp only [hb, Bool.false_and, Bool.false_eq_true, if_false] at hx
         rcases hx with hx | hx
         . exact .inl (by rw [hx])
         . exact absurd hx hk
   show ∃ c, (cellsFrom (s.heap.objs.size + 1 + 1) scope.names cl).lookup x = some c
   rw [zer, zbq]
   rcases hk with hk | hk
   . obtain ⟨c, hc⟩ := Option.isSome_iff_exists.mp (PySem.W.cellsFrom_some scope.names (s.heap.objs.size + 1 + 1) [] (.inl hk))
     exact ⟨c, by rw [hc]; rfl⟩
   . obtain ⟨c, hc⟩ := h2 x (zs4 hk)
     cases q : (cellsFrom (s.heap.objs.size + 1 + 1) scope.names []).lookup x with
     | some d => exact ⟨d, rfl⟩
     | none => exact ⟨c, hc⟩
 . -- cab
   have hx' : scope.names.lookup x = some .cell := of_decide_eq_true hx
   rcases cells x c e with ⟨_, l1, _⟩ | ⟨_, m1⟩
   . show s.heap.objs.size <= c; omega
   . rw [ok.uniq _ m1] at hx'; cases hx'
 . -- exf
   refine ⟨?_, fun x c e z => ?_⟩
   . exact ztA (Nat.lt_succ_of_lt (fpl b hb))
   . subst z
     rcases cells x c e with ⟨_, l1, _⟩ | ⟨z1, _⟩
     . exact absurd (zs0 (fpl c hb) (Nat.le_trans (Nat.le_add_right _ 2) l1)) (zte _)
     . exact (hf c hb).2.2.2.2.1 x c z1 rfl
 . -- noex
   obtain ⟨_, _, _, q, _⟩ := hf b hb
   rcases q with q | q
   . exact I.ok.noex b o e q
   . exact absurd (zs0 (zs0 (ztp e) I.ok.bsz) q) (zte _)
 . -- exfs
   intro z
   obtain ⟨_, f1, f2, _⟩ := hf b hb
   exact (List.mem_cons.mp (I.stkSub b z)).elim f1 f2
 . -- loc
   have e1' : N'[i]? = some x := e1
   obtain ⟨j, hj, hv⟩ : ∃ j, src[i]? = some (some j) /\ σ[j]? = some (some v) := by
     unfold zrq at e2
     rw [ztb] at e2
     cases q : src[i]? with
     | none => rw [q] at e2; simp at e2
     | some o =>
       rw [q] at e2
       cases o with
       | none => simp at e2
       | some j =>
         refine ⟨j, rfl, ?_⟩
         simp only [ztv, zs6, Option.some.injEq] at e2
         cases q2 : σ[j]? with
         | none => rw [q2] at e2; simp at e2
         | some o2 => rw [q2] at e2; simp at e2; rw [e2]
   obtain ⟨hN, hfr⟩ := ok.src i j x e1' hj
   have hm := zs4 hfr
   have hk := ok.free _ hm rfl
   obtain ⟨m, hn, hl⟩ := I.loc
   obtain ⟨u, ru, lk⟩ := hl j x v hN hv (by rcases hk with hk | hk; exact .inr (.inl hk); exact .inr (.inr hk))
   refine ⟨u, ru, .inr ⟨?_, ?_⟩⟩
   . rw [rel, hfr]
     simp only [ztv]
     split
     . exact .inl rfl
     . exact .inr rfl
   . rcases lk with ⟨q, _⟩ | ⟨_, c, hc, hcell⟩
     . rcases hk with hk | hk <;> (rw [q] at hk; cases hk)
     . refine ⟨c, ?_, hcell.keeps keep⟩
       show (cellsFrom (s.heap.objs.size + 1 + 1) scope.names cl).lookup x = some c
       rw [zer, zbq]
       have hnone : (cellsFrom (s.heap.objs.size + 1 + 1) scope.names []).lookup x = none := by
         cases q : (cellsFrom (s.heap.objs.size + 1 + 1) scope.names []).lookup x with
         | none => rfl
         | some d =>
           have := ok.uniq _ (zhb (zs4 q)).2
           rw [hfr] at this; cases this
       rw [hnone]
       obtain ⟨c', hc'⟩ := h2 x hm
       have := (h1 x c' hc').2
       rw [hc] at this; cases this
       exact hc'
 . -- cell
   rcases cells x c e with ⟨z1, _, _⟩ | ⟨z1, _⟩
   . exact ⟨none, (okc.empty x c (zs4 z1)).1⟩
   . obtain ⟨v, q⟩ := I.cell x c z1
     exact ⟨v, q.keeps keep⟩
 . -- freeC
   rcases cells x c e with ⟨_, l1, _⟩ | ⟨z1, _⟩
   . exact I.hok.fresh (by omega)
   . exact I.freeC x c z1
 . -- len
   show (zrq src σ).length = N'.length
   unfold zrq
   rw [zs7]; exact ok.len
end
theorem zgz {prog : Program} {w : World} {A : Around} {R : Result -> Shared -> Prop} {s : Shared} {elt target iter : Expr} {ifs : List Expr} {scope : Scope} {pos : Pos} {it acc : Value} {env : Env} (I : Nat -> Shared -> Prop)
   (turn : ∀ n s, I n s -> wpAny (model prog w) A (pyNext it) (fun r s₁ => match r with
     | none => R (.ok .next) s₁
     | some v => wpAny (model prog w) A (letOwnedTupleGo target it v) (fun _ s₀ => wpAny (model prog w) A (assign target env v) (fun _ s₂ =>
         wpAny (model prog w) A (forIn ifs true fun c r => if r = true then do let ok <- isTrue c env (eval c env); pure (ForInStep.yield ok) else pure (ForInStep.yield r)) (fun ok s₃ =>
           if ok = true then wpAny (model prog w) A (eval elt env) (fun x s₄ =>
             wpAny (model prog w) A (call (.builtin "list.append") [acc, x]) (fun _ s₅ => ∃ m, m < n /\ I m s₅) (fun _ _ => False) s₄) (fun _ _ => False) s₃
           else ∃ m, m < n /\ I m s₃) (fun _ _ => False) s₂) (fun _ _ => False) s₀) (fun _ _ => False) s₁) (fun _ _ => False) s)
   (n : Nat) (h : I n s) :
   codeAny (model prog w) A (.compLoop (.ListComp elt [⟨target, iter, ifs, 0⟩] scope pos) 0 it acc env) R s := by
 refine codeAny_loop rfl I (fun n s hI => ?_) n h
 show wpAny _ A ((compTurn (.ListComp elt [⟨target, iter, ifs, 0⟩] scope pos) 0 it acc env).onRaise (fun x => do noteFrame x env; theTreesLotGoes x)) _ _ s
 refine wpAny_noted ?_
 rw [compTurn_list]
 refine ztm (wpAny_standAt (ztm (zto (turn n s hI) (fun r s₁ h₁ => ?_) fun _ _ h' => h'.elim)))
 cases r with
 | none => exact ztn h₁
 | some v =>
   refine ztm (zto h₁ (fun _ s₀ h₀ => ?_) fun _ _ h' => h'.elim)
   refine ztm (zto h₀ (fun _ s₂ h₂ => ztm (zto h₂ (fun ok s₃ h₃ => ?_) fun _ _ h' => h'.elim)) fun _ _ h' => h'.elim)
   cases ok with
   | false => exact ztn ⟨rfl, h₃⟩
   | true =>
     exact ztm (ztm (zto h₃ (fun x s₄ h₄ => ztm (zto h₄ (fun _ s₅ h₅ => ztn (ztn ⟨rfl, h₅⟩)) fun _ _ h' => h'.elim)) fun _ _ h' => h'.elim))
def PTs (X : Cx) (ifs : List Expr) (t : TT) : Prop :=
 ∀ (pins : List (Addr × Obj)) (s : Shared) (σ : L2.St) (H : Hp) (Q : Bool -> Hp -> Prop), Inv X pins σ H s -> t σ H Q ->
   wpAny (model X.prog X.w) X.A (forIn ifs true fun c r => if r = true then do let ok <- isTrue c X.env (eval c X.env); pure (ForInStep.yield ok) else pure (ForInStep.yield r)) (TP X pins σ Q) X.xe s
theorem zlF {X : Cx} : PTs X [] (fun _ H Q => Q true H) := fun _ _ _ H _ I h => wpAny_tests_nil ⟨H, I, h⟩
theorem zlE {X : Cx} {c : Expr} {t : TT} (h : PT X c t) : PTs X [c] t := fun pins s σ H Q I q => wpAny_tests_one (h pins s σ H Q I q)
def LcW (J : It) (g : TG) (tt : TT) (te : TE) (Fin : List V -> Hp -> Prop) (W : Nat -> Nat -> List V -> L2.St -> Hp -> Prop) : Prop :=
 ∀ i m ys τ H, W i m ys τ H -> (J.stop i H /\ Fin ys H) \/ (J.go i H /\ ys.length < sizeLine /\ ∀ x H', J.yld i H x H' -> g x τ H' fun τ2 H2 => tt τ2 H2 fun b H3 =>
   if b = true then te τ2 H3 fun y H4 => ∃ m', m' < m /\ W (i + 1) m' (ys ++ [y]) τ2 H4 else ∃ m', m' < m /\ W (i + 1) m' ys τ2 H3)
theorem HOk.track {P : Program} {w : World} {H : Hp} {h : Heap} {a : Addr} {o : HO} (x : HOk P w H h) (hn : H a = none) (new : ObjOk P w (upd H a o) h a o) : HOk P w (upd H a o) h := fun b u e => by
 by_cases hb : b = a
 . subst hb; rw [zam] at e; cases e; exact new
 . rw [zal hb] at e
   exact (x b u e).stay (fun c v _ q => q) (fun c q => by rw [zal (zak q hn)]; exact q) fun c xs q => by rw [zal (zak q hn)]; exact q
theorem Un.track {fs ex : List Addr} {H H' : Hp} {h h' : Heap} {a : Addr} {o : HO} (u : Un fs ex H H' h h') (hn : H' a = none) (ha : h.get? a = none) : Un fs ex H (upd H' a o) h h' where
 keep := u.keep
 slot := u.slot
 free := fun b ob q n hx => by
   rw [zal (fun z => by rw [z, ha] at q; cases q)]
   exact u.free b ob q n hx
 there := u.there
 tups := fun b xs q => by rw [zal (zak (u.tups b xs q) hn)]; exact u.tups b xs q
 frzs := fun b ob xs q => by rw [zal (zak (u.frzs b ob xs q) hn)]; exact u.frzs b ob xs q
 tbls := fun b ps q => by
   obtain ⟨m, e⟩ := u.tbls b ps q
   exact ⟨m, by rw [zal (zak e hn)]; exact e⟩
theorem zfP {X : Cx} {pins : List (Addr × Obj)} {σ : L2.St} {H : Hp} {s : Shared} {scope : Scope} {N' : List Str} {src : List (Option Nat)} {cl : List (Str × Addr)} {fp : List Addr} {elt tg iter : Expr} {ifs : List Expr} {pos : Pos}
   {J : It} {it : Addr} {tn : Nat -> Heap -> Prop} {g : TG} {tt : TT} {te : TE} {Fin : List V -> Hp -> Prop} {W : Nat -> Nat -> List V -> L2.St -> Hp -> Prop} {RR : Value -> Addr -> Result -> Shared -> Prop} {E : Value -> Shared -> Prop}
   (hc : X.calm = true) (ok : zqt X scope N' src) (I : Inv X pins σ H s) (T : Turn X.prog X.w X.K tg J fp it tn) (st : tn 0 s.heap) (hf : ∀ b ∈ fp, zr2 X pins H b)
   (h1 : ∀ x c, cl.lookup x = some c -> (x, NameKind.free) ∈ scope.names /\ X.env.cells.lookup x = some c) (h2 : ∀ x, (x, NameKind.free) ∈ scope.names -> ∃ c, cl.lookup x = some c)
   (hY : ∀ Y, zqf X scope N' Y -> PG Y tg g /\ PTs Y ifs tt /\ PE Y elt te)
   (w0 : ∃ m, W 0 m [] (zrq src σ) H) (turn : LcW J g tt te Fin W)
   (hRR : ∀ ys H' s' oC m, H' s.heap.objs.size = none -> LCg.NsObj oC m -> Inv X (pins ++ [(s.heap.objs.size + 1, oC)]) σ (upd H' s.heap.objs.size (.lst ys)) s' -> Fin ys H' -> RR (.ref s.heap.objs.size) (s.heap.objs.size + 1) (.ok .next) s') :
   wpAny (model X.prog X.w) X.A (newList []) (fun acc s₃ => wpAny (model X.prog X.w) X.A (newFunctionEnv scope X.env.globals cl [] X.env.qual none .none (some X.env)) (fun cenv s₄ =>
     codeAny (model X.prog X.w) X.A (.compStart (.ListComp elt [⟨tg, iter, ifs, 0⟩] scope pos) 0 (.ref it) acc { cenv with scope := relabel scope X.env }) (RR acc cenv.locals) s₄) E s₃) E s := by
 have hfe : ∀ b ∈ fp, ∃ o, s.heap.get? b = some o := fun b hb => by
   obtain ⟨o, e, _⟩ := T.obj _ _ st b hb
   exact ⟨o, e⟩
 refine wpAny_newObj_type (zhe ?_)
 have hC : (s.heap.push { cls := .type "list", dict := none, data := .seq ([] : List Value).toArray }).objs.size = s.heap.objs.size + 1 := Heap.size_push ..
 dsimp only
 rw [hC]
 have I0 : Inv (zqr X scope N' cl s H fp) [] (zrq src σ) H { s with heap := pushCells ((s.heap.push { cls := .type "list", dict := none, data := .seq ([] : List Value).toArray }).push { cls := .type "dict", data := .dict #[] }) scope.names } :=
   zkq I hf hfe ok h1 h2
 have isY : zqf X scope N' (zqr X scope N' cl s H fp) := ziQ
 obtain ⟨hg, ht, he⟩ := hY _ isY
 generalize hYe : zqr X scope N' cl s H fp = Y at I0 isY hg ht he
 have eP : Y.prog = X.prog := isY.prog
 have ew : Y.w = X.w := isY.w
 have eA : Y.A = X.A := isY.A
 have eK : Y.K = X.K := isY.K
 have ecalm : Y.calm = true := isY.calm.trans hc
 have eenv : Y.env = { scope := relabel scope X.env, locals := s.heap.objs.size + 1, globals := X.env.globals, cells := cellsFrom (s.heap.objs.size + 1 + 1) scope.names cl, qual := X.env.qual, func := none, code := X.env.code, frame := X.env.frame, builtins := X.env.builtins } := by rw [<- hYe]; rfl
 have exe : Y.xe = fun _ _ => False := by rw [<- hYe]; rfl
 have efs : Y.fs = frs X.stack := by rw [<- hYe]; rfl
 have eex : Y.ex = fp := by rw [<- hYe]; rfl
 have es0 : Y.s₀ = s := by rw [<- hYe]; rfl
 have eH0 : Y.H₀ = H := by rw [<- hYe]; rfl
 have epn : Y.pn = [] := by rw [<- hYe]; rfl
 have eL : Y.env.locals = s.heap.objs.size + 1 := by rw [eenv]
 rw [<- eenv]
 have fpl : ∀ b ∈ fp, b < s.heap.objs.size := fun b hb => by
   obtain ⟨o, e⟩ := hfe b hb
   exact ztp e
 have hD : ∀ (τ : L2.St) (H' : Hp) (s' : Shared) (pn : List (Addr × Obj)), Inv Y pn τ H' s' -> ∀ x c, Y.env.cells.lookup x = some c -> c ≠ s.heap.objs.size := fun τ H' s' pn J' x c e z => by
   have e' := e
   rw [eenv] at e'
   rcases zeV e' with q | ⟨_, q⟩
   . have := (zhb (zs4 q)).1
     rw [z] at this
     exact absurd (zs0 (Nat.lt_succ_self _) (Nat.le_trans (Nat.le_succ _) this)) (zte _)
   . obtain ⟨v, q'⟩ := I.cell x c (h1 x c q).2
     have := q'.lt
     rw [z] at this
     exact absurd this (zte _)
 have stat : ∀ {H' : Hp} {pn : List (Addr × Obj)}, (∀ b ∈ fp, H' b = none) -> (∀ p ∈ pn, p.1 = s.heap.objs.size) -> ∀ b ∈ fp, zr2 Y pn H' b := fun {H' pn} hn hp b hb => by
   refine ⟨hn b hb, ?_, ?_, .inl (by rw [eex]; exact hb), fun x c e z => ?_, fun p hm z => ?_⟩
   . rw [eL]; exact ztA (Nat.lt_succ_of_lt (fpl b hb))
   . rw [efs]
     intro z
     exact (List.mem_cons.mp (I.stkSub b z)).elim (hf b hb).2.1 (hf b hb).2.2.1
   . subst z
     rw [eenv] at e
     rcases zeV e with q | ⟨_, q⟩
     . have := (zhb (zs4 q)).1
       exact absurd (zs0 (fpl c hb) (Nat.le_trans (Nat.le_add_right _ 2) this)) (zte _)
     . exact (hf c hb).2.2.2.2.1 x c (h1 x c q).2 rfl
   . rw [epn, ztK] at hm
     have e1 := hp p hm
     rw [e1] at z
     have := fpl b hb
     rw [<- z] at this
     exact absurd this (zte _)
 obtain ⟨m0, w0⟩ := w0
 have loop : ∀ s₃ : Shared, s₃ = { s with heap := pushCells ((s.heap.push { cls := .type "list", dict := none, data := .seq ([] : List Value).toArray }).push { cls := .type "dict", data := .dict #[] }) scope.names } ->
     codeAny (model X.prog X.w) X.A (.compLoop (.ListComp elt [⟨tg, iter, ifs, 0⟩] scope pos) 0 (.ref it) (.ref s.heap.objs.size) Y.env) (RR (.ref s.heap.objs.size) (s.heap.objs.size + 1)) s₃ := by
   rintro s₃ rfl
   refine zgz (fun n s' => ∃ i ys τ H' its k, Inv Y [(s.heap.objs.size, { cls := .type "list", data := .seq (List.toArray its) k })] τ H' s' /\ Vals ys its /\ ys.length <= sizeLine /\ tn i s'.heap /\ (∀ b ∈ fp, H' b = none) /\ W i n ys τ H') ?_ m0 ?_
   . rintro n s3 ⟨i, ys, τ, H3, its, k, I3, rv, hlen, st3, fr3, w3⟩
     have fo3 := stat fr3 (pn := [(s.heap.objs.size, { cls := .type "list", data := .seq (List.toArray its) k })]) (by simp)
     rcases turn i n ys τ H3 w3 with ⟨stop, fin⟩ | ⟨go, hlt, step⟩
     . have q := T.done Y eP ew eK ecalm i _ s3 τ H3 (fun _ _ => False) I3 fo3 st3 stop
       rw [eA] at q
       refine thn q fun r s4 ⟨hr, I4⟩ => ?_
       subst hr
       obtain ⟨oD, nD, _⟩ := I4.pin (s.heap.objs.size, { cls := .type "list", data := .seq (List.toArray its) k }) (by rw [epn]; simp)
       obtain ⟨m, hn, _⟩ := I4.loc
       rw [eL] at hn
       obtain ⟨oC, heC, hoC⟩ := LCg.ns_obj hn
       have un := I4.base
       rw [efs, eex, eH0, es0] at un
       have hfresh : s.heap.get? s.heap.objs.size = none := by
         cases q : s.heap.get? s.heap.objs.size with
         | none => rfl
         | some o => exact absurd (ztp q) (zte _)
       have hok := I4.hok
       rw [eP, ew] at hok
       have hCn : H3 (s.heap.objs.size + 1) = none := by have := I4.free; rw [eL] at this; exact this
       have I5 : Inv X pins σ (upd H3 s.heap.objs.size (.lst ys)) s4 := by
         refine I.call' (ch := fp) (by have := I4.os; rw [es0] at this; exact this) (Un.track un nD hfresh) (HOk.track hok nD ⟨hlen, its, k, rv, oD⟩) I4.bare fun b hb => ?_
         exact ⟨(hf b hb).2.2.2.1, (hf b hb).2.1, (hf b hb).2.2.2.2.1, (hf b hb).2.2.2.2.2⟩
       refine hRR ys H3 s4 oC m nD hoC ?_ fin
       refine I5.pins_of fun p hp => ?_
       rcases ztf.mp hp with z | z
       . exact I5.pin p (List.mem_append_right _ z)
       . have e : p = (s.heap.objs.size + 1, oC) := by simpa using z
         subst e
         have fo := I.fpOk (b := s.heap.objs.size + 1) (H' := upd H3 s.heap.objs.size (.lst ys)) (Nat.le_succ _) (by rw [zal (Nat.ne_of_gt (Nat.lt_succ_self _))]; exact hCn)
         obtain ⟨es, ep, hd, _⟩ := hoC
         exact ⟨heC, fo.1, fo.2.1, fo.2.2.1, fun v z => by rw [hd] at z; cases z⟩
     . have q := T.item Y eP ew eK ecalm i _ s3 τ H3 (fun _ _ => False) I3 fo3 st3 go
       rw [eA] at q
       refine thn q fun r s4 ⟨u, hr, h4⟩ => ?_
       subst hr
       refine thn h4 fun _ s5 ⟨x, H5, I5, r5, y5, st5, fr5⟩ => ?_
       have fo5 := stat fr5 (pn := [(s.heap.objs.size, { cls := .type "list", data := .seq (List.toArray its) k })]) (by simp)
       have I5' := I5.pinned fo5 (T.obj _ _ st5)
       have q := hg _ s5 τ H5 x u _ I5' r5 (step x H5 y5)
       rw [eP, ew, eA, exe] at q
       refine thn q fun _ s6 ⟨τ6, H6, I6, q6⟩ => ?_
       have q := ht _ s6 τ6 H6 _ I6 q6
       rw [eP, ew, eA, exe] at q
       refine thn q fun b s7 ⟨H7, I7, q7⟩ => ?_
       have after : ∀ {τ8 : L2.St} {H8 : Hp} {s8 : Shared}, Inv Y ([(s.heap.objs.size, { cls := .type "list", data := .seq (List.toArray its) k })] ++ zq4 fp s5.heap) τ8 H8 s8 ->
           tn (i + 1) s8.heap /\ (∀ b ∈ fp, H8 b = none) /\ s8.heap.get? s.heap.objs.size = some { cls := .type "list", data := .seq (List.toArray its) k } /\ H8 s.heap.objs.size = none := fun {τ8 H8 s8} I8 => by
         have pi : ∀ b ∈ fp, ∀ o, s5.heap.get? b = some o -> s8.heap.get? b = some o /\ H8 b = none := fun b hb o e => by
           have := I8.pin (b, o) (List.mem_append_right _ (List.mem_append_right _ (zdW hb e)))
           exact ⟨this.1, this.2.1⟩
         have pd := I8.pin (s.heap.objs.size, { cls := .type "list", data := .seq (List.toArray its) k }) (List.mem_append_right _ (List.mem_append_left _ (by simp)))
         refine ⟨T.keep _ _ _ st5 fun b hb o e => (pi b hb o e).1, fun b hb => ?_, pd.1, pd.2.1⟩
         obtain ⟨o, e, d⟩ := T.obj _ _ st5 b hb
         exact (pi b hb o e).2
       cases b with
       | false =>
         rw [if_neg zs2]
         rw [if_neg zs2] at q7
         obtain ⟨m', hm, w7⟩ := q7
         obtain ⟨a1, a2, _, _⟩ := after I7
         exact ⟨m', hm, i + 1, ys, τ6, H7, its, k, I7.unpinned, rv, hlen, a1, a2, w7⟩
       | true =>
         rw [if_pos rfl]
         rw [if_pos rfl] at q7
         have q := he _ s7 τ6 H7 _ I7 q7
         rw [eP, ew, eA, exe] at q
         refine thn q fun v s8 ⟨y, H8, I8, r8, m', hm, w8⟩ => ?_
         obtain ⟨a1, a2, aD, nD⟩ := after I8
         refine append_at (hsz := by rw [zs8, <- rv.length]; exact hlen) aD fun h9 sb9 e9 => ?_
         have hne : s.heap.objs.size ≠ Y.env.locals := by rw [eL]; exact ztA (Nat.lt_succ_self _)
         have I8' : Inv Y [] τ6 H8 s8 := I8.pins_of fun p hp => absurd hp (by simp)
         have I9 : Inv Y [] τ6 H8 { s8 with heap := h9 } := I8'.turned (t' := s8.toks) (fun b o hb e => sb9.extBut b o hb e) nD hne (.inr (by rw [es0]; exact ztq _)) (fun x c e => hD _ _ _ _ I8 x c e) (by rw [epn]; simp)
         have I10 : Inv Y [(s.heap.objs.size, { cls := .type "list", data := .seq (List.toArray (its ++ [v])) (k + 1) })] τ6 H8 { s8 with heap := h9 } := I9.pins_of fun p hp => by
           have e : p = (s.heap.objs.size, { cls := .type "list", data := .seq (List.toArray (its ++ [v])) (k + 1) }) := by simpa using hp
           subst e
           refine ⟨by rw [<- List.push_toArray]; exact e9, nD, hne, ?_, fun v z => by cases z⟩
           rw [efs]
           intro z
           rcases List.mem_cons.mp (I.stkSub _ z) with z | z
           . exact absurd I.lt (by rw [<- z]; exact zte _)
           . exact I.nofs (ztq _) z
         refine ⟨m', hm, i + 1, ys ++ [y], τ6, H8, its ++ [v], k + 1, I10, rv.append (.cons r8 .nil), by rw [zs9]; exact hlt, ?_, a2, w8⟩
         exact T.keep _ _ _ a1 fun b hb o e => sb9.extBut b o (ztA (fpl b hb)) e
   . refine ⟨0, [], zrq src σ, H, [], 0, ?_, .nil, Nat.zero_le _, ?_, fun b hb => (hf b hb).1, w0⟩
     . refine I0.pins_of fun p hp => ?_
       have e : p = (s.heap.objs.size, { cls := .type "list", data := .seq (List.toArray []) 0 }) := by simpa using hp
       subst e
       refine ⟨pushCells_keeps _ _ _ _ (zs1 _ (ztk _ rfl)), I.hok.fresh (ztq _), by rw [eL]; exact ztA (Nat.lt_succ_self _), ?_, fun v z => by cases z⟩
       rw [efs]
       intro z
       rcases List.mem_cons.mp (I.stkSub _ z) with z | z
       . exact absurd I.lt (by rw [<- z]; exact zte _)
       . exact I.nofs (ztq _) z
     . exact T.keep _ _ _ st fun b hb o e => pushCells_keeps _ _ _ _ (zs1 _ (zs1 _ e))
 exact codeAny_compStart_list (loop _ rfl) (T.self _ 0 _ _ _ (T.keep _ _ _ st fun b hb o e => pushCells_keeps _ _ _ _ (zs1 _ (zs1 _ e))) (loop _ rfl))
def tLc (wi : TI) (g : TG) (tt : TT) (te : TE) (src : List (Option Nat)) : TE := fun σ H Q => wi σ H fun J H1 => ∃ W, (∃ m, W 0 m [] (zrq src σ) H1) /\
 LcW J g tt te (fun ys H' => ∀ p, H' p = none -> Q (.ref p) (upd H' p (.lst ys))) W
section
variable {X : Cx} {elt tg iter : Expr} {ifs : List Expr} {scope : Scope} {pos : Pos} {N' : List Str} {src : List (Option Nat)} {wi : TI} {g : TG} {tt : TT} {te : TE}
theorem ziI (ok : zqt X scope N' src) {pins : List (Addr × Obj)} {σ : L2.St} {H : Hp} {s : Shared} (I : Inv X pins σ H s) : ∃ cl, closureFor scope X.env = pure cl /\
   (∀ x c, cl.lookup x = some c -> (x, NameKind.free) ∈ scope.names /\ X.env.cells.lookup x = some c) /\ ∀ x, (x, NameKind.free) ∈ scope.names -> ∃ c, cl.lookup x = some c :=
 zmN (scope := scope) (env := X.env) fun y hy e => I.ok.has y.1 (ok.free y hy e)
theorem zpc (hc : X.calm = true) (ok : zqt X scope N' src) (hi : PI X tg iter wi) (hY : ∀ Y, zqf X scope N' Y -> PG Y tg g /\ PTs Y ifs tt /\ PE Y elt te)
   (hs : ∀ x, foldedSetIterable iter X.env x = pure x) : PE X (.ListComp elt [⟨tg, iter, ifs, 0⟩] scope pos) (tLc wi g tt te src) := by
 intro pins s σ H Q I h
 obtain ⟨cl, hclos, h1, h2⟩ := ziI ok I
 rw [eval_ListComp]
 refine wpAny_comprehension_free (use := none) rfl hs hclos ok.kind (fun y hy e => by rw [ok.uniq y hy, e]) ?_
 refine thn (hi pins s σ H _ I h) fun v s1 q1 => thn q1 fun itv s2 q2 => ?_
 obtain ⟨it, fp, tn, J, H2, e, I2, T, st2, f2, W, w0, turn⟩ := q2
 subst e
 refine zfP (RR := fun acc C => compPost (model X.prog X.w) X.A X.xe none (EP X pins σ Q) acc C) hc ok I2 T st2 f2 h1 h2 hY w0 turn ?_
 intro ys H' s' oC m nD hoC I3 fin
 obtain ⟨heC, nC, neC, nfC, dC⟩ := I3.pin (s2.heap.objs.size + 1, oC) (List.mem_append_right _ (List.mem_append_right _ (by simp)))
 refine ⟨m, hoC.ns heC, fun h'' sb => ⟨.ref s2.heap.objs.size, _, ?_, rfl, fin _ nD⟩⟩
 have I4 : Inv X pins σ (upd H' s2.heap.objs.size (.lst ys)) s' := I3.unpinned
 have fo := I2.fpOk (b := s2.heap.objs.size + 1) (H' := upd H' s2.heap.objs.size (.lst ys)) (Nat.le_succ _) nC
 exact I4.turned (t' := s'.toks) (fun b o hb e => sb.extBut b o hb e) nC fo.2.1 fo.2.2.2.1 fo.2.2.2.2.1 fo.2.2.2.2.2
def tLcS (wi : TI) (g : TG) (tt : TT) (te : TE) (src : List (Option Nat)) (i : Nat) : TS := fun D σ H => wi σ H fun J H1 => ∃ W, (∃ m, W 0 m [] (zrq src σ) H1) /\
 LcW J g tt te (fun ys H' => ∀ p, H' p = none -> D.nx (σ.set i (some (.ref p))) (upd H' p (.lst ys))) W
theorem zj5 {y : Str} {py spos : Pos} {i : Nat} (hN : X.N.Nodup) (hyi : X.N[i]? = some y) (hy : X.env.kindOf y = some .local)
   (hsw : swapsWith (.ListComp elt [⟨tg, iter, ifs, 0⟩] scope pos) (some (.Name y py)) spos.line X.env = pure true)
   (hc : X.calm = true) (ok : zqt X scope N' src) (hi : PI X tg iter wi) (hY : ∀ Y, zqf X scope N' Y -> PG Y tg g /\ PTs Y ifs tt /\ PE Y elt te)
   (hs : ∀ x, foldedSetIterable iter X.env x = pure x) : PS X (.Assign [.Name y py] (.ListComp elt [⟨tg, iter, ifs, 0⟩] scope pos) spos) (tLcS wi g tt te src i) := by
 intro pins s σ H D I h
 obtain ⟨cl, hclos, h1, h2⟩ := ziI ok I
 rw [exec_Assign_Name_used _ _ _ _ hsw]
 refine ztm (wpAny_standAt (ztm ?_))
 show wpAny _ _ (do let _ <- comprehension (.ListComp elt [⟨tg, iter, ifs, 0⟩] scope pos) scope X.env _ (newList []) false (eval iter X.env) (some (assign (.Name y py) X.env))) _ _ s
 refine ztm (zto (wpAny_comprehension_free (use := some (assign (.Name y py) X.env)) (Q := fun _ s' => SP X pins D .next s') rfl hs hclos ok.kind (fun y hy e => by rw [ok.uniq y hy, e])
   ?_) (fun _ s' hq => ztn (ztn hq)) fun _ _ e => e)
 refine thn (hi pins s σ H _ I h) fun v s1 q1 => thn q1 fun itv s2 q2 => ?_
 obtain ⟨it, fp, tn, J, H2, e, I2, T, st2, f2, W, w0, turn⟩ := q2
 subst e
 refine zfP (RR := fun acc C => compPost (model X.prog X.w) X.A X.xe (some (assign (.Name y py) X.env)) (fun _ s' => SP X pins D .next s') acc C) hc ok I2 T st2 f2 h1 h2 hY w0 turn ?_
 intro ys H' s' oC m nD hoC I3 fin
 show wpAny _ _ (assign (.Name y py) X.env (.ref s2.heap.objs.size)) _ _ s'
 refine wpAny_assign_Name (zej I3 hN hyi (.inl hy) (v := .ref s2.heap.objs.size) rfl (fun s3 I4 => ?_) (.inr hy))
 obtain ⟨heC, nC, neC, nfC, dC⟩ := I4.pin (s2.heap.objs.size + 1, oC) (List.mem_append_right _ (List.mem_append_right _ (by simp)))
 refine ⟨m, hoC.ns heC, fun h'' sb => ⟨_, _, ?_, fin _ nD⟩⟩
 have I5 : Inv X pins _ (upd H' s2.heap.objs.size (.lst ys)) s3 := I4.unpinned
 have fo := I2.fpOk (b := s2.heap.objs.size + 1) (H' := upd H' s2.heap.objs.size (.lst ys)) (Nat.le_succ _) nC
 exact I5.turned (t' := s3.toks) (fun b o hb e => sb.extBut b o hb e) nC fo.2.1 fo.2.2.2.1 fo.2.2.2.2.1 fo.2.2.2.2.2
end
end MX
end
section
namespace MX
open PySem PySem.Spec PyProof.Rows L2
abbrev TF := Sg -> So -> Option (Bool × So)
abbrev AF := Sg -> So -> Option (List D × So)
inductive Fl where
 | nx | bk | ct | rt (d : D)
abbrev SF := Sg -> So -> Option (Fl × Sg × So)
abbrev GF := D -> Sg -> So -> Option (Sg × So)
def Kb (K : PySem.W.Frag) (H : Hp) (α : List Addr) (S' : So) (Q : Hp -> Prop) : Prop := ∀ H' α', StoreR K H' α' S' -> Ext K H α H' α' -> Q H'
def rdT (K : PySem.W.Frag) (f : TF) : TT := fun σ H Q => ∃ σd S α b S', VarsR K H α σd σ /\ StoreR K H α S /\ f σd S = some (b, S') /\ Kb K H α S' (Q b)
def ST (X : Cx) (e : Expr) (f : TF) : Prop := PT X e (rdT X.K f)
def SW (X : Cx) (e : Expr) (f : TF) : Prop := PW X e (rdT X.K f)
def rdA (K : PySem.W.Frag) (f : AF) : TA := fun σ H Q => ∃ σd S α ds S', VarsR K H α σd σ /\ StoreR K H α S /\ f σd S = some (ds, S') /\ ∀ vs H' α', StoreR K H' α' S' -> Ext K H α H' α' -> Reps K H' α' ds vs -> Q vs H'
def SA (X : Cx) (es : List Expr) (f : AF) : Prop := PA X es (rdA X.K f)
def Ks (K : PySem.W.Frag) (H : Hp) (α : List Addr) (fl : Fl) (σd' : Sg) (S' : So) (D : zse) : Prop :=
 ∀ σ' H' α', VarsR K H' α' σd' σ' -> StoreR K H' α' S' -> Ext K H α H' α' -> match fl with
   | .nx => D.nx σ' H'
   | .bk => D.bk σ' H'
   | .ct => D.ct σ' H'
   | .rt d => ∀ v, Rep K H' α' d v -> D.rt v H'
def rdS (K : PySem.W.Frag) (f : SF) : TS := fun D σ H => ∃ σd S α fl σd' S', VarsR K H α σd σ /\ StoreR K H α S /\ f σd S = some (fl, σd', S') /\ Ks K H α fl σd' S' D
def SS (X : Cx) (st : Stmt) (f : SF) : Prop := PS X st (rdS X.K f)
def SSs (X : Cx) (sts : List Stmt) (f : SF) : Prop := PSs X sts (rdS X.K f)
def rdG (K : PySem.W.Frag) (f : GF) : TG := fun v σ H Q => ∃ σd S α d σd' S', VarsR K H α σd σ /\ StoreR K H α S /\ Rep K H α d v /\ f d σd S = some (σd', S') /\
 ∀ σ' H' α', VarsR K H' α' σd' σ' -> StoreR K H' α' S' -> Ext K H α H' α' -> Q σ' H'
def SG (X : Cx) (tg : Expr) (f : GF) : Prop := PG X tg (rdG X.K f)
theorem PT.imp {X : Cx} {e : Expr} {t t' : TT} (h : PT X e t) (k : ∀ σ H Q, t' σ H Q -> t σ H Q) : PT X e t' := fun pins s σ H Q I q => h pins s σ H Q I (k σ H Q q)
theorem PW.imp {X : Cx} {e : Expr} {t t' : TT} (h : PW X e t) (k : ∀ σ H Q, t' σ H Q -> t σ H Q) : PW X e t' := fun wh pins s σ H Q I q => h wh pins s σ H Q I (k σ H Q q)
theorem PA.imp {X : Cx} {e : List Expr} {t t' : TA} (h : PA X e t) (k : ∀ σ H Q, t' σ H Q -> t σ H Q) : PA X e t' := fun pos pins s σ H Q I q => h pos pins s σ H Q I (k σ H Q q)
theorem PS.imp {X : Cx} {e : Stmt} {t t' : TS} (h : PS X e t) (k : ∀ D σ H, t' D σ H -> t D σ H) : PS X e t' := fun pins s σ H D I q => h pins s σ H D I (k D σ H q)
theorem PSs.imp {X : Cx} {e : List Stmt} {t t' : TS} (h : PSs X e t) (k : ∀ D σ H, t' D σ H -> t D σ H) : PSs X e t' := fun pins s σ H D I q => h pins s σ H D I (k D σ H q)
theorem PG.imp {X : Cx} {e : Expr} {t t' : TG} (h : PG X e t) (k : ∀ v σ H Q, t' v σ H Q -> t v σ H Q) : PG X e t' := fun pins s σ H v u Q I r q => h pins s σ H v u Q I r (k v σ H Q q)
theorem PI.imp {X : Cx} {tg e : Expr} {t t' : TI} (h : PI X tg e t) (k : ∀ σ H Q, t' σ H Q -> t σ H Q) : PI X tg e t' := fun pins s σ H Q I q => h pins s σ H Q I (k σ H Q q)
def zpA (i : Nat) : EF := fun σ S => match σ[i]? with
 | some (some d) => some (d, S)
 | _ => none
def eC (d : D) : EF := fun _ S => some (d, S)
def eB (g : G2) (fa fb : EF) : EF := fun σ S => (fa σ S).bind fun r => (fb σ r.2).bind fun q => g r.1 q.1 q.2
def eU (g : D -> So -> Option (D × So)) (fa : EF) : EF := fun σ S => (fa σ S).bind fun r => g r.1 r.2
def zpD : AF := fun _ S => some ([], S)
def zpz (fa : EF) (fr : AF) : AF := fun σ S => (fa σ S).bind fun r => (fr σ r.2).bind fun q => some (r.1 :: q.1, q.2)
def eN (g : GN) (fa : AF) : EF := fun σ S => (fa σ S).bind fun r => g r.1 r.2
def eIf (t : TF) (fa fb : EF) : EF := fun σ S => (t σ S).bind fun r => if r.1 = true then fa σ r.2 else fb σ r.2
def zpO : GN := fun ds S => if ds.length <= sizeLine then some (.tup ds, S) else none
def zqp : GN := fun ds S => if ds.length <= sizeLine then some (.ref S.length, S ++ [.lst ds]) else none
section
variable {X : Cx} {a b : Expr} {fa fb : EF} {pos : Pos}
theorem znq {i : Nat} {x : Str} (hN : X.N[i]? = some x) (hv : Vis X.env.scope x) (hd : (x == ("__debug__" : Str)) = false) (hcd : (x == ("__classdict__" : Str)) = false) : SE X (.Name x pos) (zpA i) := by
 refine PE.imp (ze6 hN hv hd hcd) fun σ H Q h => ?_
 obtain ⟨σd, S, α, z, S', hv, hs, hf, k⟩ := h
 unfold zpA at hf
 split at hf
 . rename_i d e
   cases hf
   obtain ⟨v, h1, h2⟩ := hv.2 i _ e
   exact ⟨v, h1, k.same hs h2⟩
 . cases hf
theorem se_c {e : Expr} {d : D} {v : V} (h : PE X e (tC v)) (r : ∀ H α, Rep X.K H α d v) : SE X e (eC d) := by
 refine PE.imp h fun σ H Q h => ?_
 obtain ⟨σd, S, α, z, S', hv, hs, hf, k⟩ := h
 cases hf
 exact k.same hs (r _ _)
theorem znz {i : Int} {j} : SE X (.Constant (.int i) j pos) (eC (.int i)) := se_c zkU fun _ _ => .int i
theorem zo8 {i : Bool} {j} : SE X (.Constant (.bool i) j pos) (eC (.bl i)) := se_c zlR fun _ _ => .bl i
theorem znu {j} : SE X (.Constant .none j pos) (eC .non) := se_c znO fun _ _ => .non
theorem zns {x : Str} {j} : SE X (.Constant (.str x) j pos) (eC (.str x)) := se_c zeK fun _ _ => .str x
theorem rd2 {K : PySem.W.Frag} {g : G2} {σ : L2.St} {H : Hp} {Q : VK} (h : rdE K (eB g fa fb) σ H Q) : rdE K fa σ H fun x H1 => rdE K fb σ H1 fun y H2 => zrF K g x y H2 Q := by
 obtain ⟨σd, S, α, z, S', hv, hs, hf, k⟩ := h
 unfold eB at hf
 simp only [oBs] at hf
 obtain ⟨⟨x, S1⟩, e1, ⟨y, S2⟩, e2, e3⟩ := hf
 refine ⟨σd, S, α, x, S1, hv, hs, e1, fun v H1 α1 s1 x1 r1 => ⟨σd, S1, α1, y, S2, hv.mono x1, s1, e2, fun u H2 α2 s2 x2 r2 => ?_⟩⟩
 exact ⟨S2, α2, x, y, z, S', s2, r1.mono x2, r2, e3, k.trans (x1.trans x2)⟩
theorem zo4 {op : Operator} (ha : SE X a fa) (hb : SE X b fb) : SE X (.BinOp a op b pos) (eB (zpJ op) fa fb) :=
 PE.imp (zpb (zl3 op) ha hb) fun _ _ _ h => rd2 h
theorem znB {op : CmpOp} (hu : X.A.units + 64 < cLine) (h1 : op ≠ .In) (h2 : op ≠ .NotIn) (ha : SE X a fa) (hb : SE X b fb) : SE X (.Compare a [op] [b] pos) (eB (zpM op) fa fb) :=
 PE.imp (zlP (zin hu op) ha hb (zrJ b h1 h2)) fun _ _ _ h => rd2 h
theorem zo6 (hp : zrk b) (ha : SE X a fa) (hb : SE X b fb) : SE X (.Subscript a b pos) (eB gIx fa fb) :=
 PE.imp (znP ixs ha hb hp) fun _ _ _ h => rd2 h
def zsI : D -> So -> Option (D × So)
 | .int i, S => some (.int (-i), S)
 | _, _ => none
theorem znv (ha : SE X a fa) : SE X (.UnaryOp .USub a pos) (eU zsI fa) := by
 refine PE.imp (zo9 zmX ha) fun σ H Q h => ?_
 obtain ⟨σd, S, α, z, S', hv, hs, hf, k⟩ := h
 unfold eU at hf
 simp only [oBs] at hf
 obtain ⟨⟨x, S1⟩, e1, e2⟩ := hf
 refine ⟨σd, S, α, x, S1, hv, hs, e1, fun v H1 α1 s1 x1 r1 => ?_⟩
 cases r1 with
 | int i => cases e2; exact ⟨_, rfl, (k.trans x1).same s1 (.int _)⟩
 | _ => cases e2
theorem znD : SA X [] zpD := by
 refine PA.imp zd6 fun σ H Q h => ?_
 obtain ⟨σd, S, α, ds, S', hv, hs, hf, k⟩ := h
 cases hf
 exact k _ _ _ hs Ext.refl .nil
theorem zlz {e : Expr} {es : List Expr} {fe : EF} {fr : AF} (ha : SE X e fe) (hr : SA X es fr) (hst : starEach (e :: es) X.env = (false, eval e X.env) :: starEach es X.env) : SA X (e :: es) (zpz fe fr) := by
 refine PA.imp (zaP ha hr hst) fun σ H Q h => ?_
 obtain ⟨σd, S, α, ds, S', hv, hs, hf, k⟩ := h
 unfold zpz at hf
 simp only [oBs] at hf
 obtain ⟨⟨x, S1⟩, e1, ⟨ys, S2⟩, e2, e3⟩ := hf
 cases e3
 exact ⟨σd, S, α, x, S1, hv, hs, e1, fun v H1 α1 s1 x1 r1 => ⟨σd, S1, α1, ys, _, hv.mono x1, s1, e2, fun vs H2 α2 s2 x2 r2 => k _ _ _ s2 (x1.trans x2) (.cons (r1.mono x2) r2)⟩⟩
theorem rdN {K : PySem.W.Frag} {g : GN} {fa : AF} {σ : L2.St} {H : Hp} {Q : VK} (h : rdE K (eN g fa) σ H Q) : rdA K fa σ H fun vs H1 => rdC K g vs H1 Q := by
 obtain ⟨σd, S, α, z, S', hv, hs, hf, k⟩ := h
 unfold eN at hf
 simp only [oBs] at hf
 obtain ⟨⟨ds, S1⟩, e1, e2⟩ := hf
 exact ⟨σd, S, α, ds, S1, hv, hs, e1, fun vs H1 α1 s1 x1 r1 => ⟨S1, α1, ds, z, S', s1, r1, e2, k.trans x1⟩⟩
theorem znr {es : List Expr} {fs : AF} {k0} (h : SA X es fs) : SE X (.Tuple es k0 pos) (eN zpO fs) := by
 refine PE.imp (zkT h) fun σ H Q q => ?_
 obtain ⟨σd, S, α, ds, S1, hv, hs, e1, k⟩ := rdN q
 refine ⟨σd, S, α, ds, S1, hv, hs, e1, fun vs H1 α1 s1 x1 r1 => ?_⟩
 obtain ⟨S2, α2, ds', z, S3, s2, r2, e2, k2⟩ := k vs H1 α1 s1 x1 r1
 unfold zpO at e2
 split at e2
 . rename_i hl
   cases e2
   refine ⟨by rw [<- r2.length]; exact hl, fun p hp => ?_⟩
   exact k2.new s2 (zbX hp) (.tup (SqT.of zam) (r2.mono (Same.ext (zbX hp))))
 . cases e2
theorem znx {es : List Expr} {fs : AF} (h : SA X es fs) : SE X (.List es pos) (eN zqp fs) := by
 refine PE.imp (zii h) fun σ H Q q => ?_
 obtain ⟨σd, S, α, ds, S1, hv, hs, e1, k⟩ := rdN q
 refine ⟨σd, S, α, ds, S1, hv, hs, e1, fun vs H1 α1 s1 x1 r1 => ?_⟩
 obtain ⟨S2, α2, ds', z, S3, s2, r2, e2, k2⟩ := k vs H1 α1 s1 x1 r1
 unfold zqp at e2
 split at e2
 . rename_i hl
   cases e2
   refine ⟨by rw [<- r2.length]; exact hl, fun p hp => ?_⟩
   obtain ⟨s', e'⟩ := s2.snoc (p := p) (o := .lst ds') (u := .lst vs) hp fun α' e => ⟨_, zam, r2.mono e⟩
   exact k2 _ _ _ s' e' (.ref (by rw [<- s2.len]; simp))
 . cases e2
def truD : D -> So -> Option Bool
 | .non, _ => some false
 | .bl b, _ => some b
 | .int i, _ => some (i != 0)
 | .str x, _ => if x.length <= sizeLine then some ((x.length : Int) != 0) else none
 | .tup xs, _ => some (!xs.isEmpty)
 | .ref n, S => match S[n]? with
   | some (.lst xs) => some (!xs.isEmpty)
   | some (.frz xs) => some (!xs.isEmpty)
   | _ => none
 | _, _ => none
theorem zcL {K : PySem.W.Frag} {H : Hp} {α : List Addr} {ds : List D} {vs : List V} (r : Reps K H α ds vs) : (!ds.isEmpty) = !vs.isEmpty := by cases r <;> rfl
theorem zk7 {K : PySem.W.Frag} {H : Hp} {α : List Addr} {S : So} {d : D} {v : V} {b : Bool} (hs : StoreR K H α S) (r : Rep K H α d v) (e : truD d S = some b) : TruV K v H b := by
 cases r with
 | non => cases e; exact rfl
 | bl b => cases e; exact rfl
 | int i => cases e; exact rfl
 | str x =>
   have e' : (if x.length <= sizeLine then some ((x.length : Int) != 0) else none) = some b := e
   split at e'
   . rename_i hl; cases e'; exact ⟨hl, rfl⟩
   . cases e'
 | tup h r => cases e; exact .inr (.inl ⟨_, h, zcL r⟩)
 | @ref n a h =>
   simp only [truD] at e
   cases hm : S[n]? with
   | none => simp [hm] at e
   | some o =>
     simp only [hm] at e
     have hob := hs.obj _ _ _ hm h
     cases o with
     | lst xs =>
       cases e
       obtain ⟨vs, h1, r⟩ := hob
       exact .inl ⟨_, SqL.of h1, zcL r⟩
     | frz xs =>
       cases e
       obtain ⟨vs, h1, r⟩ := hob
       exact .inl ⟨_, h1.sq, zcL r⟩
     | ins C fs => cases e
     | dct xs => cases e
 | ty n => cases e
 | adr a => cases e
def zq2 (fa : EF) : TF := fun σ S => (fa σ S).bind fun r => (truD r.1 r.2).map fun b => (b, r.2)
theorem znd (ha : SE X a fa) (he : ∀ whole, isTrue a X.env whole = (do let v <- whole; standAt a.pos; holding [v] (truthy v))) : ST X a (zq2 fa) := by
 refine PT.imp (zj3 ha he) fun σ H Q h => ?_
 obtain ⟨σd, S, α, b, S', hv, hs, hf, k⟩ := h
 unfold zq2 at hf
 simp only [oBs, oMs] at hf
 obtain ⟨⟨x, S1⟩, e1, c, e2, e3⟩ := hf
 cases e3
 exact ⟨σd, S, α, x, S1, hv, hs, e1, fun v H1 α1 s1 x1 r1 => ⟨b, zk7 s1 r1 e2, k _ _ s1 x1⟩⟩
def tBl (fa : EF) : TF := fun σ S => (fa σ S).bind fun r => match r.1 with
 | .bl b => some (b, r.2)
 | _ => none
theorem znf {op : CmpOp} (hu : X.A.units + 64 < cLine) (h1 : op ≠ .In) (h2 : op ≠ .NotIn) (ha : SE X a fa) (hb : SE X b fb) : ST X (.Compare a [op] [b] pos) (tBl (eB (zpM op) fa fb)) := by
 refine PT.imp (zia (zin hu op) ha hb (zrJ b h1 h2)) fun σ H Q h => ?_
 obtain ⟨σd, S, α, c, S', hv, hs, hf, k⟩ := h
 unfold tBl at hf
 simp only [oBs] at hf
 obtain ⟨⟨z, S1⟩, e1, e2⟩ := hf
 cases z with
 | bl c' =>
   cases e2
   exact rd2 ⟨σd, S, α, .bl c, _, hv, hs, e1, fun v H1 α1 s1 x1 r1 => by cases r1; exact ⟨c, rfl, k _ _ s1 x1⟩⟩
 | _ => cases e2
def zqJ (t : TF) : TF := fun σ S => (t σ S).map fun r => (!r.1, r.2)
theorem zne {t : TF} (ha : ST X a t) : ST X (.UnaryOp .Not a pos) (zqJ t) := by
 refine PT.imp (zh9 ha) fun σ H Q h => ?_
 obtain ⟨σd, S, α, c, S', hv, hs, hf, k⟩ := h
 unfold zqJ at hf
 simp only [oMs] at hf
 obtain ⟨⟨b, S1⟩, e1, e2⟩ := hf
 cases e2
 exact ⟨σd, S, α, b, S1, hv, hs, e1, k⟩
def zrc (t u : TF) : TF := fun σ S => (t σ S).bind fun r => if r.1 = true then u σ r.2 else some (false, r.2)
def zrC (t u : TF) : TF := fun σ S => (t σ S).bind fun r => if r.1 = true then some (true, r.2) else u σ r.2
theorem zlg {t : TF} (ha : ST X a t) : SW X (.BoolOp .And [a] pos) t := zlD ha
theorem zna {t : TF} (ha : ST X a t) : SW X (.BoolOp .Or [a] pos) t := zkP ha
theorem znb {t u : TF} {rest : List Expr} (ha : ST X a t) (hb : SW X (.BoolOp .And (b :: rest) pos) u) : SW X (.BoolOp .And (a :: b :: rest) pos) (zrc t u) := by
 refine PW.imp (znF ha hb) fun σ H Q h => ?_
 obtain ⟨σd, S, α, c, S', hv, hs, hf, k⟩ := h
 unfold zrc at hf
 simp only [oBs] at hf
 obtain ⟨⟨b1, S1⟩, e1, e2⟩ := hf
 refine ⟨σd, S, α, b1, S1, hv, hs, e1, fun H1 α1 s1 x1 => ?_⟩
 cases b1 with
 | true =>
   rw [if_pos rfl]; rw [if_pos rfl] at e2
   exact ⟨σd, S1, α1, c, S', hv.mono x1, s1, e2, fun H2 α2 s2 x2 => k _ _ s2 (x1.trans x2)⟩
 | false =>
   rw [if_neg zs2]; rw [if_neg zs2] at e2
   cases e2
   exact k _ _ s1 x1
theorem zoX {t u : TF} {rest : List Expr} (ha : ST X a t) (hb : SW X (.BoolOp .Or (b :: rest) pos) u) : SW X (.BoolOp .Or (a :: b :: rest) pos) (zrC t u) := by
 refine PW.imp (zlC ha hb) fun σ H Q h => ?_
 obtain ⟨σd, S, α, c, S', hv, hs, hf, k⟩ := h
 unfold zrC at hf
 simp only [oBs] at hf
 obtain ⟨⟨b1, S1⟩, e1, e2⟩ := hf
 refine ⟨σd, S, α, b1, S1, hv, hs, e1, fun H1 α1 s1 x1 => ?_⟩
 cases b1 with
 | true =>
   rw [if_pos rfl]; rw [if_pos rfl] at e2
   cases e2
   exact k _ _ s1 x1
 | false =>
   rw [if_neg zs2]; rw [if_neg zs2] at e2
   exact ⟨σd, S1, α1, c, S', hv.mono x1, s1, e2, fun H2 α2 s2 x2 => k _ _ s2 (x1.trans x2)⟩
theorem zo7 {c : Expr} {t : TF} (hc : ST X c t) (ha : SE X a fa) (hb : SE X b fb) : SE X (.IfExp c a b pos) (eIf t fa fb) := by
 refine PE.imp (zka hc ha hb) fun σ H Q h => ?_
 obtain ⟨σd, S, α, z, S', hv, hs, hf, k⟩ := h
 unfold eIf at hf
 simp only [oBs] at hf
 obtain ⟨⟨b1, S1⟩, e1, e2⟩ := hf
 refine ⟨σd, S, α, b1, S1, hv, hs, e1, fun H1 α1 s1 x1 => ?_⟩
 cases b1 with
 | true =>
   rw [if_pos rfl]; rw [if_pos rfl] at e2
   exact ⟨σd, S1, α1, z, S', hv.mono x1, s1, e2, k.trans x1⟩
 | false =>
   rw [if_neg zs2]; rw [if_neg zs2] at e2
   exact ⟨σd, S1, α1, z, S', hv.mono x1, s1, e2, k.trans x1⟩
def eNot (fa : EF) : EF := fun σ S => (fa σ S).bind fun r => match r.1 with
 | .bl b => some (.bl (!b), r.2)
 | _ => none
theorem znt (ha : SE X a fa) : SE X (.UnaryOp .Not a pos) (eNot fa) := by
 refine PE.imp (znN ha) fun σ H Q h => ?_
 obtain ⟨σd, S, α, z, S', hv, hs, hf, k⟩ := h
 unfold eNot at hf
 simp only [oBs] at hf
 obtain ⟨⟨x, S1⟩, e1, e2⟩ := hf
 refine ⟨σd, S, α, x, S1, hv, hs, e1, fun v H1 α1 s1 x1 r1 => ?_⟩
 cases r1 with
 | bl c => cases e2; exact ⟨c, rfl, (k.trans x1).same s1 (.bl _)⟩
 | _ => cases e2
def zrN (fa fb : EF) : EF := fun σ S => (fa σ S).bind fun r => match r.1 with
 | .bl true => fb σ r.2
 | .bl false => some (.bl false, r.2)
 | _ => none
def eOr (fa fb : EF) : EF := fun σ S => (fa σ S).bind fun r => match r.1 with
 | .bl true => some (.bl true, r.2)
 | .bl false => fb σ r.2
 | _ => none
theorem zj0 {op} (ha : SE X a fa) : SE X (.BoolOp op [a] pos) fa := znM ha
theorem znC {rest : List Expr} (ha : SE X a fa) (hb : SE X (.BoolOp .And (b :: rest) pos) fb) : SE X (.BoolOp .And (a :: b :: rest) pos) (zrN fa fb) := by
 refine PE.imp (znR ha hb) fun σ H Q h => ?_
 obtain ⟨σd, S, α, z, S', hv, hs, hf, k⟩ := h
 unfold zrN at hf
 simp only [oBs] at hf
 obtain ⟨⟨x, S1⟩, e1, e2⟩ := hf
 refine ⟨σd, S, α, x, S1, hv, hs, e1, fun v H1 α1 s1 x1 r1 => ?_⟩
 cases r1 with
 | bl c =>
   refine ⟨c, rfl, ?_⟩
   cases c with
   | true => rw [if_pos rfl]; exact ⟨σd, S1, α1, z, S', hv.mono x1, s1, e2, k.trans x1⟩
   | false => rw [if_neg zs2]; cases e2; exact (k.trans x1).same s1 (.bl _)
 | _ => cases e2
theorem zo3 {rest : List Expr} (ha : SE X a fa) (hb : SE X (.BoolOp .Or (b :: rest) pos) fb) : SE X (.BoolOp .Or (a :: b :: rest) pos) (eOr fa fb) := by
 refine PE.imp (zpa ha hb) fun σ H Q h => ?_
 obtain ⟨σd, S, α, z, S', hv, hs, hf, k⟩ := h
 unfold eOr at hf
 simp only [oBs] at hf
 obtain ⟨⟨x, S1⟩, e1, e2⟩ := hf
 refine ⟨σd, S, α, x, S1, hv, hs, e1, fun v H1 α1 s1 x1 r1 => ?_⟩
 cases r1 with
 | bl c =>
   refine ⟨c, rfl, ?_⟩
   cases c with
   | false => rw [if_neg zs2]; exact ⟨σd, S1, α1, z, S', hv.mono x1, s1, e2, k.trans x1⟩
   | true => rw [if_pos rfl]; cases e2; exact (k.trans x1).same s1 (.bl _)
 | _ => cases e2
end
def spOf (K : PySem.W.Frag) (n : Nat) (φ : GN) : Sp := fun vs H Q _ => vs.length = n /\ rdC K φ vs H Q
def zsU (X : Cx) (x : Str) (n : Nat) (φ : GN) : Prop := ∃ f fd ps k, X.mg x = some (.ref f) /\ PySem.W.keepIn X.K (.ref f) = true /\ Binds X.K fd ps [] /\
 FnOk X.prog X.w X.K X.mg X.base CX0 k f fd ps (spOf X.K n φ) /\ Room k X.A
section
variable {X : Cx} {x : Str} {p pos : Pos} {es : List Expr} {fs : AF}
def zpG (n : Nat) (φ : GN) : GN := fun ds S => if ds.length = n then φ ds S else none
theorem zly {e : Expr} {n : Nat} {φ : GN} (hg : Gl X x) (hF : zsU X x n φ) (ha : SA X (e :: es) fs) (hdb : (x == ("__debug__" : Str)) = false) (he : starEach (e :: es) X.env = (false, eval e X.env) :: starEach es X.env)
   (hpl : (backTo pos (starEach es X.env)).any (·.1) = false) : SE X (.Call (.Name x p) (e :: es) [] pos) (eN (zpG n φ) fs) := by
 obtain ⟨f, fd, ps, k, hm, hk, hb, F, hr⟩ := hF
 refine PE.imp (zil F hr hg hm hk hb .nil pass0 ha hdb he hpl) fun σ H Q h => ?_
 obtain ⟨σd, S, α, ds, S1, hv, hs, e1, k⟩ := rdN h
 refine ⟨σd, S, α, ds, S1, hv, hs, e1, fun vs H1 α1 s1 x1 r1 => ?_⟩
 obtain ⟨S2, α2, ds', z, S3, s2, r2, e2, k2⟩ := k vs H1 α1 s1 x1 r1
 unfold zpG at e2
 split at e2
 . rename_i hl
   rw [List.append_nil]
   exact ⟨by rw [<- r2.length]; exact hl, S2, α2, ds', z, S3, s2, r2, e2, k2⟩
 . cases e2
theorem zjZ {e : Expr} {id : String} {g : GN} (hc : zpS X (.builtin id) (rdC X.K g)) (hg : Gl X x) (hm : X.mg x = none) (hv : bootBuiltins x = some (.builtin id)) (ha : SA X (e :: es) fs) (hn : x ≠ "__name__") (hdb : (x == ("__debug__" : Str)) = false)
   (he : starEach (e :: es) X.env = (false, eval e X.env) :: starEach es X.env) (hpl : (backTo pos (starEach es X.env)).any (·.1) = false) : SE X (.Call (.Name x p) (e :: es) [] pos) (eN g fs) :=
 PE.imp (zgP hc hg hm hv ha hn hdb he hpl) fun _ _ _ h => rdN h
theorem zjY {e : Expr} {T : String} {g : GN} (hc : zpS X (.type T) (rdC X.K g)) (hg : Gl X x) (hm : X.mg x = none) (hv : bootBuiltins x = some (.type T)) (ha : SA X (e :: es) fs) (hn : x ≠ "__name__") (hdb : (x == ("__debug__" : Str)) = false)
   (he : starEach (e :: es) X.env = (false, eval e X.env) :: starEach es X.env) (hpl : (backTo pos (starEach es X.env)).any (·.1) = false) : SE X (.Call (.Name x p) (e :: es) [] pos) (eN g fs) :=
 PE.imp (zik hc hg hm hv ha hn hdb he hpl) fun _ _ _ h => rdN h
end
def gNm (i : Nat) : GF := fun d σ S => some (σ.set i (some d), S)
abbrev GFs := List D -> Sg -> So -> Option (Sg × So)
def zp3 : GFs := fun ds σ S => match ds with
 | [] => some (σ, S)
 | _ => none
def zpI (f : GF) (fr : GFs) : GFs := fun ds σ S => match ds with
 | d :: r => (f d σ S).bind fun q => fr r q.1 q.2
 | [] => none
def gTp (n : Nat) (fr : GFs) : GF := fun d σ S => match d with
 | .tup xs => if xs.length = n then fr xs σ S else none
 | .ref m => match S[m]? with
   | some (.lst xs) => if xs.length = n then fr xs σ S else none
   | _ => none
 | _ => none
def rdGs (K : PySem.W.Frag) (f : GFs) : TGs := fun vs σ H Q => ∃ σd S α ds σd' S', VarsR K H α σd σ /\ StoreR K H α S /\ Reps K H α ds vs /\ f ds σd S = some (σd', S') /\
 ∀ σ' H' α', VarsR K H' α' σd' σ' -> StoreR K H' α' S' -> Ext K H α H' α' -> Q σ' H'
def SGs (X : Cx) (tgs : List Expr) (f : GFs) : Prop := PGs X tgs (rdGs X.K f)
section
variable {X : Cx} {pos : Pos}
theorem zlv {i : Nat} {x : Str} (hN : X.N.Nodup) (hi : X.N[i]? = some x) (hx : Loc X.env.scope x) (hf : X.fn x = true \/ X.env.scope.names.lookup x = some .local) : SG X (.Name x pos) (gNm i) := by
 refine PG.imp (zlN hN hi hx hf) fun v σ H Q h => ?_
 obtain ⟨σd, S, α, d, σd', S', hv, hs, r, hf, k⟩ := h
 cases hf
 exact k _ _ _ (hv.set r i) hs Ext.refl
theorem zlu : SGs X [] zp3 := by
 refine fun pins s σ H vs us Q I r0 h => zlL pins s σ H vs us Q I r0 ?_
 obtain ⟨σd, S, α, ds, σd', S', hv, hs, r, hf, k⟩ := h
 cases r with
 | nil => cases hf; exact ⟨rfl, k _ _ _ hv hs Ext.refl⟩
 | cons _ _ => cases hf
theorem zjU {e : Expr} {es : List Expr} {f : GF} {fr : GFs} (h1 : SG X e f) (h2 : SGs X es fr) (hs : (assignEach (e :: es) X.env).map (·.2) = assign e X.env :: (assignEach es X.env).map (·.2)) : SGs X (e :: es) (zpI f fr) := by
 refine fun pins s σ H vs us Q I r0 h => zj9 h1 h2 hs pins s σ H vs us Q I r0 ?_
 obtain ⟨σd, S, α, ds, σd', S', hv, hs, r, hf, k⟩ := h
 cases r with
 | nil => cases hf
 | cons r rr =>
   unfold zpI at hf
   simp only [oBs] at hf
   obtain ⟨⟨σ1, S1⟩, e1, e2⟩ := hf
   exact ⟨_, _, rfl, σd, S, α, _, σ1, S1, hv, hs, r, e1, fun σ' H' α' v' s' x' => ⟨σ1, S1, α', _, σd', S', v', s', rr.mono x', e2, fun σ2 H2 α2 v2 s2 x2 => k _ _ _ v2 s2 (x'.trans x2)⟩⟩
theorem zno {es : List Expr} {k0 : Nat} {f : GFs} {n : Nat} (hc : X.calm = true) (h : SGs X es f) (hn : (assignEach es X.env).length = n) (hst : (assignEach es X.env).findIdx? (·.1) = none) : SG X (.Tuple es k0 pos) (gTp n f) := by
 refine PG.imp (PG.or (znK hc h hn hst) (zlM hc h hn hst)) fun v σ H Q h => ?_
 obtain ⟨σd, S, α, d, σd', S', hv, hs, r, hf, k⟩ := h
 unfold gTp at hf
 cases r with
 | tup h r =>
   simp only at hf
   split at hf
   . rename_i hl
     exact .inl ⟨_, _, rfl, h, by rw [<- r.length]; exact hl, σd, S, α, _, σd', S', hv, hs, r, hf, k⟩
   . cases hf
 | ref ha =>
   simp only at hf
   split at hf
   . rename_i xs em
     split at hf
     . rename_i hl
       obtain ⟨vs, h1, r⟩ := hs.obj _ _ _ em ha
       exact .inr ⟨_, vs, rfl, SqL.of h1, by rw [<- r.length]; exact hl, σd, S, α, xs, σd', S', hv, hs, r, hf, k⟩
     . cases hf
   . cases hf
 | _ => cases hf
end
def zpE : SF := fun σ S => some (.nx, σ, S)
def zpH (f g : SF) : SF := fun σ S => (f σ S).bind fun r => match r.1 with
 | .nx => g r.2.1 r.2.2
 | fl => some (fl, r.2.1, r.2.2)
def zpL (fe : EF) (fg : GF) : SF := fun σ S => (fe σ S).bind fun r => (fg r.1 σ r.2).map fun q => (.nx, q.1, q.2)
def zqn (fe : EF) : SF := fun σ S => (fe σ S).map fun r => (.nx, σ, r.2)
def zpT (fe : EF) : SF := fun σ S => (fe σ S).map fun r => (.rt r.1, σ, r.2)
def sRetN : SF := fun σ S => some (.rt .non, σ, S)
def sBrk : SF := fun σ S => some (.bk, σ, S)
def sCnt : SF := fun σ S => some (.ct, σ, S)
def sIf (t : TF) (f g : SF) : SF := fun σ S => (t σ S).bind fun r => if r.1 = true then f σ r.2 else g σ r.2
section
variable {X : Cx} {st : Stmt} {rest : List Stmt} {f g : SF} {e : Expr} {fe : EF} {pos : Pos}
theorem znh : SSs X [] zpE := by
 refine PSs.imp zfm fun D σ H h => ?_
 obtain ⟨σd, S, α, fl, σd', S', hv, hs, hf, k⟩ := h
 cases hf
 exact k _ _ _ hv hs Ext.refl
theorem Ks.trans {K : PySem.W.Frag} {H H1 : Hp} {α α1 : List Addr} {fl : Fl} {σd' : Sg} {S' : So} {D : zse} (k : Ks K H α fl σd' S' D) (e : Ext K H α H1 α1) : Ks K H1 α1 fl σd' S' D := fun σ' H' α' v s x => k σ' H' α' v s (e.trans x)
theorem zlm (h1 : SS X st f) (h2 : SSs X rest g) : SSs X (st :: rest) (zpH f g) := by
 refine PSs.imp (zbY h1 h2) fun D σ H h => ?_
 obtain ⟨σd, S, α, fl, σd', S', hv, hs, hf, k⟩ := h
 unfold zpH at hf
 simp only [oBs] at hf
 obtain ⟨⟨fl1, σ1, S1⟩, e1, e2⟩ := hf
 refine ⟨σd, S, α, fl1, σ1, S1, hv, hs, e1, fun σ' H' α' v' s' x' => ?_⟩
 cases fl1 with
 | nx => exact ⟨σ1, S1, α', fl, σd', S', v', s', e2, k.trans x'⟩
 | bk => cases e2; exact k σ' H' α' v' s' x'
 | ct => cases e2; exact k σ' H' α' v' s' x'
 | rt d => cases e2; exact k σ' H' α' v' s' x'
theorem zlk : SS X (.Pass pos) zpE := by
 refine PS.imp zlI fun D σ H h => ?_
 obtain ⟨σd, S, α, fl, σd', S', hv, hs, hf, k⟩ := h
 cases hf
 exact k _ _ _ hv hs Ext.refl
theorem znj {x j pos'} : SS X (.Expr (.Constant (.str x) j pos) pos') zpE := by
 refine PS.imp znH fun D σ H h => ?_
 obtain ⟨σd, S, α, fl, σd', S', hv, hs, hf, k⟩ := h
 cases hf
 exact k _ _ _ hv hs Ext.refl
theorem znl : SS X (.Break pos) sBrk := by
 refine PS.imp zj6 fun D σ H h => ?_
 obtain ⟨σd, S, α, fl, σd', S', hv, hs, hf, k⟩ := h
 cases hf
 exact k _ _ _ hv hs Ext.refl
theorem znk : SS X (.Continue pos) sCnt := by
 refine PS.imp zgg fun D σ H h => ?_
 obtain ⟨σd, S, α, fl, σd', S', hv, hs, hf, k⟩ := h
 cases hf
 exact k _ _ _ hv hs Ext.refl
theorem zll (he : SE X e fe) (hsw : swapsWith e none pos.line X.env = pure false) : SS X (.Expr e pos) (zqn fe) := by
 refine PS.imp (zic he hsw) fun D σ H h => ?_
 obtain ⟨σd, S, α, fl, σd', S', hv, hs, hf, k⟩ := h
 unfold zqn at hf
 simp only [oMs] at hf
 obtain ⟨⟨d, S1⟩, e1, e2⟩ := hf
 cases e2
 exact ⟨σd, S, α, d, S1, hv, hs, e1, fun v H' α' s' x' r' => k _ _ _ (hv.mono x') s' x'⟩
theorem zng (he : SE X e fe) : SS X (.Return (some e) pos) (zpT fe) := by
 refine PS.imp (zfC he) fun D σ H h => ?_
 obtain ⟨σd, S, α, fl, σd', S', hv, hs, hf, k⟩ := h
 unfold zpT at hf
 simp only [oMs] at hf
 obtain ⟨⟨d, S1⟩, e1, e2⟩ := hf
 cases e2
 exact ⟨σd, S, α, d, S1, hv, hs, e1, fun v H' α' s' x' r' => k _ _ _ (hv.mono x') s' x' v r'⟩
theorem zlj : SS X (.Return none pos) sRetN := by
 refine PS.imp zlH fun D σ H h => ?_
 obtain ⟨σd, S, α, fl, σd', S', hv, hs, hf, k⟩ := h
 cases hf
 exact k _ _ _ hv hs Ext.refl _ .non
theorem zfz {tg : Expr} {fg : GF} (he : SE X e fe) (hg : SG X tg fg) (h1 : swapsWithSole [tg] e pos.line X.env = pure false) (h2 : swappedStores [tg] e X.env = pure none)
   (h3 : (assignEach [tg] X.env).map (·.2) = [assign tg X.env]) : SS X (.Assign [tg] e pos) (zpL fe fg) := by
 refine PS.imp (znI he hg h1 h2 h3) fun D σ H h => ?_
 obtain ⟨σd, S, α, fl, σd', S', hv, hs, hf, k⟩ := h
 unfold zpL at hf
 simp only [oBs, oMs] at hf
 obtain ⟨⟨d, S1⟩, e1, ⟨σ1, S2⟩, e2, e3⟩ := hf
 cases e3
 exact ⟨σd, S, α, d, S1, hv, hs, e1, fun v H' α' s' x' r' => ⟨σd, S1, α', d, _, _, hv.mono x', s', r', e2, fun σ2 H2 α2 v2 s2 x2 => k _ _ _ v2 s2 (x'.trans x2)⟩⟩
theorem zkM {i : Nat} {x : Str} {pos' : Pos} (hN : X.N.Nodup) (hi : X.N[i]? = some x) (hx : Loc X.env.scope x) (he : SE X e fe) (hsw : swapsWith e (some (.Name x pos')) pos.line X.env = pure false) (hfn : X.fn x = true \/ X.env.scope.names.lookup x = some .local) :
   SS X (.Assign [.Name x pos'] e pos) (zpL fe (gNm i)) := by
 refine PS.imp (zkR hN hi hx he hsw hfn) fun D σ H h => ?_
 obtain ⟨σd, S, α, fl, σd', S', hv, hs, hf, k⟩ := h
 unfold zpL at hf
 simp only [oBs, oMs] at hf
 obtain ⟨⟨d, S1⟩, e1, ⟨σ1, S2⟩, e2, e3⟩ := hf
 cases e3; cases e2
 exact ⟨σd, S, α, d, S1, hv, hs, e1, fun v H' α' s' x' r' => k _ _ _ ((hv.mono x').set r' i) s' x'⟩
theorem zoY {c : Expr} {a b : List Stmt} {t : TF} (hc : ST X c t) (ha : SSs X a f) (hb : SSs X b g) : SS X (.If c a b pos) (sIf t f g) := by
 refine PS.imp (zlJ hc ha hb) fun D σ H h => ?_
 obtain ⟨σd, S, α, fl, σd', S', hv, hs, hf, k⟩ := h
 unfold sIf at hf
 simp only [oBs] at hf
 obtain ⟨⟨b1, S1⟩, e1, e2⟩ := hf
 refine ⟨σd, S, α, b1, S1, hv, hs, e1, fun H1 α1 s1 x1 => ?_⟩
 cases b1 with
 | true =>
   rw [if_pos rfl]; rw [if_pos rfl] at e2
   exact ⟨σd, S1, α1, fl, σd', S', hv.mono x1, s1, e2, k.trans x1⟩
 | false =>
   rw [if_neg zs2]; rw [if_neg zs2] at e2
   exact ⟨σd, S1, α1, fl, σd', S', hv.mono x1, s1, e2, k.trans x1⟩
end
def whN (t : TF) (f : SF) : Nat -> SF
 | 0 => fun _ _ => none
 | n + 1 => fun σ S => (t σ S).bind fun r => if r.1 = true then (f σ r.2).bind fun q => match q.1 with
     | .nx => whN t f n q.2.1 q.2.2
     | .ct => whN t f n q.2.1 q.2.2
     | .bk => some (.nx, q.2.1, q.2.2)
     | .rt d => some (.rt d, q.2.1, q.2.2)
   else some (.nx, σ, r.2)
theorem zff {t : TF} {f : SF} : ∀ {n : Nat} {σ : Sg} {S : So} {r : Fl × Sg × So}, whN t f n σ S = some r -> whN t f (n + 1) σ S = some r
 | 0, _, _, _, h => by cases h
 | n + 1, σ, S, r, h => by
   unfold whN at h ⊢
   simp only [oBs] at h ⊢
   obtain ⟨q, e1, e2⟩ := h
   refine ⟨q, e1, ?_⟩
   by_cases hb : q.1 = true
   . rw [if_pos hb] at e2 ⊢
     simp only [oBs] at e2 ⊢
     obtain ⟨q2, e3, e4⟩ := e2
     refine ⟨q2, e3, ?_⟩
     obtain ⟨fl, σ1, S1⟩ := q2
     cases fl with
     | nx => exact zff e4
     | ct => exact zff e4
     | bk => exact e4
     | rt d => exact e4
   . rw [if_neg hb] at e2 ⊢
     exact e2
theorem zgH {t : TF} {f : SF} {n m : Nat} {σ : Sg} {S : So} {r : Fl × Sg × So} (h : whN t f n σ S = some r) (hm : n <= m) : whN t f m σ S = some r := by
 obtain ⟨k, rfl⟩ := Nat.exists_eq_add_of_le hm
 clear hm
 induction k with
 | zero => exact h
 | succ k ih => exact zff ih
open Classical in
def sWh (t : TF) (f : SF) : SF := fun σ S => if h : ∃ n r, whN t f n σ S = some r then some (Classical.choose (Classical.choose_spec h)) else none
theorem zkO {t : TF} {f : SF} {n : Nat} {σ : Sg} {S : So} {r : Fl × Sg × So} (h : whN t f n σ S = some r) : sWh t f σ S = some r := by
 have hx : ∃ n r, whN t f n σ S = some r := ⟨n, r, h⟩
 unfold sWh
 rw [dif_pos hx]
 have e := Classical.choose_spec (Classical.choose_spec hx)
 have e1 := zgH e (Nat.le_max_left _ n)
 have e2 := zgH h (Nat.le_max_right (Classical.choose hx) n)
 rw [e1] at e2
 exact e2
theorem zkW {t : TF} {f : SF} {σ : Sg} {S : So} {r : Fl × Sg × So} (h : sWh t f σ S = some r) : ∃ n, whN t f n σ S = some r := by
 unfold sWh at h
 split at h
 . rename_i hx
   cases h
   exact ⟨_, Classical.choose_spec (Classical.choose_spec hx)⟩
 . cases h
theorem zj1 {t : TF} {f : SF} {σ σ1 σ2 : Sg} {S S1 S2 : So} {fl : Fl} {r : Fl × Sg × So} (h1 : t σ S = some (true, S1)) (h2 : f σ S1 = some (fl, σ2, S2)) (hf : fl = .nx \/ fl = .ct) (h3 : sWh t f σ2 S2 = some r) : sWh t f σ S = some r := by
 obtain ⟨n, e⟩ := zkW h3
 refine zkO (n := n + 1) ?_
 unfold whN
 rw [h1]
 simp only [zs6, if_true]
 rw [h2]
 rcases hf with rfl | rfl <;> exact e
theorem zlA {t : TF} {f : SF} {σ : Sg} {S S1 : So} (h1 : t σ S = some (false, S1)) : sWh t f σ S = some (.nx, σ, S1) := by
 refine zkO (n := 1) ?_
 unfold whN
 rw [h1]
 simp
section
variable {X : Cx} {pos : Pos}
theorem zjK {c : Expr} {body : List Stmt} {t : TF} {f : SF} (hp : PassesOwn (model X.prog X.w) X.A X.env X.xe) (hc : ST X c t) (hb : SSs X body f) : SS X (.While c body [] pos) (sWh t f) := by
 refine PS.imp (zj4 hp hc hb) fun D σ H h => ?_
 obtain ⟨σd, S, α, fl, σd', S', hv, hs, hf, k⟩ := h
 obtain ⟨n, hn⟩ := zkW hf
 refine ⟨fun m σ1 H1 => ∃ σd1 S1 α1, VarsR X.K H1 α1 σd1 σ1 /\ StoreR X.K H1 α1 S1 /\ Ext X.K H α H1 α1 /\ whN t f m σd1 S1 = some (fl, σd', S'), ⟨n, σd, S, α, hv, hs, Ext.refl, hn⟩, ?_⟩
 rintro m σ1 H1 ⟨σd1, S1, α1, v1, s1, x1, e⟩
 cases m with
 | zero => cases e
 | succ m =>
   unfold whN at e
   simp only [oBs] at e
   obtain ⟨⟨b, S2⟩, e1, e2⟩ := e
   refine ⟨σd1, S1, α1, b, S2, v1, s1, e1, fun H2 α2 s2 x2 => ?_⟩
   cases b with
   | false =>
     rw [if_neg zs2]; rw [if_neg zs2] at e2
     cases e2
     exact k _ _ _ (v1.mono x2) s2 (x1.trans x2)
   | true =>
     rw [if_pos rfl]; rw [if_pos rfl] at e2
     simp only [oBs] at e2
     obtain ⟨⟨fl3, σd3, S3⟩, e3, e4⟩ := e2
     refine ⟨fun σ4 H4 => ∃ σd4 S4 α4, VarsR X.K H4 α4 σd4 σ4 /\ StoreR X.K H4 α4 S4 /\ Ext X.K H α H4 α4 /\ whN t f m σd4 S4 = some (fl, σd', S'), fun σ4 H4 q => ⟨m, Nat.lt_succ_self _, q⟩, ?_⟩
     refine ⟨σd1, S2, α2, fl3, σd3, S3, v1.mono x2, s2, e3, fun σ4 H4 α4 v4 s4 x4 => ?_⟩
     have xx := (x1.trans x2).trans x4
     cases fl3 with
     | nx => exact ⟨σd3, S3, α4, v4, s4, xx, e4⟩
     | ct => exact ⟨σd3, S3, α4, v4, s4, xx, e4⟩
     | bk => cases e4; exact k _ _ _ v4 s4 xx
     | rt d => cases e4; exact k _ _ _ v4 s4 xx
end
end MX
end
section
namespace MX
open PySem PySem.Spec PyProof.Rows L2
inductive ItD where
 | fix (xs : List D) | lst (n : Nat) | zip (ds : List D) | itm (n m : Nat)
def seqD (S : So) : D -> Option (List D)
 | .tup xs => some xs
 | .ref n => match S[n]? with
   | some (.lst xs) => some xs
   | some (.frz xs) => some xs
   | _ => none
 | _ => none
def zsC (S : So) : List D -> Option (List (List D))
 | [] => some []
 | d :: r => (seqD S d).bind fun xs => (zsC S r).map (xs :: ·)
def zsn : List (List D) -> Option Nat
 | [] => none
 | [xs] => some xs.length
 | xs :: r => (zsn r).map fun n => min xs.length n
def nxD : ItD -> Nat -> So -> Option (Option D)
 | .fix xs, i, _ => some xs[i]?
 | .lst n, i, S => match S[n]? with
   | some (.lst xs) => some xs[i]?
   | some (.frz xs) => some xs[i]?
   | _ => none
 | .zip ds, i, S => (zsC S ds).map fun xss => (MZ.rowAt xss i).map D.tup
 | .itm n m, i, S => match S[n]? with
   | some (.dct xs) => if xs.length = m then some ((xs[i]?).map fun x => .tup [kD x.1, .int x.2]) else none
   | _ => none
def zsO : ItD -> So -> Option Nat
 | .fix xs, _ => some xs.length
 | .lst n, S => match S[n]? with
   | some (.lst xs) => some xs.length
   | some (.frz xs) => some xs.length
   | _ => none
 | .zip ds, S => (zsC S ds).bind zsn
 | .itm n m, S => match S[n]? with
   | some (.dct xs) => if xs.length = m then some m else none
   | _ => none
abbrev IF := Sg -> So -> Option (ItD × So)
def ItR (K : PySem.W.Frag) (H₀ : Hp) (α₀ : List Addr) (j : ItD) (J : It) : Prop := ∀ (i : Nat) H α S, Ext K H₀ α₀ H α -> StoreR K H α S ->
 (nxD j i S = some none -> J.stop i H) /\ ∀ d, nxD j i S = some (some d) -> J.go i H /\ ∀ x H', J.yld i H x H' -> Same H H' /\ Rep K H' α d x
def rdI (K : PySem.W.Frag) (f : IF) : TI := fun σ H R => ∃ σd S α j S', VarsR K H α σd σ /\ StoreR K H α S /\ f σd S = some (j, S') /\ ∀ J H' α', StoreR K H' α' S' -> Ext K H α H' α' -> ItR K H' α' j J -> R J H'
def SI (X : Cx) (tg e : Expr) (f : IF) : Prop := PI X tg e (rdI X.K f)
def zqc (fe : EF) : IF := fun σ S => (fe σ S).bind fun r => match r.1 with
 | .tup xs => some (.fix xs, r.2)
 | .ref n => match r.2[n]? with
   | some (.lst _) => some (.lst n, r.2)
   | some (.frz _) => some (.lst n, r.2)
   | _ => none
 | _ => none
def zpU (lo : Int) (n : Nat) : List D := (List.range n).map fun k => .int (lo + (k : Nat))
def zru (fa : AF) : IF := fun σ S => (fa σ S).bind fun r => match r.1 with
 | [.int j] => if -(2 ^ 62) <= j /\ j < 2 ^ 62 then some (.fix (zpU 0 j.toNat), r.2) else none
 | _ => none
section
variable {X : Cx} {tg : Expr}
theorem PI.or {e : Expr} {t t' : TI} (h : PI X tg e t) (h' : PI X tg e t') : PI X tg e (fun σ H R => t σ H R \/ t' σ H R) := fun pins s σ H R I q => by
 rcases q with q | q
 . exact h pins s σ H R I q
 . exact h' pins s σ H R I q
theorem zmk {K : PySem.W.Frag} {H : Hp} {α : List Addr} {a : Addr} {ds : List D} {vs : List V} (h : SqT K H a vs) (r : Reps K H α ds vs) : ItR K H α (.fix ds) (Itt K a) := fun i H1 α1 S1 x1 s1 => by
 have h1 := x1.tups _ _ h
 have r1 := r.mono x1
 refine ⟨fun e => ?_, fun d e => ?_⟩
 . have e' : ds[i]? = none := Option.some.inj e
   exact ⟨vs, h1, by rw [<- r.length]; exact List.getElem?_eq_none_iff.mp e'⟩
 . obtain ⟨v, e1, q⟩ := r1.get (Option.some.inj e)
   refine ⟨⟨vs, v, h1, e1⟩, fun x H' y => ?_⟩
   obtain ⟨rfl, y⟩ := y
   have := y vs h1
   rw [e1] at this; cases this
   exact ⟨Same.refl _, q⟩
theorem ziN {K : PySem.W.Frag} {H : Hp} {α : List Addr} {a : Addr} {n : Nat} (h : α[n]? = some a) : ItR K H α (.lst n) (Itl K a) := fun i H1 α1 S1 x1 s1 => by
 have h1 := x1.pre _ _ h
 have core : ∀ ds, (∃ vs, SqL K H1 a vs /\ Reps K H1 α1 ds vs) -> ((some ds[i]? = some (none : Option D)) -> (Itl K a).stop i H1) /\ ∀ d, some ds[i]? = some (some d) -> (Itl K a).go i H1 /\ ∀ x H', (Itl K a).yld i H1 x H' -> Same H1 H' /\ Rep K H' α1 d x := fun ds ⟨vs, q, r⟩ => by
   refine ⟨fun e => ?_, fun d e => ?_⟩
   . have e' : ds[i]? = none := Option.some.inj e
     exact ⟨vs, q, by rw [<- r.length]; exact List.getElem?_eq_none_iff.mp e'⟩
   . obtain ⟨v, e1, rv⟩ := r.get (Option.some.inj e)
     refine ⟨⟨vs, v, q, e1⟩, fun x H' y => ?_⟩
     obtain ⟨rfl, y⟩ := y
     have := y vs q
     rw [e1] at this; cases this
     exact ⟨Same.refl _, rv⟩
 unfold nxD
 cases hm : S1[n]? with
 | none => simp only [hm]; exact ⟨fun e => (nomatch e), fun d e => (nomatch e)⟩
 | some o =>
   have hob := s1.obj _ _ _ hm h1
   cases o with
   | lst ds => simp only [hm]; obtain ⟨vs, q, r⟩ := hob; exact core ds ⟨vs, SqL.of q, r⟩
   | frz ds => simp only [hm]; obtain ⟨vs, q, r⟩ := hob; exact core ds ⟨vs, q.sq, r⟩
   | ins C fs => simp only [hm]; exact ⟨fun e => (nomatch e), fun d e => (nomatch e)⟩
   | dct xs => simp only [hm]; exact ⟨fun e => (nomatch e), fun d e => (nomatch e)⟩
theorem ze5 {lo : Int} {n i : Nat} : (zpU lo n)[i]? = if i < n then some (.int (lo + (i : Nat))) else none := by
 unfold zpU
 rw [ztb]
 by_cases h : i < n
 . rw [if_pos h, List.getElem?_range h]; rfl
 . rw [if_neg h, ztL (by simpa using h)]; rfl
theorem ziM {K : PySem.W.Frag} {H : Hp} {α : List Addr} {lo : Int} {n : Nat} : ItR K H α (.fix (zpU lo n)) (Itr lo n) := fun i H1 α1 S1 x1 s1 => by
 simp only [nxD]
 rw [ze5]
 by_cases h : i < n
 . rw [if_pos h]
   refine ⟨fun e => (nomatch e), fun d e => ⟨h, fun x H' y => ?_⟩⟩
   obtain ⟨rfl, rfl⟩ := y
   cases e
   exact ⟨Same.refl _, .int _⟩
 . rw [if_neg h]
   exact ⟨fun _ => Nat.le_of_not_lt h, fun d e => (nomatch e)⟩
theorem znn {e : Expr} {fe : EF} (he : SE X e fe) : SI X tg e (zqc fe) := by
 refine PI.imp (PI.or (znJ he) (zlK he)) fun σ H R h => ?_
 obtain ⟨σd, S, α, j, S', hv, hs, hf, k⟩ := h
 unfold zqc at hf
 simp only [oBs] at hf
 obtain ⟨⟨d, S1⟩, e1, e2⟩ := hf
 cases d with
 | tup xs =>
   cases e2
   refine .inl ⟨σd, S, α, .tup xs, _, hv, hs, e1, fun v H1 α1 s1 x1 r1 => ?_⟩
   cases r1 with
   | tup h r => exact ⟨_, rfl, ⟨_, h⟩, k _ _ _ s1 x1 (zmk h r)⟩
 | ref n =>
   refine .inr ⟨σd, S, α, .ref n, S1, hv, hs, e1, fun v H1 α1 s1 x1 r1 => ?_⟩
   cases r1 with
   | ref h =>
     refine ⟨_, rfl, ?_⟩
     simp only at e2
     cases hm : S1[n]? with
     | none => simp [hm] at e2
     | some o =>
       have hob := s1.obj _ _ _ hm h
       cases o with
       | lst ds => simp only [hm] at e2; cases e2; obtain ⟨vs, q, r⟩ := hob; exact ⟨⟨vs, SqL.of q⟩, k _ _ _ s1 x1 (ziN h)⟩
       | frz ds => simp only [hm] at e2; cases e2; obtain ⟨vs, q, r⟩ := hob; exact ⟨⟨vs, q.sq⟩, k _ _ _ s1 x1 (ziN h)⟩
       | ins C fs => simp [hm] at e2
       | dct xs => simp [hm] at e2
 | _ => cases e2
theorem zh5 {a : Expr} {fa : AF} {p pos : Pos} (hg : Gl X "range") (hm : X.mg "range" = none) (ha : SA X [a] fa) (hst : starEach [a] X.env = [(false, eval a X.env)]) : SI X tg (.Call (.Name "range" p) [a] [] pos) (zru fa) := by
 refine PI.imp (zih hg hm ha hst) fun σ H R h => ?_
 obtain ⟨σd, S, α, j, S', hv, hs, hf, k⟩ := h
 unfold zru at hf
 simp only [oBs] at hf
 obtain ⟨⟨ds, S1⟩, e1, e2⟩ := hf
 refine ⟨σd, S, α, ds, S1, hv, hs, e1, fun vs H1 α1 s1 x1 r1 => ?_⟩
 split at e2
 . rename_i jj hj
   simp only at hj
   subst hj
   split at e2
   . rename_i hb
     cases e2
     cases r1 with
     | cons r rr => cases r; cases rr; exact ⟨jj, rfl, hb.1, hb.2, k _ _ _ s1 x1 ziM⟩
   . cases e2
 . cases e2
end
def zqZ (nx : Nat -> So -> Option (Option D)) (g : GF) (f : SF) : Nat -> Nat -> SF
 | 0, i => fun σ S => match nx i S with
   | some none => some (.nx, σ, S)
   | _ => none
 | k + 1, i => fun σ S => match nx i S with
   | some (some d) => (g d σ S).bind fun q => (f q.1 q.2).bind fun r => match r.1 with
     | .nx => zqZ nx g f k (i + 1) r.2.1 r.2.2
     | .ct => zqZ nx g f k (i + 1) r.2.1 r.2.2
     | .bk => some (.nx, r.2.1, r.2.2)
     | .rt d => some (.rt d, r.2.1, r.2.2)
   | _ => none
def zqK (fi : IF) (g : GF) (f : SF) : SF := fun σ S => (fi σ S).bind fun r => (zsO r.1 r.2).bind fun n => zqZ (nxD r.1) g f n 0 σ r.2
theorem zni {X : Cx} {tg iter : Expr} {body : List Stmt} {fi : IF} {g : GF} {f : SF} {pos : Pos} (hp : PassesOwn (model X.prog X.w) X.A X.env X.xe) (hc : X.calm = true) (hi : SI X tg iter fi) (hg : SG X tg g) (hb : SSs X body f)
   (hfs : ∀ x, foldedSetIterable iter X.env x = pure x) : SS X (.For tg iter body [] pos) (zqK fi g f) := by
 refine PS.imp (znG hp hc hi hg hb hfs) fun D σ H h => ?_
 obtain ⟨σd, S, α, fl, σd', S', hv, hs, hf, k⟩ := h
 unfold zqK at hf
 simp only [oBs] at hf
 obtain ⟨⟨j, S1⟩, e1, n, e2, e3⟩ := hf
 refine ⟨σd, S, α, j, S1, hv, hs, e1, fun J H1 α1 s1 x1 jr => ?_⟩
 refine ⟨fun i m σ2 H2 => ∃ σd2 S2 α2, VarsR X.K H2 α2 σd2 σ2 /\ StoreR X.K H2 α2 S2 /\ Ext X.K H1 α1 H2 α2 /\ zqZ (nxD j) g f m i σd2 S2 = some (fl, σd', S'), ⟨n, σd, S1, α1, hv.mono x1, s1, Ext.refl, e3⟩, ?_⟩
 rintro i m σ2 H2 ⟨σd2, S2, α2, v2, s2, x2, e⟩
 obtain ⟨jstop, jgo⟩ := jr i H2 α2 S2 x2 s2
 cases m with
 | zero =>
   unfold zqZ at e
   split at e
   . rename_i hn
     cases e
     exact .inl ⟨jstop hn, k _ _ _ v2 s2 (x1.trans x2)⟩
   . cases e
 | succ m =>
   unfold zqZ at e
   split at e
   . rename_i d hn
     obtain ⟨hgo, hy⟩ := jgo d hn
     simp only [oBs] at e
     obtain ⟨⟨σ3, S3⟩, e4, ⟨fl4, σ4, S4⟩, e5, e6⟩ := e
     refine .inr ⟨hgo, fun σ5 H5 => ∃ σd5 S5 α5, VarsR X.K H5 α5 σd5 σ5 /\ StoreR X.K H5 α5 S5 /\ Ext X.K H1 α1 H5 α5 /\ zqZ (nxD j) g f m (i + 1) σd5 S5 = some (fl, σd', S'), fun σ5 H5 q => ⟨m, Nat.lt_succ_self _, q⟩, fun x H3 y => ?_⟩
     obtain ⟨sm, rx⟩ := hy x H3 y
     have x3 : Ext X.K H2 α2 H3 α2 := Same.ext sm
     refine ⟨σd2, S2, α2, d, σ3, S3, v2.mono x3, s2.mono sm, rx, e4, fun σ5 H5 α5 v5 s5 x5 => ?_⟩
     refine ⟨σ3, S3, α5, fl4, σ4, S4, v5, s5, e5, fun σ6 H6 α6 v6 s6 x6 => ?_⟩
     have xx := ((x2.trans x3).trans x5).trans x6
     cases fl4 with
     | nx => exact ⟨σ4, S4, α6, v6, s6, xx, e6⟩
     | ct => exact ⟨σ4, S4, α6, v6, s6, xx, e6⟩
     | bk => cases e6; exact k _ _ _ v6 s6 (x1.trans xx)
     | rt d => cases e6; exact k _ _ _ v6 s6 (x1.trans xx)
   . cases e
def zr8 (src : List (Option Nat)) (σ : Sg) : Sg := src.map fun o => o.bind fun i => (σ[i]?).join
theorem zjN {K : PySem.W.Frag} {H : Hp} {α : List Addr} {σd : Sg} {σ : L2.St} {src : List (Option Nat)} (h : VarsR K H α σd σ) : VarsR K H α (zr8 src σd) (zrq src σ) := by
 refine ⟨by simp [zr8, zrq], fun i d e => ?_⟩
 unfold zr8 at e
 rw [ztb] at e
 cases q : src[i]? with
 | none => rw [q] at e; simp at e
 | some o =>
   rw [q] at e
   cases o with
   | none => simp at e
   | some j =>
     simp only [ztv, zs6, Option.some.injEq] at e
     cases q2 : σd[j]? with
     | none => rw [q2] at e; simp at e
     | some o2 =>
       rw [q2] at e
       simp at e
       subst e
       obtain ⟨v, h1, h2⟩ := h.2 j d q2
       exact ⟨v, by unfold zrq; rw [ztb, q]; simp [h1], h2⟩
def zqB : TF := fun _ S => some (true, S)
def lcN (nx : Nat -> So -> Option (Option D)) (g : GF) (t : TF) (fe : EF) : Nat -> Nat -> Sg -> So -> List D -> Option (List D × So)
 | 0, i, _, S, acc => match nx i S with
   | some none => some (acc, S)
   | _ => none
 | k + 1, i, τ, S, acc => match nx i S with
   | some (some d) => (g d τ S).bind fun q => (t q.1 q.2).bind fun b => if b.1 = true then (fe q.1 b.2).bind fun r => lcN nx g t fe k (i + 1) q.1 r.2 (acc ++ [r.1]) else lcN nx g t fe k (i + 1) q.1 b.2 acc
   | _ => none
def lcD (fi : IF) (g : GF) (t : TF) (fe : EF) (src : List (Option Nat)) : Sg -> So -> Option (List D × So) := fun σ S => (fi σ S).bind fun r => (zsO r.1 r.2).bind fun n => if n <= sizeLine then lcN (nxD r.1) g t fe n 0 (zr8 src σ) r.2 [] else none
def eLc (fi : IF) (g : GF) (t : TF) (fe : EF) (src : List (Option Nat)) : EF := fun σ S => (lcD fi g t fe src σ S).map fun q => (.ref q.2.length, q.2 ++ [.lst q.1])
def STs (X : Cx) (ifs : List Expr) (t : TF) : Prop := PTs X ifs (rdT X.K t)
theorem zli {X : Cx} : STs X [] zqB := fun pins s σ H Q I h => zlF pins s σ H Q I (by
 obtain ⟨σd, S, α, b, S', hv, hs, hf, k⟩ := h
 cases hf
 exact k _ _ hs Ext.refl)
theorem zlh {X : Cx} {c : Expr} {t : TF} (h : ST X c t) : STs X [c] t := zlE h
section
variable {X : Cx} {elt tg iter : Expr} {ifs : List Expr} {scope : Scope} {pos : Pos} {N' : List Str} {src : List (Option Nat)} {fi : IF} {g : GF} {t : TF} {fe : EF}
theorem ziH {K : PySem.W.Frag} {σd : Sg} {σ : L2.St} {S S' : So} {H : Hp} {α : List Addr} {ds : List D} {Fin : List V -> Hp -> Prop} (hv : VarsR K H α σd σ) (hs : StoreR K H α S) (hf : lcD fi g t fe src σd S = some (ds, S'))
   (k : ∀ ys H' α', StoreR K H' α' S' -> Ext K H α H' α' -> Reps K H' α' ds ys -> Fin ys H') :
   rdI K fi σ H fun J H1 => ∃ W, (∃ m, W 0 m [] (zrq src σ) H1) /\ LcW J (rdG K g) (rdT K t) (rdE K fe) Fin W := by
 unfold lcD at hf
 simp only [oBs] at hf
 obtain ⟨⟨j, S1⟩, e1, n, e2, e3⟩ := hf
 split at e3
 . rename_i hn
   refine ⟨σd, S, α, j, S1, hv, hs, e1, fun J H1 α1 s1 x1 jr => ?_⟩
   refine ⟨fun i m ys τ H2 => ∃ σd2 S2 α2 acc, VarsR K H2 α2 σd2 τ /\ StoreR K H2 α2 S2 /\ Ext K H1 α1 H2 α2 /\ Reps K H2 α2 acc ys /\ acc.length + m <= sizeLine /\ lcN (nxD j) g t fe m i σd2 S2 acc = some (ds, S'),
     ⟨n, zr8 src σd, S1, α1, [], zjN (hv.mono x1), s1, Ext.refl, .nil, by simpa using hn, e3⟩, ?_⟩
   rintro i m ys τ H2 ⟨σd2, S2, α2, acc, v2, s2, x2, r2, hl, e⟩
   obtain ⟨jstop, jgo⟩ := jr i H2 α2 S2 x2 s2
   cases m with
   | zero =>
     unfold lcN at e
     split at e
     . rename_i hn
       cases e
       exact .inl ⟨jstop hn, k _ _ _ s2 (x1.trans x2) r2⟩
     . cases e
   | succ m =>
     unfold lcN at e
     split at e
     . rename_i d hn
       obtain ⟨hgo, hy⟩ := jgo d hn
       simp only [oBs] at e
       obtain ⟨⟨σ3, S3⟩, e4, ⟨b, S4⟩, e5, e6⟩ := e
       refine .inr ⟨hgo, by rw [<- r2.length]; omega, fun x H3 y => ?_⟩
       obtain ⟨sm, rx⟩ := hy x H3 y
       have x3 : Ext K H2 α2 H3 α2 := Same.ext sm
       refine ⟨σd2, S2, α2, d, σ3, S3, v2.mono x3, s2.mono sm, rx, e4, fun σ5 H5 α5 v5 s5 x5 => ?_⟩
       refine ⟨σ3, S3, α5, b, S4, v5, s5, e5, fun H6 α6 s6 x6 => ?_⟩
       cases b with
       | false =>
         rw [if_neg zs2]; rw [if_neg zs2] at e6
         exact ⟨m, Nat.lt_succ_self _, σ3, S4, α6, acc, v5.mono x6, s6, ((x2.trans x3).trans x5).trans x6, ((r2.mono x3).mono x5).mono x6, by omega, e6⟩
       | true =>
         rw [if_pos rfl]; rw [if_pos rfl] at e6
         simp only [oBs] at e6
         obtain ⟨⟨z, S7⟩, e7, e8⟩ := e6
         refine ⟨σ3, S4, α6, z, S7, v5.mono x6, s6, e7, fun w H8 α8 s8 x8 r8 => ?_⟩
         exact ⟨m, Nat.lt_succ_self _, σ3, S7, α8, acc ++ [z], (v5.mono x6).mono x8, s8, (((x2.trans x3).trans x5).trans x6).trans x8, ((((r2.mono x3).mono x5).mono x6).mono x8).append (.cons r8 .nil), by simp; omega, e8⟩
     . cases e
 . cases e3
theorem zfd (hY : ∀ Y, zqf X scope N' Y -> SG Y tg g /\ STs Y ifs t /\ SE Y elt fe) : ∀ Y, zqf X scope N' Y -> PG Y tg (rdG X.K g) /\ PTs Y ifs (rdT X.K t) /\ PE Y elt (rdE X.K fe) := fun Y hy => by
 obtain ⟨h1, h2, h3⟩ := hY Y hy
 unfold SG at h1
 unfold STs at h2
 unfold SE at h3
 rw [hy.K] at h1 h2 h3
 exact ⟨h1, h2, h3⟩
theorem zny (hc : X.calm = true) (ok : zqt X scope N' src) (hi : SI X tg iter fi) (hY : ∀ Y, zqf X scope N' Y -> SG Y tg g /\ STs Y ifs t /\ SE Y elt fe)
   (hfs : ∀ x, foldedSetIterable iter X.env x = pure x) : SE X (.ListComp elt [⟨tg, iter, ifs, 0⟩] scope pos) (eLc fi g t fe src) := by
 refine PE.imp (zpc hc ok hi (zfd hY) hfs) fun σ H Q h => ?_
 obtain ⟨σd, S, α, z, S', hv, hs, hf, k⟩ := h
 unfold eLc at hf
 simp only [oMs] at hf
 obtain ⟨⟨ds, S1⟩, e1, e2⟩ := hf
 cases e2
 refine ziH hv hs e1 fun ys H' α' s' x' r' p hp => ?_
 obtain ⟨s2, x2⟩ := s'.snoc (p := p) (o := .lst ds) (u := .lst ys) hp fun α'' e => ⟨_, zam, r'.mono e⟩
 exact k _ _ _ s2 (x'.trans x2) (.ref (by rw [<- s'.len]; simp))
theorem zjL {y : Str} {py spos : Pos} {i : Nat} (hN : X.N.Nodup) (hyi : X.N[i]? = some y) (hy : X.env.kindOf y = some .local)
   (hsw : swapsWith (.ListComp elt [⟨tg, iter, ifs, 0⟩] scope pos) (some (.Name y py)) spos.line X.env = pure true)
   (hc : X.calm = true) (ok : zqt X scope N' src) (hi : SI X tg iter fi) (hY : ∀ Y, zqf X scope N' Y -> SG Y tg g /\ STs Y ifs t /\ SE Y elt fe)
   (hfs : ∀ x, foldedSetIterable iter X.env x = pure x) : SS X (.Assign [.Name y py] (.ListComp elt [⟨tg, iter, ifs, 0⟩] scope pos) spos) (zpL (eLc fi g t fe src) (gNm i)) := by
 refine PS.imp (zj5 hN hyi hy hsw hc ok hi (zfd hY) hfs) fun D σ H h => ?_
 obtain ⟨σd, S, α, fl, σd', S', hv, hs, hf, k⟩ := h
 unfold zpL eLc at hf
 simp only [oBs, oMs] at hf
 obtain ⟨⟨d, S1⟩, ⟨⟨ds, S2⟩, e1, e2⟩, ⟨σ1, S3⟩, e3, e4⟩ := hf
 cases e4; cases e3; cases e2
 refine ziH hv hs e1 fun ys H' α' s' x' r' p hp => ?_
 obtain ⟨s2, x2⟩ := s'.snoc (p := p) (o := .lst ds) (u := .lst ys) hp fun α'' e => ⟨_, zam, r'.mono e⟩
 exact k _ _ _ (((hv.mono x').mono x2).set (.ref (by rw [<- s'.len]; simp)) i) s2 (x'.trans x2)
end
end MX
end
section
namespace MX
open PySem PySem.Spec PyProof.Rows L2
def zrz : GN
 | [.tup xs], S => some (.int xs.length, S)
 | [.str z], S => if z.length <= sizeLine then some (.int z.length, S) else none
 | [.ref n], S => match S[n]? with
   | some (.lst xs) => some (.int xs.length, S)
   | some (.frz xs) => some (.int xs.length, S)
   | _ => none
 | _, _ => none
def gAbs : GN
 | [.int i], S => some (.int (if i < 0 then -i else i), S)
 | _, _ => none
def zqo : List D -> Option (List Int)
 | [] => some []
 | .int i :: r => (zqo r).map (i :: ·)
 | _ :: _ => none
def zso : List Int -> Option Int
 | [] => none
 | i :: r => some (r.foldl (fun a b => if b < a then b else a) i)
def zsp : List Int -> Option Int
 | [] => none
 | i :: r => some (r.foldl (fun a b => if b > a then b else a) i)
def gMin : GN
 | [.int i, .int j], S => some (.int (if j < i then j else i), S)
 | [.ref n], S => match S[n]? with
   | some (.lst xs) => (zqo xs).bind fun ns => (zso ns).map fun m => (.int m, S)
   | _ => none
 | _, _ => none
def gMax : GN
 | [.int i, .int j], S => some (.int (if j > i then j else i), S)
 | [.ref n], S => match S[n]? with
   | some (.lst xs) => (zqo xs).bind fun ns => (zsp ns).map fun m => (.int m, S)
   | _ => none
 | _, _ => none
def zqz : GN
 | [.tup xs], S => some (.tup xs, S)
 | [.ref n], S => match S[n]? with
   | some (.lst xs) => some (.tup xs, S)
   | some (.frz xs) => some (.tup xs, S)
   | _ => none
 | _, _ => none
def zrh : GN
 | [.tup xs], S => some (.ref S.length, S ++ [.lst xs])
 | [.ref n], S => match S[n]? with
   | some (.lst xs) => some (.ref S.length, S ++ [.lst xs])
   | some (.frz xs) => some (.ref S.length, S ++ [.lst xs])
   | _ => none
 | _, _ => none
theorem zd7 : ∀ (r : List Int) (i : Int), r.foldl (fun a b => if b < a then b else a) i <= i /\ (∀ x ∈ r, r.foldl (fun a b => if b < a then b else a) i <= x) /\ (r.foldl (fun a b => if b < a then b else a) i = i \/ r.foldl (fun a b => if b < a then b else a) i ∈ r)
 | [], i => ⟨Int.le_refl _, fun _ h => (nomatch h), .inl rfl⟩
 | x :: r, i => by
   obtain ⟨h1, h2, h3⟩ := zd7 r (if x < i then x else i)
   rw [List.foldl_cons]
   refine ⟨?_, fun y hy => ?_, ?_⟩
   . refine Int.le_trans (by first | exact h1 | (refine Int.le_trans ?_ h1; split <;> omega)) (by first | (split <;> omega) | exact Int.le_refl _)
   . rcases List.mem_cons.mp hy with rfl | hy
     . first
         | exact Int.le_trans h1 (by split <;> omega)
         | exact Int.le_trans (by split <;> omega) h1
     . exact h2 y hy
   . rcases h3 with h3 | h3
     . rw [h3]
       split
       . exact .inr zsZ
       . exact .inl rfl
     . exact .inr (zsY _ h3)
theorem zd8 : ∀ (r : List Int) (i : Int), i <= r.foldl (fun a b => if b > a then b else a) i /\ (∀ x ∈ r, x <= r.foldl (fun a b => if b > a then b else a) i) /\ (r.foldl (fun a b => if b > a then b else a) i = i \/ r.foldl (fun a b => if b > a then b else a) i ∈ r)
 | [], i => ⟨Int.le_refl _, fun _ h => (nomatch h), .inl rfl⟩
 | x :: r, i => by
   obtain ⟨h1, h2, h3⟩ := zd8 r (if x > i then x else i)
   rw [List.foldl_cons]
   refine ⟨?_, fun y hy => ?_, ?_⟩
   . refine Int.le_trans (by first | exact h1 | (refine Int.le_trans ?_ h1; split <;> omega)) (by first | (split <;> omega) | exact Int.le_refl _)
   . rcases List.mem_cons.mp hy with rfl | hy
     . first
         | exact Int.le_trans h1 (by split <;> omega)
         | exact Int.le_trans (by split <;> omega) h1
     . exact h2 y hy
   . rcases h3 with h3 | h3
     . rw [h3]
       split
       . exact .inr zsZ
       . exact .inl rfl
     . exact .inr (zsY _ h3)
theorem ziC {ns : List Int} {m : Int} (h1 : m ∈ ns) (h2 : ∀ a ∈ ns, m <= a) : zso ns = some m := by
 cases ns with
 | nil => cases h1
 | cons i r =>
   obtain ⟨a, b, c⟩ := zd7 r i
   unfold zso
   have l1 : m <= r.foldl (fun a b => if b < a then b else a) i := by
     rcases c with c | c
     . rw [c]; exact h2 i zsZ
     . exact h2 _ (zsY _ c)
   have l2 : r.foldl (fun a b => if b < a then b else a) i <= m := by
     rcases List.mem_cons.mp h1 with rfl | h1
     . exact a
     . exact b m h1
   exact congrArg some (Int.le_antisymm l2 l1)
theorem ziE {ns : List Int} {m : Int} (h1 : m ∈ ns) (h2 : ∀ a ∈ ns, a <= m) : zsp ns = some m := by
 cases ns with
 | nil => cases h1
 | cons i r =>
   obtain ⟨a, b, c⟩ := zd8 r i
   unfold zsp
   have l1 : r.foldl (fun a b => if b > a then b else a) i <= m := by
     rcases c with c | c
     . rw [c]; exact h2 i zsZ
     . exact h2 _ (zsY _ c)
   have l2 : m <= r.foldl (fun a b => if b > a then b else a) i := by
     rcases List.mem_cons.mp h1 with rfl | h1
     . exact a
     . exact b m h1
   exact congrArg some (Int.le_antisymm l1 l2)
theorem zch {K : PySem.W.Frag} {H : Hp} {α : List Addr} : ∀ {ds : List D} {vs : List V} {us : List Value} {ns : List Int}, Reps K H α ds vs -> Vals vs us -> zqo ds = some ns -> IntsAre us ns
 | _, _, _, _, .nil, .nil, e => by cases e; exact .nil
 | _, _, _, _, .cons r rr, .cons rv rvs, e => by
   cases r with
   | int i =>
     simp only [zqo, oMs] at e
     obtain ⟨ms, e1, rfl⟩ := e
     obtain ⟨t, rfl⟩ := rv
     exact .cons _ _ (zch rr rvs e1)
   | _ => cases e
theorem Reps.inv1 {K : PySem.W.Frag} {H : Hp} {α : List Addr} {d : D} {vs : List V} (r : Reps K H α [d] vs) : ∃ v, vs = [v] /\ Rep K H α d v := by
 cases r with
 | cons r rr => cases rr; exact ⟨_, rfl, r⟩
theorem Reps.inv2 {K : PySem.W.Frag} {H : Hp} {α : List Addr} {d e : D} {vs : List V} (r : Reps K H α [d, e] vs) : ∃ v u, vs = [v, u] /\ Rep K H α d v /\ Rep K H α e u := by
 cases r with
 | cons r rr =>
   obtain ⟨u, rfl, q⟩ := rr.inv1
   exact ⟨_, _, rfl, r, q⟩
theorem za5 {K : PySem.W.Frag} {H : Hp} {α : List Addr} {S : So} {n : Nat} {a : Addr} {xs : List D} (hs : StoreR K H α S) (ha : α[n]? = some a) (h : S[n]? = some (.lst xs) \/ S[n]? = some (.frz xs)) : ∃ vs, SqL K H a vs /\ Reps K H α xs vs := by
 rcases h with h | h
 . obtain ⟨vs, q, r⟩ := hs.obj _ _ _ h ha; exact ⟨vs, SqL.of q, r⟩
 . obtain ⟨vs, q, r⟩ := hs.obj _ _ _ h ha; exact ⟨vs, q.sq, r⟩
section
variable {X : Cx}
theorem zoL : zpS X (.builtin "len") (rdC X.K zrz) := by
 intro pins s σ H vs us Q I rv h
 obtain ⟨S, α, ds, z, S', hs, r, hg, k⟩ := h
 unfold zrz at hg
 split at hg
 . cases hg
   obtain ⟨v, rfl, r0⟩ := r.inv1
   cases r0 with
   | tup h r1 => exact zeb pins s σ H _ us Q I rv ⟨_, _, rfl, .inr h, by rw [<- r1.length]; exact k.same hs (.int _)⟩
 . split at hg
   . rename_i hl
     cases hg
     obtain ⟨v, rfl, r0⟩ := r.inv1
     cases r0
     exact zfT pins s σ H _ us Q I rv ⟨_, rfl, hl, k.same hs (.int _)⟩
   . cases hg
 . obtain ⟨v, rfl, r0⟩ := r.inv1
   cases r0 with
   | @ref n a ha =>
     have core : ∀ xs, (∃ vs, SqL X.K H a vs /\ Reps X.K H α xs vs) -> some (D.int (xs.length : Int), S) = some (z, S') -> wpAny (model X.prog X.w) X.A (call (.builtin "len") us) (EP X pins σ Q) X.xe s := fun xs ⟨vs, q, r⟩ e => by
       cases e
       exact zeb pins s σ H _ us Q I rv ⟨_, _, rfl, .inl q, by rw [<- r.length]; exact k.same hs (.int _)⟩
     split at hg
     . rename_i e; exact core _ (za5 hs ha (.inl e)) hg
     . rename_i e; exact core _ (za5 hs ha (.inr e)) hg
     . cases hg
 . cases hg
theorem zoP : zpS X (.builtin "abs") (rdC X.K gAbs) := by
 intro pins s σ H vs us Q I rv h
 obtain ⟨S, α, ds, z, S', hs, r, hg, k⟩ := h
 unfold gAbs at hg
 split at hg
 . cases hg
   obtain ⟨v, rfl, r0⟩ := r.inv1
   cases r0
   exact zkG pins s σ H _ us Q I rv ⟨_, rfl, k.same hs (.int _)⟩
 . cases hg
theorem zoJ (hc : X.calm = true) : zpS X (.builtin "min") (rdC X.K gMin) := by
 intro pins s σ H vs us Q I rv h
 obtain ⟨S, α, ds, z, S', hs, r, hg, k⟩ := h
 unfold gMin at hg
 split at hg
 . cases hg
   obtain ⟨v, u, rfl, r1, r2⟩ := r.inv2
   cases r1; cases r2
   exact zjy hc pins s σ H _ us Q I rv ⟨_, _, rfl, k.same hs (.int _)⟩
 . obtain ⟨v, rfl, r0⟩ := r.inv1
   cases r0 with
   | @ref n a ha =>
     split at hg
     . rename_i e
       simp only [oBs, oMs] at hg
       obtain ⟨ns, e1, m, e2, e3⟩ := hg
       cases e3
       obtain ⟨ws, q, r⟩ := za5 hs ha (.inl e)
       obtain ⟨u, rfl, ru⟩ := zqm rv
       cases ru
       obtain ⟨its, rr, pl, hz⟩ := I.list q
       have hi := zch r rr e1
       have hne : 0 < ns.length := by
         cases ns with
         | nil => cases e2
         | cons _ _ => simp
       obtain ⟨xs, hxs⟩ := hi.allInts.items
       have hn := hi.numsOf
       have hnn : numsOf (intItems xs).toList = ns := by rw [<- hxs]; simpa using hn
       rw [nums_intItems] at hnn
       have hsz : 0 < xs.size := by
         have := congrArg List.length hnn
         simp at this; omega
       have hl' : s.heap.IsList a (intItems xs) := by rw [<- hxs]; exact pl.isList
       refine min_intList (I.ok.hd hc) hl' hsz fun v h' tk hv hk => ?_
       obtain ⟨t, rfl⟩ := intItems_at hv
       obtain ⟨h1, h2⟩ := argBest_lt (numAt xs) (xs.size - 1)
       have hm : zso ns = some (numAt xs (argBest (fun i j => decide (numAt xs i < numAt xs j)) (xs.size - 1))) := by
         refine ziC ?_ fun b hb => ?_
         . rw [<- hnn, numAt_eq]; exact getD_mem (by rw [zs7, Array.length_toList]; omega)
         . rw [<- hnn] at hb
           obtain ⟨j, hj, rfl⟩ := mem_getD hb
           rw [zs7, Array.length_toList] at hj
           rw [<- numAt_eq]; exact h2 j (by omega)
       rw [e2] at hm; cases hm
       exact ⟨.int _, H, I.kept hk, ⟨t, rfl⟩, k.same hs (.int _)⟩
     . cases hg
 . cases hg
theorem zoK (hc : X.calm = true) : zpS X (.builtin "max") (rdC X.K gMax) := by
 intro pins s σ H vs us Q I rv h
 obtain ⟨S, α, ds, z, S', hs, r, hg, k⟩ := h
 unfold gMax at hg
 split at hg
 . cases hg
   obtain ⟨v, u, rfl, r1, r2⟩ := r.inv2
   cases r1; cases r2
   exact zjz hc pins s σ H _ us Q I rv ⟨_, _, rfl, k.same hs (.int _)⟩
 . obtain ⟨v, rfl, r0⟩ := r.inv1
   cases r0 with
   | @ref n a ha =>
     split at hg
     . rename_i e
       simp only [oBs, oMs] at hg
       obtain ⟨ns, e1, m, e2, e3⟩ := hg
       cases e3
       obtain ⟨ws, q, r⟩ := za5 hs ha (.inl e)
       obtain ⟨u, rfl, ru⟩ := zqm rv
       cases ru
       obtain ⟨its, rr, pl, hz⟩ := I.list q
       have hi := zch r rr e1
       have hne : 0 < ns.length := by
         cases ns with
         | nil => cases e2
         | cons _ _ => simp
       obtain ⟨xs, hxs⟩ := hi.allInts.items
       have hn := hi.numsOf
       have hnn : numsOf (intItems xs).toList = ns := by rw [<- hxs]; simpa using hn
       rw [nums_intItems] at hnn
       have hsz : 0 < xs.size := by
         have := congrArg List.length hnn
         simp at this; omega
       have hl' : s.heap.IsList a (intItems xs) := by rw [<- hxs]; exact pl.isList
       refine max_intList (I.ok.hd hc) hl' hsz fun v h' tk hv hk => ?_
       obtain ⟨t, rfl⟩ := intItems_at hv
       obtain ⟨h1, h2⟩ := argBest_gt (numAt xs) (xs.size - 1)
       have hm : zsp ns = some (numAt xs (argBest (fun i j => decide (numAt xs i > numAt xs j)) (xs.size - 1))) := by
         refine ziE ?_ fun b hb => ?_
         . rw [<- hnn, numAt_eq]; exact getD_mem (by rw [zs7, Array.length_toList]; omega)
         . rw [<- hnn] at hb
           obtain ⟨j, hj, rfl⟩ := mem_getD hb
           rw [zs7, Array.length_toList] at hj
           rw [<- numAt_eq]; exact h2 j (by omega)
       rw [e2] at hm; cases hm
       exact ⟨.int _, H, I.kept hk, ⟨t, rfl⟩, k.same hs (.int _)⟩
     . cases hg
 . cases hg
theorem zkH : zpS X (.type "tuple") (rdC X.K zqz) := by
 intro pins s σ H vs us Q I rv h
 obtain ⟨S, α, ds, z, S', hs, r, hg, k⟩ := h
 unfold zqz at hg
 split at hg
 . cases hg
   obtain ⟨v, rfl, r0⟩ := r.inv1
   cases r0 with
   | tup h r1 => exact zdH pins s σ H _ us Q I rv ⟨_, _, rfl, .inr ⟨h, k.same hs (.tup h r1)⟩⟩
 . obtain ⟨v, rfl, r0⟩ := r.inv1
   cases r0 with
   | @ref n a ha =>
     have core : ∀ xs, (∃ vs, SqL X.K H a vs /\ Reps X.K H α xs vs) -> some (D.tup xs, S) = some (z, S') -> wpAny (model X.prog X.w) X.A (call (.type "tuple") us) (EP X pins σ Q) X.xe s := fun xs ⟨vs, q, r⟩ e => by
       cases e
       exact zdH pins s σ H _ us Q I rv ⟨_, _, rfl, .inl ⟨q, fun p hp => k.new hs (zbX hp) (.tup (SqT.of zam) (r.mono (Same.ext (zbX hp))))⟩⟩
     split at hg
     . rename_i e; exact core _ (za5 hs ha (.inl e)) hg
     . rename_i e; exact core _ (za5 hs ha (.inr e)) hg
     . cases hg
 . cases hg
theorem zmR : zpS X (.type "list") (rdC X.K zrh) := by
 intro pins s σ H vs us Q I rv h
 obtain ⟨S, α, ds, z, S', hs, r, hg, k⟩ := h
 have fin : ∀ (xs : List D) (vs : List V) (p : Addr), Reps X.K H α xs vs -> H p = none -> some (D.ref S.length, S ++ [O.lst xs]) = some (z, S') -> Q (.ref p) (upd H p (.lst vs)) := fun xs vs p r hp e => by
   cases e
   obtain ⟨s2, x2⟩ := hs.snoc (p := p) (o := .lst xs) (u := .lst vs) hp fun α'' e => ⟨_, zam, r.mono e⟩
   exact k _ _ _ s2 x2 (.ref (by rw [<- hs.len]; simp))
 unfold zrh at hg
 split at hg
 . obtain ⟨v, rfl, r0⟩ := r.inv1
   cases r0 with
   | tup h r1 => exact zea pins s σ H _ us Q I rv ⟨_, _, rfl, .inr h, fun p hp => fin _ _ p r1 hp hg⟩
 . obtain ⟨v, rfl, r0⟩ := r.inv1
   cases r0 with
   | @ref n a ha =>
     have core : ∀ xs, (∃ vs, SqL X.K H a vs /\ Reps X.K H α xs vs) -> some (D.ref S.length, S ++ [O.lst xs]) = some (z, S') -> wpAny (model X.prog X.w) X.A (call (.type "list") us) (EP X pins σ Q) X.xe s := fun xs ⟨vs, q, r⟩ e =>
       zea pins s σ H _ us Q I rv ⟨_, _, rfl, .inl q, fun p hp => fin _ _ p r hp e⟩
     split at hg
     . rename_i e; exact core _ (za5 hs ha (.inl e)) hg
     . rename_i e; exact core _ (za5 hs ha (.inr e)) hg
     . cases hg
 . cases hg
end
def zsG (a b : String) : Option Bool := PySem.W.kitOne (default) (.type a) (.type b)
theorem ziP {K : PySem.W.Frag} {a b : String} : PySem.W.kitOne K (.type a) (.type b) = zsG a b := by
 unfold zsG PySem.W.kitOne PySem.W.kitCls PySem.W.subIn
 rfl
def tyD : D -> So -> Option String
 | .non, _ => some "NoneType"
 | .bl _, _ => some "bool"
 | .int _, _ => some "int"
 | .str _, _ => some "str"
 | .tup _, _ => some "tuple"
 | .ref n, S => match S[n]? with
   | some (.lst _) => some "list"
   | _ => none
 | _, _ => none
def zsK : GN
 | [d, .ty T], S => (tyD d S).bind fun t => (zsG t T).map fun b => (.bl b, S)
 | _, _ => none
theorem zmY {K : PySem.W.Frag} {H : Hp} {α : List Addr} {S : So} {d : D} {v : V} {t : String} (hs : StoreR K H α S) (r : Rep K H α d v) (e : tyD d S = some t) : (∃ b vs, v = .ref b /\ SqT K H b vs /\ t = "tuple") \/ zrx K H v (.type t) := by
 cases r with
 | non => cases e; exact .inr .non
 | bl b => cases e; exact .inr (.bl b)
 | int i => cases e; exact .inr (.int i)
 | str x => cases e; exact .inr (.str x)
 | tup h r => cases e; exact .inl ⟨_, _, rfl, h, rfl⟩
 | @ref n a ha =>
   simp only [tyD] at e
   split at e
   . rename_i q
     cases e
     obtain ⟨vs, h, _⟩ := hs.obj _ _ _ q ha
     exact .inr (.lst h)
   . cases e
 | ty n => cases e
 | adr a => cases e
theorem zoM {X : Cx} : zpS X (.builtin "isinstance") (rdC X.K zsK) := by
 intro pins s σ H vs us Q I rv h
 obtain ⟨S, α, ds, z, S', hs, r, hg, k⟩ := h
 unfold zsK at hg
 split at hg
 . simp only [oBs, oMs] at hg
   obtain ⟨t, e1, b, e2, e3⟩ := hg
   cases e3
   obtain ⟨v, u, rfl, r1, r2⟩ := r.inv2
   cases r2 with
   | ty T =>
     obtain ⟨u1, u2, rfl, q1, q2⟩ := zr4 rv
     cases q2
     rcases zmY hs r1 e1 with ⟨a, ws, rfl, h, rfl⟩ | ty
     . cases q1
       obtain ⟨its, _, ⟨o, h1, h2, _⟩, _⟩ := I.tuple h
       exact PySem.W.kia_one PySem.W.kitx_tuple I.kIn ⟨o, h1, h2⟩ (by rw [ziP]; exact e2) (fun z => nomatch z) fun tk => ⟨.bl b, H, I.tok _, rfl, k.same hs (.bl _)⟩
     . exact ziO I q1 ty (by rw [ziP]; exact e2) fun tk => ⟨.bl b, H, I.tok _, rfl, k.same hs (.bl _)⟩
 . cases hg
section
variable {X : Cx} {e : Expr} {fe : EF} {lo hi : Option Expr} {fl fh : PF} {pos p2 : Pos}
end
abbrev GM := D -> List D -> So -> Option (D × So)
def rdM (K : PySem.W.Frag) (g : GM) : V -> List V -> Hp -> VK -> Prop := fun v vs H Q => ∃ S α d ds z S', StoreR K H α S /\ Rep K H α d v /\ Reps K H α ds vs /\ g d ds S = some (z, S') /\ Kt K H α z S' Q
def zp0 : GM
 | .ref n, [d], S => match S[n]? with
   | some (.lst xs) => if xs.length < sizeLine then some (.non, S.set n (.lst (xs ++ [d]))) else none
   | _ => none
 | _, _, _ => none
theorem ziB {X : Cx} : MtR X "list.append" (rdM X.K zp0) := by
 intro pins s σ H v vs vv us Q I rv rs h
 obtain ⟨S, α, d, ds, z, S', hs, r, rr, hg, k⟩ := h
 unfold zp0 at hg
 split at hg
 . cases r with
   | ref ha =>
     split at hg
     . rename_i e
       split at hg
       . rename_i hl
         cases hg
         obtain ⟨w, rfl, rw'⟩ := rr.inv1
         obtain ⟨ws, q, r⟩ := hs.obj _ _ _ e ha
         refine ziy pins s σ H _ _ _ us Q I rv rs ⟨_, _, _, rfl, rfl, q, by rw [<- r.length]; exact hl, ?_⟩
         obtain ⟨s2, x2⟩ := hs.put (o := .lst (_ ++ [_])) (u := .lst (ws ++ [w])) e rfl rfl ha q (.inl ⟨_, rfl⟩) fun x => ⟨_, zam, (r.append (.cons rw' .nil)).mono x⟩
         exact k _ _ _ s2 x2 .non
       . cases hg
     . cases hg
 . cases hg
def zqY : GM
 | .ref n, [.int i, d], S => match S[n]? with
   | some (.lst xs) => if 0 <= i /\ i <= xs.length /\ xs.length < sizeLine then some (.non, S.set n (.lst (xs.take i.toNat ++ d :: xs.drop i.toNat))) else none
   | _ => none
 | _, _, _ => none
theorem ziA {X : Cx} : MtR X "list.insert" (rdM X.K zqY) := by
 intro pins s σ H v vs vv us Q I rv rs h
 obtain ⟨S, α, d, ds, z, S', hs, r, rr, hg, k⟩ := h
 unfold zqY at hg
 split at hg
 . rename_i n i d
   cases r with
   | ref ha =>
     split at hg
     . rename_i xs e
       split at hg
       . rename_i hl
         cases hg
         obtain ⟨w, u, rfl, r1, r2⟩ := rr.inv2
         cases r1
         obtain ⟨u1, u2, rfl, q1, q2⟩ := zr4 rs
         obtain ⟨t, rfl⟩ := q1
         cases rv
         obtain ⟨ws, q, r⟩ := hs.obj _ _ _ e ha
         obtain ⟨z, its, m, rr', hlen, he⟩ := I.lstM q
         have hrl := r.length
         have hn := zqy
         have hfit : ¬ (!Builtin.List.listFitsIndex i) = true := by
           rw [fitsIndex_both (by omega) (by omega)]
           exact zs2
         refine call_meets F.slot_list_insert ⟨_, he, rfl⟩ F.entry_list_insert (F.args_list_insert_3 _ _ _) (AutoListH.list_insert_list_int_val_1 _ its.toArray m i t u2 hfit (by rw [zs8]; omega)) ⟨he, ?_⟩
         refine ⟨.non, _, I.lset (ys := ws.take i.toNat ++ u :: ws.drop i.toNat) (its' := its.take i.toNat ++ u2 :: its.drop i.toNat) q he ?_ ((rr'.take _).append (.cons q2 (rr'.drop _))) ?_, rfl, ?_⟩
         . have hk : (if i < 0 then (i + ((its.toArray.size : Nat) : Int)).toNat else min i.toNat its.toArray.size) = i.toNat := by
             rw [if_neg (by omega), zs8]
             omega
           show ((its.toArray.extract 0 (if i < 0 then (i + ((its.toArray.size : Nat) : Int)).toNat else min i.toNat its.toArray.size)).push u2 ++ its.toArray.extract (if i < 0 then (i + ((its.toArray.size : Nat) : Int)).toNat else min i.toNat its.toArray.size)) = _
           rw [hk]
           apply Array.toList_inj.mp
           simp
           rw [List.take_of_length_le (by rw [List.length_drop]; exact ztq _)]
         . rw [zs9, ztg, ztu, List.length_drop]; omega
         . obtain ⟨s2, x2⟩ := hs.put (o := .lst (xs.take i.toNat ++ d :: xs.drop i.toNat)) (u := .lst (ws.take i.toNat ++ u :: ws.drop i.toNat)) e rfl rfl ha q (.inl ⟨_, rfl⟩) fun x => ⟨_, zam, ((r.take _).append (.cons r2 (r.drop _))).mono x⟩
           exact k _ _ _ s2 x2 .non
       . cases hg
     . cases hg
 . cases hg
def eM (g : GM) (fo : EF) (fa : AF) : EF := fun σ S => (fo σ S).bind fun r => match r.1 with
 | .ref n => match r.2[n]? with
   | some (.lst _) => (fa σ r.2).bind fun q => g r.1 q.1 q.2
   | _ => none
 | _ => none
theorem zo5 {X : Cx} {o e : Expr} {es : List Expr} {fo : EF} {fa : AF} {g : GM} {name : Str} {id : String} {apos cpos : Pos} (slot : Slot "list" name id) (hty : typeOf (.builtin id) = pure (.type "method_descriptor")) (hm : MtR X id (rdM X.K g))
   (ho : SE X o fo) (ha : SA X (e :: es) fa) (hbase : attributeBase o name X.env (eval o X.env) = eval o X.env)
   (hfew : ((backTo cpos (starEach (e :: es) X.env)).all (fun x => !x.1) && (backToKw cpos (keywordEach [] X.env)).all (fun x => x.1.isSome)
     && decide ((e :: es).length + ([] : List Keyword).length + (if ([] : List Keyword).isEmpty then 0 else 1) < 30)) = true)
   (hline : (apos.endLine == cpos.line) = true) (hst : starEach (e :: es) X.env = (false, eval e X.env) :: starEach es X.env) (hplain : (backTo cpos (starEach es X.env)).any (·.1) = false) :
   SE X (.Call (.Attribute o name apos) (e :: es) [] cpos) (eM g fo fa) := by
 refine PE.imp (zlQ PySem.F.plainAttrs_list slot hty hm ho ha hbase hfew hline hst hplain) fun σ H Q h => ?_
 obtain ⟨σd, S, α, z, S', hv, hs, hf, k⟩ := h
 unfold eM at hf
 simp only [oBs] at hf
 obtain ⟨⟨d, S1⟩, e1, e2⟩ := hf
 refine ⟨σd, S, α, d, S1, hv, hs, e1, fun v H1 α1 s1 x1 r1 => ?_⟩
 simp only at e2
 split at e2
 . rename_i n
   split at e2
   . rename_i xs q
     simp only [oBs] at e2
     obtain ⟨⟨ds, S2⟩, e3, e4⟩ := e2
     cases r1 with
     | ref ha =>
       obtain ⟨ws, hw, _⟩ := s1.obj _ _ _ q ha
       refine ⟨.inl ⟨rfl, _, SqL.of hw⟩, σd, S1, α1, ds, S2, hv.mono x1, s1, e3, fun vs H2 α2 s2 x2 r2 => ?_⟩
       exact ⟨S2, α2, _, ds, z, S', s2, .ref (x2.pre _ _ ha), r2, e4, k.trans (x1.trans x2)⟩
   . cases e2
 . cases e2
end MX
end
section
namespace MX
open PySem PySem.Spec PyProof.Rows L2
def zql : List D -> Option (List Bool)
 | [] => some []
 | .bl b :: r => (zql r).map (b :: ·)
 | _ :: _ => none
theorem zd1 {K : PySem.W.Frag} {H : Hp} {α : List Addr} : ∀ {ds : List D} {vs : List V} {us : List Value} {bs : List Bool}, Reps K H α ds vs -> Vals vs us -> zql ds = some bs -> LSm.BoolsAre us bs
 | _, _, _, _, .nil, .nil, e => by cases e; exact .nil
 | _, _, _, _, .cons r rr, .cons rv rvs, e => by
   cases r with
   | bl b =>
     simp only [zql, oMs] at e
     obtain ⟨ms, e1, rfl⟩ := e
     cases rv
     exact .cons _ (zd1 rr rvs e1)
   | _ => cases e
def zrZ : GN
 | [.ref n], S => match S[n]? with
   | some (.lst xs) => (zql xs).map fun bs => (.bl (bs.all id), S)
   | _ => none
 | _, _ => none
def zsL : GN
 | [.ref n], S => match S[n]? with
   | some (.lst xs) => (zql xs).map fun bs => (.bl (bs.any id), S)
   | _ => none
 | _, _ => none
def gSum : GN
 | [.ref n], S => match S[n]? with
   | some (.lst xs) => (zqo xs).map fun ns => (.int ns.sum, S)
   | _ => none
 | _, _ => none
section
variable {X : Cx}
theorem zhP {prog : Program} {w : World} {A : Around} {E : Value -> Shared -> Prop} {s : Shared} {l : Addr} {vs : List Value} {bs : List Bool} {Q : Value -> Shared -> Prop} (hh : A.handled = none) (hl : s.heap.IsList l vs.toArray) (hb : LSm.BoolsAre vs bs)
   (h : ∀ h' tk, (∀ b x, s.heap.get? b = some x -> h'.get? b = some x) -> Q (.bool (bs.all id)) { s with heap := h', toks := tk }) : wpAny (model prog w) A (call (.builtin "all") [.ref l]) Q E s := by
 have hlt : l < s.heap.objs.size := by obtain ⟨_, e, _⟩ := hl; exact ztp e
 refine call_all_walk (wpAny_pyIter_list hl ?_)
 refine ⟨s.heap.objs.size, [s.heap.objs.size, l], [s.heap.objs.size], vs.toArray.size, _, _, fun i => (bs[i]?).getD true, rfl, Walks.list (A := A.in1) hh _ l (ztA hlt) vs.toArray,
   ⟨⟨_, ztk _ rfl, rfl, rfl⟩, hl.push _⟩, fun i v s' Q' E' hP hQ => ?_, fun h' tk hk => ?_⟩
 . obtain ⟨b, e, rfl⟩ := hb.get i v (by simpa using hP)
   simp only [e, Option.getD_some] at hQ
   exact wpAny_truthy_bool hQ
 . have e : ((List.range vs.toArray.size).all fun i => (bs[i]?).getD true) = bs.all id := by
     rw [zs8, hb.length]; exact LSm.range_all bs
   rw [e]
   exact h h' tk (LSm.kept_iter hk)
theorem zhN {prog : Program} {w : World} {A : Around} {E : Value -> Shared -> Prop} {s : Shared} {l : Addr} {vs : List Value} {bs : List Bool} {Q : Value -> Shared -> Prop} (hh : A.handled = none) (hl : s.heap.IsList l vs.toArray) (hb : LSm.BoolsAre vs bs)
   (h : ∀ h' tk, (∀ b x, s.heap.get? b = some x -> h'.get? b = some x) -> Q (.bool (bs.any id)) { s with heap := h', toks := tk }) : wpAny (model prog w) A (call (.builtin "any") [.ref l]) Q E s := by
 have hlt : l < s.heap.objs.size := by obtain ⟨_, e, _⟩ := hl; exact ztp e
 refine call_any_walk (wpAny_pyIter_list hl ?_)
 refine ⟨s.heap.objs.size, [s.heap.objs.size, l], [s.heap.objs.size], vs.toArray.size, _, _, fun i => (bs[i]?).getD false, rfl, Walks.list (A := A.in1) hh _ l (ztA hlt) vs.toArray,
   ⟨⟨_, ztk _ rfl, rfl, rfl⟩, hl.push _⟩, fun i v s' Q' E' hP hQ => ?_, fun h' tk hk => ?_⟩
 . obtain ⟨b, e, rfl⟩ := hb.get i v (by simpa using hP)
   simp only [e, Option.getD_some] at hQ
   exact wpAny_truthy_bool hQ
 . have e : ((List.range vs.toArray.size).any fun i => (bs[i]?).getD false) = bs.any id := by
     rw [zs8, hb.length]; exact LSm.range_any bs
   rw [e]
   exact h h' tk (LSm.kept_iter hk)
theorem zoO (hc : X.calm = true) : zpS X (.builtin "all") (rdC X.K zrZ) := by
 intro pins s σ H vs us Q I rv h
 obtain ⟨S, α, ds, z, S', hs, r, hg, k⟩ := h
 unfold zrZ at hg
 split at hg
 . obtain ⟨v, rfl, r0⟩ := r.inv1
   cases r0 with
   | @ref n a ha =>
     split at hg
     . rename_i e
       simp only [oMs] at hg
       obtain ⟨bs, e1, e2⟩ := hg
       cases e2
       obtain ⟨ws, q, r⟩ := za5 hs ha (.inl e)
       obtain ⟨u, rfl, ru⟩ := zqm rv
       cases ru
       obtain ⟨its, rr, pl, hz⟩ := I.list q
       exact zhP (I.ok.hd hc) pl.isList (zd1 r rr e1) fun h' tk hk => ⟨.bl _, H, I.kept hk, rfl, k.same hs (.bl _)⟩
     . cases hg
 . cases hg
theorem zoN (hc : X.calm = true) : zpS X (.builtin "any") (rdC X.K zsL) := by
 intro pins s σ H vs us Q I rv h
 obtain ⟨S, α, ds, z, S', hs, r, hg, k⟩ := h
 unfold zsL at hg
 split at hg
 . obtain ⟨v, rfl, r0⟩ := r.inv1
   cases r0 with
   | @ref n a ha =>
     split at hg
     . rename_i e
       simp only [oMs] at hg
       obtain ⟨bs, e1, e2⟩ := hg
       cases e2
       obtain ⟨ws, q, r⟩ := za5 hs ha (.inl e)
       obtain ⟨u, rfl, ru⟩ := zqm rv
       cases ru
       obtain ⟨its, rr, pl, hz⟩ := I.list q
       exact zhN (I.ok.hd hc) pl.isList (zd1 r rr e1) fun h' tk hk => ⟨.bl _, H, I.kept hk, rfl, k.same hs (.bl _)⟩
     . cases hg
 . cases hg
theorem zoI (hc : X.calm = true) : zpS X (.builtin "sum") (rdC X.K gSum) := by
 intro pins s σ H vs us Q I rv h
 obtain ⟨S, α, ds, z, S', hs, r, hg, k⟩ := h
 unfold gSum at hg
 split at hg
 . obtain ⟨v, rfl, r0⟩ := r.inv1
   cases r0 with
   | @ref n a ha =>
     split at hg
     . rename_i e
       simp only [oMs] at hg
       obtain ⟨ns, e1, e2⟩ := hg
       cases e2
       obtain ⟨ws, q, r⟩ := za5 hs ha (.inl e)
       obtain ⟨u, rfl, ru⟩ := zqm rv
       cases ru
       obtain ⟨its, rr, pl, hz⟩ := I.list q
       have hi := zch r rr e1
       obtain ⟨xs, hx⟩ := hi.allInts.items
       have hl' : s.heap.IsList a (intItems xs) := hx ▸ pl.isList
       refine sum_intListG (I.ok.hd hc) hl' fun h' tk t' hk => ?_
       have e1 : ns = xs.toList.map (·.1) := by
         rw [<- nums_intItems, <- hx]
         exact (show numsOf its.toArray.toList = ns by simpa using hi.numsOf).symm
       have e2 : preSum (numAt xs) xs.size = ns.sum := by
         rw [preSum_eq, List.take_of_length_le (by simp), e1]
       rw [e2]
       exact ⟨.int _, H, I.kept hk, ⟨_, rfl⟩, k.same hs (.int _)⟩
     . cases hg
 . cases hg
theorem zhz {prog : Program} {w : World} {A : Around} {E : Value -> Shared -> Prop} {s : Shared} {l : Addr} {xs : Array (Int × Tok)} {Q : Value -> Shared -> Prop} (hh : A.handled = none) (hl : s.heap.IsTuple l (intItems xs)) (hne : 0 < xs.size)
   (h : ∀ v h' tk, (intItems xs)[argBest (fun i j => decide (numAt xs i < numAt xs j)) (xs.size - 1)]? = some v -> (∀ b o, s.heap.get? b = some o -> h'.get? b = some o) -> Q v { s with heap := h', toks := tk }) :
   wpAny (model prog w) A (call (.builtin "min") [.ref l]) Q E s := by
 have hlt : l < s.heap.objs.size := by obtain ⟨_, e, _⟩ := hl; exact ztp e
 refine call_min_walk (wpAny_pyIter_tuple hl ?_)
 refine ⟨_, [s.heap.objs.size, l], [s.heap.objs.size], _, _, _, _, rfl, Walks.tuple (A := A.in1) hh _ l (ztA hlt) (intItems xs),
   ⟨⟨_, ztk _ rfl, rfl, rfl⟩, hl.push _⟩, fun c hc => ?_, by simpa [intItems] using hne, CmpOf.ints_lt (numAt xs) (fun _ _ => intItems_at), fun v h' tk hP hk => ?_⟩
 . show c < (s.heap.push _).objs.size
   rw [Heap.size_push]
   rcases List.mem_cons.mp hc with rfl | hc
   . exact Nat.lt_succ_self _
   . rcases List.mem_cons.mp hc with rfl | hc
     . exact Nat.lt_succ_of_lt hlt
     . cases hc
 . exact h v h' tk (by simpa [intItems] using hP) (LSm.kept_iter hk)
theorem zhA {prog : Program} {w : World} {A : Around} {E : Value -> Shared -> Prop} {s : Shared} {l : Addr} {xs : Array (Int × Tok)} {Q : Value -> Shared -> Prop} (hh : A.handled = none) (hl : s.heap.IsTuple l (intItems xs)) (hne : 0 < xs.size)
   (h : ∀ v h' tk, (intItems xs)[argBest (fun i j => decide (numAt xs i > numAt xs j)) (xs.size - 1)]? = some v -> (∀ b o, s.heap.get? b = some o -> h'.get? b = some o) -> Q v { s with heap := h', toks := tk }) :
   wpAny (model prog w) A (call (.builtin "max") [.ref l]) Q E s := by
 have hlt : l < s.heap.objs.size := by obtain ⟨_, e, _⟩ := hl; exact ztp e
 refine call_max_walk (wpAny_pyIter_tuple hl ?_)
 refine ⟨_, [s.heap.objs.size, l], [s.heap.objs.size], _, _, _, _, rfl, Walks.tuple (A := A.in1) hh _ l (ztA hlt) (intItems xs),
   ⟨⟨_, ztk _ rfl, rfl, rfl⟩, hl.push _⟩, fun c hc => ?_, by simpa [intItems] using hne, CmpOf.ints_gt (numAt xs) (fun _ _ => intItems_at), fun v h' tk hP hk => ?_⟩
 . show c < (s.heap.push _).objs.size
   rw [Heap.size_push]
   rcases List.mem_cons.mp hc with rfl | hc
   . exact Nat.lt_succ_self _
   . rcases List.mem_cons.mp hc with rfl | hc
     . exact Nat.lt_succ_of_lt hlt
     . cases hc
 . exact h v h' tk (by simpa [intItems] using hP) (LSm.kept_iter hk)
def zq8 : GN
 | [.tup xs], S => (zqo xs).bind fun ns => (zso ns).map fun m => (.int m, S)
 | ds, S => gMin ds S
def zqM : GN
 | [.tup xs], S => (zqo xs).bind fun ns => (zsp ns).map fun m => (.int m, S)
 | ds, S => gMax ds S
theorem zmS (hc : X.calm = true) : zpS X (.builtin "min") (rdC X.K zq8) := by
 intro pins s σ H vs us Q I rv h
 obtain ⟨S, α, ds, z, S', hs, r, hg, k⟩ := h
 unfold zq8 at hg
 split at hg
 . obtain ⟨v, rfl, r0⟩ := r.inv1
   cases r0 with
   | @tup a ds vs q r1 =>
     simp only [oBs, oMs] at hg
     obtain ⟨ns, e1, m, e2, e3⟩ := hg
     cases e3
     obtain ⟨u, rfl, ru⟩ := zqm rv
     cases ru
     obtain ⟨its, rr, pl, hz⟩ := I.tuple q
     have hi := zch r1 rr e1
     have hne : 0 < ns.length := by
       cases ns with
       | nil => cases e2
       | cons _ _ => simp
     obtain ⟨xs, hxs⟩ := hi.allInts.items
     have hn := hi.numsOf
     have hnn : numsOf (intItems xs).toList = ns := by rw [<- hxs]; simpa using hn
     rw [nums_intItems] at hnn
     have hsz : 0 < xs.size := by
       have := congrArg List.length hnn
       simp at this; omega
     have hl' : s.heap.IsTuple a (intItems xs) := by rw [<- hxs]; exact pl
     refine zhz (I.ok.hd hc) hl' hsz fun v h' tk hv hk => ?_
     obtain ⟨t, rfl⟩ := intItems_at hv
     obtain ⟨h1, h2⟩ := argBest_lt (numAt xs) (xs.size - 1)
     have hm : zso ns = some (numAt xs (argBest (fun i j => decide (numAt xs i < numAt xs j)) (xs.size - 1))) := by
       refine ziC ?_ fun b hb => ?_
       . rw [<- hnn, numAt_eq]; exact getD_mem (by rw [zs7, Array.length_toList]; omega)
       . rw [<- hnn] at hb
         obtain ⟨j, hj, rfl⟩ := mem_getD hb
         rw [zs7, Array.length_toList] at hj
         rw [<- numAt_eq]; exact h2 j (by omega)
     rw [e2] at hm; cases hm
     exact ⟨.int _, H, I.kept hk, ⟨t, rfl⟩, k.same hs (.int _)⟩
 . exact zoJ hc pins s σ H vs us Q I rv ⟨S, α, _, z, S', hs, r, hg, k⟩
theorem zmT (hc : X.calm = true) : zpS X (.builtin "max") (rdC X.K zqM) := by
 intro pins s σ H vs us Q I rv h
 obtain ⟨S, α, ds, z, S', hs, r, hg, k⟩ := h
 unfold zqM at hg
 split at hg
 . obtain ⟨v, rfl, r0⟩ := r.inv1
   cases r0 with
   | @tup a ds vs q r1 =>
     simp only [oBs, oMs] at hg
     obtain ⟨ns, e1, m, e2, e3⟩ := hg
     cases e3
     obtain ⟨u, rfl, ru⟩ := zqm rv
     cases ru
     obtain ⟨its, rr, pl, hz⟩ := I.tuple q
     have hi := zch r1 rr e1
     have hne : 0 < ns.length := by
       cases ns with
       | nil => cases e2
       | cons _ _ => simp
     obtain ⟨xs, hxs⟩ := hi.allInts.items
     have hn := hi.numsOf
     have hnn : numsOf (intItems xs).toList = ns := by rw [<- hxs]; simpa using hn
     rw [nums_intItems] at hnn
     have hsz : 0 < xs.size := by
       have := congrArg List.length hnn
       simp at this; omega
     have hl' : s.heap.IsTuple a (intItems xs) := by rw [<- hxs]; exact pl
     refine zhA (I.ok.hd hc) hl' hsz fun v h' tk hv hk => ?_
     obtain ⟨t, rfl⟩ := intItems_at hv
     obtain ⟨h1, h2⟩ := argBest_gt (numAt xs) (xs.size - 1)
     have hm : zsp ns = some (numAt xs (argBest (fun i j => decide (numAt xs i > numAt xs j)) (xs.size - 1))) := by
       refine ziE ?_ fun b hb => ?_
       . rw [<- hnn, numAt_eq]; exact getD_mem (by rw [zs7, Array.length_toList]; omega)
       . rw [<- hnn] at hb
         obtain ⟨j, hj, rfl⟩ := mem_getD hb
         rw [zs7, Array.length_toList] at hj
         rw [<- numAt_eq]; exact h2 j (by omega)
     rw [e2] at hm; cases hm
     exact ⟨.int _, H, I.kept hk, ⟨t, rfl⟩, k.same hs (.int _)⟩
 . exact zoK hc pins s σ H vs us Q I rv ⟨S, α, _, z, S', hs, r, hg, k⟩
end
end MX
end
section
namespace MX
open PySem PySem.Spec PyProof.Rows L2
def zsr : D -> D -> D -> So -> Option So
 | .ref n, .int i, d, S => match S[n]? with
   | some (.lst xs) => (ixN xs.length i).map fun j => S.set n (.lst (xs.set j d))
   | _ => none
 | .ref n, .tup ks, .int j, S => match S[n]? with
   | some (.dct xs) => if xs.length < sizeLine then (zqx ks).map fun k => S.set n (.dct (zrr xs k j)) else none
   | _ => none
 | _, _, _, _ => none
def gSt (fo fi : EF) : GF := fun d σ S => (fo σ S).bind fun r => (fi σ r.2).bind fun q => (zsr r.1 q.1 d q.2).map fun S' => (σ, S')
theorem zkN {X : Cx} (hu : X.A.units + 64 < cLine) {o i : Expr} {fo fi : EF} {pos : Pos} (ho : SE X o fo) (hi : SE X i fi)
   (ha : ∀ v, assign (.Subscript o i pos) X.env v = (do
     let ov <- holding [v] (eval o X.env)
     let iv <- holding [v, ov] (eval i X.env)
     standAt pos
     holding [v, ov, iv] (setItem ov iv v)
     release [v, ov, iv] [])) : SG X (.Subscript o i pos) (gSt fo fi) := by
 refine PG.imp (znL ho hi (PSet.or zjV (zjW hu)) ha) fun v σ H Q h => ?_
 obtain ⟨σd, S, α, d, σd', S', hv, hs, r, hf, k⟩ := h
 unfold gSt at hf
 simp only [oBs, oMs] at hf
 obtain ⟨⟨x, S1⟩, e1, ⟨y, S2⟩, e2, S3, e3, e4⟩ := hf
 cases e4
 refine ⟨σd, S, α, x, S1, hv, hs, e1, fun ov H1 α1 s1 x1 r1 => ⟨σd, S1, α1, y, S2, hv.mono x1, s1, e2, fun iv H2 α2 s2 x2 r2 => ?_⟩⟩
 have r1' := r1.mono x2
 have rd := (r.mono x1).mono x2
 simp only at e3
 unfold zsr at e3
 split at e3
 . rename_i n j d
   cases r1' with
   | ref ha =>
     cases r2
     split at e3
     . rename_i xs e
       simp only [oMs] at e3
       obtain ⟨jj, e5, rfl⟩ := e3
       obtain ⟨ws, q, rr⟩ := s2.obj _ _ _ e ha
       refine .inl ⟨_, ws, _, jj, rfl, rfl, q, by rw [<- rr.length]; exact e5, ?_⟩
       obtain ⟨s3, x3⟩ := s2.put (o := .lst (xs.set jj _)) (u := .lst (ws.set jj v)) e rfl rfl ha q (.inl ⟨_, rfl⟩) fun x => ⟨_, zam, (Reps.set rd jj rr).mono x⟩
       exact k _ _ _ (((hv.mono x1).mono x2).mono x3) s3 ((x1.trans x2).trans x3)
     . cases e3
 . rename_i n ks j
   cases r1' with
   | ref ha =>
     cases rd
     split at e3
     . rename_i xs e
       split at e3
       . rename_i hlt
         simp only [oMs] at e3
         obtain ⟨kk, e5, rfl⟩ := e3
         obtain ⟨ys, q, rr⟩ := s2.obj _ _ _ e ha
         obtain ⟨b, rfl, hb⟩ := zem (show zsm (.tup ks) = some kk from e5) r2
         refine .inr ⟨_, b, kk, ys, j, rfl, rfl, rfl, q, rr.keys, hb, by rw [<- rr.length]; exact hlt, fun t => ?_⟩
         obtain ⟨s3, x3⟩ := s2.put (o := .dct (zrr xs kk j)) (u := zqN _ (storedH ys kk b (.int j t))) e rfl rfl ha q (.inr ⟨_, rfl⟩) fun x => ⟨_, zam, (rr.put hb).mono x.tups⟩
         exact k _ _ _ (((hv.mono x1).mono x2).mono x3) s3 ((x1.trans x2).trans x3)
       . cases e3
     . cases e3
 . cases e3
def gExtend : GM
 | .ref n, [.ref m], S => match S[n]?, S[m]? with
   | some (.lst xs), some (.lst ys) => if xs.length + ys.length <= sizeLine then some (.non, S.set n (.lst (xs ++ ys))) else none
   | _, _ => none
 | _, _, _ => none
theorem Reps.eraseIdx {K : PySem.W.Frag} {H : Hp} {α : List Addr} : ∀ {ds : List D} {vs : List V} (i : Nat), Reps K H α ds vs -> Reps K H α (ds.eraseIdx i) (vs.eraseIdx i)
 | _, _, _, .nil => .nil
 | _, _, 0, .cons _ t => t
 | _, _, i + 1, .cons r t => .cons r (Reps.eraseIdx i t)
theorem Reps.dropLast {K : PySem.W.Frag} {H : Hp} {α : List Addr} {ds : List D} {vs : List V} (r : Reps K H α ds vs) : Reps K H α ds.dropLast vs.dropLast := by
 rw [List.dropLast_eq_take, List.dropLast_eq_take, r.length]
 exact r.take _
def gPop : GM
 | .ref n, [], S => match S[n]? with
   | some (.lst xs) => (xs[xs.length - 1]?).map fun d => (d, S.set n (.lst xs.dropLast))
   | _ => none
 | .ref n, [.int i], S => match S[n]? with
   | some (.lst xs) => if -(2 ^ 63) <= i /\ i < 2 ^ 63 then (seqIndex? i xs.length).bind fun k => (xs[k]?).map fun d => (d, S.set n (.lst (xs.eraseIdx k))) else none
   | _ => none
 | _, _, _ => none
theorem zn5 {X : Cx} : MtR X "list.pop" (rdM X.K gPop) := by
 intro pins s σ H v vs vv us Q I rv rs h
 obtain ⟨S, α, d, ds, z, S', hs, r, rr, hg, k⟩ := h
 unfold gPop at hg
 split at hg
 . cases r with
   | ref ha =>
     split at hg
     . rename_i xs e
       simp only [oMs] at hg
       obtain ⟨d, e1, e2⟩ := hg
       cases e2
       cases rr
       obtain ⟨ws, q, r⟩ := hs.obj _ _ _ e ha
       obtain ⟨w, ew, rw'⟩ := r.get e1
       refine zn3 pins s σ H _ _ _ us Q I rv rs ⟨_, _, w, rfl, rfl, q, by rw [<- r.length]; exact ew, ?_⟩
       obtain ⟨s2, x2⟩ := hs.put (o := .lst xs.dropLast) (u := .lst ws.dropLast) e rfl rfl ha q (.inl ⟨_, rfl⟩) fun x => ⟨_, zam, r.dropLast.mono x⟩
       exact k _ _ _ s2 x2 (rw'.mono x2)
     . cases hg
 . cases r with
   | ref ha =>
     split at hg
     . rename_i xs e
       split at hg
       . rename_i hb
         simp only [oBs, oMs] at hg
         obtain ⟨kk, e0, d, e1, e2⟩ := hg
         cases e2
         obtain ⟨w0, rfl, r0⟩ := rr.inv1
         cases r0
         obtain ⟨ws, q, r⟩ := hs.obj _ _ _ e ha
         obtain ⟨w, ew, rw'⟩ := r.get e1
         refine zke pins s σ H _ _ _ us Q I rv rs ⟨_, _, _, kk, w, rfl, rfl, q, hb.1, hb.2, by rw [<- r.length]; exact e0, ew, ?_⟩
         obtain ⟨s2, x2⟩ := hs.put (o := .lst (xs.eraseIdx kk)) (u := .lst (ws.eraseIdx kk)) e rfl rfl ha q (.inl ⟨_, rfl⟩) fun x => ⟨_, zam, (r.eraseIdx kk).mono x⟩
         exact k _ _ _ s2 x2 (rw'.mono x2)
       . cases hg
     . cases hg
 . cases hg
def zqg : GM
 | .ref n, [], S => match S[n]? with
   | some (.lst xs) => some (.non, S.set n (.lst xs.reverse))
   | _ => none
 | _, _, _ => none
theorem zhy {X : Cx} : MtR X "list.reverse" (rdM X.K zqg) := by
 intro pins s σ H v vs vv us Q I rv rs h
 obtain ⟨S, α, d, ds, z, S', hs, r, rr, hg, k⟩ := h
 unfold zqg at hg
 split at hg
 . cases r with
   | ref ha =>
     split at hg
     . rename_i xs e
       cases hg
       cases rr
       obtain ⟨ws, q, r⟩ := hs.obj _ _ _ e ha
       refine zhx pins s σ H _ _ _ us Q I rv rs ⟨_, _, rfl, rfl, q, ?_⟩
       obtain ⟨s2, x2⟩ := hs.put (o := .lst xs.reverse) (u := .lst ws.reverse) e rfl rfl ha q (.inl ⟨_, rfl⟩) fun x => ⟨_, zam, r.reverse.mono x⟩
       exact k _ _ _ s2 x2 .non
     . cases hg
 . cases hg
def eM0 (g : GM) (fo : EF) : EF := fun σ S => (fo σ S).bind fun r => match r.1 with
 | .ref n => match r.2[n]? with
   | some (.lst _) => g r.1 [] r.2
   | _ => none
 | _ => none
theorem znw {X : Cx} {o : Expr} {fo : EF} {g : GM} {name : Str} {id : String} {apos cpos : Pos} (slot : Slot "list" name id) (hty : typeOf (.builtin id) = pure (.type "method_descriptor")) (hm : MtR X id (rdM X.K g))
   (ho : SE X o fo) (hbase : attributeBase o name X.env (eval o X.env) = eval o X.env) (hline : (apos.endLine == cpos.line) = true) :
   SE X (.Call (.Attribute o name apos) [] [] cpos) (eM0 g fo) := by
 refine PE.imp (znQ PySem.F.plainAttrs_list slot hty hm ho hbase hline) fun σ H Q h => ?_
 obtain ⟨σd, S, α, z, S', hv, hs, hf, k⟩ := h
 unfold eM0 at hf
 simp only [oBs] at hf
 obtain ⟨⟨d, S1⟩, e1, e2⟩ := hf
 refine ⟨σd, S, α, d, S1, hv, hs, e1, fun v H1 α1 s1 x1 r1 => ?_⟩
 simp only at e2
 split at e2
 . rename_i n
   split at e2
   . rename_i xs q
     cases r1 with
     | ref ha =>
       obtain ⟨ws, hw, _⟩ := s1.obj _ _ _ q ha
       exact ⟨.inl ⟨rfl, _, SqL.of hw⟩, S1, α1, _, [], z, S', s1, .ref ha, .nil, e2, k.trans x1⟩
   . cases e2
 . cases e2
end MX
end
section
namespace MX
open PySem PySem.Spec PyProof.Rows L2
def eDct : EF := fun _ S => some (.ref S.length, S ++ [.dct []])
theorem znA {X : Cx} {pos : Pos} : SE X (.Dict [] [] pos) eDct := by
 refine PE.imp zkb fun σ H Q h => ?_
 obtain ⟨σd, S, α, z, S', hv, hs, hf, k⟩ := h
 cases hf
 intro p hp
 obtain ⟨s', e'⟩ := hs.snoc (p := p) (o := .dct []) (u := zqN p []) hp fun α' e => ⟨[], zam, .nil⟩
 exact k _ _ _ s' e' (.ref (by rw [<- hs.len]; simp))
def zqC : GM
 | .ref n, [k, .int i], S => match S[n]? with
   | some (.dct xs) => (zsm k).map fun kk => (.int ((zqe xs kk).getD i), S)
   | _ => none
 | _, _, _ => none
theorem zn6 {X : Cx} (hu : X.A.units + 64 < cLine) : MtR X "dict.get" (rdM X.K zqC) := by
 intro pins s σ H x xs v us Q I r rs h
 obtain ⟨S, α, d, ds, z, S', hs, r1, r2, hg, k⟩ := h
 refine zn4 hu pins s σ H x xs v us Q I r rs ?_
 unfold zqC at hg
 split at hg
 . rename_i n kd i
   cases r1 with
   | ref ha =>
     split at hg
     . rename_i xs' e
       simp only [oMs] at hg
       obtain ⟨kk, e1, hg⟩ := hg
       cases hg
       obtain ⟨ys, q, rr⟩ := hs.obj _ _ _ e ha
       cases r2 with
       | cons c1 r3 =>
         obtain ⟨b, rfl, hb⟩ := zem e1 c1
         cases r3 with
         | cons c2 r4 =>
           cases c2
           cases r4
           refine ⟨_, b, kk, ys, i, _, rfl, rfl, q, rr.keys, hb, ?_, k.same hs (.int _)⟩
           rcases rr.at kk with ⟨a1, a2⟩ | ⟨b', j, t, a1, a2⟩
           . exact .inl ⟨a1, by rw [a2]; rfl⟩
           . exact .inr ⟨b', t, by rw [a1, a2]; rfl⟩
     . cases hg
 . cases hg
def eDM (g : GM) (fo : EF) (fa : AF) : EF := fun σ S => (fo σ S).bind fun r => match r.1 with
 | .ref n => match r.2[n]? with
   | some (.dct _) => (fa σ r.2).bind fun q => g r.1 q.1 q.2
   | _ => none
 | _ => none
theorem zlx {X : Cx} (hu : X.A.units + 64 < cLine) {o e : Expr} {es : List Expr} {fo : EF} {fa : AF} {apos cpos : Pos}
   (ho : SE X o fo) (ha : SA X (e :: es) fa) (hbase : attributeBase o "get" X.env (eval o X.env) = eval o X.env)
   (hfew : ((backTo cpos (starEach (e :: es) X.env)).all (fun x => !x.1) && (backToKw cpos (keywordEach [] X.env)).all (fun x => x.1.isSome)
     && decide ((e :: es).length + ([] : List Keyword).length + (if ([] : List Keyword).isEmpty then 0 else 1) < 30)) = true)
   (hline : (apos.endLine == cpos.line) = true) (hst : starEach (e :: es) X.env = (false, eval e X.env) :: starEach es X.env) (hplain : (backTo cpos (starEach es X.env)).any (·.1) = false) :
   SE X (.Call (.Attribute o "get" apos) (e :: es) [] cpos) (eDM zqC fo fa) := by
 refine PE.imp (zpd PySem.F.slot_dict_get PySem.F.type_dict_get (zn6 hu) ho ha hbase hfew hline hst hplain) fun σ H Q h => ?_
 obtain ⟨σd, S, α, z, S', hv, hs, hf, k⟩ := h
 unfold eDM at hf
 simp only [oBs] at hf
 obtain ⟨⟨d, S1⟩, e1, e2⟩ := hf
 refine ⟨σd, S, α, d, S1, hv, hs, e1, fun v H1 α1 s1 x1 r1 => ?_⟩
 simp only at e2
 split at e2
 . rename_i n
   split at e2
   . rename_i xs q
     simp only [oBs] at e2
     obtain ⟨⟨ds, S2⟩, e3, e4⟩ := e2
     cases r1 with
     | ref ha =>
       obtain ⟨ys, hw, _⟩ := s1.obj _ _ _ q ha
       refine ⟨⟨_, _, rfl, hw⟩, σd, S1, α1, ds, S2, hv.mono x1, s1, e3, fun vs H2 α2 s2 x2 r2 => ?_⟩
       exact ⟨S2, α2, _, ds, z, S', s2, .ref (x2.pre _ _ ha), r2, e4, k.trans (x1.trans x2)⟩
   . cases e2
 . cases e2
def zqP (fo : EF) : IF := fun σ S => (fo σ S).bind fun r => match r.1 with
 | .ref n => match r.2[n]? with
   | some (.dct xs) => some (.itm n xs.length, r.2)
   | _ => none
 | _ => none
theorem zml {K : PySem.W.Frag} {H : Hp} {α : List Addr} {a : Addr} {n m : Nat} (h : α[n]? = some a) : ItR K H α (.itm n m) (ItN a m) := fun i H1 α1 S1 x1 s1 => by
 have h1 := x1.pre _ _ h
 unfold nxD
 cases hm : S1[n]? with
 | none => simp only [hm]; exact ⟨fun e => (nomatch e), fun d e => (nomatch e)⟩
 | some o =>
   have hob := s1.obj _ _ _ hm h1
   cases o with
   | dct xs =>
     obtain ⟨ys, q, r⟩ := hob
     simp only [hm]
     by_cases hl : xs.length = m
     . rw [if_pos hl]
       refine ⟨fun e => ?_, fun d e => ?_⟩
       . have e' : xs[i]? = none := by simpa using e
         exact ⟨ys, q, by rw [<- r.length, hl], by rw [<- hl]; exact List.getElem?_eq_none_iff.mp e'⟩
       . have e' : (xs[i]?).map (fun x => D.tup [kD x.1, .int x.2]) = some d := by simpa using e
         simp only [oMs] at e'
         obtain ⟨x, e2, rfl⟩ := e'
         obtain ⟨b, t, e3, hb⟩ := r.get e2
         refine ⟨⟨ys, _, x.2, t, q, by rw [<- r.length, hl], e3, rfl⟩, fun v H' y => ?_⟩
         obtain ⟨p, row, rfl, hp, rfl, hy⟩ := y
         have er := hy ys q
         rw [e3] at er
         have er' : row = [.ref b, .int x.2] := (Option.some.inj er).symm
         subst er'
         have sm := zbX (o := .tup [.ref b, .int x.2]) hp
         exact ⟨sm, .tup (SqT.of zam) (.cons ((zkd hb).mono (Same.ext (α := α1) sm)) (.cons (.int _) .nil))⟩
     . rw [if_neg hl]; exact ⟨fun e => (nomatch e), fun d e => (nomatch e)⟩
   | _ => simp only [hm]; exact ⟨fun e => (nomatch e), fun d e => (nomatch e)⟩
theorem zjT {X : Cx} {es : List Expr} {kk : Nat} {tp apos cpos : Pos} {o : Expr} {fo : EF} (ho : SE X o fo) (hbase : attributeBase o "items" X.env (eval o X.env) = eval o X.env) (hline : (apos.endLine == cpos.line) = true) :
   SI X (.Tuple es kk tp) (.Call (.Attribute o "items" apos) [] [] cpos) (zqP fo) := by
 refine PI.imp (zj8 ho hbase hline) fun σ H R h => ?_
 obtain ⟨σd, S, α, j, S', hv, hs, hf, k⟩ := h
 unfold zqP at hf
 simp only [oBs] at hf
 obtain ⟨⟨d, S1⟩, e1, e2⟩ := hf
 refine ⟨σd, S, α, d, S1, hv, hs, e1, fun v H1 α1 s1 x1 r1 => ?_⟩
 simp only at e2
 split at e2
 . rename_i n
   split at e2
   . rename_i xs q
     cases e2
     cases r1 with
     | ref ha =>
       obtain ⟨ys, hw, rr⟩ := s1.obj _ _ _ q ha
       exact ⟨_, ys, rfl, hw, k _ _ _ s1 x1 (by rw [<- rr.length]; exact zml ha)⟩
   . cases e2
 . cases e2
def gInt : GN
 | [.bl b], S => some (.int (if b then 1 else 0), S)
 | _, _ => none
theorem zoH {X : Cx} : zpS X (.type "int") (rdC X.K gInt) := by
 intro pins s σ H xs us Q I r h
 obtain ⟨S, α, ds, z, S', hs, r2, hg, k⟩ := h
 refine zjA pins s σ H xs us Q I r ?_
 unfold gInt at hg
 split at hg
 . cases hg
   cases r2 with
   | cons c1 r3 =>
     cases c1
     cases r3
     exact .inr ⟨_, rfl, k.same hs (.int _)⟩
 . cases hg
end MX
end
section
namespace MX
open PySem PySem.Spec PyProof.Rows L2
theorem zen {P : Program} {w : World} {X : Cx} {pins : List (Addr × Obj)} {σ : L2.St} {H : Hp} {s : Shared} (I : Inv X pins σ H s) {k : NK} {b : Addr} (h : NKey X.K H k b) : IsNestKey (intKind P w) s.heap k b := by
 obtain ⟨bs, h1, h2⟩ := h
 obtain ⟨o, items, n, e1, e2, e3, e4⟩ := zek I h1
 refine ⟨o, items, n, e1, e2, e3, ?_⟩
 rw [zdC e4]
 clear e4 h1
 induction h2 with
 | nil => exact .nil
 | cons hc _ ih =>
   obtain ⟨o', items', n', f1, f2, f3, f4⟩ := zek I hc
   exact .cons ⟨o', items', n', f1, f2, f3, zdY f4⟩ ih
open Classical in
def zq7 (P : Program) (w : World) (h : Heap) (k : NK) : Value -> Bool
 | .ref c => decide (IsNestKey (intKind P w) h k c)
 | _ => false
def rCnt (K : PySem.W.Frag) : V -> List V -> Hp -> VK -> Prop := fun x xs H Q => ∃ a b k ks bs, x = .ref a /\ xs = [.ref b] /\ SqL K H a (bs.map V.ref) /\ Paired (NKey K H) ks bs /\ NKey K H k b /\ Q (.int (ks.count k : Nat)) H
open Classical in
theorem zkg {X : Cx} (hu : X.A.units + 64 < cLine) : MtR X "list.count" (rCnt X.K) := by
 intro pins s σ H x xs v us Q I r rs h
 obtain ⟨a, b, k, ks, bs, rfl, rfl, hq, hp, hb, q⟩ := h
 cases r
 cases rs with
 | cons r1 rs =>
   cases r1
   cases rs
   obtain ⟨its, rv, pl, hz⟩ := I.list hq
   have ei := zdC rv
   subst ei
   obtain ⟨⟨cls, dd, data, sl⟩, n, e, c, hd, hdat⟩ := pl
   simp only at c hd hdat
   subst c hdat
   have key : ∀ {c : Addr} {kc : NK}, NKey X.K H kc c -> zq7 X.prog X.w s.heap k (.ref c) = decide (kc = k) := fun {c kc} hc => by
     unfold zq7
     simp only
     by_cases hk : kc = k
     . rw [decide_eq_true hk]; exact decide_eq_true (hk ▸ zen I hc)
     . rw [decide_eq_false hk]; exact decide_eq_false fun z => hk ((zen I hc).inj z)
   have all : ∀ y ∈ (bs.map Value.ref), ∃ c kc, y = .ref c /\ NKey X.K H kc c := by
     clear hq rv q hz e
     induction hp with
     | nil => intro y hy; cases hy
     | cons hc _ ih =>
       intro y hy
       rcases List.mem_cons.mp hy with rfl | hy
       . exact ⟨_, _, rfl, hc⟩
       . exact ih y hy
   have cnt : (bs.map Value.ref).countP (zq7 X.prog X.w s.heap k) = ks.count k := by
     clear hq rv q hz all e
     induction hp with
     | nil => rfl
     | @cons kc c _ _ hc _ ih =>
       rw [ztJ, List.countP_cons, List.count_cons, ih, key hc]
       by_cases hk : kc = k
       . rw [if_pos (decide_eq_true hk), if_pos (by simpa using hk)]
       . rw [if_neg (by simpa using hk), if_neg (by simpa using hk)]
   refine call_meets zty ⟨_, e, rfl⟩ PySem.F.entry_list_count (PySem.F.args_list_count_2 _ _) (SeqAt.list_countAt a (bs.map Value.ref).toArray n dd sl (.ref b) (zq7 X.prog X.w s.heap k)) ⟨e, fun y hy => ?_, ?_⟩
   . obtain ⟨c, kc, rfl, hc⟩ := all y (by simpa using hy)
     intro prog w E Q' hq'
     rw [key hc] at hq'
     exact zcd (knd := intKind prog w) (by show X.A.units + 1 + 2 < cLine; omega) (zen I hc) (zen I hb) hq'
   . have e2 : (bs.map Value.ref).toArray.toList.countP (zq7 X.prog X.w s.heap k) = ks.count k := cnt
     rw [e2]
     exact ⟨.int (ks.count k : Nat), H, I.tok _, ⟨_, rfl⟩, q⟩
def zrs : List D -> Option (List NK)
 | [] => some []
 | d :: r => (zsm d).bind fun k => (zrs r).map fun l => k :: l
def zqq : GM
 | .ref n, [k], S => match S[n]? with
   | some (.lst xs) => (zrs xs).bind fun ks => (zsm k).map fun kk => (.int (ks.count kk : Nat), S)
   | _ => none
 | _, _, _ => none
theorem zit {K : PySem.W.Frag} {H : Hp} {α : List Addr} : ∀ {xs : List D} {ks : List NK} {vs : List V}, zrs xs = some ks -> Reps K H α xs vs -> ∃ bs, vs = bs.map V.ref /\ Paired (NKey K H) ks bs
 | [], ks, _, h, .nil => by cases h; exact ⟨[], rfl, .nil⟩
 | d :: r, ks, _, h, .cons rd rr => by
   unfold zrs at h
   simp only [oBs, oMs] at h
   obtain ⟨k, e1, l, e2, rfl⟩ := h
   obtain ⟨b, rfl, hb⟩ := zem e1 rd
   obtain ⟨bs, rfl, hp⟩ := zit e2 rr
   exact ⟨b :: bs, rfl, .cons hb hp⟩
theorem zkh {X : Cx} (hu : X.A.units + 64 < cLine) : MtR X "list.count" (rdM X.K zqq) := by
 intro pins s σ H v vs vv us Q I rv rs h
 obtain ⟨S, α, d, ds, z, S', hs, r, rr, hg, k⟩ := h
 refine zkg hu pins s σ H v vs vv us Q I rv rs ?_
 unfold zqq at hg
 split at hg
 . cases r with
   | ref ha =>
     split at hg
     . rename_i xs e
       simp only [oBs, oMs] at hg
       obtain ⟨ks, e1, kk, e2, hg⟩ := hg
       cases hg
       obtain ⟨ws, q, r⟩ := hs.obj _ _ _ e ha
       obtain ⟨bs, rfl, hp⟩ := zit e1 r
       cases rr with
       | cons c1 r3 =>
         cases r3
         obtain ⟨b, rfl, hb⟩ := zem e2 c1
         exact ⟨_, b, kk, ks, bs, rfl, rfl, SqL.of q, hp, hb, k.same hs (.int _)⟩
     . cases hg
 . cases hg
end MX
end
section
namespace MX
open PySem PySem.Spec PyProof.Rows L2
section
variable {X : Cx} {pos : Pos}
end
end MX
end
section
namespace MX
open PySem PySem.Spec PySem.W PyProof.Rows L2
def cxL (P : Program) (w : World) (K : PySem.W.Frag) (mg : Str -> Option Value) (base : Heap) (N : List Str) (qual : Str) (scope : Scope) (f : Addr) (cd : Value) (cl : List (Str × Addr)) (A : Around) (outer : List Env) (s : Shared) (H : Hp) (E : XK) : Cx where
 prog := P
 w := w
 K := K
 mg := mg
 base := base
 A := A.deeper (envX qual scope s.heap.objs.size f cd cl)
 N := N
 s₀ := s
 H₀ := H
 env := envX qual scope s.heap.objs.size f cd cl
 outer := outer
 stack := envX qual scope s.heap.objs.size f cd cl :: outer
 ex := []
 calm := true
 fn := fun _ => false
 pn := []
 xe := fun e s' => wpAny (model P w) (A.deeper (envX qual scope s.heap.objs.size f cd cl)) (leaving (envX qual scope s.heap.objs.size f cd cl) e) (fun _ s'' => CX0 outer H s E e s'') (fun e' s'' => CX0 outer H s E e' s'') s'
theorem zme {scope : Scope} (h : ∀ x ∈ scope.names, x.2 ≠ NameKind.cell) (x : Str) : scope.names.lookup x ≠ some .cell := fun e => h _ (zs4 e) rfl
theorem callFunE2 {prog : Program} {w : World} {A : Around} {R : Result -> Shared -> Prop} {s : Shared} {a : Addr} {args : Args} {o : Obj} {fd : FuncData} {body : Expr} {q : Str} (hroom : A.depth < recursionLimit)
   (ho : s.heap.get? a = some o) (hd' : o.data = .func fd) (hco : fd.scope.isCoroutine = false) (hgen : fd.scope.isGenerator = false) (hbody : fd.body = .expr body) (hcd : s.heap.CodeRec fd.code q)
   (h : wpAny (model prog w) A.in1 (bindArgs fd args) (fun binds s₁ =>
     wpAny (model prog w) A.in1 (newFunctionEnv fd.scope fd.globals fd.closure binds (q ++ ".<locals>.") (some a) fd.code none fd.builtins)
       (fun env s₂ => s₂.heap.NoLimit /\ codeAny (model prog w) A (.expr body env) R s₂) (fun e s' => R (.error e) s') s₁) (fun e s' => R (.error e) s') s) :
   codeAny (model prog w) A (.call (.ref a) args) R s := by
 refine codeAny_of_tree ?_
 show wpAny _ A.in1 (callAny (.ref a) args) _ _ s
 simp only [callAny]
 refine ztm (wpAny_load ho ?_)
 obtain ⟨c, oc, vs, tq, hc, hoc, hdc, hq⟩ := hcd
 simp only [hd', callFunction, hco, hgen, hbody, hc]
 rw [hc] at h
 refine ztm (m := field (.ref c) 1) (wpAny_field hoc hdc hq (ztm (ztn ?_)))
 exact ztm (zto h (fun binds s₁ h₁ => ztm (zto h₁ (fun env s₂ h₂ => ztm (wpAny_enterFrame h₂.1 hroom
   (ztn (And.intro rfl h₂.2)))) fun _ _ h' => h')) fun _ _ h' => h')
theorem zmj {M : Model} {a : Addr} {fd : FuncData} (h : Heap) (X : h.get? a = some { cls := .type "function", data := .func fd }) : ∃ k, (k = Keeper.frame \/ k = Keeper.machine \/ k = Keeper.boundFrame) /\ Looks M h (keeperOf (.ref a)) k :=
 ⟨.frame, .inl rfl, (Looks.ld (part := none) X).andThen .now⟩
section
variable {X : Cx} {x : Str} {p pos : Pos} {e : Expr} {es : List Expr} {t : TA}
structure Tups (H H' : Hp) : Prop where
 tups : ∀ b xs, H b = some (.tup xs) -> H' b = some (.tup xs)
 tbls : ∀ b ps, H b = some (.tbl ps) -> ∃ more, H' b = some (.tbl (ps ++ more))
 frzs : ∀ b o u, H b = some (.frz o u) -> H' b = some (.frz o u)
end
end MX
end
section
namespace MX
open PySem PySem.Spec PySem.W PyProof.Rows L2
def BM (h : Heap) (mg : Str -> Option Value) : Prop := ∃ bm o, mg "__builtins__" = some (.ref bm) /\ bm ≠ builtinsNs /\ h.get? bm = some o /\ o.cls = .type "module" /\ o.dict = some builtinsNs /\ o.data = .plain
def SameT (H H' : Hp) : Prop := ∀ b o, H b = some o -> (∀ ps, o ≠ .tbl ps) -> H' b = some o
theorem zhO {pos pos' : Pos} {c cv : Value} : ∀ l : List Value, TriplesOk l -> codeAmong pos (l ++ [rawInt pos'.line, rawInt pos'.col, c]) = some cv -> codeAmong pos l = some cv \/ cv = c := fun l h => by
 fun_induction TriplesOk l with
 | case1 =>
   intro e
   simp only [ztK, codeAmong, rawInt] at e
   split at e
   . cases e; exact .inr rfl
   . cases e
 | case2 a' t b' u x rest ih =>
   intro e
   simp only [List.cons_append, codeAmong] at e ⊢
   split at e
   . rename_i hc; rw [if_pos hc]; exact .inl e
   . rename_i hc; rw [if_neg hc]; exact ih h e
 | case3 l h1 h2 => exact h.elim
section
variable {X : Cx} {pins : List (Addr × Obj)} {σ : L2.St} {H : Hp} {s : Shared}
theorem zgW (I : Inv X pins σ H s) {h' : Heap} {t' : Nat} (k : ∀ b o, s.heap.get? b = some o -> h'.get? b = some o) : Inv X pins σ H { s with heap := h', toks := t' } :=
 I.step (h' := h') (g' := s.gens) (d' := s.drawn) (ch := []) (fun _ z => nomatch z) (fun b o _ _ _ e _ => k b o e) (fun b o _ _ _ e _ => ⟨o.slots, k b o e⟩) (fun b o _ _ n => n) (fun b o _ e => ⟨o, k b o e⟩) (fun _ _ q => q) (fun _ _ _ q => q) (fun _ ps q => ⟨#[], by rw [q]; simp⟩)
   (fun m ⟨o, es, ep, e, r⟩ => ⟨o, es, ep, k _ _ e, r⟩) (I.hok.kept k) I.bare
theorem ziR (I : Inv X pins σ H s) {P c' : Addr} {ps : Array Value} {h' : Heap} {t' : Nat} {lpos : Pos} {q : Str} (hT : H P = some (.tbl ps)) (hx : Heap.ExtBut P s.heap h') (hge : s.heap.objs.size <= c') (hrec : h'.CodeRec (.ref c') q)
   (hP : h'.get? P = some (tabObj (ps ++ #[rawInt lpos.line, rawInt lpos.col, .ref c']))) :
   Inv X pins σ (upd (upd H P (.tbl (ps ++ #[rawInt lpos.line, rawInt lpos.col, .ref c']))) c' (.own P)) { s with heap := h', toks := t' } := by
 have hc : H c' = none := I.hok.fresh hge
 have hPc : P ≠ c' := fun z => by rw [z, hc] at hT; cases hT
 have neP : ∀ b, H b = none -> b ≠ P := fun b n z => by rw [z, hT] at n; cases n
 have neC : ∀ b o, s.heap.get? b = some o -> b ≠ c' := fun b o e z => absurd (zs0 (ztp e) (z ▸ hge)) (zte _)
 have old : ∀ b, b ≠ P -> b ≠ c' -> upd (upd H P (.tbl (ps ++ #[rawInt lpos.line, rawInt lpos.col, .ref c']))) c' (.own P) b = H b := fun b h1 h2 => by rw [zal h2, zal h1]
 have oldS : ∀ b o, H b = some o -> b ≠ P -> upd (upd H P (.tbl (ps ++ #[rawInt lpos.line, rawInt lpos.col, .ref c']))) c' (.own P) b = some o := fun b o e h1 => by
   rw [old b h1 (zak e hc)]; exact e
 obtain ⟨eP, tP, cP⟩ := I.hok P _ hT
 refine I.step (h' := h') (g' := s.gens) (d' := s.drawn) (ch := []) (fun _ z => nomatch z) (fun b o _ _ _ e n => hx b o (neP b n) e) (fun b o _ _ _ e n => ⟨o.slots, hx b o (neP b n) e⟩) (fun b o _ e n => by rw [old b (neP b n) (neC b o e)]; exact n) (fun b o _ e => ?_)
   (fun b xs q => oldS b _ q fun z => by rw [z, hT] at q; cases q) (fun b o u q => oldS b _ q fun z => by rw [z, hT] at q; cases q) (fun b qs e => ?_) (fun m hm => hm.extBut hx (neP _ I.free)) (fun b o e => ?_) I.bare
 . by_cases hb : b = P
   . subst hb; exact ⟨_, hP⟩
   . exact ⟨o, hx b o hb e⟩
 . by_cases hb : b = P
   . subst hb
     rw [hT] at e; cases e
     exact ⟨_, by rw [zal hPc, zam]⟩
   . exact ⟨#[], by rw [oldS b _ e hb]; simp⟩
 . obtain ⟨c2, oc, vs, t, ec, hoc, hod, hv⟩ := hrec
   cases ec
   by_cases h1 : b = c'
   . subst h1
     rw [zam] at e; cases e
     exact ⟨_, hoc⟩
   . rw [zal h1] at e
     by_cases h2 : b = P
     . subst h2
       rw [zam] at e; cases e
       refine ⟨hP, by rw [Array.toList_append]; exact TriplesOk_snoc _ _ _ _ tP, fun pos cv q => ?_⟩
       rw [Array.toList_append] at q
       rcases zhO _ tP q with q | q
       . obtain ⟨c3, q3, oc3, vs3, t3, e1, e2, e3, e4⟩ := cP pos cv q
         have n3 : c3 ≠ b := fun z => by rw [z, hT] at e2; cases e2
         exact ⟨c3, q3, oc3, vs3, t3, e1, oldS _ _ e2 n3, hx _ _ n3 e3, e4⟩
       . exact ⟨c', _, oc, vs, t, q, zam, hoc, hod, hv⟩
     . rw [zal h2] at e
       refine (I.hok b o e).stay (fun x u hxb g => hx x u ?_ g) (fun x g => oldS x _ g fun z => by rw [z, hT] at g; cases g) fun x xs g => oldS x _ g fun z => by rw [z, hT] at g; cases g
       rcases hxb with z | z
       . rw [z]; exact h2
       . intro y; rw [y, hT] at z; cases z
end
section
variable {X : Cx} {pins : List (Addr × Obj)} {σ : L2.St} {H : Hp} {s : Shared} {params : Arguments} {body : Expr} {scope : Scope} {lpos : Pos} {clos : List (Str × Addr)} {c P : Addr} {ps : Array Value} {R : Value -> Shared -> Prop}
structure Made (X : Cx) (pins : List (Addr × Obj)) (σ : L2.St) (H : Hp) (s : Shared) (params : Arguments) (body : Expr) (scope : Scope) (clos : List (Str × Addr)) (P : Addr) (lpos : Pos) (a : Addr) (s' : Shared) (H' : Hp) : Prop where
 inv : Inv X pins σ H' s'
 same : SameT H H'
 keep : ∀ b o, s.heap.get? b = some o -> H b = none -> s'.heap.get? b = some o /\ H' b = none
 no : H' a = none
 new : s.heap.objs.size <= a
 obj : ∃ pm cdv ctv, s'.heap.get? a = some { cls := .type "function", data := .func (kla_fn "<lambda>" (X.env.qual ++ "<lambda>") params body scope clos pm cdv ctv) } /\ ∃ ps, H' P = some (.tbl ps) /\ codeAmong lpos ps.toList = some cdv
theorem zkk (I : Inv X pins σ H s) (hT : H P = some (.tbl ps)) (hcode : X.env.code = .ref c) (C : CodeHd X.base c P) (B : BM X.base X.mg) (hcl : closureFor scope X.env = pure clos) (hdef : defaultsOf params X.env = ([], []))
   (h : ∀ a s' H', Made X pins σ H s params body scope clos P lpos a s' H' -> R (.ref a) s') : wpAny (model X.prog X.w) X.A (eval (.Lambda params body scope lpos) X.env) R X.xe s := by
 refine kla_eval hdef ?_
 obtain ⟨eP, tP, cP⟩ := I.hok P _ hT
 have hg : s.heap.Ns mainGlobals X.mg := I.mod.glob.keeps I.bk
 have hgP : mainGlobals ≠ P := fun z => by
   obtain ⟨o, es, ep, e, hd, _⟩ := I.mod.glob
   have := (I.bs _ _ e).2
   rw [z, hT] at this; cases this
 obtain ⟨bm, ob, b1, b2, b3, b4, b5, b6⟩ := B
 have hbP : bm ≠ P := fun z => by
   have := (I.bs _ _ b3).2
   rw [z, hT] at this; cases this
 have hbG : bm ≠ mainGlobals := fun z => by
   obtain ⟨o, es, ep, e, hd, _⟩ := I.mod.glob
   rw [z, e] at b3; cases b3; rw [hd] at b6; cases b6
 have hb : s.heap.BuiltinsAt X.mg P := ⟨bm, ob, b1, b2, hbG, hbP, I.bk _ _ b3, b4, b5, b6⟩
 have fnew : ∀ {h' : Heap} {o : Obj} {b : Addr}, H b = none -> True := fun _ => trivial
 cases hn : codeAmong lpos ps.toList with
 | none =>
   refine kla_makeFunction (mg := X.mg) hcl I.ok.glob hg hcode (C.keeps I.bk) eP tP hn hgP hb fun c' ctv h' tk hx hge hlt hrec htb => ?_
   have I1 := ziR I (t' := tk) hT hx hge hrec htb
   have I2 := zgW I1 (h' := h'.push (kla_obj "<lambda>" (X.env.qual ++ "<lambda>") params body scope clos ((X.mg "__name__").getD .none) c' ctv)) (t' := tk) fun b o e => zs1 _ e
   have hc : H c' = none := I.hok.fresh hge
   refine h h'.objs.size _ _ ⟨I2, fun b o e ne => ?_, fun b o e n => ⟨zs1 _ (hx b o (fun z => by rw [z, hT] at n; cases n) e), ?_⟩, ?_, ?_, ?_⟩
   . rw [zal (zak e hc), zal (fun z => ne ps (by rw [z, hT] at e; cases e; rfl))]; exact e
   . have hlt' := ztp e
     rw [zal (ztA (zs0 hlt' hge)), zal (fun z => by rw [z, hT] at n; cases n)]; exact n
   . rw [zal (Nat.ne_of_gt hlt), zal (fun z => by
       have := ztp htb
       rw [<- z] at this; exact absurd this (zte _))]
     refine I.hok.fresh (Nat.le_of_lt (ztl hge hlt))
   . exact Nat.le_of_lt (ztl hge hlt)
   . exact ⟨_, _, ctv, ztk _ rfl, _, by rw [zal (zak hT hc), zam], by rw [Array.toList_append]; exact codeAmong_snoc _ tP hn⟩
 | some cv =>
   obtain ⟨c', q, oc, vs, t, rfl, e2, e3, e4, e5⟩ := cP lpos cv hn
   refine kla_makeFunctionHit (mg := X.mg) hcl I.ok.glob hg hcode (C.keeps I.bk) eP tP hn hb fun ctv h' tk hk hsz => ?_
   have I2 := zgW I (h' := h'.push { cls := .type "function", data := .func (kla_fn "<lambda>" (X.env.qual ++ "<lambda>") params body scope clos ((X.mg "__name__").getD .none) (.ref c') ctv) }) (t' := tk) fun b o e => zs1 _ (hk b o e)
   refine h h'.objs.size _ _ ⟨I2, fun b o e _ => e, fun b o e n => ⟨zs1 _ (hk b o e), n⟩, I.hok.fresh hsz, hsz, ?_⟩
   exact ⟨_, _, ctv, ztk _ rfl, ps, hT, hn⟩
end
end MX
end
section
namespace MX
open PySem PySem.Spec PySem.W PyProof.Rows L2
def zq0 (env : Env) (y : Str × NameKind) : Option (Str × Addr) := if (y.2 == NameKind.free) = true then (env.cells.lookup y.1).map fun c => (y.1, c) else none
def zqH (env : Env) (names : List (Str × NameKind)) : List (Str × Addr) := (names.filterMap (zq0 env)).reverse
theorem zfe {env : Env} : ∀ (names : List (Str × NameKind)) (acc : List (Str × Addr)), (∀ y ∈ names, y.2 = .free -> ∃ c, env.cells.lookup y.1 = some c) ->
   (forIn names acc (fun (x : Str × NameKind) (cs : List (Str × Addr)) => do if (x.2 == NameKind.free) = true then let c <- cellOf env x.1; pure (ForInStep.yield ((x.1, c) :: cs)) else pure (ForInStep.yield cs)) : Sem (List (Str × Addr)))
     = pure (zqH env names ++ acc)
 | [], acc, _ => by simp [zqH]
 | y :: r, acc, h => by
   have ih := zfe (env := env) r
   rw [List.forIn_cons]
   unfold zqH at *
   rw [List.filterMap_cons]
   by_cases hk : (y.2 == NameKind.free) = true
   . obtain ⟨c, hc⟩ := h y (zsZ ..) (by simpa using hk)
     have hcell : cellOf env y.1 = pure c := by unfold cellOf; rw [hc]
     have hG : zq0 env y = some (y.1, c) := by unfold zq0; rw [if_pos hk, hc]; rfl
     simp only [if_pos hk, hcell, pure_bind]
     rw [ih _ (fun z hz => h z (zsY _ hz)), hG]
     simp
   . have hG : zq0 env y = none := by unfold zq0; rw [if_neg hk]
     simp only [if_neg hk, pure_bind]
     rw [ih _ (fun z hz => h z (zsY _ hz)), hG]
theorem zhG {env : Env} {scope : Scope} (h : ∀ y ∈ scope.names, y.2 = .free -> ∃ c, env.cells.lookup y.1 = some c) :
   closureFor scope env = pure (zqH env scope.names) := by
 unfold closureFor
 have := zfe (env := env) scope.names [] h
 rw [List.append_nil] at this
 simpa using this
theorem zhL {env : Env} {y : Str × NameKind} {q : Str × Addr} (e : zq0 env y = some q) : y.2 = .free /\ q.1 = y.1 /\ env.cells.lookup y.1 = some q.2 := by
 unfold zq0 at e
 split at e
 . rename_i hk
   simp only [oMs] at e
   obtain ⟨c, h1, rfl⟩ := e
   exact ⟨by simpa using hk, rfl, h1⟩
 . cases e
theorem zfR {env : Env} {names : List (Str × NameKind)} {q : Str × Addr} : q ∈ zqH env names ↔ ∃ y ∈ names, zq0 env y = some q := by
 unfold zqH
 rw [List.mem_reverse, List.mem_filterMap]
theorem zhC {α : Type} {l : List (Str × α)} {x : Str} {v : α} (h : (x, v) ∈ l) : ∃ u, l.lookup x = some u := by
 induction l with
 | nil => cases h
 | cons q r ih =>
   obtain ⟨k, w⟩ := q
   by_cases hk : x = k
   . subst hk; exact ⟨w, by simp [List.lookup]⟩
   . rcases List.mem_cons.mp h with e | e
     . cases e; exact absurd rfl hk
     . obtain ⟨u, hu⟩ := ih e
       refine ⟨u, ?_⟩
       rw [ztI]
       have : (x == k) = false := by simpa using hk
       rw [this]; exact hu
theorem zbu {env : Env} {names : List (Str × NameKind)} {x : Str} {c : Addr} (h : (zqH env names).lookup x = some c) : env.cells.lookup x = some c /\ (x, NameKind.free) ∈ names := by
 obtain ⟨y, hy, e⟩ := zfR.mp (zs4 h)
 obtain ⟨h1, h2, h3⟩ := zhL e
 obtain ⟨y1, y2⟩ := y
 simp only at h1 h2 h3
 subst h1 h2
 exact ⟨h3, hy⟩
theorem zfS {env : Env} {names : List (Str × NameKind)} {x : Str} {c : Addr} (h : (x, NameKind.free) ∈ names) (hc : env.cells.lookup x = some c) : (zqH env names).lookup x = some c := by
 have : (x, c) ∈ zqH env names := zfR.mpr ⟨_, h, by unfold zq0; simp [hc]⟩
 obtain ⟨u, hu⟩ := zhC this
 have := (zbu hu).1
 rw [hc] at this
 rw [hu, <- this]
def zqs (h : Heap) (H : Hp) (l : List Env) : Heap := hideAll h (trk h H ++ frs l)
theorem zd2 {h : Heap} {H : Hp} {l : List Env} {b : Addr} {o : Obj} (e : h.get? b = some o) (n : H b = none) (hf : b ∉ frs l) : (zqs h H l).get? b = some o :=
 hideAll_get _ e fun hm => by
   rcases ztf.mp hm with z | z
   . have q : (H b).isSome = true := (List.mem_filter.mp z).2
     rw [n] at q; simp at q
   . exact hf z
theorem zir {h : Heap} {H : Hp} {l : List Env} {b : Addr} {o : Obj} (e : (zqs h H l).get? b = some o) : h.get? b = some o /\ H b = none := by
 have e' : h.get? b = some o := of_hideAll _ e
 refine ⟨e', ?_⟩
 cases q : H b with
 | none => rfl
 | some x =>
   have hm : b ∈ trk h H ++ frs l := List.mem_append_left _ (List.mem_filter.mpr ⟨List.mem_range.mpr (ztp e'), by simp [q]⟩)
   have z : (zqs h H l).get? b = none := hideAll_none _ hm
   rw [z] at e; cases e
theorem zeN {h base base' : Heap} : ∀ {l : List Env}, h.FunFrames base l -> (∀ b ∈ frs l, base'.get? b = none) -> h.FunFrames base' l
 | [], _, _ => trivial
 | env :: r, hl, hb => by
   obtain ⟨h1, ⟨L, o, h2, _, h3, h4⟩, h5⟩ := hl
   refine ⟨h1, ⟨L, o, h2, hb L ?_, h3, h4⟩, zeN h5 fun b q => hb b ?_⟩
   . unfold frs; rw [List.filterMap_cons, h2]; exact zsZ ..
   . unfold frs at *; rw [List.filterMap_cons, h2]; exact zsY _ q
theorem ziz {K : PySem.W.Frag} {mg : Str -> Option Value} {base base' : Heap} (M : Mod K mg base) (k : ∀ b o, base.get? b = some o -> base'.get? b = some o) : Mod K mg base' :=
 ⟨M.kin.keeps k, M.glob.keeps k, let ⟨mb, h1, h2⟩ := M.blt; ⟨mb, h1.keeps k, h2⟩, M.nolimit.keeps k⟩
theorem zjo {X : Cx} {pins : List (Addr × Obj)} {σ : L2.St} {H : Hp} {s : Shared} (I : Inv X pins σ H s) : zsV X.prog X.w X.K X.mg (zqs s.heap H X.stack) X.A X.stack s H /\ ∀ b o, X.base.get? b = some o -> (zqs s.heap H X.stack).get? b = some o := by
 have kb : ∀ b o, X.base.get? b = some o -> (zqs s.heap H X.stack).get? b = some o := fun b o e =>
   zd2 (I.bs b o e).1 (I.bs b o e).2 fun z => by
     have := (I.stack.mem z).1
     rw [e] at this; cases this
 refine ⟨⟨I.ok.frames, ziz I.mod kb, fun b o e => zir e, by unfold zqs; rw [hideAll_size]; exact ztq _, zeN I.stack fun b hb => hideAll_none _ (List.mem_append_right _ hb), I.stkFree, I.hok, I.bare⟩, kb⟩
structure Clo (base : Heap) (qual : Str) (params : Arguments) (body : Expr) (scope : Scope) (clos : List (Str × Addr)) (cap : List Str) (cvs : List V) (a : Addr) (cdv : Value) : Prop where
 obj : ∃ pm ctv, base.get? a = some { cls := .type "function", data := .func (kla_fn "<lambda>" (qual ++ "<lambda>") params body scope clos pm cdv ctv) }
 has : ∀ y, (y, NameKind.free) ∈ scope.names -> ∃ c, clos.lookup y = some c
 inj : ∀ y z c, clos.lookup y = some c -> clos.lookup z = some c -> y = z
 cells : ∀ y c, clos.lookup y = some c -> ∃ v, base.IsCell c v
 cap : ∀ (i : Nat) y v, cap[i]? = some y -> cvs[i]? = some v -> (y, NameKind.free) ∈ scope.names /\ ∃ c u, clos.lookup y = some c /\ base.IsCell c (some u) /\ RelV v u
section
variable {X : Cx} {x : Str} {p pos : Pos} {e : Expr} {te : TE} {params : Arguments} {body : Expr} {scope : Scope} {lpos : Pos} {f : Addr} {fd : FuncData} {k : Nat} {p1 p2 : Str} {P c : Addr} {SPf : Addr -> Value -> List V -> Sp} {cap : List Str}
end
end MX
end
section
namespace MX
open PySem PySem.Spec PySem.W PyProof.Rows L2
section
variable {K : PySem.W.Frag} {H H' : Hp} {α : List Addr}
theorem SameT.ext (t : SameT H H') : Ext K H α H' α := ⟨fun a vs h => by
 rcases h with (h | ⟨o, h⟩) | h
 . exact .inl (.inl (t _ _ h fun _ z => by cases z))
 . exact .inl (.inr ⟨o, t _ _ h fun _ z => by cases z⟩)
 . exact .inr h, fun _ _ q => q⟩
theorem SameT.store {S : So} (t : SameT H H') (s : StoreR K H α S) : StoreR K H' α S := ⟨s.len, s.nd, fun n o a h1 h2 => by
 have ob := s.obj n o a h1 h2
 cases o with
 | lst ds => obtain ⟨vs, e, r⟩ := ob; exact ⟨vs, t _ _ e (fun _ z => by cases z), r.mono t.ext⟩
 | frz ds =>
   obtain ⟨vs, e, r⟩ := ob
   refine ⟨vs, ?_, r.mono t.ext⟩
   rcases e with ⟨ob, e⟩ | e
   . exact .inl ⟨ob, t _ _ e fun _ z => by cases z⟩
   . exact .inr e
 | ins C fs => obtain ⟨dx, gs, e, h, r⟩ := ob; exact ⟨dx, gs, t _ _ e (fun _ z => by cases z), h, r.mono t.ext⟩
 | dct xs => obtain ⟨ys, e, r⟩ := ob; exact ⟨ys, t _ _ e (fun _ z => by cases z), r.mono (SameT.ext (α := α) t).tups⟩⟩
end
def eCL (i : Nat) (a : Addr) (ψ : GN) (fs : AF) : EF := fun σ S => match σ[i]? with
 | some (some (.adr b)) => if b = a then (fs σ S).bind fun r => zpG 1 ψ r.1 r.2 else none
 | _ => none
section
variable {X : Cx} {x : Str} {p pos : Pos} {e : Expr} {es : List Expr} {fs : AF}
end
def capD : List Nat -> Sg -> Option (List D)
 | [], _ => some []
 | j :: r, σ => match σ[j]? with
   | some (some d) => (capD r σ).map fun ds => d :: ds
   | _ => none
theorem zhd {K : PySem.W.Frag} {H : Hp} {α : List Addr} {σd : Sg} {σ : L2.St} (hv : VarsR K H α σd σ) : ∀ {src : List Nat} {cds : List D}, capD src σd = some cds -> ∃ cvs : List V, Reps K H α cds cvs /\ src.length = cvs.length /\ ∀ (i j : Nat), src[i]? = some j -> ∃ v, σ[j]? = some (some v) /\ cvs[i]? = some v
 | [], cds, e => by cases e; exact ⟨[], .nil, rfl, fun i j h => by simp at h⟩
 | j :: r, cds, e => by
   unfold capD at e
   split at e
   . rename_i d ed
     simp only [oMs] at e
     obtain ⟨ds, e1, rfl⟩ := e
     obtain ⟨cvs, h1, h2, h3⟩ := zhd hv e1
     obtain ⟨v, k1, k2⟩ := hv.2 j d ed
     refine ⟨v :: cvs, .cons k2 h1, by simp [h2], fun i j' hi => ?_⟩
     cases i with
     | zero => simp at hi; subst hi; exact ⟨v, k1, rfl⟩
     | succ i => simpa using h3 i j' (by simpa using hi)
   . cases e
structure zsT (X : Cx) (P c : Addr) : Prop where
 fn : ∀ y, X.fn y = true
 tab : ∃ ps, X.H₀ P = some (.tbl ps)
 code : X.env.code = .ref c
 hd : CodeHd X.base c P
 bm : BM X.base X.mg
section
variable {X : Cx} {x : Str} {p pos lpos : Pos} {e : Expr} {fe fb : EF} {params : Arguments} {body : Expr} {scope : Scope} {q : Str} {cap : List Str} {src : List Nat} {G : Addr -> GN -> GN} {f : Addr} {fd : FuncData} {p1 p2 : Str} {k : Nat} {Pt ct : Addr}
end
end MX
end
section
namespace MX
open PySem PySem.Spec PySem.W PyProof.Rows L2
theorem znZ {P : Program} {w : World} {H : Hp} {h : Heap} {a : Addr} {o : HO} (x : ObjOk P w H h a o) : ∃ ob, h.get? a = some ob := by
 cases o with
 | lst xs => obtain ⟨_, _, _, _, e⟩ := x; exact ⟨_, e⟩
 | tup xs => obtain ⟨_, _, _, ob, e, _⟩ := x; exact ⟨_, e⟩
 | dK kvs => obtain ⟨_, _, _, _, o, _, _, e, _⟩ := x; exact ⟨_, e⟩
 | dT kvs => obtain ⟨_, _, _, _, o, _, _, e, _⟩ := x; exact ⟨_, e⟩
 | set S n => obtain ⟨o, _, _, _, e, _⟩ := x; exact ⟨_, e⟩
 | ins C dx fs => obtain ⟨_, _, _, e, _⟩ := x; exact ⟨_, e⟩
 | own y => exact x
 | xd fs => obtain ⟨_, ⟨_, _, _, e, _⟩, _⟩ := x; exact ⟨_, e⟩
 | rng lo hi => obtain ⟨_, _, _, e⟩ := x; exact ⟨_, e⟩
 | frz ob u => exact ⟨_, x.1⟩
 | tbl ps => exact ⟨_, x.1⟩
 | met f y => exact ⟨_, x⟩
 | ext φ => exact x.2.1
structure FlyX (P : Program) (w : World) (l : List Env) (H : Hp) (s : Shared) (a C : Addr) (B : Heap) (H' : Hp) (s' : Shared) : Prop where
 os : s'.os = s.os
 bare : AllBare s'.gens
 un : Un (frs l) [] H H' s.heap s'.heap
 hok : HOk P w H' s'.heap
 fl : ∃ t, Heap.FlyingW B l a (.ref C) (.ref t) s'.heap
 tr : ∀ b u, H' b = some u -> ∃ o, B.get? b = some o
 inB : ∀ b o, s.heap.get? b = some o -> b ∉ frs l -> ∃ o', B.get? b = some o'
def CXx (P : Program) (w : World) : CXT := fun l H s E e s' => ∃ (a C : Addr) (B : Heap) (H' : Hp), e = .ref a /\ FlyX P w l H s a C B H' s' /\ E (.ref C) none H'
theorem zol {P : Program} {w : World} {H : Hp} {h h' B : Heap} (ok : HOk P w H h) (k : B.StaysIn h) (k' : B.StaysIn h') (tr : ∀ b u, H b = some u -> ∃ o, B.get? b = some o) : HOk P w H h' := fun b o e =>
 (ok b o e).stay (fun c u hc q => by
   have : ∃ v, H c = some v := by
     rcases hc with rfl | hc
     . exact ⟨_, e⟩
     . exact ⟨_, hc⟩
   obtain ⟨v, hv⟩ := this
   obtain ⟨o', ho⟩ := tr c v hv
   have := k _ _ ho
   rw [q] at this; cases this
   exact k' _ _ ho) (fun _ q => q) fun _ _ q => q
section
variable {X : Cx} {pins : List (Addr × Obj)} {σ : L2.St} {H : Hp} {s : Shared} {M : Model} {A : Around} {E : XK} {R : Unit -> Shared -> Prop} {E₂ : Value -> Shared -> Prop}
theorem zg0 {env : Env} {l : List Env} {L : Addr} (h : env.frame = some L) : frs (env :: l) = L :: frs l := by unfold frs; rw [List.filterMap_cons, h]
theorem ziZ (I : Inv X pins σ H s) (hex : X.ex = []) {a C : Addr} {B : Heap} {H' : Hp} {h₂ : Heap} {h' : Heap} {s₂ : Shared} (hos : s₂.os = s.os) (hb : AllBare s₂.gens) (hu : Un (X.env.locals :: X.fs) [] H H' s.heap h₂) (hok : HOk X.prog X.w H' h₂) (hB : B.StaysIn h₂)
   (tr : ∀ b u, H' b = some u -> ∃ o, B.get? b = some o) (inB : ∀ b o, s.heap.get? b = some o -> b ∉ X.env.locals :: X.fs -> ∃ o', B.get? b = some o')
   (fl : ∃ t, Heap.FlyingW B X.outer a (.ref C) (.ref t) h') (up : h₂.UpToSlots h') : FlyX X.prog X.w X.outer X.H₀ X.s₀ a C B H' { s₂ with heap := h' } := by
 have fl' := fl
 obtain ⟨t, f1, f2, f3, f4⟩ := fl
 have hx : ∀ b : Addr, b ∉ X.ex := fun b => by rw [hex]; simp
 have hl : ∀ b o, X.s₀.heap.get? b = some o -> b ≠ X.env.locals := fun b o e z => absurd (zs0 (ztp e) (z ▸ I.ok.above)) (zte _)
 have nb : ∀ b : Addr, b ∉ ([] : List Addr) := fun b => by simp
 have keep : ∀ b o, X.s₀.heap.get? b = some o -> X.H₀ b = none -> b ∉ X.fs -> h'.get? b = some o := fun b o e n hf => by
   have e1 := I.base.keep b o e n hf (hx b)
   have n1 := I.base.free b o e n (hx b)
   have hm : b ∉ X.env.locals :: X.fs := by simp [hl b o e, hf]
   have e2 := hu.keep b o e1 n1 hm (nb b)
   obtain ⟨o', e3⟩ := inB b o e1 hm
   have := hB _ _ e3
   rw [e2] at this; cases this
   exact f1 _ _ e3
 have slot : ∀ b o, X.s₀.heap.get? b = some o -> X.H₀ b = none -> b ∈ X.fs -> ∃ sl, h'.get? b = some { o with slots := sl } := fun b o e n hf => by
   obtain ⟨sl, e1⟩ := I.base.slot b o e n hf (hx b)
   have n1 := I.base.free b o e n (hx b)
   obtain ⟨sl2, e2⟩ := hu.slot b _ e1 n1 (zsY _ hf) (nb b)
   obtain ⟨_, o', e3, nf⟩ := I.ok.funs.mem hf
   rw [e] at e3; cases e3
   obtain ⟨sl3, e4⟩ := up b _ e2 nf
   exact ⟨sl3, e4⟩
 refine ⟨hos.trans I.os, hb, ⟨fun b o e n hf _ => keep b o e n hf, fun b o e n hf _ => slot b o e n hf, fun b o e n _ => ?_, fun b o e _ => ?_, fun b xs q => hu.tups b xs (I.base.tups b xs q), fun b o u q => hu.frzs b o u (I.base.frzs b o u q), fun b ps q => ?_⟩, zol hok hB f1 tr, fl', tr, fun b o e hf => ?_⟩
 . obtain ⟨o1, e1⟩ := I.base.there b o e (hx b)
   exact hu.free b o1 e1 (I.base.free b o e n (hx b)) (nb b)
 . by_cases hf : b ∈ X.fs
   . exact let ⟨sl, e1⟩ := slot b o e (I.ok.frf b hf) hf; ⟨_, e1⟩
   . obtain ⟨o1, e1⟩ := I.base.there b o e (hx b)
     obtain ⟨o2, e2⟩ := inB b o1 e1 (by simp [hl b o e, hf])
     exact ⟨o2, f1 _ _ e2⟩
 . obtain ⟨m1, e1⟩ := I.base.tbls b ps q
   obtain ⟨m2, e2⟩ := hu.tbls b _ e1
   exact ⟨m1 ++ m2, by rw [e2, Array.append_assoc]⟩
 . obtain ⟨o1, e1⟩ := I.base.there b o e (hx b)
   exact inB b o1 e1 (by simp [hl b o e]; exact hf)
theorem zgS (I : Inv X pins σ H s) (hex : X.ex = []) (hst : X.stack = X.env :: X.outer) (hfr : X.env.frame = some X.env.locals) (hA : A.frames = some X.stack) {h₂ : Heap} {e C : Addr} {args : List Value} (hm : Heap.MadeExcOf s.heap h₂ e (.ref C) args)
   (k : ∀ B h', FlyX X.prog X.w X.outer X.H₀ X.s₀ e C B H { s with heap := h' } -> R () { s with heap := h' }) : wpAny M A (leaving X.env (.ref e)) R E₂ { s with heap := h₂ } := by
 have hfs : frs X.stack = X.env.locals :: X.fs := by rw [hst, zg0 hfr]
 have hin : ∀ env ∈ X.stack, ∀ b, env.frame = some b -> b ∈ frs X.stack := fun env he b hb => List.mem_filterMap.mpr ⟨env, he, hb⟩
 have fr := funFrames_hide I.stack hin
 rw [hst] at fr hA
 refine wpAny_leaves_madeW (s := { s with heap := h₂ }) hA hfr (fun b o q => of_hideAll _ q) fr hm fun h' t x1 x2 x3 x4 => k (hideAll s.heap (frs (X.env :: X.outer))) h' ?_
 refine ziZ (s₂ := s) I hex rfl I.bare Un.refl I.hok (fun b o q => of_hideAll _ q) (fun b u q => ?_) (fun b o q hf => ?_) ⟨t, x1⟩ ((Heap.UpToSlots.of_keeps hm.keeps).trans x4)
 . obtain ⟨o, ho⟩ := znZ (I.hok b u q)
   refine ⟨o, hideAll_get _ ho fun z => ?_⟩
   have := I.stkFree b (by rw [hst]; exact z)
   rw [q] at this; cases this
 . refine ⟨o, hideAll_get _ q fun z => hf ?_⟩
   rw [<- hfs, hst]; exact z
theorem zgQ (I : Inv X pins σ H s) (hex : X.ex = []) (hst : X.stack = X.env :: X.outer) (hfr : X.env.frame = some X.env.locals) (hA : A.frames = some X.stack) {s' : Shared} {a C : Addr} {B : Heap} {H' : Hp} (F : FlyX X.prog X.w X.stack H s a C B H' s')
   (k : ∀ h', FlyX X.prog X.w X.outer X.H₀ X.s₀ a C B H' { s' with heap := h' } -> R () { s' with heap := h' }) : wpAny M A (leaving X.env (.ref a)) R E₂ s' := by
 have hfs : frs X.stack = X.env.locals :: X.fs := by rw [hst, zg0 hfr]
 obtain ⟨t, fl⟩ := F.fl
 rw [hst] at fl hA
 refine wpAny_leaves_onW hA hfr fl fun h' x1 x2 => k h' ?_
 refine ziZ (s₂ := s') I hex F.os F.bare (by rw [<- hfs]; exact F.un) F.hok fl.1 F.tr (by rw [<- hfs]; exact F.inB) ⟨t, x1⟩ x2
structure zsS (X : Cx) (E : XK) : Prop where
 made : ∀ (pins : List (Addr × Obj)) (σ : L2.St) (H : Hp) (s : Shared) (h₂ : Heap) (e C : Addr) (args : List Value), Inv X pins σ H s -> Heap.MadeExcOf s.heap h₂ e (.ref C) args -> E (.ref C) none H -> X.xe (.ref e) { s with heap := h₂ }
 pass : zrn (CXx X.prog X.w) X E
end
theorem zk2 {P : Program} {w : World} {K : PySem.W.Frag} {mg : Str -> Option Value} {base : Heap} {N : List Str} {qual : Str} {scope : Scope} {f : Addr} {cd : Value} {A : Around} {outer : List Env} {s : Shared} {H : Hp} {E : XK} :
   zsS (zri (CXx P w) P w K mg base N qual scope f cd A outer s H E) E := by
 refine ⟨fun pins σ H1 s1 h₂ e C args I hm he => ?_, fun pins σ H1 s1 e s2 I h => ?_⟩
 . exact zgS I rfl rfl rfl I.ok.frames hm fun B h' F => ⟨e, C, B, H1, rfl, F, he⟩
 . obtain ⟨a, C, B, H', rfl, F, he⟩ := h
   exact zgQ I rfl rfl rfl I.ok.frames F fun h' F' => ⟨a, C, B, H', rfl, F', he⟩
abbrev cxLx (P : Program) (w : World) (K : PySem.W.Frag) (mg : Str -> Option Value) (base : Heap) (N : List Str) (qual : Str) (scope : Scope) (f : Addr) (cd : Value) (cl : List (Str × Addr)) (A : Around) (outer : List Env) (s : Shared) (H : Hp) (E : XK) : Cx :=
 (cxL P w K mg base N qual scope f cd cl A outer s H E).wish fun e s' => wpAny (model P w) (A.deeper (envX qual scope s.heap.objs.size f cd cl)) (leaving (envX qual scope s.heap.objs.size f cd cl) e) (fun _ s'' => CXx P w outer H s E e s'') (fun e' s'' => CXx P w outer H s E e' s'') s'
theorem zmV {P : Program} {w : World} {K : PySem.W.Frag} {mg : Str -> Option Value} {base : Heap} {N : List Str} {qual : Str} {scope : Scope} {f : Addr} {cd : Value} {cl : List (Str × Addr)} {A : Around} {outer : List Env} {s : Shared} {H : Hp} {E : XK} :
   zsS (cxLx P w K mg base N qual scope f cd cl A outer s H E) E := by
 refine ⟨fun pins σ H1 s1 h₂ e C args I hm he => ?_, fun pins σ H1 s1 e s2 I h => ?_⟩
 . exact zgS I rfl rfl rfl I.ok.frames hm fun B h' F => ⟨e, C, B, H1, rfl, F, he⟩
 . obtain ⟨a, C, B, H', rfl, F, he⟩ := h
   exact zgQ I rfl rfl rfl I.ok.frames F fun h' F' => ⟨a, C, B, H', rfl, F', he⟩
end MX
end
section
namespace MX
open PySem PySem.Spec PyProof.Rows L2
structure Ctx where
 N : List Str
 names : List (Str × NameKind)
 sts : List Str
 fns : List (Str × Nat × GN)
 blt : List Str
 ext : Str -> List Expr -> Option EF := fun _ _ => none
def FnAt (P : Program) (w : World) (K : PySem.W.Frag) (mg : Str -> Option Value) (base : Heap) (k : Nat) (x : Str) (n : Nat) (φ : GN) : Prop :=
 ∃ f fd ps, mg x = some (.ref f) /\ PySem.W.keepIn K (.ref f) = true /\ Binds K fd ps [] /\ FnOk P w K mg base CX0 k f fd ps (spOf K n φ)
structure zpP (c : Ctx) (X : Cx) : Prop where
 N : X.N = c.N
 nd : c.N.Nodup
 names : X.env.scope.names = c.names
 kind : X.env.scope.kind = .function
 st : ∀ x ∈ c.sts, Loc X.env.scope x /\ (X.fn x = true \/ X.env.scope.names.lookup x = some .local)
 fns : ∀ x k φ, c.fns.lookup x = some (k, φ) -> zsU X x k φ
 blt : ∀ x ∈ c.blt, X.mg x = none
 calm : X.calm = true
 un : X.A.units + 64 < cLine
 ext : ∀ x es f p pos, c.ext x es = some f -> SE X (.Call (.Name x p) es [] pos) f
def zpY : List Str -> Str -> Option Nat
 | [], _ => none
 | y :: r, x => if y = x then some 0 else (zpY r x).map (· + 1)
theorem zbe : ∀ {N : List Str} {x : Str} {i : Nat}, zpY N x = some i -> N[i]? = some x
 | [], _, _, h => by cases h
 | y :: r, x, i, h => by
   unfold zpY at h
   split at h
   . rename_i e; cases h; rw [e]; rfl
   . simp only [oMs] at h
     obtain ⟨j, h1, rfl⟩ := h
     simpa using zbe h1
def zpW : Expr -> Bool
 | .Starred _ _ => false
 | _ => true
theorem zaD {e : Expr} (h : zpW e = true) (es : List Expr) (env : Env) : starEach (e :: es) env = (false, eval e env) :: starEach es env := by
 cases e with
 | Starred _ _ => cases h
 | _ => simp [starEach]
theorem zc6 {es : List Expr} (h : es.all zpW = true) (pos : Pos) (env : Env) : (backTo pos (starEach es env)).any (·.1) = false := by
 induction es with
 | nil => rfl
 | cons e r ih =>
   rw [ztr, zs5] at h
   rw [zaD h.1]
   show (false || (backTo pos (starEach r env)).any (·.1)) = false
   rw [ih h.2]; rfl
theorem zgJ {es : List Expr} (h : es.all zpW = true) (pos : Pos) (env : Env) : (backTo pos (starEach es env)).all (fun x => !x.1) = true := by
 induction es with
 | nil => rfl
 | cons e r ih =>
   rw [ztr, zs5] at h
   rw [zaD h.1]
   show (!false && (backTo pos (starEach r env)).all (fun x => !x.1)) = true
   rw [ih h.2]; rfl
def zp7 : Expr -> Bool
 | .Slice _ _ _ _ => false
 | _ => true
theorem zht {b : Expr} (h : zp7 b = true) : zrk b := by
 intro o i
 cases b with
 | Slice _ _ _ _ => cases h
 | _ => rfl
def zsk : Expr -> Bool
 | .Name _ _ => true
 | .Call _ _ _ _ => true
 | .Subscript _ _ _ => true
 | .Constant _ _ _ => true
 | .BinOp _ _ _ _ => true
 | .List _ _ => true
 | .Tuple _ _ _ => true
 | .Attribute _ _ _ => true
 | .ListComp _ _ _ _ => true
 | _ => false
theorem zie {a : Expr} (h : zsk a = true) (env : Env) (whole : Sem Value) : isTrue a env whole = (do let v <- whole; standAt a.pos; holding [v] (truthy v)) := by
 cases a with
 | Name _ _ => rfl
 | Call _ _ _ _ => rfl
 | Subscript _ _ _ => rfl
 | Constant _ _ _ => rfl
 | BinOp _ _ _ _ => rfl
 | List _ _ => rfl
 | Tuple _ _ _ => rfl
 | Attribute _ _ _ => rfl
 | ListComp _ _ _ _ => rfl
 | _ => cases h
def zq6 : Expr -> Bool
 | .Set _ _ _ => false
 | _ => true
theorem zfD {e : Expr} (h : zq6 e = true) (env : Env) (x : Value) : foldedSetIterable e env x = pure x := by
 cases e with
 | Set _ _ _ => cases h
 | _ => rfl
def zqd : Expr -> Bool
 | .ListComp _ _ _ _ => false
 | .SetComp _ _ _ _ => false
 | .DictComp _ _ _ _ _ => false
 | _ => true
theorem zbf {e : Expr} (h : zqd e = true) (t : Option Expr) (l : Nat) (env : Env) : swapsWith e t l env = pure false := by
 cases e with
 | ListComp _ _ _ _ => cases h
 | SetComp _ _ _ _ => cases h
 | DictComp _ _ _ _ _ => cases h
 | _ => rfl
def zrH : Expr -> Bool
 | .Tuple _ _ _ => false
 | _ => true
def isTup0 : Expr -> Bool
 | .Tuple _ _ _ => true
 | .List _ _ => true
 | _ => false
theorem zdV {t : Expr} (h : isTup0 t = false) (e : Expr) (env : Env) : swappedStores [t] e env = pure none := by
 cases t with
 | Tuple _ _ _ => cases h
 | List _ _ => cases h
 | _ => rfl
theorem zhv {e : Expr} (h : zrH e = true) (ts : List Expr) (k : Nat) (p : Pos) (env : Env) : swappedStores [.Tuple ts k p] e env = pure none := by
 cases e with
 | Tuple _ _ _ => cases h
 | _ => rfl
def btTy : List (Str × String) := [("int", "int"), ("bool", "bool"), ("str", "str"), ("tuple", "tuple"), ("list", "list")]
theorem zjB {x : Str} {T : String} (h : btTy.lookup x = some T) : bootBuiltins x = some (.type T) := by
 have hm := zs4 h
 unfold btTy at hm
 simp only [List.mem_cons, ztF, or_false, Prod.mk.injEq] at hm
 rcases hm with ⟨rfl, rfl⟩ | ⟨rfl, rfl⟩ | ⟨rfl, rfl⟩ | ⟨rfl, rfl⟩ | ⟨rfl, rfl⟩ <;> decide +kernel
def zpV (x : Str) : Bool := (x == ("__debug__" : Str)) || (x == ("__classdict__" : Str)) || (x == ("__name__" : Str))
theorem zsl {x : Str} (h : zpV x = false) : (x == ("__debug__" : Str)) = false := by
 unfold zpV at h; rw [Bool.or_eq_false_iff, Bool.or_eq_false_iff] at h; exact h.1.1
theorem odd2 {x : Str} (h : zpV x = false) : (x == ("__classdict__" : Str)) = false := by
 unfold zpV at h; rw [Bool.or_eq_false_iff, Bool.or_eq_false_iff] at h; exact h.1.2
theorem odd3 {x : Str} (h : zpV x = false) : x ≠ ("__name__" : Str) := by
 unfold zpV at h; rw [Bool.or_eq_false_iff] at h
 exact beq_eq_false_iff_ne.mp h.2
def nmE (c : Ctx) (x : Str) : Option EF := if zpV x = true then none else match c.names.lookup x with
 | some .local => (zpY c.N x).map zpA
 | some .cell => (zpY c.N x).map zpA
 | some .free => (zpY c.N x).map zpA
 | some .globalImplicit => if x ∈ c.blt then (btTy.lookup x).map fun T => eC (.ty T) else none
 | _ => none
def zsv : Const -> Option EF
 | .int i => some (eC (.int i))
 | .bool b => some (eC (.bl b))
 | .none => some (eC .non)
 | .str x => some (eC (.str x))
 | _ => none
section
variable {c : Ctx} {X : Cx}
theorem zhl {x : Str} {f : EF} {pos : Pos} (ok : zpP c X) (h : nmE c x = some f) : SE X (.Name x pos) f := by
 unfold nmE at h
 split at h
 . cases h
 . rename_i ho
   have ho' : zpV x = false := by simpa using ho
   have loc : ∀ (v : Vis X.env.scope x), (zpY c.N x).map zpA = some f -> SE X (.Name x pos) f := fun v e => by
     simp only [oMs] at e
     obtain ⟨i, e1, rfl⟩ := e
     exact znq (by rw [ok.N]; exact zbe e1) v (zsl ho') (odd2 ho')
   split at h
   . rename_i e; exact loc (.inl (by rw [ok.names]; exact e)) h
   . rename_i e; exact loc (.inr (.inl (by rw [ok.names]; exact e))) h
   . rename_i e; exact loc (.inr (.inr (by rw [ok.names]; exact e))) h
   . rename_i e
     split at h
     . rename_i hb
       simp only [oMs] at h
       obtain ⟨T, e1, rfl⟩ := h
       exact se_c (zim (show X.env.scope.names.lookup x = _ by rw [ok.names]; exact e) (ok.blt x hb) (zjB e1) (v := .ty T) rfl (odd3 ho') (zsl ho')) fun _ _ => .ty T
     . cases h
   . cases h
theorem zf6 {k : Const} {j : Nat} {f : EF} {pos : Pos} (h : zsv k = some f) : SE X (.Constant k j pos) f := by
 cases k with
 | int i => cases h; exact znz
 | bool b => cases h; exact zo8
 | none => cases h; exact znu
 | str x => cases h; exact zns
 | _ => cases h
end
def relN (cn names : List (Str × NameKind)) : List (Str × NameKind) := names.map fun (n, k) => if (k == NameKind.free && true && cn.lookup n == some .cell) then (n, NameKind.cell) else (n, k)
def zq5 (names : List (Str × NameKind)) : List Str := (names.filter fun y => (y.2 == .local || y.2 == .cell) && y.1 != (".0" : Str)).map (·.1)
def zq9 (c : Ctx) (names : List (Str × NameKind)) : List (Str × Nat) := names.filterMap fun y => if y.2 == NameKind.free then (zpY c.N y.1).map fun i => (y.1, i) else none
def zra (c : Ctx) (names : List (Str × NameKind)) : List Str := zq5 names ++ (zq9 c names).map (·.1)
def zqu (c : Ctx) (names : List (Str × NameKind)) : List (Option Nat) := (zq5 names).map (fun _ => none) ++ (zq9 c names).map fun p => some p.2
def zsb (c : Ctx) (names : List (Str × NameKind)) : Ctx := { N := zra c names, names := relN c.names names, sts := zq5 names, fns := c.fns, blt := c.blt }
def zrP (c : Ctx) (scope : Scope) : Bool := decide (scope.kind = .function) && scope.names.all (fun y => decide (scope.names.lookup y.1 = some y.2)) &&
 scope.names.all (fun y => decide (y.2 = .free -> (c.names.lookup y.1 = some .cell \/ c.names.lookup y.1 = some .free))) && decide (zra c scope.names).Nodup
section
variable {c : Ctx} {X : Cx} {scope : Scope}
theorem zkt {names : List (Str × NameKind)} {p : Str × Nat} (h : p ∈ zq9 c names) : (p.1, NameKind.free) ∈ names /\ zpY c.N p.1 = some p.2 := by
 unfold zq9 at h
 obtain ⟨y, hy, e⟩ := List.mem_filterMap.mp h
 split at e
 . rename_i hk
   simp only [oMs] at e
   obtain ⟨i, e1, rfl⟩ := e
   have : y.2 = NameKind.free := by simpa using hk
   refine ⟨?_, e1⟩
   rw [<- this]; exact hy
 . cases e
theorem zlS {names : List (Str × NameKind)} {x : Str} (h : x ∈ zq5 names) : (x, NameKind.local) ∈ names \/ (x, NameKind.cell) ∈ names := by
 unfold zq5 at h
 obtain ⟨y, hy, rfl⟩ := List.mem_map.mp h
 obtain ⟨h1, h2⟩ := List.mem_filter.mp hy
 rw [zs5, ztw] at h2
 obtain ⟨y1, y2⟩ := y
 rcases h2.1 with q | q
 . have : y2 = NameKind.local := by simpa using q
   subst this; exact .inl h1
 . have : y2 = NameKind.cell := by simpa using q
   subst this; exact .inr h1
theorem zmJ (ok : zpP c X) (h : zrP c scope = true) : zqt X scope (zra c scope.names) (zqu c scope.names) := by
 unfold zrP at h
 rw [zs5, zs5, zs5] at h
 obtain ⟨⟨⟨h1, h2⟩, h3⟩, h4⟩ := h
 rw [List.all_eq_true] at h2 h3
 have u : ∀ y ∈ scope.names, scope.names.lookup y.1 = some y.2 := fun y hy => of_decide_eq_true (h2 y hy)
 refine ⟨of_decide_eq_true h1, u, fun y hy e => ?_, by simp [zqu, zra], fun j i x e1 e2 => ?_⟩
 . have := of_decide_eq_true (h3 y hy) e
   show X.env.scope.names.lookup y.1 = _ \/ X.env.scope.names.lookup y.1 = _
   rw [ok.names]; exact this
 . unfold zra at e1
   unfold zqu at e2
   have hj : (zq5 scope.names).length <= j := by
     refine Nat.le_of_not_lt fun hlt => ?_
     rw [zti (by simpa using hlt), ztb] at e2
     cases q : (zq5 scope.names)[j]? with
     | none => rw [q] at e2; cases e2
     | some z => rw [q] at e2; cases e2
   rw [ztj (by simpa using hj), ztb, zs7] at e2
   rw [ztj hj, ztb] at e1
   cases q : (zq9 c scope.names)[j - (zq5 scope.names).length]? with
   | none => rw [q] at e2; cases e2
   | some p =>
     rw [q] at e1 e2
     simp only [ztv, Option.some.injEq] at e1 e2
     obtain ⟨m1, m2⟩ := zkt (List.mem_of_getElem? q)
     subst e1 e2
     exact ⟨by rw [ok.N]; exact zbe m2, u _ m1⟩
theorem zkD (ok : zpP c X) (h : zrP c scope = true) {Y : Cx} (hy : zqf X scope (zra c scope.names) Y) : zpP (zsb c scope.names) Y := by
 have h0 := h
 unfold zrP at h
 rw [zs5, zs5, zs5] at h
 obtain ⟨⟨⟨h1, h2⟩, h3⟩, h4⟩ := h
 rw [List.all_eq_true] at h2
 have u : ∀ y ∈ scope.names, scope.names.lookup y.1 = some y.2 := fun y hy => of_decide_eq_true (h2 y hy)
 have hn : Y.env.scope.names = relN c.names scope.names := by
   rw [hy.sc]
   show List.map _ scope.names = List.map _ scope.names
   refine List.map_congr_left fun y _ => ?_
   obtain ⟨n, k⟩ := y
   have e1 : (X.env.scope.kind == .function) = true := by rw [ok.kind]; rfl
   have e2 : X.env.kindOf n = c.names.lookup n := by show X.env.scope.names.lookup n = _; rw [ok.names]
   simp only [e1, e2]
 refine ⟨hy.N, of_decide_eq_true h4, hn, by rw [hy.sc]; exact of_decide_eq_true h1, fun x hx => ?_, fun x k φ e => ?_, fun x hx => by rw [hy.mg]; exact ok.blt x hx, hy.calm.trans ok.calm, by rw [hy.A]; exact ok.un, fun _ _ _ _ _ h => (nomatch h)⟩
 . have lk : ∀ k, k ≠ .free -> scope.names.lookup x = some k -> Y.env.scope.names.lookup x = some k := fun k hk e => by
     rw [hy.sc]
     show (List.map _ scope.names).lookup x = _
     rw [show (List.map _ scope.names).lookup x = _ from zb4, e]
     have hb : (k == NameKind.free) = false := by simpa using hk
     show some (if (k == NameKind.free && _ && _) = true then NameKind.cell else k) = some k
     rw [hb]
     rfl
   rcases zlS hx with m | m
   . have e := u _ m
     exact ⟨.inl (lk _ (by decide) e), .inr (lk _ (by decide) e)⟩
   . have e := u _ m
     exact ⟨.inr (lk _ (by decide) e), .inl (hy.fn x e)⟩
 . obtain ⟨f, fd, ps, kk, m1, m2, m3, m4, m5⟩ := ok.fns x k φ e
   refine ⟨f, fd, ps, kk, by rw [hy.mg]; exact m1, by rw [hy.K]; exact m2, by rw [hy.K]; exact m3, ?_, by rw [hy.A]; exact m5⟩
   rw [hy.prog, hy.w, hy.K, hy.mg, hy.base]
   exact m4
end
def zr7 (c : Ctx) : Expr -> Option GF
 | .Name x _ => if x ∈ c.sts then (zpY c.N x).map gNm else none
 | _ => none
def zr6 (c : Ctx) : List Expr -> Option GFs
 | [] => some zp3
 | e :: r => (zr7 c e).bind fun f => (zr6 c r).map fun fr => zpI f fr
def zro (c : Ctx) : Expr -> Option GF
 | .Name x p => zr7 c (.Name x p)
 | .Tuple es _ _ => (zr6 c es).map fun fr => gTp es.length fr
 | _ => none
section
variable {c : Ctx} {X : Cx}
theorem zeB (ok : zpP c X) {e : Expr} {f : GF} (h : zr7 c e = some f) : SG X e f := by
 cases e with
 | Name x p =>
   simp only [zr7] at h
   split at h
   . rename_i hx
     simp only [oMs] at h
     obtain ⟨i, e1, rfl⟩ := h
     obtain ⟨h1, h2⟩ := ok.st x hx
     exact zlv (by rw [ok.N]; exact ok.nd) (by rw [ok.N]; exact zbe e1) h1 h2
   . cases h
 | _ => cases h
theorem zeA (ok : zpP c X) : ∀ {es : List Expr} {f : GFs}, zr6 c es = some f -> SGs X es f /\ (assignEach es X.env).length = es.length /\ (assignEach es X.env).findIdx? (·.1) = none
 | [], f, h => by cases h; exact ⟨zlu, rfl, rfl⟩
 | e :: r, f, h => by
   unfold zr6 at h
   simp only [oBs, oMs] at h
   obtain ⟨f1, e1, fr, e2, rfl⟩ := h
   obtain ⟨i1, i2, i3⟩ := zeA ok e2
   have ea : assignEach (e :: r) X.env = (false, assign e X.env) :: assignEach r X.env := by
     cases e with
     | Name x p => rfl
     | _ => cases e1
   refine ⟨zjU (zeB ok e1) i1 (by rw [ea]; rfl), by rw [ea, ztg, ztg, i2], ?_⟩
   rw [ea, List.findIdx?_cons, i3]
   rfl
theorem zce (ok : zpP c X) {e : Expr} {f : GF} (h : zro c e = some f) : SG X e f := by
 cases e with
 | Name x p => exact zeB ok h
 | Tuple es k p =>
   unfold zro at h
   simp only [oMs] at h
   obtain ⟨fr, e1, rfl⟩ := h
   obtain ⟨i1, i2, i3⟩ := zeA ok e1
   exact zno ok.calm i1 i2 i3
 | _ => cases h
end
def zst : EF := fun _ _ => none
theorem zjX {X : Cx} {e : Expr} : SE X e zst := fun _ _ _ _ _ _ h => by
 obtain ⟨_, _, _, _, _, _, _, hf, _⟩ := h
 cases hf
section
variable (rE : Ctx -> Expr -> Option EF) (rT : Ctx -> Expr -> Option TF)
def zrA (c : Ctx) : List Expr -> Option AF
 | [] => some zpD
 | e :: r => if zpW e = true then (rE c e).bind fun f => (zrA c r).map fun fr => zpz f fr else none
def zsd (c : Ctx) (op : BoolOp) : List Expr -> Option EF
 | [] => none
 | [a] => rE c a
 | a :: b :: r => (rE c a).bind fun f => (zsd c op (b :: r)).map fun g => match op with
   | .And => zrN f g
   | .Or => eOr f g
def zsc (c : Ctx) (op : BoolOp) : List Expr -> Option TF
 | [] => none
 | [a] => rT c a
 | a :: b :: r => (rT c a).bind fun f => (zsc c op (b :: r)).map fun g => match op with
   | .And => zrc f g
   | .Or => zrC f g
def bltF : List (Str × String × GN) := [("len", "len", zrz), ("abs", "abs", gAbs), ("min", "min", zq8), ("max", "max", zqM), ("isinstance", "isinstance", zsK), ("all", "all", zrZ), ("any", "any", zsL), ("sum", "sum", gSum)]
def bltT : List (Str × String × GN) := [("tuple", "tuple", zqz), ("list", "list", zrh), ("int", "int", gInt)]
def zrj (names : List (Str × NameKind)) : List Str := (names.filter fun y => y.2 == NameKind.free).map (·.1)
def srcL (c : Ctx) : List Str -> Option (List Nat)
 | [] => some []
 | y :: r => (zpY c.N y).bind fun i => (srcL c r).map fun l => i :: l
def zsP (c : Ctx) (x : Str) (es : List Expr) : Option EF := if zpV x = true then none else
 if c.names.lookup x = some .globalImplicit /\ es.all zpW = true /\ es ≠ [] then
   match c.fns.lookup x with
   | some (k, φ) => (zrA rE c es).map fun fa => eN (zpG k φ) fa
   | none => if x ∈ c.blt then match bltF.lookup x with
     | some (_, g) => (zrA rE c es).map fun fa => eN g fa
     | none => match bltT.lookup x with
       | some (_, g) => (zrA rE c es).map fun fa => eN g fa
       | none => none
     else some zst
 else none
def zsQ (c : Ctx) (x : Str) (es : List Expr) : Option EF := match c.ext x es with
 | some f => some f
 | none => zsP rE c x es
def zsF (c : Ctx) (tg : Expr) : Expr -> Option IF
 | .Call (.Name x p) es [] pos => if x = "range" /\ c.names.lookup x = some .globalImplicit /\ x ∈ c.blt /\ es.all zpW = true then
     match es with
     | [_] => (zrA rE c es).map zru
     | _ => none
   else (rE c (.Call (.Name x p) es [] pos)).map zqc
 | e => (rE c e).map zqc
def isTup : Expr -> Bool
 | .Tuple _ _ _ => true
 | _ => false
def isName : Expr -> Bool
 | .Name _ _ => true
 | _ => false
def itmA (tg f : Expr) (b : Bool) (pos : Pos) : Option Expr := match f with
 | .Attribute o m apos => if m = "items" /\ b = true /\ (apos.endLine == pos.line) = true /\ isTup tg = true /\ isName o = true then some o else none
 | _ => none
def itmO (tg e : Expr) : Option Expr := match e with
 | .Call f es ks pos => itmA tg f (es.isEmpty && ks.isEmpty) pos
 | _ => none
def zrK (c : Ctx) (tg e : Expr) : Option IF := match itmO tg e with
 | some o => (rE c o).map zqP
 | none => zsF rE c tg e
def ifsT (c : Ctx) : List Expr -> Option TF
 | [] => some zqB
 | [t] => rT c t
 | _ => none
def zrO (c : Ctx) (elt : Expr) (g : Comprehension) (scope : Scope) : Option EF :=
 if g.is_async = 0 /\ zrP c scope = true /\ zq6 g.iter = true then
   (zrK rE c g.target g.iter).bind fun fi => (zro (zsb c scope.names) g.target).bind fun fg => (ifsT rT (zsb c scope.names) g.ifs).bind fun ft => (rE (zsb c scope.names) elt).map fun fe => eLc fi fg ft fe (zqu c scope.names)
 else none
def methF : List (Str × String × GM) := [("append", "list.append", zp0), ("insert", "list.insert", zqY), ("pop", "list.pop", gPop), ("reverse", "list.reverse", zqg), ("count", "list.count", zqq)]
theorem zki {X : Cx} (hu : X.A.units + 64 < cLine) {m : Str} {p : String × GM} (h : methF.lookup m = some p) : Slot "list" m p.1 /\ typeOf (.builtin p.1) = pure (.type "method_descriptor") /\ MtR X p.1 (rdM X.K p.2) := by
 have hm := zs4 h
 unfold methF at hm
 simp only [List.mem_cons, ztF, or_false, Prod.mk.injEq] at hm
 rcases hm with ⟨rfl, rfl⟩ | ⟨rfl, rfl⟩ | ⟨rfl, rfl⟩ | ⟨rfl, rfl⟩ | ⟨rfl, rfl⟩
 . exact ⟨PySem.F.slot_list_append, PySem.F.type_list_append, ziB⟩
 . exact ⟨PySem.F.slot_list_insert, PySem.F.type_list_insert, ziA⟩
 . exact ⟨PySem.F.slot_list_pop, PySem.F.type_list_pop, zn5⟩
 . exact ⟨PySem.F.slot_list_reverse, PySem.F.type_list_reverse, zhy⟩
 . exact ⟨zty, PySem.F.type_list_count, zkh hu⟩
def dgetE (c : Ctx) (x : Str) (p : Pos) (m : Str) (es : List Expr) : Option EF := if m = "get" then match es with
   | [] => none
   | e :: r => (rE c (.Name x p)).bind fun fo => (zrA rE c (e :: r)).map fun fa => eDM zqC fo fa
 else none
def dctE (ks : List (Option Expr)) (vs : List Expr) : Option EF := if ks.isEmpty = true /\ vs.isEmpty = true then some eDct else none
def zsE (c : Ctx) (o : Expr) (m : Str) (apos : Pos) (es : List Expr) (cpos : Pos) : Option EF :=
 if es.all zpW = true /\ es.length < 20 /\ (apos.endLine == cpos.line) = true then
   match o with
   | .Name x p => match methF.lookup m with
     | some (_, g) => match es with
       | [] => (rE c (.Name x p)).map fun fo => eM0 g fo
       | e :: r => (rE c (.Name x p)).bind fun fo => (zrA rE c (e :: r)).map fun fa => eM g fo fa
     | none => dgetE rE c x p m es
   | _ => none
 else none
def unE (c : Ctx) (op : UnaryOp) (a : Expr) : Option EF := match op with
 | .USub => (rE c a).map (eU zsI)
 | .Not => (rE c a).map eNot
 | _ => none
def cmpE (c : Ctx) (a : Expr) (ops : List CmpOp) (bs : List Expr) : Option EF := match ops with
 | [] => none
 | op :: r => match r with
   | _ :: _ => none
   | [] => match bs with
     | [] => none
     | b :: q => match q with
       | _ :: _ => none
       | [] => if op ≠ .In /\ op ≠ .NotIn then (rE c a).bind fun fa => (rE c b).map fun fb => eB (zpM op) fa fb else none
def subE (c : Ctx) (a b : Expr) : Option EF := if zp7 b = true then (rE c a).bind fun fa => (rE c b).map fun fb => eB gIx fa fb else none
def calE (c : Ctx) (f : Expr) (es : List Expr) (ks : List Keyword) (pos : Pos) : Option EF := match ks with
 | [] => match f with
   | .Name x _ => zsQ rE c x es
   | .Attribute o m apos => zsE rE c o m apos es pos
   | _ => none
 | _ :: _ => none
def lcE (c : Ctx) (elt : Expr) (gs : List Comprehension) (scope : Scope) : Option EF := match gs with
 | [] => none
 | g :: r => match r with
   | [] => zrO rE rT c elt g scope
   | _ :: _ => none
def stepE (c : Ctx) (e : Expr) : Option EF := match e with
 | .Name x _ => nmE c x
 | .Constant k _ _ => zsv k
 | .BinOp a op b _ => (rE c a).bind fun fa => (rE c b).map fun fb => eB (zpJ op) fa fb
 | .UnaryOp op a _ => unE rE c op a
 | .BoolOp op es _ => zsd rE c op es
 | .Compare a ops bs _ => cmpE rE c a ops bs
 | .Tuple es _ _ => (zrA rE c es).map (eN zpO)
 | .List es _ => (zrA rE c es).map (eN zqp)
 | .Subscript a b _ => subE rE c a b
 | .IfExp t a b _ => (rT c t).bind fun ft => (rE c a).bind fun fa => (rE c b).map fun fb => eIf ft fa fb
 | .Call f es ks pos => calE rE c f es ks pos
 | .Dict ks vs _ => dctE ks vs
 | .ListComp elt gs scope _ => lcE rE rT c elt gs scope
 | _ => none
def zsA (c : Ctx) : Expr -> Option TF
 | .UnaryOp .Not a _ => (rT c a).map zqJ
 | .BoolOp op es _ => zsc rT c op es
 | .Compare a [op] [b] _ => if op ≠ .In /\ op ≠ .NotIn then (rE c a).bind fun fa => (rE c b).map fun fb => tBl (eB (zpM op) fa fb) else none
 | e => if zsk e = true then (rE c e).map zq2 else none
end
mutual
def cE : Nat -> Ctx -> Expr -> Option EF
 | 0, _, _ => none
 | n + 1, c, e => stepE (cE n) (cT n) c e
def cT : Nat -> Ctx -> Expr -> Option TF
 | 0, _, _ => none
 | n + 1, c, e => zsA (cE n) (cT n) c e
end
def OkE (rE : Ctx -> Expr -> Option EF) : Prop := ∀ c X e f, zpP c X -> rE c e = some f -> SE X e f
def OkT (rT : Ctx -> Expr -> Option TF) : Prop := ∀ c X e f, zpP c X -> rT c e = some f -> ST X e f
section
variable {rE : Ctx -> Expr -> Option EF} {rT : Ctx -> Expr -> Option TF} {c : Ctx} {X : Cx}
theorem zaL (hE : OkE rE) (ok : zpP c X) : ∀ {es : List Expr} {f : AF}, zrA rE c es = some f -> SA X es f /\ es.all zpW = true
 | [], f, h => by cases h; exact ⟨znD, rfl⟩
 | e :: r, f, h => by
   unfold zrA at h
   split at h
   . rename_i hn
     simp only [oBs, oMs] at h
     obtain ⟨f1, e1, fr, e2, rfl⟩ := h
     obtain ⟨i1, i2⟩ := zaL hE ok e2
     exact ⟨zlz (hE c X e f1 ok e1) i1 (zaD hn r X.env), by rw [ztr, hn, i2]; rfl⟩
   . cases h
theorem ze3 (hE : OkE rE) (ok : zpP c X) {op : BoolOp} {pos : Pos} : ∀ {es : List Expr} {f : EF}, zsd rE c op es = some f -> SE X (.BoolOp op es pos) f
 | [], f, h => by cases h
 | [a], f, h => zj0 (hE c X a f ok h)
 | a :: b :: r, f, h => by
   unfold zsd at h
   simp only [oBs, oMs] at h
   obtain ⟨f1, e1, fr, e2, rfl⟩ := h
   have i := ze3 hE ok (pos := pos) e2
   cases op with
   | And => exact znC (hE c X a f1 ok e1) i
   | Or => exact zo3 (hE c X a f1 ok e1) i
theorem zeC (hT : OkT rT) (ok : zpP c X) {op : BoolOp} {pos : Pos} : ∀ {es : List Expr} {f : TF}, zsc rT c op es = some f -> SW X (.BoolOp op es pos) f
 | [], f, h => by cases h
 | [a], f, h => by
   cases op with
   | And => exact zlg (hT c X a f ok h)
   | Or => exact zna (hT c X a f ok h)
 | a :: b :: r, f, h => by
   unfold zsc at h
   simp only [oBs, oMs] at h
   obtain ⟨f1, e1, fr, e2, rfl⟩ := h
   have i := zeC hT ok (pos := pos) e2
   cases op with
   | And => exact znb (hT c X a f1 ok e1) i
   | Or => exact zoX (hT c X a f1 ok e1) i
theorem zjE {x : Str} {p : String × GN} (h : bltF.lookup x = some p) (hc : X.calm = true) : bootBuiltins x = some (.builtin p.1) /\ zpS X (.builtin p.1) (rdC X.K p.2) := by
 have hm := zs4 h
 unfold bltF at hm
 simp only [List.mem_cons, ztF, or_false, Prod.mk.injEq] at hm
 rcases hm with ⟨rfl, rfl⟩ | ⟨rfl, rfl⟩ | ⟨rfl, rfl⟩ | ⟨rfl, rfl⟩ | ⟨rfl, rfl⟩ | ⟨rfl, rfl⟩ | ⟨rfl, rfl⟩ | ⟨rfl, rfl⟩
 . exact ⟨by decide +kernel, zoL⟩
 . exact ⟨by decide +kernel, zoP⟩
 . exact ⟨by decide +kernel, zmS hc⟩
 . exact ⟨by decide +kernel, zmT hc⟩
 . exact ⟨by decide +kernel, zoM⟩
 . exact ⟨by decide +kernel, zoO hc⟩
 . exact ⟨by decide +kernel, zoN hc⟩
 . exact ⟨by decide +kernel, zoI hc⟩
theorem zjD {x : Str} {p : String × GN} (h : bltT.lookup x = some p) : bootBuiltins x = some (.type p.1) /\ zpS X (.type p.1) (rdC X.K p.2) := by
 have hm := zs4 h
 unfold bltT at hm
 simp only [List.mem_cons, ztF, or_false, Prod.mk.injEq] at hm
 rcases hm with ⟨rfl, rfl⟩ | ⟨rfl, rfl⟩ | ⟨rfl, rfl⟩
 . exact ⟨by decide +kernel, zkH⟩
 . exact ⟨by decide +kernel, zmR⟩
 . exact ⟨by decide +kernel, zoH⟩
theorem zf7 (hE : OkE rE) (ok : zpP c X) {x : Str} {es : List Expr} {f : EF} {p pos : Pos} (h : zsP rE c x es = some f) : SE X (.Call (.Name x p) es [] pos) f := by
 unfold zsP at h
 split at h
 . cases h
 . rename_i ho
   have ho' : zpV x = false := by simpa using ho
   split at h
   . rename_i hc
     obtain ⟨h1, h2, h3⟩ := hc
     have hg : Gl X x := by show X.env.scope.names.lookup x = _; rw [ok.names]; exact h1
     cases es with
     | nil => exact absurd rfl h3
     | cons e r =>
       rw [ztr, zs5] at h2
       split at h
       . rename_i k φ e1
         simp only [oMs] at h
         obtain ⟨fa, e2, rfl⟩ := h
         exact zly hg (ok.fns x k φ e1) (zaL hE ok e2).1 (zsl ho') (zaD h2.1 r X.env) (zc6 h2.2 pos X.env)
       . split at h
         . rename_i hb
           split at h
           . rename_i q g e1
             simp only [oMs] at h
             obtain ⟨fa, e2, rfl⟩ := h
             obtain ⟨b1, b2⟩ := zjE e1 ok.calm
             exact zjZ b2 hg (ok.blt x hb) b1 (zaL hE ok e2).1 (odd3 ho') (zsl ho') (zaD h2.1 r X.env) (zc6 h2.2 pos X.env)
           . split at h
             . rename_i q g e1
               simp only [oMs] at h
               obtain ⟨fa, e2, rfl⟩ := h
               obtain ⟨b1, b2⟩ := zjD (X := X) e1
               exact zjY b2 hg (ok.blt x hb) b1 (zaL hE ok e2).1 (odd3 ho') (zsl ho') (zaD h2.1 r X.env) (zc6 h2.2 pos X.env)
             . cases h
         . cases h; exact zjX
   . cases h
theorem zhY {c : Ctx} : ∀ {cap : List Str} {src : List Nat}, srcL c cap = some src -> cap.length = src.length /\ ∀ (i : Nat) y, cap[i]? = some y -> ∃ j, src[i]? = some j /\ c.N[j]? = some y
 | [], src, h => by cases h; exact ⟨rfl, fun i y e => by simp at e⟩
 | y :: r, src, h => by
   unfold srcL at h
   simp only [oBs, oMs] at h
   obtain ⟨i0, e0, l, e1, rfl⟩ := h
   obtain ⟨h1, h2⟩ := zhY e1
   refine ⟨by simp [h1], fun i z e => ?_⟩
   cases i with
   | zero => simp at e; subst e; exact ⟨i0, rfl, zbe e0⟩
   | succ i => simpa using h2 i z (by simpa using e)
theorem zmP {names : List (Str × NameKind)} {y : Str} (h : y ∈ zrj names) : (y, NameKind.free) ∈ names := by
 unfold zrj at h
 obtain ⟨z, hz, rfl⟩ := List.mem_map.mp h
 obtain ⟨h1, h2⟩ := List.mem_filter.mp hz
 obtain ⟨z1, z2⟩ := z
 have : z2 = NameKind.free := by simpa using h2
 subst this; exact h1
theorem zhn (hE : OkE rE) (ok : zpP c X) {x : Str} {es : List Expr} {f : EF} {p pos : Pos} (h : zsQ rE c x es = some f) : SE X (.Call (.Name x p) es [] pos) f := by
 unfold zsQ at h
 split at h
 . rename_i f' ef
   cases h
   exact ok.ext x es f p pos ef
 . exact zf7 hE ok h
theorem zf5 (hE : OkE rE) (ok : zpP c X) {tg e : Expr} {f : IF} (h : zsF rE c tg e = some f) : SI X tg e f := by
 have dflt : ∀ {e : Expr}, (rE c e).map zqc = some f -> SI X tg e f := fun {e} q => by
   simp only [oMs] at q
   obtain ⟨f1, e1, rfl⟩ := q
   exact znn (hE c X e f1 ok e1)
 unfold zsF at h
 split at h
 . rename_i x p es pos
   split at h
   . rename_i hc
     obtain ⟨rfl, h1, h2, h3⟩ := hc
     have hg : Gl X "range" := by show X.env.scope.names.lookup _ = _; rw [ok.names]; exact h1
     split at h
     . rename_i a
       simp only [oMs] at h
       obtain ⟨fa, e2, rfl⟩ := h
       rw [ztr, zs5] at h3
       exact zh5 hg (ok.blt _ h2) (zaL hE ok e2).1 (by rw [zaD h3.1]; rfl)
     . cases h
   . exact dflt h
 . exact dflt h
theorem ze1 (hE : OkE rE) (ok : zpP c X) {tg e : Expr} {f : IF} (h : zrK rE c tg e = some f) : SI X tg e f := by
 unfold zrK at h
 split at h
 . rename_i o eo
   obtain ⟨fo, e1, rfl⟩ := oMs.mp h
   have so := hE c X o fo ok e1
   unfold itmO at eo
   cases e with
   | Call g es ks pos =>
     simp only at eo
     unfold itmA at eo
     cases g with
     | Attribute o' m apos =>
       simp only at eo
       split at eo
       . rename_i hc
         obtain ⟨rfl, h2, h3, h4, h5⟩ := hc
         cases eo
         rw [zs5, List.isEmpty_iff, List.isEmpty_iff] at h2
         obtain ⟨rfl, rfl⟩ := h2
         cases tg with
         | Tuple ts kk tp =>
           cases o with
           | Name x p => exact zjT so rfl h3
           | _ => cases h5
         | _ => cases h4
       . cases eo
     | _ => cases eo
   | _ => cases eo
 . exact zf5 hE ok h
theorem zh2 (hT : OkT rT) (ok : zpP c X) {ifs : List Expr} {f : TF} (h : ifsT rT c ifs = some f) : STs X ifs f := by
 unfold ifsT at h
 split at h
 . cases h; exact zli
 . exact zlh (hT c X _ f ok h)
 . cases h
theorem ze2 (hE : OkE rE) (hT : OkT rT) (ok : zpP c X) {elt : Expr} {g : Comprehension} {scope : Scope} {f : EF} (h : zrO rE rT c elt g scope = some f) :
   ∃ fi fg ft fe, f = eLc fi fg ft fe (zqu c scope.names) /\ g = ⟨g.target, g.iter, g.ifs, 0⟩ /\ zqt X scope (zra c scope.names) (zqu c scope.names) /\ SI X g.target g.iter fi /\
     (∀ Y, zqf X scope (zra c scope.names) Y -> SG Y g.target fg /\ STs Y g.ifs ft /\ SE Y elt fe) /\ ∀ x, foldedSetIterable g.iter X.env x = pure x := by
 unfold zrO at h
 split at h
 . rename_i hc
   obtain ⟨h1, h2, h3⟩ := hc
   simp only [oBs, oMs] at h
   obtain ⟨fi, e1, fg, e2, ft, e3, fe, e4, rfl⟩ := h
   refine ⟨fi, fg, ft, fe, rfl, ?_, zmJ ok h2, ze1 hE ok e1, fun Y hy => ?_, zfD h3 X.env⟩
   . obtain ⟨a, b, d, z⟩ := g
     have : z = 0 := h1
     subst this; rfl
   . have okY := zkD ok h2 hy
     exact ⟨zce okY e2, zh2 hT okY e3, hE _ Y elt fe okY e4⟩
 . cases h
theorem zhm (hE : OkE rE) (ok : zpP c X) {o : Expr} {m : Str} {apos cpos : Pos} {es : List Expr} {f : EF} (h : zsE rE c o m apos es cpos = some f) : SE X (.Call (.Attribute o m apos) es [] cpos) f := by
 unfold zsE at h
 split at h
 . rename_i hc
   obtain ⟨h1, h3, h4⟩ := hc
   split at h
   . rename_i x p
     split at h
     . rename_i q g e1
       obtain ⟨m1, m2, m3⟩ := zki ok.un e1
       cases es with
       | nil =>
         simp only [oMs] at h
         obtain ⟨fo, e2, rfl⟩ := h
         exact znw m1 m2 m3 (hE c X _ fo ok e2) rfl h4
       | cons e r =>
         have h1' := h1
         rw [ztr, zs5] at h1
         simp only [oBs, oMs] at h
         obtain ⟨fo, e2, fa, e3, rfl⟩ := h
         have few : ((backTo cpos (starEach (e :: r) X.env)).all (fun x => !x.1) && (backToKw cpos (keywordEach [] X.env)).all (fun x => x.1.isSome)
             && decide ((e :: r).length + ([] : List Keyword).length + (if ([] : List Keyword).isEmpty then 0 else 1) < 30)) = true := by
           rw [zgJ h1']
           show (true && true && _) = true
           rw [zs5]
           exact ⟨rfl, decide_eq_true (by simp at h3 ⊢; omega)⟩
         exact zo5 m1 m2 m3 (hE c X _ fo ok e2) (zaL hE ok e3).1 rfl few h4 (zaD h1.1 r X.env) (zc6 h1.2 cpos X.env)
     . unfold dgetE at h
       split at h
       . rename_i hm
         subst hm
         cases es with
         | nil => cases h
         | cons e r =>
           have h1' := h1
           rw [ztr, zs5] at h1
           simp only [oBs, oMs] at h
           obtain ⟨fo, e2, fa, e3, rfl⟩ := h
           have few : ((backTo cpos (starEach (e :: r) X.env)).all (fun x => !x.1) && (backToKw cpos (keywordEach [] X.env)).all (fun x => x.1.isSome)
               && decide ((e :: r).length + ([] : List Keyword).length + (if ([] : List Keyword).isEmpty then 0 else 1) < 30)) = true := by
             rw [zgJ h1']
             show (true && true && _) = true
             rw [zs5]
             exact ⟨rfl, decide_eq_true (by simp at h3 ⊢; omega)⟩
           exact zlx ok.un (hE c X _ fo ok e2) (zaL hE ok e3).1 rfl few h4 (zaD h1.1 r X.env) (zc6 h1.2 cpos X.env)
       . cases h
   . cases h
 . cases h
theorem zf4 (hE : OkE rE) (hT : OkT rT) : OkE (stepE rE rT) := by
 intro c X e f ok h
 cases e with
 | Name x p => exact zhl ok h
 | Constant k a b => exact zf6 h
 | BinOp a op b p =>
   obtain ⟨fa, e1, h⟩ := oBs.mp h
   obtain ⟨fb, e2, rfl⟩ := oMs.mp h
   exact zo4 (hE c X _ fa ok e1) (hE c X _ fb ok e2)
 | UnaryOp op a p =>
   cases op with
   | USub =>
     obtain ⟨fa, e1, rfl⟩ := oMs.mp h
     exact znv (hE c X _ fa ok e1)
   | Not =>
     obtain ⟨fa, e1, rfl⟩ := oMs.mp h
     exact znt (hE c X _ fa ok e1)
   | _ => exact nomatch (show (none : Option EF) = some f from h)
 | BoolOp op es p => exact ze3 hE ok h
 | Compare a ops bs p =>
   cases ops with
   | nil => exact nomatch (show (none : Option EF) = some f from h)
   | cons op r =>
     cases r with
     | cons _ _ => exact nomatch (show (none : Option EF) = some f from h)
     | nil =>
       cases bs with
       | nil => exact nomatch (show (none : Option EF) = some f from h)
       | cons b q =>
         cases q with
         | cons _ _ => exact nomatch (show (none : Option EF) = some f from h)
         | nil =>
           change (if op ≠ .In /\ op ≠ .NotIn then (rE c a).bind fun fa => (rE c b).map fun fb => eB (zpM op) fa fb else none) = some f at h
           by_cases hc : op ≠ .In /\ op ≠ .NotIn
           . rw [if_pos hc] at h
             obtain ⟨fa, e1, h⟩ := oBs.mp h
             obtain ⟨fb, e2, rfl⟩ := oMs.mp h
             exact znB ok.un hc.1 hc.2 (hE c X _ fa ok e1) (hE c X _ fb ok e2)
           . rw [if_neg hc] at h; cases h
 | Tuple es a b =>
   obtain ⟨fa, e1, rfl⟩ := oMs.mp h
   exact znr (zaL hE ok e1).1
 | List es a =>
   obtain ⟨fa, e1, rfl⟩ := oMs.mp h
   exact znx (zaL hE ok e1).1
 | Subscript a b p =>
   change (if zp7 b = true then (rE c a).bind fun fa => (rE c b).map fun fb => eB gIx fa fb else none) = some f at h
   by_cases hp : zp7 b = true
   . rw [if_pos hp] at h
     obtain ⟨fa, e1, h⟩ := oBs.mp h
     obtain ⟨fb, e2, rfl⟩ := oMs.mp h
     exact zo6 (zht hp) (hE c X _ fa ok e1) (hE c X _ fb ok e2)
   . rw [if_neg hp] at h; cases h
 | IfExp t a b p =>
   obtain ⟨ft, e0, h⟩ := oBs.mp h
   obtain ⟨fa, e1, h⟩ := oBs.mp h
   obtain ⟨fb, e2, rfl⟩ := oMs.mp h
   exact zo7 (hT c X _ ft ok e0) (hE c X _ fa ok e1) (hE c X _ fb ok e2)
 | Call g es ks pos =>
   cases ks with
   | cons _ _ => exact nomatch (show (none : Option EF) = some f from h)
   | nil =>
     cases g with
     | Name x p => exact zhn hE ok h
     | Attribute o m p => exact zhm hE ok h
     | _ => exact nomatch (show (none : Option EF) = some f from h)
 | ListComp elt gs scope p =>
   cases gs with
   | nil => exact nomatch (show (none : Option EF) = some f from h)
   | cons g r =>
     cases r with
     | cons _ _ => exact nomatch (show (none : Option EF) = some f from h)
     | nil =>
       obtain ⟨fi, fg, ft, fe, rfl, eg, cok, hi, hY, hfs⟩ := ze2 hE hT ok h
       rw [eg]
       exact zny ok.calm cok hi hY hfs
 | Dict ks vs p =>
   change (if ks.isEmpty = true /\ vs.isEmpty = true then some eDct else none) = some f at h
   by_cases hc : ks.isEmpty = true /\ vs.isEmpty = true
   . rw [if_pos hc] at h
     cases h
     rw [List.isEmpty_iff, List.isEmpty_iff] at hc
     obtain ⟨rfl, rfl⟩ := hc
     exact znA
   . rw [if_neg hc] at h; cases h
 | _ => exact nomatch (show (none : Option EF) = some f from h)
theorem zf3 (hE : OkE rE) (hT : OkT rT) : OkT (zsA rE rT) := by
 intro c X e f ok h
 unfold zsA at h
 split at h
 . simp only [oMs] at h
   obtain ⟨fa, e1, rfl⟩ := h
   exact zne (hT c X _ fa ok e1)
 . exact PW.pt (zeC hT ok h)
 . split at h
   . rename_i hc
     simp only [oBs, oMs] at h
     obtain ⟨fa, e1, fb, e2, rfl⟩ := h
     exact znf ok.un hc.1 hc.2 (hE c X _ fa ok e1) (hE c X _ fb ok e2)
   . cases h
 . split at h
   . rename_i hp
     simp only [oMs] at h
     obtain ⟨fa, e1, rfl⟩ := h
     exact znd (hE c X _ fa ok e1) (zie hp X.env)
   . cases h
theorem za3 : ∀ n, OkE (cE n) /\ OkT (cT n)
 | 0 => ⟨fun _ _ _ _ _ h => by simp [cE] at h, fun _ _ _ _ _ h => by simp [cT] at h⟩
 | n + 1 => by
   obtain ⟨h1, h2⟩ := za3 n
   refine ⟨fun c X e f ok h => ?_, fun c X e f ok h => ?_⟩
   . rw [cE] at h; exact zf4 h1 h2 c X e f ok h
   . rw [cT] at h; exact zf3 h1 h2 c X e f ok h
end
def zrE : SF := fun _ _ => none
theorem zjM {X : Cx} {st : Stmt} : SS X st zrE := fun _ _ _ _ _ _ h => by
 obtain ⟨_, _, _, _, _, _, _, _, hf, _⟩ := h
 cases hf
def asgLc (c : Ctx) (x : Str) (e : Expr) : Option SF := match e with
 | .ListComp elt gs scope _ => match gs with
   | [] => none
   | g :: r => match r with
     | _ :: _ => none
     | [] => if x ∈ c.sts then (zpY c.N x).bind fun i => (zrO (cE 60) (cT 60) c elt g scope).map fun f => zpL f (gNm i) else none
 | _ => none
def asgSt (c : Ctx) (x : Str) (e : Expr) : Option SF := if x ∈ c.sts then (cE 60 c e).bind fun fe => (zpY c.N x).map fun i => zpL fe (gNm i) else none
def zsx (c : Ctx) (o i e : Expr) : Option SF := if zp7 i = true then (cE 60 c e).bind fun fe => (cE 60 c o).bind fun fo => (cE 60 c i).map fun fi => zpL fe (gSt fo fi) else none
def zsR (c : Ctx) (tg e : Expr) : Option SF := (cE 60 c e).bind fun fe => (zro c tg).map fun fg => zpL fe fg
def isLc : Expr -> Bool
 | .ListComp _ _ _ _ => true
 | _ => false
def asg1 (c : Ctx) (tg e : Expr) : Option SF :=
 if zqd e = true then
   if zrH e = true then match tg with
     | .Subscript o i _ => zsx c o i e
     | tg => zsR c tg e
   else match tg with
     | .Name x _ => asgSt c x e
     | .Subscript o i _ => zsx c o i e
     | _ => none
 else match tg with
   | .Name x _ => asgLc c x e
   | .Tuple ts k p => if isLc e = true then zsR c (.Tuple ts k p) e else none
   | _ => none
def isDoc (e : Expr) : Bool := match e with
 | .Constant k _ _ => match k with
   | .str _ => true
   | _ => false
 | _ => false
def expS (c : Ctx) (e : Expr) : Option SF := if isDoc e = true then some zpE else if zqd e = true then (cE 60 c e).map zqn else none
mutual
def cS : Nat -> Ctx -> Stmt -> Option SF
 | 0, _, _ => none
 | n + 1, c, st => match st with
   | .Pass _ => some zpE
   | .Break _ => some sBrk
   | .Continue _ => some sCnt
   | .Expr e _ => expS c e
   | .Return o _ => match o with
     | none => some sRetN
     | some e => (cE 60 c e).map zpT
   | .Raise _ _ _ => some zrE
   | .Assign tgs e _ => match tgs with
     | [] => none
     | tg :: r => match r with
       | [] => asg1 c tg e
       | _ :: _ => none
   | .If t a b _ => (cT 60 c t).bind fun ft => (cSs n c a).bind fun fa => (cSs n c b).map fun fb => sIf ft fa fb
   | .While t a o _ => match o with
     | [] => (cT 60 c t).bind fun ft => (cSs n c a).map fun fa => sWh ft fa
     | _ :: _ => none
   | .For tg it a o _ => match o with
     | [] => if zq6 it = true then (zrK (cE 60) c tg it).bind fun fi => (zro c tg).bind fun fg => (cSs n c a).map fun fa => zqK fi fg fa else none
     | _ :: _ => none
   | _ => none
def cSs : Nat -> Ctx -> List Stmt -> Option SF
 | 0, _, _ => none
 | _ + 1, _, [] => some zpE
 | n + 1, c, st :: r => (cS n c st).bind fun f => (cSs n c r).map fun g => zpH f g
end
theorem zf8 {c : Ctx} {X : Cx} (ok : zpP c X) {x : Str} {px spos : Pos} {e : Expr} {f : SF} (h : asgLc c x e = some f) : SS X (.Assign [.Name x px] e spos) f := by
 have hE := (za3 60).1
 have hT := (za3 60).2
 cases e with
 | ListComp elt gs scope p => cases gs with
   | nil => exact nomatch (show (none : Option SF) = some f from h)
   | cons g r => cases r with
     | cons _ _ => exact nomatch (show (none : Option SF) = some f from h)
     | nil =>
       change (if x ∈ c.sts then (zpY c.N x).bind fun i => (zrO (cE 60) (cT 60) c elt g scope).map fun f => zpL f (gNm i) else none) = some f at h
       by_cases hx : x ∈ c.sts
       . rw [if_pos hx] at h
         obtain ⟨i, e0, h⟩ := oBs.mp h
         obtain ⟨f1, e1, rfl⟩ := oMs.mp h
         obtain ⟨fi, fg, ft, fe, rfl, eg, cok, hi, hY, hfs⟩ := ze2 hE hT ok e1
         obtain ⟨s1, s2⟩ := ok.st x hx
         have nd : X.N.Nodup := by rw [ok.N]; exact ok.nd
         have sl : X.N[i]? = some x := by rw [ok.N]; exact zbe e0
         rw [eg]
         have key : swapsWith (.ListComp elt [⟨g.target, g.iter, g.ifs, 0⟩] scope p) (some (.Name x px)) spos.line X.env = pure (X.env.blockKind == ScopeKind.function && X.env.kindOf x == some NameKind.local && px.line == p.line && !(scope.names.any fun y => y.1 == x && (y.2 == NameKind.local || y.2 == NameKind.cell))) := rfl
         cases hb : (X.env.blockKind == ScopeKind.function && X.env.kindOf x == some NameKind.local && px.line == p.line && !(scope.names.any fun y => y.1 == x && (y.2 == NameKind.local || y.2 == NameKind.cell))) with
         | true =>
           rw [hb] at key
           rw [zs5, zs5, zs5] at hb
           have hk : X.env.kindOf x = some .local := by simpa using hb.1.1.2
           exact zjL nd sl hk key ok.calm cok hi hY hfs
         | false =>
           rw [hb] at key
           exact zkM nd sl s1 (zny ok.calm cok hi hY hfs) key s2
       . rw [if_neg hx] at h; cases h
 | _ => exact nomatch (show (none : Option SF) = some f from h)
theorem zho {c : Ctx} {X : Cx} (ok : zpP c X) {tg e : Expr} {spos : Pos} {f : SF} (h : asg1 c tg e = some f) : SS X (.Assign [tg] e spos) f := by
 have hE := (za3 60).1
 unfold asg1 at h
 by_cases hc : zqd e = true
 . rw [if_pos hc] at h
   by_cases ht : zrH e = true
   . rw [if_pos ht] at h
     cases tg with
     | Subscript o i p =>
       change (if zp7 i = true then (cE 60 c e).bind fun fe => (cE 60 c o).bind fun fo => (cE 60 c i).map fun fi => zpL fe (gSt fo fi) else none) = some f at h
       by_cases hi : zp7 i = true
       . rw [if_pos hi] at h
         obtain ⟨fe, e1, h⟩ := oBs.mp h
         obtain ⟨fo, e2, h⟩ := oBs.mp h
         obtain ⟨fi, e3, rfl⟩ := oMs.mp h
         refine zfz (hE c X _ fe ok e1) (zkN ok.un (hE c X _ fo ok e2) (hE c X _ fi ok e3) fun v => ?_) (by unfold swapsWithSole; exact zbf hc _ _ _) (zdV rfl _ _) rfl
         cases i with
         | Slice _ _ _ _ => cases hi
         | _ => rfl
       . rw [if_neg hi] at h; cases h
     | Name _ _ =>
       obtain ⟨fe, e1, h⟩ := oBs.mp h
       obtain ⟨fg, e2, rfl⟩ := oMs.mp h
       exact zfz (hE c X _ fe ok e1) (zce ok e2) (by unfold swapsWithSole; exact zbf hc _ _ _) (zdV rfl _ _) rfl
     | Tuple _ _ _ =>
       obtain ⟨fe, e1, h⟩ := oBs.mp h
       obtain ⟨fg, e2, rfl⟩ := oMs.mp h
       exact zfz (hE c X _ fe ok e1) (zce ok e2) (by unfold swapsWithSole; exact zbf hc _ _ _) (zhv ht _ _ _ _) rfl
     | _ =>
       obtain ⟨fe, e1, h⟩ := oBs.mp h
       obtain ⟨fg, e2, h⟩ := oMs.mp h
       cases e2
   . rw [if_neg ht] at h
     cases tg with
     | Name x px =>
       change (if x ∈ c.sts then (cE 60 c e).bind fun fe => (zpY c.N x).map fun i => zpL fe (gNm i) else none) = some f at h
       by_cases hx : x ∈ c.sts
       . rw [if_pos hx] at h
         obtain ⟨fe, e1, h⟩ := oBs.mp h
         obtain ⟨i, e2, rfl⟩ := oMs.mp h
         obtain ⟨s1, s2⟩ := ok.st x hx
         exact zkM (by rw [ok.N]; exact ok.nd) (by rw [ok.N]; exact zbe e2) s1 (hE c X _ fe ok e1) (zbf hc _ _ _) s2
       . rw [if_neg hx] at h; cases h
     | Subscript o i p =>
       change (if zp7 i = true then (cE 60 c e).bind fun fe => (cE 60 c o).bind fun fo => (cE 60 c i).map fun fi => zpL fe (gSt fo fi) else none) = some f at h
       by_cases hi : zp7 i = true
       . rw [if_pos hi] at h
         obtain ⟨fe, e1, h⟩ := oBs.mp h
         obtain ⟨fo, e2, h⟩ := oBs.mp h
         obtain ⟨fi, e3, rfl⟩ := oMs.mp h
         refine zfz (hE c X _ fe ok e1) (zkN ok.un (hE c X _ fo ok e2) (hE c X _ fi ok e3) fun v => ?_) (by unfold swapsWithSole; exact zbf hc _ _ _) (zdV rfl _ _) rfl
         cases i with
         | Slice _ _ _ _ => cases hi
         | _ => rfl
       . rw [if_neg hi] at h; cases h
     | _ => exact nomatch (show (none : Option SF) = some f from h)
 . rw [if_neg hc] at h
   cases tg with
   | Name x px => exact zf8 ok h
   | Tuple ts k0 p =>
     change (if isLc e = true then zsR c (.Tuple ts k0 p) e else none) = some f at h
     by_cases hl : isLc e = true
     . rw [if_pos hl] at h
       obtain ⟨fe, e1, h⟩ := oBs.mp h
       obtain ⟨fg, e2, rfl⟩ := oMs.mp h
       cases e with
       | ListComp _ _ _ _ => exact zfz (hE c X _ fe ok e1) (zce ok e2) rfl rfl rfl
       | _ => cases hl
     . rw [if_neg hl] at h; cases h
   | _ => exact nomatch (show (none : Option SF) = some f from h)
theorem zh3 {c : Ctx} {X : Cx} (ok : zpP c X) {e : Expr} {p : Pos} {f : SF} (h : expS c e = some f) : SS X (.Expr e p) f := by
 have hE := (za3 60).1
 unfold expS at h
 by_cases hd : isDoc e = true
 . rw [if_pos hd] at h
   cases h
   cases e with
   | Constant k a b => cases k with
     | str _ => exact znj
     | _ => cases hd
   | _ => cases hd
 . rw [if_neg hd] at h
   by_cases hc : zqd e = true
   . rw [if_pos hc] at h
     obtain ⟨fe, e1, rfl⟩ := oMs.mp h
     exact zll (hE c X _ fe ok e1) (zbf hc _ _ _)
   . rw [if_neg hc] at h; cases h
theorem zel : ∀ n c X, zpP c X -> PassesOwn (model X.prog X.w) X.A X.env X.xe -> (∀ st f, cS n c st = some f -> SS X st f) /\ ∀ sts f, cSs n c sts = some f -> SSs X sts f
 | 0, c, X, ok, hp => ⟨fun _ _ h => by simp [cS] at h, fun _ _ h => by simp [cSs] at h⟩
 | n + 1, c, X, ok, hp => by
   obtain ⟨ih1, ih2⟩ := zel n c X ok hp
   have hE := (za3 60).1
   have hT := (za3 60).2
   refine ⟨fun st f h => ?_, fun sts f h => ?_⟩
   . unfold cS at h
     cases st with
     | Pass _ => cases h; exact zlk
     | Break _ => cases h; exact znl
     | Continue _ => cases h; exact znk
     | Expr e p => exact zh3 ok h
     | Return o p => cases o with
       | none => cases h; exact zlj
       | some e =>
         obtain ⟨fe, e1, rfl⟩ := oMs.mp h
         exact zng (hE c X _ fe ok e1)
     | Raise _ _ _ => cases h; exact zjM
     | Assign tgs e p => cases tgs with
       | nil => exact nomatch (show (none : Option SF) = some f from h)
       | cons tg r => cases r with
         | nil => exact zho ok h
         | cons _ _ => exact nomatch (show (none : Option SF) = some f from h)
     | If t a b p =>
       obtain ⟨ft, e0, h⟩ := oBs.mp h
       obtain ⟨fa, e1, h⟩ := oBs.mp h
       obtain ⟨fb, e2, rfl⟩ := oMs.mp h
       exact zoY (hT c X _ ft ok e0) (ih2 _ fa e1) (ih2 _ fb e2)
     | While t a o p => cases o with
       | cons _ _ => exact nomatch (show (none : Option SF) = some f from h)
       | nil =>
         obtain ⟨ft, e0, h⟩ := oBs.mp h
         obtain ⟨fa, e1, rfl⟩ := oMs.mp h
         exact zjK hp (hT c X _ ft ok e0) (ih2 _ fa e1)
     | For tg it a o p => cases o with
       | cons _ _ => exact nomatch (show (none : Option SF) = some f from h)
       | nil =>
         change (if zq6 it = true then (zrK (cE 60) c tg it).bind fun fi => (zro c tg).bind fun fg => (cSs n c a).map fun fa => zqK fi fg fa else none) = some f at h
         by_cases hn : zq6 it = true
         . rw [if_pos hn] at h
           obtain ⟨fi, e0, h⟩ := oBs.mp h
           obtain ⟨fg, e1, h⟩ := oBs.mp h
           obtain ⟨fa, e2, rfl⟩ := oMs.mp h
           exact zni hp ok.calm (ze1 hE ok e0) (zce ok e1) (ih2 _ fa e2) (zfD hn X.env)
         . rw [if_neg hn] at h; cases h
     | _ => exact nomatch (show (none : Option SF) = some f from h)
   . cases sts with
     | nil => rw [cSs] at h; cases h; exact znh
     | cons st r =>
       rw [cSs] at h
       simp only [oBs, oMs] at h
       obtain ⟨f1, e1, g1, e2, rfl⟩ := h
       exact zlm (ih1 _ f1 e1) (ih2 _ g1 e2)
end MX
end
section
namespace MX
open PySem PySem.Spec PyProof.Rows L2
theorem FnAt.mono {P : Program} {w : World} {K : PySem.W.Frag} {mg : Str -> Option Value} {base : Heap} {j k : Nat} {x : Str} {n : Nat} {φ : GN} (h : FnAt P w K mg base j x n φ) (hjk : j <= k) : FnAt P w K mg base k x n φ :=
 let ⟨f, fd, ps, a, b, c, d⟩ := h
 ⟨f, fd, ps, a, b, c, d.mono hjk⟩
def zqD (names : List (Str × NameKind)) : List Str := (names.filter fun y => y.2 == .local || y.2 == .cell).map (·.1)
def mkC (st : Stmt) (fns : List (Str × Nat × GN)) (blt : List Str) : Ctx := { N := zqD (zpB st).names, names := (zpB st).names, sts := zqD (zpB st).names, fns := fns, blt := blt }
def zp5 (N : List Str) (ds : List D) : Sg := ds.map some ++ List.replicate (N.length - ds.length) none
theorem zev {K : PySem.W.Frag} {H : Hp} {α : List Addr} {N : List Str} {ds : List D} {vs : List V} (r : Reps K H α ds vs) : VarsR K H α (zp5 N ds) (start N vs) := by
 have hl := r.length
 refine ⟨by simp [zp5, L2.start, hl], fun i d e => ?_⟩
 have hi : i < ds.length := by
   unfold zp5 at e
   by_cases hi : i < ds.length
   . exact hi
   . rw [ztj (by simpa using hi), List.getElem?_replicate] at e
     split at e <;> cases e
 have ed : ds[i]? = some d := by
   unfold zp5 at e
   rw [zti (by simpa using hi), ztb] at e
   cases q : ds[i]? with
   | none => rw [q] at e; cases e
   | some z => rw [q] at e; cases e; rfl
 obtain ⟨v, h1, h2⟩ := r.get ed
 refine ⟨v, ?_, h2⟩
 unfold L2.start
 rw [zti (by rw [zs7, <- hl]; exact hi), ztb, h1]
 rfl
def zsW (r : Option (Fl × Sg × So)) (z : D) (S S' : So) : Prop := ∃ fl σ' S'', r = some (fl, σ', S'') /\ (fl = .rt z \/ (fl = .nx /\ z = .non)) /\ S' = S''.take S'.length /\ S.length <= S'.length /\ D.lo S'.length z = true /\ ∀ o ∈ S', O.lo S'.length o = true
theorem zdU {names : List (Str × NameKind)} (hu : ∀ y ∈ names, names.lookup y.1 = some y.2) {x : Str} (h : x ∈ zqD names) : names.lookup x = some .local \/ names.lookup x = some .cell := by
 unfold zqD at h
 obtain ⟨y, hy, rfl⟩ := List.mem_map.mp h
 obtain ⟨h1, h2⟩ := List.mem_filter.mp hy
 rw [ztw] at h2
 have e := hu y h1
 rcases h2 with q | q
 . exact .inl (by rw [e]; congr 1; simpa using q)
 . exact .inr (by rw [e]; congr 1; simpa using q)
section
variable {P : Program} {w : World} {K : PySem.W.Frag} {mg : Str -> Option Value} {base : Heap}
theorem zmu {x qual : Str} {st : Stmt} {f : Addr} {fd : FuncData} {ps : List Str} {k m : Nat} {fns : List (Str × Nat × GN)} {blt : List Str} {fb : SF} {φ : GN}
   (F : Fun K x qual st f fd) (S : zp2 (zqD (zpB st).names) ps (zpB st)) (hu : (zpB st).names.all (fun y => decide ((zpB st).names.lookup y.1 = some y.2)) = true)
   (hfns : ∀ y n ψ, fns.lookup y = some (n, ψ) -> FnAt P w K mg base k y n ψ) (hblt : ∀ y ∈ blt, mg y = none)
   (hb : cSs m (mkC st fns blt) (zpN st) = some fb)
   (hφ : ∀ ds S₀ z S', WF S₀ -> ds.length = ps.length -> φ ds S₀ = some (z, S') -> zsW (fb (zp5 (zqD (zpB st).names) ds) S₀) z S₀ S') :
   FnOk P w K mg base CX0 (k + 1) f fd ps (spOf K ps.length φ) := by
 refine F.ok S (fun vs H Q E h => h.1) (fun cdv A outer s H vs Q E hr h => ?_)
 obtain ⟨hlen, S₀, α, ds, z, S', hs, r, e, kk⟩ := h
 have ok : zpP (mkC st fns blt) (zri CX0 P w K mg base (zqD (zpB st).names) qual (zpB st) f cdv A outer s H E).nox := by
   refine ⟨rfl, S.nd, rfl, S.kind, fun y hy => ?_, fun y n ψ q => ?_, hblt, rfl, hr.units, fun _ _ _ _ _ h => (nomatch h)⟩
   . rw [List.all_eq_true] at hu
     exact ⟨zdU (fun z hz => of_decide_eq_true (hu z hz)) hy, .inl rfl⟩
   . obtain ⟨f', fd', ps', a, b, c, d⟩ := hfns y n ψ q
     exact ⟨f', fd', ps', k, a, b, c, d, hr⟩
 refine ⟨rdS K fb, (zel m _ _ ok PassesOwn.never).2 _ fb hb, ?_⟩
 obtain ⟨fl, σ', S'', e1, e2, e3, e4, e5, e6⟩ := hφ ds S₀ z S' hs.wf (by rw [r.length]; exact hlen) e
 refine ⟨_, S₀, α, fl, σ', S'', zev r, hs, e1, fun σ2 H2 α2 v2 s2 x2 => ?_⟩
 have s3 : StoreR K H2 (α2.take S'.length) S' := by
   have := s2.cut S'.length (by rw [<- e3]; exact e6)
   rw [<- e3] at this; exact this
 have x3 : Ext K H α H2 (α2.take S'.length) := ⟨x2.tups, fun n a q => by
   have hn : n < S'.length := by
     have := (zsX.mp q).1
     rw [hs.len] at this; omega
   rw [List.getElem?_take_of_lt hn]; exact x2.pre n a q⟩
 rcases e2 with rfl | ⟨rfl, rfl⟩
 . exact fun v rv => kk v H2 _ s3 x3 (rv.cut _ e5)
 . exact kk .non H2 _ s3 x3 .non
theorem zpt {x qual : Str} {st : Stmt} {f : Addr} {fd : FuncData} {ps : List Str} {k m : Nat} {fns : List (Str × Nat × GN)} {blt : List Str} {fb : SF} {φ : GN}
   (F : Fun K x qual st f fd) (hm : mg x = some (.ref f)) (hbd : Binds K fd ps []) (S : zp2 (zqD (zpB st).names) ps (zpB st)) (hu : (zpB st).names.all (fun y => decide ((zpB st).names.lookup y.1 = some y.2)) = true)
   (hfns : ∀ y n ψ, fns.lookup y = some (n, ψ) -> FnAt P w K mg base k y n ψ) (hblt : ∀ y ∈ blt, mg y = none)
   (hb : cSs m (mkC st fns blt) (zpN st) = some fb)
   (hφ : ∀ ds S₀ z S', WF S₀ -> ds.length = ps.length -> φ ds S₀ = some (z, S') -> zsW (fb (zp5 (zqD (zpB st).names) ds) S₀) z S₀ S') :
   FnAt P w K mg base (k + 1) x ps.length φ := ⟨f, fd, ps, hm, F.kp, hbd, zmu F S hu hfns hblt hb hφ⟩
end
section
variable {P : Program} {w : World} {K : PySem.W.Frag} {mg : Str -> Option Value} {base : Heap}
end
def spLaw (K : PySem.W.Frag) (n : Nat) : Sp := fun vs H Q _ => ∃ (a : Addr) (ns : List Int), vs = [.ref a] /\ FzL K H a (ns.map V.int) /\ ns.length <= n /\ ∀ H', Q (.bl true) H'
section
variable {P : Program} {w : World} {K : PySem.W.Frag} {mg : Str -> Option Value} {base : Heap}
def zrl (K : PySem.W.Frag) (n : Nat) (Pt : Addr) : Sp := fun vs H Q E => (∃ ps, H Pt = some (.tbl ps)) /\ spLaw K n vs H Q E
end
end MX
end
section
namespace MX
open PySem L2
theorem zdE {nx : Nat -> So -> Option (Option D)} {g : GF} {t : TF} {fe : EF} {S : So} {xs : List D} (T : Sg -> Prop) (p : D -> Bool) (h : D -> D) (hnx : ∀ i : Nat, nx i S = some xs[i]?)
   (hstep : ∀ d ∈ xs, ∀ τ, T τ -> ∃ τ', g d τ S = some (τ', S) /\ T τ' /\ t τ' S = some (p d, S) /\ (p d = true -> fe τ' S = some (h d, S))) :
   ∀ (n i : Nat) (τ : Sg) (acc : List D), T τ -> i + n = xs.length -> lcN nx g t fe n i τ S acc = some (acc ++ ((xs.drop i).filter p).map h, S)
 | 0, i, τ, acc, hT, hl => by
   unfold lcN
   rw [hnx, ztL (by omega), List.drop_of_length_le (by omega)]
   simp
 | n + 1, i, τ, acc, hT, hl => by
   have hi : i < xs.length := by omega
   unfold lcN
   rw [hnx, zts hi, List.drop_eq_getElem_cons hi]
   obtain ⟨τ', h1, h2, h3, h4⟩ := hstep xs[i] (List.getElem_mem hi) τ hT
   simp only [h1, zs6, h3]
   cases hp : p xs[i] with
   | false =>
     simp only [Bool.false_eq_true, if_false]
     rw [zdE T p h hnx hstep n (i + 1) τ' acc h2 (by omega), List.filter_cons_of_neg (by simp [hp])]
   | true =>
     simp only [if_true, h4 hp, zs6]
     rw [zdE T p h hnx hstep n (i + 1) τ' _ h2 (by omega), List.filter_cons_of_pos hp]
     simp
theorem zdF {nx : Nat -> So -> Option (Option D)} {g : GF} {f : SF} {xs : List D} (P : Nat -> Sg -> So -> Prop) (hnx : ∀ (i : Nat) σ S, P i σ S -> nx i S = some xs[i]?)
   (hstep : ∀ (i : Nat) d σ S, xs[i]? = some d -> P i σ S -> ∃ σ1 S1 fl σ2 S2, g d σ S = some (σ1, S1) /\ f σ1 S1 = some (fl, σ2, S2) /\ (fl = .nx \/ fl = .ct) /\ P (i + 1) σ2 S2) :
   ∀ (n i : Nat) (σ : Sg) (S : So), P i σ S -> i + n = xs.length -> ∃ σ' S', zqZ nx g f n i σ S = some (.nx, σ', S') /\ P xs.length σ' S'
 | 0, i, σ, S, hP, hl => by
   unfold zqZ
   rw [hnx i σ S hP, ztL (by omega)]
   have : i = xs.length := by omega
   subst this
   exact ⟨σ, S, rfl, hP⟩
 | n + 1, i, σ, S, hP, hl => by
   have hi : i < xs.length := by omega
   unfold zqZ
   rw [hnx i σ S hP, zts hi]
   obtain ⟨σ1, S1, fl, σ2, S2, h1, h2, h3, h4⟩ := hstep i xs[i] σ S (zts hi) hP
   obtain ⟨σ', S', e1, e2⟩ := zdF P hnx hstep n (i + 1) σ2 S2 h4 (by omega)
   refine ⟨σ', S', ?_, e2⟩
   simp only [h1, zs6, h2]
   rcases h3 with rfl | rfl <;> exact e1
theorem zfI (ns : List Int) : zqo (ns.map D.int) = some ns := by
 induction ns with
 | nil => rfl
 | cons n r ih => simp [zqo, ih]
end MX
end
section
namespace MX
open PySem PySem.Spec PyProof.Rows L2
def stD (n : Nat) (ds : List D) : Sg := ds.map some ++ List.replicate (n - ds.length) none
open Classical in
def fnOf (n : Nat) (fb : SF) : GN := fun ds S => match fb (stD n ds) S with
 | some (.rt z, _, S'') => if S''.take S.length = S /\ D.lo S.length z = true then some (z, S) else if S.length <= S''.length /\ D.lo S''.length z = true /\ WF S'' then some (z, S'') else none
 | some (.nx, _, S'') => if S''.take S.length = S then some (.non, S) else if S.length <= S''.length /\ WF S'' then some (.non, S'') else none
 | _ => none
theorem ziY {N : List Str} {n : Nat} {fb : SF} (hn : N.length = n) {ds : List D} {S : So} {z : D} {S' : So} (hS : WF S) (h : fnOf n fb ds S = some (z, S')) : zsW (fb (zp5 N ds) S) z S S' := by
 have e0 : zp5 N ds = stD n ds := by unfold zp5 stD; rw [hn]
 rw [e0]
 unfold fnOf at h
 split at h
 . rename_i z' σ' S'' e
   split at h
   . rename_i hc
     cases h
     exact ⟨_, _, _, e, .inl rfl, hc.1.symm, ztq _, hc.2, hS⟩
   . split at h
     . rename_i hc
       cases h
       exact ⟨_, _, _, e, .inl rfl, by simp, hc.1, hc.2.1, hc.2.2⟩
     . cases h
 . rename_i σ' S'' e
   split at h
   . rename_i hc
     cases h
     exact ⟨_, _, _, e, .inr ⟨rfl, rfl⟩, hc.symm, ztq _, by simp [D.lo], hS⟩
   . split at h
     . rename_i hc
       cases h
       exact ⟨_, _, _, e, .inr ⟨rfl, rfl⟩, by simp, hc.1, by simp [D.lo], hc.2⟩
     . cases h
 . cases h
theorem zaf {n : Nat} {fb : SF} {ds : List D} {S : So} {z : D} {σ' : Sg} {S' : So} (h : fb (stD n ds) S = some (.rt z, σ', S')) (hS : S'.take S.length = S) (hz : D.lo S.length z = true) : fnOf n fb ds S = some (z, S) := by
 unfold fnOf
 rw [h]
 simp only
 rw [if_pos ⟨hS, hz⟩]
theorem zdZ {n : Nat} {fb : SF} {ds : List D} {S : So} {z : D} {σ' : Sg} {S' : So} (h : fb (stD n ds) S = some (.rt z, σ', S')) (hne : ¬ (S'.take S.length = S /\ D.lo S.length z = true)) (hl : S.length <= S'.length) (hz : D.lo S'.length z = true) (hw : WF S') : fnOf n fb ds S = some (z, S') := by
 unfold fnOf
 rw [h]
 simp only
 rw [if_neg hne, if_pos ⟨hl, hz, hw⟩]
def DefK (K : PySem.W.Frag) (x : Str) (st : Stmt) : Prop := ∃ f fd, PySem.W.nsIn K mainGlobals x = some (some (.ref f)) /\ Fun K x x st f fd
theorem DefK.mk' {K : PySem.W.Frag} {x : Str} {st : Stmt} {f : Addr} {oc : Value} {od an : Option Addr} {osl : Array (Option Value)} {kV doc pm cdv ct : Value} (a : PySem.W.nsIn K mainGlobals x = some (some (.ref f)))
   (l : K.lookup f = some ⟨oc, od, .func (PySem.W.fnOf x x (zp4 st) (zpN st) (zpB st) .none kV doc pm an cdv ct), osl⟩)
   (c : PySem.W.codeIn K cdv x = true) (k : PySem.W.keepIn K (.ref f) = true) : DefK K x st := ⟨f, _, a, zoo l c k⟩
def FnsOk (P : Program) (w : World) (K : PySem.W.Frag) (mg : Str -> Option Value) (base : Heap) (k : Nat) (fns : List (Str × Nat × GN)) : Prop := ∀ y n ψ, fns.lookup y = some (n, ψ) -> FnAt P w K mg base k y n ψ
section
variable {P : Program} {w : World} {K : PySem.W.Frag} {mg : Str -> Option Value} {base h : Heap}
theorem FnsOk.nil {k : Nat} : FnsOk P w K mg base k [] := fun _ _ _ e => by cases e
theorem FnsOk.snoc {k n : Nat} {x : Str} {φ : GN} {fns : List (Str × Nat × GN)} (hs : FnsOk P w K mg base k fns) (h : FnAt P w K mg base (k + 1) x n φ) : FnsOk P w K mg base (k + 1) ((x, n, φ) :: fns) := fun y m ψ e => by
 rw [ztI] at e
 split at e
 . rename_i q
   cases e
   have : y = x := by simpa using q
   subst this
   exact h
 . exact (hs y m ψ e).mono (Nat.le_succ _)
def zq1 (x : Str) (st : Stmt) (ps : List Str) : Prop := ∀ (kV doc pm : Value) (an : Option Addr) (cdv ct : Value) (us : List Value), us.length = ps.length -> bindArgs (PySem.W.fnOf x x (zp4 st) (zpN st) (zpB st) .none kV doc pm an cdv ct) ⟨us, []⟩ = pure (ps.zip us)
theorem zqv {x : Str} {st : Stmt} {p0 : Str} (h : ∀ (kV doc pm : Value) (an : Option Addr) (cdv ct : Value) (u0 : Value), bindArgs (PySem.W.fnOf x x (zp4 st) (zpN st) (zpB st) .none kV doc pm an cdv ct) ⟨[u0], []⟩ = pure ([p0].zip [u0])) : zq1 x st [p0] := fun kV doc pm an cdv ct us hl => match us, hl with
 | [u0], _ => h kV doc pm an cdv ct u0
theorem zqb {x : Str} {st : Stmt} {p0 p1 : Str} (h : ∀ (kV doc pm : Value) (an : Option Addr) (cdv ct : Value) (u0 u1 : Value), bindArgs (PySem.W.fnOf x x (zp4 st) (zpN st) (zpB st) .none kV doc pm an cdv ct) ⟨[u0, u1], []⟩ = pure ([p0, p1].zip [u0, u1])) : zq1 x st [p0, p1] := fun kV doc pm an cdv ct us hl => match us, hl with
 | [u0, u1], _ => h kV doc pm an cdv ct u0 u1
theorem zrS {x : Str} {st : Stmt} {p0 p1 p2 : Str} (h : ∀ (kV doc pm : Value) (an : Option Addr) (cdv ct : Value) (u0 u1 u2 : Value), bindArgs (PySem.W.fnOf x x (zp4 st) (zpN st) (zpB st) .none kV doc pm an cdv ct) ⟨[u0, u1, u2], []⟩ = pure ([p0, p1, p2].zip [u0, u1, u2])) : zq1 x st [p0, p1, p2] := fun kV doc pm an cdv ct us hl => match us, hl with
 | [u0, u1, u2], _ => h kV doc pm an cdv ct u0 u1 u2
theorem zas {x : Str} {st : Stmt} {ps : List Str} {k m n : Nat} {fns : List (Str × Nat × GN)} {blt : List Str} {fb : SF} (hs : FnsOk P w K mg base k fns) (KX : K.In h) (G : h.Ns mainGlobals mg) (hblt : ∀ y ∈ blt, mg y = none)
   (hD : DefK K x st) (hb0 : zq1 x st ps) (S : zp2 (zqD (zpB st).names) ps (zpB st)) (hu : (zpB st).names.all (fun y => decide ((zpB st).names.lookup y.1 = some y.2)) = true)
   (hn : (zqD (zpB st).names).length = n) (hb : cSs m (mkC st fns blt) (zpN st) = some fb) : FnsOk P w K mg base (k + 1) ((x, ps.length, fnOf n fb) :: fns) := by
 obtain ⟨f, fd, a, F⟩ := hD
 exact hs.snoc (zpt F (PySem.W.mg_of KX G a) (F.binds hb0) S hu hs hblt hb fun ds S₀ z S' hw _ e => ziY hn hw e)
def zsf (K : PySem.W.Frag) (x : Str) (st : Stmt) (c : Addr) : Prop := ∃ f fd, PySem.W.nsIn K mainGlobals x = some (some (.ref f)) /\ Fun K x x st f fd /\ fd.code = .ref c
theorem zkI {blt : List Str} (KX : K.In h) (G : h.Ns mainGlobals mg) (hz : ∀ y ∈ blt, PySem.W.nsIn K mainGlobals y = some none) : ∀ y ∈ blt, mg y = none := fun y hy => PySem.W.mg_none_of KX G (hz y hy)
end
end MX
end
section
namespace MX
open PySem PySem.Spec PySem.W PyProof.Rows L2
section
variable {P : Program} {w : World} {K : PySem.W.Frag} {mg mb : Str -> Option Value}
theorem ziJ {k : Nat} {fa a : Addr} {fd : FuncData} {x : Str} {s₁ : Shared} {vs : List Value} {ns : List Int} {c Pt : Addr}
   (KX : K.In s₁.heap) (hns : s₁.heap.Ns mainGlobals mg) (hb : s₁.heap.Ns builtinsNs mb) (hbb : ∀ x : Str, x ≠ "__name__" -> mb x = bootBuiltins x) (hlim : s₁.heap.NoLimit) (hg : s₁.gens = #[])
   (ha : s₁.heap.get? a = some { cls := .type "list", data := .seq vs.toArray }) (hi : IntsAre vs ns) (hl : ns.length <= 63) (hr : Room k callerA)
   (hP : s₁.heap.get? Pt = some (tabObj #[])) (hKP : K.lookup Pt = none) (C : CodeHd s₁.heap c Pt) (hbm : BM s₁.heap mg)
   (F : ∀ base : Heap, Mod K mg base -> CodeHd base c Pt -> BM base mg -> FnOk P w K mg base CX0 k fa fd [x] (zrl K 63 Pt)) (hbind : ∀ (s : Shared) (u : Value), BindsTo s fd ⟨[u], []⟩ [(x, u)]) :
   codeAny (model P w) callerA (.call (.ref fa) ⟨[.ref a], []⟩) (fun r s' => r = .ok (.ret (.bool true)) /\ OldK s₁.heap s'.heap /\ s'.os = s₁.os /\ AllBare s'.gens) s₁ := by
 have rv := zfy hi
 have lenV := hi.length
 have hPa : Pt ≠ a := fun z => by rw [z, ha] at hP; cases hP
 have hl' : ns.length <= sizeLine := Nat.le_trans hl (by rw [sizeLine_eq]; decide)
 have core : ∀ H : Hp, FzL K H a (ns.map V.int) -> HOk P w H s₁.heap -> H Pt = some (.tbl #[]) -> (∀ b, b ≠ Pt -> H b = none \/ (b = a /\ K.lookup a = none /\ ∃ o xs, H b = some (.frz o (.lst xs)))) ->
     codeAny (model P w) callerA (.call (.ref fa) ⟨[.ref a], []⟩) (fun r s' => r = .ok (.ret (.bool true)) /\ OldK s₁.heap s'.heap /\ s'.os = s₁.os /\ AllBare s'.gens) s₁ := by
   intro H hS hok hT hO
   have base_of : ∀ {b : Addr} {o : Obj}, s₁.heap.get? b = some o -> H b = none -> (zrM s₁.heap H).get? b = some o := fun e n => zkr e n
   have none_of : ∀ {b : Addr} {o : Obj}, s₁.heap.get? b = some o -> o ≠ tabObj #[] -> o ≠ { cls := .type "list", data := .seq vs.toArray } -> H b = none := fun {b o} e n1 n2 => by
     by_cases hb : b = Pt
     . subst hb; rw [hP] at e; cases e; exact absurd rfl n1
     . rcases hO b hb with z | ⟨z, _⟩
       . exact z
       . subst z; rw [ha] at e; cases e; exact absurd rfl n2
   have noA : ∀ {b : Addr} {o : Obj} {es : Array DictEntry} {ep : Nat}, s₁.heap.get? b = some o -> o.data = .dict es ep -> H b = none := fun {b o es ep} e d =>
     none_of e (fun z => by rw [z] at d; cases d) (fun z => by rw [z] at d; cases d)
   have nsK : ∀ {b : Addr} {m : Str -> Option Value}, s₁.heap.Ns b m -> (zrM s₁.heap H).Ns b m := fun {b m} ⟨o, es, ep, e, d, r⟩ => ⟨o, es, ep, base_of e (noA e d), d, r⟩
   have hKb : K.In (zrM s₁.heap H) := fun b o e => base_of (KX b o e) (by
     by_cases hb : b = Pt
     . subst hb; rw [hKP] at e; cases e
     . rcases hO b hb with z | ⟨z, z2, _⟩
       . exact z
       . subst z; rw [z2] at e; cases e)
   have hM : Mod K mg (zrM s₁.heap H) := ⟨hKb, nsK hns, ⟨mb, nsK hb, hbb⟩, let ⟨mc, h1, h2⟩ := hlim; ⟨mc, nsK h1, h2⟩⟩
   have e0 : zsV P w K mg (zrM s₁.heap H) callerA [] s₁ H := ⟨rfl, hM, fun b o e => zmb e, Nat.le_of_eq (ziT _ _), trivial, fun b hb => absurd (show b ∈ ([] : List Addr) from hb) (by simp), hok, .of_eq hg⟩
   have hC : CodeHd (zrM s₁.heap H) c Pt := by
     obtain ⟨o, vs', file, tf, flags, tg, inF, text, tt, e, hc1, hc2, r⟩ := C
     exact ⟨o, vs', file, tf, flags, tg, inF, text, tt, base_of e (none_of e (fun z => by rw [z] at hc1; cases hc1) (fun z => by rw [z] at hc1; exact absurd (Value.type.inj hc1) (by decide))), hc1, hc2, r⟩
   have hB : BM (zrM s₁.heap H) mg := by
     obtain ⟨bm, o, h1, h2, h3, h4, h5, h6⟩ := hbm
     exact ⟨bm, o, h1, h2, base_of h3 (none_of h3 (fun z => by rw [z] at h4; cases h4) (fun z => by rw [z] at h4; exact absurd (Value.type.inj h4) (by decide))), h4, h5, h6⟩
   have hsp : zrl K 63 Pt [.ref a] H (fun v _ => v = .bl true) fun _ _ _ => False := ⟨⟨_, hT⟩, a, ns, rfl, hS, hl, fun _ => rfl⟩
   refine codeAny_mono ((F _ hM hC hB).run callerA [] s₁ H ⟨[.ref a], []⟩ [.ref a] [.ref a] _ _ hr e0 (hbind s₁ (.ref a)) (.cons rfl .nil) hsp) fun r s' h => ?_
   cases r with
   | error e => exact h.elim
   | ok fl =>
     cases fl with
     | next => exact False.elim h
     | brk => exact False.elim h
     | cont => exact False.elim h
     | ret u =>
       obtain ⟨v, H', os, bare, un, hok', r', q⟩ := h
       have q' : v = .bl true := q
       subst q'
       obtain rfl : u = Value.bool true := r'
       have kept : ∀ b o, b ≠ Pt -> s₁.heap.get? b = some o -> s'.heap.get? b = some o := fun b o hb e => by
         rcases hO b hb with z | ⟨_, _, ob, xs, z⟩
         . exact un.keep b o e z (by intro z; exact absurd (show b ∈ ([] : List Addr) from z) (by simp)) (by simp)
         . have z2 := un.frzs b ob _ z
           obtain ⟨e1, _⟩ := hok b _ z
           obtain ⟨e2, _⟩ := hok' b _ z2
           rw [e] at e1; cases e1
           exact e2
       obtain ⟨more, hm⟩ := un.tbls Pt _ hT
       obtain ⟨em, _⟩ := hok' Pt _ hm
       refine ⟨rfl, ⟨fun b o e => ?_, fun b o e => ?_⟩, os, bare⟩
       . by_cases hb : b = Pt
         . subst hb
           rw [hP] at e; cases e
           exact .inr (.inl ⟨(C.tab hP).isCodeTable, rfl, #[], more, rfl, em⟩)
         . exact .inl (kept b o hb e)
       . by_cases hb : b = Pt
         . subst hb; exact ⟨_, em⟩
         . exact ⟨o, kept b o hb e⟩
 have tabOk : ∀ H : Hp, ObjOk P w H s₁.heap Pt (.tbl #[]) := fun H => ⟨hP, trivial, fun pos cv q => by simp [codeAmong] at q⟩
 cases hk : K.lookup a with
 | some o =>
   have e := KX a o hk
   rw [ha] at e
   cases e
   refine core (fun b => if b = Pt then some (.tbl #[]) else none) (.inr ⟨_, vs.toArray, _, hk, rfl, rfl, rfl, by rw [zs8, lenV]; exact hl', by simpa using rv⟩) (fun b u z => ?_) (if_pos rfl) (fun b hb => .inl (if_neg hb))
   by_cases hb : b = Pt
   . have z' := (if_pos hb).symm.trans z
     cases z'; subst hb
     exact tabOk _
   . have z' := (if_neg hb).symm.trans z
     cases z'
 | none =>
   refine core (fun b => if b = Pt then some (.tbl #[]) else if b = a then some (.frz { cls := .type "list", data := .seq vs.toArray } (.lst (ns.map V.int))) else none) (.inl ⟨{ cls := .type "list", data := .seq vs.toArray }, (if_neg (Ne.symm hPa)).trans (if_pos rfl)⟩) (fun b u z => ?_) (if_pos rfl) (fun b hb => ?_)
   . by_cases hb : b = Pt
     . have z' := (if_pos hb).symm.trans z
       cases z'; subst hb
       exact tabOk _
     . have z1 := (if_neg hb).symm.trans z
       by_cases hba : b = a
       . have z' := (if_pos hba).symm.trans z1
         cases z'
         subst hba
         exact ⟨ha, by rw [zs7]; exact hl', vs, _, rv, ha⟩
       . have z' := (if_neg hba).symm.trans z1
         cases z'
   . by_cases hba : b = a
     . exact .inr ⟨hba, hk, _, _, (if_neg hb).trans (if_pos hba)⟩
     . exact .inl ((if_neg hb).trans (if_neg hba))
end
end MX
end
section
namespace MX
open PySem PySem.Spec PySem.W PyProof.Rows L2
theorem zeO : ∀ (os : List Obj) (b a : Nat) (o : Obj), (zqh os b).lookup a = some o -> b <= a /\ os[a - b]? = some o /\ zsa a o = true
 | [], _, _, _, e => by cases e
 | o' :: r, b, a, o, e => by
   have low : (zqh r (Nat.succ b)).lookup a = some o -> b <= a /\ (o' :: r)[a - b]? = some o /\ zsa a o = true := fun e => by
     obtain ⟨h1, h2, h3⟩ := zeO r (Nat.succ b) a o e
     refine ⟨by omega, ?_, h3⟩
     have : a - b = (a - Nat.succ b) + 1 := by omega
     rw [this, List.getElem?_cons_succ]
     exact h2
   unfold zqh at e
   cases q : zsa b o' with
   | false => rw [q] at e; exact low e
   | true =>
     rw [q] at e
     simp only [cond_true, ztI] at e
     cases z : a == b with
     | false => rw [z] at e; exact low e
     | true =>
       rw [z] at e
       cases e
       have z' : a = b := by simpa using z
       subst z'
       exact ⟨ztq _, by rw [Nat.sub_self]; rfl, q⟩
theorem ziW (h : Heap) : (zqG h).In h := fun a o e => by
 obtain ⟨_, h2, h3⟩ := zeO _ _ _ _ e
 rw [Nat.sub_zero, Array.getElem?_toList] at h2
 unfold Heap.get?
 rw [h2]
 obtain ⟨c, d, dt, sl⟩ := o
 cases dt <;> first | rfl | (exact absurd h3 (by intro z; cases z))
theorem zpx (s : Stmt) : dA s = zp4 s := by cases s <;> rfl
theorem zpw (s : Stmt) : dB s = zpN s := by cases s <;> rfl
theorem zpv (s : Stmt) : dS s = zpB s := by cases s <;> rfl
theorem DefK.of_seen {K : PySem.W.Frag} {x : Str} {st : Stmt} (h : zqV K x = some (dA st, dB st, dS st, true)) : DefK K x st := by
 rw [zpx, zpw, zpv] at h
 unfold zqV at h
 split at h
 . rename_i f a
   split at h
   . rename_i oc od n q ps b sc g kV doc pm an cd ct bn osl l
     simp only [Option.some.injEq, Prod.mk.injEq, zs5, beq_iff_eq] at h
     obtain ⟨e1, e2, e3, e4, e5, e6, e7, e8, e9⟩ := h
     have e6 := Nat.eq_of_beq_eq_true e6
     have e7 := Nat.eq_of_beq_eq_true e7
     subst e1 e2 e3 e4 e5 e6 e7
     exact DefK.mk' a l e8 e9
   . cases h
 . cases h
theorem zgc {K : PySem.W.Frag} {h : Heap} {x : Str} {st : Stmt} (D : DefK K x st) (e : zqW K h x = (some (tabObj #[]), true)) :
   ∃ c Pt : Addr, zsf K x st c /\ codeHdIn K c Pt = true /\ K.lookup Pt = none /\ h.get? Pt = some (tabObj #[]) := by
 obtain ⟨f, fd, a, F⟩ := D
 unfold zqW at e
 rw [a] at e
 simp only at e
 split at e
 . rename_i oc od F' osl l
   split at e
   . rename_i c hc
     split at e
     . rename_i c1 d1 vs s1 lc
       split at e
       . rename_i Pt hv
         simp only [Prod.mk.injEq, zs5] at e
         obtain ⟨e1, e2, e3⟩ := e
         refine ⟨c, Pt, ⟨f, fd, a, F, ?_⟩, e2, ?_, e1⟩
         . obtain ⟨oc', od', kV, doc, pm, an, cdv, ct, osl', hfd, hl, _⟩ := F.ex
           rw [l] at hl
           cases hl
           exact hc
         . cases q : K.lookup Pt with
           | none => rfl
           | some o => rw [q] at e3; cases e3
       . cases e
     . cases e
   . cases e
 . cases e
def zqU (ds : List (Str × Stmt)) (blt : List Str) (x : Str) (st : Stmt) : Hook where
 α := ((List (Option (Arguments × List Stmt × Scope × Bool)) × List (Option (Option Value))) × Option (Arguments × List Stmt × Scope × Bool) × (Option Obj × Bool)) × Bool
 obs := obsX ds blt x
 val := fun _ => valX ds blt st
 says := fun _ h => ∃ K : PySem.W.Frag, K.In h /\ (((∀ y ∈ ds, DefK K y.1 y.2) /\ ∀ y ∈ blt, nsIn K mainGlobals y = some none) /\ excB K = true) /\ ∃ c Pt : Addr, zsf K x st c /\ codeHdIn K c Pt = true /\ K.lookup Pt = none /\ h.get? Pt = some (tabObj #[])
 of := fun _ s e0 => let e := (Prod.mk.inj e0).1; ⟨zqG s.heap, ziW _, ⟨⟨fun y hy => DefK.of_seen (List.map_inj_left.mp (Prod.mk.inj (Prod.mk.inj e).1).1 y hy), List.map_inj_left.mp (Prod.mk.inj (Prod.mk.inj e).1).2⟩, (Prod.mk.inj e0).2⟩,
   zgc (DefK.of_seen (Prod.mk.inj (Prod.mk.inj e).2).1) (Prod.mk.inj (Prod.mk.inj e).2).2⟩
 keeps := fun _ _ _ ⟨K, a, b, c, Pt, z1, z2, z3, z4⟩ k => ⟨K, a.keeps k, b, c, Pt, z1, z2, z3, k _ _ z4⟩
theorem zhS {l : PySem.W.OpenLaw} {q : Program} {loose : List Str} {XP : (Str -> Option Value) -> Heap -> Prop} {d : DefRec} {x y : Str} {k : Nat} {ds : List (Str × Stmt)} {blt : List Str} {st : Stmt} (hn : l.most = some 63) (hdf : d.params.defaults = []) (hr : Room k callerA)
   (F : ∀ (w : World) (mg : Str -> Option Value) (fa : Addr) (h : Heap) (K : PySem.W.Frag) (c Pt : Addr), K.In h -> h.Ns mainGlobals mg -> mg d.name = some (.ref fa) -> (∀ y ∈ ds, DefK K y.1 y.2) -> (∀ y ∈ blt, nsIn K mainGlobals y = some none) -> excB K = true -> zsf K y st c ->
     (∀ h : Heap, K.In h -> CodeHd h c Pt) ->
     ∃ (fd : FuncData) (c : Addr), (∀ h : Heap, K.In h -> CodeHd h c Pt) /\ (∀ (s : Shared) (u : Value), BindsTo s fd ⟨[u], []⟩ [(x, u)]) /\ ∀ base : Heap, Mod K mg base -> CodeHd base c Pt -> BM base mg -> FnOk l.prog w K mg base CX0 k fa fd [x] (zrl K 63 Pt)) :
   PySem.W.WalkO q loose XP (zqU ds blt y st).says l.row.toRowW d [] (fun f vs => PySem.call f vs) := by
 refine Att.zgD hn hdf fun w s₀ s₁ mg mb fa o pm cd doc a vs ns G Y ho hd hcd hmg hobj hints hlen hg => ?_
 obtain ⟨K, KX, ⟨⟨hD, hB⟩, hX⟩, c0, Pt, z1, z2, z3, z4⟩ := Y
 obtain ⟨fd, c, hC, hb, hF⟩ := F w mg fa _ K c0 Pt KX G.T.g hmg hD hB hX z1 (fun h X => codeHd_of_K X z2)
 have hbm : BM s₁.heap mg := by
   obtain ⟨bm, ob, b1, b2, b3, b4, b5, b6⟩ := G.T.bmain
   exact ⟨bm, ob, b1, b2, b3, b4, b5, b6⟩
 exact ziJ KX G.T.g G.T.b G.T.builtins G.T.nolimit hg hobj hints hlen hr z4 z3 (hC _ KX) hbm hF hb
theorem zmn {l : PySem.W.OpenLaw} {q : Program} {d : DefRec} {H : Hook} {N : Nat} (said0 : l.wellSaid = true)
   (left : LeftO l.prog q [] (fun _ => true) H.obs H.val N) (hdef : defOf q l.name = some (d, [])) (hp : l.prog.theDef l.name = some (d.params, d.body, d.scope))
   (hk : kwWritten? d.params.kwonlyargs d.params.kw_defaults = some []) (ok : (chainsOk q && opensWell l.prog && (frees l.row.toRowW && l.row.within.isEmpty)) = true) (hb : l.prog.bare) (hw : l.row.toRowW.promised)
   (call : PySem.W.WalkO q [] (fun _ _ => True) H.says l.row.toRowW d [] fun f vs => PySem.call f vs) : l.Holds := by
 refine holds_law said0 fun said => ?_
 refine holds_open (r := l.row) (Xt := fun _ => true) (XP := fun _ _ => True) left H.of H.keeps ?_ ?_ hdef hp hk ?_ ?_ said ok hb hw call
 . exact fun _ _ => trivial
 . exact fun _ _ _ _ _ => trivial
 . exact fun s _ => recFacts_of (R := []) rfl
 . show (!l.row.writes || true) = true
   exact Bool.or_true _
end MX
end
section
namespace MX
open PySem PySem.Spec PySem.W PyProof.Rows L2
abbrev XN := List D -> So -> Option Str
abbrev XF := Sg -> So -> Option (Str × So)
def Kx (K : PySem.W.Frag) (mg : Str -> Option Value) (H : Hp) (α : List Addr) (S : So) (y : Str) (E : XK) : Prop := ∃ C, mg y = some (.ref C) /\ ∀ H' α', StoreR K H' α' S -> Ext K H α H' α' -> E (.ref C) none H'
theorem Kx.trans {K : PySem.W.Frag} {mg : Str -> Option Value} {H H1 : Hp} {α α1 : List Addr} {S : So} {y : Str} {E : XK} (k : Kx K mg H α S y E) (e : Ext K H α H1 α1) : Kx K mg H1 α1 S y E := let ⟨C, h1, h2⟩ := k; ⟨C, h1, fun H' α' s x => h2 H' α' s (e.trans x)⟩
def tXE (K : PySem.W.Frag) (mg : Str -> Option Value) (g : XF) (E : XK) : TE := fun σ H _ => ∃ σd S α y S', VarsR K H α σd σ /\ StoreR K H α S /\ g σd S = some (y, S') /\ Kx K mg H α S' y E
def tX (K : PySem.W.Frag) (mg : Str -> Option Value) (g : XF) (E : XK) : TS := fun _ σ H => ∃ σd S α y S', VarsR K H α σd σ /\ StoreR K H α S /\ g σd S = some (y, S') /\ Kx K mg H α S' y E
def spX (K : PySem.W.Frag) (mg : Str -> Option Value) (n : Nat) (ξ : XN) : Sp := fun vs H _ E => vs.length = n /\ ∃ S α ds y, StoreR K H α S /\ Reps K H α ds vs /\ ξ ds S = some y /\ Kx K mg H α S y E
def FnAtX (P : Program) (w : World) (K : PySem.W.Frag) (mg : Str -> Option Value) (base : Heap) (k : Nat) (x : Str) (n : Nat) (ξ : XN) : Prop :=
 ∃ f fd ps, mg x = some (.ref f) /\ keepIn K (.ref f) = true /\ Binds K fd ps [] /\ FnOk P w K mg base (CXx P w) k f fd ps (spX K mg n ξ)
def zrU (X : Cx) (x : Str) (n : Nat) (ξ : XN) : Prop := ∃ k, FnAtX X.prog X.w X.K X.mg X.base k x n ξ /\ Room k X.A
def xNo : XF := fun _ _ => none
def xIf (t : TF) (a b : XF) : XF := fun σ S => (t σ S).bind fun r => if r.1 = true then a σ r.2 else b σ r.2
def xSeq (f : SF) (g h : XF) : XF := fun σ S => match g σ S with
 | some r => some r
 | none => match f σ S with
   | some (.nx, σ', S') => h σ' S'
   | _ => none
def zrb (n : Nat) (ξ : XN) (fa : AF) : XF := fun σ S => (fa σ S).bind fun r => if r.1.length = n then (ξ r.1 r.2).map fun y => (y, r.2) else none
section
variable {X : Cx} {E : XK} {st : Stmt} {rest a b : List Stmt} {c e : Expr} {pos p : Pos} {f : SF} {g h : XF} {t : TF}
theorem zoW : PS X st (tX X.K X.mg xNo E) := fun _ _ _ _ _ _ h => by
 obtain ⟨_, _, _, _, _, _, _, hf, _⟩ := h
 cases hf
theorem zhW : PSs X rest (tX X.K X.mg xNo E) := fun _ _ _ _ _ _ h => by
 obtain ⟨_, _, _, _, _, _, _, hf, _⟩ := h
 cases hf
theorem zle (hc : ST X c t) (ha : PSs X a (tX X.K X.mg g E)) (hb : PSs X b (tX X.K X.mg h E)) : PS X (.If c a b pos) (tX X.K X.mg (xIf t g h) E) := by
 refine PS.imp (zlJ hc ha hb) fun D σ H hh => ?_
 obtain ⟨σd, S, α, y, S', hv, hs, hf, k⟩ := hh
 unfold xIf at hf
 obtain ⟨⟨b1, S1⟩, e1, e2⟩ := oBs.mp hf
 refine ⟨σd, S, α, b1, S1, hv, hs, e1, fun H1 α1 s1 x1 => ?_⟩
 cases b1 with
 | true => exact ⟨σd, S1, α1, y, S', hv.mono x1, s1, e2, k.trans x1⟩
 | false => exact ⟨σd, S1, α1, y, S', hv.mono x1, s1, e2, k.trans x1⟩
theorem zkL (h1 : SS X st f) (h2 : PS X st (tX X.K X.mg g E)) (h3 : PSs X rest (tX X.K X.mg h E)) : PSs X (st :: rest) (tX X.K X.mg (xSeq f g h) E) := by
 have hn := zbY h1 h3
 have hx := zbY h2 h3
 intro pins s σ H D I hh
 obtain ⟨σd, S, α, y, S', hv, hs, hf, k⟩ := hh
 unfold xSeq at hf
 cases eg : g σd S with
 | some r =>
   rw [eg] at hf
   cases hf
   exact hx pins s σ H D I ⟨σd, S, α, y, S', hv, hs, eg, k⟩
 | none =>
   rw [eg] at hf
   simp only at hf
   split at hf
   . rename_i σ1 S1 e1
     exact hn pins s σ H D I ⟨σd, S, α, .nx, σ1, S1, hv, hs, e1, fun σ' H' α' v' s' x' => ⟨σ1, S1, α', y, S', v', s', hf, k.trans x'⟩⟩
   . cases hf
theorem zlf (he : PE X e (tXE X.K X.mg g E)) (hs : swapsWith e none pos.line X.env = pure false) : PS X (.Expr e pos) (tX X.K X.mg g E) := PS.imp (zic he hs) fun _ _ _ h => h
theorem zm9 (he : PE X e (tXE X.K X.mg g E)) : PS X (.Return (some e) pos) (tX X.K X.mg g E) := PS.imp (zfC he) fun _ _ _ h => h
theorem zk3 {x : Str} {es : List Expr} {n : Nat} {ξ : XN} {fa : AF} (hx : zsS X E) (hg : Gl X x) (hF : zrU X x n ξ) (ha : SA X (e :: es) fa) (hdb : (x == ("__debug__" : Str)) = false) (he : starEach (e :: es) X.env = (false, eval e X.env) :: starEach es X.env)
   (hpl : (backTo pos (starEach es X.env)).any (·.1) = false) : PE X (.Call (.Name x p) (e :: es) [] pos) (tXE X.K X.mg (zrb n ξ fa) E) := by
 obtain ⟨k, ⟨fa', fd, ps, hm, hk, hb, F⟩, hr⟩ := hF
 refine PE.imp (zil F hr hg hm hk hb .nil hx.pass ha hdb he hpl) fun σ H Q hh => ?_
 obtain ⟨σd, S, α, y, S', hv, hs, hf, kk⟩ := hh
 unfold zrb at hf
 obtain ⟨⟨ds, S1⟩, e1, e2⟩ := oBs.mp hf
 split at e2
 . rename_i hl
   obtain ⟨y', e3, e4⟩ := oMs.mp e2
   cases e4
   refine ⟨σd, S, α, ds, _, hv, hs, e1, fun vs H1 α1 s1 x1 r1 => ⟨by rw [List.append_nil, <- r1.length]; exact hl, _, α1, ds, y, s1, by rw [List.append_nil]; exact r1, e3, kk.trans x1⟩⟩
 . cases e2
end
theorem zgt {K : PySem.W.Frag} {h : Heap} {C : Addr} {bmB : List Value} {newId : String} (X : K.In h) (q : excIn K C bmB newId = true) :
   ∃ nm qn N bs bm hd sn sub ab col dd k0 k1 k2 k3 k5 mN, h.get? C = some (excClassObj nm qn C N bs bm hd sn sub ab col dd k0 k1 k2 k3 k5 newId) /\ h.Ns N mN /\ mN "__init__" = none /\ OwnTail h bmB bm /\
     ∃ o cd, K.lookup C = some o /\ o.data = .cls cd /\ cd.mro = .ref C :: bm := by
 unfold excIn at q
 split at q
 . rename_i dd cd sl ho
   split at q
   . rename_i C' bm k0 k1 k2 k3 n k5 hm hs
     simp only [zs5, beq_iff_eq, Bool.not_eq_true'] at q
     obtain ⟨⟨⟨⟨⟨q1, q2⟩, q3⟩, q4⟩, q5⟩, q6⟩ := q
     subst q1 q2
     have hsl : sl = #[k0, k1, k2, k3, some (.builtin n), k5] := Array.toList_inj.mp hs
     refine ⟨cd.name, cd.qualname, cd.ns, cd.bases, bm, cd.hasDict, cd.slotNames, cd.subclasses, cd.abstract, cd.collection, dd, k0, k1, k2, k3, k5, h.nsMap cd.ns, ?_, .of_isNs (isNs_of_in X q5), nsMap_none_of_in X q5 q6, tail_of_in X q4, _, cd, ho, rfl, hm⟩
     rw [X _ _ ho, hsl]
     obtain ⟨a1, a2, a3, a4, a5, a6, a7, a8, a9, a10, a11⟩ := cd
     cases q3
     cases hm
     rfl
   . cases q
 . cases q
structure ExcK (K : PySem.W.Frag) (mg : Str -> Option Value) (x : Str) (C : Addr) : Prop where
 mg : mg x = some (.ref C)
 cls : excIn K C veMro "ValueError.__new__" = true
section
variable {X : Cx} {E : XK} {e : Expr} {p cpos pos : Pos} {fe : EF} {x : Str} {C : Addr}
theorem zjJ (hx : zsS X E) (hc : X.calm = true) (hg : Gl X x) (hK : ExcK X.K X.mg x C) (ha : SE X e fe) (he : zpW e = true) (hdb : (x == ("__debug__" : Str)) = false) :
   PS X (.Raise (some (.Call (.Name x p) [e] [] cpos)) none pos) (tX X.K X.mg (fun σ S => (fe σ S).map fun r => (x, r.2)) E) := by
 intro pins s σ H D I hh
 obtain ⟨σd, S, α, y, S', hv, hs, hf, kk⟩ := hh
 obtain ⟨⟨d, S1⟩, e1, e2⟩ := oMs.mp hf
 cases e2
 obtain ⟨C', hC', kk⟩ := kk
 rw [hK.mg] at hC'
 cases hC'
 obtain ⟨nm, qn, N, bs, bm, hd, sn, sub, ab, col, dd, k0, k1, k2, k3, k5, mN, o1, o2, o3, o4, _⟩ := zgt I.mod.kin hK.cls
 have hst : starEach [e] X.env = (false, eval e X.env) :: [] := zaD he [] X.env
 refine wpAny_Raise_call_subT (nm := nm) (q := qn) (C := C) (N := N) (bs := bs) (bm := bm) (hdct := hd) (sn := sn) (sub := sub) (ab := ab) (col := col) (dd := dd) (k0 := k0) (k1 := k1) (k2 := k2) (k3 := k3) (k5 := k5) (mN := mN) PySem.F.excBase_ValueError (o4.hasType PySem.F.excBase_ValueError.hasBase) (I.ok.hd hc) (by rw [hst]; rfl) o3 (zdX I hg hK.mg ⟨rfl, ?_⟩ hdb)
 rw [hst]
 refine PySem.Calls.evalArgs_plain (Calls.spliced_cons (thn (ha pins s σ H (fun _ H1 => ∃ α1, StoreR X.K H1 α1 S1 /\ Ext X.K H α H1 α1) I ⟨σd, S, α, d, _, hv, hs, e1, fun v H1 α1 s1 x1 r1 => ⟨α1, s1, x1⟩⟩) fun u s1 ⟨v, H1, I1, r1, α1, t1, x1⟩ => Calls.spliced_nil ?_))
 exact ⟨rfl, by show 1 <= sizeLine; decide, I1.bk _ _ o1, o2.keeps I1.bk, o4.keeps I1.bk, fun h' e hm => hx.made pins σ H1 s1 h' e C _ I1 hm (kk H1 α1 t1 x1)⟩
end
end MX
end
section
namespace MX
open PySem PySem.Spec PySem.W PyProof.Rows L2
theorem PS.nox {X : Cx} {st : Stmt} {t : TS} (h : PS X.nox st t) : PS X st t := fun pins s σ H D I hw =>
 zto (h pins s σ H D (I.wish _) hw) (fun _ _ q => q.unwish) fun _ _ z => False.elim z
def zrR (e : Expr) : Option (Str × List Expr) := match e with
 | .Call f es kws _ => match f with
   | .Name x _ => match kws with
     | [] => some (x, es)
     | _ :: _ => none
   | _ => none
 | _ => none
theorem zfU {e : Expr} {x : Str} {es : List Expr} (h : zrR e = some (x, es)) : ∃ p pos, e = .Call (.Name x p) es [] pos := by
 cases e with
 | Call f es' kws pos => cases f with
   | Name y p => cases kws with
     | nil => cases h; exact ⟨p, pos, rfl⟩
     | cons _ _ => cases h
   | _ => cases h
 | _ => cases h
def xE (c : Ctx) (fx : List (Str × Nat × XN)) (e : Expr) : Option XF := match zrR e with
 | none => none
 | some (x, es) => if zpV x = false /\ c.names.lookup x = some .globalImplicit /\ es.all zpW = true /\ es ≠ [] then
     (fx.lookup x).bind fun q => (zrA (cE 60) c es).map fun fa => zrb q.1 q.2 fa
   else none
def xR (c : Ctx) (cl : List Str) (o o2 : Option Expr) : Option XF := match o2 with
 | some _ => none
 | none => match o with
   | none => none
   | some e => match zrR e with
     | none => none
     | some (x, es) => match es with
       | [] => none
       | a :: r => match r with
         | _ :: _ => none
         | [] => if zpV x = false /\ c.names.lookup x = some .globalImplicit /\ zpW a = true /\ x ∈ cl then (cE 60 c a).map fun fe => fun σ S => (fe σ S).map fun r => (x, r.2) else none
def xIfO (t : TF) (a b : Option XF) : Option XF := match a with
 | none => match b with
   | none => none
   | some h => some (xIf t xNo h)
 | some g => match b with
   | none => some (xIf t g xNo)
   | some h => some (xIf t g h)
def xSeqO (f : Option SF) (g h : Option XF) : Option XF := match h with
 | none => g
 | some h => match f with
   | none => g
   | some f => match g with
     | none => some (xSeq f xNo h)
     | some g => some (xSeq f g h)
mutual
def xS : Nat -> Ctx -> List (Str × Nat × XN) -> List Str -> Stmt -> Option XF
 | 0, _, _, _, _ => none
 | n + 1, c, fx, cl, st => match st with
   | .Expr e _ => if zqd e = true then xE c fx e else none
   | .Return o _ => match o with
     | none => none
     | some e => xE c fx e
   | .Raise o o2 _ => xR c cl o o2
   | .If t a b _ => (cT 60 c t).bind fun ft => xIfO ft (xSs n c fx cl a) (xSs n c fx cl b)
   | _ => none
def xSs : Nat -> Ctx -> List (Str × Nat × XN) -> List Str -> List Stmt -> Option XF
 | 0, _, _, _, _ => none
 | _ + 1, _, _, _, [] => none
 | n + 1, c, fx, cl, st :: r => xSeqO (cS 60 c st) (xS n c fx cl st) (xSs n c fx cl r)
end
section
variable {X : Cx} {E : XK} {c : Ctx} {fx : List (Str × Nat × XN)} {cl : List Str}
theorem zfh (ok : zpP c X) (hx : zsS X E) (hf : ∀ x n ξ, fx.lookup x = some (n, ξ) -> zrU X x n ξ) {e : Expr} {g : XF} (h : xE c fx e = some g) : PE X e (tXE X.K X.mg g E) := by
 unfold xE at h
 split at h
 . cases h
 . rename_i x es hc
   obtain ⟨p, pos, rfl⟩ := zfU hc
   split at h
   . rename_i hh
     obtain ⟨h1, h2, h3, h4⟩ := hh
     obtain ⟨⟨n, ξ⟩, e1, h⟩ := oBs.mp h
     obtain ⟨fa, e2, rfl⟩ := oMs.mp h
     cases es with
     | nil => exact absurd rfl h4
     | cons a r =>
       rw [ztr, zs5] at h3
       exact zk3 hx (by show X.env.scope.names.lookup x = _; rw [ok.names]; exact h2) (hf x n ξ e1) (zaL (za3 60).1 ok e2).1 (zsl h1) (zaD h3.1 r X.env) (zc6 h3.2 pos X.env)
   . cases h
theorem zjS (ok : zpP c X) (hx : zsS X E) (hcl : ∀ x ∈ cl, ∃ C, ExcK X.K X.mg x C) {o o2 : Option Expr} {pos : Pos} {g : XF} (h : xR c cl o o2 = some g) : PS X (.Raise o o2 pos) (tX X.K X.mg g E) := by
 unfold xR at h
 cases o2 with
 | some _ => cases h
 | none => cases o with
   | none => cases h
   | some e =>
     simp only at h
     split at h
     . cases h
     . rename_i x es hc
       obtain ⟨p, cpos, rfl⟩ := zfU hc
       cases es with
       | nil => cases h
       | cons a r => cases r with
         | cons _ _ => cases h
         | nil =>
           simp only at h
           split at h
           . rename_i hh
             obtain ⟨h1, h2, h3, h4⟩ := hh
             obtain ⟨fe, e1, rfl⟩ := oMs.mp h
             obtain ⟨C, hC⟩ := hcl x h4
             exact zjJ hx ok.calm (by show X.env.scope.names.lookup x = _; rw [ok.names]; exact h2) hC ((za3 60).1 c X _ fe ok e1) h3 (zsl h1)
           . cases h
theorem zgN (ok : zpP c X) (ok' : zpP c X.nox) (hx : zsS X E) (hf : ∀ x n ξ, fx.lookup x = some (n, ξ) -> zrU X x n ξ) (hcl : ∀ x ∈ cl, ∃ C, ExcK X.K X.mg x C) :
   ∀ n, (∀ st g, xS n c fx cl st = some g -> PS X st (tX X.K X.mg g E)) /\ ∀ sts g, xSs n c fx cl sts = some g -> PSs X sts (tX X.K X.mg g E)
 | 0 => ⟨fun _ _ h => by simp [xS] at h, fun _ _ h => by simp [xSs] at h⟩
 | n + 1 => by
   obtain ⟨ih1, ih2⟩ := zgN ok ok' hx hf hcl n
   refine ⟨fun st g h => ?_, fun sts g h => ?_⟩
   . unfold xS at h
     cases st with
     | Expr e p =>
       change (if zqd e = true then xE c fx e else none) = some g at h
       by_cases hc : zqd e = true
       . rw [if_pos hc] at h
         exact zlf (zfh ok hx hf h) (zbf hc _ _ _)
       . rw [if_neg hc] at h; cases h
     | Return o p => cases o with
       | none => cases h
       | some e => exact zm9 (zfh ok hx hf h)
     | Raise o o2 p => exact zjS ok hx hcl h
     | If t a b p =>
       obtain ⟨ft, e0, h⟩ := oBs.mp h
       have ht := (za3 60).2 c X _ ft ok e0
       unfold xIfO at h
       cases ea : xSs n c fx cl a with
       | none => cases eb : xSs n c fx cl b with
         | none => rw [ea, eb] at h; cases h
         | some hb => rw [ea, eb] at h; cases h; exact zle ht zhW (ih2 _ _ eb)
       | some ha => cases eb : xSs n c fx cl b with
         | none => rw [ea, eb] at h; cases h; exact zle ht (ih2 _ _ ea) zhW
         | some hb => rw [ea, eb] at h; cases h; exact zle ht (ih2 _ _ ea) (ih2 _ _ eb)
     | _ => exact nomatch (show (none : Option XF) = some g from h)
   . cases sts with
     | nil => simp [xSs] at h
     | cons st r =>
       rw [xSs] at h
       have one : ∀ g, xS n c fx cl st = some g -> PSs X (st :: r) (tX X.K X.mg g E) := fun g h => PSs.imp (zbY (ih1 _ _ h) (zhW (rest := r) (E := E))) fun _ _ _ q => q
       unfold xSeqO at h
       cases eh : xSs n c fx cl r with
       | none => rw [eh] at h; exact one g h
       | some hh =>
         rw [eh] at h
         cases ef : cS 60 c st with
         | none => rw [ef] at h; exact one g h
         | some f =>
           rw [ef] at h
           have hn : SS X st f := PS.nox ((zel 60 c X.nox ok' PassesOwn.never).1 st f ef)
           cases eg : xS n c fx cl st with
           | none => rw [eg] at h; cases h; exact zkL hn zoW (ih2 _ _ eh)
           | some gg => rw [eg] at h; cases h; exact zkL hn (ih1 _ _ eg) (ih2 _ _ eh)
end
open Classical in
def zr3 (n : Nat) (xb : XF) : XN := fun ds S => match xb (stD n ds) S with
 | some (y, S') => if S'.take S.length = S then some y else none
 | none => none
section
variable {P : Program} {w : World} {K : PySem.W.Frag} {mg : Str -> Option Value} {base h : Heap}
def FxsOk (P : Program) (w : World) (K : PySem.W.Frag) (mg : Str -> Option Value) (base : Heap) (k : Nat) (fx : List (Str × Nat × XN)) : Prop := ∀ y n ξ, fx.lookup y = some (n, ξ) -> FnAtX P w K mg base k y n ξ
theorem FnAtX.mono {j k : Nat} {x : Str} {n : Nat} {ξ : XN} (h : FnAtX P w K mg base j x n ξ) (hjk : j <= k) : FnAtX P w K mg base k x n ξ :=
 let ⟨f, fd, ps, a, b, c, d⟩ := h
 ⟨f, fd, ps, a, b, c, d.mono hjk⟩
theorem FxsOk.nil {k : Nat} : FxsOk P w K mg base k [] := fun _ _ _ e => by cases e
theorem zku {x : Str} {st : Stmt} {ps : List Str} {k m n : Nat} {fns : List (Str × Nat × GN)} {fx : List (Str × Nat × XN)} {cl blt : List Str} {xb : XF} (hs : FnsOk P w K mg base k fns) (hxs : FxsOk P w K mg base k fx) (KX : K.In h) (G : h.Ns mainGlobals mg) (hblt : ∀ y ∈ blt, mg y = none)
   (hcl : ∀ y ∈ cl, ∃ C, ExcK K mg y C)
   (hD : DefK K x st) (hb0 : zq1 x st ps) (S : zp2 (zqD (zpB st).names) ps (zpB st)) (hu : (zpB st).names.all (fun y => decide ((zpB st).names.lookup y.1 = some y.2)) = true)
   (hn : (zqD (zpB st).names).length = n) (hb : xSs m (mkC st fns blt) fx cl (zpN st) = some xb) : FxsOk P w K mg base (k + 1) ((x, ps.length, zr3 n xb) :: fx) := by
 intro y j ξ e
 rw [ztI] at e
 split at e
 . rename_i q
   cases e
   have : y = x := by simpa using q
   subst this
   obtain ⟨f, fd, a, F⟩ := hD
   refine ⟨f, fd, ps, mg_of KX G a, F.kp, F.binds hb0, ?_⟩
   obtain ⟨oc, od, kV, doc, pm, an, cdv, ct, osl, rfl, lk, hcd⟩ := F.ex
   refine zkv lk hcd S (fun vs H Q E h => h.1) fun A outer s H vs Q E hr hh => ?_
   obtain ⟨hlen, S₀, α, ds, y', hst, r, e1, kk⟩ := hh
   have mk : ∀ X' : Cx, (X' = zri (CXx P w) P w K mg base (zqD (zpB st).names) y (zpB st) f cdv A outer s H E \/ X' = (zri (CXx P w) P w K mg base (zqD (zpB st).names) y (zpB st) f cdv A outer s H E).nox) -> zpP (mkC st fns blt) X' := by
     intro X' hX'
     have base : zpP (mkC st fns blt) (zri (CXx P w) P w K mg base (zqD (zpB st).names) y (zpB st) f cdv A outer s H E) := by
       refine ⟨rfl, S.nd, rfl, S.kind, fun z hy => ?_, fun z n ψ q => ?_, hblt, rfl, hr.units, fun _ _ _ _ _ h => (nomatch h)⟩
       . rw [List.all_eq_true] at hu
         exact ⟨zdU (fun z hz => of_decide_eq_true (hu z hz)) hy, .inl rfl⟩
       . obtain ⟨f', fd', ps', a, b, c, d⟩ := hs z n ψ q
         exact ⟨f', fd', ps', k, a, b, c, d, hr⟩
     rcases hX' with rfl | rfl
     . exact base
     . exact ⟨base.N, base.nd, base.names, base.kind, base.st, base.fns, base.blt, base.calm, base.un, fun _ _ _ _ _ h => (nomatch h)⟩
   refine ⟨_, (zgN (mk _ (.inl rfl)) (mk _ (.inr rfl)) zk2 (fun z n ξ q => ⟨k, hxs z n ξ q, hr⟩) hcl m).2 _ xb hb, ?_⟩
   unfold zr3 at e1
   split at e1
   . rename_i y2 S2 e2
     split at e1
     . rename_i ht
       cases e1
       have e0 : zp5 (zqD (zpB st).names) ds = stD n ds := by unfold zp5 stD; rw [hn]
       refine ⟨_, S₀, α, y', S2, zev r, hst, by rw [e0]; exact e2, ?_⟩
       obtain ⟨C, h1, h2⟩ := kk
       refine ⟨C, h1, fun H' α' s' x' => ?_⟩
       have hw : ∀ o ∈ S2.take S₀.length, O.lo S₀.length o = true := by rw [ht]; exact hst.wf
       have s3 := s'.cut S₀.length hw
       rw [ht] at s3
       refine h2 H' (α'.take S₀.length) s3 ⟨x'.tups, fun i b q => ?_⟩
       have hi : i < S₀.length := by
         have := (zsX.mp q).1
         rw [hst.len] at this; exact this
       rw [List.getElem?_take_of_lt hi]; exact x'.pre i b q
     . cases e1
   . cases e1
 . exact (hxs y j ξ e).mono (Nat.le_succ _)
end
end MX
end
section
namespace MX
open PySem PySem.Spec PySem.W PySem.Calls PyProof.Rows L2 Builtin Builtin.ObjectAttr Builtin.Getset_descriptor
def ExcAt (e D : Addr) (h : Heap) : Prop := ∃ o, h.get? e = some o /\ o.cls = .ref D /\ ∃ vs, o.data = .fields vs
theorem ExcAt.ty {e D : Addr} {M : Model} {h : Heap} (x : ExcAt e D h) : Looks M h (typeOf (.ref e)) (.ref D) := let ⟨_, a, b, _⟩ := x; b ▸ (Looks.ld a).andThen .now
theorem zmv {K : PySem.W.Frag} {M : Model} {h : Heap} {D : Addr} (X : K.In h) (q : (clsIn K D).isSome = true) : Looks M h (isType (.ref D)) true := by
 unfold clsIn at q
 split at q
 . rename_i ho
   intro A' Q' E' s' k z
   unfold isType loadHead
   refine ztm ?_
   exact wpAny_loadPart (k _ _ (X _ _ ho)) (ztn z)
 . cases q
section
variable {prog : Program} {w : World} {A : Around} {E : Value -> Shared -> Prop} {s : Shared} {K : PySem.W.Frag} {e D : Addr}
theorem zhE {R : Result -> Shared -> Prop} {tp : Value} (X : K.In s.heap) (I : ExcAt e D s.heap) (hm : mroIn K D (.type "object") = some true) (h : R (.ok (.ret (.ref D))) s) :
   codeAny (model prog w) A (.call (.builtin "getset_descriptor.__get__") ⟨[.builtin "object.__class__", .ref e, tp], []⟩) R s := by
 obtain ⟨h0, g, d, t, o⟩ := s
 have L0 := I.ty (M := model prog w)
 have L1 := looks_mroIn (M := model prog w) X hm
 refine codeAny_call_builtin KF.slot_gs.plain KF.entry_gs ?_
 refine KF.slot_gs.check _ _ _ _ _ _ _ _ KF.type_class (KF.args_gs _ _ _) ?_
 unfold Builtin.«getset_descriptor.__get__» descrGet
 rw [dga_obj]
 refine ztm (ztn ?_)
 unfold descrGetter descrCheckInstance descrNameAndClass isInstance
 simp only [KF.owner_class]
 repeat lk
 refine ⟨Code.quiet_builtin _ (by decide +kernel), ?_⟩
 refine codeAny_builtin KF.entry_class ?_
 unfold Builtin.«object.__class__» shownTypeOf
 repeat lk
 exact h
theorem zi6 {Q : Option Value -> Shared -> Prop} (X : K.In s.heap) (I : ExcAt e D s.heap) (f : zp8 K D = true) (h : Q (some (.ref D)) { s with toks := s.toks + 1 }) : wpAny (model prog w) A (getAttr? (.ref e) "__class__") Q E s := by
 unfold zp8 at f
 simp only [zs5, beq_iff_eq] at f
 obtain ⟨⟨p1, p2, p3⟩, f2, f3, f4, f5, f6⟩ := f
 obtain ⟨h0, g, d, t, os⟩ := s
 have L0 := I.ty (M := model prog w)
 have L1 := looks_findIn (M := model prog w) X p1
 have L2 := looks_findIn (M := model prog w) X p2
 have L3 : Looks (model prog w) h0 (find (.ref e) (.ref D) "__class__") (.bind (.builtin "getset_descriptor.__get__") (.builtin "object.__class__")) := by
   refine (looks_findIn X f3).andThen ((looks_specialIn X f4).andThen ?_)
   refine (show Looks (model prog w) h0 (dataDescriptor? (some (.builtin "object.__class__")) (some (.builtin "getset_descriptor.__get__"))) (some (_, _)) from (looks_takesIn X f5).andThen .now).andThen ?_
   exact Looks.tag .now
 have L4 := looks_mroIn (M := model prog w) X p3
 have hk : builtinKind "BaseException.__getattribute__" = some .slot := by decide +kernel
 have hsp : splitId "BaseException.__getattribute__" = some ("BaseException", "__getattribute__") := by decide +kernel
 unfold getAttr? getAttrBy? getAttrBy
 refine ztm (wpAny_mkText (ztm (wpAny_attempt (wpAny_holding ?_))))
 refine ztm (L0.at (ztm (L1.at ?_)))
 show wpAny _ _ (getAttrByItsOwn _ _ _ _ _ _) _ _ _
 unfold getAttrByItsOwn hookBefore
 refine ztm (L2.at (ztm (wpAny_attempt (wpAny_holding ?_))))
 show wpAny _ _ (boundAndCalled _ _ _) _ _ _
 unfold boundAndCalled
 rw [PySem.F.excAttr_ValueError.ga.bind]
 refine ztm (ztn (wpAny_call ?_))
 refine codeAny_call_builtin PySem.F.excAttr_ValueError.ga.plain PySem.F.entry_bexc_ga ?_
 have ha := PySem.F.args_bexc_ga (.ref e) (.str "__class__" t)
 simp only [checkBuiltinCall, hk, hsp]
 have LI : Looks (model prog w) h0 (isInstance (.ref e) (.type "BaseException")) true := L0.andThen L4
 refine ztm (LI.at ?_)
 simp only [Bool.not_true, Bool.false_eq_true, if_false]
 repeat wp_step
 obtain ⟨o, a1, a2, a3⟩ := id I
 refine wpAny_loadPart_at a1 (ztn ?_)
 show wpAny _ _ (find (.ref e) o.cls "__class__" >>= _) _ _ _
 rw [a2]
 refine ztm (L3.at ?_)
 show wpAny _ _ (bindTo _ _ (.ref e) _) _ _ _
 unfold bindTo
 show wpAny _ _ (holding [_] (call _ [_, .ref e, .ref D]) >>= ret) _ _ _
 refine ztm (wpAny_holding (wpAny_call ?_))
 refine zhE (s := ⟨h0, g, d, t + 1, os⟩) X I f6 ?_
 exact ztn (handed_on rfl (ztn h))
end
theorem zkl {K : PySem.W.Frag} {e D : Addr} (f : zp8 K D = true) : KitX K (.ref e) (.ref D) (ExcAt e D) := by
 have f2 : (clsIn K D).isSome = true := by
   unfold zp8 at f
   simp only [zs5] at f
   exact f.2.1
 refine ⟨fun M h _ p => p.ty, fun M h X _ => zmv X f2, fun h tp dd its n sl X htp => ?_, fun X I k => zi6 X I f k⟩
 refine Bool.eq_false_iff.mpr fun q => ?_
 have z : D = tp := Value.ref.inj (beq_iff_eq.mp q)
 subst z
 unfold clsIn at f2
 split at f2
 . rename_i ho
   have z := X _ _ ho
   rw [htp] at z
   cases z
 . cases f2
end MX
end
section
namespace MX
open PySem PySem.Spec PySem.W PySem.Calls PyProof.Rows L2
def zrv (e D : Addr) : HO := .ext (ExcAt e D)
theorem zmw {P : Program} {w : World} {H : Hp} {h : Heap} {e D : Addr} (x : ExcAt e D h) : ObjOk P w H h e (zrv e D) :=
 ⟨x, let ⟨o, a, _⟩ := x; ⟨o, a⟩, fun h1 h2 y k => let ⟨o, a, b⟩ := y; ⟨o, k o a, b⟩⟩
def clsV : V -> Option Value
 | .ref a => some (.ref a)
 | .ty n => some (.type n)
 | _ => none
theorem zmM {c : V} {u v : Value} (h : clsV c = some v) (r : RelV c u) : u = v := by
 cases c <;> cases h <;> exact r
def rIsi (K : PySem.W.Frag) : List V -> Hp -> VK -> Prop := fun xs H Q => ∃ e D c v b, xs = [.ref e, c] /\ H e = some (zrv e D) /\ zp8 K D = true /\ clsV c = some v /\ kitOne K (.ref D) v = some b /\ Q (.bl b) H
section
variable {X : Cx}
theorem zkF : zpS X (.builtin "isinstance") (rIsi X.K) := by
 intro pins s σ H xs us Q I rs h
 obtain ⟨e, D, c, v, b, rfl, h1, h2, h3, h4, q⟩ := h
 cases rs with
 | cons r1 rs => cases rs with
   | cons r2 rs =>
     cases rs
     have e1 := zmM h3 r2
     cases r1
     subst e1
     refine kia_one (zkl h2) I.kIn (show ObjOk X.prog X.w H s.heap e (zrv e D) from I.hok e _ h1).1 h4 (by intro z; cases z) fun tk => ?_
     exact ⟨.bl b, H, I.tok _, rfl, q⟩
theorem zgC : ∀ {bs : List Bool} {us : List Value}, Vals (bs.map V.bl) us -> us = bs.map Value.bool
 | [], _, h => by cases h; rfl
 | b :: bs, _, h => by
   cases h with
   | cons a r => cases a; rw [zgC r]; rfl
def isTr : Value -> Bool := fun v => v == .bool true
theorem zjn {A : Around} {s : Shared} (b : Bool) : SeqAt.EqAt A s (.bool b) (.bool true) (isTr (.bool b)) := by
 have e : isTr (.bool b) = (b == true) := by cases b <;> rfl
 have := SeqAt.EqAt.bool_bool (A := A) (s := s) b true
 cases b <;> exact this
def rCntB (K : PySem.W.Frag) : V -> List V -> Hp -> VK -> Prop := fun x xs H Q => ∃ a, ∃ bs : List Bool, x = .ref a /\ xs = [.bl true] /\ SqL K H a (bs.map V.bl) /\ Q (.int (bs.count true : Nat)) H
theorem zix : MtR X "list.count" (rCntB X.K) := by
 intro pins s σ H x xs v us Q I r rs h
 obtain ⟨a, bs, rfl, rfl, hq, q⟩ := h
 cases r
 cases rs with
 | cons r1 rs =>
   cases r1
   cases rs
   obtain ⟨its, rv, ⟨⟨cls, dd, data, sl⟩, n, e, c, hd, hdat⟩, hz⟩ := I.list hq
   have ei := zgC rv
   simp only at c hd hdat
   subst c hdat ei
   refine call_meets zty ⟨_, e, rfl⟩ PySem.F.entry_list_count (PySem.F.args_list_count_2 _ _) (SeqAt.list_countAt a _ n dd sl (.bool true) isTr) ⟨e, fun y hy => ?_, ?_⟩
   . obtain ⟨b, _, rfl⟩ := List.mem_map.mp (by simpa using hy : y ∈ bs.map Value.bool)
     exact zjn b
   . have e2 : ((bs.map Value.bool).toArray.toList.countP isTr) = bs.count true := by
       show (bs.map Value.bool).countP isTr = _
       clear rv hq q hz e
       induction bs with
       | nil => rfl
       | cons b bs ih => rw [ztJ, List.countP_cons, List.count_cons, ih]; cases b <;> rfl
     rw [e2]
     exact ⟨.int (bs.count true : Nat), H, I.tok _, ⟨_, rfl⟩, q⟩
def rIdxB (K : PySem.W.Frag) : V -> List V -> Hp -> VK -> Prop := fun x xs H Q => ∃ a, ∃ bs : List Bool, ∃ j, x = .ref a /\ xs = [.bl true] /\ SqL K H a (bs.map V.bl) /\ bs[j]? = some true /\ (∀ m, m < j -> bs[m]? = some false) /\ Q (.int (j : Nat)) H
theorem ziw : MtR X "list.index" (rIdxB X.K) := by
 intro pins s σ H x xs v us Q I r rs h
 obtain ⟨a, bs, j, rfl, rfl, hq, h1, h2, q⟩ := h
 cases r
 cases rs with
 | cons r1 rs =>
   cases r1
   cases rs
   obtain ⟨its, rv, ⟨⟨cls, dd, data, sl⟩, n, e, c, hd, hdat⟩, hz⟩ := I.list hq
   have ei := zgC rv
   simp only at c hd hdat
   subst c hdat ei
   obtain ⟨hj, hj2⟩ := zsX.mp h1
   have hs : (bs.map Value.bool).toArray.size = bs.length := by simp
   have hl : bs.length <= sizeLine := by simpa using hz
   have hsm : (sizeLine : Int) < 2 ^ 63 - 1 := by decide
   refine call_meets PySem.F.slot_list_index ⟨_, e, rfl⟩ PySem.F.entry_list_index (PySem.F.args_list_index_2 _ _) (SeqAt.list_indexAt a _ n dd sl (.bool true) isTr j (by rw [hs]; exact hj) (by omega) ?_ fun m hm hmj => ?_) ⟨e, fun y hy => ?_, ?_⟩
   . simp only [List.getElem_toArray, List.getElem_map, hj2]; rfl
   . obtain ⟨hm1, hm2⟩ := zsX.mp (h2 m hmj)
     simp only [List.getElem_toArray, List.getElem_map, hm2]; rfl
   . obtain ⟨b, _, rfl⟩ := List.mem_map.mp (by simpa using hy : y ∈ bs.map Value.bool)
     exact zjn b
   . exact ⟨.int (j : Nat), H, I.tok _, ⟨_, rfl⟩, q⟩
end
end MX
end
section
namespace MX
open PySem PySem.Spec PySem.W PySem.Calls PyProof.Rows L2
theorem zc7 {X : Cx} {pins : List (Addr × Obj)} {σ : L2.St} {H : Hp} {s : Shared} (I : Inv X pins σ H s) (A' : Around) (c : Bool) (x : Value -> Shared -> Prop) (hd : c = true -> A'.handled = none) (fr : A'.frames = X.A.frames) : Inv { X with A := A', calm := c, xe := x } pins σ H s :=
 ⟨{ I.ok with hd := hd, frames := fr.trans I.ok.frames }, I.os, I.bare, I.base, I.loc, I.cell, I.free, I.freeC, I.pin, I.hok, I.len⟩
def zqA (A : Around) : Around := { A with handled := none }
def FnW (P : Program) (w : World) (K : PySem.W.Frag) (mg : Str -> Option Value) (base : Heap) (k : Nat) (f : Addr) (fd : FuncData) (ps : List Str) (sp : List V -> Hp -> VK -> Prop) : Prop :=
 ∀ (A : Around) (outer : List Env) (s : Shared) (H : Hp) (args : Args) (us : List Value) (vs : List V) (Q : VK), Room k (zqA A) -> zsV P w K mg base A outer s H -> BindsTo s fd args (ps.zip us) -> Vals vs us -> vs.length = ps.length -> sp vs H Q ->
   codeAny (model P w) A (.call (.ref f) args) (CR CX0 outer P w H s Q E0) s
abbrev cxW (P : Program) (w : World) (K : PySem.W.Frag) (mg : Str -> Option Value) (base : Heap) (N : List Str) (qual : Str) (scope : Scope) (f : Addr) (cd : Value) (A : Around) (outer : List Env) (s : Shared) (H : Hp) : Cx :=
 { zri CX0 P w K mg base N qual scope f cd (zqA A) outer s H E0 with A := A.deeper (envOfC qual scope s.heap.objs.size f cd), calm := false, xe := fun _ _ => False }
theorem zop {P : Program} {w : World} {K : PySem.W.Frag} {mg : Str -> Option Value} {base : Heap} {k : Nat} {f : Addr} {name qual : Str} {params : Arguments} {body : List Stmt} {scope : Scope} {dV kV doc pm cdv ct oc : Value} {an od : Option Addr}
   {osl : Array (Option Value)} {N ps : List Str} {sp : List V -> Hp -> VK -> Prop} (lk : K.lookup f = some ⟨oc, od, .func (PySem.W.fnOf name qual params body scope dV kV doc pm an cdv ct), osl⟩) (hcd : PySem.W.codeIn K cdv qual = true) (S : zp2 N ps scope)
   (hbody : ∀ (A : Around) (outer : List Env) (s : Shared) (H : Hp) (vs : List V) (Q : VK), sp vs H Q ->
     ∃ t, PSs (cxW P w K mg base N qual scope f cdv A outer s H) body t /\ t { nx := fun _ H' => Q .non H', rt := Q } (start N vs) H) :
   FnW P w K mg base (k + 1) f (PySem.W.fnOf name qual params body scope dV kV doc pm an cdv ct) ps sp := by
 intro A outer s H args us vs Q hr e0 hb r hl hsp
 have KX : K.In s.heap := e0.mod.kin.keeps fun b o e => (e0.bs b o e).1
 have lim : s.heap.NoLimit := e0.mod.nolimit.keeps fun b o e => (e0.bs b o e).1
 have hkind : ∀ y ∈ ps.zip us, scope.names.lookup y.1 = some .local \/ (scope.names.lookup y.1 = some .cell /\ ((cellsFrom (s.heap.objs.size + 1) scope.names []).lookup y.1).isSome = true) := fun ⟨n, v⟩ hy => by
   rcases S.par n (List.of_mem_zip hy).1 with q | q
   . exact .inl q
   . exact .inr ⟨q, PySem.W.cellsFrom_some _ _ _ (.inl q)⟩
 have hdep : A.depth < recursionLimit := (hr.depth : (zqA A).depth < recursionLimit)
 refine codeAny_call_function hdep (KX _ _ lk) rfl S.co S.gen rfl (PySem.W.codeRec_of KX hcd) (hb _ _ _ _ ?_)
 refine wpAny_newFunctionEnv_cells S.kind hkind fun env he s1 x => ?_
 subst he
 refine ⟨lim.keeps x.toInCall.keep, codeAny_func ?_⟩
 obtain ⟨t, ht, hq⟩ := hbody A outer s H vs Q hsp
 have e1 : zsV P w K mg base (zqA A) outer s H := ⟨e0.frames, e0.mod, e0.bs, e0.bsz, e0.funs, e0.frf, e0.hok, e0.bare⟩
 have J0 : Inv (zri CX0 P w K mg base N qual scope f cdv (zqA A) outer s H E0) [] (start N vs) H s1 := zfG S rfl e1 hl r x
 have I := zc7 J0 (A.deeper (envOfC qual scope s.heap.objs.size f cdv)) false (fun _ _ => False) (fun z => by cases z) rfl
 refine zto (ht [] s1 (start N vs) H _ I hq) (fun fl s' hs => ?_) fun e s' hs => False.elim hs
 have fin : ∀ {σ' : L2.St} {H' : Hp} {v : V} {u : Value}, Inv (cxW P w K mg base N qual scope f cdv A outer s H) [] σ' H' s' -> RelV v u -> Q v H' -> CE outer P w H s Q u s' :=
   fun {σ' H' v u} J rv q => ⟨v, H', J.os, J.bare, J.base, J.hok, rv, q⟩
 cases fl with
 | ret u =>
   obtain ⟨v, σ', H', J, rv, q⟩ := hs
   exact fin J rv q
 | next =>
   obtain ⟨σ', H', J, q⟩ := hs
   exact fin (v := V.non) (u := Value.none) J rfl q
 | brk =>
   obtain ⟨_, _, _, q⟩ := hs
   exact False.elim q
 | cont =>
   obtain ⟨_, _, _, q⟩ := hs
   exact False.elim q
theorem zkc {X : Cx} {k : Nat} {f : Addr} {fd : FuncData} {ps : List Str} {sp : List V -> Hp -> VK -> Prop} {x : Str} {p pos : Pos} {e : Expr} {es : List Expr} {t : TA} (F : FnW X.prog X.w X.K X.mg X.base k f fd ps sp) (hr : Room k (zqA X.A)) (hg : Gl X x) (hm : X.mg x = some (.ref f)) (hk : PySem.W.keepIn X.K (.ref f) = true) (hb : Binds X.K fd ps [])
   (ha : PA X (e :: es) t) (hdb : (x == ("__debug__" : Str)) = false := by decide) (he : starEach (e :: es) X.env = (false, eval e X.env) :: starEach es X.env := by rfl) (hpl : (backTo pos (starEach es X.env)).any (·.1) = false := by rfl) :
   PE X (.Call (.Name x p) (e :: es) [] pos) (fun σ H Q => t σ H fun vs H1 => vs.length = ps.length /\ sp vs H1 Q) := by
 intro pins s σ H Q I h
 refine wpAny_Call_Name_kw (zdX I hg hm ?_ hdb)
 refine PySem.W.callWith_K (h₀ := X.base) I.ok.mod.kin hk (thn (ha pos pins s σ H _ I h) fun us s1 ⟨vs, H1, I1, r, hl, q⟩ => ⟨I1.kIn, ?_⟩) he hpl
 have r2 : Vals (vs ++ []) (us ++ []) := r.append .nil
 rw [List.append_nil, List.append_nil] at r2
 have hl2 : (us ++ []).length = ps.length := by rw [List.append_nil, <- r.length]; exact hl
 have hb' := hb s1 us I1.kIn hl2
 rw [List.append_nil] at hb'
 refine wpAny_call (codeAny_mono (F X.A X.stack s1 H1 ⟨us, []⟩ us vs Q hr I1.env0 hb' r2 hl q) fun r s' hq => ?_)
 cases r with
 | error e => exact hq.elim
 | ok fl =>
   cases fl with
   | ret u => exact I1.after hq
   | next => exact False.elim hq
   | brk => exact False.elim hq
   | cont => exact False.elim hq
structure zqT (K : PySem.W.Frag) (mg : Str -> Option Value) (c : Nat -> Addr) (cH : Addr) : Prop where
 name : ∀ i < 4, mg (wn i) = some (.ref (c i))
 hit : mg "HitError" = some (.ref cH)
 fact : ∀ i < 4, zp8 K (c i) = true
 kit : ∀ i < 4, ∀ j < 4, kitOne K (.ref (c i)) (.ref (c j)) = some (decide (i = j))
 kitH : ∀ i < 4, kitOne K (.ref (c i)) (.ref cH) = some true
 kitV : ∀ i < 4, kitOne K (.ref (c i)) (.type "ValueError") = some true
 isi : mg "isinstance" = none
 val : mg "ValueError" = none
def zsi (c : Nat -> Addr) : List V -> Hp -> VK -> Prop := fun vs H Q => ∃ e i, vs = [.ref e] /\ i < 4 /\ H e = some (zrv e (c i)) /\ ∀ H', (∀ b o, H b = some o -> H' b = some o) -> Q (.str (wn i)) H'
end MX
end
section
namespace MX
open PySem PySem.Spec PySem.W PySem.Calls PyProof.Rows L2
def zsh (K : PySem.W.Frag) (v : V) : TE := tCB (rIsi K) (zqi (tVar 0) (zqi (tC v) zsg))
def tWordL (s0 s1 s2 s3 : Str) : TE := tLst (zqi (tC (.str s0)) (zqi (tC (.str s1)) (zqi (tC (.str s2)) (zqi (tC (.str s3)) zsg))))
def zsz (K : PySem.W.Frag) (c : Nat -> Addr) (cH : Addr) (z : Str) : TS :=
 tSeq (tAsg (tLst (zqi (zsh K (.ref (c 0))) (zqi (zsh K (.ref (c 1))) (zqi (zsh K (.ref (c 2))) (zqi (zsh K (.ref (c 3))) zsg))))) (zsJ 1))
   (tSeq (tIfS (tOr (tTest (tOp rNe (tBM K "list" (rCntB K) (tVar 1) (zqi (tC (.bl true)) zsg)) (tC (.int 1)))) (tOr (tNot (tB (zsh K (.ref cH)))) (tNot (tB (zsh K (.ty "ValueError")))))) (tSeq (tRet (tC (.str z))) zrp) zrp)
     (tSeq (tRet (tOp (rIxL K) (tWordL (wn 0) (wn 1) (wn 2) (wn 3)) (tBM K "list" (rIdxB K) (tVar 1) (zqi (tC (.bl true)) zsg)))) zrp))
def flg (i : Nat) : List Bool := [decide (i = 0), decide (i = 1), decide (i = 2), decide (i = 3)]
theorem zi1 : ∀ i < 4, (flg i).count true = 1
 | 0, _ => rfl
 | 1, _ => rfl
 | 2, _ => rfl
 | 3, _ => rfl
theorem zoq : ∀ i < 4, (flg i)[i]? = some true /\ ∀ m, m < i -> (flg i)[m]? = some false
 | 0, _ => ⟨rfl, fun m hm => by omega⟩
 | 1, _ => ⟨rfl, fun | 0, _ => rfl⟩
 | 2, _ => ⟨rfl, fun | 0, _ => rfl | 1, _ => rfl⟩
 | 3, _ => ⟨rfl, fun | 0, _ => rfl | 1, _ => rfl | 2, _ => rfl⟩
theorem zoS : ∀ i : Nat, i < 4 -> atI [V.str (wn 0), .str (wn 1), .str (wn 2), .str (wn 3)] (i : Int) = some (.str (wn i))
 | 0, _ => rfl
 | 1, _ => rfl
 | 2, _ => rfl
 | 3, _ => rfl
theorem zhj {K : PySem.W.Frag} {mg : Str -> Option Value} {c : Nat -> Addr} {cH : Addr} (T : zqT K mg c cH) {z : Str} {D : zse} {H : Hp} {e i : Nat} (hi : i < 4) (he : H e = some (zrv e (c i))) (h : ∀ H', (∀ b o, H b = some o -> H' b = some o) -> D.rt (.str (wn i)) H') :
   zsz K c cH z D [some (.ref e), none] H := by
 have isi : ∀ (σ : L2.St) (H : Hp) (v : V) (u : Value) (b : Bool) (Q : VK), σ[0]? = some (some (.ref e)) -> H e = some (zrv e (c i)) -> clsV v = some u -> kitOne K (.ref (c i)) u = some b -> Q (.bl b) H -> zsh K v σ H Q := fun σ H v u b Q h0 h1 h2 h3 h4 =>
   ⟨.ref e, h0, ⟨e, c i, v, u, b, rfl, h1, T.fact i hi, h2, h3, h4⟩⟩
 refine isi _ H _ _ _ _ rfl he rfl (T.kit i hi 0 (by decide)) (isi _ H _ _ _ _ rfl he rfl (T.kit i hi 1 (by decide)) (isi _ H _ _ _ _ rfl he rfl (T.kit i hi 2 (by decide)) (isi _ H _ _ _ _ rfl he rfl (T.kit i hi 3 (by decide)) ⟨by show 4 <= sizeLine; decide, fun p hp => ?_⟩)))
 have hH : ∀ b o, H b = some o -> upd H p (.lst ((flg i).map V.bl)) b = some o := fun b o q => by rw [zal (zak q hp)]; exact q
 have hl : SqL K (upd H p (.lst ((flg i).map V.bl))) p ((flg i).map V.bl) := .inl (.inl zam)
 have hc := zi1 i hi
 have he2 := hH _ _ he
 obtain ⟨x1, x2⟩ := zoq i hi
 refine ⟨.ref p, rfl, .inl ⟨rfl, _, hl⟩, ⟨p, flg i, rfl, rfl, hl, rfl, _, rfl, ?_⟩⟩
 rw [hc]
 refine isi _ _ _ _ _ _ rfl he2 rfl (T.kitH i hi) ⟨true, rfl, ?_⟩
 refine isi _ _ _ _ _ _ rfl he2 rfl (T.kitV i hi) ⟨true, rfl, ?_⟩
 refine ⟨by show 4 <= sizeLine; decide, fun q hq => ?_⟩
 have hqp : p ≠ q := fun z => by rw [<- z, zam] at hq; cases hq
 have hl2 : SqL K (upd (upd H p (.lst ((flg i).map V.bl))) q (.lst [.str (wn 0), .str (wn 1), .str (wn 2), .str (wn 3)])) p ((flg i).map V.bl) := .inl (.inl (by rw [zal hqp, zam]))
 refine ⟨.ref p, rfl, .inl ⟨rfl, _, hl2⟩, ⟨p, flg i, i, rfl, rfl, hl2, x1, x2, ?_⟩⟩
 refine ⟨q, _, (i : Int), .str (wn i), rfl, rfl, .inl (.inl zam), ?_, h _ fun b o e => ?_⟩
 . exact zoS i hi
 . rw [zal (zak (hH b o e) hq)]; exact hH b o e
end MX
end
section
namespace MX
open PySem PySem.Spec PySem.W PySem.Calls PyProof.Rows L2
section
variable {X : Cx} {pins : List (Addr × Obj)} {σ : L2.St} {H : Hp} {s : Shared}
theorem zgs {B h : Heap} {l : List Env} {a C : Addr} {t : Value} (fl : Heap.FlyingW B l a (.ref C) t h) : ExcAt a C h := by
 obtain ⟨_, _, _, oe, vs, _, _, _, he, hc, hd, _⟩ := fl
 exact ⟨oe, he, hc.1, vs, hd⟩
theorem zi0 (I : Inv X pins σ H s) {a C : Addr} {B : Heap} {H' : Hp} {s' : Shared} {h' : Heap} {t : Value} (F : FlyX X.prog X.w X.stack H s a C B H' s') (fl : Heap.FlyingW B X.stack a (.ref C) t h') (up : s'.heap.UpToSlots h') :
   Inv X pins σ (upd H' a (zrv a C)) { s' with heap := h' } /\ H' a = none := by
 obtain ⟨t', fl'⟩ := F.fl
 have nB : B.get? a = none := fl.2.1
 have hn : H' a = none := by
   cases q : H' a with
   | none => rfl
   | some u =>
     obtain ⟨o, e⟩ := F.tr a u q
     rw [nB] at e; cases e
 have new : ∀ b o, s.heap.get? b = some o -> b ≠ a := fun b o e z => by
   subst z
   by_cases hf : b ∈ frs X.stack
   . obtain ⟨_, o', e', nf⟩ := I.stack.mem hf
     obtain ⟨sl, e2⟩ := F.un.slot b o' e' (I.stkFree b hf) hf (by simp)
     obtain ⟨o3, e3, _, vs, d3⟩ := zgs fl'
     rw [e2] at e3
     cases e3
     exact nf vs d3
   . obtain ⟨o', e'⟩ := F.inB b o e hf
     rw [nB] at e'; cases e'
 have hold : ∀ b u, H' b = some u -> upd H' a (zrv a C) b = some u := fun b u e => by rw [zal (zak e hn)]; exact e
 refine ⟨I.call' (ch := []) (s' := { s' with heap := h' }) F.os ⟨fun b o e n hf _ => ?_, fun b o e n hf _ => ?_, fun b o e n _ => ?_, fun b o e _ => ?_, fun b xs q => hold b _ (F.un.tups b xs q), fun b o u q => hold b _ (F.un.frzs b o u q), fun b ps q => ?_⟩ ?_ F.bare fun b z => absurd z (by simp), hn⟩
 . have e2 := F.un.keep b o e n hf (by simp)
   obtain ⟨o', e3⟩ := F.inB b o e hf
   have e4 := fl'.1 _ _ e3
   rw [e2] at e4; cases e4
   exact fl.1 _ _ e3
 . obtain ⟨sl, e2⟩ := F.un.slot b o e n hf (by simp)
   obtain ⟨_, o', e', nf⟩ := I.stack.mem hf
   rw [e] at e'; cases e'
   obtain ⟨sl3, e4⟩ := up b _ e2 nf
   exact ⟨sl3, e4⟩
 . rw [zal (new b o e)]; exact F.un.free b o e n (by simp)
 . by_cases hf : b ∈ frs X.stack
   . obtain ⟨sl, e2⟩ := F.un.slot b o e (I.stkFree b hf) hf (by simp)
     obtain ⟨_, o', e', nf⟩ := I.stack.mem hf
     rw [e] at e'; cases e'
     obtain ⟨sl3, e4⟩ := up b _ e2 nf
     exact ⟨_, e4⟩
   . obtain ⟨o', e3⟩ := F.inB b o e hf
     exact ⟨o', fl.1 _ _ e3⟩
 . obtain ⟨m, e⟩ := F.un.tbls b ps q
   exact ⟨m, hold b _ e⟩
 . have k : HOk X.prog X.w H' h' := zol F.hok fl'.1 fl.1 F.tr
   intro b u e
   by_cases hb : b = a
   . subst hb
     rw [zam] at e; cases e
     exact zmw (zgs fl)
   . rw [zal hb] at e
     exact (k b u e).stay (fun _ _ _ q => q) (fun c q => hold c _ q) fun c xs q => hold c _ q
theorem zkp (I : Inv X pins σ H s) {h' : Heap} {m' : Str -> Option Value} {t' : Nat} (hn : h'.Ns X.env.locals m') (hs : Heap.SameBut X.env.locals s.heap h') : Inv X pins (σ.map fun _ => none) H { s with heap := h', toks := t' } := by
 have nl : ∀ b o, X.s₀.heap.get? b = some o -> b ≠ X.env.locals := fun b o e => ztA (zs0 (ztp e) I.ok.above)
 refine ⟨I.ok, I.os, I.bare, ⟨fun b o e n hb hx => (hs.2 b (nl b o e)).trans (I.base.keep b o e n hb hx), fun b o e n hb hx => ?_, I.base.free, fun b o e hx => ?_, I.base.tups, I.base.frzs, I.base.tbls⟩, ⟨m', hn, fun j y v e1 e2 _ => ?_⟩, fun y c e => ?_, I.free, I.freeC, fun p hp => ?_, fun b ob e => ?_, by simpa using I.len⟩
 . obtain ⟨sl, e1⟩ := I.base.slot b o e n hb hx
   exact ⟨sl, (hs.2 b (nl b o e)).trans e1⟩
 . obtain ⟨o', e1⟩ := I.base.there b o e hx
   exact ⟨o', (hs.2 b (nl b o e)).trans e1⟩
 . rw [ztb] at e2
   cases q : σ[j]? with
   | none => rw [q] at e2; cases e2
   | some z => rw [q] at e2; cases e2
 . obtain ⟨v, o, e1, e2⟩ := I.cell y c e
   exact ⟨v, o, (hs.2 c (I.cne y c e)).trans e1, e2⟩
 . obtain ⟨p1, p2, p3, p4, p5⟩ := I.pin p hp
   exact ⟨(hs.2 _ p3).trans p1, p2, p3, p4, p5⟩
 . refine (I.hok b ob e).stay (fun c w' hc q => (hs.2 c ?_).trans q) (fun _ q => q) fun _ _ q => q
   rintro rfl
   rcases hc with rfl | hc
   . rw [I.free] at e; cases e
   . rw [I.free] at hc; cases hc
end
theorem zi7 {M : Model} {A : Around} {E : Value -> Shared -> Prop} {Q : Bool -> Shared -> Prop} {K : PySem.W.Frag} {s : Shared} {e C CH : Addr} {n1 n2 : String} (X : K.In s.heap) (hC : excIn K C veMro n1 = true) (hH : excIn K CH veMro n2 = true) (hm : mroIn K C (.ref CH) = some true)
   (he : ExcAt e C s.heap) (h : Q true s) : wpAny M A (excMatches (.ref e) (.ref CH)) Q E s := by
 obtain ⟨h0, g, d, tk, os⟩ := s
 obtain ⟨oe, he, hcls, _⟩ := he
 obtain ⟨nm, qn, N, bs, bm, hd, sn, sub, ab, col, dd, k0, k1, k2, k3, k5, mN, o1, _, _, _, o, cd, lk, dt, em⟩ := zgt X hC
 obtain ⟨nm', qn', N', bs', bm', hd', sn', sub', ab', col', dd', k0', k1', k2', k3', k5', mN', p1, _, _, p4, _⟩ := zgt X hH
 have hcB : (Value.ref CH :: bm').contains (.type "BaseException") = true := by rw [List.contains_cons, p4.hasType (by rfl : veMro.contains (.type "BaseException") = true), Bool.or_true]
 have hcC : (Value.ref C :: bm).contains (.ref CH) = true := by
   unfold mroIn clsIn at hm
   rw [lk] at hm
   obtain ⟨oc, od, dat, osl⟩ := o
   cases dt
   simp only [zs6] at hm
   rw [em] at hm
   simpa using hm
 have f := tc_notTuple
 unfold excMatches
 repeat (first
   | (with_reducible refine wpAny_loadPart_at he ?_; rw [hcls])
   | with_reducible refine wpAny_loadPart_at p1 ?_
   | (with_reducible refine wpAny_isSubtype_exc p1 ?_; rw [hcB])
   | (with_reducible refine wpAny_isSubtype_exc o1 ?_; rw [hcC])
   | wp_step)
 exact h
end MX
end
section
namespace MX
open PySem PySem.Spec PySem.W PySem.Calls PyProof.Rows L2
structure LamScope0 (scope : Scope) (cl : List (Str × Addr)) : Prop where
 kind : scope.kind = .function
 co : scope.isCoroutine = false
 gen : scope.isGenerator = false
 nocell : ∀ x ∈ scope.names, x.2 ≠ .cell
 has : ∀ x, scope.names.lookup x = some .free -> ∃ c, cl.lookup x = some c
 inj : ∀ x y c, cl.lookup x = some c -> cl.lookup y = some c -> x = y
theorem zmi {P : Program} {w : World} {K : PySem.W.Frag} {mg : Str -> Option Value} {base : Heap} {k : Nat} {a : Addr} {name qual : Str} {params : Arguments} {body : Expr} {scope : Scope} {cl : List (Str × Addr)} {pm cdv ctv : Value} {o : Obj} {cap : List Str} {cvs : List V} {sp : Sp}
   {Pt : Addr} {lpos : Pos}
   (ho : base.get? a = some o) (hod : o.data = .func (kla_fn name qual params body scope cl pm cdv ctv)) (hcd : ∀ vs H Q E, sp vs H Q E -> ∃ ps, H Pt = some (.tbl ps) /\ codeAmong lpos ps.toList = some cdv) (S : LamScope0 scope cl)
   (hcells : ∀ x c, cl.lookup x = some c -> ∃ v, base.IsCell c v) (hcap : ∀ (i : Nat) x v, cap[i]? = some x -> cvs[i]? = some v -> scope.names.lookup x = some .free /\ ∃ c u, cl.lookup x = some c /\ base.IsCell c (some u) /\ RelV v u) (hlen : cap.length = cvs.length)
   (len : ∀ vs H Q E, sp vs H Q E -> vs.length = 0)
   (hbody : ∀ (qual : Str) (A : Around) (outer : List Env) (s : Shared) (H : Hp) (Q : VK) (E : XK), Room k (A.deeper (envX qual scope s.heap.objs.size a cdv cl)) -> sp [] H Q E ->
     ∃ t, PE (cxLx P w K mg base cap qual scope a cdv cl A outer s H E) body t /\ t (cvs.map some) H Q) :
   FnOk P w K mg base (CXx P w) (k + 1) a (kla_fn name qual params body scope cl pm cdv ctv) [] sp := by
 refine ⟨len, fun A outer s H args us vs Q E hr e0 hb r hsp => ?_⟩
 have hl := len _ _ _ _ hsp
 obtain rfl : vs = [] := List.length_eq_zero_iff.mp hl
 cases r
 have bk : ∀ b o, base.get? b = some o -> s.heap.get? b = some o := fun b o e => (e0.bs b o e).1
 have lim : s.heap.NoLimit := e0.mod.nolimit.keeps bk
 obtain ⟨ps, hps, ham⟩ := hcd _ _ _ _ hsp
 obtain ⟨_, _, hcp⟩ := e0.hok Pt _ hps
 obtain ⟨cc, q, oc, vs, tq, hc1, _, hc2, hc3, hc4⟩ := hcp lpos cdv ham
 have cr : s.heap.CodeRec cdv q := ⟨cc, oc, vs, tq, hc1, hc2, hc3, hc4⟩
 obtain ⟨t, ht, hq⟩ := hbody q A outer s H Q E (hr.deeper _) hsp
 refine callFunE2 hr.depth (bk _ _ ho) hod S.co S.gen rfl cr (hb _ _ _ _ ?_)
 refine wpAny_newFunctionEnv S.nocell (fun y hy => absurd hy (by simp)) (fun h₁ hns hsb => ⟨lim.fresh _ hsb, ?_⟩) S.kind
 show codeAny _ _ (.expr body (envX q scope s.heap.objs.size a cdv cl)) _ _
 have hk₁ : ∀ b o, s.heap.get? b = some o -> h₁.get? b = some o := fun b o e => hsb.extBut b o (ztA (ztp e)) (zs1 _ e)
 have cellK : ∀ c v, base.IsCell c v -> h₁.IsCell c v := fun c v ⟨o, e, d⟩ => ⟨o, hk₁ _ _ (bk _ _ e), d⟩
 have noA : ∀ b : Addr, b ∉ (cxL P w K mg base cap q scope a cdv cl A outer s H E).ex := fun b z => absurd (show b ∈ ([] : List Addr) from z) (by simp)
 have I : Inv (cxL P w K mg base cap q scope a cdv cl A outer s H E) [] (cvs.map some) H { s with heap := h₁, toks := s.toks + ([] : List (Str × Value)).length } := by
   refine ⟨⟨e0.mod, S.kind, rfl, rfl, ztq _, S.inj, fun y hy => ?_, fun y c hf _ => (nomatch hf), fun _ => hr.hd, Around.frames_deeper e0.frames, .inr ⟨rfl, rfl⟩, fun b z => absurd z (noA b), e0.bs, e0.bsz, fun b _ _ => noA b, fun b z => absurd z (noA b), e0.funs, e0.frf⟩,
     rfl, e0.bare, Un.kept hk₁, ⟨_, hns, fun i y z h1 h2 h3 => ?_⟩, fun y c h => ?_, e0.hok.fresh (ztq _), fun y c h => ?_, fun q hq => absurd (show q ∈ ([] : List (Addr × Obj)) from hq) (by simp), e0.hok.kept hk₁, ?_⟩
   . rcases hy with hy | hy
     . exact absurd hy (zme S.nocell y)
     . exact S.has y hy
   . have e1 : cap[i]? = some y := h1
     have e2 : cvs[i]? = some z := by
       rw [ztb] at h2
       cases q : cvs[i]? with
       | none => rw [q] at h2; cases h2
       | some x => rw [q] at h2; cases h2; rfl
     obtain ⟨k1, c, u', k2, k3, k4⟩ := hcap i y z e1 e2
     exact ⟨u', k4, .inr ⟨.inr k1, c, k2, cellK _ _ k3⟩⟩
   . obtain ⟨v', hv⟩ := hcells y c h
     exact ⟨v', cellK _ _ hv⟩
   . obtain ⟨v', o', ho', _⟩ := hcells y c h
     exact (e0.bs _ _ ho').2
   . show _ = cap.length
     simp [hlen]
 refine kla_codeExpr (zto (ht [] _ _ H Q (I.wish _) hq) (fun u' s' hs => ?_) fun e s' hs => hs)
 obtain ⟨v', H', J, rv', q⟩ := hs
 exact ⟨v', H', J.os, J.bare, J.base, J.hok, rv', q⟩
section
variable {X : Cx} {x : Str} {p pos : Pos} {E : XK} {CX : CXT} {pins : List (Addr × Obj)} {σ : L2.St} {H : Hp} {s : Shared}
theorem zmQ {i : Nat} {a : Addr} {fd : FuncData} {k : Nat} {sp : Sp} {Q : VK} {EE : Value -> Shared -> Prop} (F : FnOk X.prog X.w X.K X.mg X.base CX k a fd [] sp) (hr : Room k X.A) (ho : X.base.get? a = some { cls := .type "function", data := .func fd })
   (hb : ∀ s : Shared, BindsTo s fd ⟨[], []⟩ []) (hN : X.N[i]? = some x) (hv : Vis X.env.scope x) (hdb : (x == ("__debug__" : Str)) = false) (hcd : (x == ("__classdict__" : Str)) = false)
   (I : Inv X pins σ H s) (h1 : σ[i]? = some (some (.ref a))) (h2 : Tups X.H₀ H -> sp [] H Q E) (hx : ∀ s1 e s', Inv X pins σ H s1 -> CX X.stack H s1 E e s' -> EE e s') :
   wpAny (model X.prog X.w) X.A (eval (.Call (.Name x p) [] [] pos) X.env) (EP X pins σ Q) EE s := by
 refine wpAny_Call_Name_kw (thn (ze6 (X := X.wish EE) hN hv hdb hcd pins s σ H (fun v H' => v = V.ref a /\ H' = H) (I.wish EE) ⟨.ref a, h1, rfl, rfl⟩) fun u s1 ⟨v, H1, I1, r1, e1, e2⟩ => ?_)
 subst e1 e2
 have I1 := I1.unwish
 obtain rfl : u = Value.ref a := r1
 refine callWith_of (P := fun h => h.get? a = some { cls := .type "function", data := .func fd }) rfl zmj ?_
 refine PySem.evalArgs_none ⟨I1.bk _ _ ho, ?_⟩
 have hsp := h2 ⟨I1.base.tups, I1.base.tbls, I1.base.frzs⟩
 refine wpAny_call (codeAny_mono (F.run X.A X.stack s1 _ ⟨[], []⟩ [] [] Q E hr I1.env0 (hb s1) .nil hsp) fun r s' hq => ?_)
 cases r with
 | error e => exact hx s1 e s' I1 hq
 | ok fl =>
   cases fl with
   | ret u => exact I1.after hq
   | next => exact False.elim hq
   | brk => exact False.elim hq
   | cont => exact False.elim hq
end
end MX
end
section
namespace MX
open PySem PySem.Spec PySem.W PySem.Calls PyProof.Rows L2
abbrev cxH (X : Cx) (a : Addr) : Cx := { X with A := X.A.mark (some (.ref a)), calm := false, xe := fun _ _ => False }
def eTry (c : Nat -> Addr) (tS : TS) (j : Nat) (D : zse) (σ : L2.St) : XK := fun v _ H' => ∃ i, i < 4 /\ v = .ref (c i) /\ ∀ e, H' e = none -> tS { nx := fun _ _ => False, rt := D.rt } (σ.set j (some (.ref e))) (upd H' e (zrv e (c i)))
structure zrV (K : PySem.W.Frag) (c : Nat -> Addr) (cH : Addr) : Prop where
 cls : ∀ i < 4, excIn K (c i) veMro "ValueError.__new__" = true
 clsH : excIn K cH veMro "ValueError.__new__" = true
 sub : ∀ i < 4, mroIn K (c i) (.ref cH) = some true
theorem zlG {X : Cx} {c : Nat -> Addr} {cH : Addr} {r en hn : Str} {p np pos rpos hpos tpos : Pos} {b₀ : Stmt} {suite : List Stmt} {tS : TS} {a : Addr} {fd : FuncData} {k j : Nat} {sp : Sp}
   (F : FnOk X.prog X.w X.K X.mg X.base (CXx X.prog X.w) k a fd [] sp) (hr : Room k X.A) (ho : X.base.get? a = some { cls := .type "function", data := .func fd }) (hb : ∀ s : Shared, BindsTo s fd ⟨[], []⟩ [])
   (hN : X.N[0]? = some r) (hv : Vis X.env.scope r) (hd1 : (r == ("__debug__" : Str)) = false) (hd2 : (r == ("__classdict__" : Str)) = false)
   (hst : X.stack = X.env :: X.outer) (hfr : X.env.frame = some X.env.locals) (O : zrV X.K c cH) (hg : Gl X hn) (hm : X.mg hn = some (.ref cH)) (hd3 : (hn == ("__debug__" : Str)) = false)
   (nd : X.N.Nodup) (hj : X.N[j]? = some en) (hl : X.env.scope.names.lookup en = some .local)
   (hS : ∀ e, PSs (cxH X e) (b₀ :: suite) tS) :
   PS X (.Try [.Return (some (.Call (.Name r p) [] [] pos)) rpos] [.ExceptHandler (some (.Name hn np)) (some en) (b₀ :: suite) hpos] [] [] tpos)
     (fun D σ H => σ[0]? = some (some (.ref a)) /\ (Tups X.H₀ H -> sp [] H D.rt (eTry c tS j D σ))) := by
 intro pins s σ H D I h
 obtain ⟨h1, h2⟩ := h
 refine wpAny_Try_except (wpAny_execs_cons ?_)
 refine zto (wpAny_Return_some (Q := fun f s1 => match f with | .ret u => EP X pins σ D.rt u s1 | _ => False) (zmQ F hr ho hb hN hv hd1 hd2 I h1 h2 fun s1 e s' I1 hx => ?_)) (fun f s1 q => ?_) fun _ _ z => z
 . obtain ⟨x, C, B, H', rfl, FX, i, hi, hC, hk⟩ := hx
   cases hC
   obtain ⟨t, fl⟩ := FX.fl
   have hst' := hst ▸ I1.ok.frames
   rw [hst] at fl
   refine wpAny_looks_onW hst' hfr fl fun h₄ held up4 => wpAny_landsW held fun h₅ fl5 up5 => ?_
   rw [<- hst] at fl5
   obtain ⟨I5, hn5⟩ := zi0 I1 FX fl5 (up4.trans up5)
   have M5 := zc7 I5 (X.A.mark (some (.ref x))) false (fun _ _ => False) (fun z => by cases z) rfl
   refine wpAny_handleBy_cons (codeAny_handlers_test (zdX M5 hg hm ?_ hd3)) (by intro q; cases q)
   refine zi7 I5.kIn (O.cls i hi) O.clsH (O.sub i hi) (zgs fl5) ?_
   refine codeAny_handlers_suite_as ?_
   refine lands_againW fl5 fun h₆ fl6 up6 => ?_
   obtain ⟨I6, hn6⟩ := zi0 I1 FX fl6 ((up4.trans up5).trans up6)
   have M6 := zc7 I6 (X.A.mark (some (.ref x))) false (fun _ _ => False) (fun z => by cases z) rfl
   refine zej (X := cxH X x) (v := .ref x) M6 nd hj (.inl hl) rfl (fun s7 I7 => ?_) (.inr hl)
   refine zto (hS x pins s7 _ _ _ I7 (hk x hn6)) (fun f s8 h8 => ?_) fun _ _ z => False.elim z
   cases f with
   | ret u =>
     obtain ⟨v, σ', H8, J, rv, q⟩ := h8
     obtain ⟨m, hm8, _⟩ := J.loc
     have hk2 : X.env.scope.kind = .function := I.ok.kind
     refine wpAny_nameGoes (m := m) hl hm8 (by rw [hk2]; rfl) fun h' m' hn' hs' => ?_
     have J0 : Inv X pins σ' H8 s8 := zc7 J X.A X.calm X.xe I.ok.hd rfl
     exact ⟨v, _, H8, zkp J0 hn' hs', rv, q⟩
   | next => obtain ⟨_, _, _, z⟩ := h8; exact False.elim z
   | brk => obtain ⟨_, _, _, z⟩ := h8; exact False.elim z
   | cont => obtain ⟨_, _, _, z⟩ := h8; exact False.elim z
 . cases f with
   | ret u =>
     obtain ⟨v, H1, I1, rv, q⟩ := q
     exact ⟨v, σ, H1, I1, rv, q⟩
   | next => exact False.elim q
   | brk => exact False.elim q
   | cont => exact False.elim q
end MX
end
section
namespace MX
open PySem PySem.Spec PySem.W PySem.Calls PyProof.Rows L2
section
variable {X : Cx} {x : Str} {p pos : Pos} {params : Arguments} {body : Expr} {scope : Scope} {lpos : Pos} {f : Addr} {fd : FuncData} {k : Nat} {p1 : Str} {P c : Addr} {SPf : Addr -> Value -> List V -> Sp} {cap : List Str}
theorem zgh (hcap : ∀ y ∈ cap, (y, NameKind.free) ∈ scope.names) (hfree : ∀ y ∈ scope.names, y.2 = .free -> X.env.kindOf y.1 = some .cell) (hfn : ∀ y, X.fn y = true) (hT : ∃ ps, X.H₀ P = some (.tbl ps)) (hcode : X.env.code = .ref c) (C : CodeHd X.base c P) (B : BM X.base X.mg)
   (hdef : defaultsOf params X.env = ([], []))
   (F : ∀ (base : Heap) (a : Addr) (cdv : Value) (cvs : List V) (clos : List (Str × Addr)), Mod X.K X.mg base -> (∀ b o, X.base.get? b = some o -> base.get? b = some o) -> cap.length = cvs.length -> Clo base X.env.qual params body scope clos cap cvs a cdv -> FnOk X.prog X.w X.K X.mg base CX0 k f fd [p1] (SPf a cdv cvs))
   (hr : Room k X.A) (hg : Gl X x) (hm : X.mg x = some (.ref f)) (hk : keepIn X.K (.ref f) = true) (hb : Binds X.K fd [p1] []) (hdb : (x == ("__debug__" : Str)) = false)
   (he : starEach [.Lambda params body scope lpos] X.env = (false, eval (.Lambda params body scope lpos) X.env) :: starEach [] X.env) :
   PE X (.Call (.Name x p) [.Lambda params body scope lpos] [] pos) (fun σ H Q => ∃ cvs : List V, cap.length = cvs.length /\ (∀ (i : Nat) y, cap[i]? = some y -> ∃ (j : Nat) (v : V), X.N[j]? = some y /\ σ[j]? = some (some v) /\ cvs[i]? = some v) /\
     ∀ a cdv H2, SameT H H2 -> (∃ ps, H2 P = some (.tbl ps) /\ codeAmong lpos ps.toList = some cdv) -> SPf a cdv cvs [.ref a] H2 Q E0) := by
 intro pins s1 σ H1 Q I1 h
 obtain ⟨cvs, hlen, hsl, q1⟩ := h
 refine wpAny_Call_Name_kw (zdX I1 hg hm ?_ hdb)
 refine callWith_K (h₀ := X.base) I1.ok.mod.kin hk ?_ he rfl
 have hcells : ∀ y ∈ scope.names, y.2 = .free -> ∃ c, X.env.cells.lookup y.1 = some c := fun y hy e => I1.ok.has y.1 (.inl (hfree y hy e))
 obtain ⟨ps0, hps0⟩ := hT
 obtain ⟨more, hps⟩ := I1.base.tbls P ps0 hps0
 have key : ∀ a s' H', Made X pins σ H1 s1 params body scope (zqH X.env scope.names) P lpos a s' H' -> wpAny (model X.prog X.w) X.A (spliced []) (fun vs s₂ => X.K.In s₂.heap /\ wpAny (model X.prog X.w) X.A (call (.ref f) ([] ++ Value.ref a :: vs)) (EP X pins σ Q) X.xe s₂) X.xe s' := fun a s' H' M => by
   refine Calls.spliced_nil ⟨M.inv.kIn, ?_⟩
   obtain ⟨pm, cdv, ctv, ho, hps'⟩ := M.obj
   have I2 := M.inv
   obtain ⟨e0, kb⟩ := zjo I2
   have notFr : ∀ b, s1.heap.objs.size <= b -> b ∉ frs X.stack := fun b hb z => by
     obtain ⟨_, o, ho, _⟩ := I1.stack.mem z
     exact absurd (zs0 (ztp ho) hb) (zte _)
   have cellFr : ∀ y c, X.env.cells.lookup y = some c -> c ∉ frs X.stack := fun y c ec z => by
     rcases List.mem_cons.mp (I2.stkSub c z) with q | q
     . exact I2.cne y c ec q
     . obtain ⟨_, o, ho, _⟩ := I2.ok.funs.mem q
       exact absurd (zs0 (ztp ho) (I2.ok.cab y c (hfn y) ec)) (zte _)
   have cellB : ∀ y c v, X.env.cells.lookup y = some c -> s'.heap.IsCell c v -> (zqs s'.heap H' X.stack).IsCell c v := fun y c v ec ⟨o, h1, h2⟩ => ⟨o, zd2 h1 (I2.freeC y c ec) (cellFr y c ec), h2⟩
   have clo : Clo (zqs s'.heap H' X.stack) X.env.qual params body scope (zqH X.env scope.names) cap cvs a cdv := by
     refine ⟨⟨pm, ctv, zd2 ho M.no (notFr a M.new)⟩, fun y hy => ?_, fun y z c h1 h2 => I2.ok.inj y z c (zbu h1).1 (zbu h2).1, fun y c h1 => ?_, fun i y v h1 h2 => ?_⟩
     . obtain ⟨c, hc⟩ := hcells _ hy rfl
       exact ⟨c, zfS hy hc⟩
     . obtain ⟨v, hv⟩ := I2.cell y c (zbu h1).1
       exact ⟨v, cellB y c v (zbu h1).1 hv⟩
     . have hy := hcap y (List.mem_of_getElem? h1)
       obtain ⟨j, v', k1, k2, k3⟩ := hsl i y h1
       rw [h2] at k3; cases k3
       have hkind := hfree _ hy rfl
       obtain ⟨m, _, hloc⟩ := I2.loc
       obtain ⟨u, ru, l⟩ := hloc j y v k1 k2 (.inr (.inl hkind))
       refine ⟨hy, ?_⟩
       rcases l with ⟨l1, _⟩ | ⟨_, c, l2, l3⟩
       . have l1' : X.env.kindOf y = some .local := l1
         have hk' : X.env.kindOf y = some .cell := hkind
         rw [hk'] at l1'; cases l1'
       . exact ⟨c, u, zfS hy l2, cellB y c _ l2 l3, ru⟩
   have G := F _ a cdv cvs _ e0.mod kb hlen clo
   have hsp := q1 a cdv H' M.same hps'
   refine wpAny_call (codeAny_mono (G.run X.A X.stack s' H' ⟨[.ref a], []⟩ [.ref a] [.ref a] Q E0 hr e0 (hb s' [.ref a] I2.kIn rfl) (.cons rfl .nil) hsp) fun r s'' hq => ?_)
   cases r with
   | error e => exact hq.elim
   | ok fl =>
     cases fl with
     | ret u => exact I2.after hq
     | next => exact False.elim hq
     | brk => exact False.elim hq
     | cont => exact False.elim hq
 rw [he]
 show wpAny _ _ (spliced ((false, eval (.Lambda params body scope lpos) X.env) :: [])) _ _ s1
 exact Calls.spliced_cons (zkk I1 hps hcode C B (zhG hcells) hdef key)
end
def zrB (tel : Nat -> D) (y : Str) : Option D := if y = wn 0 then some (tel 0) else if y = wn 1 then some (tel 1) else if y = wn 2 then some (tel 2) else if y = wn 3 then some (tel 3) else none
theorem zhV {tel : Nat -> D} {y : Str} {d : D} (h : zrB tel y = some d) : ∃ i, i < 4 /\ y = wn i /\ d = tel i := by
 unfold zrB at h
 split at h
 . cases h; exact ⟨0, by decide, by assumption, rfl⟩
 . split at h
   . cases h; exact ⟨1, by decide, by assumption, rfl⟩
   . split at h
     . cases h; exact ⟨2, by decide, by assumption, rfl⟩
     . split at h
       . cases h; exact ⟨3, by decide, by assumption, rfl⟩
       . cases h
def zrw (src : List Nat) (fb : EF) (xb : XF) (tel : Nat -> D) : EF := fun σ S => (capD src σ).bind fun cds => match fb (cds.map some) S with
 | some r => some r
 | none => (xb (cds.map some) S).bind fun r => (zrB tel r.1).map fun d => (d, r.2)
theorem zgI {K : PySem.W.Frag} {H : Hp} {α : List Addr} {cds : List D} {cvs : List V} (r : Reps K H α cds cvs) : VarsR K H α (cds.map some) (cvs.map some) := by
 refine ⟨by simp [r.length], fun i d e => ?_⟩
 rw [ztb] at e
 cases q : cds[i]? with
 | none => rw [q] at e; cases e
 | some d2 =>
   rw [q] at e; cases e
   obtain ⟨v, k1, k2⟩ := r.get q
   exact ⟨v, by rw [ztb, k1]; rfl, k2⟩
def zsj (c : Nat -> Addr) (tS : TS) (a : Addr) (sp : Sp) : Sp := fun vs H Q _ => vs = [.ref a] /\ sp [] H Q (eTry c tS 1 { nx := fun _ H' => Q .non H', rt := Q } [some (.ref a), none])
def zrm (P : Program) (w : World) (K : PySem.W.Frag) (mg : Str -> Option Value) (base : Heap) (k : Nat) (f : Addr) (fd : FuncData) (p1 : Str) (c : Nat -> Addr) (tS : TS) : Prop :=
 ∀ (a : Addr) (fl : FuncData) (sp : Sp), FnOk P w K mg base (CXx P w) k a fl [] sp -> base.get? a = some { cls := .type "function", data := .func fl } -> (∀ s : Shared, BindsTo s fl ⟨[], []⟩ []) -> FnOk P w K mg base CX0 (k + 1) f fd [p1] (zsj c tS a sp)
section
variable {X : Cx} {x : Str} {p pos lpos : Pos} {fb : EF} {xb : XF} {params : Arguments} {body : Expr} {scope : Scope} {cap : List Str} {src : List Nat} {f : Addr} {fd : FuncData} {p1 : Str} {k : Nat} {Pt ct : Addr} {c : Nat -> Addr} {tS : TS} {tel : Nat -> D}
theorem zlw (L : zsT X Pt ct) (hsc : scope.kind = .function /\ scope.isCoroutine = false /\ scope.isGenerator = false /\ ∀ y ∈ scope.names, y.2 ≠ .cell)
   (hu : ∀ y ∈ scope.names, scope.names.lookup y.1 = some y.2)
   (hcap : ∀ y ∈ cap, (y, NameKind.free) ∈ scope.names) (hfree : ∀ y ∈ scope.names, y.2 = .free -> X.env.kindOf y.1 = some .cell) (hsrc : ∀ (i : Nat) y, cap[i]? = some y -> ∃ j, src[i]? = some j /\ X.N[j]? = some y) (hlen : cap.length = src.length)
   (hdef : defaultsOf params X.env = ([], [])) (hbind : ∀ (pm cdv ctv : Value) (clos : List (Str × Addr)) (qual : Str), bindArgs (kla_fn "<lambda>" qual params body scope clos pm cdv ctv) ⟨[], []⟩ = pure [])
   (hbody : ∀ (base : Heap), Mod X.K X.mg base -> (∀ b o, X.base.get? b = some o -> base.get? b = some o) -> ∀ (a : Addr) (cdv : Value) (clos : List (Str × Addr)) (qual : Str) (A : Around) (outer : List Env) (s : Shared) (H : Hp) (E : XK), Room k (A.deeper (envX qual scope s.heap.objs.size a cdv clos)) ->
     SE (cxLx X.prog X.w X.K X.mg base cap qual scope a cdv clos A outer s H E).nox body fb /\ PE (cxLx X.prog X.w X.K X.mg base cap qual scope a cdv clos A outer s H E) body (tXE X.K X.mg xb E))
   (hname : ∀ i < 4, X.mg (wn i) = some (.ref (c i)))
   (hG : ∀ (base : Heap), Mod X.K X.mg base -> (∀ b o, X.base.get? b = some o -> base.get? b = some o) -> zrm X.prog X.w X.K X.mg base (k + 1) f fd p1 c tS)
   (htel : ∀ (a e : Addr) (i : Nat) (H : Hp) (Q : VK), i < 4 -> H e = some (zrv e (c i)) -> (∀ v H', SameT H H' -> (∀ α, Rep X.K H' α (tel i) v) -> Q v H') -> tS { nx := fun _ _ => False, rt := Q } [some (.ref a), some (.ref e)] H)
   (hr : Room (k + 2) X.A) (hg : Gl X x) (hm : X.mg x = some (.ref f)) (hk : keepIn X.K (.ref f) = true) (hb : Binds X.K fd [p1] []) (hdb : (x == ("__debug__" : Str)) = false)
   (he : starEach [.Lambda params body scope lpos] X.env = (false, eval (.Lambda params body scope lpos) X.env) :: starEach [] X.env) :
   SE X (.Call (.Name x p) [.Lambda params body scope lpos] [] pos) (zrw src fb xb tel) := by
 have F : ∀ (base : Heap) (a : Addr) (cdv : Value) (cvs : List V) (clos : List (Str × Addr)), Mod X.K X.mg base -> (∀ b o, X.base.get? b = some o -> base.get? b = some o) -> cap.length = cvs.length -> Clo base X.env.qual params body scope clos cap cvs a cdv ->
     FnOk X.prog X.w X.K X.mg base CX0 (k + 2) f fd [p1] (zsj c tS a (fun vs H Q E => vs.length = 0 /\ (∃ ps, H Pt = some (.tbl ps) /\ codeAmong lpos ps.toList = some cdv) /\ ∃ S α cds, StoreR X.K H α S /\ Reps X.K H α cds cvs /\
       ((∃ z S', fb (cds.map some) S = some (z, S') /\ Kt X.K H α z S' Q) \/ ∃ y S', xb (cds.map some) S = some (y, S') /\ Kx X.K X.mg H α S' y E))) := by
   intro base a cdv cvs clos M kb hl C
   obtain ⟨pm, ctv, ho⟩ := C.obj
   refine hG base M kb a _ _ (zmi (P := X.prog) (w := X.w) (K := X.K) (mg := X.mg) (k := k) (Pt := Pt) (lpos := lpos) (cap := cap) (cvs := cvs) ho rfl (fun vs H Q E h => h.2.1) ⟨hsc.1, hsc.2.1, hsc.2.2.1, hsc.2.2.2, fun y hy => C.has y (zs4 hy), C.inj⟩ C.cells
     (fun i y v h1 h2 => ⟨hu _ (C.cap i y v h1 h2).1, (C.cap i y v h1 h2).2⟩) hl (fun vs H Q E h => h.1) (fun qual A outer s H Q E hr h => ?_)) ho fun s => .of_eq (hbind pm cdv ctv clos _)
   obtain ⟨b1, b2⟩ := hbody base M kb a cdv clos qual A outer s H E hr
   obtain ⟨_, _, S, α, cds, hs, hrep, hh⟩ := h
   rcases hh with ⟨z, S', e1, kk⟩ | ⟨y, S', e1, kk⟩
   . exact ⟨_, PE.nox b1, _, S, α, z, S', zgI hrep, hs, e1, kk⟩
   . exact ⟨_, b2, _, S, α, y, S', zgI hrep, hs, e1, kk⟩
 refine PE.imp (zgh hcap hfree L.fn L.tab L.code L.hd L.bm hdef F hr hg hm hk hb hdb he) fun σ H Q h => ?_
 obtain ⟨σd, S, α, z, S', hv, hs, hf, kk⟩ := h
 unfold zrw at hf
 obtain ⟨cds, e2, e3⟩ := oBs.mp hf
 obtain ⟨cvs, c1, c2, c3⟩ := zhd hv e2
 refine ⟨cvs, by rw [hlen, c2], fun i y hi => ?_, fun a cdv H2 hst htab => ⟨rfl, rfl, htab, S, α, cds, hst.store hs, c1.mono hst.ext, ?_⟩⟩
 . obtain ⟨j, k1, k2⟩ := hsrc i y hi
   obtain ⟨v, k3, k4⟩ := c3 i j k1
   exact ⟨j, v, k2, k3, k4⟩
 . split at e3
   . rename_i r er
     cases e3
     exact .inl ⟨z, S', er, kk.trans hst.ext⟩
   . obtain ⟨⟨y, S1⟩, e4, e5⟩ := oBs.mp e3
     obtain ⟨d, e6, e7⟩ := oMs.mp e5
     cases e7
     obtain ⟨i, hi, rfl, rfl⟩ := zhV e6
     refine .inr ⟨_, _, e4, c i, hname i hi, fun H' α' s' x' => ⟨i, hi, rfl, fun e he => ?_⟩⟩
     have old : SameT H' (upd H' e (zrv e (c i))) := fun b o q _ => by rw [zal (zak q he)]; exact q
     refine htel a e i _ Q hi zam fun v H'' hs2 hr2 => ?_
     have all : SameT H' H'' := fun b o q nt => hs2 b o (old b o q nt) nt
     exact kk v H'' α' (all.store s') ((hst.ext.trans x').trans all.ext) (hr2 α')
end
end MX
end
section
namespace MX
open PySem PySem.Spec PySem.W PySem.Calls PyProof.Rows L2
def zsq (es : List Expr) : Option (Arguments × Expr × Scope × Pos) := match es with
 | [] => none
 | l :: r => match r with
   | _ :: _ => none
   | [] => match l with
     | .Lambda params body scope pos => some (params, body, scope, pos)
     | _ => none
theorem zgn {es : List Expr} {params : Arguments} {body : Expr} {scope : Scope} {pos : Pos} (h : zsq es = some (params, body, scope, pos)) : es = [.Lambda params body scope pos] := by
 cases es with
 | nil => cases h
 | cons l r => cases r with
   | cons _ _ => cases h
   | nil => cases l with
     | Lambda a b c d => cases h; rfl
     | _ => cases h
def noArgs : Arguments := { posonlyargs := [], args := [], vararg := none, kwonlyargs := [], kw_defaults := [], kwarg := none, defaults := [] }
def zrI (params : Arguments) : Bool := params.args.isEmpty && params.posonlyargs.isEmpty && params.vararg.isNone && params.kwonlyargs.isEmpty && params.kw_defaults.isEmpty && params.kwarg.isNone && params.defaults.isEmpty
theorem zis {params : Arguments} (h : zrI params = true) : params = noArgs := by
 obtain ⟨a, b, c, d, e, f, g⟩ := params
 unfold zrI at h
 simp only [zs5, List.isEmpty_iff, Option.isNone_iff_eq_none] at h
 obtain ⟨⟨⟨⟨⟨⟨h1, h2⟩, h3⟩, h4⟩, h5⟩, h6⟩, h7⟩ := h
 subst h1 h2 h3 h4 h5 h6 h7
 rfl
def lamB0 (c : Ctx) (scope : Scope) : Bool := decide (scope.kind = .function) && !scope.isCoroutine && !scope.isGenerator && scope.names.all (fun y => decide (y.2 ≠ .cell)) &&
 scope.names.all (fun y => decide (scope.names.lookup y.1 = some y.2)) && scope.names.all (fun y => decide (y.2 = .free -> c.names.lookup y.1 = some .cell)) && decide (zrj scope.names).Nodup
def zr9 (c : Ctx) (names : List (Str × NameKind)) : Ctx := { N := zrj names, names := names, sts := [], fns := c.fns, blt := c.blt }
def zsy (c : Ctx) (fx : List (Str × Nat × XN)) (x0 : Str) (tel : Nat -> D) (x : Str) (es : List Expr) : Option EF := if x = x0 /\ zpV x = false /\ c.names.lookup x = some .globalImplicit then match zsq es with
   | none => none
   | some (params, body, scope, _) => if zrI params = true /\ lamB0 c scope = true then
       (srcL c (zrj scope.names)).bind fun src => (cE 60 (zr9 c scope.names) body).bind fun fb => (xE (zr9 c scope.names) fx body).map fun xb => zrw src fb xb tel
     else none
 else none
theorem zhi {X : Cx} {c : Ctx} {fx : List (Str × Nat × XN)} {x0 : Str} {tel : Nat -> D} {k : Nat} {Pt ct f : Addr} {fd : FuncData} {p1 : Str} {cc : Nat -> Addr} {tS : TS} (hN : X.N = c.N) (hnm : X.env.scope.names = c.names) (hblt : ∀ x ∈ c.blt, X.mg x = none)
   (L : zsT X Pt ct) (hr : Room (k + 2) X.A) (hF : ∀ base : Heap, FnsOk X.prog X.w X.K X.mg base k c.fns /\ FxsOk X.prog X.w X.K X.mg base k fx)
   (hname : ∀ i < 4, X.mg (wn i) = some (.ref (cc i))) (hm : X.mg x0 = some (.ref f)) (hk : keepIn X.K (.ref f) = true) (hb : Binds X.K fd [p1] []) (hG : ∀ base : Heap, zrm X.prog X.w X.K X.mg base (k + 1) f fd p1 cc tS)
   (htel : ∀ (a e : Addr) (i : Nat) (H : Hp) (Q : VK), i < 4 -> H e = some (zrv e (cc i)) -> (∀ v H', SameT H H' -> (∀ α, Rep X.K H' α (tel i) v) -> Q v H') -> tS { nx := fun _ _ => False, rt := Q } [some (.ref a), some (.ref e)] H)
   {x : Str} {es : List Expr} {g : EF} {p pos : Pos} (h : zsy c fx x0 tel x es = some g) : SE X (.Call (.Name x p) es [] pos) g := by
 unfold zsy at h
 split at h
 . rename_i h0
   obtain ⟨rfl, h1, h2⟩ := h0
   split at h
   . cases h
   . rename_i params body scope lpos el
     split at h
     . rename_i hc
       obtain ⟨c1, c2⟩ := hc
       have el := zgn el
       have c1 := zis c1
       subst el c1
       obtain ⟨src, e2, h⟩ := oBs.mp h
       obtain ⟨fb, e3, h⟩ := oBs.mp h
       obtain ⟨xb, e4, rfl⟩ := oMs.mp h
       unfold lamB0 at c2
       simp only [zs5, ztG, Bool.not_eq_true', List.all_eq_true] at c2
       obtain ⟨⟨⟨⟨⟨⟨k1, k2⟩, k3⟩, k5⟩, k6⟩, k7⟩, k8⟩ := c2
       obtain ⟨s1, s2⟩ := zhY e2
       refine zlw (cap := zrj scope.names) (k := k) (c := cc) (tS := tS) L ⟨k1, k2, k3, k5⟩ k6 (fun y hy => zmP hy) (fun y hy hf => ?_) (fun i y hi => ?_) s1 rfl (fun pm cdv ctv clos qual => rfl) (fun base M kb a cdv clos qual A outer s H E hrm => ?_) hname (fun base _ _ => hG base) htel hr ?_ hm hk hb (zsl h1) (zaD rfl _ X.env)
       . show X.env.scope.names.lookup y.1 = _
         rw [hnm]; exact k7 y hy hf
       . obtain ⟨j, j1, j2⟩ := s2 i y hi
         exact ⟨j, j1, by rw [hN]; exact j2⟩
       . have fns : ∀ X' : Cx, X'.prog = X.prog -> X'.w = X.w -> X'.K = X.K -> X'.mg = X.mg -> X'.base = base -> Room k X'.A -> ∀ y n ψ, c.fns.lookup y = some (n, ψ) -> zsU X' y n ψ := fun X' q1 q2 q3 q4 q5 q6 y n ψ hl => by
           obtain ⟨f', fd', ps', m1, m2, m3, m4⟩ := (hF base).1 y n ψ hl
           exact ⟨f', fd', ps', k, by rw [q4]; exact m1, by rw [q3]; exact m2, by rw [q3]; exact m3, by rw [q1, q2, q3, q4, q5]; exact m4, q6⟩
         refine ⟨(za3 60).1 (zr9 c scope.names) _ body fb ⟨rfl, k8, rfl, k1, fun y hy => (nomatch hy), fns _ rfl rfl rfl rfl rfl hrm, hblt, rfl, hrm.units, fun _ _ _ _ _ h => (nomatch h)⟩ e3, ?_⟩
         exact zfh (c := zr9 c scope.names) (X := cxLx X.prog X.w X.K X.mg base (zrj scope.names) qual scope a cdv clos A outer s H E) ⟨rfl, k8, rfl, k1, fun y hy => (nomatch hy), fns _ rfl rfl rfl rfl rfl hrm, hblt, rfl, hrm.units, fun _ _ _ _ _ h => (nomatch h)⟩ zmV (fun y n ξ hl => ⟨k, (hF base).2 y n ξ hl, hrm⟩) e4
       . show X.env.scope.names.lookup _ = _
         rw [hnm]; exact h2
     . cases h
 . cases h
theorem zlb {P : Program} {w : World} {K : PySem.W.Frag} {mg : Str -> Option Value} {h : Heap} {x p1 : Str} {st : Stmt} {N : List Str} {c : Nat -> Addr} {tS : TS} (KX : K.In h) (G : h.Ns mainGlobals mg) (hD : DefK K x st) (hb0 : zq1 x st [p1]) (S : zp2 N [p1] (zpB st)) (hN2 : N.length = 2)
   (hB : ∀ (X : Cx) (a : Addr) (fl : FuncData) (sp : Sp) (k : Nat), X.prog = P -> X.w = w -> X.K = K -> X.mg = mg -> X.N = N -> X.env.scope = zpB st -> (∀ y, X.fn y = true) -> X.stack = X.env :: X.outer -> X.env.frame = some X.env.locals -> Room k X.A ->
     FnOk X.prog X.w X.K X.mg X.base (CXx X.prog X.w) k a fl [] sp -> X.base.get? a = some { cls := .type "function", data := .func fl } -> (∀ s : Shared, BindsTo s fl ⟨[], []⟩ []) ->
     1 <= k -> PSs X (zpN st) (fun D σ H => σ[0]? = some (some (.ref a)) /\ (Tups X.H₀ H -> sp [] H D.rt (eTry c tS 1 D σ)))) :
   ∃ f fd, mg x = some (.ref f) /\ keepIn K (.ref f) = true /\ Binds K fd [p1] [] /\ ∀ (base : Heap) (k : Nat), 1 <= k -> zrm P w K mg base k f fd p1 c tS := by
 obtain ⟨f, fd, a, F⟩ := hD
 refine ⟨f, fd, mg_of KX G a, F.kp, F.binds hb0, fun base k hk a fl sp FL ho hb => ?_⟩
 obtain ⟨oc, od, kV, doc, pm, an, cdv, ct, osl, rfl, lk, hcd⟩ := F.ex
 refine zkv lk hcd S (fun vs H Q E h => by rw [h.1]; rfl) fun A outer s H vs Q E hr hh => ?_
 obtain ⟨rfl, hsp⟩ := hh
 refine ⟨_, hB (zri CX0 P w K mg base N x (zpB st) f cdv A outer s H E) a fl sp k rfl rfl rfl rfl rfl rfl (fun _ => rfl) rfl rfl hr FL ho hb hk, ?_⟩
 have e : L2.start N [V.ref a] = [some (.ref a), none] := by unfold L2.start; rw [hN2]; rfl
 rw [e]
 exact ⟨rfl, fun _ => hsp⟩
end MX
end
section
namespace MX
open PySem PySem.Spec PySem.W PySem.Calls PyProof.Rows L2
def mkCX (st : Stmt) (fns : List (Str × Nat × GN)) (blt : List Str) (ext : Str -> List Expr -> Option EF) : Ctx := { N := zqD (zpB st).names, names := (zpB st).names, sts := zqD (zpB st).names, fns := fns, blt := blt, ext := ext }
theorem ziK {P : Program} {w : World} {K : PySem.W.Frag} {mg : Str -> Option Value} {h : Heap} {x p : Str} {st : Stmt} {k m n : Nat} {fns : List (Str × Nat × GN)} {blt : List Str} {fb : SF} {fa c Pt : Addr} {ext : Str -> List Expr -> Option EF} (KX : K.In h) (G : h.Ns mainGlobals mg) (hblt : ∀ y ∈ blt, mg y = none) (hfa : mg x = some (.ref fa))
   (hD : zsf K x st c) (hC : ∀ h : Heap, K.In h -> PySem.W.CodeHd h c Pt) (hb0 : zq1 x st [p]) (S : zp2 (zqD (zpB st).names) [p] (zpB st)) (hu : (zpB st).names.all (fun y => decide ((zpB st).names.lookup y.1 = some y.2)) = true)
   (hn : (zqD (zpB st).names).length = n) (hb : cSs m (mkCX st fns blt ext) (zpN st) = some fb) (hs : ∀ base, FnsOk P w K mg base k fns)
   (hext : ∀ X : Cx, X.prog = P -> X.w = w -> X.K = K -> X.mg = mg -> X.N = zqD (zpB st).names -> X.env.scope.names = (zpB st).names -> zsT X Pt c -> Room (k + 2) X.A -> ∀ x es f p pos, ext x es = some f -> SE X (.Call (.Name x p) es [] pos) f)
   (hφ : ∀ ns : List Int, ns.length <= 63 -> ∃ σ' S'', fb (stD n [.ref 0]) [.frz (ns.map D.int)] = some (.rt (.bl true), σ', S'')) :
   ∃ (fd : FuncData) (c : Addr), (∀ h : Heap, K.In h -> PySem.W.CodeHd h c Pt) /\ (∀ (s : Shared) (v : Value), BindsTo s fd ⟨[v], []⟩ [(p, v)]) /\ ∀ base : Heap, Mod K mg base -> PySem.W.CodeHd base c Pt -> BM base mg -> FnOk P w K mg base CX0 (k + 3) fa fd [p] (zrl K 63 Pt) := by
 obtain ⟨f, fd, ha, F, hcode⟩ := hD
 have e := hfa.symm.trans (PySem.W.mg_of KX G ha)
 cases e
 obtain ⟨oc, od, kV, doc, pm, an, cdv0, ct, osl, rfl, lk, hcdin⟩ := F.ex
 refine ⟨_, c, hC, fun s v => .of_eq (hb0 kV doc pm an cdv0 ct [v] rfl), fun base M C B => ?_⟩
 refine zkv lk hcdin S (fun vs H Q E h => ?_) (fun A outer s H vs Q E hr h => ?_)
 . obtain ⟨_, a, ns, rfl, _⟩ := h; rfl
 obtain ⟨htab, a, ns, rfl, hz, hl, kk⟩ := h
 have ok : zpP (mkCX st fns blt ext) (zri CX0 P w K mg base (zqD (zpB st).names) x (zpB st) fa cdv0 A outer s H E).nox := by
   refine ⟨rfl, S.nd, rfl, S.kind, fun y hy => ?_, fun y n ψ q => ?_, hblt, rfl, hr.units, hext _ rfl rfl rfl rfl rfl rfl ⟨fun _ => rfl, htab, hcode, C, B⟩ hr⟩
   . rw [List.all_eq_true] at hu
     exact ⟨zdU (fun z hz => of_decide_eq_true (hu z hz)) hy, .inl rfl⟩
   . obtain ⟨f', fd', ps', a, b, c, d⟩ := hs base y n ψ q
     exact ⟨f', fd', ps', k, a, b, c, d, hr.mono (by omega)⟩
 refine ⟨rdS K fb, ((zel m _ _ ok PassesOwn.never).2 _ fb hb).nox, ?_⟩
 obtain ⟨σ', S'', e⟩ := hφ ns hl
 have hst : StoreR K H [a] [.frz (ns.map D.int)] := by
   refine ⟨rfl, fun i j o o' b h1 h2 w1 w2 _ _ => ?_, fun i o b h1 h2 => ?_⟩
   . cases i with
     | zero => cases h1; cases w1
     | succ i => simp at h1
   . cases i with
     | zero => cases h1; cases h2; exact ⟨_, hz, zeG ns⟩
     | succ i => simp at h1
 have e0 : zp5 (zqD (zpB st).names) [D.ref 0] = stD n [D.ref 0] := by unfold zp5 stD; rw [hn]
 rw [<- e0] at e
 refine ⟨_, _, [a], _, σ', S'', zev (K := K) (α := [a]) (.cons (.ref rfl) .nil), hst, e, fun σ2 H2 α2 v2 s2 x2 v rv => ?_⟩
 cases rv
 exact kk H2
theorem zor {K : PySem.W.Frag} {mg : Str -> Option Value} {h : Heap} (KX : K.In h) (G : h.Ns mainGlobals mg) (e : excB K = true) :
   zqT K mg (fun i => zqj K (wn i)) (zqj K "HitError") /\ zrV K (fun i => zqj K (wn i)) (zqj K "HitError") /\ ∀ i < 4, ∃ C, ExcK K mg (wn i) C := by
 unfold excB at e
 simp only [zs5, beq_iff_eq, List.all_eq_true, List.mem_range] at e
 obtain ⟨e1, ⟨e2, e3⟩, e4, e5⟩ := e
 have one : ∀ i < 4, _ := fun i hi => by
   have := e1 i hi
   unfold zss at this
   simp only [zs5, beq_iff_eq, List.all_eq_true, List.mem_range] at this
   exact this
 refine ⟨⟨fun i hi => mg_of KX G (one i hi).2.2.2.2.2, mg_of KX G e2, fun i hi => (one i hi).1.1, fun i hi j hj => (one i hi).2.2.2.2.1 j hj, fun i hi => (one i hi).2.2.1, fun i hi => (one i hi).2.2.2.1, mg_none_of KX G e4, mg_none_of KX G e5⟩,
   ⟨fun i hi => (one i hi).1.2, e3, fun i hi => (one i hi).2.1⟩, fun i hi => ⟨_, mg_of KX G (one i hi).2.2.2.2.2, (one i hi).1.2⟩⟩
end MX
end
section
namespace MX
open PySem PySem.Spec PySem.W PySem.Calls PyProof.Rows L2
def zrT (P : Program) (w : World) (K : PySem.W.Frag) (mg : Str -> Option Value) (x p1 : Str) (c : Nat -> Addr) : Prop :=
 ∃ f fd, mg x = some (.ref f) /\ keepIn K (.ref f) = true /\ Binds K fd [p1] [] /\ ∀ base : Heap, FnW P w K mg base 1 f fd [p1] (zsi c)
theorem zk5 {P : Program} {w : World} {K : PySem.W.Frag} {mg : Str -> Option Value} {h : Heap} {x p1 z : Str} {st : Stmt} {N : List Str} {c : Nat -> Addr} {cH : Addr} (T : zqT K mg c cH) (KX : K.In h) (G : h.Ns mainGlobals mg) (hD : DefK K x st) (hb0 : zq1 x st [p1]) (S : zp2 N [p1] (zpB st)) (hN2 : N.length = 2)
   (hB : ∀ X : Cx, zqT X.K X.mg c cH -> X.N = N -> X.env.scope = zpB st -> (∀ y, X.fn y = true) -> PSs X (zpN st) (zsz X.K c cH z)) : zrT P w K mg x p1 c := by
 obtain ⟨f, fd, a, F⟩ := hD
 refine ⟨f, fd, mg_of KX G a, F.kp, F.binds hb0, fun base => ?_⟩
 obtain ⟨oc, od, kV, doc, pm, an, cdv, ct, osl, rfl, lk, hcd⟩ := F.ex
 refine zop lk hcd S fun A outer s H vs Q hsp => ?_
 obtain ⟨e, i, rfl, hi, he, hq⟩ := hsp
 refine ⟨_, hB (cxW P w K mg base N x (zpB st) f cdv A outer s H) T rfl rfl (fun _ => rfl), ?_⟩
 have e0 : L2.start N [V.ref e] = [some (.ref e), none] := by unfold L2.start; rw [hN2]; rfl
 rw [e0]
 exact zhj T hi he hq
def tWC (c : Nat -> Addr) : TE := fun σ H Q => (zqi (tVar 1) zsg) σ H fun vs H1 => vs.length = 1 /\ zsi c vs H1 Q
theorem zlO {X : Cx} {P : Program} {w : World} {K : PySem.W.Frag} {mg : Str -> Option Value} {x p1 y : Str} {p q r : Pos} {c : Nat -> Addr} (W : zrT P w K mg x p1 c) (hP : X.prog = P) (hw : X.w = w) (hK : X.K = K) (hm : X.mg = mg) (hr : Room 1 (zqA X.A)) (hg : Gl X x) (hd : (x == ("__debug__" : Str)) = false)
   (hN : X.N[1]? = some y) (hv : Vis X.env.scope y) (hd1 : (y == ("__debug__" : Str)) = false) (hd2 : (y == ("__classdict__" : Str)) = false) : PE X (.Call (.Name x p) [.Name y q] [] r) (tWC c) := by
 obtain ⟨f, fd, m1, m2, m3, m4⟩ := W
 subst hP hw hK hm
 exact zkc (m4 X.base) hr hg m1 m2 m3 (zaP (ze6 hN hv hd1 hd2) zd6) hd
def tRef (z : Str) (c : Nat -> Addr) : TS := tRet (tTup (zqi (tC (.str z)) (zqi (tWC c) zsg)))
def telR (z : Str) (i : Nat) : D := .tup [.str z, .str (wn i)]
theorem zld {K : PySem.W.Frag} {z : Str} {c : Nat -> Addr} (a e : Addr) (i : Nat) (H : Hp) (Q : VK) (hi : i < 4) (he : H e = some (zrv e (c i))) (hQ : ∀ v H', SameT H H' -> (∀ α, Rep K H' α (telR z i) v) -> Q v H') : tRef z c { nx := fun _ _ => False, rt := Q } [some (.ref a), some (.ref e)] H := by
 refine ⟨.ref e, rfl, rfl, e, i, rfl, hi, he, fun H' hs => ⟨by show 2 <= sizeLine; decide, fun p hp => hQ _ _ (fun b o q _ => ?_) fun α => .tup (.inl (.inl zam)) (.cons (.str _) (.cons (.str _) .nil))⟩⟩
 rw [zal (zak (hs b o q) hp)]
 exact hs b o q
theorem zh7 {k : Nat} {A : Around} {v : Value} (hr : Room k A) (hk : 1 <= k) : Room 1 (zqA (A.mark (some v))) := by
 have := hr.mono hk
 exact ⟨rfl, this.dp, this.un⟩
end MX
end
section
namespace MX.K22
open PySem PySem.Spec PySem.W PySem.Calls PyProof.Rows L2 MX
theorem zhQ {X : Cx} {c : Nat -> Addr} {cH : Addr} (T : zqT X.K X.mg c cH) (hN : X.N = (["_law_e", "_law_flags"] : List Str)) (hs : X.env.scope = zpB (top 39)) (hfn : ∀ y, X.fn y = true) :
   PSs X (zpN (top 39)) (zsz X.K c cH "other") := by
 have gl : ∀ {x : Str}, (zpB (top 39)).names.lookup x = some .globalImplicit -> Gl X x := fun {x} h => by show X.env.scope.names.lookup _ = _; rw [hs]; exact h
 have n0 : X.N[0]? = some ("_law_e" : Str) := by rw [hN]; rfl
 have n1 : X.N[1]? = some ("_law_flags" : Str) := by rw [hN]; rfl
 have v0 : Vis X.env.scope "_law_e" := .inl (by rw [hs]; rfl)
 have v1 : Vis X.env.scope "_law_flags" := .inl (by rw [hs]; rfl)
 have isi : ∀ {e : Expr} {v : V} {p q r : Pos}, PE X e (tC v) -> zpW e = true -> PE X (.Call (.Name "isinstance" p) [.Name "_law_e" q, e] [] r) (zsh X.K v) := fun {e v p q r} h hn =>
   zgP zkF (gl rfl) T.isi rfl (zaP (ze6 n0 v0) (zaP h zd6 (zaD hn [] X.env))) (hpl := by rw [zaD hn [] X.env]; rfl)
 have cls : ∀ (i : Nat) (hi : i < 4) {p : Pos}, Gl X (wn i) -> ((wn i) == ("__debug__" : Str)) = false -> PE X (.Name (wn i) p) (tC (.ref (c i))) := fun i hi p hg hd => zij hg (T.name i hi) rfl hd
 refine zbY (zkR (i := 1) (by rw [hN]; decide) n1 (.inl (by rw [hs]; rfl)) (zii (zaP (isi (cls 0 (by decide) (gl rfl) (by decide)) rfl) (zaP (isi (cls 1 (by decide) (gl rfl) (by decide)) rfl) (zaP (isi (cls 2 (by decide) (gl rfl) (by decide)) rfl) (zaP (isi (cls 3 (by decide) (gl rfl) (by decide)) rfl) zd6))))) (hf := .inl (hfn _))) ?_
 refine zbY (zlJ ?_ (zbY (zfC zeK) zfm) zfm) (zbY (zfC (znP zgo (zii (zaP zeK (zaP zeK (zaP zeK (zaP zeK zd6))))) (zlQ PySem.F.plainAttrs_list PySem.F.slot_list_index PySem.F.type_list_index ziw (ze6 n1 v1) (zaP zlR zd6)) (fun _ _ => rfl))) zfm)
 exact PW.pt (zlC (zia zpf (zlQ PySem.F.plainAttrs_list zty PySem.F.type_list_count zix (ze6 n1 v1) (zaP zlR zd6)) zkU (zrJ _)) (zlC (zh9 (zkQ (isi (zij (gl rfl) T.hit rfl) rfl))) (zkP (zh9 (zkQ (isi (zim (gl rfl) T.val rfl rfl) rfl))))))
theorem zlc {w : World} {K : PySem.W.Frag} {mg : Str -> Option Value} {h : Heap} {c : Nat -> Addr} {cH : Addr} (T : zqT K mg c cH) (O : zrV K c cH) (KX : K.In h) (G : h.Ns mainGlobals mg) (hW : DefK K "_law_word" (top 39)) (hT : DefK K "_law_told" (top 40)) :
   ∃ f fd, mg "_law_told" = some (.ref f) /\ keepIn K (.ref f) = true /\ Binds K fd ["_law_rule"] [] /\ ∀ (base : Heap) (k : Nat), 1 <= k -> zrm PG w K mg base k f fd "_law_rule" c (tRef "refused" c) := by
 have W : zrT PG w K mg "_law_word" "_law_e" c := zk5 (N := ["_law_e", "_law_flags"]) T KX G hW (zqv fun _ _ _ _ _ _ _ => rfl) ⟨rfl, rfl, rfl, by decide +kernel, by kernel_rfl, by decide +kernel, by decide +kernel⟩ rfl fun X T' hN hs hfn => zhQ T' hN hs hfn
 refine zlb (N := ["_law_rule", "_law_e"]) KX G hT (zqv fun _ _ _ _ _ _ _ => rfl) ⟨rfl, rfl, rfl, by decide +kernel, by kernel_rfl, by decide +kernel, by decide +kernel⟩ rfl fun X a fl sp k hP hw hK hm hN hs hfn hst hfr hr F ho hb hk => ?_
 have gl : ∀ {x : Str}, (zpB (top 40)).names.lookup x = some .globalImplicit -> Gl X x := fun {x} h => by show X.env.scope.names.lookup _ = _; rw [hs]; exact h
 have n0 : X.N[0]? = some ("_law_rule" : Str) := by rw [hN]; rfl
 have n1 : X.N[1]? = some ("_law_e" : Str) := by rw [hN]; rfl
 have v1 : Vis X.env.scope "_law_e" := .inl (by rw [hs]; rfl)
 refine zib (zlG (j := 1) F hr ho hb n0 (.inl (by rw [hs]; rfl)) (by decide) (by decide) hst hfr (hK ▸ O) (gl rfl) (hm ▸ T.hit) (by decide) (by rw [hN]; decide) n1 (by rw [hs]; rfl) fun e => ?_)
 exact zib (zfC (zkT (zaP zeK (zaP (zlO (X := cxH X e) W hP hw hK hm (zh7 hr hk) (gl rfl) (by decide) n1 v1 (by decide) (by decide)) zd6))))
end MX.K22
end
section
namespace MX.P
open PySem L2 MX
def zcE : SF := zpH (sIf (tBl (eB (zpM .Eq) (zpA 0) (eN zqp (zpD)))) (zpH (zpT (eB (zpJ .Mult) (zpA 1) (eC (.int 7919)))) (zpE)) (zpE)) (zpH (zpT (eB (zpJ .Add) (eB gIx (zpA 0) (eB (zpJ .Mod) (zpA 1) (eN zrz (zpz (zpA 0) (zpD))))) (eB (zpJ .Mult) (eB (zpJ .FloorDiv) (zpA 1) (eN zrz (zpz (zpA 0) (zpD)))) (eC (.int 104729))))) (zpE))
def zaX : GN := fnOf 2 zcE
def zb2 : SF := zpH (zpL (eB (zpJ .Mod) (eB (zpJ .Add) (eB (zpJ .Mult) (zpA 0) (eC (.int 6364136223846793005))) (eB (zpJ .Mult) (eB (zpJ .Add) (zpA 1) (eC (.int 1))) (eC (.int 1442695040888963407)))) (eC (.int 340282366920938463463374607431768211507))) (gNm 2)) (zpH (zpT (eB (zpJ .Mod) (eB (zpJ .Mult) (zpA 2) (zpA 2)) (eC (.int 340282366920938463463374607431768211297)))) (zpE))
def za0 : GN := fnOf 3 zb2
def zbx : SF := zpH (sWh (tBl (eB (zpM .NotEq) (zpA 1) (eC (.int 0)))) (zpH (zpL (eB (zpJ .Mod) (zpA 0) (zpA 1)) (gNm 2)) (zpH (zpL (zpA 1) (gNm 0)) (zpH (zpL (zpA 2) (gNm 1)) (zpE))))) (zpH (zpT (eN gAbs (zpz (zpA 0) (zpD)))) (zpE))
def zaT : GN := fnOf 3 zbx
def zb7 : SF := zpH (zpL (eN (zpG 2 zaT) (zpz (eB gIx (zpA 0) (eC (.int 0))) (zpz (eB gIx (zpA 0) (eC (.int 1))) (zpD)))) (gNm 1)) (zpH (zpT (eN zpO (zpz (eB (zpJ .FloorDiv) (eB gIx (zpA 0) (eC (.int 0))) (zpA 1)) (zpz (eB (zpJ .FloorDiv) (eB gIx (zpA 0) (eC (.int 1))) (zpA 1)) (zpD))))) (zpE))
def zaE : GN := fnOf 2 zb7
def zdJ : SF := zpH (zpT (eB (zpM .Lt) (eB (zpJ .Mult) (eB gIx (zpA 0) (eC (.int 0))) (eB gIx (zpA 1) (eC (.int 1)))) (eB (zpJ .Mult) (eB gIx (zpA 1) (eC (.int 0))) (eB gIx (zpA 0) (eC (.int 1)))))) (zpE)
def zeR : GN := fnOf 2 zdJ
def zbD : SF := zpH (zpT (eN zpO (zpz (eB (zpJ .Sub) (eB gIx (zpA 1) (eC (.int 0))) (eB gIx (zpA 0) (eC (.int 0)))) (zpz (eB (zpJ .Sub) (eB gIx (zpA 1) (eC (.int 1))) (eB gIx (zpA 0) (eC (.int 1)))) (zpz (eB (zpJ .Sub) (eB gIx (zpA 1) (eC (.int 2))) (eB gIx (zpA 0) (eC (.int 2)))) (zpD)))))) (zpE)
def zae : GN := fnOf 2 zbD
def zkJ : SF := zpH (zpT (eB (zpJ .Add) (eB (zpJ .Add) (eB (zpJ .Mult) (eB gIx (zpA 0) (eC (.int 0))) (eB gIx (zpA 1) (eC (.int 0)))) (eB (zpJ .Mult) (eB gIx (zpA 0) (eC (.int 1))) (eB gIx (zpA 1) (eC (.int 1))))) (eB (zpJ .Mult) (eB gIx (zpA 0) (eC (.int 2))) (eB gIx (zpA 1) (eC (.int 2)))))) (zpE)
def zaS : GN := fnOf 2 zkJ
def zfx : SF := zpH (zpT (eN zpO (zpz (eB (zpJ .Sub) (eB (zpJ .Mult) (eB gIx (zpA 0) (eC (.int 1))) (eB gIx (zpA 1) (eC (.int 2)))) (eB (zpJ .Mult) (eB gIx (zpA 0) (eC (.int 2))) (eB gIx (zpA 1) (eC (.int 1))))) (zpz (eB (zpJ .Sub) (eB (zpJ .Mult) (eB gIx (zpA 0) (eC (.int 2))) (eB gIx (zpA 1) (eC (.int 0)))) (eB (zpJ .Mult) (eB gIx (zpA 0) (eC (.int 0))) (eB gIx (zpA 1) (eC (.int 2))))) (zpz (eB (zpJ .Sub) (eB (zpJ .Mult) (eB gIx (zpA 0) (eC (.int 0))) (eB gIx (zpA 1) (eC (.int 1)))) (eB (zpJ .Mult) (eB gIx (zpA 0) (eC (.int 1))) (eB gIx (zpA 1) (eC (.int 0))))) (zpD)))))) (zpE)
def zaC : GN := fnOf 2 zfx
def zc9 : SF := zpH (zpT (eN zqp (zpz (eN zpO (zpz (eB gIx (zpA 0) (eC (.int 0))) (zpz (eB gIx (zpA 0) (eC (.int 1))) (zpD)))) (zpz (eN zpO (zpz (eB gIx (zpA 0) (eC (.int 1))) (zpz (eB gIx (zpA 0) (eC (.int 2))) (zpD)))) (zpz (eN zpO (zpz (eB gIx (zpA 0) (eC (.int 2))) (zpz (eB gIx (zpA 0) (eC (.int 0))) (zpD)))) (zpD)))))) (zpE)
def zaM : GN := fnOf 1 zc9
def za9 : SF := zpH (zpL (eB gIx (zpA 0) (eC (.int 1))) (gNm 3)) (zpH (zpL (eN (zpG 2 zae) (zpz (eB gIx (zpA 0) (eC (.int 0))) (zpz (zpA 1) (zpD)))) (gNm 4)) (zpH (sIf (tBl (eB (zpM .NotEq) (eN (zpG 2 zaC) (zpz (zpA 4) (zpz (zpA 3) (zpD)))) (eN zpO (zpz (eC (.int 0)) (zpz (eC (.int 0)) (zpz (eC (.int 0)) (zpD))))))) (zpH (zpT (eC .non)) (zpE)) (zpE)) (zpH (zpL (eN zpO (zpz (eN (zpG 2 zaS) (zpz (zpA 4) (zpz (zpA 3) (zpD)))) (zpz (eN (zpG 2 zaS) (zpz (eN (zpG 2 zae) (zpz (eB gIx (zpA 0) (eC (.int 0))) (zpz (zpA 2) (zpD)))) (zpz (zpA 3) (zpD)))) (zpD)))) (gNm 5)) (zpH (sIf (tBl (eB (zpM .Lt) (eN zqM (zpz (zpA 5) (zpD))) (eC (.int 0)))) (zpH (zpT (eC .non)) (zpE)) (zpE)) (zpH (zpT (eN (zpG 1 zaE) (zpz (eN zpO (zpz (eN zqM (zpz (eN zq8 (zpz (zpA 5) (zpD))) (zpz (eC (.int 0)) (zpD)))) (zpz (eN (zpG 2 zaS) (zpz (zpA 3) (zpz (zpA 3) (zpD)))) (zpD)))) (zpD)))) (zpE))))))
def zcq : GN := fnOf 6 za9
def zaB : SF := zpH (zpL (eB gIx (zpA 0) (eC (.int 1))) (gNm 3)) (zpH (zpL (eN (zpG 2 zae) (zpz (zpA 1) (zpz (zpA 2) (zpD)))) (gNm 4)) (zpH (zpL (eN (zpG 2 zaC) (zpz (zpA 3) (zpz (zpA 4) (zpD)))) (gNm 5)) (zpH (sIf (tBl (eB (zpM .Eq) (zpA 5) (eN zpO (zpz (eC (.int 0)) (zpz (eC (.int 0)) (zpz (eC (.int 0)) (zpD))))))) (zpH (zpT (eN (zpG 3 zcq) (zpz (zpA 0) (zpz (zpA 1) (zpz (zpA 2) (zpD)))))) (zpE)) (zpE)) (zpH (zpL (eN (zpG 2 zae) (zpz (eB gIx (zpA 0) (eC (.int 0))) (zpz (zpA 1) (zpD)))) (gNm 6)) (zpH (sIf (tBl (eB (zpM .NotEq) (eN (zpG 2 zaS) (zpz (zpA 6) (zpz (zpA 5) (zpD)))) (eC (.int 0)))) (zpH (zpT (eC .non)) (zpE)) (zpE)) (zpH (zpL (eN (zpG 2 zaS) (zpz (zpA 5) (zpz (zpA 5) (zpD)))) (gNm 7)) (zpH (zpL (eN (zpG 2 zaS) (zpz (eN (zpG 2 zaC) (zpz (zpA 6) (zpz (zpA 4) (zpD)))) (zpz (zpA 5) (zpD)))) (gNm 8)) (zpH (zpL (eN (zpG 2 zaS) (zpz (eN (zpG 2 zaC) (zpz (zpA 6) (zpz (zpA 3) (zpD)))) (zpz (zpA 5) (zpD)))) (gNm 9)) (zpH (sIf (zrC (tBl (eB (zpM .Lt) (zpA 8) (eC (.int 0)))) (zrC (tBl (eB (zpM .Lt) (zpA 9) (eC (.int 0)))) (tBl (eB (zpM .Gt) (zpA 9) (zpA 7))))) (zpH (zpT (eC .non)) (zpE)) (zpE)) (zpH (zpT (eN (zpG 1 zaE) (zpz (eN zpO (zpz (zpA 8) (zpz (zpA 7) (zpD)))) (zpD)))) (zpE)))))))))))
def zbH : GN := fnOf 10 zaB
def zcT : SF := zpL (eC .non) (gNm 2)
def za8 : SF := zpL (eN (zpG 3 zbH) (zpz (zpA 0) (zpz (zpA 3) (zpz (zpA 4) (zpD))))) (gNm 5)
def zar : SF := sIf (zrc (tBl (eB (zpM .IsNot) (zpA 5) (eC .non))) (zrC (tBl (eB (zpM .Is) (zpA 2) (eC .non))) (zq2 (eN (zpG 2 zeR) (zpz (zpA 5) (zpz (zpA 2) (zpD))))))) (zpH (zpL (zpA 5) (gNm 2)) (zpE)) (zpE)
def zbw : SF := zpH za8 (zpH zar zpE)
def zbK : SF := zqK (zqc (eN (zpG 1 zaM) (zpz (zpA 1) (zpD)))) (gTp 2 (zpI (gNm 3) (zpI (gNm 4) (zp3)))) zbw
def zcS : SF := zpT (zpA 2)
def zcx : SF := zpH zcT (zpH zbK (zpH zcS zpE))
def zaO : GN := fnOf 6 zcx
def zbs : SF := zpH (zpL (eLc (zqc (zpA 2)) (gNm 0) (zqB) (eN (zpG 2 zae) (zpz (zpA 1) (zpz (zpA 0) (zpD)))) [none, some 0]) (gNm 3)) (zpH (zpL (eLc (zqc (eN (zpG 1 zaM) (zpz (zpA 3) (zpD)))) (gTp 2 (zpI (gNm 0) (zpI (gNm 1) (zp3)))) (zqB) (eN (zpG 2 zaS) (zpz (zpA 2) (zpz (eN (zpG 2 zaC) (zpz (zpA 0) (zpz (zpA 1) (zpD)))) (zpD)))) [none, none, some 1]) (gNm 4)) (zpH (zpT (eOr (eB (zpM .GtE) (eN zq8 (zpz (zpA 4) (zpD))) (eC (.int 0))) (eB (zpM .LtE) (eN zqM (zpz (zpA 4) (zpD))) (eC (.int 0))))) (zpE)))
def zau : GN := fnOf 5 zbs
def zaG : SF := zpH (sIf (zq2 (eN (zpG 3 zau) (zpz (eB gIx (zpA 0) (eC (.int 0))) (zpz (zpA 2) (zpz (zpA 1) (zpD)))))) (zpH (zpT (eN zpO (zpz (eC (.int 0)) (zpz (eC (.int 1)) (zpD))))) (zpE)) (zpE)) (zpH (zpT (eN (zpG 2 zaO) (zpz (zpA 0) (zpz (zpA 1) (zpD))))) (zpE))
def zav : GN := fnOf 3 zaG
def zaq : SF := zpH (zpL (eN (zpG 2 zaC) (zpz (eN (zpG 2 zae) (zpz (eB gIx (zpA 1) (eC (.int 0))) (zpz (eB gIx (zpA 1) (eC (.int 1))) (zpD)))) (zpz (eN (zpG 2 zae) (zpz (eB gIx (zpA 1) (eC (.int 0))) (zpz (eB gIx (zpA 1) (eC (.int 2))) (zpD)))) (zpD)))) (gNm 2)) (zpH (sIf (tBl (eB (zpM .Eq) (zpA 2) (eN zpO (zpz (eC (.int 0)) (zpz (eC (.int 0)) (zpz (eC (.int 0)) (zpD))))))) (zpH (zpT (eN (zpG 2 zaO) (zpz (zpA 0) (zpz (zpA 1) (zpD))))) (zpE)) (zpE)) (zpH (zpL (eN (zpG 2 zaS) (zpz (eN (zpG 2 zae) (zpz (eB gIx (zpA 0) (eC (.int 0))) (zpz (eB gIx (zpA 1) (eC (.int 0))) (zpD)))) (zpz (zpA 2) (zpD)))) (gNm 3)) (zpH (zpL (eN (zpG 2 zaS) (zpz (eB gIx (zpA 0) (eC (.int 1))) (zpz (zpA 2) (zpD)))) (gNm 4)) (zpH (sIf (tBl (eB (zpM .Eq) (zpA 4) (eC (.int 0)))) (zpH (zpT (eIf (tBl (eB (zpM .Eq) (zpA 3) (eC (.int 0)))) (eN (zpG 3 zav) (zpz (zpA 0) (zpz (zpA 1) (zpz (zpA 2) (zpD))))) (eC .non))) (zpE)) (zpE)) (zpH (sIf (tBl (eB (zpM .Lt) (zpA 4) (eC (.int 0)))) (zpH (zpL (eU zsI (zpA 3)) (gNm 3)) (zpH (zpL (eU zsI (zpA 4)) (gNm 4)) (zpE))) (zpE)) (zpH (sIf (zrC (tBl (eB (zpM .Lt) (zpA 3) (eC (.int 0)))) (zqJ (zq2 (eN (zpG 3 zau) (zpz (eB gIx (zpA 0) (eC (.int 0))) (zpz (eB gIx (zpA 0) (eC (.int 1))) (zpz (zpA 1) (zpD)))))))) (zpH (zpT (eC .non)) (zpE)) (zpE)) (zpH (zpT (eN (zpG 1 zaE) (zpz (eN zpO (zpz (zpA 3) (zpz (zpA 4) (zpD)))) (zpD)))) (zpE))))))))
def zan : GN := fnOf 5 zaq
def zcY : SF := zpH (zpT (zrN (eN zsK (zpz (zpA 0) (zpz (eC (.ty "int")) (zpD)))) (eNot (eN zsK (zpz (zpA 0) (zpz (eC (.ty "bool")) (zpD))))))) (zpE)
def zcN : GN := fnOf 1 zcY
def zdy : SF := zpH (zpL (eB (zpJ .Mod) (eB (zpJ .Add) (zpA 1) (eC (.int 1))) (eC (.int 3))) (gNm 3)) (zpH (zpL (eB (zpJ .Mod) (eB (zpJ .Add) (zpA 1) (eC (.int 2))) (eC (.int 3))) (gNm 4)) (zpH (zpL (eN zqp (zpD)) (gNm 5)) (zpH (zqK (zqc (eN zqp (zpz (eN zpO (zpz (eC (.int 0)) (zpz (eC (.int 0)) (zpD)))) (zpz (eN zpO (zpz (eC (.int 1)) (zpz (eC (.int 0)) (zpD)))) (zpz (eN zpO (zpz (eC (.int 1)) (zpz (eC (.int 1)) (zpD)))) (zpz (eN zpO (zpz (eC (.int 0)) (zpz (eC (.int 1)) (zpD)))) (zpD))))))) (gTp 2 (zpI (gNm 6) (zpI (gNm 7) (zp3)))) (zpH (zpL (eN zqp (zpz (eC (.int 0)) (zpz (eC (.int 0)) (zpz (eC (.int 0)) (zpD))))) (gNm 8)) (zpH (zpL (eB gIx (eB gIx (zpA 0) (zpA 2)) (zpA 1)) (gSt (zpA 8) (zpA 1))) (zpH (zpL (eB gIx (eB gIx (zpA 0) (zpA 6)) (zpA 3)) (gSt (zpA 8) (zpA 3))) (zpH (zpL (eB gIx (eB gIx (zpA 0) (zpA 7)) (zpA 4)) (gSt (zpA 8) (zpA 4))) (zpH (zqn (eM zp0 (zpA 5) (zpz (eN zqz (zpz (zpA 8) (zpD))) (zpD)))) (zpE))))))) (zpH (zpT (eN zqp (zpz (eN zpO (zpz (eB gIx (zpA 5) (eC (.int 0))) (zpz (eB gIx (zpA 5) (eC (.int 1))) (zpz (eB gIx (zpA 5) (eC (.int 2))) (zpD))))) (zpz (eN zpO (zpz (eB gIx (zpA 5) (eC (.int 0))) (zpz (eB gIx (zpA 5) (eC (.int 2))) (zpz (eB gIx (zpA 5) (eC (.int 3))) (zpD))))) (zpD))))) (zpE)))))
def zaW : GN := fnOf 9 zdy
def zdM : SF := zpL (eDct) (gNm 1)
def zbL : SF := zpL (eB (zpJ .Add) (eDM zqC (zpA 1) (zpz (zpA 3) (zpz (eC (.int 0)) (zpD)))) (eC (.int 1))) (gSt (zpA 1) (zpA 3))
def zbi : SF := zpH zbL zpE
def zcG : SF := zqK (zqc (eN (zpG 1 zaM) (zpz (zpA 2) (zpD)))) (gNm 3) zbi
def zbr : SF := zpH zcG zpE
def zdL : SF := zqK (zqc (zpA 0)) (gNm 2) zbr
def zdK : SF := zpT (eN zrZ (zpz (eLc (zqP (zpA 1)) (gTp 2 (zpI (gNm 0) (zpI (gNm 1) (zp3)))) (zqB) (eB (zpM .Eq) (zpA 1) (eDM zqC (zpA 2) (zpz (eN zpO (zpz (eB gIx (zpA 0) (eC (.int 1))) (zpz (eB gIx (zpA 0) (eC (.int 0))) (zpD)))) (zpz (eC (.int 0)) (zpD))))) [none, none, some 1]) (zpD)))
def zdv : SF := zpH zdM (zpH zdL (zpH zdK zpE))
def zbg : GN := fnOf 4 zdv
def zcz : SF := zpH (zpT (eN (zpG 2 zaS) (zpz (eB gIx (zpA 0) (eC (.int 0))) (zpz (eN (zpG 2 zaC) (zpz (eB gIx (zpA 0) (eC (.int 1))) (zpz (eB gIx (zpA 0) (eC (.int 2))) (zpD)))) (zpD))))) (zpE)
def zcr : GN := fnOf 1 zcz
def zcQ : SF := zpH (sIf (tBl (eB (zpM .Eq) (zpA 0) (eC (.int 0)))) (zpH (zpT (eC (.int 0))) (zpE)) (zpE)) (zpH (zpT (eIf (tBl (eB (zpM .Gt) (zpA 0) (eC (.int 0)))) (eC (.int 1)) (eU zsI (eC (.int 1))))) (zpE))
def zcM : GN := fnOf 1 zcQ
def za1 : SF := zpH (zqK (zqc (zpA 0)) (gNm 1) (zpH (sIf (tBl (eB (zpM .NotEq) (zpA 1) (eC (.int 0)))) (zpH (zpT (eN (zpG 1 zcM) (zpz (zpA 1) (zpD)))) (zpE)) (zpE)) (zpE))) (zpH (zpT (eC (.int 0))) (zpE))
def zbt : GN := fnOf 2 za1
def zeh : SF := zpL (eLc (zqc (zpA 1)) (gNm 0) (zqB) (eN (zpG 2 zae) (zpz (zpA 1) (zpz (zpA 0) (zpD)))) [none, some 0]) (gNm 2)
def zeg : SF := zpL (eN (zpG 1 zcM) (zpz (eN (zpG 1 zcr) (zpz (zpA 2) (zpD))) (zpD))) (gNm 3)
def zef : SF := zpL (eLc (zqc (eN (zpG 1 zaM) (zpz (zpA 2) (zpD)))) (gTp 2 (zpI (gNm 0) (zpI (gNm 1) (zp3)))) (zqB) (eN (zpG 1 zbt) (zpz (eN (zpG 2 zaC) (zpz (zpA 0) (zpz (zpA 1) (zpD)))) (zpD))) [none, none]) (gNm 4)
def zee : SF := zpT (eIf (tBl (eB (zpM .Eq) (zpA 4) (eN zqp (zpz (zpA 3) (zpz (zpA 3) (zpz (zpA 3) (zpD))))))) (zpA 3) (eC (.int 0)))
def zd3 : SF := zpH zeh (zpH zeg (zpH zef (zpH zee zpE)))
def zc8 : GN := fnOf 5 zd3
def zgG : SF := zpH (zpT (eB (zpM .Eq) (eN (zpG 2 zan) (zpz (eN zpO (zpz (zpA 0) (zpz (eN zpO (zpz (eC (.int 1)) (zpz (eC (.int 0)) (zpz (eC (.int 0)) (zpD))))) (zpD)))) (zpz (zpA 1) (zpD)))) (eN zpO (zpz (eC (.int 0)) (zpz (eC (.int 1)) (zpD)))))) (zpE)
def zeQ : GN := fnOf 2 zgG
def zb0 : SF := sIf (zqJ (zq2 (eN (zpG 1 zbg) (zpz (zpA 1) (zpD))))) (zpH (zrE) (zpE)) (zpE)
def zcR : SF := sIf (zq2 (eN zsL (zpz (eLc (zqc (zpA 1)) (gNm 0) (zqB) (eN (zpG 2 zeQ) (zpz (zpA 1) (zpz (zpA 0) (zpD)))) [none, some 0]) (zpD)))) (zpH (zpT (eC (.int 0))) (zpE)) (zpE)
def zed : SF := zpL (eN gSum (zpz (eLc (zqc (zpA 1)) (gNm 0) (zqB) (eN (zpG 2 zc8) (zpz (zpA 1) (zpz (zpA 0) (zpD)))) [none, some 0]) (zpD))) (gNm 2)
def zec : SF := zpT (eIf (tBl (eB (zpM .Eq) (zpA 2) (eC (.int 0)))) (eU zsI (eC (.int 1))) (eC (.int 1)))
def zbh : SF := zpH zb0 (zpH zcR (zpH zed (zpH zec zpE)))
def zaZ : GN := fnOf 3 zbh
def zbJ : XF := xIf (zqJ (zq2 (eN (zpG 1 zbg) (zpz (zpA 1) (zpD))))) (fun σ S => ((eC (.str "the surface is not closed")) σ S).map fun r => ("NotClosed", r.2)) xNo
def zbF : XN := zr3 3 zbJ
def zdw : SF := zpH (zpT (eN zpO (zpz (eB (zpJ .Sub) (eB (zpJ .Mod) (zpA 0) (eC (.int 9))) (eC (.int 4))) (zpz (eB (zpJ .Sub) (eB (zpJ .Mod) (eB (zpJ .FloorDiv) (zpA 0) (eC (.int 9))) (eC (.int 9))) (eC (.int 4))) (zpz (eB (zpJ .Sub) (eB (zpJ .Mod) (eB (zpJ .FloorDiv) (zpA 0) (eC (.int 81))) (eC (.int 9))) (eC (.int 4))) (zpD)))))) (zpE)
def zdl : GN := fnOf 1 zdw
def zbE : SF := zpH (sIf (tBl (eB (zpM .Eq) (eB (zpJ .Mod) (zpA 1) (eC (.int 3))) (eC (.int 0)))) (zpH (zpT (zpA 0)) (zpE)) (zpE)) (zpH (zpL (eB (zpJ .Add) (eC (.int 1)) (eB (zpJ .Mod) (zpA 1) (eB (zpJ .LShift) (eC (.int 1)) (eC (.int 50))))) (gNm 2)) (zpH (zpT (eN zpO (zpz (eB (zpJ .Add) (eB (zpJ .Mult) (eB gIx (zpA 0) (eC (.int 0))) (zpA 2)) (eB (zpJ .Mod) (zpA 1) (eC (.int 1000003)))) (zpz (eB (zpJ .Sub) (eB (zpJ .Mult) (eB gIx (zpA 0) (eC (.int 1))) (zpA 2)) (eB (zpJ .Mod) (zpA 1) (eC (.int 997)))) (zpz (eB (zpJ .Add) (eB (zpJ .Mult) (eB gIx (zpA 0) (eC (.int 2))) (zpA 2)) (eC (.int 5))) (zpD)))))) (zpE)))
def zbB : GN := fnOf 3 zbE
def zcA : SF := zpL (eN zqp (zpD)) (gNm 2)
def zbM : SF := sIf (tBl (eB (zpM .NotEq) (eB (zpM .Eq) (eB (zpJ .Mod) (zpA 3) (eC (.int 2))) (eC (.int 0))) (zpA 1))) (zpH (zqn (eM zp0 (zpA 2) (zpz (eN zpO (zpz (zpA 4) (zpz (zpA 6) (zpz (zpA 5) (zpD))))) (zpD)))) (zpE)) (zpH (zqn (eM zp0 (zpA 2) (zpz (eN zpO (zpz (zpA 4) (zpz (zpA 5) (zpz (zpA 6) (zpD))))) (zpD)))) (zpE))
def zbj : SF := zpH zbM zpE
def zcH : SF := zqK (zqc (eN (zpG 3 zaW) (zpz (zpA 0) (zpz (eB (zpJ .FloorDiv) (zpA 3) (eC (.int 2))) (zpz (eB (zpJ .Mod) (zpA 3) (eC (.int 2))) (zpD)))))) (gTp 3 (zpI (gNm 4) (zpI (gNm 5) (zpI (gNm 6) (zp3))))) zbj
def zcc : SF := zpH zcH zpE
def zdO : SF := zqK (zru (zpz (eC (.int 6)) (zpD))) (gNm 3) zcc
def zdN : SF := zpT (zpA 2)
def zdx : SF := zpH zcA (zpH zdO (zpH zdN zpE))
def zcs : GN := fnOf 7 zdx
def zbW : SF := zpL (eN zqp (zpD)) (gNm 1)
def zb3 : SF := zpL (eB (zpJ .Add) (zpA 1) (eN zqp (zpz (eN zpO (zpz (zpA 2) (zpz (zpA 3) (zpD)))) (zpz (eN zpO (zpz (zpA 3) (zpz (zpA 4) (zpD)))) (zpz (eN zpO (zpz (zpA 4) (zpz (zpA 2) (zpD)))) (zpD)))))) (gNm 1)
def zby : SF := zpH zb3 zpE
def zc4 : SF := zqK (zqc (zpA 0)) (gTp 3 (zpI (gNm 2) (zpI (gNm 3) (zpI (gNm 4) (zp3))))) zby
def zc3 : SF := zpT (eN zrZ (zpz (eLc (zqc (zpA 1)) (gNm 0) (zqB) (eB (zpM .Eq) (eM zqq (zpA 1) (zpz (zpA 0) (zpD))) (eM zqq (zpA 1) (zpz (eN zpO (zpz (eB gIx (zpA 0) (eC (.int 1))) (zpz (eB gIx (zpA 0) (eC (.int 0))) (zpD)))) (zpD)))) [none, some 1]) (zpD)))
def zcD : SF := zpH zbW (zpH zc4 (zpH zc3 zpE))
def zbC : GN := fnOf 5 zcD
def zbV : SF := zpL (eN zrh (zpz (zpA 0) (zpD))) (gNm 2)
def zbU : SF := zpL (eB (zpJ .Mod) (eB (zpJ .FloorDiv) (zpA 1) (eC (.int 5))) (eN zrz (zpz (zpA 2) (zpD)))) (gNm 3)
def zbT : SF := zpL (eB gIx (zpA 2) (zpA 3)) (gTp 3 (zpI (gNm 4) (zpI (gNm 5) (zpI (gNm 6) (zp3)))))
def zbS : SF := sIf (tBl (eB (zpM .Eq) (eB (zpJ .Mod) (zpA 1) (eC (.int 5))) (eC (.int 0)))) (zpH (zqn (eM gPop (zpA 2) (zpz (zpA 3) (zpD)))) (zpE)) (zpE)
def zbR : SF := sIf (tBl (eB (zpM .Eq) (eB (zpJ .Mod) (zpA 1) (eC (.int 5))) (eC (.int 1)))) (zpH (zpL (eN zpO (zpz (zpA 4) (zpz (zpA 6) (zpz (zpA 5) (zpD))))) (gSt (zpA 2) (zpA 3))) (zpE)) (zpE)
def zbQ : SF := sIf (tBl (eB (zpM .Eq) (eB (zpJ .Mod) (zpA 1) (eC (.int 5))) (eC (.int 2)))) (zpH (zpL (eN zpO (zpz (zpA 5) (zpz (zpA 6) (zpz (zpA 4) (zpD))))) (gSt (zpA 2) (zpA 3))) (zpE)) (zpE)
def zbP : SF := sIf (tBl (eB (zpM .Eq) (eB (zpJ .Mod) (zpA 1) (eC (.int 5))) (eC (.int 3)))) (zpH (zqn (eM zqY (zpA 2) (zpz (eB (zpJ .Mod) (eB (zpJ .FloorDiv) (zpA 1) (eC (.int 500))) (eN zrz (zpz (zpA 2) (zpD)))) (zpz (eN zpO (zpz (zpA 4) (zpz (zpA 5) (zpz (zpA 6) (zpD))))) (zpD))))) (zpE)) (zpE)
def zbO : SF := sIf (tBl (eB (zpM .Eq) (eB (zpJ .Mod) (zpA 1) (eC (.int 5))) (eC (.int 4)))) (zpH (zpL (eB (zpJ .Add) (zpA 2) (eN zqp (zpz (eN zpO (zpz (zpA 4) (zpz (zpA 6) (zpz (zpA 5) (zpD))))) (zpz (eN zpO (zpz (zpA 4) (zpz (zpA 5) (zpz (zpA 6) (zpD))))) (zpD))))) (gNm 2)) (zpE)) (zpE)
def zbb : SF := zqn (eM0 zqg (zpA 2))
def zaV : SF := zpT (zpA 2)
def zcB : SF := zpH zbV (zpH zbU (zpH zbT (zpH zbS (zpH zbR (zpH zbQ (zpH zbP (zpH zbO (zpH zbb (zpH zaV zpE)))))))))
def zct : GN := fnOf 7 zcB
def zdj : SF := zpL (eN (zpG 2 zaX) (zpz (zpA 0) (zpz (eC (.int 0)) (zpD)))) (gNm 1)
def zdi : SF := zpL (eN (zpG 2 za0) (zpz (eN (zpG 2 zaX) (zpz (zpA 0) (zpz (eC (.int 1)) (zpD)))) (zpz (eC (.int 5)) (zpD)))) (gNm 2)
def zdh : SF := zpL (eN zqp (zpD)) (gNm 3)
def zbp : SF := zpL (eN (zpG 2 za0) (zpz (eN (zpG 2 zaX) (zpz (zpA 0) (zpz (eB (zpJ .Add) (zpA 4) (eC (.int 2))) (zpD)))) (zpz (zpA 4) (zpD)))) (gNm 5)
def zbo : SF := zpL (eN (zpG 1 zdl) (zpz (zpA 5) (zpD))) (gNm 6)
def zbn : SF := zpL (eN zpO (zpz (eB (zpJ .Add) (eB gIx (zpA 6) (eC (.int 0))) (eB (zpJ .Mod) (eB (zpJ .FloorDiv) (zpA 5) (eC (.int 729))) (eC (.int 9)))) (zpz (eB (zpJ .Add) (eB gIx (zpA 6) (eC (.int 1))) (eB (zpJ .Mod) (eB (zpJ .FloorDiv) (zpA 5) (eC (.int 6561))) (eC (.int 9)))) (zpz (eB (zpJ .Add) (eB gIx (zpA 6) (eC (.int 2))) (eB (zpJ .Mod) (eB (zpJ .FloorDiv) (zpA 5) (eC (.int 59049))) (eC (.int 9)))) (zpD))))) (gNm 7)
def zbm : SF := zpL (eN zpO (zpz (eN (zpG 2 zbB) (zpz (zpA 6) (zpz (zpA 1) (zpD)))) (zpz (eN (zpG 2 zbB) (zpz (zpA 7) (zpz (zpA 1) (zpD)))) (zpD)))) (gNm 8)
def zbl : SF := sIf (zrc (tBl (eB (zpM .Eq) (zpA 4) (eC (.int 1)))) (tBl (eB (zpM .Eq) (eB (zpJ .Mod) (eB (zpJ .FloorDiv) (zpA 2) (eC (.int 5))) (eC (.int 4))) (eC (.int 0))))) (zpH (zpL (eB gIx (eB gIx (zpA 3) (eC (.int 0))) (eC (.int 0))) (gNm 8)) (zpE)) (zpE)
def zbk : SF := zqn (eM zp0 (zpA 3) (zpz (eN zpO (zpz (zpA 8) (zpz (eB (zpM .Eq) (eB (zpJ .Mod) (eB (zpJ .FloorDiv) (zpA 5) (eC (.int 531441))) (eC (.int 2))) (eC (.int 0))) (zpD)))) (zpD)))
def zbc : SF := zpH zbp (zpH zbo (zpH zbn (zpH zbm (zpH zbl (zpH zbk zpE)))))
def zdg : SF := zqK (zru (zpz (eB gIx (eN zqp (zpz (eC (.int 1)) (zpz (eC (.int 1)) (zpz (eC (.int 2)) (zpz (eC (.int 2)) (zpz (eC (.int 3)) (zpD))))))) (eB (zpJ .Mod) (zpA 2) (eC (.int 5)))) (zpD))) (gNm 4) zbc
def zdf : SF := zpT (zpA 3)
def zc5 : SF := zpH zdj (zpH zdi (zpH zdh (zpH zdg (zpH zdf zpE))))
def zcO : GN := fnOf 9 zc5
def zco : SF := zpL (eN zqp (zpD)) (gNm 2)
def zaR : SF := zpL (eB (zpJ .FloorDiv) (eB (zpJ .Add) (eB gIx (eB gIx (zpA 0) (eC (.int 0))) (zpA 3)) (eB gIx (eB gIx (zpA 0) (eC (.int 1))) (zpA 3))) (eC (.int 2))) (gNm 4)
def zaQ : SF := zqn (eM zp0 (zpA 2) (zpz (eB gIx (eN zqp (zpz (eB gIx (eB gIx (zpA 0) (eC (.int 0))) (zpA 3)) (zpz (eB gIx (eB gIx (zpA 0) (eC (.int 1))) (zpA 3)) (zpz (zpA 4) (zpz (zpA 4) (zpz (zpA 4) (zpz (eB (zpJ .Sub) (eB gIx (eB gIx (zpA 0) (eC (.int 0))) (zpA 3)) (eC (.int 1))) (zpD)))))))) (eB (zpJ .Mod) (eB (zpJ .FloorDiv) (zpA 1) (eB gIx (eN zqp (zpz (eC (.int 1)) (zpz (eC (.int 7)) (zpz (eC (.int 49)) (zpD))))) (zpA 3))) (eC (.int 6)))) (zpD)))
def zba : SF := zpH zaR (zpH zaQ zpE)
def zcn : SF := zqK (zru (zpz (eC (.int 3)) (zpD))) (gNm 3) zba
def zcm : SF := zpT (eN zqz (zpz (zpA 2) (zpD)))
def zbN : SF := zpH zco (zpH zcn (zpH zcm zpE))
def za7 : GN := fnOf 5 zbN
def zc2 : SF := zpL (eC (.int 0)) (gNm 2)
def zb1 : SF := sIf (zq2 (eN zrZ (zpz (eLc (zru (zpz (eC (.int 3)) (zpD))) (gNm 0) (zqB) (zrN (eB (zpM .Lt) (eB gIx (eB gIx (zpA 1) (eC (.int 0))) (zpA 0)) (eB gIx (zpA 2) (zpA 0))) (eB (zpM .Lt) (eB gIx (zpA 2) (zpA 0)) (eB gIx (eB gIx (zpA 1) (eC (.int 1))) (zpA 0)))) [none, some 3, some 0]) (zpD)))) (zpH (zpL (eB (zpJ .Sub) (eB (zpJ .Add) (zpA 2) (eC (.int 1))) (eB (zpJ .Mult) (eC (.int 2)) (eN gInt (zpz (zpA 4) (zpD))))) (gNm 2)) (zpE)) (zpH (sIf (zq2 (eN zrZ (zpz (eLc (zru (zpz (eC (.int 3)) (zpD))) (gNm 0) (zqB) (zrN (eB (zpM .LtE) (eB gIx (eB gIx (zpA 1) (eC (.int 0))) (zpA 0)) (eB gIx (zpA 2) (zpA 0))) (eB (zpM .LtE) (eB gIx (zpA 2) (zpA 0)) (eB gIx (eB gIx (zpA 1) (eC (.int 1))) (zpA 0)))) [none, some 3, some 0]) (zpD)))) (zpH (zpT (eC (.int 0))) (zpE)) (zpE)) (zpE))
def zaK : SF := zpH zb1 zpE
def zc1 : SF := zqK (zqc (zpA 1)) (gTp 2 (zpI (gNm 3) (zpI (gNm 4) (zp3)))) zaK
def zc0 : SF := sIf (tBl (eB (zpM .Eq) (zpA 2) (eC (.int 0)))) (zpH (zpT (eB (zpJ .Sub) (eC (.int 0)) (eC (.int 1)))) (zpE)) (zpE)
def zcZ : SF := zpT (eC (.int 1))
def zcC : SF := zpH zc2 (zpH zc1 (zpH zc0 (zpH zcZ zpE)))
def zcu : GN := fnOf 5 zcC
def zdu : SF := zpL (eN (zpG 1 zcO) (zpz (zpA 0) (zpD))) (gNm 1)
def zdt : SF := zpL (eN zqp (zpD)) (gNm 2)
def zde : SF := zpL (eB (zpJ .Add) (zpA 2) (eN (zpG 2 zcs) (zpz (zpA 3) (zpz (zpA 4) (zpD))))) (gNm 2)
def zcV : SF := zpH zde zpE
def zds : SF := zqK (zqc (zpA 1)) (gTp 2 (zpI (gNm 3) (zpI (gNm 4) (zp3)))) zcV
def zdr : SF := zpL (eN zrh (zpz (zpA 2) (zpD))) (gNm 5)
def zcb : SF := zpL (eN (zpG 2 za0) (zpz (eN (zpG 2 zaX) (zpz (zpA 0) (zpz (eB (zpJ .Add) (zpA 6) (eC (.int 6))) (zpD)))) (zpz (zpA 6) (zpD)))) (gNm 7)
def zca : SF := zpL (eN (zpG 2 za7) (zpz (eB gIx (eB gIx (zpA 1) (eB (zpJ .Mod) (zpA 7) (eN zrz (zpz (zpA 1) (zpD))))) (eC (.int 0))) (zpz (eB (zpJ .FloorDiv) (zpA 7) (eC (.int 6))) (zpD)))) (gNm 10)
def zb9 : SF := zpL (eN (zpG 2 zaZ) (zpz (zpA 10) (zpz (zpA 2) (zpD)))) (gNm 8)
def zb8 : SF := sIf (zrC (tBl (eB (zpM .NotEq) (zpA 8) (eN (zpG 2 zcu) (zpz (zpA 10) (zpz (zpA 1) (zpD)))))) (zrC (zqJ (zq2 (eN (zpG 1 zcN) (zpz (zpA 8) (zpD))))) (tBl (eB (zpM .NotEq) (zpA 2) (zpA 5))))) (zpH (zpT (eC (.bl false))) (zpE)) (zpE)
def zcU : SF := zpH zcb (zpH zca (zpH zb9 (zpH zb8 zpE)))
def zdq : SF := zqK (zru (zpz (eC (.int 2)) (zpD))) (gNm 6) zcU
def zdp : SF := zpL (eN (zpG 2 za0) (zpz (eN (zpG 2 zaX) (zpz (zpA 0) (zpz (eC (.int 8)) (zpD)))) (zpz (eC (.int 8)) (zpD)))) (gNm 7)
def zdo : SF := zpL (eN (zpG 2 zct) (zpz (eN (zpG 2 zcs) (zpz (eB gIx (eB gIx (zpA 1) (eC (.int 0))) (eC (.int 0))) (zpz (eC (.bl false)) (zpD)))) (zpz (eB (zpJ .Add) (eB (zpJ .Mult) (eB (zpJ .FloorDiv) (zpA 7) (eC (.int 2))) (eC (.int 5))) (eB (zpJ .Mod) (zpA 7) (eC (.int 2)))) (zpD)))) (gNm 9)
def zcy : SF := sIf (zq2 (eN (zpG 1 zbC) (zpz (zpA 9) (zpD)))) (zpH (zpT (eC (.bl true))) (zpE)) (zpE)
def zdn : SF := zpL (eN (zpG 2 za7) (zpz (eB gIx (eB gIx (zpA 1) (eC (.int 0))) (eC (.int 0))) (zpz (eB (zpJ .FloorDiv) (zpA 7) (eC (.int 6))) (zpD)))) (gNm 10)
def zcW : SF := zpT (eB (zpM .Eq) (zrw [9, 10] (eN (zpG 2 zaZ) (zpz (zpA 1) (zpz (zpA 0) (zpD)))) (zrb 2 zbF (zpz (zpA 1) (zpz (zpA 0) (zpD)))) (telR "refused")) (eN zpO (zpz (eC (.str "refused")) (zpz (eC (.str "NotClosed")) (zpD)))))
def zcX : SF := zpH zdu (zpH zdt (zpH zds (zpH zdr (zpH zdq (zpH zdp (zpH zdo (zpH zcy (zpH zdn (zpH zcW zpE)))))))))
end MX.P
end
section
namespace MX
open PySem L2
theorem zb6 {p : Prop} {i : Decidable p} (h : p) : @decide p i = true := decide_eq_true h
theorem zcI {p : Prop} {i : Decidable p} (h : ¬ p) : @decide p i = false := decide_eq_false h
section
variable {σ σ1 : Sg} {S S1 S2 : So} {x y z d : D} {xs ds : List D} {fa fb fe fo : EF} {aa : AF}
theorem zah {g : G2} {r : Option (D × So)} (h1 : fa σ S = some (x, S1)) (h2 : fb σ S1 = some (y, S2)) (h3 : g x y S2 = r) : eB g fa fb σ S = r := by
 unfold eB; rw [h1]; simp only [zs6]; rw [h2]; simp only [zs6]; exact h3
theorem zoy {g : D -> So -> Option (D × So)} {r : Option (D × So)} (h1 : fa σ S = some (x, S1)) (h3 : g x S1 = r) : eU g fa σ S = r := by
 unfold eU; rw [h1]; simp only [zs6]; exact h3
theorem zat {g : GN} {r : Option (D × So)} (h1 : aa σ S = some (ds, S1)) (h2 : g ds S1 = r) : eN g aa σ S = r := by
 unfold eN; rw [h1]; simp only [zs6]; exact h2
theorem zab {fr : AF} (h1 : fa σ S = some (x, S1)) (h2 : fr σ S1 = some (xs, S2)) : zpz fa fr σ S = some (x :: xs, S2) := by
 unfold zpz; rw [h1]; simp only [zs6]; rw [h2]; rfl
theorem zag : zpD σ S = some ([], S) := rfl
theorem zao : eC d σ S = some (d, S) := rfl
theorem zaa {i : Nat} (h : σ[i]? = some (some d)) : zpA i σ S = some (d, S) := by unfold zpA; rw [h]
theorem zaj {n : Nat} {φ : GN} {r : Option (D × So)} (h1 : ds.length = n) (h2 : φ ds S = r) : zpG n φ ds S = r := by unfold zpG; rw [if_pos h1]; exact h2
def zrY {α : Type} (b : Bool) (x y : α) : α := if b = true then x else y
theorem zbd {α : Type} {b : Bool} {x y r : α} (h : b = true) (hx : x = r) : zrY b x y = r := by unfold zrY; rw [if_pos h]; exact hx
theorem zaN {α : Type} {b : Bool} {x y r : α} (h : b = false) (hx : y = r) : zrY b x y = r := by unfold zrY; rw [if_neg (by rw [h]; exact zs2)]; exact hx
theorem zjf {t : TF} {b : Bool} {r : Option (D × So)} (h1 : t σ S = some (b, S1)) (h2 : zrY b (fa σ S1) (fb σ S1) = r) : eIf t fa fb σ S = r := by
 unfold eIf; rw [h1]; simp only [zs6]; exact h2
theorem zmC {b : Bool} (h1 : fa σ S = some (.bl b, S1)) : eNot fa σ S = some (.bl (!b), S1) := by unfold eNot; rw [h1]; rfl
theorem zgx {b : Bool} {r : Option (D × So)} (h1 : fa σ S = some (.bl b, S1)) (h2 : zrY b (fb σ S1) (some (.bl false, S1)) = r) : zrN fa fb σ S = r := by
 unfold zrN; rw [h1]; simp only [zs6]; cases b <;> exact h2
theorem zje {b : Bool} {r : Option (D × So)} (h1 : fa σ S = some (.bl b, S1)) (h2 : zrY b (some (.bl true, S1)) (fb σ S1) = r) : eOr fa fb σ S = r := by
 unfold eOr; rw [h1]; simp only [zs6]; cases b <;> exact h2
theorem zck {b : Bool} (h1 : fa σ S = some (.bl b, S1)) : tBl fa σ S = some (b, S1) := by unfold tBl; rw [h1]; rfl
theorem zdm {b : Bool} (h1 : fa σ S = some (x, S1)) (h2 : truD x S1 = some b) : zq2 fa σ S = some (b, S1) := by unfold zq2; rw [h1]; simp only [zs6]; rw [h2]; rfl
theorem zfq {t : TF} {b : Bool} (h1 : t σ S = some (b, S1)) : zqJ t σ S = some (!b, S1) := by unfold zqJ; rw [h1]; rfl
theorem zfr {t u : TF} {b : Bool} {r : Option (Bool × So)} (h1 : t σ S = some (b, S1)) (h2 : zrY b (u σ S1) (some (false, S1)) = r) : zrc t u σ S = r := by
 unfold zrc; rw [h1]; simp only [zs6]; exact h2
theorem zi8 {t u : TF} {b : Bool} {r : Option (Bool × So)} (h1 : t σ S = some (b, S1)) (h2 : zrY b (some (true, S1)) (u σ S1) = r) : zrC t u σ S = r := by
 unfold zrC; rw [h1]; simp only [zs6]; exact h2
theorem zb5 : zqB σ S = some (true, S) := rfl
abbrev SR := Option (Fl × Sg × So)
def seqK (fl : Fl) (g : SF) (σ : Sg) (S : So) : SR := match fl with
 | .nx => g σ S
 | fl => some (fl, σ, S)
theorem zad {g : SF} {r : SR} (h : g σ S = r) : seqK .nx g σ S = r := h
theorem zaw {g : SF} : seqK (.rt z) g σ S = some (.rt z, σ, S) := rfl
theorem zac {f g : SF} {fl : Fl} {r : SR} (h1 : f σ S = some (fl, σ1, S1)) (h2 : seqK fl g σ1 S1 = r) : zpH f g σ S = r := by
 unfold zpH; rw [h1]; simp only [zs6]; cases fl <;> exact h2
theorem zap : zpE σ S = some (.nx, σ, S) := rfl
theorem zaF (h : fe σ S = some (x, S1)) : zpT fe σ S = some (.rt x, σ, S1) := by unfold zpT; rw [h]; rfl
theorem zbZ (h : fe σ S = some (x, S1)) : zqn fe σ S = some (.nx, σ, S1) := by unfold zqn; rw [h]; rfl
theorem zai {g : GF} (h1 : fe σ S = some (x, S1)) (h2 : g x σ S1 = some (σ1, S2)) : zpL fe g σ S = some (.nx, σ1, S2) := by unfold zpL; rw [h1]; simp only [zs6]; rw [h2]; rfl
theorem zaJ {t : TF} {f g : SF} {b : Bool} {r : SR} (h1 : t σ S = some (b, S1)) (h2 : zrY b (f σ S1) (g σ S1) = r) : sIf t f g σ S = r := by
 unfold sIf; rw [h1]; simp only [zs6]; exact h2
theorem zfM {i : Nat} (h : σ.set i (some d) = σ1) : gNm i d σ S = some (σ1, S) := by unfold gNm; rw [h]
theorem zfc {fi : EF} (h1 : fo σ S = some (x, S1)) (h2 : fi σ S1 = some (y, S2)) {S3 : So} (h3 : zsr x y d S2 = some S3) : gSt fo fi d σ S = some (σ, S3) := by
 unfold gSt; rw [h1]; simp only [zs6]; rw [h2]; simp only [zs6]; rw [h3]; rfl
theorem zmB {n : Nat} {i : Int} {j : Nat} (h1 : S[n]? = some (.lst xs)) (h2 : ixN xs.length i = some j) {S3 : So} (h3 : S.set n (.lst (xs.set j d)) = S3) : zsr (.ref n) (.int i) d S = some S3 := by
 unfold zsr; simp only; rw [h1]; simp only; rw [h2]; simp only [ztv]; rw [h3]
theorem zcF {i j : Int} : zpJ .Add (.int i) (.int j) S = some (.int (i + j), S) := rfl
theorem zjh {n m : Nat} {xs ys : List D} (h1 : S[n]? = some (.lst xs)) (h2 : S[m]? = some (.lst ys)) (h : xs.length + ys.length <= sizeLine) : zpJ .Add (.ref n) (.ref m) S = some (.ref S.length, S ++ [.lst (xs ++ ys)]) := by
 unfold zpJ gAdd; simp only; rw [h1, h2]; simp only; rw [if_pos h]
theorem zfK {i j : Int} : zpJ .Sub (.int i) (.int j) S = some (.int (i - j), S) := rfl
theorem zfL {i j : Int} (h : mulOk i j = true) : zpJ .Mult (.int i) (.int j) S = some (.int (i * j), S) := by
 unfold zpJ gMul; simp only; rw [if_pos h]
theorem zbI {i j : Int} (h : divOk j = true) : zpJ .FloorDiv (.int i) (.int j) S = some (.int (i.fdiv j), S) := by
 unfold zpJ gDiv; simp only; rw [if_pos h]
theorem zbz {i j : Int} (h : j ≠ 0) : zpJ .Mod (.int i) (.int j) S = some (.int (i.fmod j), S) := by
 unfold zpJ gMod; simp only; rw [if_pos h]
theorem zmz {i j : Int} : zpM .Lt (.int i) (.int j) S = some (.bl (decide (i < j)), S) := rfl
theorem zmA {i j : Int} : zpM .LtE (.int i) (.int j) S = some (.bl (decide (i <= j)), S) := rfl
theorem zow {i j : Int} : zpM .Gt (.int i) (.int j) S = some (.bl (decide (j < i)), S) := rfl
theorem zox {i j : Int} : zpM .GtE (.int i) (.int j) S = some (.bl (decide (j <= i)), S) := rfl
theorem zeS {i j : Int} : zpM .Eq (.int i) (.int j) S = some (.bl (decide (i = j)), S) := rfl
theorem zmy {i j : Int} : zpM .NotEq (.int i) (.int j) S = some (.bl (!decide (i = j)), S) := rfl
theorem zov : zpM .Is x .non S = some (.bl (zrf x), S) := by cases x <;> rfl
theorem zg4 : zpM .IsNot x .non S = some (.bl (!zrf x), S) := by cases x <;> rfl
theorem zi9 {i : Int} : zsI (.int i) S = some (.int (-i), S) := rfl
theorem zaA {i : Int} (h : atI xs i = some z) : gIx (.tup xs) (.int i) S = some (z, S) := by unfold gIx; simp only; rw [h]; rfl
theorem zdd {n : Nat} {i : Int} (h1 : S[n]? = some (.lst xs)) (h : atI xs i = some z) : gIx (.ref n) (.int i) S = some (z, S) := by unfold gIx; simp only; rw [h1]; simp only; rw [h]; rfl
theorem zjc {n : Nat} {i : Int} (h1 : S[n]? = some (.frz xs)) (h : atI xs i = some z) : gIx (.ref n) (.int i) S = some (z, S) := by unfold gIx; simp only; rw [h1]; simp only; rw [h]; rfl
theorem zd9 (h : ds.length <= sizeLine) : zpO ds S = some (.tup ds, S) := by unfold zpO; rw [if_pos h]
theorem zfb (h : ds.length <= sizeLine) : zqp ds S = some (.ref S.length, S ++ [.lst ds]) := by unfold zqp; rw [if_pos h]
theorem zfs {n : Nat} (h1 : S[n]? = some (.lst xs)) : zrz [.ref n] S = some (.int xs.length, S) := by unfold zrz; simp only; rw [h1]
theorem zft {n : Nat} (h1 : S[n]? = some (.frz xs)) : zrz [.ref n] S = some (.int xs.length, S) := by unfold zrz; simp only; rw [h1]
theorem zdG {n : Nat} (h1 : S[n]? = some (.lst xs)) : zqz [.ref n] S = some (.tup xs, S) := by unfold zqz; simp only; rw [h1]
theorem zep {n : Nat} (h1 : S[n]? = some (.lst xs)) : zrh [.ref n] S = some (.ref S.length, S ++ [.lst xs]) := by unfold zrh; simp only; rw [h1]
theorem zjb {i j : Int} : zqM [.int i, .int j] S = some (.int (if j > i then j else i), S) := rfl
theorem zji {i : Int} : gAbs [.int i] S = some (.int (if i < 0 then -i else i), S) := rfl
theorem zgu {n : Nat} {ns : List Int} {m : Int} (h1 : S[n]? = some (.lst (ns.map .int))) (h : zso ns = some m) : zq8 [.ref n] S = some (.int m, S) := by unfold zq8 gMin; simp only; rw [h1]; simp only; rw [zfI]; simp only [zs6]; rw [h]; rfl
theorem zja {n : Nat} {ns : List Int} {m : Int} (h1 : S[n]? = some (.lst (ns.map .int))) (h : zsp ns = some m) : zqM [.ref n] S = some (.int m, S) := by unfold zqM gMax; simp only; rw [h1]; simp only; rw [zfI]; simp only [zs6]; rw [h]; rfl
theorem zeT {n : Nat} {bs : List Bool} (h1 : S[n]? = some (.lst xs)) (h2 : zql xs = some bs) : zrZ [.ref n] S = some (.bl (bs.all id), S) := by unfold zrZ; simp only; rw [h1]; simp only; rw [h2]; rfl
theorem zg1 {i j : Int} : zq8 [.tup [.int i, .int j]] S = some (.int (if j < i then j else i), S) := rfl
theorem zg2 {i j : Int} : zqM [.tup [.int i, .int j]] S = some (.int (if j > i then j else i), S) := rfl
theorem zcP {n : Nat} (h1 : S[n]? = some (.lst xs)) (h : xs.length < sizeLine) {S3 : So} (h3 : S.set n (.lst (xs ++ [d])) = S3) : zp0 (.ref n) [d] S = some (.non, S3) := by
 unfold zp0; simp only; rw [h1]; simp only; rw [if_pos h, h3]
theorem zfN {g : GM} {n : Nat} {r : Option (D × So)} (h1 : fo σ S = some (.ref n, S1)) (h2 : S1[n]? = some (.lst xs)) (h3 : aa σ S1 = some (ds, S2)) (h4 : g (.ref n) ds S2 = r) : eM g fo aa σ S = r := by
 unfold eM; rw [h1]; simp only [zs6]; rw [h2]; simp only; rw [h3]; exact h4
theorem zgw {j : Int} (h1 : aa σ S = some ([.int j], S1)) (hb : -(2 ^ 62) <= j /\ j < 2 ^ 62) : zru aa σ S = some (.fix (zpU 0 j.toNat), S1) := by
 unfold zru; rw [h1]; simp only [zs6]; rw [if_pos hb]
theorem zky (h1 : fe σ S = some (.tup xs, S1)) : zqc fe σ S = some (.fix xs, S1) := by unfold zqc; rw [h1]; rfl
theorem zaU {n : Nat} (h1 : fe σ S = some (.ref n, S1)) (h2 : S1[n]? = some (.lst xs)) : zqc fe σ S = some (.lst n, S1) := by unfold zqc; rw [h1]; simp only [zs6]; rw [h2]
theorem zgv {fi : IF} {g : GF} {t : TF} {src : List (Option Nat)} {j : ItD} {n : Nat} {ys : List D} (h1 : fi σ S = some (j, S1)) (h2 : zsO j S1 = some n) (hn : n <= sizeLine) (hτ : zr8 src σ = σ1) (h3 : lcN (nxD j) g t fe n 0 σ1 S1 [] = some (ys, S2)) : eLc fi g t fe src σ S = some (.ref S2.length, S2 ++ [.lst ys]) := by
 subst hτ; unfold eLc lcD; rw [h1]; simp only [zs6]; rw [h2]; simp only [zs6]; rw [if_pos hn, h3]; rfl
theorem zg3 {nx : Nat -> So -> Option (Option D)} {g : GF} {t : TF} {i : Nat} {acc : List D} (h : nx i S = some none) : lcN nx g t fe 0 i σ S acc = some (acc, S) := by unfold lcN; rw [h]
theorem zdc {nx : Nat -> So -> Option (Option D)} {g : GF} {t : TF} {k i : Nat} {acc acc' : List D} {r : Option (List D × So)} {S3 : So} (h : nx i S = some (some d)) (h1 : g d σ S = some (σ1, S1)) (h2 : t σ1 S1 = some (true, S2)) (h3 : fe σ1 S2 = some (x, S3)) (ha : acc ++ [x] = acc')
   (h4 : lcN nx g t fe k (i + 1) σ1 S3 acc' = r) : lcN nx g t fe (k + 1) i σ S acc = r := by
 unfold lcN; rw [h]; simp only; rw [h1]; simp only [zs6]; rw [h2]; simp only [zs6, if_true]; rw [h3]; rw [<- ha] at h4; exact h4
theorem zcl {fi : IF} {g : GF} {f : SF} {j : ItD} {n : Nat} {r : SR} (h1 : fi σ S = some (j, S1)) (h2 : zsO j S1 = some n) (h3 : zqZ (nxD j) g f n 0 σ S1 = r) : zqK fi g f σ S = r := by
 unfold zqK; rw [h1]; simp only [zs6]; rw [h2]; exact h3
theorem zcv {nx : Nat -> So -> Option (Option D)} {g : GF} {f : SF} {i : Nat} (h : nx i S = some none) : zqZ nx g f 0 i σ S = some (.nx, σ, S) := by unfold zqZ; rw [h]
def forK (fl : Fl) (nx : Nat -> So -> Option (Option D)) (g : GF) (f : SF) (k i : Nat) (σ : Sg) (S : So) : SR := match fl with
 | .nx => zqZ nx g f k i σ S
 | .ct => zqZ nx g f k i σ S
 | .bk => some (.nx, σ, S)
 | .rt d => some (.rt d, σ, S)
theorem zax {nx : Nat -> So -> Option (Option D)} {g : GF} {f : SF} {k i : Nat} {fl : Fl} {σ2 : Sg} {r : SR} (h : nx i S = some (some d)) (h1 : g d σ S = some (σ1, S1)) (h2 : f σ1 S1 = some (fl, σ2, S2)) (h3 : forK fl nx g f k (i + 1) σ2 S2 = r) : zqZ nx g f (k + 1) i σ S = r := by
 unfold zqZ; rw [h]; simp only; rw [h1]; simp only [zs6]; rw [h2]; simp only [zs6]; cases fl <;> exact h3
theorem zaz {nx : Nat -> So -> Option (Option D)} {g : GF} {f : SF} {k i : Nat} {r : SR} (h : zqZ nx g f k i σ S = r) : forK .nx nx g f k i σ S = r := h
theorem ziX {nx : Nat -> So -> Option (Option D)} {g : GF} {f : SF} {k i : Nat} : forK (.rt z) nx g f k i σ S = some (.rt z, σ, S) := rfl
theorem zn1 {i : Nat} (h : xs[i]? = some d) : nxD (.fix xs) i S = some (some d) := by show some xs[i]? = _; rw [h]
theorem zaY {n i : Nat} (h1 : S[n]? = some (.lst xs)) (h : xs[i]? = some d) : nxD (.lst n) i S = some (some d) := by unfold nxD; simp only; rw [h1]; simp only; rw [h]
theorem zgi {n i : Nat} {lo : Int} {z : Int} (h : i < n) (hz : lo + (i : Nat) = z) : nxD (.fix (zpU lo n)) i S = some (some (.int z)) := by
 unfold nxD; simp only; rw [ze5, if_pos h, hz]
theorem zay {o : O} : (S ++ [o])[S.length]? = some o := by simp
theorem za4 {o p : O} {n : Nat} (h : S[n]? = some o) : (S ++ [p])[n]? = some o := by
 rw [zti (zsX.mp h).1]; exact h
end
end MX
end
section
namespace MX
open PySem L2
def pln : Nat -> D -> Bool
 | _, .non => true
 | _, .int _ => true
 | _, .str x => PyData.strOk x
 | n + 1, .tup xs => xs.all (pln n)
 | _, _ => false
def pyD : Nat -> D -> PyData
 | _, .int i => .int i
 | _, .str x => .str x
 | n + 1, .tup xs => .tuple (xs.map (pyD n))
 | _, _ => .none
theorem zfg {f : D -> Option PyData} {g : D -> PyData} : ∀ {xs : List D}, (∀ d ∈ xs, f d = some (g d)) -> zry f xs = some (xs.map g)
 | [], _ => rfl
 | d :: r, h => by
   unfold zry
   rw [h d zsZ, zfg (xs := r) fun e he => h e (zsY _ he)]
   rfl
theorem zeu {S : So} : ∀ {n : Nat} {d : D}, pln n d = true -> toP S (n + 1) d = some (pyD n d)
 | n, .non, _ => by simp [toP]; cases n <;> rfl
 | n, .int i, _ => by simp [toP]; cases n <;> rfl
 | n, .str x, _ => by simp [toP]; cases n <;> rfl
 | n + 1, .tup xs, h => by
   unfold pln at h
   rw [List.all_eq_true] at h
   unfold toP
   rw [zfg fun d hd => zeu (h d hd)]
   rfl
 | 0, .tup xs, h => by simp [pln] at h
 | _, .bl _, h => by simp [pln] at h
 | _, .ref _, h => by simp [pln] at h
 | _, .ty _, h => by simp [pln] at h
 | _, .adr _, h => by simp [pln] at h
theorem zdz {S : So} : ∀ {n m : Nat} {d : D} {p : PyData}, toP S n d = some p -> n <= m -> toP S m d = some p
 | 0, _, _, _, h, _ => by simp [toP] at h
 | n + 1, 0, _, _, _, hm => by omega
 | n + 1, m + 1, d, p, h, hm => by
   have aux : ∀ {xs : List D} {ps : List PyData}, zry (toP S n) xs = some ps -> zry (toP S m) xs = some ps := fun {xs} => by
     induction xs with
     | nil => intro ps e; exact e
     | cons x r ih =>
       intro ps e
       simp only [zry, oBs, oMs] at e ⊢
       obtain ⟨q, e1, qs, e2, e3⟩ := e
       exact ⟨q, zdz e1 (by omega), qs, ih e2, e3⟩
   cases d with
   | tup xs =>
     simp only [toP, oMs] at h ⊢
     obtain ⟨ps, e1, e2⟩ := h
     exact ⟨ps, aux e1, e2⟩
   | ref k =>
     simp only [toP] at h ⊢
     split at h
     . rename_i q
       simp only [oMs] at h ⊢
       obtain ⟨ps, e1, e2⟩ := h
       exact ⟨ps, aux e1, e2⟩
     . rename_i q
       simp only [oMs] at h ⊢
       obtain ⟨ps, e1, e2⟩ := h
       exact ⟨ps, aux e1, e2⟩
     . cases h
   | non => simpa [toP] using h
   | bl b => simpa [toP] using h
   | int i => simpa [toP] using h
   | str x => simpa [toP] using h
   | ty x => simp [toP] at h
   | adr x => simp [toP] at h
theorem zsw {ps : List PyData} (h : ∀ p ∈ ps, PyData.canLay0 p = true) : PyData.canLayAll0 ps = true := by
 induction ps with
 | nil => rfl
 | cons p r ih => unfold PyData.canLayAll0; rw [h p zsZ, ih fun q hq => h q (zsY _ hq)]; rfl
theorem zsu {ps : List PyData} {n : Nat} (h : ∀ p ∈ ps, PyData.depth p <= n) : PyData.depthAll ps <= n := by
 induction ps with
 | nil => exact Nat.zero_le _
 | cons p r ih => unfold PyData.depthAll; exact Nat.max_le.mpr ⟨h p zsZ, ih fun q hq => h q (zsY _ hq)⟩
theorem zfB : ∀ {n : Nat} {d : D}, pln n d = true -> PyData.canLay0 (pyD n d) = true /\ PyData.depth (pyD n d) <= n
 | n, .non, _ => by cases n <;> exact ⟨rfl, Nat.zero_le _⟩
 | n, .int i, _ => by cases n <;> exact ⟨rfl, Nat.zero_le _⟩
 | n, .str x, h => by
   have h' : PyData.strOk x = true := by cases n <;> simpa [pln] using h
   cases n <;> exact ⟨h', Nat.zero_le _⟩
 | n + 1, .tup xs, h => by
   unfold pln at h
   rw [List.all_eq_true] at h
   constructor
   . show PyData.canLayAll0 (xs.map (pyD n)) = true
     refine zsw fun p hp => ?_
     obtain ⟨d, hd, rfl⟩ := List.mem_map.mp hp
     exact (zfB (h d hd)).1
   . show PyData.depthAll (xs.map (pyD n)) + 1 <= n + 1
     refine Nat.succ_le_succ (zsu fun p hp => ?_)
     obtain ⟨d, hd, rfl⟩ := List.mem_map.mp hp
     exact (zfB (h d hd)).2
 | 0, .tup xs, h => by simp [pln] at h
 | _, .bl _, h => by simp [pln] at h
 | _, .ref _, h => by simp [pln] at h
 | _, .ty _, h => by simp [pln] at h
 | _, .adr _, h => by simp [pln] at h
theorem ze4 {n : Nat} {d : D} (h : pln n d = true) (hn : n <= 64) : SeqAt.shaped (pyD n d) = true := by
 unfold SeqAt.shaped
 obtain ⟨a, b⟩ := zfB h
 rw [a, Bool.true_and]
 exact decide_eq_true (by omega)
theorem zjk {f : D -> PyData} {xs : List D} : ∀ {ys : List D}, (∀ x ∈ xs, ∀ y ∈ ys, (PyData.eqv (f x) (f y) = true ↔ x = y)) -> (PyData.eqvAll (xs.map f) (ys.map f) = true ↔ xs = ys) := by
 induction xs with
 | nil => intro ys h; cases ys <;> simp [PyData.eqvAll]
 | cons x r ih =>
   intro ys h
   cases ys with
   | nil => simp [PyData.eqvAll]
   | cons y s =>
     simp only [ztJ, PyData.eqvAll, zs5, List.cons.injEq]
     rw [h x zsZ y zsZ, ih fun a ha b hb => h a (zsY _ ha) b (zsY _ hb)]
theorem zjj : ∀ {n : Nat} {x y : D}, pln n x = true -> pln n y = true -> (PyData.eqv (pyD n x) (pyD n y) = true ↔ x = y) := by
 intro n
 induction n with
 | zero =>
   intro x y hx hy
   cases x <;> cases y <;> simp_all [pln, pyD, PyData.eqv]
 | succ n ih =>
   intro x y hx hy
   cases x <;> cases y <;> simp_all [pln, pyD, PyData.eqv]
   exact zjk fun a ha b hb => ih (hx a ha) (hy b hb)
open Classical in
theorem zjl {S : So} {x y : D} (n : Nat) (hx : pln n x = true) (hy : pln n y = true) (hn : n <= 23 := by decide) : eqD S x y = some (decide (x = y)) := by
 unfold eqD
 rw [zdz (zeu hx) (by omega), zdz (zeu hy) (by omega)]
 simp only [zs6]
 rw [if_pos ⟨ze4 hx (by omega), ze4 hy (by omega)⟩]
 congr 1
 rw [Bool.eq_iff_iff, zjj hx hy, ztG]
open Classical in
theorem zjm {S : So} {n m : Nat} {xs ys : List D} (k : Nat) (h1 : S[n]? = some (.lst xs) \/ S[n]? = some (.frz xs)) (h2 : S[m]? = some (.lst ys) \/ S[m]? = some (.frz ys)) (hx : ∀ x ∈ xs, pln k x = true) (hy : ∀ y ∈ ys, pln k y = true) (hk : k <= 20 := by decide) :
   eqD S (.ref n) (.ref m) = some (decide (xs = ys)) := by
 have e1 : toP S (k + 2) (.ref n) = some (.list (xs.map (pyD k))) := by
   unfold toP
   rcases h1 with h1 | h1 <;> (rw [h1]; simp only; rw [zfg fun d hd => zeu (hx d hd)]; rfl)
 have e2 : toP S (k + 2) (.ref m) = some (.list (ys.map (pyD k))) := by
   unfold toP
   rcases h2 with h2 | h2 <;> (rw [h2]; simp only; rw [zfg fun d hd => zeu (hy d hd)]; rfl)
 have sh : ∀ zs : List D, (∀ z ∈ zs, pln k z = true) -> SeqAt.shaped (.list (zs.map (pyD k))) = true := fun zs hz => by
   unfold SeqAt.shaped
   rw [zs5]
   constructor
   . show PyData.canLayAll0 _ = true
     refine zsw fun p hp => ?_
     obtain ⟨d, hd, rfl⟩ := List.mem_map.mp hp
     exact (zfB (hz d hd)).1
   . refine decide_eq_true ?_
     show PyData.depthAll _ + 1 <= 64
     have : PyData.depthAll (zs.map (pyD k)) <= k := zsu fun p hp => by
       obtain ⟨d, hd, rfl⟩ := List.mem_map.mp hp
       exact (zfB (hz d hd)).2
     omega
 unfold eqD
 rw [zdz e1 (by omega), zdz e2 (by omega)]
 simp only [zs6]
 rw [if_pos ⟨sh xs hx, sh ys hy⟩]
 congr 1
 rw [Bool.eq_iff_iff, ztG]
 show PyData.eqvAll _ _ = true ↔ _
 exact zjk fun a ha b hb => zjj (hx a ha) (hy b hb)
section
variable {S : So} {x y : D}
def nInt : D -> D -> Bool
 | .int _, .int _ => false
 | _, _ => true
open Classical in
theorem zg5 (h : nInt x y = true) (n : Nat) (hx : pln n x = true) (hy : pln n y = true) (hn : n <= 23) : zpM .Eq x y S = some (.bl (decide (x = y)), S) := by
 have e : zpM .Eq x y S = (eqD S x y).map fun b => (.bl b, S) := by cases x <;> cases y <;> first | rfl | cases h
 rw [e, zjl n hx hy hn]; rfl
open Classical in
theorem zkZ (h : nInt x y = true) (n : Nat) (hx : pln n x = true) (hy : pln n y = true) (hn : n <= 23) : zpM .NotEq x y S = some (.bl (!decide (x = y)), S) := by
 have e : zpM .NotEq x y S = (eqD S x y).map fun b => (.bl (!b), S) := by cases x <;> cases y <;> first | rfl | cases h
 rw [e, zjl n hx hy hn]; rfl
open Classical in
theorem zk0 {n m : Nat} {xs ys : List D} (k : Nat) (h1 : S[n]? = some (.lst xs) \/ S[n]? = some (.frz xs)) (h2 : S[m]? = some (.lst ys) \/ S[m]? = some (.frz ys)) (hx : ∀ x ∈ xs, pln k x = true) (hy : ∀ y ∈ ys, pln k y = true) (hk : k <= 20) :
   zpM .Eq (.ref n) (.ref m) S = some (.bl (decide (xs = ys)), S) := by
 show (eqD S (.ref n) (.ref m)).map _ = _
 rw [zjm k h1 h2 hx hy hk]; rfl
open Classical in
theorem zot {n m : Nat} {xs ys : List D} (k : Nat) (h1 : S[n]? = some (.lst xs) \/ S[n]? = some (.frz xs)) (h2 : S[m]? = some (.lst ys) \/ S[m]? = some (.frz ys)) (hx : ∀ x ∈ xs, pln k x = true) (hy : ∀ y ∈ ys, pln k y = true) (hk : k <= 20) :
   zpM .NotEq (.ref n) (.ref m) S = some (.bl (!decide (xs = ys)), S) := by
 show (eqD S (.ref n) (.ref m)).map _ = _
 rw [zjm k h1 h2 hx hy hk]; rfl
end
end MX
end
section
namespace MX
open PySem L2
open Builtin.Int (intBits)
def Bd (k : Nat) (x : Int) : Prop := x.natAbs < 2 ^ k
theorem Bd.le {k l : Nat} {x : Int} (h : Bd k x) (hl : k <= l) : Bd l x := zs0 h (Nat.pow_le_pow_right (by decide) hl)
theorem Bd.add {k l : Nat} {x y : Int} (h : Bd k x) (g : Bd l y) : Bd (max k l + 1) (x + y) := by
 have h1 := h.le (Nat.le_max_left k l)
 have h2 := g.le (Nat.le_max_right k l)
 unfold Bd at *
 rw [Nat.pow_succ]
 have := Int.natAbs_add_le x y
 omega
theorem Bd.neg {k : Nat} {x : Int} (h : Bd k x) : Bd k (-x) := by unfold Bd at *; rw [Int.natAbs_neg]; exact h
theorem Bd.sub {k l : Nat} {x y : Int} (h : Bd k x) (g : Bd l y) : Bd (max k l + 1) (x - y) := by
 rw [Int.sub_eq_add_neg]; exact h.add g.neg
theorem Bd.mul {k l : Nat} {x y : Int} (h : Bd k x) (g : Bd l y) : Bd (k + l) (x * y) := by
 unfold Bd at *
 rw [Int.natAbs_mul, Nat.pow_add]
 exact Nat.mul_lt_mul'' h g
theorem Bd.lit (x : Int) : Bd (intBits x) x := by
 unfold Bd intBits
 split
 . rename_i h
   have : x = 0 := by simpa using h
   subst this; decide
 . exact Nat.lt_log2_self
theorem Bd.fmod {m x : Int} (h : 0 < m) : Bd (intBits m) (x.fmod m) := by
 have h1 := ztc x h
 have h2 := ztd x h
 have h3 := Bd.lit m
 unfold Bd at *
 omega
theorem zkx {x y : Int} (hy : 0 < y) : (x.fdiv y).natAbs <= x.natAbs := by
 rw [Int.fdiv_eq_ediv_of_nonneg _ (by omega)]
 exact Int.natAbs_ediv_le_natAbs x y
theorem Bd.fdiv {k : Nat} {x y : Int} (h : Bd k x) (hy : 0 < y) : Bd k (x.fdiv y) := ztl (zkx hy) h
theorem zkY {i j : Int} {S : So} (h : 0 <= j /\ j <= 1000000 /\ i.natAbs < 2 ^ 64) : zpJ .LShift (.int i) (.int j) S = some (.int (i * 2 ^ j.toNat), S) := by
 unfold zpJ gShl; simp only; rw [if_pos h]
theorem Bd.bits {k : Nat} {x : Int} (h : Bd k x) : intBits x <= k := by
 unfold Bd at h
 unfold intBits
 split
 . exact Nat.zero_le _
 . rename_i hn
   have hx : x.natAbs ≠ 0 := fun e => hn (by have := Int.natAbs_eq_zero.mp e; subst this; rfl)
   exact (Nat.log2_lt hx).mpr h
theorem zdD {k l : Nat} {x y : Int} (h : Bd k x) (g : Bd l y) (hl : k + l <= 134217728) : mulOk x y = true := by
 unfold mulOk
 have h1 := h.bits
 have h2 := g.bits
 rw [ztw]
 exact .inr (decide_eq_true (by omega))
theorem ziv {x y : Int} (h : intBits y <= 64) : mulOk x y = true := by
 unfold mulOk
 rw [ztw, ztw]
 exact .inl (.inr (decide_eq_true h))
theorem zg8 {k : Nat} {y : Int} (h : Bd k y) (h0 : y ≠ 0) (hl : k <= 8000) : divOk y = true := by
 unfold divOk
 have := h.bits
 rw [zs5]
 exact ⟨decide_eq_true h0, decide_eq_true (by omega)⟩
abbrev P3 (x y z : Int) : D := .tup [.int x, .int y, .int z]
abbrev R2 (x y : Int) : D := .tup [.int x, .int y]
end MX
namespace MX
open PySem L2
theorem D.lo_mono : ∀ {d : D} {n m : Nat}, n <= m -> D.lo n d = true -> D.lo m d = true := by
 have key : ∀ (k : Nat) (d : D) (n m : Nat), sizeOf d <= k -> n <= m -> D.lo n d = true -> D.lo m d = true := by
   intro k
   induction k with
   | zero => intro d n m hk; cases d <;> simp at hk
   | succ k ih =>
     intro d n m hk hm h
     cases d with
     | tup xs =>
       rw [D.lo] at h ⊢
       have aux : ∀ ys : List D, sizeOf ys <= k -> los n ys = true -> los m ys = true := by
         intro ys
         induction ys with
         | nil => intro _ _; simp [los]
         | cons y r ihr =>
           intro hs hl
           rw [los, zs5] at hl ⊢
           simp at hs
           exact ⟨ih y n m (by omega) hm hl.1, ihr (by omega) hl.2⟩
       exact aux xs (by simp at hk; omega) h
     | ref j => rw [D.lo] at h ⊢; exact decide_eq_true (zs0 (of_decide_eq_true h) hm)
     | _ => simp [D.lo]
 exact fun {d n m} hm h => key (sizeOf d) d n m (ztq _) hm h
theorem zbG {n : Nat} : ∀ {xs : List D}, los n xs = true ↔ ∀ x ∈ xs, D.lo n x = true
 | [] => by simp [los]
 | x :: r => by rw [los, zs5, zbG (xs := r)]; simp
theorem zfo {n m : Nat} {xs : List D} (hm : n <= m) (h : los n xs = true) : los m xs = true := zbG.mpr fun x hx => D.lo_mono hm (zbG.mp h x hx)
theorem O.lo_mono {n m : Nat} {o : O} (hm : n <= m) (h : O.lo n o = true) : O.lo m o = true := by
 cases o with
 | lst xs => exact zfo hm h
 | frz xs => exact zfo hm h
 | ins C fs => exact zfo hm h
 | dct xs => rfl
theorem WF.snoc {S : So} {o : O} (h : WF S) (ho : O.lo S.length o = true) : WF (S ++ [o]) := fun p hp => by
 rw [zs9, List.length_singleton]
 rcases ztf.mp hp with hp | hp
 . exact O.lo_mono (Nat.le_succ _) (h p hp)
 . rw [List.mem_singleton.mp hp]; exact O.lo_mono (Nat.le_succ _) ho
theorem zgl (n : Nat) (ns : List Int) : O.lo n (.lst (ns.map .int)) = true := zbG.mpr fun x hx => by
 obtain ⟨i, _, rfl⟩ := List.mem_map.mp hx
 simp [D.lo]
def Gr (S S' : So) : Prop := (∃ G, S' = S ++ G) /\ WF S'
theorem Gr.refl {S : So} (h : WF S) : Gr S S := ⟨⟨[], by simp⟩, h⟩
theorem Gr.trans {S S1 S2 : So} (a : Gr S S1) (b : Gr S1 S2) : Gr S S2 := by
 obtain ⟨⟨G, rfl⟩, _⟩ := a
 obtain ⟨⟨G', rfl⟩, h⟩ := b
 exact ⟨⟨G ++ G', by simp⟩, h⟩
theorem Gr.snoc {S S1 : So} {o : O} (a : Gr S S1) (ho : O.lo S1.length o = true) : Gr S (S1 ++ [o]) := by
 obtain ⟨⟨G, rfl⟩, h⟩ := a
 exact ⟨⟨G ++ [o], by simp⟩, h.snoc ho⟩
theorem Gr.old {S S1 : So} (a : Gr S S1) {n : Nat} {o : O} (h : S[n]? = some o) : S1[n]? = some o := by
 obtain ⟨⟨G, rfl⟩, _⟩ := a
 rw [zti (zsX.mp h).1]; exact h
theorem Gr.take {S S1 : So} (a : Gr S S1) : S1.take S.length = S := by
 obtain ⟨⟨G, rfl⟩, _⟩ := a
 simp
end MX
namespace MX.P
open PySem L2 MX
abbrev Pt := Int × Int × Int
abbrev pD (p : Pt) : D := P3 p.1 p.2.1 p.2.2
end MX.P
end
open MX
local macro_rules | `(tactic| wtm_at "?p") => `(tactic| first | rfl | assumption | exact zb6 (by first | assumption | rfl | omega) | exact zcI (by first | assumption | omega) | (simp only [Bool.not_eq_true', Bool.not_eq_false', Bool.not_true, Bool.not_false, ztG, decide_eq_false_iff_not, zrf]; first | assumption | omega))
local macro_rules | `(tactic| wtm_at "?e") => `(tactic| first | assumption | exact zay | (apply za4; wtm_at "?e"))
local macro_rules | `(tactic| wtm_at "?f") => `(tactic| first | assumption | ((with_reducible apply Bd.mul); (focus wtm_at "?f"); (focus wtm_at "?f")) | ((with_reducible apply Bd.add); (focus wtm_at "?f"); (focus wtm_at "?f")) | ((with_reducible apply Bd.sub); (focus wtm_at "?f"); (focus wtm_at "?f")) | ((with_reducible apply Bd.neg); wtm_at "?f") | ((with_reducible apply Bd.fmod); decide) | ((with_reducible apply Bd.fmodV); (focus first | assumption | decide); (focus wtm_at "?f")) | ((with_reducible apply Bd.fdiv); (focus wtm_at "?f"); (focus first | decide | assumption | omega)) | exact Bd.lit _)
local macro_rules | `(tactic| wtm_at "?u") => `(tactic| (apply Bd.le; (focus wtm_at "?f"); (focus first | decide | (simp only [Nat.reduceAdd, Nat.reduceMax, Nat.max_self]; omega))))
local macro_rules | `(tactic| wtm_at "?h") => `(tactic| first | assumption | rfl | wtm_at "?e" | (refine ziv (by decide)) | (refine mulOk_l (by decide)) | (apply zdD; (focus wtm_at "?f"); (focus wtm_at "?f"); (focus first | decide | omega)) | wtm_at "?u" | decide | omega)
local macro_rules | `(tactic| wtm_at "?l") => `(tactic| first | assumption | ((with_reducible apply WF.snoc); (focus wtm_at "?l"); (focus first | exact zgl _ _ | assumption | rfl)))
local macro_rules | `(tactic| wtm_at "?g") => `(tactic| first
 | (with_reducible first | exact zcF | exact zfK | exact zmz | exact zmA | exact zow | exact zox | exact zeS | exact zmy | exact zov | exact zg4 | exact zi9)
 | ((with_reducible apply zfL); wtm_at "?h") | ((with_reducible apply zbz); wtm_at "?h") | ((with_reducible apply zbI); first | decide | wtm_at "?h") | ((with_reducible apply zkY); decide)
 | ((with_reducible apply zaA); first | (with_reducible assumption) | rfl) | ((with_reducible apply zdd); (focus wtm_at "?e"); (focus first | (with_reducible assumption) | rfl)) | ((with_reducible apply zjc); (focus wtm_at "?e"); (focus first | (with_reducible assumption) | rfl))
 | (refine zg5 ?_ 8 ?_ ?_ ?_ <;> first | decide +kernel | rfl | decide) | (refine zkZ ?_ 8 ?_ ?_ ?_ <;> first | decide +kernel | rfl | decide))
local macro_rules | `(tactic| wtm_at "?k") => `(tactic| first
 | ((with_reducible apply zd9); exact zs3 rfl) | ((with_reducible apply zfb); exact zs3 rfl) | (with_reducible first | exact ev_lenT | exact zg1 | exact zg2 | exact ev_min2 | exact zjb | exact zji | exact ev_listT)
 | ((with_reducible apply zfs); wtm_at "?e") | ((with_reducible apply zft); wtm_at "?e") | ((with_reducible apply zdG); wtm_at "?e") | ((with_reducible apply zep); wtm_at "?e")
 | ((with_reducible apply zeT); (focus wtm_at "?e"); (focus rfl)) | ((with_reducible apply ev_minL'); (focus wtm_at "?e"); (focus rfl); (focus rfl)) | ((with_reducible apply ev_maxL'); (focus wtm_at "?e"); (focus rfl); (focus rfl)) | ((with_reducible apply ev_minT'); (focus rfl); (focus rfl)) | ((with_reducible apply ev_maxT'); (focus rfl); (focus rfl))
 | ((with_reducible apply zaj); (focus rfl); (focus wtm_at "?d")))
local macro_rules | `(tactic| wtm_at "?q") => `(tactic| first | rfl | (with_reducible assumption) | exact zb6 (by with_reducible assumption) | exact zcI (by with_reducible assumption) | exact zb6 rfl)
local macro_rules | `(tactic| wtm_at "?i") => `(tactic| first | (apply zbd; (focus wtm_at "?q"); wtm_at "?a") | (apply zaN; (focus wtm_at "?q"); wtm_at "?a") | (apply zbd; (focus wtm_at "?p"); wtm_at "?a") | (apply zaN; (focus wtm_at "?p"); wtm_at "?a"))
local macro_rules | `(tactic| wtm_at "?v") => `(tactic| first | (simp only [List.set_cons_zero, List.set_cons_succ, List.set]; done) | (simp only [List.set_cons_zero, List.set_cons_succ, List.set]; rfl) | rfl)
local macro_rules | `(tactic| wtm_at "?j") => `(tactic| first
 | ((with_reducible apply zfM); wtm_at "?v")
 | ((with_reducible apply ev_gTp); (focus rfl); (focus wtm_at "?j"))
 | ((with_reducible apply ev_gsCons); (focus wtm_at "?j"); (focus wtm_at "?j"))
 | (with_reducible exact ev_gsNil))
local macro_rules | `(tactic| wtm_at "?a") => `(tactic| first
 | (with_reducible exact zao) | ((with_reducible apply zaa); rfl)
 | ((with_reducible apply zah); (focus wtm_at "?a"); (focus wtm_at "?a"); (focus wtm_at "?g"))
 | ((with_reducible apply zat); (focus wtm_at "?a"); (focus wtm_at "?k"))
 | ((with_reducible apply zab); (focus wtm_at "?a"); (focus wtm_at "?a")) | (with_reducible exact zag)
 | ((with_reducible apply zac); (focus wtm_at "?a"); (focus wtm_at "?m"))
 | ((with_reducible apply zaF); wtm_at "?a") | (with_reducible first | exact zap | exact ev_sRetN | exact ev_sCnt | exact ev_sBrk)
 | ((with_reducible apply zai); (focus wtm_at "?a"); (focus wtm_at "?j"))
 | ((with_reducible apply zaJ); (focus wtm_at "?a"); (focus wtm_at "?i"))
 | ((with_reducible apply zbZ); wtm_at "?a")
 | ((with_reducible apply zck); wtm_at "?a") | ((with_reducible apply zfq); wtm_at "?a")
 | ((with_reducible apply zfr); (focus wtm_at "?a"); (focus wtm_at "?i")) | ((with_reducible apply zi8); (focus wtm_at "?a"); (focus wtm_at "?i"))
 | ((with_reducible apply zdm); (focus wtm_at "?a"); (focus rfl))
 | ((with_reducible apply zoy); (focus wtm_at "?a"); (focus wtm_at "?g"))
 | ((with_reducible apply zmC); wtm_at "?a")
 | ((with_reducible apply zgx); (focus wtm_at "?a"); (focus wtm_at "?i")) | ((with_reducible apply zje); (focus wtm_at "?a"); (focus wtm_at "?i"))
 | ((with_reducible apply zjf); (focus wtm_at "?a"); (focus wtm_at "?i"))
 | ((with_reducible apply ev_eSl); (focus wtm_at "?a"); (focus wtm_at "?a"); (focus wtm_at "?a"); (focus wtm_at "?w")) | (with_reducible exact ev_pNone) | ((with_reducible apply ev_pSome); wtm_at "?a")
 | ((with_reducible apply zgv); (focus wtm_at "?n"); (focus rfl); (focus exact zs3 rfl); (focus simp only [zr8, ztJ, List.map_nil, zs6, Option.bind_none, List.getElem?_cons_zero, List.getElem?_cons_succ, Option.join_some]; rfl); (focus wtm_at "?r"))
 | ((with_reducible apply zcl); (focus wtm_at "?n"); (focus rfl); (focus wtm_at "?o"))
 | (with_reducible exact zb5)
 | exact rfl)
local macro_rules | `(tactic| wtm_at "?n") => `(tactic| first | ((with_reducible apply zgw); (focus wtm_at "?a"); (focus decide)) | ((with_reducible apply zky); wtm_at "?a") | ((with_reducible apply ev_iZip); (focus wtm_at "?a"); (focus exact ⟨zs3 rfl, zs3 rfl⟩); (focus rfl)) | ((with_reducible apply zaU); (focus wtm_at "?a"); (focus wtm_at "?e")))
local macro_rules | `(tactic| wtm_at "?r") => `(tactic| first | (apply zdc; (focus wtm_at "?s"); (focus wtm_at "?j"); (focus wtm_at "?a"); (focus wtm_at "?a"); (focus simp only [ztK, List.cons_append]; rfl); (focus wtm_at "?r")) | (apply zg3; rfl))
local macro_rules | `(tactic| wtm_at "?t") => `(tactic| first | (simp only [List.getElem?_cons_zero, List.getElem?_cons_succ]; done) | (simp only [List.getElem?_cons_zero, List.getElem?_cons_succ]; rfl) | rfl)
local macro_rules | `(tactic| wtm_at "?s") => `(tactic| first | ((with_reducible apply zgi); (focus decide); (focus first | (simp; rfl) | rfl)) | ((with_reducible apply zn1); wtm_at "?t") | ((with_reducible apply zaY); (focus wtm_at "?e"); (focus wtm_at "?t")) | rfl)
local macro_rules | `(tactic| wtm_at "?o") => `(tactic| first | (apply zax; (focus wtm_at "?s"); (focus wtm_at "?j"); (focus wtm_at "?a"); (focus wtm_at "?x")) | (apply zcv; rfl))
local macro_rules | `(tactic| wtm_at "?x") => `(tactic| first | (with_reducible first | exact ziX | exact forK_bk) | ((with_reducible apply zaz); wtm_at "?o") | ((with_reducible apply forK_ct); wtm_at "?o"))
local macro_rules | `(tactic| wtm_at "?w") => `(tactic| first | ((with_reducible apply ev_slT); (focus exact of_decide_eq_false rfl); (focus first | exact cut_tail | exact cut_head)) | ((with_reducible apply ev_slL); (focus wtm_at "?e"); (focus first | exact cut_tail | exact cut_head | rfl)))
local macro_rules | `(tactic| wtm_at "?m") => `(tactic| first | exact zaw | ((with_reducible apply zad); wtm_at "?a") | (with_reducible first | exact seqK_bk | exact seqK_ct))
local macro_rules | `(tactic| wtm_at "?b") => `(tactic| simp only [stD, ztJ, List.map_nil, ztg, ztt, Nat.reduceAdd, Nat.reduceSub, Nat.zero_add, Nat.sub_self, List.replicate, List.cons_append, ztK, List.append_nil])
local macro_rules | `(tactic| wtm_at "?c") => `(tactic| first | exact ztD | simp [List.take_append])
local macro_rules | `(tactic| wtm_at "?y") => `(tactic| first | assumption | (apply Gr.refl; wtm_at "?l") | ((with_reducible apply Gr.snoc); (focus wtm_at "?y"); (focus first | exact zgl _ _ | exact MX.P.lo_pts _ _ | rfl | assumption)))
section
namespace MX.P
open PySem L2 MX
theorem zeY (a b c d e f : Int) (S : So) : zae [P3 a b c, P3 d e f] S = some (P3 (d - a) (e - b) (f - c), S) := by
 refine zaf (σ' := [some (P3 a b c), some (P3 d e f)]) (S' := S) ?_ (by simp) rfl
 show zbD [some (P3 a b c), some (P3 d e f)] S = _
 unfold zbD
 wtm_at "?a"
theorem znm {k l : Nat} {a b c d e f : Int} (ha : Bd k a) (hb : Bd k b) (hc : Bd k c) (hd : Bd l d) (he : Bd l e) (hf : Bd l f) (hk : k + l <= 134217728) (S : So) : zaS [P3 a b c, P3 d e f] S = some (.int (a * d + b * e + c * f), S) := by
 refine zaf (σ' := [some (P3 a b c), some (P3 d e f)]) (S' := S) ?_ (by simp) rfl
 show zkJ [some (P3 a b c), some (P3 d e f)] S = _
 unfold zkJ
 wtm_at "?a"
theorem zjQ {k l : Nat} {a b c d e f : Int} (ha : Bd k a) (hb : Bd k b) (hc : Bd k c) (hd : Bd l d) (he : Bd l e) (hf : Bd l f) (hk : k + l <= 134217728) (S : So) : zaC [P3 a b c, P3 d e f] S = some (P3 (b * f - c * e) (c * d - a * f) (a * e - b * d), S) := by
 refine zaf (σ' := [some (P3 a b c), some (P3 d e f)]) (S' := S) ?_ (by simp) rfl
 show zfx [some (P3 a b c), some (P3 d e f)] S = _
 unfold zfx
 wtm_at "?a"
theorem sp_is_less {k l : Nat} {a b c d : Int} (ha : Bd k a) (hb : Bd k b) (hc : Bd l c) (hd : Bd l d) (hk : k + l <= 134217728) (S : So) : zeR [R2 a b, R2 c d] S = some (.bl (decide (a * d < c * b)), S) := by
 refine zaf (σ' := [some (R2 a b), some (R2 c d)]) (S' := S) ?_ (by simp) rfl
 show zdJ [some (R2 a b), some (R2 c d)] S = _
 unfold zdJ
 wtm_at "?a"
def zqQ (c k : Int) : Int := (((c * 6364136223846793005 + (k + 1) * 1442695040888963407).fmod 340282366920938463463374607431768211507) * ((c * 6364136223846793005 + (k + 1) * 1442695040888963407).fmod 340282366920938463463374607431768211507)).fmod 340282366920938463463374607431768211297
theorem zjs (c k : Int) : Bd 130 (zqQ c k) := (Bd.fmod (by decide)).le (by decide)
theorem sp_drawn (c k : Int) (S : So) : za0 [.int c, .int k] S = some (.int (zqQ c k), S) := by
 refine zaf (σ' := [some (.int c), some (.int k), some (.int ((c * 6364136223846793005 + (k + 1) * 1442695040888963407).fmod 340282366920938463463374607431768211507))]) (S' := S) ?_ (by simp) rfl
 show zb2 [some (.int c), some (.int k), none] S = _
 unfold zb2
 wtm_at "?a"
end MX.P
end
section
local macro_rules | `(tactic| wtm_at "?d") => `(tactic| exact MX.P.sp_drawn _ _ _)
namespace MX.P
open PySem L2 MX
def zqO (ns : List Int) (k : Int) : Int := if ns = [] then k * 7919 else (ns[(k.fmod ns.length).toNat]?.getD 0) + k.fdiv ns.length * 104729
theorem plnInts (k : Nat) (ns : List Int) : ∀ x ∈ ns.map D.int, pln k x = true := fun x hx => by
 obtain ⟨n, _, rfl⟩ := List.mem_map.mp hx
 cases k <;> rfl
theorem zez {ns : List Int} (hn : ns.length <= 63) (k : Int) {S : So} (h : S[0]? = some (.frz (ns.map .int))) : zaX [.ref 0, .int k] S = some (.int (zqO ns k), S) := by
 have e1 : tBl (eB (zpM .Eq) (zpA 0) (eN zqp (zpD))) [some (.ref 0), some (.int k)] S = some (decide (ns.map D.int = []), S ++ [.lst []]) := by
   apply zck
   apply zah
   . wtm_at "?a"
   . wtm_at "?a"
   . rw [zk0 0 (.inr (za4 h)) (.inl zay) (plnInts 0 ns) (by simp) (by decide)]
 by_cases hz : ns = []
 . apply zaf
   . wtm_at "?b"
     unfold zcE
     apply zac
     . apply zaJ
       . exact e1
       . apply zbd
         . simp [hz]
         . wtm_at "?a"
     . have : zqO ns k = k * 7919 := by unfold zqO; rw [if_pos hz]
       rw [this]
       wtm_at "?m"
   . simp
   . rfl
 . have hl : 0 < ns.length := List.length_pos_iff.mpr hz
   have hl' : (0 : Int) < ((ns.map D.int).length : Int) := by simp; omega
   have h1 := ztc k hl'
   have h2 := ztd k hl'
   have hb : Bd 7 ((ns.map D.int).length : Int) := by unfold Bd; simp; omega
   have e2 : atI (ns.map D.int) (k.fmod ((ns.map D.int).length : Int)) = some (.int (ns[(k.fmod ns.length).toNat]?.getD 0)) := by
     unfold atI ixN
     rw [if_pos h1, if_pos h2]
     simp only [zs7] at h2 h1 ⊢
     simp only [zs6, ztb]
     have : (k.fmod (ns.length : Int)).toNat < ns.length := by omega
     rw [zts this]
     rfl
   apply zaf
   . wtm_at "?b"
     unfold zcE
     apply zac
     . apply zaJ
       . exact e1
       . apply zaN
         . simp [hz]
         . wtm_at "?a"
     . apply zad
       apply zac
       . apply zaF
         apply zah
         . apply zah
           . wtm_at "?a"
           . apply zah
             . wtm_at "?a"
             . apply zat
               . wtm_at "?a"
               . exact zft (za4 h)
             . exact zbz (by omega)
           . exact zjc (za4 h) e2
         . apply zah
           . apply zah
             . wtm_at "?a"
             . apply zat
               . wtm_at "?a"
               . exact zft (za4 h)
             . exact zbI (zg8 hb (by omega) (by decide))
           . wtm_at "?a"
           . exact zfL (ziv (by decide))
         . exact zcF
       . have : zqO ns k = (ns[(k.fmod ns.length).toNat]?.getD 0) + k.fdiv ((ns.map D.int).length : Int) * 104729 := by unfold zqO; rw [if_neg hz, zs7]
         rw [this]
         exact zaw
   . simp
   . rfl
end MX.P
end
section
namespace MX.P
open PySem L2 MX
def co (k : Int) (p : Pt) : Int := if k = 0 then p.1 else if k = 1 then p.2.1 else p.2.2
theorem zfZ {k : Int} (h0 : 0 <= k) (h2 : k <= 2) (p : Pt) : atI [D.int p.1, .int p.2.1, .int p.2.2] k = some (.int (co k p)) := by
 have : k = 0 \/ k = 1 \/ k = 2 := by omega
 rcases this with rfl | rfl | rfl <;> rfl
end MX.P
local macro_rules | `(tactic| wtm_at "?d") => `(tactic| (apply MX.P.sp_numbers_at; (focus wtm_at "?l"); (focus wtm_at "?e"); (focus assumption); (focus decide); (focus decide)))
local macro_rules | `(tactic| wtm_at "?k") => `(tactic| first | ((with_reducible apply zgu); (focus wtm_at "?e"); (focus assumption)) | ((with_reducible apply zja); (focus wtm_at "?e"); (focus assumption)))
namespace MX.P
end MX.P
local macro_rules | `(tactic| wtm_at "?d") => `(tactic| exact MX.P.sp_are_in_order)
namespace MX.P
end MX.P
end
section
local macro_rules | `(tactic| wtm_at "?d") => `(tactic| (with_reducible assumption))
namespace MX.P
open PySem L2 MX
def zqw (a b : Int) : Int × Int := ((Rat.divInt a b).num, ((Rat.divInt a b).den : Int))
theorem zfl {a b : Int} (hb : 0 < b) : zqw a b = (a / ((Nat.gcd a.natAbs b.natAbs : Nat) : Int), b / ((Nat.gcd a.natAbs b.natAbs : Nat) : Int)) := by
 unfold zqw
 rw [Rat.num_divInt, Rat.den_divInt, if_neg (by omega), Int.sign_eq_one_of_pos hb, Int.one_mul, Int.gcd_eq_natAbs_gcd_natAbs, Nat.gcd_comm]
 congr 1
 have : (b.natAbs : Int) = b := by omega
 rw [Int.natCast_ediv, this]
theorem zmt {a b : Int} (hb : b ≠ 0) : 0 < Nat.gcd a.natAbs b.natAbs := Nat.gcd_pos_of_pos_right _ (by omega)
theorem zd5 (a b : Int) : 0 < (zqw a b).2 := by
 unfold zqw
 have := (Rat.divInt a b).den_pos
 simp only
 omega
theorem zhr {a b : Int} (hb : b ≠ 0) : (zqw a b).1 * b = a * (zqw a b).2 := by
 unfold zqw
 have h := (Rat.divInt a b).num_divInt_den
 have := (Rat.divInt_eq_divInt_iff (by have := (Rat.divInt a b).den_pos; omega) hb).mp h
 exact this
theorem zeH (a b : Int) : zqw (zqw a b).1 (zqw a b).2 = zqw a b := by
 unfold zqw
 simp only [Rat.num_divInt_den]
theorem zeI {a b : Int} (ha : 0 <= a) (hb : 0 < b) : 0 <= (zqw a b).1 := by
 rw [zfl hb]
 exact Int.ediv_nonneg ha (by omega)
theorem Bd.of_le {k : Nat} {x y : Int} (h : Bd k y) (hx : x.natAbs <= y.natAbs) : Bd k x := ztl hx h
theorem zlB {k : Nat} {a b : Int} (ha : Bd k a) (hb : Bd k b) (h : 0 < b) : Bd k (zqw a b).1 /\ Bd k (zqw a b).2 := by
 rw [zfl h]
 exact ⟨Bd.of_le ha (Int.natAbs_ediv_le_natAbs _ _), Bd.of_le hb (Int.natAbs_ediv_le_natAbs _ _)⟩
theorem zon {k : Nat} {a b : Int} (hb : Bd k b) (h : b ≠ 0) : Bd k ((Nat.gcd a.natAbs b.natAbs : Nat) : Int) := by
 refine Bd.of_le hb ?_
 show Nat.gcd a.natAbs b.natAbs <= b.natAbs
 exact Nat.le_of_dvd (by omega) (Nat.gcd_dvd_right _ _)
theorem zmW : ∀ (N : Nat) (m n : Nat) (r : Option D) (S : So), n <= N -> ∃ r', sWh (tBl (eB (zpM .NotEq) (zpA 1) (eC (.int 0)))) (zpH (zpL (eB (zpJ .Mod) (zpA 0) (zpA 1)) (gNm 2)) (zpH (zpL (zpA 1) (gNm 0)) (zpH (zpL (zpA 2) (gNm 1)) (zpE))))
   [some (.int (m : Nat)), some (.int (n : Nat)), r] S = some (.nx, [some (.int (Nat.gcd m n : Nat)), some (.int 0), r'], S)
 | N, m, 0, r, S, _ => by
   refine ⟨r, ?_⟩
   rw [Nat.gcd_zero_right]
   apply zlA
   apply zck
   apply zah
   . wtm_at "?a"
   . wtm_at "?a"
   . rfl
 | 0, _, n + 1, _, _, h => by omega
 | N + 1, m, n + 1, r, S, h => by
   obtain ⟨r', e⟩ := zmW N (n + 1) (m % (n + 1)) (some (.int ((m % (n + 1) : Nat) : Int))) S (by have := Nat.mod_lt m (show 0 < n + 1 by omega); omega)
   refine ⟨r', ?_⟩
   have hg : Nat.gcd m (n + 1) = Nat.gcd (n + 1) (m % (n + 1)) := by rw [Nat.gcd_comm m, Nat.gcd_rec, Nat.gcd_comm]
   rw [hg]
   have hm : ((m : Nat) : Int).fmod ((n + 1 : Nat) : Int) = ((m % (n + 1) : Nat) : Int) := by
     rw [Int.fmod_eq_emod_of_nonneg _ (by omega)]; rfl
   refine zj1 (σ1 := []) (fl := .nx) (S1 := S) (S2 := S) ?_ ?_ (.inl rfl) e
   . apply zck
     have : D.bl true = .bl (!decide (((n + 1 : Nat) : Int) = 0)) := by
       rw [zcI (by omega)]; rfl
     rw [this]
     apply zah
     . wtm_at "?a"
     . wtm_at "?a"
     . wtm_at "?g"
   . rw [<- hm]
     have h0 : ((n + 1 : Nat) : Int) ≠ 0 := by omega
     wtm_at "?a"
theorem zdR (m n : Nat) (S : So) : zaT [.int (m : Nat), .int (n : Nat)] S = some (.int (Nat.gcd m n : Nat), S) := by
 obtain ⟨r', e⟩ := zmW n m n none S (ztq _)
 apply zaf
 . wtm_at "?b"
   unfold zbx
   apply zac
   . exact e
   . apply zad
     apply zac
     . apply zaF
       apply zat
       . wtm_at "?a"
       . exact zji
     . have : (if ((Nat.gcd m n : Nat) : Int) < 0 then -((Nat.gcd m n : Nat) : Int) else ((Nat.gcd m n : Nat) : Int)) = ((Nat.gcd m n : Nat) : Int) := if_neg (by omega)
       rw [this]
       exact zaw
 . wtm_at "?c"
 . rfl
abbrev rD (p : Int × Int) : D := R2 p.1 p.2
theorem za2 {k : Nat} {a b : Int} (ha : 0 <= a) (hb : 0 < b) (hk : Bd k b) (h8 : k <= 8000) (S : So) : zaE [R2 a b] S = some (rD (zqw a b), S) := by
 have e : zaT [.int a, .int b] S = some (.int ((Nat.gcd a.natAbs b.natAbs : Nat) : Int), S) := by
   have := zdR a.natAbs b.natAbs S
   have h1 : (a.natAbs : Int) = a := by omega
   have h2 : (b.natAbs : Int) = b := by omega
   rw [h1, h2] at this
   exact this
 have hg := zmt (a := a) (show b ≠ 0 by omega)
 have hd : divOk ((Nat.gcd a.natAbs b.natAbs : Nat) : Int) = true := zg8 (zon hk (by omega)) (by omega) h8
 apply zaf
 . wtm_at "?b"
   unfold zb7
   rw [zfl hb]
   rw [<- Int.fdiv_eq_ediv_of_nonneg a (show (0 : Int) <= ((Nat.gcd a.natAbs b.natAbs : Nat) : Int) by omega), <- Int.fdiv_eq_ediv_of_nonneg b (show (0 : Int) <= ((Nat.gcd a.natAbs b.natAbs : Nat) : Int) by omega)]
   wtm_at "?a"
 . wtm_at "?c"
 . rfl
end MX.P
end
section
local macro_rules | `(tactic| wtm_at "?d") => `(tactic| first | (with_reducible assumption) | ((with_reducible apply MX.P.sp_is_less); (focus with_reducible assumption); (focus with_reducible assumption); (focus with_reducible assumption); (focus with_reducible assumption); (focus omega)))
namespace MX.P
open PySem L2 MX
def zre (a b : Int × Int) : Prop := a.1 * b.2 < b.1 * a.2
instance (a b : Int × Int) : Decidable (zre a b) := by unfold zre; infer_instance
end MX.P
end
section
local macro_rules | `(tactic| wtm_at "?d") => `(tactic| first | (with_reducible assumption) | ((with_reducible apply MX.P.sp_is_less); (focus with_reducible assumption); (focus with_reducible assumption); (focus with_reducible assumption); (focus with_reducible assumption); (focus omega)))
namespace MX.P
open PySem L2 MX
def BdP (k : Nat) (p : Pt) : Prop := Bd k p.1 /\ Bd k p.2.1 /\ Bd k p.2.2
theorem BdP.le {k l : Nat} {p : Pt} (h : BdP k p) (hl : k <= l) : BdP l p := ⟨h.1.le hl, h.2.1.le hl, h.2.2.le hl⟩
end MX.P
end
section
local macro_rules | `(tactic| wtm_at "?d") => `(tactic| (with_reducible assumption))
namespace MX.P
open PySem L2 MX
def leQ (a b : Int × Int) : Prop := a.1 * b.2 <= b.1 * a.2
end MX.P
end
section
namespace MX.P
open PySem L2 MX
end MX.P
local macro_rules | `(tactic| wtm_at "?d") => `(tactic| first | (with_reducible first | exact MX.P.sp_drawn _ _ _ | exact MX.P.sp_pt _ _ _) | (with_reducible assumption))
namespace MX.P
open PySem L2 MX
theorem zoG {k : Nat} {p : Pt} (h : BdP k p) (j : Int) : Bd k (co j p) := by unfold co; split; exact h.1; split; exact h.2.1; exact h.2.2
end MX.P
local macro_rules | `(tactic| wtm_at "?d") => `(tactic| ((with_reducible apply MX.P.sp_near); (focus assumption); (focus assumption); (focus decide); (focus decide)))
namespace MX.P
end MX.P
end
section
namespace MX.P
open PySem L2 MX
def wb (a b : Pt) : Pt := (b.1 - a.1, b.2.1 - a.2.1, b.2.2 - a.2.2)
def zpC (a b : Pt) : Int := a.1 * b.1 + a.2.1 * b.2.1 + a.2.2 * b.2.2
def zpy (a b : Pt) : Pt := (a.2.1 * b.2.2 - a.2.2 * b.2.1, a.2.2 * b.1 - a.1 * b.2.2, a.1 * b.2.1 - a.2.1 * b.1)
theorem BdP.wb {k l : Nat} {a b : Pt} (ha : BdP k a) (hb : BdP l b) : BdP (max k l + 1) (wb a b) :=
 ⟨(hb.1.sub ha.1).le (by omega), (hb.2.1.sub ha.2.1).le (by omega), (hb.2.2.sub ha.2.2).le (by omega)⟩
theorem BdP.cross {k l : Nat} {a b : Pt} (ha : BdP k a) (hb : BdP l b) : BdP (k + l + 1) (zpy a b) :=
 ⟨((ha.2.1.mul hb.2.2).sub (ha.2.2.mul hb.2.1)).le (by omega), ((ha.2.2.mul hb.1).sub (ha.1.mul hb.2.2)).le (by omega), ((ha.1.mul hb.2.1).sub (ha.2.1.mul hb.1)).le (by omega)⟩
theorem BdP.dot {k l : Nat} {a b : Pt} (ha : BdP k a) (hb : BdP l b) : Bd (k + l + 2) (zpC a b) :=
 (((ha.1.mul hb.1).add (ha.2.1.mul hb.2.1)).add (ha.2.2.mul hb.2.2)).le (by omega)
theorem sp_wb (a b : Pt) (S : So) : zae [pD a, pD b] S = some (pD (wb a b), S) := zeY _ _ _ _ _ _ _
theorem sp_vdot {k l : Nat} {a b : Pt} (ha : BdP k a) (hb : BdP l b) (h : k + l <= 134217728) (S : So) : zaS [pD a, pD b] S = some (.int (zpC a b), S) := znm ha.1 ha.2.1 ha.2.2 hb.1 hb.2.1 hb.2.2 h S
theorem sp_vcross {k l : Nat} {a b : Pt} (ha : BdP k a) (hb : BdP l b) (h : k + l <= 134217728) (S : So) : zaC [pD a, pD b] S = some (pD (zpy a b), S) := zjQ ha.1 ha.2.1 ha.2.2 hb.1 hb.2.1 hb.2.2 h S
theorem zpe {a b : Pt} : pD a = pD b ↔ a = b := by
 constructor
 . intro h
   simp only [D.tup.injEq, List.cons.injEq, D.int.injEq, and_true] at h
   exact Prod.ext h.1 (Prod.ext h.2.1 h.2.2)
 . intro h; rw [h]
theorem zdT {a : Pt} : pD a = P3 0 0 0 ↔ a = (0, 0, 0) := zpe (b := (0, 0, 0))
def zq3 (a b : Int) : Int := if b > a then b else a
def zrX (a b : Int) : Int := if b < a then b else a
abbrev Tq := Option (Int × Int)
def tqD : Tq -> D
 | none => .non
 | some p => rD (zqw p.1 p.2)
def zqS (o d a b : Pt) : Tq :=
 if zpy (wb o a) d = (0, 0, 0) then
   if zq3 (zpC (wb o a) d) (zpC (wb o b) d) < 0 then none else some (zq3 (zrX (zpC (wb o a) d) (zpC (wb o b) d)) 0, zpC d d)
 else none
def zrD (o d a b : Pt) : Tq :=
 if zpy d (wb a b) = (0, 0, 0) then zqS o d a b
 else if zpC (wb o a) (zpy d (wb a b)) = 0 then
   if zpC (zpy (wb o a) (wb a b)) (zpy d (wb a b)) < 0 \/ zpC (zpy (wb o a) d) (zpy d (wb a b)) < 0 \/ zpC (zpy d (wb a b)) (zpy d (wb a b)) < zpC (zpy (wb o a) d) (zpy d (wb a b)) then none
   else some (zpC (zpy (wb o a) (wb a b)) (zpy d (wb a b)), zpC (zpy d (wb a b)) (zpy d (wb a b)))
 else none
theorem zdA (x : Int) : 0 <= x * x := by
 by_cases h : 0 <= x
 . exact Int.mul_nonneg h h
 . have := Int.mul_nonneg (show 0 <= -x by omega) (show 0 <= -x by omega)
   rwa [Int.neg_mul_neg] at this
theorem zhZ {x : Int} (h : x ≠ 0) : 0 < x * x := by
 have h1 := zdA x
 have : x * x ≠ 0 := fun e => by rcases Int.mul_eq_zero.mp e with e | e <;> exact h e
 omega
theorem zaH {a : Pt} (h : a ≠ (0, 0, 0)) : 0 < zpC a a := by
 unfold zpC
 have h1 := zdA a.1
 have h2 := zdA a.2.1
 have h3 := zdA a.2.2
 by_cases q1 : a.1 = 0
 . by_cases q2 : a.2.1 = 0
   . have q3 : a.2.2 ≠ 0 := fun q3 => h (by show (a.1, a.2.1, a.2.2) = _; rw [q1, q2, q3])
     have := zhZ q3
     omega
   . have := zhZ q2
     omega
 . have := zhZ q1
   omega
end MX.P
local macro_rules | `(tactic| wtm_at "?d") => `(tactic| first | (with_reducible exact MX.P.sp_wb _ _ _) | ((with_reducible apply MX.P.sp_vdot); (focus with_reducible assumption); (focus with_reducible assumption); (focus omega)) | ((with_reducible apply MX.P.sp_vcross); (focus with_reducible assumption); (focus with_reducible assumption); (focus omega)) | (with_reducible assumption))
namespace MX.P
open PySem L2 MX
theorem zeZ {k : Nat} {o d a b : Pt} (ho : BdP k o) (hd : BdP k d) (ha : BdP k a) (hb : BdP k b) (h0 : d ≠ (0, 0, 0)) (hk : k <= 1500) (S : So) :
   zcq [.tup [pD o, pD d], pD a, pD b] S = some (tqD (zqS o d a b), S) := by
 have w1 := (ho.wb ha).le (show max k k + 1 <= k + 1 by omega)
 have w2 := (ho.wb hb).le (show max k k + 1 <= k + 1 by omega)
 have hdd := hd.dot hd
 have hpos := zaH h0
 unfold zqS
 by_cases hc : zpy (wb o a) d = (0, 0, 0)
 . rw [if_pos hc]
   have hc' : pD (zpy (wb o a) d) = P3 0 0 0 := zdT.mpr hc
   by_cases hm : zq3 (zpC (wb o a) d) (zpC (wb o b) d) < 0
   . rw [if_pos hm]
     unfold zq3 at hm
     apply zaf
     . wtm_at "?b"
       unfold za9
       wtm_at "?a"
     . wtm_at "?c"
     . rfl
   . rw [if_neg hm]
     have hnn : 0 <= zq3 (zrX (zpC (wb o a) d) (zpC (wb o b) d)) 0 := by unfold zq3; split <;> omega
     have hl := za2 hnn hpos hdd (show k + k + 2 <= 8000 by omega) S
     unfold zq3 zrX at hl
     unfold zq3 at hm
     apply zaf
     . wtm_at "?b"
       unfold za9
       wtm_at "?a"
     . wtm_at "?c"
     . rfl
 . rw [if_neg hc]
   have hc' : ¬ pD (zpy (wb o a) d) = P3 0 0 0 := fun e => hc (zdT.mp e)
   apply zaf
   . wtm_at "?b"
     unfold za9
     wtm_at "?a"
   . wtm_at "?c"
   . rfl
end MX.P
end
section
local macro_rules | `(tactic| wtm_at "?d") => `(tactic| first | (with_reducible exact MX.P.sp_wb _ _ _) | ((with_reducible apply MX.P.sp_vdot); (focus with_reducible assumption); (focus with_reducible assumption); (focus omega)) | ((with_reducible apply MX.P.sp_vcross); (focus with_reducible assumption); (focus with_reducible assumption); (focus omega)) | (with_reducible assumption))
namespace MX.P
open PySem L2 MX
theorem zei {k : Nat} {o d a b : Pt} (ho : BdP k o) (hd : BdP k d) (ha : BdP k a) (hb : BdP k b) (h0 : d ≠ (0, 0, 0)) (hk : k <= 1500) (S : So) :
   zbH [.tup [pD o, pD d], pD a, pD b] S = some (tqD (zrD o d a b), S) := by
 have w1 := (ho.wb ha).le (show max k k + 1 <= k + 1 by omega)
 have w2 := (ha.wb hb).le (show max k k + 1 <= k + 1 by omega)
 have w3 := hd.cross w2
 have w4 := w1.cross w2
 have w5 := w1.cross hd
 have hdd := w3.dot w3
 have hal := zeZ ho hd ha hb h0 hk S
 unfold zrD
 by_cases hc : zpy d (wb a b) = (0, 0, 0)
 . rw [if_pos hc]
   have hc' : pD (zpy d (wb a b)) = P3 0 0 0 := zdT.mpr hc
   apply zaf
   . wtm_at "?b"
     unfold zaB
     wtm_at "?a"
   . wtm_at "?c"
   . cases zqS o d a b <;> rfl
 . rw [if_neg hc]
   have hpos := zaH hc
   have hc' : ¬ pD (zpy d (wb a b)) = P3 0 0 0 := fun e => hc (zdT.mp e)
   by_cases hq : zpC (wb o a) (zpy d (wb a b)) = 0
   . rw [if_pos hq]
     by_cases p1 : zpC (zpy (wb o a) (wb a b)) (zpy d (wb a b)) < 0
     . rw [if_pos (.inl p1)]
       apply zaf
       . wtm_at "?b"
         unfold zaB
         wtm_at "?a"
       . wtm_at "?c"
       . rfl
     . by_cases p2 : zpC (zpy (wb o a) d) (zpy d (wb a b)) < 0
       . rw [if_pos (.inr (.inl p2))]
         apply zaf
         . wtm_at "?b"
           unfold zaB
           wtm_at "?a"
         . wtm_at "?c"
         . rfl
       . by_cases p3 : zpC (zpy d (wb a b)) (zpy d (wb a b)) < zpC (zpy (wb o a) d) (zpy d (wb a b))
         . rw [if_pos (.inr (.inr p3))]
           apply zaf
           . wtm_at "?b"
             unfold zaB
             wtm_at "?a"
           . wtm_at "?c"
           . rfl
         . rw [if_neg (by rintro (q | q | q); exact p1 q; exact p2 q; exact p3 q)]
           have hl := za2 (show 0 <= zpC (zpy (wb o a) (wb a b)) (zpy d (wb a b)) by omega) hpos hdd (show k + (k + 1) + 1 + (k + (k + 1) + 1) + 2 <= 8000 by omega) S
           apply zaf
           . wtm_at "?b"
             unfold zaB
             wtm_at "?a"
           . wtm_at "?c"
           . rfl
   . rw [if_neg hq]
     apply zaf
     . wtm_at "?b"
       unfold zaB
       wtm_at "?a"
     . wtm_at "?c"
     . rfl
def tqB (k : Nat) (t : Tq) : Prop := ∀ p, t = some p -> 0 <= p.1 /\ 0 < p.2 /\ Bd k p.1 /\ Bd k p.2
theorem zgb {k : Nat} {o d a b : Pt} (ho : BdP k o) (hd : BdP k d) (ha : BdP k a) (hb : BdP k b) (h0 : d ≠ (0, 0, 0)) : tqB (4 * k + 10) (zrD o d a b) := by
 have w1 := (ho.wb ha).le (show max k k + 1 <= k + 1 by omega)
 have w0 := (ho.wb hb).le (show max k k + 1 <= k + 1 by omega)
 have w2 := (ha.wb hb).le (show max k k + 1 <= k + 1 by omega)
 have w3 := hd.cross w2
 have w4 := w1.cross w2
 have hdd := w3.dot w3
 have h1 := zaH h0
 intro p hp
 unfold zrD at hp
 split at hp
 . unfold zqS at hp
   split at hp
   . split at hp
     . cases hp
     . cases hp
       have a1 := w1.dot hd
       have a2 := w0.dot hd
       refine ⟨?_, h1, ?_, (hd.dot hd).le (by omega)⟩
       . simp only; unfold zq3; split <;> omega
       . simp only
         have hz : Bd (4 * k + 10) 0 := (Bd.lit 0).le (Nat.zero_le _)
         have e1 := a1.le (show k + 1 + k + 2 <= 4 * k + 10 by omega)
         have e2 := a2.le (show k + 1 + k + 2 <= 4 * k + 10 by omega)
         unfold zq3 zrX
         split <;> split <;> assumption
   . cases hp
 . rename_i hc
   have hpos := zaH hc
   split at hp
   . split at hp
     . cases hp
     . rename_i hn
       cases hp
       refine ⟨?_, hpos, (w4.dot w3).le (by omega), hdd.le (by omega)⟩
       simp only
       exact Int.not_lt.mp fun q => hn (.inl q)
   . cases hp
def zrW (t : Tq) : Tq := t.map fun p => zqw p.1 p.2
def tD (t : Tq) : D := match t with
 | none => .non
 | some p => rD p
theorem zm8 (t : Tq) : tqD t = tD (zrW t) := by cases t <;> rfl
def pick (best new : Tq) : Tq := match new with
 | none => best
 | some t => match best with
   | none => some t
   | some b => if zre t b then some t else some b
def zqk (o d a b c : Pt) : Tq := pick (pick (pick none (zrW (zrD o d a b))) (zrW (zrD o d b c))) (zrW (zrD o d c a))
theorem zge {k : Nat} {t : Tq} (h : tqB k t) : tqB k (zrW t) := fun p hp => by
 unfold zrW at hp
 cases t with
 | none => cases hp
 | some q =>
   cases hp
   obtain ⟨h1, h2, h3, h4⟩ := h q rfl
   obtain ⟨b1, b2⟩ := zlB h3 h4 h2
   exact ⟨zeI h1 h2, zd5 _ _, b1, b2⟩
theorem zig {k : Nat} {s t : Tq} (h : tqB k s) (g : tqB k t) : tqB k (pick s t) := by
 unfold pick
 split
 . exact h
 . split
   . exact g
   . split
     . exact g
     . exact h
abbrev eL (a b c : Pt) : O := .lst [.tup [pD a, pD b], .tup [pD b, pD c], .tup [pD c, pD a]]
theorem zbv {n : Nat} {xs : List D} {S : So} (h : S[n]? = some (.lst xs)) : zsO (.lst n) S = some xs.length := by
 show (match S[n]? with | some (.lst xs) => some xs.length | some (.frz xs) => some xs.length | _ => none) = _
 rw [h]
theorem zdk {n i : Nat} {xs : List D} {S : So} (h : S[n]? = some (.lst xs)) (hi : xs[i]? = none) : nxD (.lst n) i S = some none := by unfold nxD; simp only; rw [h]; simp only; rw [hi]
theorem zex {a b c : Pt} {S : So} (hS : WF S) : zaM [.tup [pD a, pD b, pD c]] S = some (.ref S.length, S ++ [eL a b c]) := by
 apply zdZ
 . wtm_at "?b"
   unfold zc9
   wtm_at "?a"
 . intro h; simp [D.lo] at h
 . simp
 . simp [D.lo]
 . exact hS.snoc rfl
theorem zd4 {a b c : Pt} {n : Nat} {S : So} (hS : WF S) (hn : S[n]? = some (.lst [pD a, pD b, pD c])) : zaM [.ref n] S = some (.ref S.length, S ++ [eL a b c]) := by
 apply zdZ
 . wtm_at "?b"
   unfold zc9
   wtm_at "?a"
 . intro h; simp [D.lo] at h
 . simp
 . simp [D.lo]
 . exact hS.snoc rfl
theorem zeU {k : Nat} {o d p q : Pt} {tr : D} {best : Tq} {x5 : Option D} (ho : BdP k o) (hd : BdP k d) (hp : BdP k p) (hq : BdP k q) (h0 : d ≠ (0, 0, 0)) (hk : k <= 1500)
   (hb : tqB (4 * k + 10) best) (S : So) :
   ∃ y, zbw [some (.tup [pD o, pD d]), some tr, some (tD best), some (pD p), some (pD q), x5] S = some (.nx, [some (.tup [pD o, pD d]), some tr, some (tD (pick best (zrW (zrD o d p q)))), some (pD p), some (pD q), y], S) := by
 have hs := zei ho hd hp hq h0 hk S
 rw [zm8] at hs
 have hb' := zge (zgb ho hd hp hq h0)
 generalize zrW (zrD o d p q) = t at *
 have s1 : za8 [some (.tup [pD o, pD d]), some tr, some (tD best), some (pD p), some (pD q), x5] S = some (.nx, [some (.tup [pD o, pD d]), some tr, some (tD best), some (pD p), some (pD q), some (tD t)], S) := by
   unfold za8
   wtm_at "?a"
 refine ⟨some (tD t), ?_⟩
 unfold zbw
 refine zac s1 (zad (zac ?_ (zad zap)))
 unfold pick
 cases t with
 | none =>
   show zar [some (.tup [pD o, pD d]), some tr, some (tD best), some (pD p), some (pD q), some .non] S = some (_, [some (.tup [pD o, pD d]), some tr, some (tD best), some (pD p), some (pD q), some .non], _)
   unfold zar
   wtm_at "?a"
 | some t =>
   obtain ⟨t1, t2⟩ := t
   obtain ⟨_, _, b1, b2⟩ := hb' _ rfl
   cases best with
   | none =>
     show zar [some (.tup [pD o, pD d]), some tr, some .non, some (pD p), some (pD q), some (R2 t1 t2)] S = some (_, [some (.tup [pD o, pD d]), some tr, some (R2 t1 t2), some (pD p), some (pD q), some (R2 t1 t2)], _)
     unfold zar
     wtm_at "?a"
   | some m =>
     obtain ⟨m1, m2⟩ := m
     obtain ⟨_, _, c1, c2⟩ := hb _ rfl
     have hless := sp_is_less b1 b2 c1 c2 (show 4 * k + 10 + (4 * k + 10) <= 134217728 by omega) S
     simp only at hless
     by_cases hc : t1 * m2 < m1 * t2
     . simp only
       rw [if_pos (show zre (t1, t2) (m1, m2) from hc)]
       show zar [some (.tup [pD o, pD d]), some tr, some (R2 m1 m2), some (pD p), some (pD q), some (R2 t1 t2)] S = some (_, [some (.tup [pD o, pD d]), some tr, some (R2 t1 t2), some (pD p), some (pD q), some (R2 t1 t2)], _)
       unfold zar
       wtm_at "?a"
     . simp only
       rw [if_neg (show ¬ zre (t1, t2) (m1, m2) from hc)]
       show zar [some (.tup [pD o, pD d]), some tr, some (R2 m1 m2), some (pD p), some (pD q), some (R2 t1 t2)] S = some (_, [some (.tup [pD o, pD d]), some tr, some (R2 m1 m2), some (pD p), some (pD q), some (R2 t1 t2)], _)
       unfold zar
       wtm_at "?a"
end MX.P
end
section
local macro_rules | `(tactic| wtm_at "?d") => `(tactic| (with_reducible assumption))
namespace MX.P
open PySem L2 MX
def zrg (s w lo hi : Int) (t : Int × Int) : Prop := lo * t.2 <= s * t.2 + w * t.1 /\ s * t.2 + w * t.1 <= hi * t.2
def inB (o d lo hi : Pt) (t : Int × Int) : Prop := zrg o.1 d.1 lo.1 hi.1 t /\ zrg o.2.1 d.2.1 lo.2.1 hi.2.1 t /\ zrg o.2.2 d.2.2 lo.2.2 hi.2.2 t
instance (s w lo hi : Int) (t : Int × Int) : Decidable (zrg s w lo hi t) := by unfold zrg; infer_instance
instance (o d lo hi : Pt) (t : Int × Int) : Decidable (inB o d lo hi t) := by unfold inB; infer_instance
end MX.P
end
section
local macro_rules | `(tactic| wtm_at "?d") => `(tactic| (with_reducible assumption))
namespace MX.P
open PySem L2 MX
theorem zf9 {S : So} {o o' : O} : (S ++ [o]).set S.length o' = S ++ [o'] := by
 rw [List.set_append_right _ _ (ztq _)]
 simp
end MX.P
end
section
namespace MX.P
open PySem L2 MX
theorem zog : zsG "int" "int" = some true := by kernel_rfl
theorem zoh : zsG "int" "bool" = some false := by kernel_rfl
theorem ev_isi_int {i : Int} {S : So} : zsK [.int i, .ty "int"] S = some (.bl true, S) := by
 show ((some "int").bind fun t => (zsG t "int").map fun b => (D.bl b, S)) = _
 simp only [zs6, zog, ztv]
theorem ev_isi_bool {i : Int} {S : So} : zsK [.int i, .ty "bool"] S = some (.bl false, S) := by
 show ((some "int").bind fun t => (zsG t "bool").map fun b => (D.bl b, S)) = _
 simp only [zs6, zoh, ztv]
end MX.P
local macro_rules | `(tactic| wtm_at "?d") => `(tactic| (with_reducible assumption))
local macro_rules | `(tactic| wtm_at "?k") => `(tactic| first | (with_reducible first | exact MX.P.ev_isi_tup | exact MX.P.ev_isi_int | exact MX.P.ev_isi_bool))
namespace MX.P
theorem zjO (i : Int) (S : So) : zcN [.int i] S = some (.bl true, S) := by
 apply zaf
 . wtm_at "?b"
   unfold zcY
   wtm_at "?a"
 . wtm_at "?c"
 . rfl
end MX.P
end
section
local macro_rules | `(tactic| wtm_at "?d") => `(tactic| first | (with_reducible exact MX.P.sp_wb _ _ _) | ((with_reducible apply MX.P.sp_vdot); (focus with_reducible assumption); (focus with_reducible assumption); (focus omega)) | ((with_reducible apply MX.P.sp_vcross); (focus with_reducible assumption); (focus with_reducible assumption); (focus omega)) | (with_reducible assumption))
namespace MX.P
open PySem L2 MX
theorem zdb {k : Nat} {o d a b c : Pt} (ho : BdP k o) (hd : BdP k d) (ha : BdP k a) (hb : BdP k b) (hc : BdP k c) (h0 : d ≠ (0, 0, 0)) (hk : k <= 1500) (S : So) (hS : WF S) :
   zaO [.tup [pD o, pD d], .tup [pD a, pD b, pD c]] S = some (tD (zqk o d a b c), S) := by
 have n0 : tqB (4 * k + 10) none := fun p hp => by cases hp
 have n1 := zig n0 (zge (zgb ho hd ha hb h0))
 have n2 := zig n1 (zge (zgb ho hd hb hc h0))
 obtain ⟨y1, e1⟩ := zeU (tr := .tup [pD a, pD b, pD c]) (x5 := none) ho hd ha hb h0 hk n0 (S ++ [eL a b c])
 obtain ⟨y2, e2⟩ := zeU (tr := .tup [pD a, pD b, pD c]) (x5 := y1) ho hd hb hc h0 hk n1 (S ++ [eL a b c])
 obtain ⟨y3, e3⟩ := zeU (tr := .tup [pD a, pD b, pD c]) (x5 := y2) ho hd hc ha h0 hk n2 (S ++ [eL a b c])
 have hz : D.lo S.length (tD (zqk o d a b c)) = true := by cases zqk o d a b c <;> rfl
 have hn : (S ++ [eL a b c])[S.length]? = some (eL a b c) := zay
 have ed := zex (a := a) (b := b) (c := c) hS
 have it : zqc (eN (zpG 1 zaM) (zpz (zpA 1) (zpD))) [some (.tup [pD o, pD d]), some (.tup [pD a, pD b, pD c]), some .non, none, none, none] S = some (.lst S.length, S ++ [eL a b c]) := by
   wtm_at "?n"
 have s2 : zbK [some (.tup [pD o, pD d]), some (.tup [pD a, pD b, pD c]), some .non, none, none, none] S = some (.nx, [some (.tup [pD o, pD d]), some (.tup [pD a, pD b, pD c]), some (tD (zqk o d a b c)), some (pD c), some (pD a), y3], S ++ [eL a b c]) := by
   unfold zbK
   refine zcl it (n := 3) (zbv hn) ?_
   exact zax (d := .tup [pD a, pD b]) (zaY hn rfl) rfl e1 (zaz (zax (d := .tup [pD b, pD c]) (zaY hn rfl) rfl e2 (zaz (zax (d := .tup [pD c, pD a]) (zaY hn rfl) rfl e3 (zaz (zcv (zdk hn rfl)))))))
 refine zaf (σ' := [some (.tup [pD o, pD d]), some (.tup [pD a, pD b, pD c]), some (tD (zqk o d a b c)), some (pD c), some (pD a), y3]) (S' := S ++ [eL a b c]) ?_ (by simp) hz
 wtm_at "?b"
 unfold zcx zcT zcS
 exact zac (zai zao rfl) (zad (zac s2 (zad (zac (zaF (zaa rfl)) zaw))))
def zpK (o w p q : Pt) : Int := zpC w (zpy (wb o p) (wb o q))
def goesM (o w a b c : Pt) : Bool := (decide (0 <= zpK o w a b) && decide (0 <= zpK o w b c) && decide (0 <= zpK o w c a)) || (decide (zpK o w a b <= 0) && decide (zpK o w b c <= 0) && decide (zpK o w c a <= 0))
theorem zcK {k l : Nat} {o w a b c : Pt} (ho : BdP k o) (hw : BdP l w) (ha : BdP k a) (hb : BdP k b) (hc : BdP k c) (hk : k <= 10000) (hl : l <= 30000) (S : So) (hS : WF S) :
   zau [pD o, pD w, .tup [pD a, pD b, pD c]] S = some (.bl (goesM o w a b c), S) := by
 have w1 := (ho.wb ha).le (show max k k + 1 <= k + 1 by omega)
 have w2 := (ho.wb hb).le (show max k k + 1 <= k + 1 by omega)
 have w3 := (ho.wb hc).le (show max k k + 1 <= k + 1 by omega)
 have c1 := w1.cross w2
 have c2 := w2.cross w3
 have c3 := w3.cross w1
 have em : zso [zpK o w a b, zpK o w b c, zpK o w c a] = some (if zpK o w c a < (if zpK o w b c < zpK o w a b then zpK o w b c else zpK o w a b) then zpK o w c a else (if zpK o w b c < zpK o w a b then zpK o w b c else zpK o w a b)) := rfl
 have eM : zsp [zpK o w a b, zpK o w b c, zpK o w c a] = some (if zpK o w c a > (if zpK o w b c > zpK o w a b then zpK o w b c else zpK o w a b) then zpK o w c a else (if zpK o w b c > zpK o w a b then zpK o w b c else zpK o w a b)) := rfl
 generalize hx : (if zpK o w c a < (if zpK o w b c < zpK o w a b then zpK o w b c else zpK o w a b) then zpK o w c a else (if zpK o w b c < zpK o w a b then zpK o w b c else zpK o w a b)) = x at em
 generalize hy : (if zpK o w c a > (if zpK o w b c > zpK o w a b then zpK o w b c else zpK o w a b) then zpK o w c a else (if zpK o w b c > zpK o w a b then zpK o w b c else zpK o w a b)) = y at eM
 have e1 : goesM o w a b c = (decide (0 <= x) || decide (y <= 0)) := by
   unfold goesM
   rw [Bool.eq_iff_iff]
   simp only [ztw, zs5, ztG]
   subst hx hy
   split <;> split <;> split <;> split <;> omega
 unfold zpK at em eM
 have gone : ∃ S1, eLc (zqc (zpA 2)) (gNm 0) (zqB) (eN (zpG 2 zae) (zpz (zpA 1) (zpz (zpA 0) (zpD)))) [none, some 0] [some (pD o), some (pD w), some (.tup [pD a, pD b, pD c]), none, none] S = some (.ref S.length, S1) /\ S1 = S ++ [.lst [pD (wb o a), pD (wb o b), pD (wb o c)]] := by
   refine ⟨_, ?_, rfl⟩
   wtm_at "?a"
 obtain ⟨S1, g1, g2⟩ := gone
 have hS1 : S1[S.length]? = some (.lst [pD (wb o a), pD (wb o b), pD (wb o c)]) := by rw [g2]; exact zay
 have hW1 : WF S1 := by rw [g2]; exact hS.snoc rfl
 have ed := zd4 hW1 hS1
 have hn2 : (S1 ++ [eL (wb o a) (wb o b) (wb o c)])[S1.length]? = some (eL (wb o a) (wb o b) (wb o c)) := zay
 have sides : eLc (zqc (eN (zpG 1 zaM) (zpz (zpA 3) (zpD)))) (gTp 2 (zpI (gNm 0) (zpI (gNm 1) (zp3)))) (zqB) (eN (zpG 2 zaS) (zpz (zpA 2) (zpz (eN (zpG 2 zaC) (zpz (zpA 0) (zpz (zpA 1) (zpD)))) (zpD)))) [none, none, some 1]
     [some (pD o), some (pD w), some (.tup [pD a, pD b, pD c]), some (.ref S.length), none] S1 = some (.ref (S1 ++ [eL (wb o a) (wb o b) (wb o c)]).length, S1 ++ [eL (wb o a) (wb o b) (wb o c)] ++ [.lst ([zpC w (zpy (wb o a) (wb o b)), zpC w (zpy (wb o b) (wb o c)), zpC w (zpy (wb o c) (wb o a))].map D.int)]) := by
   refine zgv (j := .lst S1.length) (n := 3) (S1 := S1 ++ [eL (wb o a) (wb o b) (wb o c)]) ?_ (zbv hn2) (zs3 rfl) rfl ?_
   . exact zaU (zat (zab (zaa rfl) zag) (zaj rfl ed)) hn2
   . have one : ∀ (x y : Pt), BdP (k + 1) x -> BdP (k + 1) y -> eN (zpG 2 zaS) (zpz (zpA 2) (zpz (eN (zpG 2 zaC) (zpz (zpA 0) (zpz (zpA 1) (zpD)))) (zpD))) [some (pD x), some (pD y), some (pD w)] (S1 ++ [eL (wb o a) (wb o b) (wb o c)]) = some (.int (zpC w (zpy x y)), S1 ++ [eL (wb o a) (wb o b) (wb o c)]) := fun x y hx hy => by
       have hxy := hx.cross hy
       wtm_at "?a"
     refine zdc (zaY hn2 rfl) rfl zb5 (one _ _ w1 w2) rfl ?_
     refine zdc (zaY hn2 rfl) rfl zb5 (one _ _ w2 w3) rfl ?_
     refine zdc (zaY hn2 rfl) rfl zb5 (one _ _ w3 w1) rfl ?_
     exact zg3 (zdk hn2 rfl)
 rw [e1]
 have htake : ∀ o1 o2 : O, (S1 ++ [o1] ++ [o2]).take S.length = S := fun o1 o2 => by rw [g2]; simp
 by_cases hxx : 0 <= x
 . rw [zb6 hxx, Bool.true_or]
   apply zaf
   . wtm_at "?b"
     unfold zbs
     apply zac
     . exact zai g1 rfl
     . apply zad
       apply zac
       . exact zai sides rfl
       . apply zad
         apply zac
         . apply zaF
           apply zje
           . apply zah
             . apply zat
               . wtm_at "?a"
               . exact zgu zay em
             . wtm_at "?a"
             . wtm_at "?g"
           . apply zbd
             . exact zb6 hxx
             . rfl
         . exact zaw
   . exact htake _ _
   . rfl
 . rw [zcI hxx, Bool.false_or]
   apply zaf
   . wtm_at "?b"
     unfold zbs
     apply zac
     . exact zai g1 rfl
     . apply zad
       apply zac
       . exact zai sides rfl
       . apply zad
         apply zac
         . apply zaF
           apply zje
           . apply zah
             . apply zat
               . wtm_at "?a"
               . exact zgu zay em
             . wtm_at "?a"
             . wtm_at "?g"
           . apply zaN
             . exact zcI hxx
             . apply zah
               . apply zat
                 . wtm_at "?a"
                 . exact zja zay eM
               . wtm_at "?a"
               . wtm_at "?g"
         . exact zaw
   . exact htake _ _
   . rfl
end MX.P
end
section
local macro_rules | `(tactic| wtm_at "?d") => `(tactic| first | (with_reducible exact MX.P.sp_wb _ _ _) | ((with_reducible apply MX.P.sp_vdot); (focus with_reducible assumption); (focus with_reducible assumption); (focus omega)) | ((with_reducible apply MX.P.sp_vcross); (focus with_reducible assumption); (focus with_reducible assumption); (focus omega)) | (with_reducible assumption))
namespace MX.P
open PySem L2 MX
def zqE (o d a b c up : Pt) : Tq := if goesM o up a b c = true then some (0, 1) else zqk o d a b c
theorem zjF {o d t up : D} {S : So} (hg : zau [o, up, t] S = some (.bl true, S)) : zav [.tup [o, d], t, up] S = some (R2 0 1, S) := by
 apply zaf
 . wtm_at "?b"
   unfold zaG
   wtm_at "?a"
 . wtm_at "?c"
 . rfl
theorem zjG {o d t up r : D} {S : So} (hg : zau [o, up, t] S = some (.bl false, S)) (he : zaO [.tup [o, d], t] S = some (r, S)) (hr : D.lo S.length r = true) : zav [.tup [o, d], t, up] S = some (r, S) := by
 apply zaf
 . wtm_at "?b"
   unfold zaG
   apply zac
   . apply zaJ
     . wtm_at "?a"
     . apply zaN
       . rfl
       . wtm_at "?a"
   . apply zad
     apply zac
     . wtm_at "?a"
     . wtm_at "?m"
 . wtm_at "?c"
 . exact hr
theorem ziG (n : Nat) (t : Tq) : D.lo n (tD t) = true := by cases t <;> rfl
theorem zew {k l : Nat} {o d a b c up : Pt} (ho : BdP k o) (hd : BdP k d) (ha : BdP k a) (hb : BdP k b) (hc : BdP k c) (hu : BdP l up) (h0 : d ≠ (0, 0, 0)) (hk : k <= 1500) (hl : l <= 30000) (S : So) (hS : WF S) :
   zav [.tup [pD o, pD d], .tup [pD a, pD b, pD c], pD up] S = some (tD (zqE o d a b c up), S) := by
 have hg := zcK ho hu ha hb hc (by omega) hl S hS
 have he := zdb ho hd ha hb hc h0 hk S hS
 unfold zqE
 by_cases q : goesM o up a b c = true
 . rw [if_pos q]
   rw [q] at hg
   exact zjF hg
 . rw [if_neg q]
   have q' : goesM o up a b c = false := by simpa using q
   rw [q'] at hg
   exact zjG hg he (ziG _ _)
def zr5 (o d a b c : Pt) : Tq :=
 if zpy (wb a b) (wb a c) = (0, 0, 0) then zqk o d a b c
 else if zpC d (zpy (wb a b) (wb a c)) = 0 then
   if zpC (wb o a) (zpy (wb a b) (wb a c)) = 0 then zqE o d a b c (zpy (wb a b) (wb a c)) else none
 else if zpC d (zpy (wb a b) (wb a c)) < 0 then
   if -zpC (wb o a) (zpy (wb a b) (wb a c)) < 0 \/ goesM o d a b c = false then none else some (zqw (-zpC (wb o a) (zpy (wb a b) (wb a c))) (-zpC d (zpy (wb a b) (wb a c))))
 else if zpC (wb o a) (zpy (wb a b) (wb a c)) < 0 \/ goesM o d a b c = false then none else some (zqw (zpC (wb o a) (zpy (wb a b) (wb a c))) (zpC d (zpy (wb a b) (wb a c))))
theorem zjI {o d a b c up : Pt} {r : D} {S : So} (hup : up = zpy (wb a b) (wb a c)) (hz : up = (0, 0, 0)) {k : Nat} (w1 : BdP k (wb a b)) (w2 : BdP k (wb a c)) (hk : k <= 10000) (he : zaO [.tup [pD o, pD d], .tup [pD a, pD b, pD c]] S = some (r, S)) (hr : D.lo S.length r = true) :
   zan [.tup [pD o, pD d], .tup [pD a, pD b, pD c]] S = some (r, S) := by
 have hz' : pD (zpy (wb a b) (wb a c)) = P3 0 0 0 := zdT.mpr (hup ▸ hz)
 apply zaf
 . wtm_at "?b"
   unfold zaq
   wtm_at "?a"
 . wtm_at "?c"
 . exact hr
end MX.P
end
section
local macro_rules | `(tactic| wtm_at "?d") => `(tactic| first | (with_reducible assumption))
namespace MX.P
open PySem L2 MX
section
variable {o d a b c e1 e2 q r : D} {u : Pt} {U V : Int} {S : So}
theorem zm6 (h1 : zae [a, b] S = some (e1, S)) (h2 : zae [a, c] S = some (e2, S)) (h3 : zaC [e1, e2] S = some (pD u, S)) (hu : ¬ pD u = P3 0 0 0) (h4 : zae [o, a] S = some (q, S)) (h5 : zaS [q, pD u] S = some (.int U, S)) (h6 : zaS [d, pD u] S = some (.int V, S))
   (hV : V = 0) (hU : U = 0) (hr : zav [.tup [o, d], .tup [a, b, c], pD u] S = some (r, S)) (hl : D.lo S.length r = true) : zan [.tup [o, d], .tup [a, b, c]] S = some (r, S) := by
 apply zaf
 . wtm_at "?b"
   unfold zaq
   wtm_at "?a"
 . wtm_at "?c"
 . exact hl
theorem zk9 (h1 : zae [a, b] S = some (e1, S)) (h2 : zae [a, c] S = some (e2, S)) (h3 : zaC [e1, e2] S = some (pD u, S)) (hu : ¬ pD u = P3 0 0 0) (h4 : zae [o, a] S = some (q, S)) (h5 : zaS [q, pD u] S = some (.int U, S)) (h6 : zaS [d, pD u] S = some (.int V, S))
   (hV : V = 0) (hU : ¬ U = 0) : zan [.tup [o, d], .tup [a, b, c]] S = some (.non, S) := by
 apply zaf
 . wtm_at "?b"
   unfold zaq
   wtm_at "?a"
 . wtm_at "?c"
 . rfl
theorem zm5 (h1 : zae [a, b] S = some (e1, S)) (h2 : zae [a, c] S = some (e2, S)) (h3 : zaC [e1, e2] S = some (pD u, S)) (hu : ¬ pD u = P3 0 0 0) (h4 : zae [o, a] S = some (q, S)) (h5 : zaS [q, pD u] S = some (.int U, S)) (h6 : zaS [d, pD u] S = some (.int V, S))
   (hV0 : ¬ V = 0) (hV : V < 0) (hU : -U < 0) : zan [.tup [o, d], .tup [a, b, c]] S = some (.non, S) := by
 apply zaf
 . wtm_at "?b"
   unfold zaq
   wtm_at "?a"
 . wtm_at "?c"
 . rfl
theorem zm3 (h1 : zae [a, b] S = some (e1, S)) (h2 : zae [a, c] S = some (e2, S)) (h3 : zaC [e1, e2] S = some (pD u, S)) (hu : ¬ pD u = P3 0 0 0) (h4 : zae [o, a] S = some (q, S)) (h5 : zaS [q, pD u] S = some (.int U, S)) (h6 : zaS [d, pD u] S = some (.int V, S))
   (hV0 : ¬ V = 0) (hV : V < 0) (hU : ¬ -U < 0) (hg : zau [o, d, .tup [a, b, c]] S = some (.bl false, S)) : zan [.tup [o, d], .tup [a, b, c]] S = some (.non, S) := by
 apply zaf
 . wtm_at "?b"
   unfold zaq
   wtm_at "?a"
 . wtm_at "?c"
 . rfl
theorem zm4 (h1 : zae [a, b] S = some (e1, S)) (h2 : zae [a, c] S = some (e2, S)) (h3 : zaC [e1, e2] S = some (pD u, S)) (hu : ¬ pD u = P3 0 0 0) (h4 : zae [o, a] S = some (q, S)) (h5 : zaS [q, pD u] S = some (.int U, S)) (h6 : zaS [d, pD u] S = some (.int V, S))
   (hV0 : ¬ V = 0) (hV : V < 0) (hU : ¬ -U < 0) (hg : zau [o, d, .tup [a, b, c]] S = some (.bl true, S)) (hq : zaE [.tup [.int (-U), .int (-V)]] S = some (r, S)) (hl : D.lo S.length r = true) : zan [.tup [o, d], .tup [a, b, c]] S = some (r, S) := by
 apply zaf
 . wtm_at "?b"
   unfold zaq
   wtm_at "?a"
 . wtm_at "?c"
 . exact hl
theorem zm2 (h1 : zae [a, b] S = some (e1, S)) (h2 : zae [a, c] S = some (e2, S)) (h3 : zaC [e1, e2] S = some (pD u, S)) (hu : ¬ pD u = P3 0 0 0) (h4 : zae [o, a] S = some (q, S)) (h5 : zaS [q, pD u] S = some (.int U, S)) (h6 : zaS [d, pD u] S = some (.int V, S))
   (hV0 : ¬ V = 0) (hV : ¬ V < 0) (hU : U < 0) : zan [.tup [o, d], .tup [a, b, c]] S = some (.non, S) := by
 apply zaf
 . wtm_at "?b"
   unfold zaq
   wtm_at "?a"
 . wtm_at "?c"
 . rfl
theorem zm0 (h1 : zae [a, b] S = some (e1, S)) (h2 : zae [a, c] S = some (e2, S)) (h3 : zaC [e1, e2] S = some (pD u, S)) (hu : ¬ pD u = P3 0 0 0) (h4 : zae [o, a] S = some (q, S)) (h5 : zaS [q, pD u] S = some (.int U, S)) (h6 : zaS [d, pD u] S = some (.int V, S))
   (hV0 : ¬ V = 0) (hV : ¬ V < 0) (hU : ¬ U < 0) (hg : zau [o, d, .tup [a, b, c]] S = some (.bl false, S)) : zan [.tup [o, d], .tup [a, b, c]] S = some (.non, S) := by
 apply zaf
 . wtm_at "?b"
   unfold zaq
   wtm_at "?a"
 . wtm_at "?c"
 . rfl
theorem zm1 (h1 : zae [a, b] S = some (e1, S)) (h2 : zae [a, c] S = some (e2, S)) (h3 : zaC [e1, e2] S = some (pD u, S)) (hu : ¬ pD u = P3 0 0 0) (h4 : zae [o, a] S = some (q, S)) (h5 : zaS [q, pD u] S = some (.int U, S)) (h6 : zaS [d, pD u] S = some (.int V, S))
   (hV0 : ¬ V = 0) (hV : ¬ V < 0) (hU : ¬ U < 0) (hg : zau [o, d, .tup [a, b, c]] S = some (.bl true, S)) (hq : zaE [.tup [.int U, .int V]] S = some (r, S)) (hl : D.lo S.length r = true) : zan [.tup [o, d], .tup [a, b, c]] S = some (r, S) := by
 apply zaf
 . wtm_at "?b"
   unfold zaq
   wtm_at "?a"
 . wtm_at "?c"
 . exact hl
end
end MX.P
end
section
namespace MX.P
open PySem L2 MX
theorem zdQ {k : Nat} {o d a b c : Pt} (ho : BdP k o) (hd : BdP k d) (ha : BdP k a) (hb : BdP k b) (hc : BdP k c) (h0 : d ≠ (0, 0, 0)) (hk : k <= 1500) (S : So) (hS : WF S) :
   zan [.tup [pD o, pD d], .tup [pD a, pD b, pD c]] S = some (tD (zr5 o d a b c), S) := by
 have w1 := ha.wb hb
 have w2 := ha.wb hc
 have w3 := ho.wb ha
 have wu := w1.cross w2
 have bU := w3.dot wu
 have bV := hd.dot wu
 have h1 := sp_wb a b S
 have h2 := sp_wb a c S
 have h3 := sp_vcross w1 w2 (by omega) S
 have h4 := sp_wb o a S
 have h5 := sp_vdot w3 wu (by omega) S
 have h6 := sp_vdot hd wu (by omega) S
 have hg := zcK ho hd ha hb hc (by omega) (by omega) S hS
 have he := zdb ho hd ha hb hc h0 hk S hS
 have hw := zew ho hd ha hb hc wu h0 hk (by omega) S hS
 unfold zr5
 generalize hu : zpy (wb a b) (wb a c) = u at *
 by_cases q0 : u = (0, 0, 0)
 . rw [if_pos q0]
   exact zjI hu.symm q0 w1 w2 (by omega) he (ziG _ _)
 . rw [if_neg q0]
   have hne : ¬ pD u = P3 0 0 0 := fun h => q0 (zdT.mp h)
   generalize zpC (wb o a) u = U at *
   generalize zpC d u = V at *
   by_cases v0 : V = 0
   . rw [if_pos v0]
     by_cases u0 : U = 0
     . rw [if_pos u0]
       exact zm6 h1 h2 h3 hne h4 h5 h6 v0 u0 hw (ziG _ _)
     . rw [if_neg u0]
       exact zk9 h1 h2 h3 hne h4 h5 h6 v0 u0
   . rw [if_neg v0]
     by_cases vn : V < 0
     . rw [if_pos vn]
       by_cases un : -U < 0
       . rw [if_pos (Or.inl un)]
         exact zm5 h1 h2 h3 hne h4 h5 h6 v0 vn un
       . by_cases gg : goesM o d a b c = false
         . rw [if_pos (Or.inr gg)]
           rw [gg] at hg
           exact zm3 h1 h2 h3 hne h4 h5 h6 v0 vn un hg
         . rw [if_neg (fun h => h.elim un gg)]
           have gg' : goesM o d a b c = true := by simpa using gg
           rw [gg'] at hg
           exact zm4 h1 h2 h3 hne h4 h5 h6 v0 vn un hg (za2 (by omega) (by omega) bV.neg (by omega) S) (ziG S.length (some (zqw (-U) (-V))))
     . rw [if_neg vn]
       by_cases un : U < 0
       . rw [if_pos (Or.inl un)]
         exact zm2 h1 h2 h3 hne h4 h5 h6 v0 vn un
       . by_cases gg : goesM o d a b c = false
         . rw [if_pos (Or.inr gg)]
           rw [gg] at hg
           exact zm0 h1 h2 h3 hne h4 h5 h6 v0 vn un hg
         . rw [if_neg (fun h => h.elim un gg)]
           have gg' : goesM o d a b c = true := by simpa using gg
           rw [gg'] at hg
           exact zm1 h1 h2 h3 hne h4 h5 h6 v0 vn un hg (za2 (by omega) (by omega) bV (by omega) S) (ziG S.length (some (zqw U V)))
end MX.P
end
section
namespace MX.P
def Comb (k : Int) (d : Pt) (q u v w : Int) (A B C : Pt) : Prop := k * d.1 = q * (u * A.1 + v * B.1 + w * C.1) /\ k * d.2.1 = q * (u * A.2.1 + v * B.2.1 + w * C.2.1) /\ k * d.2.2 = q * (u * A.2.2 + v * B.2.2 + w * C.2.2)
def inT (d A B C : Pt) (t : Int × Int) : Prop := ∃ u v w : Int, 0 <= u /\ 0 <= v /\ 0 <= w /\ 0 < u + v + w /\ Comb ((u + v + w) * t.1) d t.2 u v w A B C
def inS (d A B : Pt) (t : Int × Int) : Prop := ∃ u v : Int, 0 <= u /\ 0 <= v /\ 0 < u + v /\ Comb ((u + v) * t.1) d t.2 u v 0 A B A
theorem Comb.dot {k q u v w : Int} {d A B C : Pt} (h : Comb k d q u v w A B C) (n : Pt) : k * zpC d n = q * (u * zpC A n + v * zpC B n + w * zpC C n) := by
 obtain ⟨h1, h2, h3⟩ := h
 have e : k * zpC d n = (k * d.1) * n.1 + (k * d.2.1) * n.2.1 + (k * d.2.2) * n.2.2 := by unfold zpC; grind
 rw [e, h1, h2, h3]
 unfold zpC
 grind
theorem zrQ {k x y : Int} (hk : 0 < k) (h : k * x = k * y) : x = y := Int.eq_of_mul_eq_mul_left (by omega) h
theorem zp9 {k x : Int} (hk : 0 < k) (h : 0 = k * x) : x = 0 := by
 rcases Int.mul_eq_zero.mp h.symm with e | e
 . omega
 . exact e
def Inv (X : Int × Int -> Prop) : Prop := ∀ t r : Int × Int, 0 < t.2 -> 0 < r.2 -> t.1 * r.2 = r.1 * t.2 -> X t -> X r
theorem zha {s q u v w : Int} {d A B C : Pt} {t r : Int × Int} (ht : 0 < t.2) (e : t.1 * r.2 = r.1 * t.2) (h : Comb (s * t.1) d t.2 u v w A B C) : Comb (s * r.1) d r.2 u v w A B C := by
 obtain ⟨h1, h2, h3⟩ := h
 have f : ∀ x y : Int, s * t.1 * x = t.2 * y -> s * r.1 * x = r.2 * y := fun x y h => by
   refine zrQ ht ?_
   have e1 : t.2 * (s * r.1 * x) = s * x * (r.1 * t.2) := by grind
   have e2 : t.2 * (r.2 * y) = r.2 * (t.2 * y) := by grind
   rw [e1, e2, <- e, <- h]
   grind
 exact ⟨f _ _ h1, f _ _ h2, f _ _ h3⟩
theorem ziS (d A B C : Pt) : Inv (inT d A B C) := fun t r ht _ e ⟨u, v, w, h1, h2, h3, h4, h⟩ => ⟨u, v, w, h1, h2, h3, h4, zha (q := 0) ht e h⟩
theorem zgq (d A B : Pt) : Inv (inS d A B) := fun t r ht _ e ⟨u, v, h1, h2, h4, h⟩ => ⟨u, v, h1, h2, h4, zha (q := 0) ht e h⟩
theorem zok {d A B C : Pt} {t : Int × Int} (h : inS d A B t) : inT d A B C t := by
 obtain ⟨u, v, h1, h2, h4, c1, c2, c3⟩ := h
 refine ⟨u, v, 0, h1, h2, by omega, by omega, ?_, ?_, ?_⟩ <;> grind
theorem zoj {d A B C : Pt} {t : Int × Int} (h : inS d B C t) : inT d A B C t := by
 obtain ⟨u, v, h1, h2, h4, c1, c2, c3⟩ := h
 refine ⟨0, u, v, by omega, h1, h2, by omega, ?_, ?_, ?_⟩ <;> grind
theorem zoi {d A B C : Pt} {t : Int × Int} (h : inS d C A t) : inT d A B C t := by
 obtain ⟨u, v, h1, h2, h4, c1, c2, c3⟩ := h
 refine ⟨v, 0, u, h2, by omega, h1, by omega, ?_, ?_, ?_⟩ <;> grind
def IsF (m : Tq) (X : Int × Int -> Prop) : Prop := match m with
 | none => ∀ t : Int × Int, 0 <= t.1 -> 0 < t.2 -> ¬ X t
 | some r => 0 <= r.1 /\ 0 < r.2 /\ X r /\ ∀ t : Int × Int, 0 <= t.1 -> 0 < t.2 -> X t -> leQ r t
theorem IsF.congr {m : Tq} {X Y : Int × Int -> Prop} (h : IsF m X) (e : ∀ t : Int × Int, 0 <= t.1 -> 0 < t.2 -> (X t ↔ Y t)) : IsF m Y := by
 unfold IsF at *
 cases m with
 | none => exact fun t h1 h2 hy => h t h1 h2 ((e t h1 h2).mpr hy)
 | some r => exact ⟨h.1, h.2.1, (e r h.1 h.2.1).mp h.2.2.1, fun t h1 h2 hy => h.2.2.2 t h1 h2 ((e t h1 h2).mpr hy)⟩
theorem zgU {a b c : Int × Int} (ha : 0 < a.2) (hb : 0 < b.2) (hc : 0 < c.2) (h1 : leQ a b) (h2 : leQ b c) : leQ a c := by
 unfold leQ at *
 have h3 := Int.mul_le_mul_of_nonneg_right h1 (show 0 <= c.2 by omega)
 have h4 := Int.mul_le_mul_of_nonneg_right h2 (show 0 <= a.2 by omega)
 have e1 : a.1 * b.2 * c.2 = b.2 * (a.1 * c.2) := by grind
 have e2 : c.1 * b.2 * a.2 = b.2 * (c.1 * a.2) := by grind
 have e3 : b.1 * a.2 * c.2 = b.1 * c.2 * a.2 := by grind
 refine Int.le_of_mul_le_mul_left (a := b.2) ?_ hb
 omega
theorem IsF.pick {m n : Tq} {X Y : Int × Int -> Prop} (hm : IsF m X) (hn : IsF n Y) : IsF (pick m n) (fun t => X t \/ Y t) := by
 unfold MX.P.pick
 cases n with
 | none =>
   refine hm.congr fun t h1 h2 => ⟨.inl, fun h => h.elim id fun h => absurd h (hn t h1 h2)⟩
 | some t =>
   cases m with
   | none =>
     refine hn.congr fun t h1 h2 => ⟨.inr, fun h => h.elim (fun h => absurd h (hm t h1 h2)) id⟩
   | some b =>
     simp only
     split
     . rename_i hl
       refine ⟨hn.1, hn.2.1, .inr hn.2.2.1, fun s h1 h2 h => h.elim (fun h => ?_) (hn.2.2.2 s h1 h2)⟩
       refine zgU hn.2.1 hm.2.1 h2 ?_ (hm.2.2.2 s h1 h2 h)
       unfold zre at hl; unfold leQ; omega
     . rename_i hl
       refine ⟨hm.1, hm.2.1, .inl hm.2.2.1, fun s h1 h2 h => h.elim (hm.2.2.2 s h1 h2) (fun h => ?_)⟩
       refine zgU hm.2.1 hn.2.1 h2 ?_ (hn.2.2.2 s h1 h2 h)
       unfold zre at hl; unfold leQ; omega
theorem IsF.red {m : Tq} {X : Int × Int -> Prop} (hi : Inv X) (hm : IsF m X) : IsF (zrW m) X := by
 cases m with
 | none => exact hm
 | some r =>
   obtain ⟨h1, h2, h3, h4⟩ := hm
   have hp := zd5 r.1 r.2
   have hc := zhr (a := r.1) (b := r.2) (by omega)
   refine ⟨zeI h1 h2, hp, hi r _ h2 hp hc.symm h3, fun t g1 g2 g3 => zgU hp h2 g2 ?_ (h4 t g1 g2 g3)⟩
   unfold leQ
   show (zqw r.1 r.2).1 * r.2 <= r.1 * (zqw r.1 r.2).2
   omega
def zrt (m : Tq) : Prop := ∀ r, m = some r -> zqw r.1 r.2 = r
theorem zfj (m : Tq) : zrt (zrW m) := fun r hr => by
 cases m with
 | none => cases hr
 | some p => cases hr; exact zeH _ _
theorem zfk {m n : Tq} (hm : zrt m) (hn : zrt n) : zrt (pick m n) := by
 unfold pick
 split
 . exact hm
 . split
   . exact hn
   . split
     . exact hn
     . exact hm
theorem zf0 {a b : Pt} (h1 : a.1 = b.1) (h2 : a.2.1 = b.2.1) (h3 : a.2.2 = b.2.2) : a = b := Prod.ext h1 (Prod.ext h2 h3)
theorem lag (x d e : Pt) : zpC (zpy d e) (zpy d e) * x.1 = zpC (zpy x e) (zpy d e) * d.1 - zpC (zpy x d) (zpy d e) * e.1 + zpC x (zpy d e) * (zpy d e).1
   /\ zpC (zpy d e) (zpy d e) * x.2.1 = zpC (zpy x e) (zpy d e) * d.2.1 - zpC (zpy x d) (zpy d e) * e.2.1 + zpC x (zpy d e) * (zpy d e).2.1
   /\ zpC (zpy d e) (zpy d e) * x.2.2 = zpC (zpy x e) (zpy d e) * d.2.2 - zpC (zpy x d) (zpy d e) * e.2.2 + zpC x (zpy d e) * (zpy d e).2.2 := by
 simp only [zpC, zpy]
 refine ⟨?_, ?_, ?_⟩ <;> grind
theorem zoT (o a b : Pt) : wb a b = ((wb o b).1 - (wb o a).1, (wb o b).2.1 - (wb o a).2.1, (wb o b).2.2 - (wb o a).2.2) := by
 refine zf0 ?_ ?_ ?_ <;> simp only [wb] <;> omega
def zpF (b a : Pt) : Pt := (b.1 - a.1, b.2.1 - a.2.1, b.2.2 - a.2.2)
theorem zhR (o a b : Pt) : wb a b = zpF (wb o b) (wb o a) := zoT o a b
theorem zeF {d A B : Pt} {t : Int × Int} (hq : 0 < t.2) (h : inS d A B t) :
   zpC A (zpy d (zpF B A)) = 0 /\ ∃ u v : Int, 0 <= u /\ 0 <= v /\ 0 < u + v /\ t.1 * zpC (zpy d (zpF B A)) (zpy d (zpF B A)) = t.2 * zpC (zpy A (zpF B A)) (zpy d (zpF B A))
     /\ (u + v) * zpC (zpy A d) (zpy d (zpF B A)) = v * zpC (zpy d (zpF B A)) (zpy d (zpF B A)) := by
 obtain ⟨u, v, h1, h2, h3, c⟩ := h
 have c1 := c.dot (zpy d (zpF B A))
 have c2 := c.dot (zpy (zpF B A) (zpy d (zpF B A)))
 have c3 := c.dot (zpy d (zpy d (zpF B A)))
 have z1 : zpC d (zpy d (zpF B A)) = 0 := by simp only [zpC, zpy, zpF]; grind
 have z2 : zpC B (zpy d (zpF B A)) = zpC A (zpy d (zpF B A)) := by simp only [zpC, zpy, zpF]; grind
 have y1 : zpC d (zpy (zpF B A) (zpy d (zpF B A))) = zpC (zpy d (zpF B A)) (zpy d (zpF B A)) := by simp only [zpC, zpy, zpF]; grind
 have y2 : zpC A (zpy (zpF B A) (zpy d (zpF B A))) = zpC (zpy A (zpF B A)) (zpy d (zpF B A)) := by simp only [zpC, zpy, zpF]; grind
 have y3 : zpC B (zpy (zpF B A) (zpy d (zpF B A))) = zpC (zpy A (zpF B A)) (zpy d (zpF B A)) := by simp only [zpC, zpy, zpF]; grind
 have x1 : zpC d (zpy d (zpy d (zpF B A))) = 0 := by simp only [zpC, zpy, zpF]; grind
 have x2 : zpC A (zpy d (zpy d (zpF B A))) = zpC (zpy A d) (zpy d (zpF B A)) := by simp only [zpC, zpy, zpF]; grind
 have x3 : zpC B (zpy d (zpy d (zpF B A))) = zpC (zpy A d) (zpy d (zpF B A)) - zpC (zpy d (zpF B A)) (zpy d (zpF B A)) := by simp only [zpC, zpy, zpF]; grind
 rw [z1, z2] at c1
 rw [y1, y2, y3] at c2
 rw [x1, x2, x3] at c3
 generalize zpC (zpy d (zpF B A)) (zpy d (zpF B A)) = N at *
 generalize zpC (zpy A (zpF B A)) (zpy d (zpF B A)) = T at *
 generalize zpC (zpy A d) (zpy d (zpF B A)) = Sh at *
 generalize zpC A (zpy d (zpF B A)) = Z at *
 refine ⟨?_, u, v, h1, h2, h3, ?_, ?_⟩
 . have : 0 = t.2 * ((u + v) * Z) := by grind
   exact zp9 h3 (zp9 hq this).symm
 . refine zrQ h3 ?_
   grind
 . have : 0 = t.2 * ((u + v) * Sh - v * N) := by grind
   have := zp9 hq this
   omega
theorem znp {d A B : Pt} (hz : zpC A (zpy d (zpF B A)) = 0) (h1 : 0 <= zpC (zpy A d) (zpy d (zpF B A))) (h2 : zpC (zpy A d) (zpy d (zpF B A)) <= zpC (zpy d (zpF B A)) (zpy d (zpF B A))) (h3 : 0 < zpC (zpy d (zpF B A)) (zpy d (zpF B A))) :
   inS d A B (zpC (zpy A (zpF B A)) (zpy d (zpF B A)), zpC (zpy d (zpF B A)) (zpy d (zpF B A))) := by
 obtain ⟨l1, l2, l3⟩ := lag A d (zpF B A)
 rw [hz] at l1 l2 l3
 generalize zpC (zpy d (zpF B A)) (zpy d (zpF B A)) = N at *
 generalize zpC (zpy A (zpF B A)) (zpy d (zpF B A)) = T at *
 generalize zpC (zpy A d) (zpy d (zpF B A)) = Sh at *
 refine ⟨N - Sh, Sh, by omega, h1, by omega, ?_, ?_, ?_⟩ <;> simp only [zpF] at * <;> grind
theorem zeW {d A B : Pt} {t : Int × Int} (hq : 0 < t.2) (hp : zpy d (zpF B A) = (0, 0, 0)) (h : inS d A B t) : zpy A d = (0, 0, 0) /\ ∃ u v : Int, 0 <= u /\ 0 <= v /\ 0 < u + v /\ (u + v) * t.1 * zpC d d = t.2 * (u * zpC A d + v * zpC B d) := by
 obtain ⟨u, v, h1, h2, h3, c⟩ := h
 have p1 : (zpy d (zpF B A)).1 = 0 := by rw [hp]
 have p2 : (zpy d (zpF B A)).2.1 = 0 := by rw [hp]
 have p3 : (zpy d (zpF B A)).2.2 = 0 := by rw [hp]
 have f : ∀ E : Pt, zpC (zpy A d) E = 0 := fun E => by
   have c1 := c.dot (zpy d E)
   have z1 : zpC d (zpy d E) = 0 := by simp only [zpC, zpy]; grind
   have z2 : zpC A (zpy d E) = zpC (zpy A d) E := by simp only [zpC, zpy]; grind
   have z3 : zpC B (zpy d E) = zpC (zpy A d) E := by simp only [zpC, zpy, zpF] at *; grind
   rw [z1, z2, z3] at c1
   generalize zpC (zpy A d) E = Z at *
   have : 0 = t.2 * ((u + v) * Z) := by grind
   exact zp9 h3 (zp9 hq this).symm
 refine ⟨zf0 ?_ ?_ ?_, u, v, h1, h2, h3, ?_⟩
 . have := f (1, 0, 0); simp only [zpC] at this; show _ = (0 : Int); omega
 . have := f (0, 1, 0); simp only [zpC] at this; show _ = (0 : Int); omega
 . have := f (0, 0, 1); simp only [zpC] at this; show _ = (0 : Int); omega
 . have := c.dot d
   grind
theorem zio {d x : Pt} (h : zpy x d = (0, 0, 0)) : zpC d d * x.1 = zpC x d * d.1 /\ zpC d d * x.2.1 = zpC x d * d.2.1 /\ zpC d d * x.2.2 = zpC x d * d.2.2 := by
 have p1 : (zpy x d).1 = 0 := by rw [h]
 have p2 : (zpy x d).2.1 = 0 := by rw [h]
 have p3 : (zpy x d).2.2 = 0 := by rw [h]
 simp only [zpy, zpC] at *
 refine ⟨?_, ?_, ?_⟩ <;> grind
theorem zmI {d A B : Pt} (hp : zpy d (zpF B A) = (0, 0, 0)) (h : zpy A d = (0, 0, 0)) : zpy B d = (0, 0, 0) := by
 have p1 : (zpy d (zpF B A)).1 = 0 := by rw [hp]
 have p2 : (zpy d (zpF B A)).2.1 = 0 := by rw [hp]
 have p3 : (zpy d (zpF B A)).2.2 = 0 := by rw [hp]
 have q1 : (zpy A d).1 = 0 := by rw [h]
 have q2 : (zpy A d).2.1 = 0 := by rw [h]
 have q3 : (zpy A d).2.2 = 0 := by rw [h]
 simp only [zpy, zpF] at *
 refine zf0 ?_ ?_ ?_ <;> grind
theorem zeE {o d a b : Pt} (h0 : d ≠ (0, 0, 0)) : IsF (zrD o d a b) (inS d (wb o a) (wb o b)) := by
 have hD := zaH h0
 unfold zrD zqS
 rw [zhR o a b]
 generalize wb o a = A
 generalize wb o b = B
 split
 . rename_i hp
   split
   . rename_i hc
     have la := zio hc
     have lb := zio (zmI hp hc)
     have key : ∀ t : Int × Int, 0 < t.2 -> inS d A B t -> ∃ u v : Int, 0 <= u /\ 0 <= v /\ 0 < u + v /\ (u + v) * t.1 * zpC d d = t.2 * (u * zpC A d + v * zpC B d) := fun t hq h => (zeW hq hp h).2
     generalize zpC d d = N at *
     generalize zpC A d = x at *
     generalize zpC B d = y at *
     split
     . rename_i hm
       intro t h1 h2 h
       obtain ⟨u, v, u0, v0, uv, e⟩ := key t h2 h
       have hx : x < 0 /\ y < 0 := by unfold zq3 at hm; split at hm <;> omega
       have e1 : 0 <= (u + v) * t.1 * N := Int.mul_nonneg (Int.mul_nonneg (by omega) h1) (by omega)
       have e2 : u * x + v * y < 0 := by
         rcases Int.lt_or_eq_of_le u0 with q | q
         . have := Int.mul_neg_of_pos_of_neg q hx.1
           have := Int.mul_nonpos_of_nonneg_of_nonpos v0 (show y <= 0 by omega)
           omega
         . subst q
           have := Int.mul_neg_of_pos_of_neg (show 0 < v by omega) hx.2
           omega
       have := Int.mul_neg_of_pos_of_neg h2 e2
       omega
     . rename_i hm
       have hm' : 0 <= x \/ 0 <= y := by unfold zq3 at hm; split at hm <;> omega
       have hmn : (zq3 (zrX x y) 0 = x /\ 0 <= x /\ x <= y) \/ (zq3 (zrX x y) 0 = y /\ 0 <= y /\ y <= x) \/ (zq3 (zrX x y) 0 = 0 /\ x < 0 /\ 0 <= y) \/ (zq3 (zrX x y) 0 = 0 /\ y < 0 /\ 0 <= x) := by
         unfold zq3 zrX
         split <;> split <;> omega
       have hge : 0 <= zq3 (zrX x y) 0 := by rcases hmn with h | h | h | h <;> omega
       refine ⟨hge, hD, ?_, fun t h1 h2 h => ?_⟩
       . obtain ⟨a1, a2, a3⟩ := la
         obtain ⟨b1, b2, b3⟩ := lb
         rcases hmn with ⟨e, _⟩ | ⟨e, _⟩ | ⟨e, _⟩ | ⟨e, _⟩ <;> rw [e]
         . exact ⟨1, 0, by omega, by omega, by omega, by simp only; grind, by simp only; grind, by simp only; grind⟩
         . exact ⟨0, 1, by omega, by omega, by omega, by simp only; grind, by simp only; grind, by simp only; grind⟩
         . exact ⟨y, -x, by omega, by omega, by omega, by simp only; grind, by simp only; grind, by simp only; grind⟩
         . exact ⟨-y, x, by omega, by omega, by omega, by simp only; grind, by simp only; grind, by simp only; grind⟩
       . obtain ⟨u, v, u0, v0, uv, e⟩ := key t h2 h
         unfold leQ
         simp only
         have low : ∀ m : Int, m <= x -> m <= y -> m * t.2 <= t.1 * N := fun m m1 m2 => by
           refine Int.le_of_mul_le_mul_left (a := u + v) ?_ uv
           have g1 := Int.mul_le_mul_of_nonneg_left m1 u0
           have g2 := Int.mul_le_mul_of_nonneg_left m2 v0
           have g3 := Int.mul_le_mul_of_nonneg_left (show u * m + v * m <= u * x + v * y by omega) (show 0 <= t.2 by omega)
           have e1 : (u + v) * (m * t.2) = t.2 * (u * m + v * m) := by grind
           have e2 : (u + v) * (t.1 * N) = (u + v) * t.1 * N := by grind
           omega
         rcases hmn with ⟨e, _⟩ | ⟨e, _⟩ | ⟨e, _⟩ | ⟨e, _⟩ <;> rw [e]
         . exact low _ (by omega) (by omega)
         . exact low _ (by omega) (by omega)
         . have := Int.mul_nonneg h1 (show 0 <= N by omega); omega
         . have := Int.mul_nonneg h1 (show 0 <= N by omega); omega
   . rename_i hc
     exact fun t h1 h2 h => hc (zeW h2 hp h).1
 . rename_i hp
   have hN := zaH hp
   split
   . rename_i hz
     split
     . rename_i hb
       intro t h1 h2 h
       obtain ⟨_, u, v, u0, v0, uv, e1, e2⟩ := zeF h2 h
       generalize zpC (zpy d (zpF B A)) (zpy d (zpF B A)) = N at *
       generalize zpC (zpy A (zpF B A)) (zpy d (zpF B A)) = T at *
       generalize zpC (zpy A d) (zpy d (zpF B A)) = Sh at *
       rcases hb with q | q | q
       . have := Int.mul_neg_of_pos_of_neg h2 q
         have := Int.mul_nonneg h1 (show 0 <= N by omega)
         omega
       . have := Int.mul_neg_of_pos_of_neg uv q
         have := Int.mul_nonneg v0 (show 0 <= N by omega)
         omega
       . have g1 := Int.mul_lt_mul_of_pos_left q uv
         have g2 := Int.mul_nonneg u0 (show 0 <= N by omega)
         have g3 : (u + v) * N = u * N + v * N := by grind
         omega
     . rename_i hb
       refine ⟨Int.not_lt.mp fun q => hb (.inl q), hN, znp hz (Int.not_lt.mp fun q => hb (.inr (.inl q))) (Int.not_lt.mp fun q => hb (.inr (.inr q))) hN, fun t h1 h2 h => ?_⟩
       obtain ⟨_, u, v, u0, v0, uv, e1, e2⟩ := zeF h2 h
       unfold leQ
       simp only
       rw [Int.mul_comm, <- e1]
       omega
   . rename_i hz
     exact fun t h1 h2 h => hz (zeF h2 h).1
end MX.P
end
section
namespace MX.P
theorem zgy {o d a b c : Pt} (h0 : d ≠ (0, 0, 0)) : IsF (zqk o d a b c) (fun t => inS d (wb o a) (wb o b) t \/ inS d (wb o b) (wb o c) t \/ inS d (wb o c) (wb o a) t) := by
 have n0 : IsF none (fun _ => False) := fun _ _ _ h => h
 have h1 := (zeE (o := o) (a := a) (b := b) h0).red (zgq _ _ _)
 have h2 := (zeE (o := o) (a := b) (b := c) h0).red (zgq _ _ _)
 have h3 := (zeE (o := o) (a := c) (b := a) h0).red (zgq _ _ _)
 unfold zqk
 refine (((n0.pick h1).pick h2).pick h3).congr fun t _ _ => ?_
 constructor
 . rintro (((h | h) | h) | h)
   . exact h.elim
   . exact .inl h
   . exact .inr (.inl h)
   . exact .inr (.inr h)
 . rintro (h | h | h)
   . exact .inl (.inl (.inr h))
   . exact .inl (.inr h)
   . exact .inr h
theorem zfO (o d a b c : Pt) : zrt (zqk o d a b c) := zfk (zfk (zfk (fun _ h => by cases h) (zfj _)) (zfj _)) (zfj _)
theorem zjp {d A B C : Pt} {t : Int × Int} (h : inS d A B t \/ inS d B C t \/ inS d C A t) : inT d A B C t := by
 rcases h with h | h | h
 . exact zok h
 . exact zoj h
 . exact zoi h
def Mid (A B C : Pt) : Prop := ∃ i j : Int, 0 <= i /\ 0 <= j /\ 0 < i + j /\ (i + j) * C.1 = i * A.1 + j * B.1 /\ (i + j) * C.2.1 = i * A.2.1 + j * B.2.1 /\ (i + j) * C.2.2 = i * A.2.2 + j * B.2.2
theorem ziD {d A B C : Pt} {t : Int × Int} (m : Mid A B C) (h : inT d A B C t) : inS d A B t := by
 obtain ⟨i, j, i0, j0, ij, m1, m2, m3⟩ := m
 obtain ⟨u, v, w, u0, v0, w0, uvw, c1, c2, c3⟩ := h
 have g1 := Int.mul_nonneg (show 0 <= i + j by omega) u0
 have g2 := Int.mul_nonneg (show 0 <= i + j by omega) v0
 have g3 := Int.mul_nonneg i0 w0
 have g4 := Int.mul_nonneg j0 w0
 have g5 := Int.mul_pos ij uvw
 have f : ∀ x a b c : Int, (i + j) * c = i * a + j * b -> (u + v + w) * t.1 * x = t.2 * (u * a + v * b + w * c) -> ((i + j) * u + i * w + ((i + j) * v + j * w)) * t.1 * x = t.2 * (((i + j) * u + i * w) * a + ((i + j) * v + j * w) * b + 0 * a) := fun x a b c e1 e2 => by
   have e3 : ((i + j) * u + i * w + ((i + j) * v + j * w)) * t.1 * x = (i + j) * ((u + v + w) * t.1 * x) := by grind
   rw [e3, e2]
   have e4 : (i + j) * (t.2 * (u * a + v * b + w * c)) = t.2 * ((i + j) * u * a + (i + j) * v * b + w * ((i + j) * c)) := by grind
   rw [e4, e1]
   grind
 refine ⟨(i + j) * u + i * w, (i + j) * v + j * w, by omega, by omega, ?_, f _ _ _ _ m1 c1, f _ _ _ _ m2 c2, f _ _ _ _ m3 c3⟩
 have : (i + j) * u + i * w + ((i + j) * v + j * w) = (i + j) * (u + v + w) := by grind
 omega
theorem zgj {A B C : Pt} (x y z : Int) (hne : ¬ (x = y /\ y = z)) (e1 : (y - x) * C.1 + (z - y) * A.1 + (x - z) * B.1 = 0) (e2 : (y - x) * C.2.1 + (z - y) * A.2.1 + (x - z) * B.2.1 = 0) (e3 : (y - x) * C.2.2 + (z - y) * A.2.2 + (x - z) * B.2.2 = 0) : Mid A B C \/ Mid B C A \/ Mid C A B := by
 by_cases h1 : x <= z /\ z <= y
 . exact .inl ⟨y - z, z - x, by omega, by omega, by omega, by grind, by grind, by grind⟩
 . by_cases h2 : y <= z /\ z <= x
   . exact .inl ⟨z - y, x - z, by omega, by omega, by omega, by grind, by grind, by grind⟩
   . by_cases h3 : y <= x /\ x <= z
     . exact .inr (.inl ⟨z - x, x - y, by omega, by omega, by omega, by grind, by grind, by grind⟩)
     . by_cases h4 : z <= x /\ x <= y
       . exact .inr (.inl ⟨x - z, y - x, by omega, by omega, by omega, by grind, by grind, by grind⟩)
       . by_cases h5 : z <= y /\ y <= x
         . exact .inr (.inr ⟨x - y, y - z, by omega, by omega, by omega, by grind, by grind, by grind⟩)
         . exact .inr (.inr ⟨y - x, z - y, by omega, by omega, by omega, by grind, by grind, by grind⟩)
theorem zkw {A B C : Pt} (h : zpy (zpF B A) (zpF C A) = (0, 0, 0)) : Mid A B C \/ Mid B C A \/ Mid C A B := by
 have p1 : (zpy (zpF B A) (zpF C A)).1 = 0 := by rw [h]
 have p2 : (zpy (zpF B A) (zpF C A)).2.1 = 0 := by rw [h]
 have p3 : (zpy (zpF B A) (zpF C A)).2.2 = 0 := by rw [h]
 simp only [zpy, zpF] at p1 p2 p3
 by_cases h1 : A.1 = B.1 /\ B.1 = C.1
 . by_cases h2 : A.2.1 = B.2.1 /\ B.2.1 = C.2.1
   . by_cases h3 : A.2.2 = B.2.2 /\ B.2.2 = C.2.2
     . exact .inl ⟨1, 0, by omega, by omega, by omega, by omega, by omega, by omega⟩
     . exact zgj A.2.2 B.2.2 C.2.2 h3 (by grind) (by grind) (by grind)
   . exact zgj A.2.1 B.2.1 C.2.1 h2 (by grind) (by grind) (by grind)
 . exact zgj A.1 B.1 C.1 h1 (by grind) (by grind) (by grind)
theorem zgp {d A B C : Pt} {t : Int × Int} (h : inT d A B C t) : inT d B C A t := by
 obtain ⟨u, v, w, h1, h2, h3, h4, c1, c2, c3⟩ := h
 refine ⟨v, w, u, h2, h3, h1, by omega, ?_, ?_, ?_⟩ <;> grind
theorem zi2 {d A B C : Pt} {t : Int × Int} (hf : zpy (zpF B A) (zpF C A) = (0, 0, 0)) (h : inT d A B C t) : inS d A B t \/ inS d B C t \/ inS d C A t := by
 rcases zkw hf with m | m | m
 . exact .inl (ziD m h)
 . exact .inr (.inl (ziD m (zgp h)))
 . exact .inr (.inr (ziD m (zgp (zgp h))))
def aff (f : Int × Int) (t : Int × Int) : Int := f.1 * t.2 + f.2 * t.1
theorem zeX {f r s t : Int × Int} (hr : 0 < r.2) (hs : 0 < s.2) (ht : 0 < t.2) (h1 : leQ r s) (h2 : leQ s t) (f1 : 0 <= aff f r) (f2 : 0 <= aff f t) : 0 <= aff f s := by
 unfold leQ aff at *
 by_cases hb : 0 <= f.2
 . have g1 := Int.mul_nonneg f1 (show 0 <= s.2 by omega)
   have g2 := Int.mul_le_mul_of_nonneg_left h1 hb
   have e : (f.1 * r.2 + f.2 * r.1) * s.2 = r.2 * (f.1 * s.2) + f.2 * (r.1 * s.2) := by grind
   have e2 : r.2 * (f.1 * s.2 + f.2 * s.1) = r.2 * (f.1 * s.2) + f.2 * (s.1 * r.2) := by grind
   refine Int.le_of_mul_le_mul_left (a := r.2) ?_ hr
   omega
 . have g1 := Int.mul_nonneg f2 (show 0 <= s.2 by omega)
   have g2 := Int.mul_le_mul_of_nonpos_left (show f.2 <= 0 by omega) h2
   have e : (f.1 * t.2 + f.2 * t.1) * s.2 = t.2 * (f.1 * s.2) + f.2 * (t.1 * s.2) := by grind
   have e2 : t.2 * (f.1 * s.2 + f.2 * s.1) = t.2 * (f.1 * s.2) + f.2 * (s.1 * t.2) := by grind
   refine Int.le_of_mul_le_mul_left (a := t.2) ?_ ht
   omega
theorem ze9 {t : Int × Int} (ht0 : 0 <= t.1) (ht : 0 < t.2) : ∀ L : List (Int × Int), (∀ f ∈ L, 0 <= aff f t) -> (∃ f ∈ L, f.1 < 0) -> ∃ r : Int × Int, 0 <= r.1 /\ 0 < r.2 /\ leQ r t /\ (∀ f ∈ L, 0 <= aff f r) /\ ∃ f ∈ L, f.1 < 0 /\ aff f r = 0
 | [], _, h => by obtain ⟨_, h, _⟩ := h; cases h
 | f :: L, ha, hn => by
   have hf := ha f (zsZ ..)
   have hL : ∀ g ∈ L, 0 <= aff g t := fun g hg => ha g (zsY _ hg)
   by_cases hneg : ∃ g ∈ L, g.1 < 0
   . obtain ⟨r, r0, r1, r2, r3, g, g1, g2, g3⟩ := ze9 ht0 ht L hL hneg
     by_cases hr : 0 <= aff f r
     . exact ⟨r, r0, r1, r2, fun x hx => by rcases List.mem_cons.mp hx with e | e; exact e ▸ hr; exact r3 x e, g, zsY _ g1, g2, g3⟩
     . have hb : 0 < f.2 := by
         refine Int.not_le.mp fun q => hr ?_
         unfold aff leQ at *
         have g1 := Int.mul_nonneg hf (show 0 <= r.2 by omega)
         have g2 := Int.mul_le_mul_of_nonpos_left q r2
         refine Int.le_of_mul_le_mul_left (a := t.2) ?_ ht
         have e : (f.1 * t.2 + f.2 * t.1) * r.2 = t.2 * (f.1 * r.2) + f.2 * (t.1 * r.2) := by grind
         have e2 : t.2 * (f.1 * r.2 + f.2 * r.1) = t.2 * (f.1 * r.2) + f.2 * (r.1 * t.2) := by grind
         omega
       have hfr : f.1 * r.2 < 0 := by
         unfold aff at hr
         have := Int.mul_nonneg (show 0 <= f.2 by omega) r0
         omega
       have hf0 : f.1 < 0 := by
         refine Int.not_le.mp fun q => ?_
         have := Int.mul_nonneg q (show 0 <= r.2 by omega)
         omega
       have l1 : leQ r (-f.1, f.2) := by
         unfold leQ aff at *
         simp only
         have e1 : r.1 * f.2 = f.2 * r.1 := by grind
         have e2 : -f.1 * r.2 = -(f.1 * r.2) := by grind
         omega
       have l2 : leQ (-f.1, f.2) t := by
         unfold leQ aff at *
         simp only
         have e1 : t.1 * f.2 = f.2 * t.1 := by grind
         have e2 : -f.1 * t.2 = -(f.1 * t.2) := by grind
         omega
       have z : aff f (-f.1, f.2) = 0 := by unfold aff; simp only; grind
       refine ⟨(-f.1, f.2), by simp only; omega, hb, l2, fun x hx => ?_, f, zsZ .., hf0, z⟩
       rcases List.mem_cons.mp hx with e | e
       . rw [e, z]; omega
       . exact zeX r1 hb ht l1 l2 (r3 x e) (hL x e)
   . have hf0 : f.1 < 0 := by
       obtain ⟨g, g1, g2⟩ := hn
       rcases List.mem_cons.mp g1 with e | e
       . exact e ▸ g2
       . exact absurd ⟨g, e, g2⟩ hneg
     have hft : f.1 * t.2 < 0 := Int.mul_neg_of_neg_of_pos hf0 ht
     have hb : 0 < f.2 := by
       refine Int.not_le.mp fun q => ?_
       have := Int.mul_nonpos_of_nonpos_of_nonneg q ht0
       unfold aff at hf
       omega
     have l2 : leQ (-f.1, f.2) t := by
       unfold leQ aff at *
       simp only
       have e1 : t.1 * f.2 = f.2 * t.1 := by grind
       have e2 : -f.1 * t.2 = -(f.1 * t.2) := by grind
       omega
     have l1 : leQ (0, 1) (-f.1, f.2) := by unfold leQ; simp only; omega
     have z : aff f (-f.1, f.2) = 0 := by unfold aff; simp only; grind
     refine ⟨(-f.1, f.2), by simp only; omega, hb, l2, fun x hx => ?_, f, zsZ .., hf0, z⟩
     rcases List.mem_cons.mp hx with e | e
     . rw [e, z]; omega
     . refine zeX (r := (0, 1)) (by decide) hb ht l1 l2 ?_ (hL x e)
       have : ¬ x.1 < 0 := fun q => hneg ⟨x, e, q⟩
       unfold aff; simp only; omega
end MX.P
end
section
namespace MX.P
theorem IsF.widen {m : Tq} {X Y : Int × Int -> Prop} (h : IsF m X) (sub : ∀ t, X t -> Y t) (dom : ∀ t : Int × Int, 0 <= t.1 -> 0 < t.2 -> Y t -> ∃ r : Int × Int, 0 <= r.1 /\ 0 < r.2 /\ X r /\ leQ r t) : IsF m Y := by
 cases m with
 | none =>
   intro t h1 h2 hy
   obtain ⟨r, r1, r2, r3, _⟩ := dom t h1 h2 hy
   exact h r r1 r2 r3
 | some s =>
   obtain ⟨a1, a2, a3, a4⟩ := h
   refine ⟨a1, a2, sub _ a3, fun t h1 h2 hy => ?_⟩
   obtain ⟨r, r1, r2, r3, r4⟩ := dom t h1 h2 hy
   exact zgU a2 r2 h2 (a4 r r1 r2 r3) r4
theorem zcp (d A B C : Pt) : zpC d (zpy A B) + zpC d (zpy B C) + zpC d (zpy C A) = zpC d (zpy (zpF B A) (zpF C A)) := by
 simp only [zpC, zpy, zpF]; grind
theorem zeD (n A B C : Pt) : zpC n (zpy B C) * A.1 + zpC n (zpy C A) * B.1 + zpC n (zpy A B) * C.1 = zpC A (zpy (zpF B A) (zpF C A)) * n.1
   /\ zpC n (zpy B C) * A.2.1 + zpC n (zpy C A) * B.2.1 + zpC n (zpy A B) * C.2.1 = zpC A (zpy (zpF B A) (zpF C A)) * n.2.1
   /\ zpC n (zpy B C) * A.2.2 + zpC n (zpy C A) * B.2.2 + zpC n (zpy A B) * C.2.2 = zpC A (zpy (zpF B A) (zpF C A)) * n.2.2 := by
 simp only [zpC, zpy, zpF]
 refine ⟨?_, ?_, ?_⟩ <;> grind
theorem zet {d A B C : Pt} {t : Int × Int} (hq : 0 < t.2) (h : inT d A B C t) : ∃ u v w : Int, 0 <= u /\ 0 <= v /\ 0 <= w /\ 0 < u + v + w
   /\ t.1 * zpC d (zpy (zpF B A) (zpF C A)) = t.2 * zpC A (zpy (zpF B A) (zpF C A))
   /\ (u + v + w) * zpC d (zpy B C) = u * zpC d (zpy (zpF B A) (zpF C A))
   /\ (u + v + w) * zpC d (zpy C A) = v * zpC d (zpy (zpF B A) (zpF C A))
   /\ (u + v + w) * zpC d (zpy A B) = w * zpC d (zpy (zpF B A) (zpF C A)) := by
 obtain ⟨u, v, w, u0, v0, w0, hs, c⟩ := h
 refine ⟨u, v, w, u0, v0, w0, hs, ?_⟩
 have c0 := c.dot (zpy (zpF B A) (zpF C A))
 have b0 : zpC B (zpy (zpF B A) (zpF C A)) = zpC A (zpy (zpF B A) (zpF C A)) := by simp only [zpC, zpy, zpF]; grind
 have d0 : zpC C (zpy (zpF B A) (zpF C A)) = zpC A (zpy (zpF B A) (zpF C A)) := by simp only [zpC, zpy, zpF]; grind
 rw [b0, d0] at c0
 have cA := c.dot (zpy A d)
 have cB := c.dot (zpy B d)
 have cC := c.dot (zpy C d)
 have z : ∀ X : Pt, zpC d (zpy X d) = 0 := fun X => by simp only [zpC, zpy]; grind
 have y : ∀ X : Pt, zpC X (zpy X d) = 0 := fun X => by simp only [zpC, zpy]; grind
 have x : ∀ X Y : Pt, zpC X (zpy Y d) = zpC d (zpy X Y) := fun X Y => by simp only [zpC, zpy]; grind
 have s : ∀ X Y : Pt, zpC d (zpy X Y) = - zpC d (zpy Y X) := fun X Y => by simp only [zpC, zpy]; grind
 rw [z, y, x B A, x C A, s B A] at cA
 rw [z, y, x A B, x C B, s C B] at cB
 rw [z, y, x A C, x B C, s A C] at cC
 have e := zcp d A B C
 generalize zpC d (zpy (zpF B A) (zpF C A)) = V at *
 generalize zpC A (zpy (zpF B A) (zpF C A)) = U at *
 generalize zpC d (zpy A B) = s1 at *
 generalize zpC d (zpy B C) = s2 at *
 generalize zpC d (zpy C A) = s3 at *
 have kA : w * s3 - v * s1 = 0 := zp9 hq (by grind)
 have kB : u * s1 - w * s2 = 0 := zp9 hq (by grind)
 have kC : v * s2 - u * s3 = 0 := zp9 hq (by grind)
 refine ⟨?_, ?_, ?_, ?_⟩
 . refine zrQ hs ?_
   grind
 . subst e; grind
 . subst e; grind
 . subst e; grind
theorem zm7 {d A B C : Pt} (h1 : 0 <= zpC d (zpy A B)) (h2 : 0 <= zpC d (zpy B C)) (h3 : 0 <= zpC d (zpy C A)) (hV : 0 < zpC d (zpy (zpF B A) (zpF C A))) : inT d A B C (zpC A (zpy (zpF B A) (zpF C A)), zpC d (zpy (zpF B A) (zpF C A))) := by
 obtain ⟨m1, m2, m3⟩ := zeD d A B C
 have e := zcp d A B C
 generalize zpC d (zpy (zpF B A) (zpF C A)) = V at *
 generalize zpC A (zpy (zpF B A) (zpF C A)) = U at *
 generalize zpC d (zpy A B) = s1 at *
 generalize zpC d (zpy B C) = s2 at *
 generalize zpC d (zpy C A) = s3 at *
 refine ⟨s2, s3, s1, h2, h3, h1, by omega, ?_, ?_, ?_⟩ <;> simp only <;> grind
theorem zla {d A B C : Pt} (h1 : zpC d (zpy A B) <= 0) (h2 : zpC d (zpy B C) <= 0) (h3 : zpC d (zpy C A) <= 0) (hV : zpC d (zpy (zpF B A) (zpF C A)) < 0) : inT d A B C (-zpC A (zpy (zpF B A) (zpF C A)), -zpC d (zpy (zpF B A) (zpF C A))) := by
 obtain ⟨m1, m2, m3⟩ := zeD d A B C
 have e := zcp d A B C
 generalize zpC d (zpy (zpF B A) (zpF C A)) = V at *
 generalize zpC A (zpy (zpF B A) (zpF C A)) = U at *
 generalize zpC d (zpy A B) = s1 at *
 generalize zpC d (zpy B C) = s2 at *
 generalize zpC d (zpy C A) = s3 at *
 refine ⟨-s2, -s3, -s1, by omega, by omega, by omega, by omega, ?_, ?_, ?_⟩ <;> simp only <;> grind
section
variable {d A B C : Pt}
abbrev nrm (A B C : Pt) : Pt := zpy (zpF B A) (zpF C A)
def f1 (d A B C : Pt) : Int × Int := (zpC (nrm A B C) (zpy A B), zpC (nrm A B C) (zpy (zpF B A) d))
def f2 (d A B C : Pt) : Int × Int := (zpC (nrm A B C) (zpy B C), zpC (nrm A B C) (zpy (zpF C B) d))
def f3 (d A B C : Pt) : Int × Int := (zpC (nrm A B C) (zpy C A), zpC (nrm A B C) (zpy (zpF A C) d))
theorem zpu (d A B C : Pt) : (f1 d A B C).1 + (f2 d A B C).1 + (f3 d A B C).1 = zpC (nrm A B C) (nrm A B C) /\ (f1 d A B C).2 + (f2 d A B C).2 + (f3 d A B C).2 = 0 := by
 refine ⟨zcp (nrm A B C) A B C, ?_⟩
 simp only [f1, f2, f3]
 generalize nrm A B C = n
 simp only [zpC, zpy, zpF]
 grind
theorem zeJ {n d X Y Z : Pt} {N u v w p q : Int} (c : Comb ((u + v + w) * p) d q u v w X Y Z) (hN : zpC n (zpy X Y) + zpC n (zpy Y Z) + zpC n (zpy Z X) = N) :
   (u + v + w) * (zpC n (zpy Y Z) * q + zpC n (zpy (zpF Z Y) d) * p) = q * u * N := by
 have c0 := c.dot (zpy (zpF Z Y) n)
 have b0 : zpC d (zpy (zpF Z Y) n) = - zpC n (zpy (zpF Z Y) d) := by simp only [zpC, zpy, zpF]; grind
 have b1 : zpC X (zpy (zpF Z Y) n) = - zpC n (zpy Z X) - zpC n (zpy X Y) := by simp only [zpC, zpy, zpF]; grind
 have b2 : zpC Y (zpy (zpF Z Y) n) = zpC n (zpy Y Z) := by simp only [zpC, zpy, zpF]; grind
 have b3 : zpC Z (zpy (zpF Z Y) n) = zpC n (zpy Y Z) := by simp only [zpC, zpy, zpF]; grind
 rw [b0, b1, b2, b3] at c0
 generalize zpC n (zpy X Y) = s1 at *
 generalize zpC n (zpy Y Z) = s2 at *
 generalize zpC n (zpy Z X) = s3 at *
 generalize zpC n (zpy (zpF Z Y) d) = s4 at *
 subst hN
 grind
theorem zg9 {k q u v w : Int} {d A B C : Pt} (c : Comb k d q u v w A B C) : Comb k d q v w u B C A := by
 obtain ⟨c1, c2, c3⟩ := c
 refine ⟨?_, ?_, ?_⟩ <;> grind
theorem zcg {s x y : Int} (hs : 0 < s) (h : s * x = y) (hy : 0 <= y) : 0 <= x := by
 refine Int.le_of_mul_le_mul_left (a := s) ?_ hs
 omega
theorem zj7 {t : Int × Int} (hN : 0 < zpC (nrm A B C) (nrm A B C)) (hq : 0 < t.2) (h : inT d A B C t) : 0 <= aff (f1 d A B C) t /\ 0 <= aff (f2 d A B C) t /\ 0 <= aff (f3 d A B C) t := by
 obtain ⟨u, v, w, u0, v0, w0, hs, c⟩ := h
 have e : zpC (nrm A B C) (zpy A B) + zpC (nrm A B C) (zpy B C) + zpC (nrm A B C) (zpy C A) = zpC (nrm A B C) (nrm A B C) := zcp (nrm A B C) A B C
 have c' := zg9 c
 have c'' := zg9 c'
 rw [show u + v + w = v + w + u by omega] at c'
 rw [show u + v + w = w + u + v by omega] at c''
 have p2 := zeJ c e
 have p3 := zeJ c' (N := zpC (nrm A B C) (nrm A B C)) (n := nrm A B C) (by omega)
 have p1 := zeJ c'' (N := zpC (nrm A B C) (nrm A B C)) (n := nrm A B C) (by omega)
 have g : ∀ x : Int, 0 <= x -> 0 <= t.2 * x * zpC (nrm A B C) (nrm A B C) := fun x hx => Int.mul_nonneg (Int.mul_nonneg (by omega) hx) (by omega)
 exact ⟨zcg (by omega) p1 (g w w0), zcg (by omega) p2 (g u u0), zcg (by omega) p3 (g v v0)⟩
theorem zgO {t : Int × Int} (hN : 0 < zpC (nrm A B C) (nrm A B C)) (hV : zpC d (nrm A B C) = 0) (hU : zpC A (nrm A B C) = 0) (hq : 0 < t.2) :
   Comb ((aff (f2 d A B C) t + aff (f3 d A B C) t + aff (f1 d A B C) t) * t.1) d t.2 (aff (f2 d A B C) t) (aff (f3 d A B C) t) (aff (f1 d A B C) t) A B C /\ 0 < aff (f2 d A B C) t + aff (f3 d A B C) t + aff (f1 d A B C) t := by
 obtain ⟨m1, m2, m3⟩ := zeD (nrm A B C) A B C
 obtain ⟨l1, l2, l3⟩ := lag d (zpF B A) (zpF C A)
 obtain ⟨s1, s2⟩ := zpu d A B C
 have sum : aff (f2 d A B C) t + aff (f3 d A B C) t + aff (f1 d A B C) t = zpC (nrm A B C) (nrm A B C) * t.2 := by
   unfold aff
   rw [<- s1]
   have : ((f1 d A B C).2 + (f2 d A B C).2 + (f3 d A B C).2) * t.1 = 0 := by rw [s2]; grind
   grind
 rw [hU] at m1 m2 m3
 rw [hV] at l1 l2 l3
 have k1 : zpC (zpy d (zpF C A)) (nrm A B C) = (f3 d A B C).2 := by
   simp only [f3]; generalize nrm A B C = n; simp only [zpC, zpy, zpF]; grind
 have k2 : - zpC (zpy d (zpF B A)) (nrm A B C) = (f1 d A B C).2 := by
   simp only [f1]; generalize nrm A B C = n; simp only [zpC, zpy, zpF]; grind
 rw [k1] at l1 l2 l3
 have k2' : zpC (zpy d (zpF B A)) (nrm A B C) = -(f1 d A B C).2 := by omega
 rw [k2'] at l1 l2 l3
 refine ⟨?_, by rw [sum]; exact Int.mul_pos hN hq⟩
 rw [sum]
 have j1 : zpC (nrm A B C) (zpy B C) = (f2 d A B C).1 := rfl
 have j2 : zpC (nrm A B C) (zpy C A) = (f3 d A B C).1 := rfl
 have j3 : zpC (nrm A B C) (zpy A B) = (f1 d A B C).1 := rfl
 rw [j1, j2, j3] at m1 m2 m3
 unfold aff
 generalize zpC (nrm A B C) (nrm A B C) = N at *
 generalize f1 d A B C = g1 at *
 generalize f2 d A B C = g2 at *
 generalize f3 d A B C = g3 at *
 obtain ⟨x1, y1⟩ := g1
 obtain ⟨x2, y2⟩ := g2
 obtain ⟨x3, y3⟩ := g3
 simp only [zpF] at *
 have hy : y2 = - y1 - y3 := by omega
 subst hy
 have gen : ∀ D a b c n1 n2 : Int, x2 * a + x3 * b + x1 * c = 0 * n1 -> N * D = y3 * (b - a) - -y1 * (c - a) + 0 * n2 -> N * t.2 * t.1 * D = t.2 * ((x2 * t.2 + (-y1 - y3) * t.1) * a + (x3 * t.2 + y3 * t.1) * b + (x1 * t.2 + y1 * t.1) * c) := fun D a b c n1 n2 e1 e2 => by
   have e3 : N * t.2 * t.1 * D = t.2 * t.1 * (N * D) := by grind
   rw [e3, e2]
   have e4 : t.2 * ((x2 * t.2 + (-y1 - y3) * t.1) * a + (x3 * t.2 + y3 * t.1) * b + (x1 * t.2 + y1 * t.1) * c) = t.2 * (t.2 * (x2 * a + x3 * b + x1 * c) + t.1 * ((-y1 - y3) * a + y3 * b + y1 * c)) := by grind
   rw [e4, e1]
   grind
 exact ⟨gen _ _ _ _ _ _ m1 l1, gen _ _ _ _ _ _ m2 l2, gen _ _ _ _ _ _ m3 l3⟩
end
theorem zhs {d A B C : Pt} {t : Int × Int} (hN : 0 < zpC (nrm A B C) (nrm A B C)) (hV : zpC d (nrm A B C) = 0) (hU : zpC A (nrm A B C) = 0)
   (hout : zpC (nrm A B C) (zpy A B) < 0 \/ zpC (nrm A B C) (zpy B C) < 0 \/ zpC (nrm A B C) (zpy C A) < 0) (hp : 0 <= t.1) (hq : 0 < t.2) (h : inT d A B C t) :
   ∃ r : Int × Int, 0 <= r.1 /\ 0 < r.2 /\ (inS d A B r \/ inS d B C r \/ inS d C A r) /\ leQ r t := by
 obtain ⟨a1, a2, a3⟩ := zj7 hN hq h
 obtain ⟨r, r0, r1, r2, r3, f, hf, _, hz⟩ := ze9 hp hq [f1 d A B C, f2 d A B C, f3 d A B C] (by
     intro f hf
     simp only [List.mem_cons, ztF, or_false] at hf
     rcases hf with e | e | e <;> subst e <;> assumption) (by
     rcases hout with q | q | q
     . exact ⟨f1 d A B C, by simp, q⟩
     . exact ⟨f2 d A B C, by simp, q⟩
     . exact ⟨f3 d A B C, by simp, q⟩)
 refine ⟨r, r0, r1, ?_, r2⟩
 have n1 := r3 (f1 d A B C) (by simp)
 have n2 := r3 (f2 d A B C) (by simp)
 have n3 := r3 (f3 d A B C) (by simp)
 obtain ⟨⟨c1, c2, c3⟩, hs⟩ := zgO (t := r) hN hV hU r1
 simp only [List.mem_cons, ztF, or_false] at hf
 rcases hf with e | e | e <;> subst e
 . left
   rw [hz] at c1 c2 c3 hs
   generalize aff (f2 d A B C) r = x2 at *
   generalize aff (f3 d A B C) r = x3 at *
   refine ⟨x2, x3, n2, n3, by omega, ?_, ?_, ?_⟩ <;> grind
 . right; left
   rw [hz] at c1 c2 c3 hs
   generalize aff (f1 d A B C) r = x1 at *
   generalize aff (f3 d A B C) r = x3 at *
   refine ⟨x3, x1, n3, n1, by omega, ?_, ?_, ?_⟩ <;> grind
 . right; right
   rw [hz] at c1 c2 c3 hs
   generalize aff (f1 d A B C) r = x1 at *
   generalize aff (f2 d A B C) r = x2 at *
   refine ⟨x1, x2, n1, n2, by omega, ?_, ?_, ?_⟩ <;> grind
theorem zgY (o w a b c : Pt) : goesM o w a b c = true ↔ (0 <= zpK o w a b /\ 0 <= zpK o w b c /\ 0 <= zpK o w c a) \/ (zpK o w a b <= 0 /\ zpK o w b c <= 0 /\ zpK o w c a <= 0) := by
 unfold goesM
 simp only [ztw, zs5, ztG, and_assoc]
theorem zhU {o d a b c : Pt} (h0 : d ≠ (0, 0, 0)) : IsF (zr5 o d a b c) (inT d (wb o a) (wb o b) (wb o c)) := by
 have ef := zgy (o := o) (a := a) (b := b) (c := c) h0
 have gd := zgY o d a b c
 have gn := zgY o (nrm (wb o a) (wb o b) (wb o c)) a b c
 unfold zr5 zqE
 unfold zpK at gd gn
 rw [zhR o a b, zhR o a c]
 generalize wb o a = A at *
 generalize wb o b = B at *
 generalize wb o c = C at *
 split
 . rename_i hf
   exact ef.congr fun t h1 h2 => ⟨zjp, zi2 hf⟩
 . rename_i hf
   have hN : 0 < zpC (nrm A B C) (nrm A B C) := zaH hf
   split
   . rename_i hV
     split
     . rename_i hU
       have sn : zpC (nrm A B C) (zpy A B) + zpC (nrm A B C) (zpy B C) + zpC (nrm A B C) (zpy C A) = zpC (nrm A B C) (nrm A B C) := zcp (nrm A B C) A B C
       split
       . rename_i hg
         refine ⟨Int.le_refl _, by decide, ?_, fun t h1 h2 _ => by unfold leQ; simp only; omega⟩
         obtain ⟨c, hs⟩ := zgO (d := d) (t := (0, 1)) hN hV hU (by decide)
         have e1 : aff (f1 d A B C) (0, 1) = zpC (nrm A B C) (zpy A B) := by unfold aff f1; simp only; omega
         have e2 : aff (f2 d A B C) (0, 1) = zpC (nrm A B C) (zpy B C) := by unfold aff f2; simp only; omega
         have e3 : aff (f3 d A B C) (0, 1) = zpC (nrm A B C) (zpy C A) := by unfold aff f3; simp only; omega
         rcases gn.mp hg with g | g
         . exact ⟨_, _, _, by omega, by omega, by omega, hs, c⟩
         . omega
       . rename_i hg
         refine ef.widen (fun t => zjp) fun t h1 h2 h => zhs hN hV hU ?_ h1 h2 h
         refine Classical.byContradiction fun q => hg (gn.mpr (.inl ?_))
         omega
     . rename_i hU
       intro t h1 h2 h
       obtain ⟨_, _, _, _, _, _, _, e, _⟩ := zet h2 h
       rw [hV] at e
       exact hU (zp9 h2 (by omega))
   . rename_i hV
     have sn := zcp d A B C
     split
     . rename_i hVn
       have key : ∀ t : Int × Int, 0 <= t.1 -> 0 < t.2 -> inT d A B C t -> t.1 * zpC d (zpy (zpF B A) (zpF C A)) = t.2 * zpC A (zpy (zpF B A) (zpF C A)) /\ goesM o d a b c = true := fun t h1 h2 h => by
         obtain ⟨u, v, w, u0, v0, w0, hs, e, e2, e3, e1⟩ := zet h2 h
         refine ⟨e, gd.mpr (.inr ⟨?_, ?_, ?_⟩)⟩
         . have := Int.mul_nonpos_of_nonneg_of_nonpos w0 (show zpC d (zpy (zpF B A) (zpF C A)) <= 0 by omega)
           exact Int.le_of_mul_le_mul_left (a := u + v + w) (by omega) hs
         . have := Int.mul_nonpos_of_nonneg_of_nonpos u0 (show zpC d (zpy (zpF B A) (zpF C A)) <= 0 by omega)
           exact Int.le_of_mul_le_mul_left (a := u + v + w) (by omega) hs
         . have := Int.mul_nonpos_of_nonneg_of_nonpos v0 (show zpC d (zpy (zpF B A) (zpF C A)) <= 0 by omega)
           exact Int.le_of_mul_le_mul_left (a := u + v + w) (by omega) hs
       split
       . rename_i hb
         intro t h1 h2 h
         obtain ⟨e, g⟩ := key t h1 h2 h
         rcases hb with q | q
         . have g1 := Int.mul_nonpos_of_nonneg_of_nonpos h1 (show zpC d (zpy (zpF B A) (zpF C A)) <= 0 by omega)
           have g2 := Int.mul_pos h2 (show 0 < zpC A (zpy (zpF B A) (zpF C A)) by omega)
           omega
         . rw [q] at g; cases g
       . rename_i hb
         have hg : goesM o d a b c = true := by
           rcases Bool.eq_false_or_eq_true (goesM o d a b c) with q | q
           . exact q
           . exact absurd (.inr q) hb
         refine IsF.red (m := some (_, _)) (ziS _ _ _ _) ⟨Int.not_lt.mp fun q => hb (.inl q), by simp only; omega, ?_, fun t h1 h2 h => ?_⟩
         . rcases gd.mp hg with g | g
           . omega
           . exact zla g.1 g.2.1 g.2.2 hVn
         . obtain ⟨e, _⟩ := key t h1 h2 h
           unfold leQ
           simp only
           rw [Int.mul_neg, Int.neg_mul]
           have := Int.mul_comm t.2 (zpC A (zpy (zpF B A) (zpF C A)))
           omega
     . rename_i hVn
       have hVp : 0 < zpC d (zpy (zpF B A) (zpF C A)) := by omega
       have key : ∀ t : Int × Int, 0 <= t.1 -> 0 < t.2 -> inT d A B C t -> t.1 * zpC d (zpy (zpF B A) (zpF C A)) = t.2 * zpC A (zpy (zpF B A) (zpF C A)) /\ goesM o d a b c = true := fun t h1 h2 h => by
         obtain ⟨u, v, w, u0, v0, w0, hs, e, e2, e3, e1⟩ := zet h2 h
         refine ⟨e, gd.mpr (.inl ⟨?_, ?_, ?_⟩)⟩
         . exact zcg hs e1 (Int.mul_nonneg w0 (show 0 <= zpC d (zpy (zpF B A) (zpF C A)) by omega))
         . exact zcg hs e2 (Int.mul_nonneg u0 (show 0 <= zpC d (zpy (zpF B A) (zpF C A)) by omega))
         . exact zcg hs e3 (Int.mul_nonneg v0 (show 0 <= zpC d (zpy (zpF B A) (zpF C A)) by omega))
       split
       . rename_i hb
         intro t h1 h2 h
         obtain ⟨e, g⟩ := key t h1 h2 h
         rcases hb with q | q
         . have g1 := Int.mul_nonneg h1 (show 0 <= zpC d (zpy (zpF B A) (zpF C A)) by omega)
           have g2 := Int.mul_neg_of_pos_of_neg h2 q
           omega
         . rw [q] at g; cases g
       . rename_i hb
         have hg : goesM o d a b c = true := by
           rcases Bool.eq_false_or_eq_true (goesM o d a b c) with q | q
           . exact q
           . exact absurd (.inr q) hb
         refine IsF.red (m := some (_, _)) (ziS _ _ _ _) ⟨Int.not_lt.mp fun q => hb (.inl q), hVp, ?_, fun t h1 h2 h => ?_⟩
         . rcases gd.mp hg with g | g
           . exact zm7 g.1 g.2.1 g.2.2 hVp
           . omega
         . obtain ⟨e, _⟩ := key t h1 h2 h
           show zpC A (zpy (zpF B A) (zpF C A)) * t.2 <= t.1 * zpC d (zpy (zpF B A) (zpF C A))
           have := Int.mul_comm t.2 (zpC A (zpy (zpF B A) (zpF C A)))
           omega
theorem zk8 (o d a b c : Pt) : zrt (zr5 o d a b c) := by
 unfold zr5 zqE
 intro r hr
 split at hr
 . exact zfO _ _ _ _ _ r hr
 . split at hr
   . split at hr
     . split at hr
       . cases hr; decide
       . exact zfO _ _ _ _ _ r hr
     . cases hr
   . split at hr
     . split at hr
       . cases hr
       . cases hr; exact zeH _ _
     . split at hr
       . cases hr
       . cases hr; exact zeH _ _
end MX.P
end
section
namespace MX.P
abbrev Tr := Pt × Pt × Pt
def inTr (o d : Pt) (T : Tr) (t : Int × Int) : Prop := inT d (wb o T.1) (wb o T.2.1) (wb o T.2.2) t
def inPt (lo hi p : Pt) : Prop := (lo.1 <= p.1 /\ p.1 <= hi.1) /\ (lo.2.1 <= p.2.1 /\ p.2.1 <= hi.2.1) /\ (lo.2.2 <= p.2.2 /\ p.2.2 <= hi.2.2)
theorem zgk {u v w s p q x dx l h a b c : Int} (u0 : 0 <= u) (v0 : 0 <= v) (w0 : 0 <= w) (hs : 0 < u + v + w) (hq : 0 < q) (e : (u + v + w) * p * dx = q * (u * (a - x) + v * (b - x) + w * (c - x))) (ha : l <= a /\ a <= h) (hb : l <= b /\ b <= h) (hc : l <= c /\ c <= h) : l * q <= x * q + dx * p /\ x * q + dx * p <= h * q := by
 have e1 : (u + v + w) * (x * q + dx * p) = q * (u * a + v * b + w * c) := by grind
 have g1 := Int.mul_le_mul_of_nonneg_left ha.1 u0
 have g2 := Int.mul_le_mul_of_nonneg_left hb.1 v0
 have g3 := Int.mul_le_mul_of_nonneg_left hc.1 w0
 have g4 := Int.mul_le_mul_of_nonneg_left ha.2 u0
 have g5 := Int.mul_le_mul_of_nonneg_left hb.2 v0
 have g6 := Int.mul_le_mul_of_nonneg_left hc.2 w0
 have g7 := Int.mul_le_mul_of_nonneg_left (show u * l + v * l + w * l <= u * a + v * b + w * c by omega) (show 0 <= q by omega)
 have g8 := Int.mul_le_mul_of_nonneg_left (show u * a + v * b + w * c <= u * h + v * h + w * h by omega) (show 0 <= q by omega)
 constructor
 . refine Int.le_of_mul_le_mul_left (a := u + v + w) ?_ hs
   have : (u + v + w) * (l * q) = q * (u * l + v * l + w * l) := by grind
   omega
 . refine Int.le_of_mul_le_mul_left (a := u + v + w) ?_ hs
   have : (u + v + w) * (h * q) = q * (u * h + v * h + w * h) := by grind
   omega
theorem zoV {o d lo hi : Pt} {T : Tr} {t : Int × Int} (h1 : inPt lo hi T.1) (h2 : inPt lo hi T.2.1) (h3 : inPt lo hi T.2.2) (hq : 0 < t.2) (h : inTr o d T t) : inB o d lo hi t := by
 obtain ⟨u, v, w, u0, v0, w0, hs, c1, c2, c3⟩ := h
 exact ⟨zgk (s := 0) u0 v0 w0 hs hq c1 h1.1 h2.1 h3.1, zgk (s := 0) u0 v0 w0 hs hq c2 h1.2.1 h2.2.1 h3.2.1, zgk (s := 0) u0 v0 w0 hs hq c3 h1.2.2 h2.2.2 h3.2.2⟩
theorem zi3 {x y X Y q : Int} (hq : 0 < q) (x0 : 0 <= x) (x1 : x <= q * X) (y0 : 0 <= y) (y1 : y <= q * Y) (hX : 0 <= X) (hY : 0 <= Y) :
   (∃ u v w : Int, 0 <= u /\ 0 <= v /\ 0 <= w /\ 0 < u + v + w /\ (u + v + w) * x = q * ((v + w) * X) /\ (u + v + w) * y = q * (w * Y))
   \/ ∃ u v w : Int, 0 <= u /\ 0 <= v /\ 0 <= w /\ 0 < u + v + w /\ (u + v + w) * x = q * (v * X) /\ (u + v + w) * y = q * ((v + w) * Y) := by
 by_cases zX : X = 0
 . have zx : x = 0 := by subst zX; omega
   by_cases zY : Y = 0
   . have zy : y = 0 := by subst zY; omega
     exact .inl ⟨1, 0, 0, by omega, by omega, by omega, by omega, by grind, by grind⟩
   . have := Int.mul_pos hq (show 0 < Y by omega)
     exact .inl ⟨q * Y - y, 0, y, by omega, by omega, by omega, by omega, by grind, by grind⟩
 . by_cases zY : Y = 0
   . have zy : y = 0 := by subst zY; omega
     have := Int.mul_pos hq (show 0 < X by omega)
     exact .inl ⟨q * X - x, x, 0, by omega, by omega, by omega, by omega, by grind, by grind⟩
   . have pX : 0 < X := by omega
     have pY : 0 < Y := by omega
     have pq := Int.mul_pos (Int.mul_pos hq pX) pY
     have a1 := Int.mul_nonneg (show 0 <= q * X - x by omega) hY
     have a2 := Int.mul_nonneg (show 0 <= q * Y - y by omega) hX
     have a3 := Int.mul_nonneg x0 hY
     have a4 := Int.mul_nonneg y0 hX
     by_cases hc : y * X <= x * Y
     . refine .inl ⟨(q * X - x) * Y, x * Y - y * X, y * X, a1, by omega, a4, ?_, by grind, by grind⟩
       have : (q * X - x) * Y + (x * Y - y * X) + y * X = q * X * Y := by grind
       omega
     . refine .inr ⟨(q * Y - y) * X, x * Y, y * X - x * Y, a2, a3, by omega, ?_, by grind, by grind⟩
       have : (q * Y - y) * X + x * Y + (y * X - x * Y) = q * X * Y := by grind
       omega
theorem zcj {u v w p q o d f : Int} (e : o * q + d * p = f * q) : (u + v + w) * p * d = q * (u * (f - o) + v * (f - o) + w * (f - o)) := by grind
theorem zfa {u v w p q o d l h : Int} (e : (u + v + w) * (o * q + d * p - l * q) = q * ((v + w) * (h - l))) : (u + v + w) * p * d = q * (u * (l - o) + v * (h - o) + w * (h - o)) := by grind
theorem zi5 {u v w p q o d l h : Int} (e : (u + v + w) * (o * q + d * p - l * q) = q * (w * (h - l))) : (u + v + w) * p * d = q * (u * (l - o) + v * (l - o) + w * (h - o)) := by grind
theorem zi4 {u v w p q o d l h : Int} (e : (u + v + w) * (o * q + d * p - l * q) = q * (v * (h - l))) : (u + v + w) * p * d = q * (u * (l - o) + v * (h - o) + w * (l - o)) := by grind
theorem ax_w {o d l h : Int} {t : Int × Int} (hx : zrg o d l h t) : 0 <= o * t.2 + d * t.1 - l * t.2 /\ o * t.2 + d * t.1 - l * t.2 <= t.2 * (h - l) := by
 obtain ⟨h1, h2⟩ := hx
 constructor
 . omega
 . have : t.2 * (h - l) = h * t.2 - l * t.2 := by grind
   omega
def trs (k : Nat) (lo hi : Pt) (f : Int) : List Tr := match k with
 | 0 => [((f, lo.2.1, lo.2.2), (f, hi.2.1, lo.2.2), (f, hi.2.1, hi.2.2)), ((f, lo.2.1, lo.2.2), (f, hi.2.1, hi.2.2), (f, lo.2.1, hi.2.2))]
 | 1 => [((lo.1, f, lo.2.2), (lo.1, f, hi.2.2), (hi.1, f, hi.2.2)), ((lo.1, f, lo.2.2), (hi.1, f, hi.2.2), (hi.1, f, lo.2.2))]
 | _ => [((lo.1, lo.2.1, f), (hi.1, lo.2.1, f), (hi.1, hi.2.1, f)), ((lo.1, lo.2.1, f), (hi.1, hi.2.1, f), (lo.1, hi.2.1, f))]
def zqF (lo hi : Pt) : Prop := lo.1 <= hi.1 /\ lo.2.1 <= hi.2.1 /\ lo.2.2 <= hi.2.2
theorem face0 {o d lo hi : Pt} {f : Int} {t : Int × Int} (hb : zqF lo hi) (hq : 0 < t.2) (h2 : zrg o.2.1 d.2.1 lo.2.1 hi.2.1 t) (h3 : zrg o.2.2 d.2.2 lo.2.2 hi.2.2 t) (e : o.1 * t.2 + d.1 * t.1 = f * t.2) : ∃ T ∈ trs 0 lo hi f, inTr o d T t := by
 obtain ⟨b1, b2, b3⟩ := hb
 obtain ⟨x0, x1⟩ := ax_w h2
 obtain ⟨y0, y1⟩ := ax_w h3
 rcases zi3 hq x0 x1 y0 y1 (by omega) (by omega) with ⟨u, v, w, u0, v0, w0, hs, e1, e2⟩ | ⟨u, v, w, u0, v0, w0, hs, e1, e2⟩
 . exact ⟨_, zsZ .., u, v, w, u0, v0, w0, hs, zcj e, zfa e1, zi5 e2⟩
 . exact ⟨_, zsY _ (zsZ ..), u, v, w, u0, v0, w0, hs, zcj e, zi4 e1, zfa e2⟩
theorem face1 {o d lo hi : Pt} {f : Int} {t : Int × Int} (hb : zqF lo hi) (hq : 0 < t.2) (h3 : zrg o.1 d.1 lo.1 hi.1 t) (h2 : zrg o.2.2 d.2.2 lo.2.2 hi.2.2 t) (e : o.2.1 * t.2 + d.2.1 * t.1 = f * t.2) : ∃ T ∈ trs 1 lo hi f, inTr o d T t := by
 obtain ⟨b1, b2, b3⟩ := hb
 obtain ⟨x0, x1⟩ := ax_w h2
 obtain ⟨y0, y1⟩ := ax_w h3
 rcases zi3 hq x0 x1 y0 y1 (by omega) (by omega) with ⟨u, v, w, u0, v0, w0, hs, e1, e2⟩ | ⟨u, v, w, u0, v0, w0, hs, e1, e2⟩
 . exact ⟨_, zsZ .., u, v, w, u0, v0, w0, hs, zi5 e2, zcj e, zfa e1⟩
 . exact ⟨_, zsY _ (zsZ ..), u, v, w, u0, v0, w0, hs, zfa e2, zcj e, zi4 e1⟩
theorem face2 {o d lo hi : Pt} {f : Int} {t : Int × Int} (hb : zqF lo hi) (hq : 0 < t.2) (h2 : zrg o.1 d.1 lo.1 hi.1 t) (h3 : zrg o.2.1 d.2.1 lo.2.1 hi.2.1 t) (e : o.2.2 * t.2 + d.2.2 * t.1 = f * t.2) : ∃ T ∈ trs 2 lo hi f, inTr o d T t := by
 obtain ⟨b1, b2, b3⟩ := hb
 obtain ⟨x0, x1⟩ := ax_w h2
 obtain ⟨y0, y1⟩ := ax_w h3
 rcases zi3 hq x0 x1 y0 y1 (by omega) (by omega) with ⟨u, v, w, u0, v0, w0, hs, e1, e2⟩ | ⟨u, v, w, u0, v0, w0, hs, e1, e2⟩
 . exact ⟨_, zsZ .., u, v, w, u0, v0, w0, hs, zfa e1, zi5 e2, zcj e⟩
 . exact ⟨_, zsY _ (zsZ ..), u, v, w, u0, v0, w0, hs, zi4 e1, zfa e2, zcj e⟩
end MX.P
end
section
namespace MX.P
def zqa (a b c : Pt) : Int := zpC a (zpy b c)
def sal (v : Pt) : Int := if v.1 ≠ 0 then v.1.sign else if v.2.1 ≠ 0 then v.2.1.sign else v.2.2.sign
def goM (X Y Z : Pt) : Int := if sal (zpy X Y) = (zqa X Y Z).sign /\ sal (zpy Y Z) = (zqa X Y Z).sign /\ sal (zpy Z X) = (zqa X Y Z).sign then (zqa X Y Z).sign else 0
def gs (t a b c : Int) : Int := if a == t && b == t && c == t then t else 0
theorem zgd (X Y : Pt) : sal (zpy Y X) = -sal (zpy X Y) := by
 have e1 : (zpy Y X).1 = -(zpy X Y).1 := by unfold zpy; simp only; grind
 have e2 : (zpy Y X).2.1 = -(zpy X Y).2.1 := by unfold zpy; simp only; grind
 have e3 : (zpy Y X).2.2 = -(zpy X Y).2.2 := by unfold zpy; simp only; grind
 unfold sal
 rw [e1, e2, e3]
 simp only [ne_eq, Int.neg_eq_zero, Int.sign_neg]
 split
 . rfl
 . split <;> rfl
theorem zkC (X Y Z : Pt) : zqa X Z Y = -zqa X Y Z := by unfold zqa zpC zpy; simp only; grind
theorem zom (X Y Z : Pt) : goM X Y Z = gs (zqa X Y Z).sign (sal (zpy X Y)) (sal (zpy Y Z)) (sal (zpy Z X)) := by
 unfold goM gs
 by_cases h : sal (zpy X Y) = (zqa X Y Z).sign /\ sal (zpy Y Z) = (zqa X Y Z).sign /\ sal (zpy Z X) = (zqa X Y Z).sign
 . rw [if_pos h, if_pos (by simp only [zs5, beq_iff_eq]; exact ⟨⟨h.1, h.2.1⟩, h.2.2⟩)]
 . rw [if_neg h, if_neg (by simp only [zs5, beq_iff_eq]; exact fun q => h ⟨q.1.1, q.1.2, q.2⟩)]
theorem zmo (X Y Z : Pt) : goM X Z Y = -goM X Y Z := by
 rw [zom, zom, zkC X Y Z, zgd Z X, zgd Y Z, zgd X Y, Int.sign_neg]
 unfold gs
 generalize (zqa X Y Z).sign = t
 generalize sal (zpy X Y) = a
 generalize sal (zpy Y Z) = b
 generalize sal (zpy Z X) = c
 by_cases h : a = t /\ b = t /\ c = t
 . rw [if_pos (by simp only [zs5, beq_iff_eq]; omega), if_pos (by simp only [zs5, beq_iff_eq]; omega)]
 . rw [if_neg (by simp only [zs5, beq_iff_eq]; omega), if_neg (by simp only [zs5, beq_iff_eq]; omega)]; rfl
def onT (A B C : Pt) : Prop := ∃ u v w : Int, 0 <= u /\ 0 <= v /\ 0 <= w /\ 0 < u + v + w /\ u * A.1 + v * B.1 + w * C.1 = 0 /\ u * A.2.1 + v * B.2.1 + w * C.2.1 = 0 /\ u * A.2.2 + v * B.2.2 + w * C.2.2 = 0
end MX.P
end
section
namespace MX.P
def pK (p : Pt) : List Int := [p.1, p.2.1, p.2.2]
def eK (e : Pt × Pt) : NK := [pK e.1, pK e.2]
theorem zkV {p q : Pt} (h : pK p = pK q) : p = q := by
 obtain ⟨a, b, c⟩ := p
 obtain ⟨d, e, f⟩ := q
 simp only [pK, List.cons.injEq, and_true] at h
 rw [h.1, h.2.1, h.2.2]
theorem zoA {p q : Pt × Pt} (h : eK p = eK q) : p = q := by
 simp only [eK, List.cons.injEq, and_true] at h
 exact Prod.ext (zkV h.1) (zkV h.2)
def swp (e : Pt × Pt) : Pt × Pt := (e.2, e.1)
def bump (xs : List (NK × Int)) (k : NK) : List (NK × Int) := zrr xs k ((zqe xs k).getD 0 + 1)
def zqR (L : List NK) : List (NK × Int) := L.foldl bump []
theorem zci (x : NK × Int) (xs : List (NK × Int)) (j : NK) : zqe (x :: xs) j = if x.1 = j then some x.2 else zqe xs j := by
 unfold zqe
 by_cases h : x.1 = j <;> simp [h]
theorem ziU (xs : List (NK × Int)) (x : NK × Int) (j : NK) : zqe (xs ++ [x]) j = (zqe xs j).or (if x.1 = j then some x.2 else none) := by
 induction xs with
 | nil => rw [ztK, zci]; rfl
 | cons y r ih =>
   rw [List.cons_append, zci, zci, ih]
   by_cases h : y.1 = j
   . rw [if_pos h, if_pos h]; rfl
   . rw [if_neg h, if_neg h]
theorem ziV (xs : List (NK × Int)) (k : NK) (i : Int) (j : NK) : zqe (xs.map fun x => if x.1 = k then (x.1, i) else x) j = if j = k then (zqe xs j).map (fun _ => i) else zqe xs j := by
 induction xs with
 | nil => by_cases h : j = k <;> simp [zqe, h]
 | cons y r ih =>
   rw [ztJ, zci, zci, ih]
   by_cases h : y.1 = k
   . rw [if_pos h]
     by_cases h2 : y.1 = j
     . rw [if_pos h2, if_pos h2, if_pos (h2 ▸ h)]; rfl
     . rw [if_neg h2, if_neg h2]
   . rw [if_neg h]
     by_cases h2 : y.1 = j
     . rw [if_pos h2, if_pos h2, if_neg (fun z => h (h2.trans z))]
     . rw [if_neg h2, if_neg h2]
theorem zks (xs : List (NK × Int)) (k : NK) (i : Int) (j : NK) : zqe (zrr xs k i) j = if j = k then some i else zqe xs j := by
 unfold zrr
 cases hk : zqe xs k with
 | none =>
   rw [if_neg (by simp), ziU]
   by_cases h : j = k
   . subst h; rw [hk]; simp
   . rw [if_neg (fun z => h z.symm), if_neg h, Option.or_none]
 | some v =>
   rw [if_pos (by simp), ziV]
   by_cases h : j = k
   . subst h; rw [if_pos rfl, if_pos rfl, hk]; rfl
   . rw [if_neg h, if_neg h]
theorem zkE (L : List NK) : ∀ (xs : List (NK × Int)) (j : NK), (zqe (L.foldl bump xs) j).getD 0 = (zqe xs j).getD 0 + L.count j := by
 induction L with
 | nil => intro xs j; simp
 | cons k r ih =>
   intro xs j
   rw [List.foldl_cons, ih, bump, zks, List.count_cons]
   by_cases h : j = k
   . subst h
     rw [if_pos rfl, if_pos (by simp)]
     simp only [Option.getD_some]
     omega
   . rw [if_neg h, if_neg (by simpa using fun z => h z.symm)]
     omega
theorem zgA (L : List NK) (j : NK) : (zqe (zqR L) j).getD 0 = L.count j := by
 unfold zqR
 rw [zkE]
 simp [zqe]
theorem zkm {xs : List (NK × Int)} {k : NK} {i : Int} (h : (xs.map (·.1)).Nodup) : ((zrr xs k i).map (·.1)).Nodup := by
 unfold zrr
 cases hk : zqe xs k with
 | none =>
   rw [if_neg (by simp), zth, List.nodup_append]
   refine ⟨h, by simp, fun a ha b hb z => ?_⟩
   have hb' : b = k := by simpa using hb
   subst hb'
   obtain ⟨y, hy, e⟩ := List.mem_map.mp ha
   unfold zqe at hk
   simp only [Option.map_eq_none_iff, List.find?_eq_none, ztG] at hk
   exact hk y hy (e.trans z)
 | some v =>
   rw [if_pos (by simp)]
   have e : (xs.map fun x => if x.1 = k then (x.1, i) else x).map (·.1) = xs.map (·.1) := by
     rw [List.map_map]
     refine List.map_congr_left fun x _ => ?_
     show (if x.1 = k then (x.1, i) else x).1 = x.1
     split <;> rfl
   rw [e]; exact h
theorem zkn (L : List NK) : ∀ {xs : List (NK × Int)}, (xs.map (·.1)).Nodup -> ((L.foldl bump xs).map (·.1)).Nodup := by
 induction L with
 | nil => intro xs h; exact h
 | cons k r ih => intro xs h; exact ih (zkm h)
theorem zmg {xs : List (NK × Int)} {k : NK} {i : Int} {x : NK × Int} (h : x ∈ zrr xs k i) : x.1 = k \/ x ∈ xs := by
 unfold zrr at h
 split at h
 . obtain ⟨y, hy, rfl⟩ := List.mem_map.mp h
   split
   . rename_i e; exact .inl e
   . exact .inr hy
 . rcases ztf.mp h with h | h
   . exact .inr h
   . exact .inl (by rw [List.mem_singleton.mp h])
theorem zmh (L : List NK) : ∀ {xs : List (NK × Int)} {x : NK × Int}, x ∈ L.foldl bump xs -> x.1 ∈ L \/ x ∈ xs := by
 induction L with
 | nil => intro xs x h; exact .inr h
 | cons k r ih =>
   intro xs x h
   rcases ih (show x ∈ r.foldl bump (bump xs k) from h) with h | h
   . exact .inl (zsY _ h)
   . rcases zmg h with h | h
     . exact .inl (h ▸ zsZ)
     . exact .inr h
theorem zn2 {xs : List (NK × Int)} (h : (xs.map (·.1)).Nodup) {x : NK × Int} (hx : x ∈ xs) : zqe xs x.1 = some x.2 := by
 induction xs with
 | nil => cases hx
 | cons y r ih =>
   rw [ztJ, List.nodup_cons] at h
   rw [zci]
   rcases List.mem_cons.mp hx with rfl | hx
   . rw [if_pos rfl]
   . have : y.1 ≠ x.1 := fun z => h.1 (z ▸ List.mem_map.mpr ⟨x, hx, rfl⟩)
     rw [if_neg this]; exact ih h.2 hx
theorem zgm (L : List NK) : ∀ {xs : List (NK × Int)}, (L.foldl bump xs).length <= xs.length + L.length := by
 induction L with
 | nil => intro xs; simp
 | cons k r ih =>
   intro xs
   have h1 : (bump xs k).length <= xs.length + 1 := by
     unfold bump zrr
     split <;> simp
   have := ih (xs := bump xs k)
   rw [List.foldl_cons, ztg]
   omega
theorem zeq (E : List (Pt × Pt)) (e : Pt × Pt) : (E.map eK).count (eK e) = E.count e := by
 induction E with
 | nil => rfl
 | cons x r ih =>
   rw [ztJ, List.count_cons, List.count_cons, ih]
   by_cases h : x = e
   . subst h; simp
   . rw [if_neg (by simpa using fun z => h (zoA z)), if_neg (by simpa using h)]
def zqI (E : List (Pt × Pt)) : Prop := ∀ e, E.count e = E.count (swp e)
theorem zjv (E : List (Pt × Pt)) (e : Pt × Pt) : (E.map swp).count e = E.count (swp e) := by
 induction E with
 | nil => rfl
 | cons x r ih =>
   rw [ztJ, List.count_cons, List.count_cons, ih]
   by_cases h : x = swp e
   . subst h; simp [swp]
   . rw [if_neg (by simpa using fun z => h (by rw [<- z]; rfl)), if_neg (by simpa using h)]
def edE (t : Tr) : List (Pt × Pt) := [(t.1, t.2.1), (t.2.1, t.2.2), (t.2.2, t.1)]
def edL (ts : List Tr) : List (Pt × Pt) := ts.flatMap edE
theorem zhI : zqI [] := fun _ => rfl
end MX.P
end
section
namespace MX.P
def onB (p a b c : Pt) : Bool := decide (zr5 p (1, 0, 0) a b c = some (0, 1))
theorem zfJ {d A B C : Pt} : inT d A B C (0, 1) ↔ onT A B C := by
 constructor
 . rintro ⟨u, v, w, h1, h2, h3, h4, e1, e2, e3⟩
   simp only [Int.mul_zero, Int.zero_mul, Int.one_mul] at e1 e2 e3
   exact ⟨u, v, w, h1, h2, h3, h4, e1.symm, e2.symm, e3.symm⟩
 . rintro ⟨u, v, w, h1, h2, h3, h4, e1, e2, e3⟩
   refine ⟨u, v, w, h1, h2, h3, h4, ?_, ?_, ?_⟩ <;> simp only [Int.mul_zero, Int.zero_mul, Int.one_mul]
   . exact e1.symm
   . exact e2.symm
   . exact e3.symm
theorem zma (p a b c : Pt) : onB p a b c = true ↔ onT (wb p a) (wb p b) (wb p c) := by
 have h0 : ((1, 0, 0) : Pt) ≠ (0, 0, 0) := by decide
 have hF := zhU (o := p) (a := a) (b := b) (c := c) h0
 have hR := zk8 p (1, 0, 0) a b c
 unfold onB
 rw [ztG, <- zfJ (d := (1, 0, 0))]
 generalize zr5 p (1, 0, 0) a b c = m at *
 constructor
 . intro e
   subst e
   exact hF.2.2.1
 . intro hX
   cases m with
   | none => exact absurd hX (hF (0, 1) (by decide) (by decide))
   | some r =>
     obtain ⟨g1, g2, _, g4⟩ := hF
     have g5 := g4 (0, 1) (by decide) (by decide) hX
     unfold leQ at g5
     simp only [Int.mul_one, Int.zero_mul] at g5
     have z : r.1 = 0 := by omega
     have e := hR r rfl
     unfold zqw at e
     rw [z, Rat.zero_divInt] at e
     rw [<- e]; rfl
end MX.P
end
section
namespace MX.P
open PySem L2 MX
section
variable {σ σ1 : Sg} {S S1 S2 : So} {fo : EF} {aa : AF}
theorem zjg {n : Nat} {xs ys : List (NK × Int)} {kd : D} {kk : NK} {i : Int} (h1 : fo σ S = some (.ref n, S1)) (h2 : S1[n]? = some (.dct xs)) (h3 : aa σ S1 = some ([kd, .int i], S2)) (h4 : S2[n]? = some (.dct ys)) (h5 : zsm kd = some kk) : eDM zqC fo aa σ S = some (.int ((zqe ys kk).getD i), S2) := by
 unfold eDM
 rw [h1]; simp only [zs6]; rw [h2]; simp only; rw [h3]; simp only [zs6]
 unfold zqC
 simp only; rw [h4]; simp only; rw [h5]; rfl
theorem zkz {n : Nat} {xs : List (NK × Int)} {ks : List D} {j : Int} {kk : NK} (h1 : S[n]? = some (.dct xs)) (h2 : xs.length < sizeLine) (h3 : zqx ks = some kk) : zsr (.ref n) (.tup ks) (.int j) S = some (S.set n (.dct (zrr xs kk j))) := by
 unfold zsr
 simp only; rw [h1]; simp only; rw [if_pos h2, h3]; rfl
theorem zjd {n : Nat} {xs : List (NK × Int)} (h1 : fo σ S = some (.ref n, S1)) (h2 : S1[n]? = some (.dct xs)) : zqP fo σ S = some (.itm n xs.length, S1) := by
 unfold zqP; rw [h1]; simp only [zs6]; rw [h2]
theorem zmK {n : Nat} {xs : List (NK × Int)} (h : S[n]? = some (.dct xs)) : zsO (.itm n xs.length) S = some xs.length := by
 unfold zsO; simp only; rw [h]; simp only; rw [if_pos trivial]
theorem zn0 {n : Nat} {xs : List (NK × Int)} (h : S[n]? = some (.dct xs)) (i : Nat) : nxD (.itm n xs.length) i S = some (xs.map fun x => D.tup [kD x.1, .int x.2])[i]? := by
 unfold nxD; simp only; rw [h]; simp only; rw [if_pos trivial, ztb]
end
theorem _root_.MX.Gr.set {S T : So} (g : Gr S T) {m : Nat} (hm : S.length <= m) {o : O} (ho : O.lo T.length o = true) : Gr S (T.set m o) := by
 obtain ⟨⟨G, rfl⟩, h⟩ := g
 refine ⟨⟨G.set (m - S.length) o, by rw [List.set_append_right _ _ hm]⟩, fun p hp => ?_⟩
 rw [List.length_set]
 rcases List.mem_or_eq_of_mem_set hp with hp | rfl
 . exact h p hp
 . exact ho
def eD (e : Pt × Pt) : D := .tup [pD e.1, pD e.2]
theorem zpk (e : Pt × Pt) : zqx [pD e.1, pD e.2] = some (eK e) := rfl
theorem zpn (e : Pt × Pt) : kD (eK e) = eD e := rfl
def trT (t : Tr) : D := .tup [pD t.1, pD t.2.1, pD t.2.2]
end MX.P
end
section
local macro_rules | `(tactic| wtm_at "?d") => `(tactic| first | (with_reducible assumption) | (with_reducible exact MX.P.sp_wb _ _ _) | ((with_reducible apply MX.P.sp_vdot); (focus with_reducible assumption); (focus with_reducible assumption); (focus omega)) | ((with_reducible apply MX.P.sp_vcross); (focus with_reducible assumption); (focus with_reducible assumption); (focus omega)))
namespace MX.P
open PySem L2 MX
theorem sp_sign_of (x : Int) (S : So) : zcM [.int x] S = some (.int x.sign, S) := by
 by_cases h : x = 0
 . subst h
   apply zaf
   . wtm_at "?b"
     unfold zcQ
     wtm_at "?a"
   . wtm_at "?c"
   . rfl
 . by_cases h2 : x > 0
   . rw [Int.sign_eq_one_of_pos h2]
     apply zaf
     . wtm_at "?b"
       unfold zcQ
       wtm_at "?a"
     . wtm_at "?c"
     . rfl
   . rw [Int.sign_eq_neg_one_of_neg (by omega)]
     apply zaf
     . wtm_at "?b"
       unfold zcQ
       wtm_at "?a"
     . wtm_at "?c"
     . rfl
theorem sp_sign_along (v : Pt) (S : So) : zbt [pD v] S = some (.int (sal v), S) := by
 obtain ⟨x, y, z⟩ := v
 have s1 := sp_sign_of x S
 have s2 := sp_sign_of y S
 have s3 := sp_sign_of z S
 unfold sal
 simp only
 by_cases hx : x = 0
 . rw [if_neg (by simpa using hx)]
   by_cases hy : y = 0
   . rw [if_neg (by simpa using hy)]
     by_cases hz : z = 0
     . subst hx hy hz
       apply zaf
       . wtm_at "?b"
         unfold za1
         wtm_at "?a"
       . wtm_at "?c"
       . rfl
     . subst hx hy
       apply zaf
       . wtm_at "?b"
         unfold za1
         wtm_at "?a"
       . wtm_at "?c"
       . rfl
   . rw [if_pos hy]
     subst hx
     apply zaf
     . wtm_at "?b"
       unfold za1
       wtm_at "?a"
     . wtm_at "?c"
     . rfl
 . rw [if_pos hx]
   apply zaf
   . wtm_at "?b"
     unfold za1
     wtm_at "?a"
   . wtm_at "?c"
   . rfl
theorem zey {k : Nat} {a b c : Pt} {n : Nat} {S : So} (hn : S[n]? = some (.lst [pD a, pD b, pD c])) (ha : BdP k a) (hb : BdP k b) (hc : BdP k c) (hk : k <= 10000) : zcr [.ref n] S = some (.int (zqa a b c), S) := by
 have bc := hb.cross hc
 have h1 := sp_vcross hb hc (by omega) S
 have h2 := sp_vdot ha bc (by omega) S
 unfold zqa
 apply zaf
 . wtm_at "?b"
   unfold zcz
   wtm_at "?a"
 . wtm_at "?c"
 . rfl
end MX.P
end
section
local macro_rules | `(tactic| wtm_at "?d") => `(tactic| first | (with_reducible assumption))
namespace MX.P
open PySem L2 MX
theorem zbA : 100000 <= sizeLine := by decide
theorem zg7 {ts : List Tr} {i : Nat} {t : Tr} (h : ts[i]? = some t) : edL (ts.take (i + 1)) = edL (ts.take i) ++ edE t := by
 obtain ⟨h1, h2⟩ := zsX.mp h
 have : ts.take (i + 1) = ts.take i ++ [t] := by rw [<- h2]; simp
 rw [this]
 unfold edL
 rw [List.flatMap_append]
 simp
theorem zfu (ts : List Tr) : (edL ts).length = 3 * ts.length := by
 induction ts with
 | nil => rfl
 | cons t r ih =>
   have : edL (t :: r) = edE t ++ edL r := rfl
   rw [this, zs9, ih, ztg]
   show 3 + _ = _
   omega
theorem zjx (L M : List NK) : zqR (L ++ M) = M.foldl bump (zqR L) := by unfold zqR; rw [List.foldl_append]
theorem zd0 {x0 x1 : Option D} {m : Nat} {e : Pt × Pt} {xs : List (NK × Int)} {T : So} (h : T[m]? = some (.dct xs)) (hl : xs.length < 100000) :
   zbi [x0, some (.ref m), x1, some (eD e)] T = some (.nx, [x0, some (.ref m), x1, some (eD e)], T.set m (.dct (bump xs (eK e)))) := by
 unfold zbi zbL
 refine zac (zai (zah (zjg (kd := eD e) (kk := eK e) (zaa rfl) h (zab (zaa rfl) (zab zao zag)) h rfl) zao zcF) (zfc (zaa rfl) (zaa rfl) (zkz h (zs0 hl zbA) (zpk e)))) (zad zap)
theorem zhH {n m : Nat} {x2 : Option D} {t : Tr} {xs : List (NK × Int)} {S T : So} (g : Gr S T) (hm : S.length <= m) (h : T[m]? = some (.dct xs)) (hl : xs.length + 3 < 100000) :
   ∃ T', zbr [some (.ref n), some (.ref m), some (trT t), x2] T = some (.nx, [some (.ref n), some (.ref m), some (trT t), some (eD (t.2.2, t.1))], T') /\ Gr S T' /\ T'[m]? = some (.dct (((edE t).map eK).foldl bump xs)) := by
 obtain ⟨a, b, c⟩ := t
 have ml : m < T.length := (zsX.mp h).1
 have ed := zex (a := a) (b := b) (c := c) g.2
 have g0 : Gr S (T ++ [eL a b c]) := g.snoc rfl
 have h0 : (T ++ [eL a b c])[m]? = some (.dct xs) := za4 h
 have n0 : (T ++ [eL a b c])[T.length]? = some (eL a b c) := zay
 have l0 : (T ++ [eL a b c]).length = T.length + 1 := by simp
 generalize T ++ [eL a b c] = T0 at *
 have nx : ∀ (U : So) (o : O), U[T.length]? = some (eL a b c) -> (U.set m o)[T.length]? = some (eL a b c) := fun U o q => by rw [List.getElem?_set_ne (ztA ml)]; exact q
 have at' : ∀ (U : So) (o : O), U.length = T.length + 1 -> (U.set m o)[m]? = some o /\ (U.set m o).length = T.length + 1 := fun U o q => ⟨List.getElem?_set_self (by omega), by rw [List.length_set]; exact q⟩
 have len : ∀ (ys : List (NK × Int)) (k : NK), (bump ys k).length <= ys.length + 1 := fun ys k => by
   have := zgm [k] (xs := ys)
   simpa using this
 have b1 := zd0 (x0 := some (.ref n)) (x1 := some (trT (a, b, c))) (e := (a, b)) h0 (by omega)
 obtain ⟨h1, l1⟩ := at' T0 (.dct (bump xs (eK (a, b)))) l0
 have n1 := nx T0 (.dct (bump xs (eK (a, b)))) n0
 have g1 := g0.set hm (o := .dct (bump xs (eK (a, b)))) rfl
 have k1 := len xs (eK (a, b))
 generalize T0.set m (.dct (bump xs (eK (a, b)))) = T1 at *
 have b2 := zd0 (x0 := some (.ref n)) (x1 := some (trT (a, b, c))) (e := (b, c)) h1 (by omega)
 obtain ⟨h2, l2⟩ := at' T1 (.dct (bump (bump xs (eK (a, b))) (eK (b, c)))) l1
 have n2 := nx T1 (.dct (bump (bump xs (eK (a, b))) (eK (b, c)))) n1
 have g2 := g1.set hm (o := .dct (bump (bump xs (eK (a, b))) (eK (b, c)))) rfl
 have k2 := len (bump xs (eK (a, b))) (eK (b, c))
 generalize T1.set m (.dct (bump (bump xs (eK (a, b))) (eK (b, c)))) = T2 at *
 have b3 := zd0 (x0 := some (.ref n)) (x1 := some (trT (a, b, c))) (e := (c, a)) h2 (by omega)
 obtain ⟨h3, l3⟩ := at' T2 (.dct (bump (bump (bump xs (eK (a, b))) (eK (b, c))) (eK (c, a)))) l2
 have n3 := nx T2 (.dct (bump (bump (bump xs (eK (a, b))) (eK (b, c))) (eK (c, a)))) n2
 have g3 := g2.set hm (o := .dct (bump (bump (bump xs (eK (a, b))) (eK (b, c))) (eK (c, a)))) rfl
 generalize T2.set m (.dct (bump (bump (bump xs (eK (a, b))) (eK (b, c))) (eK (c, a)))) = T3 at *
 refine ⟨T3, ?_, g3, h3⟩
 unfold zbr zcG
 refine zac (zcl (j := .lst T.length) (n := 3) (S1 := T0) (zaU (zat (zab (zaa rfl) zag) (zaj rfl ed)) n0) (zbv n0) ?_) (zad zap)
 exact zax (zaY n0 rfl) rfl b1 (zaz (zax (zaY n1 rfl) rfl b2 (zaz (zax (zaY n2 rfl) rfl b3 (zaz (zcv (zdk n3 rfl)))))))
end MX.P
end
section
local macro_rules | `(tactic| wtm_at "?d") => `(tactic| first | (with_reducible assumption) | (with_reducible exact MX.P.sp_wb _ _ _) | ((with_reducible apply MX.P.sp_vcross); (focus with_reducible assumption); (focus with_reducible assumption); (focus omega)) | (with_reducible first | exact MX.P.sp_sign_of _ _ | exact MX.P.sp_sign_along _ _))
namespace MX.P
open PySem L2 MX
theorem zf2 {k : Nat} {p a b c : Pt} (hp : BdP k p) (ha : BdP k a) (hb : BdP k b) (hc : BdP k c) (hk : k <= 3000) (S : So) (hS : WF S) :
   zc8 [pD p, .tup [pD a, pD b, pD c]] S = some (.int (goM (wb p a) (wb p b) (wb p c)), S) := by
 have w1 := (hp.wb ha).le (show max k k + 1 <= k + 1 by omega)
 have w2 := (hp.wb hb).le (show max k k + 1 <= k + 1 by omega)
 have w3 := (hp.wb hc).le (show max k k + 1 <= k + 1 by omega)
 have gone : ∃ S1, eLc (zqc (zpA 1)) (gNm 0) (zqB) (eN (zpG 2 zae) (zpz (zpA 1) (zpz (zpA 0) (zpD)))) [none, some 0] [some (pD p), some (.tup [pD a, pD b, pD c]), none, none, none] S = some (.ref S.length, S1) /\ S1 = S ++ [.lst [pD (wb p a), pD (wb p b), pD (wb p c)]] := by
   refine ⟨_, ?_, rfl⟩
   wtm_at "?a"
 obtain ⟨S1, g1, g2⟩ := gone
 have hS1 : S1[S.length]? = some (.lst [pD (wb p a), pD (wb p b), pD (wb p c)]) := by rw [g2]; exact zay
 have hW1 : WF S1 := by rw [g2]; exact hS.snoc rfl
 have dt := zey hS1 w1 w2 w3 (by omega)
 have ed := zd4 hW1 hS1
 generalize hA : wb p a = A at *
 generalize hB : wb p b = B at *
 generalize hC : wb p c = C at *
 have hn2 : (S1 ++ [eL A B C])[S1.length]? = some (eL A B C) := zay
 have sides : eLc (zqc (eN (zpG 1 zaM) (zpz (zpA 2) (zpD)))) (gTp 2 (zpI (gNm 0) (zpI (gNm 1) (zp3)))) (zqB) (eN (zpG 1 zbt) (zpz (eN (zpG 2 zaC) (zpz (zpA 0) (zpz (zpA 1) (zpD)))) (zpD))) [none, none]
     [some (pD p), some (.tup [pD a, pD b, pD c]), some (.ref S.length), some (.int (zqa A B C).sign), none] S1 = some (.ref (S1 ++ [eL A B C]).length, S1 ++ [eL A B C] ++ [.lst ([sal (zpy A B), sal (zpy B C), sal (zpy C A)].map D.int)]) := by
   refine zgv (j := .lst S1.length) (n := 3) (S1 := S1 ++ [eL A B C]) ?_ (zbv hn2) (zs3 rfl) rfl ?_
   . exact zaU (zat (zab (zaa rfl) zag) (zaj rfl ed)) hn2
   . have one : ∀ (x y : Pt), BdP (k + 1) x -> BdP (k + 1) y -> eN (zpG 1 zbt) (zpz (eN (zpG 2 zaC) (zpz (zpA 0) (zpz (zpA 1) (zpD)))) (zpD)) [some (pD x), some (pD y)] (S1 ++ [eL A B C]) = some (.int (sal (zpy x y)), S1 ++ [eL A B C]) := fun x y hx hy => by
       wtm_at "?a"
     refine zdc (zaY hn2 rfl) rfl zb5 (one _ _ w1 w2) rfl ?_
     refine zdc (zaY hn2 rfl) rfl zb5 (one _ _ w2 w3) rfl ?_
     refine zdc (zaY hn2 rfl) rfl zb5 (one _ _ w3 w1) rfl ?_
     exact zg3 (zdk hn2 rfl)
 have hz3 : ∀ o1 o2 o3 : O, (S1 ++ [o1] ++ [o2] ++ [o3]).take S.length = S := fun o1 o2 o3 => by rw [g2]; simp
 unfold goM
 generalize sal (zpy A B) = s1 at *
 generalize sal (zpy B C) = s2 at *
 generalize sal (zpy C A) = s3 at *
 have ds : zcM [.int (zqa A B C)] S1 = some (.int (zqa A B C).sign, S1) := sp_sign_of _ _
 generalize (zqa A B C).sign = t at *
 generalize hT2 : S1 ++ [eL A B C] ++ [O.lst ([s1, s2, s3].map D.int)] = T2 at *
 have n2 : T2[(S1 ++ [eL A B C]).length]? = some (.lst ([s1, s2, s3].map D.int)) := by rw [<- hT2]; exact zay
 have cmp : eB (zpM .Eq) (zpA 4) (eN zqp (zpz (zpA 3) (zpz (zpA 3) (zpz (zpA 3) (zpD))))) [some (pD p), some (.tup [pD a, pD b, pD c]), some (.ref S.length), some (.int t), some (.ref (S1 ++ [eL A B C]).length)] T2
     = some (.bl (decide ([s1, s2, s3] = [t, t, t])), T2 ++ [.lst ([t, t, t].map D.int)]) := by
   refine zah (zaa rfl) (zat (zab (zaa rfl) (zab (zaa rfl) (zab (zaa rfl) zag))) (zfb (zs3 rfl))) ?_
   have q := zk0 (S := T2 ++ [O.lst ([t, t, t].map D.int)]) 1 (.inl (za4 n2)) (.inl zay) (by intro x hx; obtain ⟨i, _, rfl⟩ := List.mem_map.mp hx; rfl) (by intro x hx; obtain ⟨i, _, rfl⟩ := List.mem_map.mp hx; rfl) (by decide)
   refine Eq.trans q ?_
   congr 2
   rw [D.bl.injEq]
   by_cases h : [s1, s2, s3] = [t, t, t]
   . exact (zb6 (by rw [h])).trans (zb6 h).symm
   . exact (zcI (fun e => h (by simpa using e))).trans (zcI h).symm
 refine zaf (σ' := [some (pD p), some (.tup [pD a, pD b, pD c]), some (.ref S.length), some (.int t), some (.ref (S1 ++ [eL A B C]).length)]) (S' := T2 ++ [.lst ([t, t, t].map D.int)]) ?_ (by rw [<- hT2]; exact hz3 _ _ _) rfl
 wtm_at "?b"
 unfold zd3 zeh zeg zef zee
 refine zac (zai g1 rfl) (zad (zac (zai (zat (zab (zat (zab (zaa rfl) zag) (zaj rfl dt)) zag) (zaj rfl ds)) rfl) (zad (zac (zai sides rfl) (zad (zac (zaF (zjf (zck cmp) ?_)) zaw))))))
 by_cases h : s1 = t /\ s2 = t /\ s3 = t
 . rw [if_pos h]
   exact zbd (decide_eq_true (by rw [h.1, h.2.1, h.2.2])) (zaa rfl)
 . rw [if_neg h]
   exact zaN (decide_eq_false (fun e => h (by simpa using e))) zao
theorem zjP {k : Nat} {p a b c : Pt} (hp : BdP k p) (ha : BdP k a) (hb : BdP k b) (hc : BdP k c) (h1 : 1 <= k) (hk : k <= 1500) (S : So) (hS : WF S) :
   zeQ [pD p, .tup [pD a, pD b, pD c]] S = some (.bl (onB p a b c), S) := by
 have bw : BdP k ((1, 0, 0) : Pt) := ⟨(Bd.lit 1).le h1, (Bd.lit 0).le (Nat.zero_le _), (Bd.lit 0).le (Nat.zero_le _)⟩
 have m := zdQ hp bw ha hb hc (by decide) hk S hS
 unfold onB
 generalize zr5 p (1, 0, 0) a b c = v at *
 have hpl : pln 8 (tD v) = true := by cases v <;> rfl
 have hq : nInt (tD v) (R2 0 1) = true := by cases v <;> rfl
 have q := zg5 (S := S) hq 8 hpl (by rfl) (by decide)
 have q' : zpM .Eq (tD v) (R2 0 1) S = some (.bl (decide (v = some (0, 1))), S) := by
   refine Eq.trans q ?_
   congr 2
   rw [D.bl.injEq]
   by_cases h : v = some (0, 1)
   . exact (zb6 (by rw [h]; rfl)).trans (zb6 h).symm
   . refine (zcI (fun z => h ?_)).trans (zcI h).symm
     cases v with
     | none => cases z
     | some r =>
       obtain ⟨r1, r2⟩ := r
       have z' : R2 r1 r2 = R2 0 1 := z
       simp only [R2, D.tup.injEq, List.cons.injEq, D.int.injEq, and_true] at z'
       rw [z'.1, z'.2]
 apply zaf
 . wtm_at "?b"
   unfold zgG
   refine zac (zaF (zah (zat (zab (zat (ds := [pD p, pD (1, 0, 0)]) (S1 := S) rfl rfl) (zab (zaa rfl) zag)) (zaj rfl m)) (zat (ds := [.int 0, .int 1]) (S1 := S) rfl rfl) q')) zaw
 . wtm_at "?c"
 . rfl
end MX.P
end
section
local macro_rules | `(tactic| wtm_at "?d") => `(tactic| (with_reducible assumption))
namespace MX.P
open PySem L2 MX
theorem zkX {φ : GN} {x : D} {n : Nat} {S : So} {ts : List Tr} (r : Tr -> D) (hn : S[n]? = some (.lst (ts.map trT))) (hf : ∀ t ∈ ts, φ [x, trT t] S = some (r t, S)) (hl : ts.length <= 1000) (y : Option D) :
   eLc (zqc (zpA 1)) (gNm 0) zqB (eN (zpG 2 φ) (zpz (zpA 1) (zpz (zpA 0) (zpD)))) [none, some 0] [some x, some (.ref n), y] S = some (.ref S.length, S ++ [.lst (ts.map r)]) := by
 have h := zdE (nx := nxD (.lst n)) (g := gNm 0) (t := zqB) (fe := eN (zpG 2 φ) (zpz (zpA 1) (zpz (zpA 0) (zpD)))) (S := S) (xs := ts.map trT) (fun τ => ∃ v, τ = [v, some x]) (fun _ => true)
   (fun d => ((φ [x, d] S).map (·.1)).getD .non) (fun i => by unfold nxD; simp only [hn])
   (fun d hd τ hτ => by
     obtain ⟨v, rfl⟩ := hτ
     obtain ⟨t, ht, rfl⟩ := List.mem_map.mp hd
     refine ⟨[some (trT t), some x], rfl, ⟨_, rfl⟩, rfl, fun _ => ?_⟩
     have q := hf t ht
     rw [q]
     exact zat (zab (zaa rfl) (zab (zaa rfl) zag)) (zaj rfl q))
   ts.length 0 [none, some x] [] ⟨_, rfl⟩ (by simp)
 have e : ([] : List D) ++ (((ts.map trT).drop 0).filter fun _ => true).map (fun d => ((φ [x, d] S).map (·.1)).getD .non) = ts.map r := by
   rw [ztK, List.drop_zero, List.filter_eq_self.mpr (fun _ _ => rfl), List.map_map]
   refine List.map_congr_left fun t ht => ?_
   show ((φ [x, trT t] S).map (·.1)).getD .non = r t
   rw [hf t ht]; rfl
 rw [e] at h
 refine zgv (j := .lst n) (n := ts.length) (zaU (zaa rfl) hn) ?_ (Nat.le_trans hl (Nat.le_trans (by decide) zbA)) rfl h
 have := zbv hn
 rw [zs7] at this
 exact this
theorem zdI {α : Type} (f : α -> Bool) : ∀ l : List α, zql (l.map fun x => D.bl (f x)) = some (l.map f)
 | [] => rfl
 | x :: r => by
   have e : zql (D.bl (f x) :: r.map fun x => D.bl (f x)) = (zql (r.map fun x => D.bl (f x))).map fun l => f x :: l := rfl
   show zql (D.bl (f x) :: r.map fun x => D.bl (f x)) = _
   rw [e, zdI f r]; rfl
theorem zgX {α : Type} (f : α -> Int) : ∀ l : List α, zqo (l.map fun x => D.int (f x)) = some (l.map f)
 | [] => rfl
 | x :: r => by
   have e : zqo (D.int (f x) :: r.map fun x => D.int (f x)) = (zqo (r.map fun x => D.int (f x))).map fun l => f x :: l := rfl
   show zqo (D.int (f x) :: r.map fun x => D.int (f x)) = _
   rw [e, zgX f r]; rfl
def zrG (p : Pt) (ts : List Tr) : Int := if ts.any (fun t => onB p t.1 t.2.1 t.2.2) = true then 0 else if (ts.map fun t => goM (wb p t.1) (wb p t.2.1) (wb p t.2.2)).sum = 0 then -1 else 1
theorem zf1 {k : Nat} {p : Pt} {ts : List Tr} {n : Nat} {S : So} (hS : WF S) (hn : S[n]? = some (.lst (ts.map trT))) (hl : ts.length <= 1000) (cl : zbg [.ref n] S = some (.bl true, S)) (hp : BdP k p) (ht : ∀ t ∈ ts, BdP k t.1 /\ BdP k t.2.1 /\ BdP k t.2.2) (h1 : 1 <= k) (hk : k <= 1500) :
   zaZ [pD p, .ref n] S = some (.int (zrG p ts), S) := by
 have on := zkX (φ := zeQ) (x := pD p) (fun t => .bl (onB p t.1 t.2.1 t.2.2)) hn (fun t m => zjP hp (ht t m).1 (ht t m).2.1 (ht t m).2.2 h1 hk S hS) hl none
 have g1 : Gr S (S ++ [.lst (ts.map fun t => D.bl (onB p t.1 t.2.1 t.2.2))]) := (Gr.refl hS).snoc (zbG.mpr fun x hx => by
   obtain ⟨t, _, rfl⟩ := List.mem_map.mp hx
   simp [D.lo])
 have m1 : (S ++ [O.lst (ts.map fun t => D.bl (onB p t.1 t.2.1 t.2.2))])[S.length]? = some (.lst (ts.map fun t => D.bl (onB p t.1 t.2.1 t.2.2))) := zay
 have n1 := g1.old hn
 generalize S ++ [O.lst (ts.map fun t => D.bl (onB p t.1 t.2.1 t.2.2))] = S1 at *
 have any : zsL [.ref S.length] S1 = some (.bl (ts.any fun t => onB p t.1 t.2.1 t.2.2), S1) := by
   unfold zsL
   simp only [m1]
   rw [zdI (fun t : Tr => onB p t.1 t.2.1 t.2.2), ztv, List.any_map]
   rfl
 have out := zkX (φ := zc8) (x := pD p) (fun t => .int (goM (wb p t.1) (wb p t.2.1) (wb p t.2.2))) n1 (fun t m => zf2 hp (ht t m).1 (ht t m).2.1 (ht t m).2.2 (by omega) S1 g1.2) hl none
 have g2 : Gr S (S1 ++ [.lst (ts.map fun t => D.int (goM (wb p t.1) (wb p t.2.1) (wb p t.2.2)))]) := g1.snoc (zbG.mpr fun x hx => by
   obtain ⟨t, _, rfl⟩ := List.mem_map.mp hx
   simp [D.lo])
 have m2 : (S1 ++ [O.lst (ts.map fun t => D.int (goM (wb p t.1) (wb p t.2.1) (wb p t.2.2)))])[S1.length]? = some (.lst (ts.map fun t => D.int (goM (wb p t.1) (wb p t.2.1) (wb p t.2.2)))) := zay
 generalize S1 ++ [O.lst (ts.map fun t => D.int (goM (wb p t.1) (wb p t.2.1) (wb p t.2.2)))] = S2 at *
 have sum : gSum [.ref S1.length] S2 = some (.int (ts.map fun t => goM (wb p t.1) (wb p t.2.1) (wb p t.2.2)).sum, S2) := by
   unfold gSum
   simp only [m2]
   rw [zgX (fun t : Tr => goM (wb p t.1) (wb p t.2.1) (wb p t.2.2))]
   rfl
 have b1 : zb0 [some (pD p), some (.ref n), none] S = some (.nx, [some (pD p), some (.ref n), none], S) := by
   unfold zb0
   exact zaJ (b := false) (S1 := S) (zfq (b := true) (zdm (zat (zab (zaa rfl) zag) (zaj rfl cl)) rfl)) (zaN rfl zap)
 unfold zrG
 generalize (ts.any fun t => onB p t.1 t.2.1 t.2.2) = q at *
 generalize (ts.map fun t => goM (wb p t.1) (wb p t.2.1) (wb p t.2.2)).sum = w at *
 have tv : zq2 (eN zsL (zpz (eLc (zqc (zpA 1)) (gNm 0) (zqB) (eN (zpG 2 zeQ) (zpz (zpA 1) (zpz (zpA 0) (zpD)))) [none, some 0]) (zpD))) [some (pD p), some (.ref n), none] S = some (q, S1) := zdm (zat (zab on zag) any) rfl
 cases q with
 | true =>
   rw [if_pos rfl]
   refine zaf (σ' := [some (pD p), some (.ref n), none]) (S' := S1) ?_ g1.take rfl
   wtm_at "?b"
   unfold zbh zcR
   exact zac b1 (zad (zac (zaJ tv (zbd rfl (zac (zaF zao) zaw))) zaw))
 | false =>
   rw [if_neg zs2]
   refine zaf (σ' := [some (pD p), some (.ref n), some (.int w)]) (S' := S2) ?_ g2.take rfl
   wtm_at "?b"
   unfold zbh zcR zed zec
   refine zac b1 (zad (zac (zaJ tv (zaN rfl zap)) (zad (zac (zai (zat (zab out zag) sum) rfl) (zad (zac (zaF (zjf (zck (zah (zaa rfl) zao zeS)) ?_)) zaw))))))
   by_cases h : w = 0
   . rw [if_pos h]; exact zbd (zb6 h) (zoy zao zi9)
   . rw [if_neg h]; exact zaN (zcI h) zao
end MX.P
end
local macro_rules | `(tactic| wtm_at "?g") => `(tactic| first
 | (with_reducible exact zcF) | ((with_reducible apply MX.P.ev_pow); (focus decide); (focus first | (simp only [Int.reduceToNat, Int.reducePow]; rfl) | rfl)) | (with_reducible first | exact zfK | exact zmz | exact zmA | exact zow | exact zox | exact zeS | exact zmy | exact zov | exact zg4 | exact zi9)
 | ((with_reducible apply zfL); wtm_at "?h") | ((with_reducible apply zbz); wtm_at "?h") | ((with_reducible apply zbI); first | decide | wtm_at "?h") | ((with_reducible apply zkY); decide)
 | ((with_reducible apply zaA); first | (with_reducible assumption) | rfl) | ((with_reducible apply zdd); (focus wtm_at "?e"); (focus first | (with_reducible assumption) | rfl)) | ((with_reducible apply zjc); (focus wtm_at "?e"); (focus first | (with_reducible assumption) | rfl))
 | (refine zg5 ?_ 8 ?_ ?_ ?_ <;> first | decide +kernel | rfl | decide) | (refine zkZ ?_ 8 ?_ ?_ ?_ <;> first | decide +kernel | rfl | decide))
local macro_rules | `(tactic| wtm_at "?k") => `(tactic| first
 | (with_reducible exact MX.P.ev_int) | ((with_reducible apply zd9); exact zs3 rfl) | ((with_reducible apply zfb); exact zs3 rfl) | (with_reducible first | exact ev_lenT | exact zg1 | exact zg2 | exact ev_min2 | exact zjb | exact zji | exact ev_listT)
 | ((with_reducible apply zfs); wtm_at "?e") | ((with_reducible apply zft); wtm_at "?e") | ((with_reducible apply zdG); wtm_at "?e") | ((with_reducible apply zep); wtm_at "?e")
 | ((with_reducible apply zeT); (focus wtm_at "?e"); (focus rfl)) | ((with_reducible apply ev_minL'); (focus wtm_at "?e"); (focus rfl); (focus rfl)) | ((with_reducible apply ev_maxL'); (focus wtm_at "?e"); (focus rfl); (focus rfl)) | ((with_reducible apply ev_minT'); (focus rfl); (focus rfl)) | ((with_reducible apply ev_maxT'); (focus rfl); (focus rfl))
 | ((with_reducible apply zaj); (focus rfl); (focus wtm_at "?d")))
section
namespace MX.P
open PySem L2 MX
theorem ev_int {b : Bool} {S : So} : gInt [.bl b] S = some (.int (if b then 1 else 0), S) := rfl
theorem addLL {fa fb : EF} {σ : Sg} {S S1 S2 : So} {n m : Nat} {xs ys : List D} (h1 : fa σ S = some (.ref n, S1)) (h2 : fb σ S1 = some (.ref m, S2)) (hn : S2[n]? = some (.lst xs)) (hm : S2[m]? = some (.lst ys)) (hl : xs.length + ys.length <= 1000) :
   eB (zpJ .Add) fa fb σ S = some (.ref S2.length, S2 ++ [.lst (xs ++ ys)]) := zah h1 h2 (zjh hn hm (Nat.le_trans hl (Nat.le_trans (by decide) zbA)))
end MX.P
local macro_rules | `(tactic| wtm_at "?d") => `(tactic| (with_reducible assumption))
namespace MX.P
open PySem L2 MX
def zsB (m : Int) : Pt := (m.fmod 9 - 4, (m.fdiv 9).fmod 9 - 4, (m.fdiv 81).fmod 9 - 4)
theorem zln (m : Int) : BdP 5 (zsB m) := by
 have f : ∀ x : Int, Bd 5 (x.fmod 9 - 4) := fun x => by
   have h1 := ztc x (show (0 : Int) < 9 by decide)
   have h2 := ztd x (show (0 : Int) < 9 by decide)
   unfold Bd; omega
 exact ⟨f _, f _, f _⟩
theorem zlo (m : Int) (S : So) : zdl [.int m] S = some (pD (zsB m), S) := by
 apply zaf
 . wtm_at "?b"
   unfold zdw
   wtm_at "?a"
 . wtm_at "?c"
 . rfl
end MX.P
end
section
namespace MX.P
def sw (b : Bool) (t : Tr) : Tr := if b = true then (t.1, t.2.2, t.2.1) else t
def zp6 (lo hi : Pt) (ab : Bool) : List Tr := (trs 0 lo hi lo.1).map (sw (true != ab)) ++ (trs 0 lo hi hi.1).map (sw (false != ab)) ++ (trs 1 lo hi lo.2.1).map (sw (true != ab)) ++ (trs 1 lo hi hi.2.1).map (sw (false != ab)) ++ (trs 2 lo hi lo.2.2).map (sw (true != ab)) ++ (trs 2 lo hi hi.2.2).map (sw (false != ab))
theorem zgB (lo hi : Pt) (ab : Bool) : zqI (edL (zp6 lo hi ab)) := fun x => by
 rw [<- zjv]
 cases ab
 . simp only [zp6, trs, sw, edL, edE, List.flatMap_cons, List.flatMap_nil, List.cons_append, ztK, List.append_nil, ztJ, List.map_nil, swp, List.count_cons, List.count_nil, bne_self_eq_false, Bool.false_eq_true, if_false, if_true, show (true != false) = true from rfl]
   omega
 . simp only [zp6, trs, sw, edL, edE, List.flatMap_cons, List.flatMap_nil, List.cons_append, ztK, List.append_nil, ztJ, List.map_nil, swp, List.count_cons, List.count_nil, bne_self_eq_false, Bool.false_eq_true, if_false, if_true, show (false != true) = true from rfl]
   omega
theorem zhJ {E F : List (Pt × Pt)} (h : zqI E) (g : zqI F) : zqI (E ++ F) := fun e => by rw [List.count_append, List.count_append, h e, g e]
theorem zmD (x y : List Tr) : edL (x ++ y) = edL x ++ edL y := by unfold edL; rw [List.flatMap_append]
def zp1 (E : List (Pt × Pt)) : Bool := E.all fun e => decide (E.count e = E.count (swp e))
theorem zhK {E : List (Pt × Pt)} (h : zqI E) : zp1 E = true := by
 unfold zp1
 rw [List.all_eq_true]
 exact fun e _ => decide_eq_true (h e)
theorem zjw (E : List (Pt × Pt)) : ∀ x ∈ zqR (E.map eK), ∃ e ∈ E, x = (eK e, (E.count e : Int)) := fun x hx => by
 rcases zmh _ hx with hm | hm
 . obtain ⟨e, he, ee⟩ := List.mem_map.mp hm
   have g : zqe (zqR (E.map eK)) x.1 = some x.2 := zn2 (zkn (E.map eK) (xs := []) List.nodup_nil) hx
   have g1 := zgA (E.map eK) x.1
   rw [g, Option.getD_some] at g1
   refine ⟨e, he, Prod.ext ee.symm ?_⟩
   rw [g1, <- ee, zeq]
 . cases hm
theorem zmL {E : List (Pt × Pt)} {e : Pt × Pt} (h : e ∈ E) : (eK e, (E.count e : Int)) ∈ zqR (E.map eK) := by
 have g1 := zgA (E.map eK) (eK e)
 rw [zeq] at g1
 have pos : 0 < E.count e := List.count_pos_iff.mpr h
 cases hg : zqe (zqR (E.map eK)) (eK e) with
 | none => rw [hg] at g1; simp at g1; omega
 | some v =>
   rw [hg, Option.getD_some] at g1
   unfold zqe at hg
   simp only [oMs] at hg
   obtain ⟨y, hy, rfl⟩ := hg
   have h1 := List.mem_of_find?_eq_some hy
   have h2 : y.1 = eK e := by simpa using List.find?_some hy
   have : y = (eK e, (E.count e : Int)) := Prod.ext h2 g1
   rw [<- this]; exact h1
def zsN (xs : List (NK × Int)) (x : NK × Int) : Bool := match x.1 with
 | [a, b] => decide (x.2 = (zqe xs [b, a]).getD 0)
 | _ => false
theorem zmU (E : List (Pt × Pt)) : (zqR (E.map eK)).all (zsN (zqR (E.map eK))) = zp1 E := by
 have key : ∀ e : Pt × Pt, zsN (zqR (E.map eK)) (eK e, (E.count e : Int)) = decide (E.count e = E.count (swp e)) := fun e => by
   have g : (zqe (zqR (E.map eK)) (eK (swp e))).getD 0 = (E.count (swp e) : Int) := by rw [zgA, zeq]
   show decide ((E.count e : Int) = (zqe (zqR (E.map eK)) (eK (swp e))).getD 0) = _
   rw [g]
   by_cases h : E.count e = E.count (swp e)
   . rw [decide_eq_true h, decide_eq_true (by rw [h])]
   . rw [decide_eq_false h, decide_eq_false (by omega)]
 rw [Bool.eq_iff_iff]
 unfold zp1
 rw [List.all_eq_true, List.all_eq_true]
 constructor
 . intro h e he
   rw [<- key e]
   exact h _ (zmL he)
 . intro h x hx
   obtain ⟨e, he, rfl⟩ := zjw E x hx
   rw [key e]
   exact h e he
end MX.P
end
section
local macro_rules | `(tactic| wtm_at "?d") => `(tactic| first | (with_reducible assumption))
namespace MX.P
open PySem L2 MX
theorem zfc {fo fi : EF} {d : D} {σ : Sg} {S S1 S2 S3 : So} {n j : Nat} {i : Int} {xs : List D} (h1 : fo σ S = some (.ref n, S1)) (h2 : fi σ S1 = some (.int i, S2)) (h3 : S2[n]? = some (.lst xs)) (h4 : ixN xs.length i = some j) (h5 : S2.set n (.lst (xs.set j d)) = S3) : gSt fo fi d σ S = some (σ, S3) := by
 unfold gSt
 rw [h1]; simp only [zs6]
 rw [h2]; simp only [zs6]
 unfold zsr
 simp only
 rw [h3]; simp only
 rw [h4]; simp only [ztv]
 rw [h5]
def zes : SF := (zpH (zpL (eN zqp (zpz (eC (.int 0)) (zpz (eC (.int 0)) (zpz (eC (.int 0)) (zpD))))) (gNm 8)) (zpH (zpL (eB gIx (eB gIx (zpA 0) (zpA 2)) (zpA 1)) (gSt (zpA 8) (zpA 1))) (zpH (zpL (eB gIx (eB gIx (zpA 0) (zpA 6)) (zpA 3)) (gSt (zpA 8) (zpA 3))) (zpH (zpL (eB gIx (eB gIx (zpA 0) (zpA 7)) (zpA 4)) (gSt (zpA 8) (zpA 4))) (zpH (zqn (eM zp0 (zpA 5) (zpz (eN zqz (zpz (zpA 8) (zpD))) (zpD)))) (zpE))))))
theorem zeP {p0 p1 : D} {Fs As Bs xs c : List D} {f a b : D} {k s i j one other : Int} {k' i' j' : Nat} {x8 : Option D} {S G : So}
   (e1 : atI [p0, p1] s = some (.tup Fs)) (e2 : atI Fs k = some f) (e3 : atI [p0, p1] one = some (.tup As)) (e4 : atI As i = some a) (e5 : atI [p0, p1] other = some (.tup Bs)) (e6 : atI Bs j = some b)
   (g1 : ixN 3 k = some k') (g2 : ixN 3 i = some i') (g3 : ixN 3 j = some j') (hc : ((([D.int 0, .int 0, .int 0].set k' f).set i' a).set j' b) = c) (hx : xs.length <= 1000) :
   zes [some (.tup [p0, p1]), some (.int k), some (.int s), some (.int i), some (.int j), some (.ref S.length), some (.int one), some (.int other), x8] (S ++ .lst xs :: G)
     = some (.nx, [some (.tup [p0, p1]), some (.int k), some (.int s), some (.int i), some (.int j), some (.ref S.length), some (.int one), some (.int other), some (.ref (S ++ .lst xs :: G).length)], S ++ .lst (xs ++ [.tup c]) :: (G ++ [.lst c])) := by
 have st : ∀ (ys : List D), (S ++ .lst xs :: G ++ [O.lst ys])[(S ++ .lst xs :: G).length]? = some (.lst ys) := fun ys => zay
 have sx : ∀ (o : O), (S ++ .lst xs :: G ++ [o])[S.length]? = some (.lst xs) := fun o => by simp
 have sl : ∀ (o : O) (o' : O), (S ++ .lst xs :: G ++ [o]).set S.length o' = S ++ o' :: (G ++ [o]) := fun o o' => by simp
 generalize hT : S ++ .lst xs :: G = T at *
 have l1 : ([D.int 0, .int 0, .int 0]).length = 3 := rfl
 have l2 : (([D.int 0, .int 0, .int 0]).set k' f).length = 3 := by rw [List.length_set]; rfl
 have l3 : ((([D.int 0, .int 0, .int 0]).set k' f).set i' a).length = 3 := by rw [List.length_set, List.length_set]; rfl
 unfold zes
 refine zac (zai (x := .ref T.length) (S1 := T ++ [.lst [.int 0, .int 0, .int 0]]) ?_ (zfM rfl)) (zad ?_)
 . wtm_at "?a"
 refine zac (zai (x := f) (S1 := T ++ [.lst [.int 0, .int 0, .int 0]]) ?_ (zfc (xs := [D.int 0, .int 0, .int 0]) (zaa rfl) (zaa rfl) (st _) g1 zf9)) (zad ?_)
 . exact zah (zah (zaa rfl) (zaa rfl) (zaA e1)) (zaa rfl) (zaA e2)
 refine zac (zai (x := a) ?_ (zfc (xs := ([D.int 0, .int 0, .int 0]).set k' f) (zaa rfl) (zaa rfl) (st _) (by rw [l2]; exact g2) zf9)) (zad ?_)
 . exact zah (zah (zaa rfl) (zaa rfl) (zaA e3)) (zaa rfl) (zaA e4)
 refine zac (zai (x := b) ?_ (zfc (xs := (([D.int 0, .int 0, .int 0]).set k' f).set i' a) (zaa rfl) (zaa rfl) (st _) (by rw [l3]; exact g3) zf9)) (zad ?_)
 . exact zah (zah (zaa rfl) (zaa rfl) (zaA e5)) (zaa rfl) (zaA e6)
 rw [hc]
 refine zac (zbZ (zfN (zaa rfl) (sx _) (zab (zat (zab (zaa rfl) zag) (zdG (st _))) zag) (zcP (sx _) (by rw [sizeLine_eq]; omega) (sl _ _)))) (zad zap)
abbrev trD (T : Tr) : D := .tup [pD T.1, pD T.2.1, pD T.2.2]
abbrev zpR : O := .lst [.tup [.int 0, .int 0], .tup [.int 1, .int 0], .tup [.int 1, .int 1], .tup [.int 0, .int 1]]
theorem zfp {box : D} {k s i j : Int} {C1 C2 C3 C4 : List D} {S : So} (hS : WF S) (hi : (k + 1).fmod 3 = i) (hj : (k + 2).fmod 3 = j)
   (l1 : los S.length C1 = true) (l2 : los S.length C2 = true) (l3 : los S.length C3 = true) (l4 : los S.length C4 = true)
   (t : ∀ (one other : Int) (c : List D), (one, other, c) ∈ [((0 : Int), (0 : Int), C1), (1, 0, C2), (1, 1, C3), (0, 1, C4)] -> ∀ (xs : List D) (G : So) (x8 : Option D), xs.length <= 1000 -> zes [some box, some (.int k), some (.int s), some (.int i), some (.int j), some (.ref S.length), some (.int one), some (.int other), x8] (S ++ .lst xs :: G)
     = some (.nx, [some box, some (.int k), some (.int s), some (.int i), some (.int j), some (.ref S.length), some (.int one), some (.int other), some (.ref (S ++ .lst xs :: G).length)], S ++ .lst (xs ++ [.tup c]) :: (G ++ [.lst c]))) :
   ∃ n T, zaW [box, .int k, .int s] S = some (.ref n, T) /\ Gr S T /\ T[n]? = some (.lst [.tup [.tup C1, .tup C2, .tup C3], .tup [.tup C1, .tup C3, .tup C4]]) /\ S.length <= n := by
 have t1 := t 0 0 C1 (by simp) [] [zpR] none (by decide)
 have t2 := t 1 0 C2 (by simp) [.tup C1] [zpR, .lst C1] (some (.ref (S ++ .lst [] :: [zpR]).length)) (by simp)
 have t3 := t 1 1 C3 (by simp) [.tup C1, .tup C2] [zpR, .lst C1, .lst C2] (some (.ref (S ++ .lst [.tup C1] :: [zpR, .lst C1]).length)) (by simp)
 have t4 := t 0 1 C4 (by simp) [.tup C1, .tup C2, .tup C3] [zpR, .lst C1, .lst C2, .lst C3] (some (.ref (S ++ .lst [.tup C1, .tup C2] :: [zpR, .lst C1, .lst C2]).length)) (by simp)
 have pr : ∀ (o : O) (G : So), (S ++ o :: zpR :: G)[S.length + 1]? = some zpR := fun o G => by simp
 have fr : ∀ (o : O) (G : So), (S ++ o :: G)[S.length]? = some o := fun o G => by simp
 have it : zqc (eN zqp (zpz (eN zpO (zpz (eC (.int 0)) (zpz (eC (.int 0)) (zpD)))) (zpz (eN zpO (zpz (eC (.int 1)) (zpz (eC (.int 0)) (zpD)))) (zpz (eN zpO (zpz (eC (.int 1)) (zpz (eC (.int 1)) (zpD)))) (zpz (eN zpO (zpz (eC (.int 0)) (zpz (eC (.int 1)) (zpD)))) (zpD)))))) [some box, some (.int k), some (.int s), some (.int i), some (.int j), some (.ref S.length), none, none, none] (S ++ [.lst []]) = some (.lst (S ++ [O.lst []]).length, S ++ [.lst []] ++ [zpR]) := by
   refine zaU (xs := [.tup [.int 0, .int 0], .tup [.int 1, .int 0], .tup [.int 1, .int 1], .tup [.int 0, .int 1]]) ?_ zay
   wtm_at "?a"
 have el : (S ++ [O.lst []]).length = S.length + 1 := by simp
 rw [el] at it
 have e0 : S ++ [O.lst []] ++ [zpR] = S ++ O.lst [] :: [zpR] := by simp
 rw [e0] at it
 have loop : zqK (zqc (eN zqp (zpz (eN zpO (zpz (eC (.int 0)) (zpz (eC (.int 0)) (zpD)))) (zpz (eN zpO (zpz (eC (.int 1)) (zpz (eC (.int 0)) (zpD)))) (zpz (eN zpO (zpz (eC (.int 1)) (zpz (eC (.int 1)) (zpD)))) (zpz (eN zpO (zpz (eC (.int 0)) (zpz (eC (.int 1)) (zpD)))) (zpD))))))) (gTp 2 (zpI (gNm 6) (zpI (gNm 7) (zp3)))) zes
     [some box, some (.int k), some (.int s), some (.int i), some (.int j), some (.ref S.length), none, none, none] (S ++ [.lst []])
     = some (.nx, [some box, some (.int k), some (.int s), some (.int i), some (.int j), some (.ref S.length), some (.int 0), some (.int 1), some (.ref (S ++ .lst [.tup C1, .tup C2, .tup C3] :: [zpR, .lst C1, .lst C2, .lst C3]).length)], S ++ .lst [.tup C1, .tup C2, .tup C3, .tup C4] :: [zpR, .lst C1, .lst C2, .lst C3, .lst C4]) := by
   refine zcl it (n := 4) (zbv (pr _ _)) ?_
   refine zax (d := .tup [.int 0, .int 0]) (zaY (pr _ _) rfl) rfl t1 (zaz ?_)
   refine zax (d := .tup [.int 1, .int 0]) (zaY (pr _ _) rfl) rfl t2 (zaz ?_)
   refine zax (d := .tup [.int 1, .int 1]) (zaY (pr _ _) rfl) rfl t3 (zaz ?_)
   refine zax (d := .tup [.int 0, .int 1]) (zaY (pr _ _) rfl) rfl t4 (zaz ?_)
   exact zcv (zdk (pr _ _) rfl)
 have m : ∀ (c : List D), los S.length c = true -> ∀ n, S.length <= n -> O.lo n (.lst c) = true := fun c hc n hn => O.lo_mono hn (show O.lo S.length (.lst c) = true from hc)
 have gr : Gr S ((S ++ .lst [.tup C1, .tup C2, .tup C3, .tup C4] :: [zpR, .lst C1, .lst C2, .lst C3, .lst C4]) ++ [.lst [.tup [.tup C1, .tup C2, .tup C3], .tup [.tup C1, .tup C3, .tup C4]]]) := by
   have g := (((((((Gr.refl hS).snoc (o := .lst [.tup C1, .tup C2, .tup C3, .tup C4]) (m _ (by simp [los, D.lo, l1, l2, l3, l4]) _ (by simp))).snoc (o := zpR) rfl).snoc (o := .lst C1) (m _ l1 _ (by simp))).snoc (o := .lst C2) (m _ l2 _ (by simp))).snoc (o := .lst C3) (m _ l3 _ (by simp))).snoc (o := .lst C4) (m _ l4 _ (by simp))).snoc (o := .lst [.tup [.tup C1, .tup C2, .tup C3], .tup [.tup C1, .tup C3, .tup C4]]) (m _ (by simp [los, D.lo, l1, l2, l3, l4]) _ (by simp))
   simpa using g
 refine ⟨(S ++ .lst [.tup C1, .tup C2, .tup C3, .tup C4] :: [zpR, .lst C1, .lst C2, .lst C3, .lst C4]).length, (S ++ .lst [.tup C1, .tup C2, .tup C3, .tup C4] :: [zpR, .lst C1, .lst C2, .lst C3, .lst C4]) ++ [.lst [.tup [.tup C1, .tup C2, .tup C3], .tup [.tup C1, .tup C3, .tup C4]]], ?_, ?_, zay, by simp⟩
 . apply zdZ
   . wtm_at "?b"
     unfold zdy
     refine zac (zai (x := .int i) (S1 := S) ?_ (zfM rfl)) (zad ?_)
     . rw [<- hi]; wtm_at "?a"
     refine zac (zai (x := .int j) (S1 := S) ?_ (zfM rfl)) (zad ?_)
     . rw [<- hj]; wtm_at "?a"
     refine zac (zai (x := .ref S.length) (S1 := S ++ [.lst []]) ?_ (zfM rfl)) (zad ?_)
     . wtm_at "?a"
     refine zac loop (zad ?_)
     have f4 := fr (.lst [.tup C1, .tup C2, .tup C3, .tup C4]) [zpR, .lst C1, .lst C2, .lst C3, .lst C4]
     wtm_at "?a"
   . intro h
     have := h.2
     simp only [D.lo, ztG, zs9] at this
     omega
   . simp
   . simp [D.lo]
   . exact gr.2
 . exact gr
theorem zgM {lo hi F : Pt} {s : Int} {S : So} (hS : WF S) (hs : atI [pD lo, pD hi] s = some (pD F)) : ∃ n T, zaW [.tup [pD lo, pD hi], .int 0, .int s] S = some (.ref n, T) /\ Gr S T /\ T[n]? = some (.lst ((trs 0 lo hi F.1).map trD)) /\ S.length <= n := by
 refine zfp (i := 1) (j := 2) (C1 := [.int F.1, .int lo.2.1, .int lo.2.2]) (C2 := [.int F.1, .int hi.2.1, .int lo.2.2]) (C3 := [.int F.1, .int hi.2.1, .int hi.2.2]) (C4 := [.int F.1, .int lo.2.1, .int hi.2.2]) hS (by decide) (by decide) rfl rfl rfl rfl ?_
 intro one other c hc xs G x8 hx
 simp only [List.mem_cons, ztF, or_false, Prod.mk.injEq] at hc
 rcases hc with ⟨rfl, rfl, rfl⟩ | ⟨rfl, rfl, rfl⟩ | ⟨rfl, rfl, rfl⟩ | ⟨rfl, rfl, rfl⟩ <;> exact zeP hs rfl rfl rfl rfl rfl rfl rfl rfl rfl hx
theorem zgL {lo hi F : Pt} {s : Int} {S : So} (hS : WF S) (hs : atI [pD lo, pD hi] s = some (pD F)) : ∃ n T, zaW [.tup [pD lo, pD hi], .int 1, .int s] S = some (.ref n, T) /\ Gr S T /\ T[n]? = some (.lst ((trs 1 lo hi F.2.1).map trD)) /\ S.length <= n := by
 refine zfp (i := 2) (j := 0) (C1 := [.int lo.1, .int F.2.1, .int lo.2.2]) (C2 := [.int lo.1, .int F.2.1, .int hi.2.2]) (C3 := [.int hi.1, .int F.2.1, .int hi.2.2]) (C4 := [.int hi.1, .int F.2.1, .int lo.2.2]) hS (by decide) (by decide) rfl rfl rfl rfl ?_
 intro one other c hc xs G x8 hx
 simp only [List.mem_cons, ztF, or_false, Prod.mk.injEq] at hc
 rcases hc with ⟨rfl, rfl, rfl⟩ | ⟨rfl, rfl, rfl⟩ | ⟨rfl, rfl, rfl⟩ | ⟨rfl, rfl, rfl⟩ <;> exact zeP hs rfl rfl rfl rfl rfl rfl rfl rfl rfl hx
theorem zgK {lo hi F : Pt} {s : Int} {S : So} (hS : WF S) (hs : atI [pD lo, pD hi] s = some (pD F)) : ∃ n T, zaW [.tup [pD lo, pD hi], .int 2, .int s] S = some (.ref n, T) /\ Gr S T /\ T[n]? = some (.lst ((trs 2 lo hi F.2.2).map trD)) /\ S.length <= n := by
 refine zfp (i := 0) (j := 1) (C1 := [.int lo.1, .int lo.2.1, .int F.2.2]) (C2 := [.int hi.1, .int lo.2.1, .int F.2.2]) (C3 := [.int hi.1, .int hi.2.1, .int F.2.2]) (C4 := [.int lo.1, .int hi.2.1, .int F.2.2]) hS (by decide) (by decide) rfl rfl rfl rfl ?_
 intro one other c hc xs G x8 hx
 simp only [List.mem_cons, ztF, or_false, Prod.mk.injEq] at hc
 rcases hc with ⟨rfl, rfl, rfl⟩ | ⟨rfl, rfl, rfl⟩ | ⟨rfl, rfl, rfl⟩ | ⟨rfl, rfl, rfl⟩ <;> exact zeP hs rfl rfl rfl rfl rfl rfl rfl rfl rfl hx
end MX.P
end
section
local macro_rules | `(tactic| wtm_at "?d") => `(tactic| (with_reducible assumption))
namespace MX.P
open PySem L2 MX
theorem zn9 {β : Type} {iv : Nat} {g : GF} {fe : EF} {src : List (Option Nat)} {σ rest : Sg} {r : Nat} {S : So} {l : List β} (enc res : β -> D) (en : β -> Sg) (T : Sg -> Prop) (hr : S[r]? = some (.lst (l.map enc))) (hi : σ[iv]? = some (some (.ref r))) (hT : T (zr8 src σ))
   (hg : ∀ b ∈ l, ∀ τ, T τ -> g (enc b) τ S = some (en b ++ rest, S) /\ T (en b ++ rest)) (hf : ∀ b ∈ l, fe (en b ++ rest) S = some (res b, S)) (inj : ∀ b ∈ l, ∀ c ∈ l, enc b = enc c -> res b = res c) (hl : l.length <= 1000) :
   eLc (zqc (zpA iv)) g zqB fe src σ S = some (.ref S.length, S ++ [.lst (l.map res)]) := by
 have ex : ∀ d : D, ∃ z : D, ∀ b ∈ l, enc b = d -> z = res b := fun d => by
   by_cases h : ∃ b, b ∈ l /\ enc b = d
   . obtain ⟨b, hb, e⟩ := h
     exact ⟨res b, fun c hc e2 => inj b hb c hc (e.trans e2.symm)⟩
   . exact ⟨.non, fun b hb e => absurd ⟨b, hb, e⟩ h⟩
 have hh := fun d => (ex d).choose_spec
 have h := zdE (nx := nxD (.lst r)) (g := g) (t := zqB) (fe := fe) (S := S) (xs := l.map enc) T (fun _ => true) (fun d => (ex d).choose) (fun i => by unfold nxD; simp only [hr])
   (fun d hd τ hτ => by
     obtain ⟨b, hb, rfl⟩ := List.mem_map.mp hd
     obtain ⟨g1, g2⟩ := hg b hb τ hτ
     refine ⟨en b ++ rest, g1, g2, rfl, fun _ => ?_⟩
     rw [hf b hb, hh (enc b) b hb rfl])
   l.length 0 (zr8 src σ) [] hT (by simp)
 have e : ([] : List D) ++ (((l.map enc).drop 0).filter fun _ => true).map (fun d => (ex d).choose) = l.map res := by
   rw [ztK, List.drop_zero, List.filter_eq_self.mpr (fun _ _ => rfl), List.map_map]
   exact List.map_congr_left fun b hb => hh (enc b) b hb rfl
 rw [e] at h
 refine zgv (j := .lst r) (n := l.length) (zaU (zaa hi) hr) ?_ (Nat.le_trans hl (Nat.le_trans (by decide) zbA)) rfl h
 have := zbv hr
 rw [zs7] at this
 exact this
theorem zdB {ts : List Tr} {n : Nat} {S : So} (hS : WF S) (hn : S[n]? = some (.lst (ts.map trT))) (hl : ts.length <= 1000) : zbg [.ref n] S = some (.bl (zp1 (edL ts)), S) := by
 have g0 : Gr S (S ++ [.dct []]) := (Gr.refl hS).snoc rfl
 have d0 : (S ++ [O.dct []])[S.length]? = some (.dct []) := zay
 have n0 : (S ++ [O.dct []])[n]? = some (.lst (ts.map trT)) := za4 hn
 generalize hS1 : S ++ [O.dct []] = S1 at *
 obtain ⟨σ', T, e1, hP⟩ := zdF (nx := nxD (.lst n)) (g := gNm 2) (f := zbr) (xs := ts.map trT)
   (fun i σ T => (∃ x1 x2, σ = [some (.ref n), some (.ref S.length), x1, x2]) /\ Gr S T /\ T[S.length]? = some (.dct (zqR ((edL (ts.take i)).map eK))))
   (fun i σ T ⟨_, g, _⟩ => by unfold nxD; simp only [g.old hn])
   (fun i d σ T hd ⟨⟨x1, x2, hσ⟩, g, h⟩ => by
     subst hσ
     rw [ztb] at hd
     obtain ⟨t, ht, rfl⟩ := oMs.mp hd
     have hlen : (zqR ((edL (ts.take i)).map eK)).length + 3 < 100000 := by
       have := zgm ((edL (ts.take i)).map eK) (xs := [])
       rw [zs7, zfu, ztu] at this
       unfold zqR
       simp only [ztt] at this
       omega
     obtain ⟨T', e, g', h'⟩ := zhH (n := n) (x2 := x2) (t := t) g (ztq _) h hlen
     refine ⟨_, T, .nx, _, T', rfl, e, .inl rfl, ⟨_, _, rfl⟩, g', ?_⟩
     rw [h', zg7 ht, zth, zjx])
   (ts.map trT).length 0 [some (.ref n), some (.ref S.length), none, none] S1 ⟨⟨none, none, rfl⟩, g0, d0⟩ (by simp)
 obtain ⟨⟨x1, x2, rfl⟩, g, h⟩ := hP
 rw [zs7, ztD] at h
 have hx := zjw (edL ts)
 have ha := zmU (edL ts)
 have hlen : (zqR ((edL ts).map eK)).length <= 3000 := by
   have := zgm ((edL ts).map eK) (xs := [])
   rw [zs7, zfu] at this
   unfold zqR
   simp only [ztt] at this
   omega
 rw [<- ha]
 generalize zqR ((edL ts).map eK) = cs at *
 have one : ∀ x ∈ cs, eB (zpM .Eq) (zpA 1) (eDM zqC (zpA 2) (zpz (eN zpO (zpz (eB gIx (zpA 0) (eC (.int 1))) (zpz (eB gIx (zpA 0) (eC (.int 0))) (zpD)))) (zpz (eC (.int 0)) (zpD)))) [some (kD x.1), some (.int x.2), some (.ref S.length)] T = some (.bl (zsN cs x), T) := fun x hm => by
   obtain ⟨e, _, rfl⟩ := hx x hm
   rw [zpn]
   exact zah (zaa rfl) (zjg (kd := eD (swp e)) (kk := eK (swp e)) (zaa rfl) h (zab (zat (zab (zah (zaa rfl) zao (zaA rfl)) (zab (zah (zaa rfl) zao (zaA rfl)) zag)) (zd9 (zs3 rfl))) (zab zao zag)) h rfl) zeS
 have lc := zdE (nx := nxD (.itm S.length cs.length)) (g := gTp 2 (zpI (gNm 0) (zpI (gNm 1) (zp3)))) (t := zqB) (fe := eB (zpM .Eq) (zpA 1) (eDM zqC (zpA 2) (zpz (eN zpO (zpz (eB gIx (zpA 0) (eC (.int 1))) (zpz (eB gIx (zpA 0) (eC (.int 0))) (zpD)))) (zpz (eC (.int 0)) (zpD)))))
   (S := T) (xs := cs.map fun x => D.tup [kD x.1, .int x.2]) (fun τ => ∃ v u, τ = [v, u, some (.ref S.length)]) (fun _ => true)
   (fun d => match d with
     | .tup [a, b] => ((eB (zpM .Eq) (zpA 1) (eDM zqC (zpA 2) (zpz (eN zpO (zpz (eB gIx (zpA 0) (eC (.int 1))) (zpz (eB gIx (zpA 0) (eC (.int 0))) (zpD)))) (zpz (eC (.int 0)) (zpD)))) [some a, some b, some (.ref S.length)] T).map (·.1)).getD .non
     | _ => .non) (zn0 h)
   (fun d hd τ hτ => by
     obtain ⟨v, u, rfl⟩ := hτ
     obtain ⟨x, hm, rfl⟩ := List.mem_map.mp hd
     refine ⟨[some (kD x.1), some (.int x.2), some (.ref S.length)], rfl, ⟨_, _, rfl⟩, rfl, fun _ => ?_⟩
     simp only
     rw [one x hm]; rfl)
   (cs.map fun x => D.tup [kD x.1, .int x.2]).length 0 [none, none, some (.ref S.length)] [] ⟨_, _, rfl⟩ (by simp)
 have el : ([] : List D) ++ (((cs.map fun x => D.tup [kD x.1, .int x.2]).drop 0).filter fun _ => true).map (fun d => match d with
     | .tup [a, b] => ((eB (zpM .Eq) (zpA 1) (eDM zqC (zpA 2) (zpz (eN zpO (zpz (eB gIx (zpA 0) (eC (.int 1))) (zpz (eB gIx (zpA 0) (eC (.int 0))) (zpD)))) (zpz (eC (.int 0)) (zpD)))) [some a, some b, some (.ref S.length)] T).map (·.1)).getD .non
     | _ => .non) = cs.map fun x => D.bl (zsN cs x) := by
   rw [ztK, List.drop_zero, List.filter_eq_self.mpr (fun _ _ => rfl), List.map_map]
   refine List.map_congr_left fun x hm => ?_
   simp only [Function.comp_apply]
   rw [one x hm]; rfl
 rw [el] at lc
 have bs := zdI (zsN cs) cs
 have g2 : Gr S (T ++ [.lst (cs.map fun x => D.bl (zsN cs x))]) := g.snoc (zbG.mpr fun x hx => by
   obtain ⟨y, _, rfl⟩ := List.mem_map.mp hx
   simp [D.lo])
 refine zaf (σ' := [some (.ref n), some (.ref S.length), x1, x2]) (S' := T ++ [.lst (cs.map fun x => D.bl (zsN cs x))]) ?_ g2.take rfl
 wtm_at "?b"
 unfold zdv zdM zdL zdK
 refine zac (zai (x := .ref S.length) (S1 := S1) (by rw [<- hS1]; rfl) rfl) (zad (zac (zcl (zaU (zaa rfl) n0) (zbv n0) e1) (zad (zac (zaF (zat (zab (zgv (zjd (zaa rfl) h) (zmK h) (Nat.le_trans hlen (Nat.le_trans (by decide) zbA)) rfl (by rw [zs7] at lc; exact lc)) zag) ?_)) zaw))))
 have q := zeT (zay (S := T)) bs
 rw [List.all_map] at q
 exact q
theorem ziu : ∀ E : List (Pt × Pt), zrs (E.map eD) = some (E.map eK)
 | [] => rfl
 | e :: r => by
   show (zsm (eD e)).bind (fun k => (zrs (r.map eD)).map fun l => k :: l) = _
   rw [ziu r]; rfl
theorem zg6 {r : Nat} {U : So} {E : List (Pt × Pt)} (h : U[r]? = some (.lst (E.map eD))) (e : Pt × Pt) : zqq (.ref r) [eD e] U = some (.int (E.count e : Nat), U) := by
 unfold zqq
 simp only [h]
 rw [ziu]
 simp only [zs6]
 have : zsm (eD e) = some (eK e) := rfl
 rw [this, ztv, zeq]
theorem zoB {s t : Pt × Pt} (h : eD s = eD t) : s = t := by
 obtain ⟨⟨a1, a2, a3⟩, ⟨b1, b2, b3⟩⟩ := s
 obtain ⟨⟨d1, d2, d3⟩, ⟨e1, e2, e3⟩⟩ := t
 have h' : D.tup [P3 a1 a2 a3, P3 b1 b2 b3] = D.tup [P3 d1 d2 d3, P3 e1 e2 e3] := h
 simp only [P3, D.tup.injEq, List.cons.injEq, D.int.injEq, and_true] at h'
 obtain ⟨⟨rfl, rfl, rfl⟩, rfl, rfl, rfl⟩ := h'
 rfl
theorem zhk {ts : List Tr} {n : Nat} {S : So} (hS : WF S) (hn : S[n]? = some (.lst (ts.map trT))) (hl : ts.length <= 300) : zbC [.ref n] S = some (.bl (zp1 (edL ts)), S) := by
 have g0 : Gr S (S ++ [.lst []]) := (Gr.refl hS).snoc rfl
 have d0 : (S ++ [O.lst []])[S.length]? = some (.lst []) := zay
 have n0 : (S ++ [O.lst []])[n]? = some (.lst (ts.map trT)) := za4 hn
 have s1 : zbW [some (.ref n), none, none, none, none] S = some (.nx, [some (.ref n), some (.ref S.length), none, none, none], S ++ [.lst []]) := by
   unfold zbW; rfl
 generalize S ++ [O.lst []] = S1 at *
 obtain ⟨σ', U, e1, hP⟩ := zdF (nx := nxD (.lst n)) (g := gTp 3 (zpI (gNm 2) (zpI (gNm 3) (zpI (gNm 4) (zp3))))) (f := zby) (xs := ts.map trT)
   (fun i σ U => (∃ r x2 x3 x4, σ = [some (.ref n), some (.ref r), x2, x3, x4] /\ U[r]? = some (.lst ((edL (ts.take i)).map eD))) /\ Gr S U)
   (fun i σ U ⟨_, g⟩ => by unfold nxD; simp only [g.old hn])
   (fun i d σ U hd ⟨⟨r, x2, x3, x4, hσ, hr⟩, g⟩ => by
     subst hσ
     rw [ztb] at hd
     obtain ⟨t, ht, rfl⟩ := oMs.mp hd
     obtain ⟨a, b, c⟩ := t
     have ga : Gr S (U ++ [.lst ((edE (a, b, c)).map eD)]) := g.snoc rfl
     have ra : (U ++ [O.lst ((edE (a, b, c)).map eD)])[r]? = some (.lst ((edL (ts.take i)).map eD)) := za4 hr
     have na : (U ++ [O.lst ((edE (a, b, c)).map eD)])[U.length]? = some (.lst ((edE (a, b, c)).map eD)) := zay
     have e2 : eN zqp (zpz (eN zpO (zpz (zpA 2) (zpz (zpA 3) (zpD)))) (zpz (eN zpO (zpz (zpA 3) (zpz (zpA 4) (zpD)))) (zpz (eN zpO (zpz (zpA 4) (zpz (zpA 2) (zpD)))) (zpD)))) [some (.ref n), some (.ref r), some (pD a), some (pD b), some (pD c)] U = some (.ref U.length, U ++ [.lst ((edE (a, b, c)).map eD)]) := rfl
     generalize U ++ [O.lst ((edE (a, b, c)).map eD)] = U1 at *
     have hlen : ((edL (ts.take i)).map eD).length + ((edE (a, b, c)).map eD).length <= 1000 := by
       rw [zs7, zs7, zfu, ztu]
       show _ + 3 <= 1000
       omega
     have ad := addLL (σ := [some (.ref n), some (.ref r), some (pD a), some (pD b), some (pD c)]) (fa := zpA 1) (S1 := U) (zaa rfl) e2 ra na hlen
     have el : (edL (ts.take i)).map eD ++ (edE (a, b, c)).map eD = (edL (ts.take (i + 1))).map eD := by rw [zg7 ht, zth]
     rw [el] at ad
     refine ⟨[some (.ref n), some (.ref r), some (pD a), some (pD b), some (pD c)], U, .nx, [some (.ref n), some (.ref U1.length), some (pD a), some (pD b), some (pD c)], U1 ++ [.lst ((edL (ts.take (i + 1))).map eD)], rfl, ?_, .inl rfl, ⟨U1.length, some (pD a), some (pD b), some (pD c), rfl, zay⟩, ga.snoc ?_⟩
     . unfold zby zb3
       exact zac (zai ad rfl) (zad zap)
     . refine zbG.mpr fun y hy => ?_
       obtain ⟨e, _, rfl⟩ := List.mem_map.mp hy
       rfl)
   (ts.map trT).length 0 [some (.ref n), some (.ref S.length), none, none, none] S1 ⟨⟨S.length, none, none, none, rfl, d0⟩, g0⟩ (by simp)
 obtain ⟨⟨r, x2, x3, x4, rfl, hr⟩, g⟩ := hP
 rw [zs7, ztD] at hr
 have hE := zfu ts
 unfold zp1
 generalize edL ts = E at *
 have lc := zn9 (iv := 1) (src := [none, some 1]) (σ := [some (.ref n), some (.ref r), x2, x3, x4]) (g := gNm 0) (rest := [some (.ref r)]) (fe := eB (zpM .Eq) (eM zqq (zpA 1) (zpz (zpA 0) (zpD))) (eM zqq (zpA 1) (zpz (eN zpO (zpz (eB gIx (zpA 0) (eC (.int 1))) (zpz (eB gIx (zpA 0) (eC (.int 0))) (zpD)))) (zpD)))) eD (fun e => .bl (decide (E.count e = E.count (swp e)))) (fun e => [some (eD e)]) (fun τ => ∃ v, τ = [v, some (.ref r)]) hr rfl ⟨_, rfl⟩
   (fun e _ τ ⟨v, hv⟩ => by subst hv; exact ⟨rfl, _, rfl⟩)
   (fun e _ => by
     refine zah (zfN (ds := [eD e]) (S2 := U) (zaa rfl) hr (zab (zaa rfl) zag) (zg6 hr e)) (zfN (ds := [eD (swp e)]) (S2 := U) (zaa rfl) hr (zab (zat (zab (zah (zaa rfl) zao (zaA rfl)) (zab (zah (zaa rfl) zao (zaA rfl)) zag)) (zd9 (zs3 rfl))) zag) (zg6 hr (swp e))) ?_
     rw [zeS]
     congr 3
     by_cases h : E.count e = E.count (swp e)
     . rw [zb6 h, zb6 (by rw [h])]
     . rw [zcI h, zcI (by omega)])
   (fun b _ c _ e => by rw [zoB e]) (by omega)
 have bs := zdI (fun e => decide (E.count e = E.count (swp e))) E
 have g2 : Gr S (U ++ [.lst (E.map fun e => D.bl (decide (E.count e = E.count (swp e))))]) := g.snoc (zbG.mpr fun x hx => by
   obtain ⟨y, _, rfl⟩ := List.mem_map.mp hx
   simp [D.lo])
 refine zaf (σ' := [some (.ref n), some (.ref r), x2, x3, x4]) (S' := U ++ [.lst (E.map fun e => D.bl (decide (E.count e = E.count (swp e))))]) ?_ g2.take rfl
 wtm_at "?b"
 unfold zcD zc4 zc3
 refine zac s1 (zad (zac (zcl (zaU (zaa rfl) n0) (zbv n0) e1) (zad (zac (zaF (zat (zab lc zag) ?_)) zaw))))
 have q := zeT (zay (S := U)) bs
 rw [List.all_map] at q
 exact q
end MX.P
end
section
local macro_rules | `(tactic| wtm_at "?d") => `(tactic| (with_reducible assumption))
namespace MX.P
open PySem L2 MX
theorem zou {x y : Bool} {S : So} : zpM .NotEq (.bl x) (.bl y) S = some (.bl (x != y), S) := by cases x <;> cases y <;> rfl
theorem zeL (j : Nat) (l : List Tr) : O.lo j (.lst (l.map trT)) = true := zbG.mpr fun y hy => by
 obtain ⟨t, _, rfl⟩ := List.mem_map.mp hy
 rfl
theorem zh4 {box : D} {ab : Bool} {m : Nat} {n : Int} {t : Tr} {S V : So} {ms : List Tr} (g : Gr S V) (hm : V[m]? = some (.lst (ms.map trT))) (hS : S.length <= m) (hl : ms.length <= 500) :
   zbj [some box, some (.bl ab), some (.ref m), some (.int n), some (pD t.1), some (pD t.2.1), some (pD t.2.2)] V = some (.nx, [some box, some (.bl ab), some (.ref m), some (.int n), some (pD t.1), some (pD t.2.1), some (pD t.2.2)], V.set m (.lst ((ms ++ [sw (decide (n.fmod 2 = 0) != ab) t]).map trT))) /\ Gr S (V.set m (.lst ((ms ++ [sw (decide (n.fmod 2 = 0) != ab) t]).map trT))) /\ (V.set m (.lst ((ms ++ [sw (decide (n.fmod 2 = 0) != ab) t]).map trT)))[m]? = some (.lst ((ms ++ [sw (decide (n.fmod 2 = 0) != ab) t]).map trT)) := by
 refine ⟨?_, g.set hS (zeL _ _), List.getElem?_set_self (zsX.mp hm).1⟩
 have hz : (ms.map trT).length < sizeLine := by rw [zs7]; exact ztl hl (zs0 (by decide) zbA)
 have t1 : tBl (eB (zpM .NotEq) (eB (zpM .Eq) (eB (zpJ .Mod) (zpA 3) (eC (.int 2))) (eC (.int 0))) (zpA 1)) [some box, some (.bl ab), some (.ref m), some (.int n), some (pD t.1), some (pD t.2.1), some (pD t.2.2)] V = some (decide (n.fmod 2 = 0) != ab, V) := zck (zah (zah (zah (zaa rfl) zao (zbz (by decide))) zao zeS) (zaa rfl) zou)
 unfold zbj zbM
 rw [zth]
 generalize (decide (n.fmod 2 = 0) != ab) = b at *
 cases b with
 | true => exact zac (zaJ t1 (zbd rfl (zac (zbZ (zfN (ds := [.tup [pD t.1, pD t.2.2, pD t.2.1]]) (S2 := V) (zaa rfl) hm rfl (zcP hm hz rfl))) (zad zap)))) (zad zap)
 | false => exact zac (zaJ t1 (zaN rfl (zac (zbZ (zfN (ds := [.tup [pD t.1, pD t.2.1, pD t.2.2]]) (S2 := V) (zaa rfl) hm rfl (zcP hm hz rfl))) (zad zap)))) (zad zap)
theorem zcf {box : D} {ab : Bool} {m q : Nat} {n k s : Int} {t1 t2 : Tr} {S U V : So} {ms : List Tr} {x4 x5 x6 : Option D} (hk : n.fdiv 2 = k) (hs : n.fmod 2 = s) (hf : zaW [box, .int k, .int s] U = some (.ref q, V)) (gv : Gr U V) (g : Gr S U) (hq : V[q]? = some (.lst ([t1, t2].map trT))) (hm : U[m]? = some (.lst (ms.map trT))) (hS : S.length <= m) (hmq : m ≠ q) (hl : ms.length <= 400) :
   ∃ U' y4 y5 y6, zcc [some box, some (.bl ab), some (.ref m), some (.int n), x4, x5, x6] U = some (.nx, [some box, some (.bl ab), some (.ref m), some (.int n), y4, y5, y6], U') /\ Gr S U' /\ U'[m]? = some (.lst ((ms ++ [t1, t2].map (sw (decide (n.fmod 2 = 0) != ab))).map trT)) := by
 obtain ⟨a1, a2, a3⟩ := zh4 (box := box) (ab := ab) (n := n) (t := t1) (g.trans gv) (gv.old hm) hS (by omega)
 have q1 : (V.set m (.lst ((ms ++ [sw (decide (n.fmod 2 = 0) != ab) t1]).map trT)))[q]? = some (.lst ([t1, t2].map trT)) := by rw [List.getElem?_set_ne hmq]; exact hq
 generalize V.set m (.lst ((ms ++ [sw (decide (n.fmod 2 = 0) != ab) t1]).map trT)) = V1 at *
 obtain ⟨b1, b2, b3⟩ := zh4 (box := box) (ab := ab) (n := n) (t := t2) a2 a3 hS (by rw [zs9]; show _ + 1 <= 500; omega)
 have q2 : (V1.set m (.lst ((ms ++ [sw (decide (n.fmod 2 = 0) != ab) t1] ++ [sw (decide (n.fmod 2 = 0) != ab) t2]).map trT)))[q]? = some (.lst ([t1, t2].map trT)) := by rw [List.getElem?_set_ne hmq]; exact q1
 have el : ms ++ [sw (decide (n.fmod 2 = 0) != ab) t1] ++ [sw (decide (n.fmod 2 = 0) != ab) t2] = ms ++ [t1, t2].map (sw (decide (n.fmod 2 = 0) != ab)) := by simp
 rw [el] at b1 b2 b3 q2
 generalize V1.set m (.lst ((ms ++ [t1, t2].map (sw (decide (n.fmod 2 = 0) != ab))).map trT)) = V2 at *
 refine ⟨V2, some (pD t2.1), some (pD t2.2.1), some (pD t2.2.2), ?_, b2, b3⟩
 unfold zcc zcH
 refine zac (zcl (j := .lst q) (n := 2) (S1 := V) (zaU (zat (zab (zaa rfl) (zab (zah (zaa rfl) zao (zbI (by decide))) (zab (zah (zaa rfl) zao (zbz (by decide))) zag))) (zaj rfl (by rw [hk, hs]; exact hf))) hq) (zbv hq) ?_) (zad zap)
 exact zax (d := trT t1) (zaY hq rfl) rfl a1 (zaz (zax (d := trT t2) (zaY q1 rfl) rfl b1 (zaz (zcv (zdk q2 rfl)))))
theorem zh0 {lo hi : Pt} {ab : Bool} {S : So} (hS : WF S) : ∃ n T, zcs [.tup [pD lo, pD hi], .bl ab] S = some (.ref n, T) /\ Gr S T /\ T[n]? = some (.lst ((zp6 lo hi ab).map trT)) := by
 have g0 : Gr S (S ++ [.lst []]) := (Gr.refl hS).snoc rfl
 have m0 : (S ++ [O.lst []])[S.length]? = some (.lst (([] : List Tr).map trT)) := zay
 have s1 : zcA [some (.tup [pD lo, pD hi]), some (.bl ab), none, none, none, none, none] S = some (.nx, [some (.tup [pD lo, pD hi]), some (.bl ab), some (.ref S.length), none, none, none, none], S ++ [.lst []]) := by
   unfold zcA; rfl
 generalize S ++ [O.lst []] = U0 at *
 have lt : ∀ {U : So} {ms : List Tr}, U[S.length]? = some (.lst (ms.map trT)) -> S.length < U.length := fun h => (zsX.mp h).1
 have sz : ∀ b : Bool, ([] : List Tr) ++ (trs 0 lo hi lo.1).map (sw b) = (trs 0 lo hi lo.1).map (sw b) := fun b => rfl
 obtain ⟨q1, V1, f1, h1, r1, l1⟩ := zgM (lo := lo) (hi := hi) (F := lo) (s := 0) g0.2 rfl
 obtain ⟨U1, a4, a5, a6, e1, g1, m1⟩ := zcf (ab := ab) (n := 0) (x4 := none) (x5 := none) (x6 := none) (by decide) (by decide) f1 h1 g0 r1 m0 (ztq _) (by have := lt m0; omega) (by decide)
 obtain ⟨q2, V2, f2, h2, r2, l2⟩ := zgM (lo := lo) (hi := hi) (F := hi) (s := 1) g1.2 rfl
 obtain ⟨U2, b4, b5, b6, e2, g2, m2⟩ := zcf (ab := ab) (n := 1) (x4 := a4) (x5 := a5) (x6 := a6) (by decide) (by decide) f2 h2 g1 r2 m1 (ztq _) (by have := lt m1; omega) (by show 2 <= 400; decide)
 obtain ⟨q3, V3, f3, h3, r3, l3⟩ := zgL (lo := lo) (hi := hi) (F := lo) (s := 0) g2.2 rfl
 obtain ⟨U3, c4, c5, c6, e3, g3, m3⟩ := zcf (ab := ab) (n := 2) (x4 := b4) (x5 := b5) (x6 := b6) (by decide) (by decide) f3 h3 g2 r3 m2 (ztq _) (by have := lt m2; omega) (by show 4 <= 400; decide)
 obtain ⟨q4, V4, f4, h4, r4, l4⟩ := zgL (lo := lo) (hi := hi) (F := hi) (s := 1) g3.2 rfl
 obtain ⟨U4, d4, d5, d6, e4, g4, m4⟩ := zcf (ab := ab) (n := 3) (x4 := c4) (x5 := c5) (x6 := c6) (by decide) (by decide) f4 h4 g3 r4 m3 (ztq _) (by have := lt m3; omega) (by show 6 <= 400; decide)
 obtain ⟨q5, V5, f5, h5, r5, l5⟩ := zgK (lo := lo) (hi := hi) (F := lo) (s := 0) g4.2 rfl
 obtain ⟨U5, i4, i5, i6, e5, g5, m5⟩ := zcf (ab := ab) (n := 4) (x4 := d4) (x5 := d5) (x6 := d6) (by decide) (by decide) f5 h5 g4 r5 m4 (ztq _) (by have := lt m4; omega) (by show 8 <= 400; decide)
 obtain ⟨q6, V6, f6, h6, r6, l6⟩ := zgK (lo := lo) (hi := hi) (F := hi) (s := 1) g5.2 rfl
 obtain ⟨U6, j4, j5, j6, e6, g6, m6⟩ := zcf (ab := ab) (n := 5) (x4 := i4) (x5 := i5) (x6 := i6) (by decide) (by decide) f6 h6 g5 r6 m5 (ztq _) (by have := lt m5; omega) (by show 10 <= 400; decide)
 refine ⟨S.length, U6, ?_, g6, m6⟩
 have ln : S.length < U6.length := lt m6
 refine zdZ (S := S) (σ' := [some (.tup [pD lo, pD hi]), some (.bl ab), some (.ref S.length), some (.int 5), j4, j5, j6]) (S' := U6) ?_ (fun z => ?_) (by omega) (by simp only [D.lo, ztG]; exact ln) g6.2
 . wtm_at "?b"
   unfold zdx zdO zdN
   refine zac s1 (zad (zac (zcl (zgw (j := 6) (zab zao zag) (by decide)) (n := 6) rfl ?_) (zad (zac (zaF (zaa rfl)) zaw))))
   exact zax (zgi (z := 0) (by decide) rfl) rfl e1 (zaz (zax (zgi (z := 1) (by decide) rfl) rfl e2 (zaz (zax (zgi (z := 2) (by decide) rfl) rfl e3 (zaz (zax (zgi (z := 3) (by decide) rfl) rfl e4 (zaz (zax (zgi (z := 4) (by decide) rfl) rfl e5 (zaz (zax (zgi (z := 5) (by decide) rfl) rfl e6 (zaz (zcv rfl))))))))))))
 . have := z.2
   simp only [D.lo, ztG] at this
   omega
end MX.P
end
section
local macro_rules | `(tactic| wtm_at "?d") => `(tactic| (with_reducible assumption))
namespace MX.P
open PySem L2 MX
theorem zmx {n : Nat} {xs : List D} {i : Int} {d : D} {S : So} (h1 : S[n]? = some (.lst xs)) (h0 : 0 <= i) (h2 : i < xs.length) (hz : xs.length <= 1000) (hd : xs[i.toNat]? = some d) : gPop (.ref n) [.int i] S = some (d, S.set n (.lst (xs.eraseIdx i.toNat))) := by
 unfold gPop
 simp only [h1]
 have e : seqIndex? i xs.length = some i.toNat := seqIndex_of h0 h2
 rw [if_pos (by omega), e]
 simp only [zs6, hd, ztv]
theorem zos {n : Nat} {xs : List D} {S : So} (h1 : S[n]? = some (.lst xs)) : zqg (.ref n) [] S = some (.non, S.set n (.lst xs.reverse)) := by
 unfold zqg
 simp only [h1]
theorem zoz {g : GM} {fo : EF} {σ : Sg} {S S1 : So} {n : Nat} {xs : List D} {r : Option (D × So)} (h1 : fo σ S = some (.ref n, S1)) (h2 : S1[n]? = some (.lst xs)) (h3 : g (.ref n) [] S1 = r) : eM0 g fo σ S = r := by
 unfold eM0
 rw [h1]; simp only [zs6]; rw [h2]; exact h3
def allC (P : Pt -> Prop) (ts : List Tr) : Prop := ∀ t ∈ ts, P t.1 /\ P t.2.1 /\ P t.2.2
theorem zh1 {ts : List Tr} {n : Nat} {more : Int} {S : So} (hS : WF S) (hn : S[n]? = some (.lst (ts.map trT))) (l1 : 1 <= ts.length) (l2 : ts.length <= 200) (h01 : more.fmod 5 = 0 \/ more.fmod 5 = 1) :
   ∃ (es : List Tr) (m : Nat) (T : So), zct [.ref n, .int more] S = some (.ref m, T) /\ Gr S T /\ T[m]? = some (.lst (es.map trT)) /\ es.length <= 250 := by
 have g1 : Gr S (S ++ [.lst (ts.map trT)]) := (Gr.refl hS).snoc (zeL _ _)
 have m1 : (S ++ [O.lst (ts.map trT)])[S.length]? = some (.lst (ts.map trT)) := zay
 have s1 : zbV [some (.ref n), some (.int more), none, none, none, none, none] S = some (.nx, [some (.ref n), some (.int more), some (.ref S.length), none, none, none, none], S ++ [.lst (ts.map trT)]) := by
   unfold zbV
   exact zai (zat (zab (zaa rfl) zag) (zep hn)) rfl
 generalize S ++ [O.lst (ts.map trT)] = S1 at *
 have lp : (0 : Int) < ((ts.map trT).length : Int) := by rw [zs7]; omega
 have i0 := ztc (more.fdiv 5) lp
 have i1 := ztd (more.fdiv 5) lp
 have s2 : zbU [some (.ref n), some (.int more), some (.ref S.length), none, none, none, none] S1 = some (.nx, [some (.ref n), some (.int more), some (.ref S.length), some (.int ((more.fdiv 5).fmod ((ts.map trT).length : Int))), none, none, none], S1) := by
   unfold zbU
   exact zai (zah (zah (zaa rfl) zao (zbI (by decide))) (zat (zab (zaa rfl) zag) (zfs m1)) (zbz (by omega))) rfl
 generalize (more.fdiv 5).fmod ((ts.map trT).length : Int) = i at *
 have il : i.toNat < ts.length := by rw [zs7] at i1; omega
 obtain ⟨t, ht⟩ : ∃ t, ts[i.toNat]? = some t := ⟨_, zts il⟩
 have tm : t ∈ ts := List.mem_of_getElem? ht
 have hti : (ts.map trT)[i.toNat]? = some (trT t) := by rw [ztb, ht]; rfl
 have hx : ixN (ts.map trT).length i = some i.toNat := by unfold ixN; rw [if_pos i0, if_pos i1]
 have ha : atI (ts.map trT) i = some (trT t) := by unfold atI; rw [hx]; exact hti
 have s3 : zbT [some (.ref n), some (.int more), some (.ref S.length), some (.int i), none, none, none] S1 = some (.nx, [some (.ref n), some (.int more), some (.ref S.length), some (.int i), some (pD t.1), some (pD t.2.1), some (pD t.2.2)], S1) := by
   unfold zbT
   exact zai (zah (zaa rfl) (zaa rfl) (zdd m1 ha)) rfl
 have tst : ∀ (c : Int) (r : Nat) (T : So), tBl (eB (zpM .Eq) (eB (zpJ .Mod) (zpA 1) (eC (.int 5))) (eC (.int c))) [some (.ref n), some (.int more), some (.ref r), some (.int i), some (pD t.1), some (pD t.2.1), some (pD t.2.2)] T = some (decide (more.fmod 5 = c), T) := fun c r T => zck (zah (zah (zaa rfl) zao (zbz (by decide))) zao zeS)
 have r0 := ztc more (show (0 : Int) < 5 by decide)
 have r1 := ztd more (show (0 : Int) < 5 by decide)
 generalize more.fmod 5 = w at *
 have skip : ∀ {c : Int} {r : Nat} {T : So} {f : SF}, ¬ w = c -> sIf (tBl (eB (zpM .Eq) (eB (zpJ .Mod) (zpA 1) (eC (.int 5))) (eC (.int c)))) f zpE [some (.ref n), some (.int more), some (.ref r), some (.int i), some (pD t.1), some (pD t.2.1), some (pD t.2.2)] T = some (.nx, [some (.ref n), some (.int more), some (.ref r), some (.int i), some (pD t.1), some (pD t.2.1), some (pD t.2.2)], T) := fun {c r T f} h => by
   have t' := tst c r T
   rw [zcI h] at t'
   exact zaJ t' (zaN rfl zap)
 have hz : (ts.map trT).length <= 1000 := by rw [zs7]; omega
 have ml : S.length < S1.length := (zsX.mp m1).1
 have key : ∃ (es : List Tr) (r : Nat) (T : So), Gr S T /\ S.length <= r /\ T[r]? = some (.lst (es.map trT)) /\ es.length <= 250 /\
     zpH zbS (zpH zbR (zpH zbQ (zpH zbP (zpH zbO (zpH zbb (zpH zaV zpE)))))) [some (.ref n), some (.int more), some (.ref S.length), some (.int i), some (pD t.1), some (pD t.2.1), some (pD t.2.2)] S1
       = zpH zbb (zpH zaV zpE) [some (.ref n), some (.int more), some (.ref r), some (.int i), some (pD t.1), some (pD t.2.1), some (pD t.2.2)] T := by
   unfold zbS zbR zbQ zbP zbO
   rcases h01 with h | h
   . refine ⟨ts.eraseIdx i.toNat, S.length, S1.set S.length (.lst ((ts.eraseIdx i.toNat).map trT)), g1.set (ztq _) (zeL _ _), ztq _, List.getElem?_set_self ml, ?_, ?_⟩
     . have := List.length_eraseIdx_le ts i.toNat; omega
     . have t' := tst 0 S.length S1
       rw [zb6 h] at t'
       have pp := zmx m1 i0 i1 hz hti
       rw [show (ts.map trT).eraseIdx i.toNat = (ts.eraseIdx i.toNat).map trT by rw [List.eraseIdx_eq_take_drop_succ, List.eraseIdx_eq_take_drop_succ, zth, List.map_take, List.map_drop]] at pp
       exact zac (zaJ t' (zbd rfl (zac (zbZ (zfN (ds := [.int i]) (S2 := S1) (zaa rfl) m1 (zab (zaa rfl) zag) pp)) (zad zap)))) (zad (zac (skip (by omega)) (zad (zac (skip (by omega)) (zad (zac (skip (by omega)) (zad (zac (skip (by omega)) (zad rfl)))))))))
   . refine ⟨ts.set i.toNat (t.1, t.2.2, t.2.1), S.length, S1.set S.length (.lst ((ts.set i.toNat (t.1, t.2.2, t.2.1)).map trT)), g1.set (ztq _) (zeL _ _), ztq _, List.getElem?_set_self ml, by rw [List.length_set]; omega, ?_⟩
     . have t' := tst 1 S.length S1
       rw [zb6 h] at t'
       have ps := zmB (d := trT (t.1, t.2.2, t.2.1)) m1 hx rfl
       rw [<- List.map_set] at ps
       exact zac (skip (by omega)) (zad (zac (zaJ t' (zbd rfl (zac (zai (x := trT (t.1, t.2.2, t.2.1)) (S1 := S1) rfl (MX.zfc (zaa rfl) (zaa rfl) ps)) (zad zap)))) (zad (zac (skip (by omega)) (zad (zac (skip (by omega)) (zad (zac (skip (by omega)) (zad rfl)))))))))
 obtain ⟨es, r, T, gT, hr, hT, le, ek⟩ := key
 have rl : r < T.length := (zsX.mp hT).1
 have gR : Gr S (T.set r (.lst (es.reverse.map trT))) := gT.set hr (zeL _ _)
 have rv := zos hT
 rw [<- List.map_reverse] at rv
 refine ⟨es.reverse, r, T.set r (.lst (es.reverse.map trT)), ?_, gR, List.getElem?_set_self rl, by rw [List.length_reverse]; exact le⟩
 refine zdZ (S := S) (σ' := [some (.ref n), some (.int more), some (.ref r), some (.int i), some (pD t.1), some (pD t.2.1), some (pD t.2.2)]) (S' := T.set r (.lst (es.reverse.map trT))) ?_ (fun z => ?_) (by rw [List.length_set]; omega) (by simp only [D.lo, ztG, List.length_set]; exact rl) gR.2
 . wtm_at "?b"
   unfold zcB
   refine zac s1 (zad (zac s2 (zad (zac s3 (zad (ek.trans ?_))))))
   unfold zbb zaV
   exact zac (zbZ (zoz (zaa rfl) hT rv)) (zad (zac (zaF (zaa rfl)) zaw))
 . have := z.2
   simp only [D.lo, ztG] at this
   omega
end MX.P
end
section
namespace MX.P
theorem zmq {X Y Z : Pt} (h : sal (zpy X Y) ≠ (zqa X Y Z).sign \/ sal (zpy Y Z) ≠ (zqa X Y Z).sign \/ sal (zpy Z X) ≠ (zqa X Y Z).sign) : goM X Y Z = 0 := by
 unfold goM
 rw [if_neg fun z => ?_]
 rcases h with h | h | h
 . exact h z.1
 . exact h z.2.1
 . exact h z.2.2
theorem zgr {X Y Z : Pt} (h : zqa X Y Z = 0) : goM X Y Z = 0 := by
 unfold goM
 rw [h]
 split <;> rfl
theorem zgZ {X Y Z : Pt} (h : zqa X Y Z ≠ 0 -> sal (zpy X Y) ≠ sal (zpy Y Z) \/ sal (zpy X Y) ≠ sal (zpy Z X)) : goM X Y Z = 0 := by
 by_cases hd : zqa X Y Z = 0
 . exact zgr hd
 . by_cases h1 : sal (zpy X Y) = (zqa X Y Z).sign
   . rcases h hd with h | h
     . exact zmq (.inr (.inl (h1 ▸ Ne.symm h)))
     . exact zmq (.inr (.inr (h1 ▸ Ne.symm h)))
   . exact zmq (.inl h1)
theorem zsD {v : Pt} (h : v.1 ≠ 0) : sal v = v.1.sign := by unfold sal; rw [if_pos h]
theorem sal2 {v : Pt} (h : v.1 = 0) (h2 : v.2.1 ≠ 0) : sal v = v.2.1.sign := by unfold sal; rw [if_neg (by simp [h]), if_pos h2]
theorem zfi {x : Int} (h : x ≠ 0) : x.sign ≠ (-x).sign := by
 rw [Int.sign_neg]
 rcases Int.lt_or_lt_of_ne h with h | h
 . rw [Int.sign_eq_neg_one_of_neg h]; decide
 . rw [Int.sign_eq_one_of_pos h]; decide
theorem zpr (x0 x1 w z0 z1 : Int) : goM (x0, w, z0) (x0, w, z1) (x1, w, z1) = 0 := by
 refine zgZ fun hd => .inr ?_
 have e : zqa (x0, w, z0) (x0, w, z1) (x1, w, z1) = (w * (z1 - z0)) * (x1 - x0) := by unfold zqa zpC zpy; simp only; grind
 have hn : w * (z1 - z0) ≠ 0 := fun z => hd (by rw [e, z, Int.zero_mul])
 have e1 : (zpy (x0, w, z0) (x0, w, z1)).1 = w * (z1 - z0) := by unfold zpy; simp only; grind
 have e2 : (zpy (x1, w, z1) (x0, w, z0)).1 = -(w * (z1 - z0)) := by unfold zpy; simp only; grind
 rw [zsD (by rw [e1]; exact hn), zsD (by rw [e2]; omega), e1, e2]
 exact zfi hn
theorem zpq (x0 x1 w z0 z1 : Int) : goM (x0, w, z0) (x1, w, z1) (x1, w, z0) = 0 := by
 refine zgZ fun hd => .inl ?_
 have e : zqa (x0, w, z0) (x1, w, z1) (x1, w, z0) = (w * (z1 - z0)) * (x1 - x0) := by unfold zqa zpC zpy; simp only; grind
 have hn : w * (z1 - z0) ≠ 0 := fun z => hd (by rw [e, z, Int.zero_mul])
 have e1 : (zpy (x0, w, z0) (x1, w, z1)).1 = w * (z1 - z0) := by unfold zpy; simp only; grind
 have e2 : (zpy (x1, w, z1) (x1, w, z0)).1 = -(w * (z1 - z0)) := by unfold zpy; simp only; grind
 rw [zsD (by rw [e1]; exact hn), zsD (by rw [e2]; omega), e1, e2]
 exact zfi hn
theorem zpp (x0 x1 y0 y1 w : Int) (hx : x0 <= x1) (hy : y0 <= y1) : goM (x0, y0, w) (x1, y0, w) (x1, y1, w) = 0 := by
 refine zgZ fun hd => .inl ?_
 have e : zqa (x0, y0, w) (x1, y0, w) (x1, y1, w) = w * ((x1 - x0) * (y1 - y0)) := by unfold zqa zpC zpy; simp only; grind
 have hw : w ≠ 0 := fun z => hd (by rw [e, z, Int.zero_mul])
 have ha : 0 < x1 - x0 := by
   rcases Int.lt_or_eq_of_le (show 0 <= x1 - x0 by omega) with h | h
   . exact h
   . exact absurd (by rw [e, <- h]; simp) hd
 have hb : 0 < y1 - y0 := by
   rcases Int.lt_or_eq_of_le (show 0 <= y1 - y0 by omega) with h | h
   . exact h
   . exact absurd (by rw [e, <- h]; simp) hd
 have e0 : (zpy (x0, y0, w) (x1, y0, w)).1 = 0 := by unfold zpy; simp only; grind
 have e1 : (zpy (x0, y0, w) (x1, y0, w)).2.1 = w * (x1 - x0) := by unfold zpy; simp only; grind
 have e2 : (zpy (x1, y0, w) (x1, y1, w)).1 = -w * (y1 - y0) := by unfold zpy; simp only; grind
 have n1 : w * (x1 - x0) ≠ 0 := Int.mul_ne_zero hw (by omega)
 have n2 : -w * (y1 - y0) ≠ 0 := Int.mul_ne_zero (by omega) (by omega)
 rw [sal2 e0 (by rw [e1]; exact n1), zsD (by rw [e2]; exact n2), e1, e2, Int.sign_mul, Int.sign_mul, Int.sign_eq_one_of_pos ha, Int.sign_eq_one_of_pos hb, Int.mul_one, Int.mul_one]
 exact zfi hw
theorem zpo (x0 x1 y0 y1 w : Int) : goM (x0, y0, w) (x1, y1, w) (x0, y1, w) = 0 := by
 refine zgZ fun hd => .inr ?_
 have e : zqa (x0, y0, w) (x1, y1, w) (x0, y1, w) = (w * (y1 - y0)) * (x1 - x0) := by unfold zqa zpC zpy; simp only; grind
 have hn : w * (y1 - y0) ≠ 0 := fun z => hd (by rw [e, z, Int.zero_mul])
 have e1 : (zpy (x0, y0, w) (x1, y1, w)).1 = -(w * (y1 - y0)) := by unfold zpy; simp only; grind
 have e2 : (zpy (x0, y1, w) (x0, y0, w)).1 = w * (y1 - y0) := by unfold zpy; simp only; grind
 rw [zsD (by rw [e1]; omega), zsD (by rw [e2]; exact hn), e1, e2]
 exact (zfi hn).symm
theorem zhp {x y z : Int} : sal (x, y, z) = 1 ↔ 0 < x \/ (x = 0 /\ (0 < y \/ (y = 0 /\ 0 < z))) := by
 unfold sal
 simp only
 split
 . rw [Int.sign_eq_one_iff_pos]; omega
 . split
   . rw [Int.sign_eq_one_iff_pos]; omega
   . rw [Int.sign_eq_one_iff_pos]; omega
theorem zhq {x y z : Int} : sal (x, y, z) = -1 ↔ x < 0 \/ (x = 0 /\ (y < 0 \/ (y = 0 /\ z < 0))) := by
 unfold sal
 simp only
 split
 . rw [Int.sign_eq_neg_one_iff_neg]; omega
 . split
   . rw [Int.sign_eq_neg_one_iff_neg]; omega
   . rw [Int.sign_eq_neg_one_iff_neg]; omega
theorem zhw {x c : Int} (h : 0 < c) : (0 < x * c ↔ 0 < x) /\ (x * c = 0 ↔ x = 0) /\ (x * c < 0 ↔ x < 0) := by
 rcases Int.lt_trichotomy x 0 with q | q | q
 . have := Int.mul_neg_of_neg_of_pos q h; omega
 . subst q; simp
 . have := Int.mul_pos q h; omega
abbrev Sg3 (U z : Int) : Prop := (0 < U ↔ 0 < z) /\ (U = 0 ↔ z = 0) /\ (U < 0 ↔ z < 0)
theorem sp_a {U W z : Int} (s : Sg3 U z) (h : 0 < W) : sal (-U, 0, W) = 1 ↔ z <= 0 := by rw [zhp]; omega
theorem sp_b {U W z : Int} (s : Sg3 U z) (h : 0 < W) : sal (U, -W, 0) = 1 ↔ 0 < z := by rw [zhp]; omega
theorem sp_c {d W X : Int} (h : 0 < W) : sal (d, W, X) = 1 ↔ 0 <= d := by rw [zhp]; omega
theorem sp_d {d W X : Int} (h : 0 < W) : sal (-d, -W, X) = 1 ↔ d < 0 := by rw [zhp]; omega
theorem zoZ {U W z : Int} (s : Sg3 U z) (h : 0 < W) : sal (U, 0, -W) = 1 ↔ 0 < z := by rw [zhp]; omega
theorem zo0 {U W z : Int} (s : Sg3 U z) (h : 0 < W) : sal (-U, W, 0) = 1 ↔ z <= 0 := by rw [zhp]; omega
theorem sn_a {U W z : Int} (s : Sg3 U z) (h : W < 0) : sal (-U, 0, W) = -1 ↔ 0 <= z := by rw [zhq]; omega
theorem sn_b {U W z : Int} (s : Sg3 U z) (h : W < 0) : sal (U, -W, 0) = -1 ↔ z < 0 := by rw [zhq]; omega
theorem sn_c {d W X : Int} (h : W < 0) : sal (d, W, X) = -1 ↔ d <= 0 := by rw [zhq]; omega
theorem sn_d {d W X : Int} (h : W < 0) : sal (-d, -W, X) = -1 ↔ 0 < d := by rw [zhq]; omega
theorem zo1 {U W z : Int} (s : Sg3 U z) (h : W < 0) : sal (U, 0, -W) = -1 ↔ z < 0 := by rw [zhq]; omega
theorem zo2 {U W z : Int} (s : Sg3 U z) (h : W < 0) : sal (-U, W, 0) = -1 ↔ 0 <= z := by rw [zhq]; omega
theorem zms {w d U V U' V' y0 y1 z0 z1 : Int} (s1 : Sg3 U z0) (s2 : Sg3 V y0) (s3 : Sg3 U' z1) (s4 : Sg3 V' y1) (e1 : d = U - V) (e2 : d = U' - V') (h : 0 < w) :
   (if z0 <= 0 /\ 0 < y1 /\ 0 <= d then (1 : Int) else 0) + (if d < 0 /\ 0 < z1 /\ y0 <= 0 then 1 else 0) = if 0 < w /\ (y0 <= 0 /\ 0 < y1) /\ z0 <= 0 /\ 0 < z1 then 1 else 0 := by
 by_cases hd : d < 0
 . rw [if_neg (fun z => absurd z.2.2 (by omega))]
   by_cases h2 : 0 < z1 /\ y0 <= 0
   . have h3 : 0 < U' := s3.1.mpr h2.1
     have h4 : 0 < y1 := s4.1.mp (by omega)
     have h5 : ¬ 0 < V := fun z => absurd (s2.1.mp z) (by omega)
     have h6 : z0 < 0 := s1.2.2.mp (by omega)
     rw [if_pos ⟨hd, h2.1, h2.2⟩, if_pos ⟨h, ⟨h2.2, h4⟩, by omega, h2.1⟩]; rfl
   . rw [if_neg fun z => h2 ⟨z.2.1, z.2.2⟩, if_neg fun z => h2 ⟨z.2.2.2, z.2.1.1⟩]; rfl
 . rw [if_neg (c := d < 0 /\ _) fun z => hd z.1]
   by_cases h2 : z0 <= 0 /\ 0 < y1
   . have h3 : ¬ 0 < U := fun z => absurd (s1.1.mp z) (by omega)
     have h4 : ¬ 0 < y0 := fun z => absurd (s2.1.mpr z) (by omega)
     have h5 : 0 < V' := s4.1.mpr h2.2
     have h6 : 0 < z1 := s3.1.mp (by omega)
     rw [if_pos ⟨h2.1, h2.2, by omega⟩, if_pos ⟨h, ⟨by omega, h2.2⟩, h2.1, h6⟩]; rfl
   . rw [if_neg fun z => h2 ⟨z.1, z.2.1⟩, if_neg fun z => h2 ⟨z.2.2.1, z.2.1.2⟩]; rfl
theorem zmr {d U V U' V' y0 y1 z0 z1 : Int} (s1 : Sg3 U z0) (s2 : Sg3 V y0) (s3 : Sg3 U' z1) (s4 : Sg3 V' y1) (e1 : d = U - V) (e2 : d = U' - V') (ha : 0 < y1 - y0) (hb : 0 < z1 - z0) : (0 <= z0 -> y1 < 0 -> ¬ d <= 0) /\ (0 < d -> z1 < 0 -> ¬ 0 <= y0) := by
 refine ⟨fun h1 h2 => ?_, fun h1 h2 h3 => ?_⟩
 . have := s3.1.mpr (show 0 < z1 by omega)
   have := s4.2.2.mpr h2
   omega
 . have := s3.2.2.mpr h2
   have := s4.1.mpr (show 0 < y1 by omega)
   omega
theorem go_x {w y0 y1 z0 z1 : Int} (hy : y0 <= y1) (hz : z0 <= z1) : goM (w, y0, z0) (w, y1, z0) (w, y1, z1) + goM (w, y0, z0) (w, y1, z1) (w, y0, z1) = if 0 < w /\ (y0 <= 0 /\ 0 < y1) /\ z0 <= 0 /\ 0 < z1 then 1 else 0 := by
 have d1 : zqa (w, y0, z0) (w, y1, z0) (w, y1, z1) = w * ((y1 - y0) * (z1 - z0)) := by unfold zqa zpC zpy; simp only; grind
 have d2 : zqa (w, y0, z0) (w, y1, z1) (w, y0, z1) = w * ((y1 - y0) * (z1 - z0)) := by unfold zqa zpC zpy; simp only; grind
 by_cases hf : w * ((y1 - y0) * (z1 - z0)) = 0
 . rw [zgr (d1.trans hf), zgr (d2.trans hf), if_neg fun h => ?_]
   . rfl
   . have : 0 < w * ((y1 - y0) * (z1 - z0)) := Int.mul_pos h.1 (Int.mul_pos (by omega) (by omega))
     omega
 have hw : w ≠ 0 := fun z => hf (by rw [z, Int.zero_mul])
 have ha : 0 < y1 - y0 := by
   rcases Int.lt_or_eq_of_le (show 0 <= y1 - y0 by omega) with h | h
   . exact h
   . exact absurd (by rw [<- h]; simp) hf
 have hb : 0 < z1 - z0 := by
   rcases Int.lt_or_eq_of_le (show 0 <= z1 - z0 by omega) with h | h
   . exact h
   . exact absurd (by rw [<- h]; simp) hf
 have hab := Int.mul_pos ha hb
 have a1 : zpy (w, y0, z0) (w, y1, z0) = (-z0 * (y1 - y0), 0, w * (y1 - y0)) := by unfold zpy; simp only; refine Prod.ext ?_ (Prod.ext ?_ ?_) <;> simp only <;> grind
 have a2 : zpy (w, y1, z0) (w, y1, z1) = (y1 * (z1 - z0), -w * (z1 - z0), 0) := by unfold zpy; simp only; refine Prod.ext ?_ (Prod.ext ?_ ?_) <;> simp only <;> grind
 have a3 : zpy (w, y1, z1) (w, y0, z0) = (y1 * z0 - z1 * y0, w * (z1 - z0), -w * (y1 - y0)) := by unfold zpy; simp only; refine Prod.ext ?_ (Prod.ext ?_ ?_) <;> simp only <;> grind
 have b1 : zpy (w, y0, z0) (w, y1, z1) = (-(y1 * z0 - z1 * y0), -w * (z1 - z0), w * (y1 - y0)) := by unfold zpy; simp only; refine Prod.ext ?_ (Prod.ext ?_ ?_) <;> simp only <;> grind
 have b2 : zpy (w, y1, z1) (w, y0, z1) = (z1 * (y1 - y0), 0, -w * (y1 - y0)) := by unfold zpy; simp only; refine Prod.ext ?_ (Prod.ext ?_ ?_) <;> simp only <;> grind
 have b3 : zpy (w, y0, z1) (w, y0, z0) = (-y0 * (z1 - z0), w * (z1 - z0), 0) := by unfold zpy; simp only; refine Prod.ext ?_ (Prod.ext ?_ ?_) <;> simp only <;> grind
 have e1 : y1 * z0 - z1 * y0 = z0 * (y1 - y0) - y0 * (z1 - z0) := by grind
 have e2 : y1 * z0 - z1 * y0 = z1 * (y1 - y0) - y1 * (z1 - z0) := by grind
 have s1 := zhw (x := z0) ha
 have s2 := zhw (x := y0) hb
 have s3 := zhw (x := z1) ha
 have s4 := zhw (x := y1) hb
 have s5 := zhw (x := w) ha
 have s6 := zhw (x := w) hb
 unfold goM
 rw [d1, d2, a1, a2, a3, b1, b2, b3]
 simp only [Int.neg_mul]
 have key : ∀ σ : Int, (w * ((y1 - y0) * (z1 - z0))).sign = σ -> (σ = 1 /\ 0 < w) \/ (σ = -1 /\ w < 0) := fun σ e => by
   rw [Int.sign_mul, Int.sign_eq_one_of_pos hab, Int.mul_one] at e
   rcases Int.lt_or_lt_of_ne hw with q | q
   . rw [Int.sign_eq_neg_one_of_neg q] at e; exact .inr ⟨e.symm, q⟩
   . rw [Int.sign_eq_one_of_pos q] at e; exact .inl ⟨e.symm, q⟩
 generalize (w * ((y1 - y0) * (z1 - z0))).sign = σ at *
 generalize y1 * z0 - z1 * y0 = d at *
 generalize z0 * (y1 - y0) = U at *
 generalize y0 * (z1 - z0) = V at *
 generalize z1 * (y1 - y0) = U' at *
 generalize y1 * (z1 - z0) = V' at *
 generalize w * (y1 - y0) = W at *
 generalize w * (z1 - z0) = W' at *
 clear a1 a2 a3 b1 b2 b3 d1 d2 hf hab
 rcases key σ rfl with ⟨rfl, h⟩ | ⟨rfl, h⟩
 . have hW := s5.1.mpr h
   have hW' := s6.1.mpr h
   simp only [sp_a s1 hW, sp_b s4 hW', sp_c (d := d) (X := -W) hW', sp_d (d := d) (X := W) hW', zoZ s3 hW, zo0 s2 hW']
   clear key s5 s6 hW hW'
   exact zms s1 s2 s3 s4 e1 e2 h
 . have hW := s5.2.2.mpr h
   have hW' := s6.2.2.mpr h
   simp only [sn_a s1 hW, sn_b s4 hW', sn_c (d := d) (X := -W) hW', sn_d (d := d) (X := W) hW', zo1 s3 hW, zo2 s2 hW']
   have hd : (0 <= z0 -> y1 < 0 -> ¬ d <= 0) /\ (0 < d -> z1 < 0 -> ¬ 0 <= y0) := by
     clear key s5 s6 hW hW'
     exact zmr s1 s2 s3 s4 e1 e2 ha hb
   rw [if_neg fun z => hd.1 z.1 z.2.1 z.2.2, if_neg fun z => hd.2 z.1 z.2.1 z.2.2, if_neg fun z => absurd z.1 (by omega)]
   rfl
def goT (p : Pt) (t : Tr) : Int := goM (wb p t.1) (wb p t.2.1) (wb p t.2.2)
def sgT (b : Bool) : Int := if b = true then -1 else 1
theorem zps (p : Pt) (b : Bool) (t : Tr) : goT p (sw b t) = sgT b * goT p t := by
 cases b with
 | false => show goT p t = 1 * goT p t; omega
 | true =>
   show goM (wb p t.1) (wb p t.2.2) (wb p t.2.1) = -1 * goM (wb p t.1) (wb p t.2.1) (wb p t.2.2)
   rw [zmo]
   omega
theorem znc (p : Pt) (b : Bool) (t u : Tr) : (([t, u].map (sw b)).map (goT p)).sum = sgT b * (goT p t + goT p u) := by
 simp only [ztJ, List.map_nil, List.sum_cons, List.sum_nil, zps]
 rw [Int.mul_add]; omega
def zqL (lo hi p : Pt) : Prop := (lo.1 <= p.1 /\ p.1 < hi.1) /\ (lo.2.1 <= p.2.1 /\ p.2.1 < hi.2.1) /\ lo.2.2 <= p.2.2 /\ p.2.2 < hi.2.2
instance (lo hi p : Pt) : Decidable (zqL lo hi p) := by unfold zqL; infer_instance
theorem zls {lo hi p : Pt} {ab : Bool} (hb : zqF lo hi) : ((zp6 lo hi ab).map (goT p)).sum = if zqL lo hi p then sgT ab else 0 := by
 obtain ⟨b1, b2, b3⟩ := hb
 unfold zp6
 simp only [zth, List.sum_append]
 unfold trs
 simp only [znc]
 have y1 : ∀ f, goT p ((lo.1, f, lo.2.2), (lo.1, f, hi.2.2), (hi.1, f, hi.2.2)) = 0 := fun f => zpr _ _ _ _ _
 have y2 : ∀ f, goT p ((lo.1, f, lo.2.2), (hi.1, f, hi.2.2), (hi.1, f, lo.2.2)) = 0 := fun f => zpq _ _ _ _ _
 have z1 : ∀ f, goT p ((lo.1, lo.2.1, f), (hi.1, lo.2.1, f), (hi.1, hi.2.1, f)) = 0 := fun f => zpp (lo.1 - p.1) (hi.1 - p.1) (lo.2.1 - p.2.1) (hi.2.1 - p.2.1) _ (by omega) (by omega)
 have z2 : ∀ f, goT p ((lo.1, lo.2.1, f), (hi.1, hi.2.1, f), (lo.1, hi.2.1, f)) = 0 := fun f => zpo _ _ _ _ _
 have x : ∀ f, goT p ((f, lo.2.1, lo.2.2), (f, hi.2.1, lo.2.2), (f, hi.2.1, hi.2.2)) + goT p ((f, lo.2.1, lo.2.2), (f, hi.2.1, hi.2.2), (f, lo.2.1, hi.2.2)) = if 0 < f - p.1 /\ (lo.2.1 - p.2.1 <= 0 /\ 0 < hi.2.1 - p.2.1) /\ lo.2.2 - p.2.2 <= 0 /\ 0 < hi.2.2 - p.2.2 then 1 else 0 := fun f => go_x (y0 := lo.2.1 - p.2.1) (y1 := hi.2.1 - p.2.1) (z0 := lo.2.2 - p.2.2) (z1 := hi.2.2 - p.2.2) (by omega) (by omega)
 rw [y1, y1, y2, y2, z1, z1, z2, z2, x, x]
 simp only [Int.add_zero, Int.mul_zero]
 have hab : (sgT (true != ab) = -1 /\ sgT (false != ab) = 1 /\ sgT ab = 1) \/ (sgT (true != ab) = 1 /\ sgT (false != ab) = -1 /\ sgT ab = -1) := by cases ab <;> simp [sgT]
 clear x y1 y2 z1 z2
 by_cases hl : zqL lo hi p
 . rw [if_pos hl]
   unfold zqL at hl
   rw [if_neg (fun z => absurd z.1 (by omega)), if_pos (by omega)]
   rcases hab with ⟨h1, h2, h3⟩ | ⟨h1, h2, h3⟩ <;> rw [h1, h2, h3] <;> rfl
 . rw [if_neg hl]
   unfold zqL at hl
   by_cases h1 : 0 < lo.1 - p.1 /\ (lo.2.1 - p.2.1 <= 0 /\ 0 < hi.2.1 - p.2.1) /\ lo.2.2 - p.2.2 <= 0 /\ 0 < hi.2.2 - p.2.2
   . rw [if_pos h1, if_pos (by omega)]
     rcases hab with ⟨h1, h2, h3⟩ | ⟨h1, h2, h3⟩ <;> rw [h1, h2] <;> rfl
   . rw [if_neg h1, if_neg (by omega)]
     omega
theorem znY {p : Pt} {b : Bool} {t : Tr} : onB p (sw b t).1 (sw b t).2.1 (sw b t).2.2 = true ↔ onT (wb p t.1) (wb p t.2.1) (wb p t.2.2) := by
 rw [zma]
 cases b with
 | false => exact Iff.rfl
 | true =>
   show onT (wb p t.1) (wb p t.2.2) (wb p t.2.1) ↔ _
   constructor
   . rintro ⟨u, v, w, h1, h2, h3, h4, h5, h6, h7⟩
     exact ⟨u, w, v, h1, h3, h2, by omega, by omega, by omega, by omega⟩
   . rintro ⟨u, v, w, h1, h2, h3, h4, h5, h6, h7⟩
     exact ⟨u, w, v, h1, h3, h2, by omega, by omega, by omega, by omega⟩
theorem zga {lo hi p : Pt} {T : Tr} (h1 : inPt lo hi T.1) (h2 : inPt lo hi T.2.1) (h3 : inPt lo hi T.2.2) (h : onT (wb p T.1) (wb p T.2.1) (wb p T.2.2)) : inPt lo hi p := by
 have := zoV (o := p) (d := (1, 0, 0)) (t := (0, 1)) h1 h2 h3 (by decide) (zfJ.mpr h)
 unfold inB zrg at this
 unfold inPt
 simp only at this
 omega
theorem zoR {p : Pt} {b : Bool} {ts : List Tr} : ((ts.map (sw b)).any fun t => onB p t.1 t.2.1 t.2.2) = true ↔ ∃ T ∈ ts, onT (wb p T.1) (wb p T.2.1) (wb p T.2.2) := by
 rw [List.any_eq_true]
 constructor
 . rintro ⟨x, hx, h⟩
   obtain ⟨T, hT, rfl⟩ := List.mem_map.mp hx
   exact ⟨T, hT, znY.mp h⟩
 . rintro ⟨T, hT, h⟩
   exact ⟨_, List.mem_map_of_mem hT, znY.mpr h⟩
def zpQ (lo hi p : Pt) : Prop := (lo.1 < p.1 /\ p.1 < hi.1) /\ (lo.2.1 < p.2.1 /\ p.2.1 < hi.2.1) /\ lo.2.2 < p.2.2 /\ p.2.2 < hi.2.2
instance (lo hi p : Pt) : Decidable (zpQ lo hi p) := by unfold zpQ; infer_instance
instance (lo hi p : Pt) : Decidable (inPt lo hi p) := by unfold inPt; infer_instance
theorem zlr {lo hi p : Pt} {ab : Bool} (hb : zqF lo hi) : ((zp6 lo hi ab).any fun t => onB p t.1 t.2.1 t.2.2) = decide (inPt lo hi p /\ ¬ zpQ lo hi p) := by
 have hb' := hb
 obtain ⟨b1, b2, b3⟩ := hb
 have ax : ∀ {o d l h : Int}, l <= o -> o <= h -> zrg o d l h (0, 1) := fun {o d l h} h1 h2 => by unfold zrg; simp only; omega
 have f0 : ∀ f, (∃ T ∈ trs 0 lo hi f, onT (wb p T.1) (wb p T.2.1) (wb p T.2.2)) ↔ inPt (f, lo.2.1, lo.2.2) (f, hi.2.1, hi.2.2) p := fun f => by
   constructor
   . rintro ⟨T, hT, h⟩
     simp only [trs, List.mem_cons, ztF, or_false] at hT
     rcases hT with rfl | rfl <;> refine zga ?_ ?_ ?_ h <;> (unfold inPt; simp only; omega)
   . intro h
     unfold inPt at h
     simp only at h
     obtain ⟨T, hT, q⟩ := face0 (o := p) (d := (1, 0, 0)) (f := f) (t := (0, 1)) hb' (by decide) (ax h.2.1.1 h.2.1.2) (ax h.2.2.1 h.2.2.2) (by simp only; omega)
     exact ⟨T, hT, zfJ.mp q⟩
 have f1 : ∀ f, (∃ T ∈ trs 1 lo hi f, onT (wb p T.1) (wb p T.2.1) (wb p T.2.2)) ↔ inPt (lo.1, f, lo.2.2) (hi.1, f, hi.2.2) p := fun f => by
   constructor
   . rintro ⟨T, hT, h⟩
     simp only [trs, List.mem_cons, ztF, or_false] at hT
     rcases hT with rfl | rfl <;> refine zga ?_ ?_ ?_ h <;> (unfold inPt; simp only; omega)
   . intro h
     unfold inPt at h
     simp only at h
     obtain ⟨T, hT, q⟩ := face1 (o := p) (d := (1, 0, 0)) (f := f) (t := (0, 1)) hb' (by decide) (ax h.1.1 h.1.2) (ax h.2.2.1 h.2.2.2) (by simp only; omega)
     exact ⟨T, hT, zfJ.mp q⟩
 have f2 : ∀ f, (∃ T ∈ trs 2 lo hi f, onT (wb p T.1) (wb p T.2.1) (wb p T.2.2)) ↔ inPt (lo.1, lo.2.1, f) (hi.1, hi.2.1, f) p := fun f => by
   constructor
   . rintro ⟨T, hT, h⟩
     simp only [trs, List.mem_cons, ztF, or_false] at hT
     rcases hT with rfl | rfl <;> refine zga ?_ ?_ ?_ h <;> (unfold inPt; simp only; omega)
   . intro h
     unfold inPt at h
     simp only at h
     obtain ⟨T, hT, q⟩ := face2 (o := p) (d := (1, 0, 0)) (f := f) (t := (0, 1)) hb' (by decide) (ax h.1.1 h.1.2) (ax h.2.1.1 h.2.1.2) (by simp only; omega)
     exact ⟨T, hT, zfJ.mp q⟩
 rw [Bool.eq_iff_iff, ztG]
 unfold zp6
 simp only [List.any_append, ztw, zoR, f0, f1, f2]
 unfold inPt zpQ
 simp only
 omega
def tsB (bs : List ((Pt × Pt) × Bool)) : List Tr := bs.flatMap fun b => zp6 b.1.1 b.1.2 b.2
def zr0 (p : Pt) : List ((Pt × Pt) × Bool) -> Int -> Int
 | [], f => if f = 0 then -1 else 1
 | b :: r, f => if zpQ b.1.1 b.1.2 p then zr0 p r (f + sgT b.2) else if inPt b.1.1 b.1.2 p then 0 else zr0 p r f
theorem zjr (p : Pt) : ∀ (bs : List ((Pt × Pt) × Bool)) (f : Int), (∀ b ∈ bs, zqF b.1.1 b.1.2) ->
   zr0 p bs f = if (tsB bs).any (fun t => onB p t.1 t.2.1 t.2.2) = true then 0 else if f + ((tsB bs).map (goT p)).sum = 0 then -1 else 1
 | [], f, _ => by
   show (if f = 0 then (-1 : Int) else 1) = if false = true then 0 else if f + 0 = 0 then -1 else 1
   rw [Int.add_zero]
   rfl
 | b :: r, f, h => by
   have hb := h b (zsZ ..)
   have ih := fun g => zjr p r g fun x hx => h x (zsY _ hx)
   have e : tsB (b :: r) = zp6 b.1.1 b.1.2 b.2 ++ tsB r := rfl
   rw [e, List.any_append, zth, List.sum_append, zlr hb, zls hb]
   unfold zr0
   by_cases hs : zpQ b.1.1 b.1.2 p
   . have hl : zqL b.1.1 b.1.2 p := by unfold zpQ at hs; unfold zqL; omega
     rw [if_pos hs, ih, if_pos hl, decide_eq_false (fun z => z.2 hs), Bool.false_or, Int.add_assoc]
   . rw [if_neg hs]
     by_cases hi : inPt b.1.1 b.1.2 p
     . rw [if_pos hi, decide_eq_true ⟨hi, hs⟩, Bool.true_or, if_pos rfl]
     . have hl : ¬ zqL b.1.1 b.1.2 p := fun z => hi (by unfold zqL at z; unfold inPt; omega)
       rw [if_neg hi, ih, if_neg hl, decide_eq_false (fun z => hi z.1), Bool.false_or, Int.zero_add]
end MX.P
end
section
namespace MX.P
open PySem L2 MX
theorem zlp (ce : Int) : ∃ g : Pt -> Pt, (∀ lo hi, zqF lo hi -> zqF (g lo) (g hi)) /\ ∀ p, BdP 10 p -> BdP 70 (g p) /\ ∀ S, zbB [pD p, .int ce] S = some (pD (g p), S) := by
 by_cases h3 : ce.fmod 3 = 0
 . refine ⟨fun p => p, fun _ _ h => h, fun p bp => ⟨bp.le (by decide), fun S => ?_⟩⟩
   obtain ⟨x, y, z⟩ := p
   apply zaf
   . wtm_at "?b"
     unfold zbE
     wtm_at "?a"
   . wtm_at "?c"
   . rfl
 . have h1 := ztc ce (show (0 : Int) < 1 * 2 ^ (50 : Int).toNat by decide)
   have bs : Bd 53 (1 + ce.fmod (1 * 2 ^ (50 : Int).toNat)) := by
     have h2 := ztd ce (show (0 : Int) < 1 * 2 ^ (50 : Int).toNat by decide)
     have e : (1 : Int) * 2 ^ (50 : Int).toNat = 1125899906842624 := by decide
     rw [e] at h1 h2
     rw [e]
     unfold Bd; omega
   refine ⟨fun p => (p.1 * (1 + ce.fmod (1 * 2 ^ (50 : Int).toNat)) + ce.fmod 1000003, p.2.1 * (1 + ce.fmod (1 * 2 ^ (50 : Int).toNat)) - ce.fmod 997, p.2.2 * (1 + ce.fmod (1 * 2 ^ (50 : Int).toNat)) + 5), fun lo hi ⟨b1, b2, b3⟩ => ?_, fun p bp => ?_⟩
   . have m : ∀ {x y : Int}, x <= y -> x * (1 + ce.fmod (1 * 2 ^ (50 : Int).toNat)) <= y * (1 + ce.fmod (1 * 2 ^ (50 : Int).toNat)) := fun h => Int.mul_le_mul_of_nonneg_right h (by omega)
     exact ⟨Int.add_le_add_right (m b1) _, Int.sub_le_sub_right (m b2) _, Int.add_le_add_right (m b3) _⟩
   . obtain ⟨x, y, z⟩ := p
     obtain ⟨bx, by', bz⟩ := bp
     simp only at bx by' bz
     refine ⟨⟨?_, ?_, ?_⟩, fun S => ?_⟩
     . exact ((bx.mul bs).add (Bd.fmod (m := 1000003) (by decide))).le (by decide)
     . exact ((by'.mul bs).sub (Bd.fmod (m := 997) (by decide))).le (by decide)
     . exact ((bz.mul bs).add (Bd.lit 5)).le (by decide)
     . have n1 : mulOk x (1 + ce.fmod (1 * 2 ^ (50 : Int).toNat)) = true := zdD bx bs (by decide)
       have n2 : mulOk y (1 + ce.fmod (1 * 2 ^ (50 : Int).toNat)) = true := zdD by' bs (by decide)
       have n3 : mulOk z (1 + ce.fmod (1 * 2 ^ (50 : Int).toNat)) = true := zdD bz bs (by decide)
       apply zaf
       . wtm_at "?b"
         unfold zbE
         wtm_at "?a"
       . wtm_at "?c"
       . rfl
abbrev Bx := (Pt × Pt) × Bool
def bxD (b : Bx) : D := .tup [.tup [pD b.1.1, pD b.1.2], .bl b.2]
def okB (b : Bx) : Prop := zqF b.1.1 b.1.2 /\ BdP 70 b.1.1 /\ BdP 70 b.1.2
theorem zpl (m : Nat) (p : Pt) : D.lo m (pD p) = true := by simp [pD, P3, D.lo, los]
theorem zpm (m : Nat) (bs : List Bx) : O.lo m (.lst (bs.map bxD)) = true := zbG.mpr fun x hx => by
 obtain ⟨b, _, rfl⟩ := List.mem_map.mp hx
 simp [bxD, D.lo, los, zpl]
theorem zhM {ns : List Int} (hns : ns.length <= 63) {c0 mo : Int} {m : Nat} {bs : List Bx} {S : So} {k : Nat} (x5 x6 x7 x8 : Option D) (h0 : S[0]? = some (.frz (ns.map .int))) (hm : S[m]? = some (.lst (bs.map bxD))) (hl : bs.length = k) (hk : k < 3) (hbs : ∀ b ∈ bs, okB b) :
   ∃ b x5' x6' x7' x8', okB b /\ zbc [some (.ref 0), some (.int c0), some (.int mo), some (.ref m), some (.int (k : Nat)), x5, x6, x7, x8] S = some (.nx, [some (.ref 0), some (.int c0), some (.int mo), some (.ref m), some (.int (k : Nat)), x5', x6', x7', x8'], S.set m (.lst ((bs ++ [b]).map bxD))) := by
 have c1 := zez hns ((k : Nat) + 2 : Int) h0
 generalize zqO ns ((k : Nat) + 2 : Int) = ce at c1
 have d1 := sp_drawn ce (k : Nat) S
 generalize zqQ ce (k : Nat) = he at d1
 have p1 := zlo he S
 have b1 := zln he
 generalize zsB he = lw at p1 b1
 obtain ⟨u, v, w⟩ := lw
 have q1 : Bd 4 ((he.fdiv 729).fmod 9) := (Bd.fmod (by decide)).le (by decide)
 have q2 : Bd 4 ((he.fdiv 6561).fmod 9) := (Bd.fmod (by decide)).le (by decide)
 have q3 : Bd 4 ((he.fdiv 59049).fmod 9) := (Bd.fmod (by decide)).le (by decide)
 have z1 := ztc (he.fdiv 729) (show (0 : Int) < 9 by decide)
 have z2 := ztc (he.fdiv 6561) (show (0 : Int) < 9 by decide)
 have z3 := ztc (he.fdiv 59049) (show (0 : Int) < 9 by decide)
 have e7 : zbn [some (.ref 0), some (.int c0), some (.int mo), some (.ref m), some (.int (k : Nat)), some (.int he), some (P3 u v w), x7, x8] S = some (.nx, [some (.ref 0), some (.int c0), some (.int mo), some (.ref m), some (.int (k : Nat)), some (.int he), some (P3 u v w), some (P3 (u + (he.fdiv 729).fmod 9) (v + (he.fdiv 6561).fmod 9) (w + (he.fdiv 59049).fmod 9)), x8], S) := by
   unfold zbn
   exact zai (zat (zab (zah (zah (zaa rfl) zao (zaA rfl)) (zah (zah (zaa rfl) zao (zbI (by decide))) zao (zbz (by decide))) zcF) (zab (zah (zah (zaa rfl) zao (zaA rfl)) (zah (zah (zaa rfl) zao (zbI (by decide))) zao (zbz (by decide))) zcF) (zab (zah (zah (zaa rfl) zao (zaA rfl)) (zah (zah (zaa rfl) zao (zbI (by decide))) zao (zbz (by decide))) zcF) zag))) (zd9 (zs3 rfl))) rfl
 generalize hA : (he.fdiv 729).fmod 9 = A at *
 generalize hB : (he.fdiv 6561).fmod 9 = B at *
 generalize hC : (he.fdiv 59049).fmod 9 = C at *
 obtain ⟨g, gm, gs⟩ := zlp c0
 have bl : BdP 10 (u, v, w) := b1.le (by decide)
 have bh : BdP 10 (u + A, v + B, w + C) := ⟨(b1.1.add q1).le (by decide), (b1.2.1.add q2).le (by decide), (b1.2.2.add q3).le (by decide)⟩
 obtain ⟨gl, fl⟩ := gs _ bl
 obtain ⟨gh, fh⟩ := gs _ bh
 have ok0 : zqF (g (u, v, w)) (g (u + A, v + B, w + C)) := gm _ _ ⟨by show u <= u + A; omega, by show v <= v + B; omega, by show w <= w + C; omega⟩
 generalize g (u, v, w) = lo at *
 generalize g (u + A, v + B, w + C) = hi at *
 have s1 : zbp [some (.ref 0), some (.int c0), some (.int mo), some (.ref m), some (.int (k : Nat)), x5, x6, x7, x8] S = some (.nx, [some (.ref 0), some (.int c0), some (.int mo), some (.ref m), some (.int (k : Nat)), some (.int he), x6, x7, x8], S) := by
   unfold zbp
   exact zai (zat (zab (zat (zab (zaa rfl) (zab (zah (zaa rfl) zao zcF) zag)) (zaj rfl c1)) (zab (zaa rfl) zag)) (zaj rfl d1)) rfl
 have s2 : zbo [some (.ref 0), some (.int c0), some (.int mo), some (.ref m), some (.int (k : Nat)), some (.int he), x6, x7, x8] S = some (.nx, [some (.ref 0), some (.int c0), some (.int mo), some (.ref m), some (.int (k : Nat)), some (.int he), some (P3 u v w), x7, x8], S) := by
   unfold zbo
   exact zai (zat (zab (zaa rfl) zag) (zaj rfl p1)) rfl
 have s4 : zbm [some (.ref 0), some (.int c0), some (.int mo), some (.ref m), some (.int (k : Nat)), some (.int he), some (P3 u v w), some (P3 (u + A) (v + B) (w + C)), x8] S = some (.nx, [some (.ref 0), some (.int c0), some (.int mo), some (.ref m), some (.int (k : Nat)), some (.int he), some (P3 u v w), some (P3 (u + A) (v + B) (w + C)), some (.tup [pD lo, pD hi])], S) := by
   unfold zbm
   exact zai (zat (zab (zat (zab (zaa rfl) (zab (zaa rfl) zag)) (zaj rfl (fl S))) (zab (zat (zab (zaa rfl) (zab (zaa rfl) zag)) (zaj rfl (fh S))) zag)) (zd9 (zs3 rfl))) rfl
 obtain ⟨lo', hi', ok', bl', bh', s5⟩ : ∃ lo' hi', zqF lo' hi' /\ BdP 70 lo' /\ BdP 70 hi' /\ zbl [some (.ref 0), some (.int c0), some (.int mo), some (.ref m), some (.int (k : Nat)), some (.int he), some (P3 u v w), some (P3 (u + A) (v + B) (w + C)), some (.tup [pD lo, pD hi])] S = some (.nx, [some (.ref 0), some (.int c0), some (.int mo), some (.ref m), some (.int (k : Nat)), some (.int he), some (P3 u v w), some (P3 (u + A) (v + B) (w + C)), some (.tup [pD lo', pD hi'])], S) := by
   have t1 : tBl (eB (zpM .Eq) (zpA 4) (eC (.int 1))) [some (.ref 0), some (.int c0), some (.int mo), some (.ref m), some (.int (k : Nat)), some (.int he), some (P3 u v w), some (P3 (u + A) (v + B) (w + C)), some (.tup [pD lo, pD hi])] S = some (decide ((k : Nat) = (1 : Int)), S) := zck (zah (zaa rfl) zao zeS)
   have t2 : tBl (eB (zpM .Eq) (eB (zpJ .Mod) (eB (zpJ .FloorDiv) (zpA 2) (eC (.int 5))) (eC (.int 4))) (eC (.int 0))) [some (.ref 0), some (.int c0), some (.int mo), some (.ref m), some (.int (k : Nat)), some (.int he), some (P3 u v w), some (P3 (u + A) (v + B) (w + C)), some (.tup [pD lo, pD hi])] S = some (decide ((mo.fdiv 5).fmod 4 = 0), S) := zck (zah (zah (zah (zaa rfl) zao (zbI (by decide))) zao (zbz (by decide))) zao zeS)
   unfold zbl
   by_cases hk1 : (k : Nat) = (1 : Int)
   . rw [zb6 hk1] at t1
     by_cases h4 : (mo.fdiv 5).fmod 4 = 0
     . rw [zb6 h4] at t2
       obtain ⟨b, rfl⟩ : ∃ b, bs = [b] := by
         cases bs with
         | nil => simp only [ztt] at hl; omega
         | cons b r => cases r with
           | nil => exact ⟨b, rfl⟩
           | cons _ _ => simp only [ztg] at hl; omega
       obtain ⟨o1, o2, o3⟩ := hbs b (zsZ ..)
       refine ⟨b.1.1, b.1.2, o1, o2, o3, zaJ (zfr t1 (zbd rfl t2)) (zbd rfl (zac (zai (zah (zah (zaa rfl) zao (zdd hm (show atI ([b].map bxD) 0 = some (.tup [.tup [pD b.1.1, pD b.1.2], .bl b.2]) from rfl))) zao (zaA rfl)) rfl) (zad zap)))⟩
     . rw [zcI h4] at t2
       exact ⟨lo, hi, ok0, gl, gh, zaJ (zfr t1 (zbd rfl t2)) (zaN rfl zap)⟩
   . rw [zcI hk1] at t1
     exact ⟨lo, hi, ok0, gl, gh, zaJ (zfr t1 (zaN rfl rfl)) (zaN rfl zap)⟩
 refine ⟨((lo', hi'), decide ((he.fdiv 531441).fmod 2 = 0)), some (.int he), some (P3 u v w), some (P3 (u + A) (v + B) (w + C)), some (.tup [pD lo', pD hi']), ⟨ok', bl', bh'⟩, ?_⟩
 have s6 : zbk [some (.ref 0), some (.int c0), some (.int mo), some (.ref m), some (.int (k : Nat)), some (.int he), some (P3 u v w), some (P3 (u + A) (v + B) (w + C)), some (.tup [pD lo', pD hi'])] S = some (.nx, [some (.ref 0), some (.int c0), some (.int mo), some (.ref m), some (.int (k : Nat)), some (.int he), some (P3 u v w), some (P3 (u + A) (v + B) (w + C)), some (.tup [pD lo', pD hi'])], S.set m (.lst ((bs ++ [((lo', hi'), decide ((he.fdiv 531441).fmod 2 = 0))]).map bxD))) := by
   unfold zbk
   refine zbZ (zfN (ds := [bxD ((lo', hi'), decide ((he.fdiv 531441).fmod 2 = 0))]) (S2 := S) (zaa rfl) hm ?_ (zcP hm (by rw [zs7]; exact zs0 (show bs.length < 100000 by omega) zbA) (by rw [zth]; rfl)))
   exact zab (zat (zab (zaa rfl) (zab (zah (zah (zah (zaa rfl) zao (zbI (by decide))) zao (zbz (by decide))) zao zeS) zag)) (zd9 (zs3 rfl))) zag
 unfold zbc
 exact zac s1 (zad (zac s2 (zad (zac e7 (zad (zac s4 (zad (zac s5 (zad (zac s6 (zad zap)))))))))))
theorem zjR {ns : List Int} (hns : ns.length <= 63) {S : So} (hS : WF S) (h0 : S[0]? = some (.frz (ns.map .int))) :
   ∃ (bs : List Bx) (m : Nat) (T : So), zcO [.ref 0] S = some (.ref m, T) /\ Gr S T /\ T[m]? = some (.lst (bs.map bxD)) /\ 1 <= bs.length /\ bs.length <= 3 /\ ∀ b ∈ bs, okB b := by
 have c0 := zez hns 0 h0
 have c1 := zez hns 1 h0
 generalize zqO ns 0 = e0 at c0
 generalize zqO ns 1 = e1 at c1
 have d1 := sp_drawn e1 5 S
 generalize zqQ e1 5 = mo at d1
 obtain ⟨N, n1, n3, eN5⟩ : ∃ N : Nat, 1 <= N /\ N <= 3 /\ atI [D.int 1, .int 1, .int 2, .int 2, .int 3] (mo.fmod 5) = some (.int (N : Nat)) := by
   have q0 := ztc mo (show (0 : Int) < 5 by decide)
   have q1 := ztd mo (show (0 : Int) < 5 by decide)
   generalize mo.fmod 5 = i at q0 q1
   have : i = 0 \/ i = 1 \/ i = 2 \/ i = 3 \/ i = 4 := by omega
   rcases this with rfl | rfl | rfl | rfl | rfl
   . exact ⟨1, by decide, by decide, rfl⟩
   . exact ⟨1, by decide, by decide, rfl⟩
   . exact ⟨2, by decide, by decide, rfl⟩
   . exact ⟨2, by decide, by decide, rfl⟩
   . exact ⟨3, by decide, by decide, rfl⟩
 have L : ∀ xs : List D, (S ++ [O.lst xs] ++ [O.lst [.int 1, .int 1, .int 2, .int 2, .int 3]])[S.length]? = some (.lst xs) := fun xs => za4 zay
 have gr : ∀ bs : List Bx, Gr S (S ++ [O.lst (bs.map bxD)] ++ [O.lst [.int 1, .int 1, .int 2, .int 2, .int 3]]) := fun bs => ((Gr.refl hS).snoc (zpm _ bs)).snoc rfl
 have set : ∀ xs ys : List D, (S ++ [O.lst xs] ++ [O.lst [.int 1, .int 1, .int 2, .int 2, .int 3]]).set S.length (.lst ys) = S ++ [O.lst ys] ++ [O.lst [.int 1, .int 1, .int 2, .int 2, .int 3]] := fun xs ys => by
   rw [zta, List.set_append_right _ _ (ztq _), Nat.sub_self, zta]; rfl
 obtain ⟨σ', T, e, bs, x4, x5, x6, x7, x8, rfl, rfl, hl, hbs⟩ := zdF (nx := nxD (.fix (zpU 0 N))) (g := gNm 4) (f := zbc) (xs := zpU 0 N)
   (fun i σ T => ∃ (bs : List Bx) (x4 x5 x6 x7 x8 : Option D), σ = [some (.ref 0), some (.int e0), some (.int mo), some (.ref S.length), x4, x5, x6, x7, x8] /\ T = S ++ [O.lst (bs.map bxD)] ++ [O.lst [.int 1, .int 1, .int 2, .int 2, .int 3]] /\ bs.length = i /\ ∀ b ∈ bs, okB b)
   (fun i σ T _ => rfl)
   (fun i d σ T hd ⟨bs, x4, x5, x6, x7, x8, hσ, hT, hl, hbs⟩ => by
     have hi : i < N := by
       have := (zsX.mp hd).1
       simpa [zpU] using this
     have hd' : d = .int (i : Nat) := by
       have : (zpU 0 N)[i]? = some (.int (i : Nat)) := by simp [zpU, hi]
       rw [this] at hd; cases hd; rfl
     subst hd' hσ hT
     obtain ⟨b, y5, y6, y7, y8, ob, et⟩ := zhM hns (c0 := e0) (mo := mo) (m := S.length) (k := i) x5 x6 x7 x8 ((gr bs).old h0) (L _) hl (by omega) hbs
     rw [set] at et
     refine ⟨_, _, .nx, _, _, rfl, et, .inl rfl, bs ++ [b], _, y5, y6, y7, y8, rfl, rfl, by simp [hl], fun x hx => ?_⟩
     rcases ztf.mp hx with h | h
     . exact hbs x h
     . rw [List.mem_singleton.mp h]; exact ob)
   (zpU 0 N).length 0 [some (.ref 0), some (.int e0), some (.int mo), some (.ref S.length), none, none, none, none, none] (S ++ [O.lst []] ++ [O.lst [.int 1, .int 1, .int 2, .int 2, .int 3]]) ⟨[], none, none, none, none, none, rfl, rfl, rfl, fun _ h => by cases h⟩ (by simp)
 have hlen : (zpU 0 N).length = N := by simp [zpU]
 rw [hlen] at e hl
 refine ⟨bs, S.length, _, ?_, gr bs, L _, by omega, by omega, hbs⟩
 refine zdZ (S := S) (σ' := [some (.ref 0), some (.int e0), some (.int mo), some (.ref S.length), x4, x5, x6, x7, x8]) (S' := S ++ [O.lst (bs.map bxD)] ++ [O.lst [.int 1, .int 1, .int 2, .int 2, .int 3]]) ?_ (fun z => ?_) (by simp) ?_ (gr bs).2
 . wtm_at "?b"
   unfold zc5 zdj zdi zdh zdg zdf
   have n0 : (S ++ [O.lst []])[0]? = some (.frz (ns.map .int)) := za4 h0
   have ar : zpz (eB gIx (eN zqp (zpz (eC (.int 1)) (zpz (eC (.int 1)) (zpz (eC (.int 2)) (zpz (eC (.int 2)) (zpz (eC (.int 3)) (zpD))))))) (eB (zpJ .Mod) (zpA 2) (eC (.int 5)))) (zpD) [some (.ref 0), some (.int e0), some (.int mo), some (.ref S.length), none, none, none, none, none] (S ++ [O.lst []]) = some ([.int (N : Nat)], S ++ [O.lst []] ++ [O.lst [.int 1, .int 1, .int 2, .int 2, .int 3]]) :=
     zab (zah (zat (ds := [.int 1, .int 1, .int 2, .int 2, .int 3]) (S1 := S ++ [O.lst []]) rfl (zfb (by decide))) (zah (zaa rfl) zao (zbz (by decide))) (zdd zay eN5)) zag
   refine zac (zai (zat (zab (zaa rfl) (zab zao zag)) (zaj rfl c0)) rfl) (zad (zac (zai (zat (zab (zat (zab (zaa rfl) (zab zao zag)) (zaj rfl c1)) (zab zao zag)) (zaj rfl d1)) rfl) (zad (zac (zai (x := .ref S.length) (S1 := S ++ [O.lst []]) rfl rfl) (zad ?_)))))
   exact zac (zcl (zgw ar (by omega)) (by show some (zpU 0 ((N : Int)).toNat).length = some N; rw [Int.toNat_natCast, hlen]) e) (zad (zac (zaF (zaa rfl)) zaw))
 . have := z.2
   simp only [D.lo, ztG] at this
   omega
 . simp [D.lo]
end MX.P
end
section
namespace MX.P
open PySem L2 MX
theorem zdS {lo hi : Pt} (bl : BdP 70 lo) (bh : BdP 70 hi) (he n : Int) (n0 : 0 <= n) (n2 : n <= 2) : ∃ v : Int, Bd 71 v /\ ∀ (m : Nat) (xs : List D) (S : So) (x : Option D), S[m]? = some (.lst xs) -> xs.length < 100 ->
   ∃ G x', zba [some (.tup [pD lo, pD hi]), some (.int he), some (.ref m), some (.int n), x] S = some (.nx, [some (.tup [pD lo, pD hi]), some (.int he), some (.ref m), some (.int n), x'], S.set m (.lst (xs ++ [.int v])) ++ G) := by
 have ba := zoG bl n
 have bb := zoG bh n
 have el := zfZ n0 n2 lo
 have eh := zfZ n0 n2 hi
 obtain ⟨dv, hdv, ed⟩ : ∃ dv : Int, divOk dv = true /\ atI [D.int 1, .int 7, .int 49] n = some (.int dv) := by
   have : n = 0 \/ n = 1 \/ n = 2 := by omega
   rcases this with rfl | rfl | rfl
   . exact ⟨1, by decide, rfl⟩
   . exact ⟨7, by decide, rfl⟩
   . exact ⟨49, by decide, rfl⟩
 generalize co n lo = a at *
 generalize co n hi = b at *
 have bh : Bd 71 ((a + b).fdiv 2) := by
   rw [Int.fdiv_eq_ediv_of_nonneg _ (by decide)]
   unfold Bd at *
   omega
 have ba1 : Bd 71 (a - 1) := by unfold Bd at *; omega
 generalize hh : (a + b).fdiv 2 = c at *
 obtain ⟨v, bv, ev⟩ : ∃ v : Int, Bd 71 v /\ atI [D.int a, .int b, .int c, .int c, .int c, .int (a - 1)] ((he.fdiv dv).fmod 6) = some (.int v) := by
   have q0 := ztc (he.fdiv dv) (show (0 : Int) < 6 by decide)
   have q1 := ztd (he.fdiv dv) (show (0 : Int) < 6 by decide)
   generalize (he.fdiv dv).fmod 6 = i at q0 q1
   have : i = 0 \/ i = 1 \/ i = 2 \/ i = 3 \/ i = 4 \/ i = 5 := by omega
   rcases this with rfl | rfl | rfl | rfl | rfl | rfl
   . exact ⟨a, ba.le (by decide), rfl⟩
   . exact ⟨b, bb.le (by decide), rfl⟩
   . exact ⟨c, bh, rfl⟩
   . exact ⟨c, bh, rfl⟩
   . exact ⟨c, bh, rfl⟩
   . exact ⟨a - 1, ba1, rfl⟩
 refine ⟨v, bv, fun m xs S x hm hl => ⟨[.lst [.int a, .int b, .int c, .int c, .int c, .int (a - 1)], .lst [.int 1, .int 7, .int 49]], some (.int c), ?_⟩⟩
 have s1 : zaR [some (.tup [pD lo, pD hi]), some (.int he), some (.ref m), some (.int n), x] S = some (.nx, [some (.tup [pD lo, pD hi]), some (.int he), some (.ref m), some (.int n), some (.int c)], S) := by
   unfold zaR
   rw [<- hh]
   exact zai (zah (zah (zah (zah (zaa rfl) zao (zaA rfl)) (zaa rfl) (zaA el)) (zah (zah (zaa rfl) zao (zaA rfl)) (zaa rfl) (zaA eh)) zcF) zao (zbI (by decide))) rfl
 have m1 : (S ++ [O.lst [.int a, .int b, .int c, .int c, .int c, .int (a - 1)]] ++ [O.lst [.int 1, .int 7, .int 49]])[m]? = some (.lst xs) := za4 (za4 hm)
 have hmS : m < S.length := (zsX.mp hm).1
 have es : (S ++ [O.lst [.int a, .int b, .int c, .int c, .int c, .int (a - 1)]] ++ [O.lst [.int 1, .int 7, .int 49]]).set m (.lst (xs ++ [.int v])) = S.set m (.lst (xs ++ [.int v])) ++ [O.lst [.int a, .int b, .int c, .int c, .int c, .int (a - 1)], O.lst [.int 1, .int 7, .int 49]] := by
   rw [zta, List.set_append_left _ _ hmS]; rfl
 have s2 : zaQ [some (.tup [pD lo, pD hi]), some (.int he), some (.ref m), some (.int n), some (.int c)] S = some (.nx, [some (.tup [pD lo, pD hi]), some (.int he), some (.ref m), some (.int n), some (.int c)], S.set m (.lst (xs ++ [.int v])) ++ [O.lst [.int a, .int b, .int c, .int c, .int c, .int (a - 1)], O.lst [.int 1, .int 7, .int 49]]) := by
   unfold zaQ
   refine zbZ (zfN (ds := [.int v]) (S2 := S ++ [O.lst [.int a, .int b, .int c, .int c, .int c, .int (a - 1)]] ++ [O.lst [.int 1, .int 7, .int 49]]) (zaa rfl) hm ?_ (zcP m1 (zs0 (show xs.length < 100000 by omega) zbA) es))
   refine zab (zah (S1 := S ++ [O.lst [.int a, .int b, .int c, .int c, .int c, .int (a - 1)]]) (x := .ref S.length) (zat (zab (zah (zah (zaa rfl) zao (zaA rfl)) (zaa rfl) (zaA el)) (zab (zah (zah (zaa rfl) zao (zaA rfl)) (zaa rfl) (zaA eh)) (zab (zaa rfl) (zab (zaa rfl) (zab (zaa rfl) (zab (zah (zah (zah (zaa rfl) zao (zaA rfl)) (zaa rfl) (zaA el)) zao zfK) zag)))))) (zfb (zs3 rfl))) (zah (zah (zaa rfl) (zah (zat (ds := [.int 1, .int 7, .int 49]) (S1 := S ++ [O.lst [.int a, .int b, .int c, .int c, .int c, .int (a - 1)]]) rfl (zfb (by decide))) (zaa rfl) (zdd zay ed)) (zbI hdv)) zao (zbz (by decide))) (zdd (za4 zay) ev)) zag
 unfold zba
 exact zac s1 (zad (zac s2 (zad zap)))
theorem zfA {lo hi : Pt} (bl : BdP 70 lo) (bh : BdP 70 hi) (he : Int) : ∃ q : Pt, BdP 71 q /\ ∀ S, za7 [.tup [pD lo, pD hi], .int he] S = some (pD q, S) := by
 obtain ⟨u, bu, t0⟩ := zdS bl bh he 0 (by decide) (by decide)
 obtain ⟨v, bv, t1⟩ := zdS bl bh he 1 (by decide) (by decide)
 obtain ⟨w, bw, t2⟩ := zdS bl bh he 2 (by decide) (by decide)
 refine ⟨(u, v, w), ⟨bu, bv, bw⟩, fun S => ?_⟩
 have set : ∀ (xs ys : List D) (G : So), (S ++ [O.lst xs] ++ G).set S.length (.lst ys) = S ++ [O.lst ys] ++ G := fun xs ys G => by
   rw [zta, List.set_append_right _ _ (ztq _), Nat.sub_self, zta]; rfl
 have get : ∀ (xs : List D) (G : So), (S ++ [O.lst xs] ++ G)[S.length]? = some (.lst xs) := fun xs G => by
   rw [zta, ztj (ztq _), Nat.sub_self]; rfl
 obtain ⟨G0, x0, e0⟩ := t0 S.length [] (S ++ [O.lst []]) none zay (by decide)
 have s0 : (S ++ [O.lst []]).set S.length (.lst ([] ++ [D.int u])) ++ G0 = S ++ [O.lst [.int u]] ++ G0 := by
   have := set [] [.int u] []
   rw [List.append_nil, List.append_nil] at this
   rw [ztK, this]
 rw [s0] at e0
 obtain ⟨G1, x1, e1⟩ := t1 S.length [.int u] _ x0 (get _ G0) (by simp)
 rw [set, zta (S ++ [_]) G0 G1] at e1
 obtain ⟨G2, x2, e2⟩ := t2 S.length [.int u, .int v] _ x1 (get _ (G0 ++ G1)) (by simp)
 rw [set, zta (S ++ [_]) (G0 ++ G1) G2] at e2
 refine zaf (σ' := [some (.tup [pD lo, pD hi]), some (.int he), some (.ref S.length), some (.int 2), x2]) (S' := S ++ [O.lst [.int u, .int v, .int w]] ++ ((G0 ++ G1) ++ G2)) ?_ ?_ rfl
 . wtm_at "?b"
   unfold zbN zco zcn zcm
   refine zac (zai (x := .ref S.length) (S1 := S ++ [O.lst []]) rfl rfl) (zad (zac (zcl (j := .fix (zpU 0 3)) (n := 3) (S1 := S ++ [O.lst []]) rfl rfl (zax rfl rfl e0 (zaz (zax rfl rfl e1 (zaz (zax rfl rfl e2 (zaz (zcv rfl)))))))) (zad ?_)))
   exact zac (zaF (zat (zab (zaa rfl) zag) (zdG (get _ _)))) zaw
 . rw [zta, List.take_left']; rfl
end MX.P
end
section
namespace MX.P
open PySem L2 MX
theorem zjq {op : CmpOp} {q : Int -> Int -> Bool} (hq : ∀ x y S, zpM op (.int x) (.int y) S = some (.bl (q x y), S)) (p lo hi : Pt) (f : Int) (ab : Bool) (m : Nat) (T : So) :
   ∃ L : O, zq2 (eN zrZ (zpz (eLc (zru (zpz (eC (.int 3)) (zpD))) (gNm 0) (zqB) (zrN (eB (zpM op) (eB gIx (eB gIx (zpA 1) (eC (.int 0))) (zpA 0)) (eB gIx (zpA 2) (zpA 0))) (eB (zpM op) (eB gIx (zpA 2) (zpA 0)) (eB gIx (eB gIx (zpA 1) (eC (.int 1))) (zpA 0)))) [none, some 3, some 0]) (zpD)))
     [some (pD p), some (.ref m), some (.int f), some (.tup [pD lo, pD hi]), some (.bl ab)] T = some ((q lo.1 p.1 && q p.1 hi.1) && ((q lo.2.1 p.2.1 && q p.2.1 hi.2.1) && (q lo.2.2 p.2.2 && q p.2.2 hi.2.2)), T ++ [L]) := by
 have one : ∀ (n : Int), 0 <= n -> n <= 2 -> zrN (eB (zpM op) (eB gIx (eB gIx (zpA 1) (eC (.int 0))) (zpA 0)) (eB gIx (zpA 2) (zpA 0))) (eB (zpM op) (eB gIx (zpA 2) (zpA 0)) (eB gIx (eB gIx (zpA 1) (eC (.int 1))) (zpA 0))) [some (.int n), some (.tup [pD lo, pD hi]), some (pD p)] T = some (.bl (q (co n lo) (co n p) && q (co n p) (co n hi)), T) := fun n n0 n2 => by
   have el := zfZ n0 n2 lo
   have eh := zfZ n0 n2 hi
   have ep := zfZ n0 n2 p
   have a : eB (zpM op) (eB gIx (eB gIx (zpA 1) (eC (.int 0))) (zpA 0)) (eB gIx (zpA 2) (zpA 0)) [some (.int n), some (.tup [pD lo, pD hi]), some (pD p)] T = some (.bl (q (co n lo) (co n p)), T) := zah (zah (zah (zaa rfl) zao (zaA rfl)) (zaa rfl) (zaA el)) (zah (zaa rfl) (zaa rfl) (zaA ep)) (hq _ _ _)
   have b : eB (zpM op) (eB gIx (zpA 2) (zpA 0)) (eB gIx (eB gIx (zpA 1) (eC (.int 1))) (zpA 0)) [some (.int n), some (.tup [pD lo, pD hi]), some (pD p)] T = some (.bl (q (co n p) (co n hi)), T) := zah (zah (zaa rfl) (zaa rfl) (zaA ep)) (zah (zah (zaa rfl) zao (zaA rfl)) (zaa rfl) (zaA eh)) (hq _ _ _)
   cases h : q (co n lo) (co n p) with
   | true => rw [h] at a; exact zgx a (zbd rfl b)
   | false => rw [h] at a; exact zgx a (zaN rfl rfl)
 have lc := zgv (fi := zru (zpz (eC (.int 3)) (zpD))) (g := gNm 0) (t := zqB) (fe := zrN (eB (zpM op) (eB gIx (eB gIx (zpA 1) (eC (.int 0))) (zpA 0)) (eB gIx (zpA 2) (zpA 0))) (eB (zpM op) (eB gIx (zpA 2) (zpA 0)) (eB gIx (eB gIx (zpA 1) (eC (.int 1))) (zpA 0)))) (src := [none, some 3, some 0]) (σ := [some (pD p), some (.ref m), some (.int f), some (.tup [pD lo, pD hi]), some (.bl ab)]) (S := T) (j := .fix (zpU 0 3)) (n := 3) (S1 := T) rfl rfl (by decide) rfl
   (zdc rfl rfl zb5 (one 0 (by decide) (by decide)) rfl (zdc rfl rfl zb5 (one 1 (by decide) (by decide)) rfl (zdc rfl rfl zb5 (one 2 (by decide) (by decide)) rfl (zg3 rfl))))
 refine ⟨_, zdm (zat (zab lc zag) (zeT zay rfl)) ?_⟩
 show some _ = some _
 simp only [ztr, List.all_nil, id, Bool.and_true]
 rfl
theorem zn7 (lo hi p : Pt) : ((decide (lo.1 < p.1) && decide (p.1 < hi.1)) && ((decide (lo.2.1 < p.2.1) && decide (p.2.1 < hi.2.1)) && (decide (lo.2.2 < p.2.2) && decide (p.2.2 < hi.2.2)))) = decide (zpQ lo hi p) := by
 rw [Bool.eq_iff_iff]
 simp only [zs5, ztG]
 exact Iff.rfl
theorem zn8 (lo hi p : Pt) : ((decide (lo.1 <= p.1) && decide (p.1 <= hi.1)) && ((decide (lo.2.1 <= p.2.1) && decide (p.2.1 <= hi.2.1)) && (decide (lo.2.2 <= p.2.2) && decide (p.2.2 <= hi.2.2)))) = decide (inPt lo hi p) := by
 rw [Bool.eq_iff_iff]
 simp only [zs5, ztG]
 exact Iff.rfl
theorem zkA (p : Pt) (b : Bx) (f : Int) (m : Nat) (T : So) : ∃ G, zaK [some (pD p), some (.ref m), some (.int f), some (.tup [pD b.1.1, pD b.1.2]), some (.bl b.2)] T =
   if zpQ b.1.1 b.1.2 p then some (.nx, [some (pD p), some (.ref m), some (.int (f + sgT b.2)), some (.tup [pD b.1.1, pD b.1.2]), some (.bl b.2)], T ++ G) else if inPt b.1.1 b.1.2 p then some (.rt (.int 0), [some (pD p), some (.ref m), some (.int f), some (.tup [pD b.1.1, pD b.1.2]), some (.bl b.2)], T ++ G) else some (.nx, [some (pD p), some (.ref m), some (.int f), some (.tup [pD b.1.1, pD b.1.2]), some (.bl b.2)], T ++ G) := by
 obtain ⟨L, t1⟩ := zjq (op := .Lt) (q := fun x y => decide (x < y)) (fun _ _ _ => zmz) p b.1.1 b.1.2 f b.2 m T
 rw [zn7] at t1
 unfold zaK zb1
 by_cases hs : zpQ b.1.1 b.1.2 p
 . rw [zb6 hs] at t1
   refine ⟨[L], ?_⟩
   rw [if_pos hs]
   have ef : f + 1 - 2 * (if b.2 then 1 else 0) = f + sgT b.2 := by
     unfold sgT
     cases b.2
     . show f + 1 - 2 * 0 = f + 1; omega
     . show f + 1 - 2 * 1 = f + -1; omega
   rw [<- ef]
   exact zac (zaJ t1 (zbd rfl (zac (zai (zah (zah (zaa rfl) zao zcF) (zah zao (zat (zab (zaa rfl) zag) ev_int) (zfL (by cases b.2 <;> decide))) zfK) rfl) (zad zap)))) (zad zap)
 . rw [zcI hs] at t1
   obtain ⟨L', t2⟩ := zjq (op := .LtE) (q := fun x y => decide (x <= y)) (fun _ _ _ => zmA) p b.1.1 b.1.2 f b.2 m (T ++ [L])
   rw [zn8, zta] at t2
   refine ⟨[L] ++ [L'], ?_⟩
   rw [if_neg hs]
   by_cases hi : inPt b.1.1 b.1.2 p
   . rw [zb6 hi] at t2
     rw [if_pos hi]
     exact zac (zaJ t1 (zaN rfl (zac (zaJ t2 (zbd rfl (zac (zaF zao) zaw))) zaw))) zaw
   . rw [zcI hi] at t2
     rw [if_neg hi]
     exact zac (zaJ t1 (zaN rfl (zac (zaJ t2 (zaN rfl zap)) (zad zap)))) (zad zap)
theorem zfv (p : Pt) {bs : List Bx} {m : Nat} : ∀ (r : List Bx) (i : Nat) (T : So) (f : Int) (x3 x4 : Option D), bs.drop i = r -> T[m]? = some (.lst (bs.map bxD)) ->
   ∃ (fl : Fl) (f' : Int) (y3 y4 : Option D) (G : So), zqZ (nxD (.lst m)) (gTp 2 (zpI (gNm 3) (zpI (gNm 4) (zp3)))) zaK r.length i [some (pD p), some (.ref m), some (.int f), x3, x4] T = some (fl, [some (pD p), some (.ref m), some (.int f'), y3, y4], T ++ G) /\ ((fl = .rt (.int 0) /\ zr0 p r f = 0) \/ (fl = .nx /\ zr0 p r f = if f' = 0 then -1 else 1))
 | [], i, T, f, x3, x4, hr, hm => by
   refine ⟨.nx, f, x3, x4, [], ?_, .inr ⟨rfl, rfl⟩⟩
   rw [List.append_nil]
   refine zcv (zdk hm ?_)
   rw [ztb, ztL (by
     have := congrArg List.length hr
     rw [List.length_drop, ztt] at this
     omega)]
   rfl
 | b :: r, i, T, f, x3, x4, hr, hm => by
   have hi : bs[i]? = some b := by
     have := congrArg (fun l => l[0]?) hr
     simpa using this
   have hr' : bs.drop (i + 1) = r := by
     have := congrArg List.tail hr
     simpa using this
   have nx : nxD (.lst m) i T = some (some (bxD b)) := zaY hm (by rw [ztb, hi]; rfl)
   obtain ⟨G, et⟩ := zkA p b f m T
   have hm' : (T ++ G)[m]? = some (.lst (bs.map bxD)) := by
     rw [zti (zsX.mp hm).1]; exact hm
   have gt : gTp 2 (zpI (gNm 3) (zpI (gNm 4) (zp3))) (bxD b) [some (pD p), some (.ref m), some (.int f), x3, x4] T = some ([some (pD p), some (.ref m), some (.int f), some (.tup [pD b.1.1, pD b.1.2]), some (.bl b.2)], T) := rfl
   unfold zr0
   by_cases hs : zpQ b.1.1 b.1.2 p
   . rw [if_pos hs] at et
     obtain ⟨fl, f', y3, y4, G2, e2, h2⟩ := zfv p r (i + 1) (T ++ G) (f + sgT b.2) _ _ hr' hm'
     rw [zta] at e2
     refine ⟨fl, f', y3, y4, G ++ G2, zax nx gt et (zaz e2), ?_⟩
     rw [if_pos hs]; exact h2
   . rw [if_neg hs] at et
     by_cases hi2 : inPt b.1.1 b.1.2 p
     . rw [if_pos hi2] at et
       refine ⟨.rt (.int 0), f, _, _, G, zax nx gt et ziX, .inl ⟨rfl, ?_⟩⟩
       rw [if_neg hs, if_pos hi2]
     . rw [if_neg hi2] at et
       obtain ⟨fl, f', y3, y4, G2, e2, h2⟩ := zfv p r (i + 1) (T ++ G) f _ _ hr' hm'
       rw [zta] at e2
       refine ⟨fl, f', y3, y4, G ++ G2, zax nx gt et (zaz e2), ?_⟩
       rw [if_neg hs, if_neg hi2]; exact h2
theorem zlq (p : Pt) {bs : List Bx} {m : Nat} {S : So} (hm : S[m]? = some (.lst (bs.map bxD))) : zcu [pD p, .ref m] S = some (.int (zr0 p bs 0), S) := by
 obtain ⟨fl, f', y3, y4, G, e, h⟩ := zfv p bs 0 S 0 none none rfl hm
 have lp : zqK (zqc (zpA 1)) (gTp 2 (zpI (gNm 3) (zpI (gNm 4) (zp3)))) zaK [some (pD p), some (.ref m), some (.int 0), none, none] S = some (fl, [some (pD p), some (.ref m), some (.int f'), y3, y4], S ++ G) := zcl (zaU (zaa rfl) hm) (by rw [zbv hm, zs7]) e
 refine zaf (σ' := [some (pD p), some (.ref m), some (.int f'), y3, y4]) (S' := S ++ G) ?_ (List.take_left' rfl) rfl
 wtm_at "?b"
 unfold zcC zc2 zc1 zc0 zcZ
 rcases h with ⟨rfl, h⟩ | ⟨rfl, h⟩
 . rw [h]
   exact zac (zai zao rfl) (zad (zac lp zaw))
 . rw [h]
   have t : tBl (eB (zpM .Eq) (zpA 2) (eC (.int 0))) [some (pD p), some (.ref m), some (.int f'), y3, y4] (S ++ G) = some (decide (f' = 0), S ++ G) := zck (zah (zaa rfl) zao zeS)
   by_cases h0 : f' = 0
   . rw [zb6 h0] at t
     rw [if_pos h0]
     exact zac (zai zao rfl) (zad (zac lp (zad (zac (zaJ t (zbd rfl (zac (zaF (zah zao zao zfK)) zaw))) zaw))))
   . rw [zcI h0] at t
     rw [if_neg h0]
     exact zac (zai zao rfl) (zad (zac lp (zad (zac (zaJ t (zaN rfl zap)) (zad (zac (zaF zao) zaw))))))
theorem zk4 {p : Pt} {ts : List Tr} {n : Nat} {S : So} (hS : WF S) (hn : S[n]? = some (.lst (ts.map trT))) (hl : ts.length <= 1000) (hc : zp1 (edL ts) = false) : zaZ [pD p, .ref n] S = none /\ zbF [pD p, .ref n] S = some ("NotClosed" : Str) := by
 have cl := zdB hS hn hl
 rw [hc] at cl
 have t : ∀ y, zqJ (zq2 (eN (zpG 1 zbg) (zpz (zpA 1) (zpD)))) [some (pD p), some (.ref n), y] S = some (true, S) := fun y => zfq (zdm (zat (zab (zaa rfl) zag) (zaj rfl cl)) rfl)
 constructor
 . have e : zbh (stD 3 [pD p, .ref n]) S = none := by
     show zbh [some (pD p), some (.ref n), none] S = none
     unfold zbh zb0 zpH sIf
     rw [t]
     rfl
   unfold zaZ fnOf
   rw [e]
 . have e : zbJ (stD 3 [pD p, .ref n]) S = some (("NotClosed" : Str), S) := by
     show zbJ [some (pD p), some (.ref n), none] S = _
     unfold zbJ xIf
     rw [t]
     rfl
   unfold zbF zr3
   rw [e]
   simp only
   rw [if_pos (ztD)]
end MX.P
end
section
namespace MX.K22
open PySem L2 MX MX.P
theorem zlt {k : Nat} {lo hi : Pt} {ab : Bool} (hl : BdP k lo) (hh : BdP k hi) : allC (BdP k) (zp6 lo hi ab) := by
 obtain ⟨l1, l2, l3⟩ := hl
 obtain ⟨h1, h2, h3⟩ := hh
 intro t ht
 simp only [zp6, trs, ztf, List.mem_map, List.mem_cons, ztF, or_false] at ht
 have sws : ∀ {b : Bool} {u v w : Pt}, BdP k u -> BdP k v -> BdP k w -> BdP k (sw b (u, v, w)).1 /\ BdP k (sw b (u, v, w)).2.1 /\ BdP k (sw b (u, v, w)).2.2 := fun {b u v w} x y z => by
   cases b
   . exact ⟨x, y, z⟩
   . exact ⟨x, z, y⟩
 rcases ht with ((((⟨u, hu, rfl⟩ | ⟨u, hu, rfl⟩) | ⟨u, hu, rfl⟩) | ⟨u, hu, rfl⟩) | ⟨u, hu, rfl⟩) | ⟨u, hu, rfl⟩ <;> rcases hu with rfl | rfl <;> exact sws ⟨by assumption, by assumption, by assumption⟩ ⟨by assumption, by assumption, by assumption⟩ ⟨by assumption, by assumption, by assumption⟩
theorem zfQ : ∀ bs : List Bx, zqI (edL (tsB bs))
 | [] => zhI
 | b :: r => by
   have e : tsB (b :: r) = zp6 b.1.1 b.1.2 b.2 ++ tsB r := rfl
   rw [e, zmD]; exact zhJ (zgB _ _ _) (zfQ r)
theorem zeo (lo hi : Pt) (ab : Bool) : (zp6 lo hi ab).length = 12 := by simp [zp6, trs]
theorem zgT : ∀ bs : List Bx, (tsB bs).length = 12 * bs.length
 | [] => rfl
 | b :: r => by
   have e : tsB (b :: r) = zp6 b.1.1 b.1.2 b.2 ++ tsB r := rfl
   rw [e, zs9, zeo, zgT r, ztg]; omega
theorem zoU {bs : List Bx} (h : ∀ b ∈ bs, okB b) : allC (BdP 71) (tsB bs) := fun t ht => by
 obtain ⟨b, hb, hm⟩ := List.mem_flatMap.mp ht
 exact zlt ((h b hb).2.1.le (by decide)) ((h b hb).2.2.le (by decide)) t hm
theorem zif (p : Pt) {bs : List Bx} (h : ∀ b ∈ bs, okB b) : zrG p (tsB bs) = zr0 p bs 0 := by
 rw [zjr p bs 0 fun b hb => (h b hb).1, Int.zero_add]
 rfl
theorem zkS (ts : List Tr) : ∀ x ∈ ts.map trT, pln 8 x = true := fun x hx => by
 obtain ⟨t, _, rfl⟩ := List.mem_map.mp hx
 rfl
theorem zjC {ns : List Int} (hns : ns.length <= 63) {bs : List Bx} (hok : ∀ b ∈ bs, okB b) (l1 : 1 <= bs.length) (l3 : bs.length <= 3) {m r kp : Nat} {S : So} (hw : WF S) (h0 : S[0]? = some (.frz (ns.map .int))) (hm : S[m]? = some (.lst (bs.map bxD))) (hr : S[r]? = some (.lst ((tsB bs).map trT))) (hkp : S[kp]? = some (.lst ((tsB bs).map trT)))
   (k : Nat) (x3 x4 x7 x8 x9 x10 : Option D) : ∃ y7 y8 y10, zcU [some (.ref 0), some (.ref m), some (.ref r), x3, x4, some (.ref kp), some (.int (k : Nat)), x7, x8, x9, x10] S = some (.nx, [some (.ref 0), some (.ref m), some (.ref r), x3, x4, some (.ref kp), some (.int (k : Nat)), y7, y8, x9, y10], S) := by
 have c1 := zez hns ((k : Nat) + 6 : Int) h0
 generalize zqO ns ((k : Nat) + 6 : Int) = ce at c1
 have d1 := sp_drawn ce (k : Nat) S
 generalize zqQ ce (k : Nat) = he at d1
 obtain ⟨b, hb, eb⟩ : ∃ b ∈ bs, atI (bs.map bxD) (he.fmod ((bs.map bxD).length : Nat)) = some (.tup [.tup [pD b.1.1, pD b.1.2], .bl b.2]) := by
   have hl : (0 : Int) < ((bs.map bxD).length : Nat) := by rw [zs7]; omega
   have q0 := ztc he hl
   have q1 := ztd he hl
   generalize he.fmod ((bs.map bxD).length : Nat) = i at q0 q1
   obtain ⟨j, rfl⟩ : ∃ j : Nat, i = (j : Nat) := ⟨i.toNat, by omega⟩
   have hj : j < bs.length := by rw [zs7] at q1; omega
   refine ⟨bs[j], List.getElem_mem hj, ?_⟩
   unfold atI ixN
   rw [if_pos q0, if_pos q1]
   show (bs.map bxD)[((j : Nat) : Int).toNat]? = _
   rw [Int.toNat_natCast, ztb, zts hj]
   rfl
 obtain ⟨q, bq, fq⟩ := zfA (hok b hb).2.1 (hok b hb).2.2 (he.fdiv 6)
 have cl := zdB hw hr (by rw [zgT]; omega)
 rw [zhK (zfQ bs)] at cl
 have pl := zf1 (k := 71) hw hr (by rw [zgT]; omega) cl bq (fun t ht => zoU hok t ht) (by decide) (by decide)
 rw [zif q hok] at pl
 have du := zlq q hm
 generalize zr0 q bs 0 = v at pl du
 have s1 : zcb [some (.ref 0), some (.ref m), some (.ref r), x3, x4, some (.ref kp), some (.int (k : Nat)), x7, x8, x9, x10] S = some (.nx, [some (.ref 0), some (.ref m), some (.ref r), x3, x4, some (.ref kp), some (.int (k : Nat)), some (.int he), x8, x9, x10], S) := by
   unfold zcb
   exact zai (zat (zab (zat (zab (zaa rfl) (zab (zah (zaa rfl) zao zcF) zag)) (zaj rfl c1)) (zab (zaa rfl) zag)) (zaj rfl d1)) rfl
 have s2 : zca [some (.ref 0), some (.ref m), some (.ref r), x3, x4, some (.ref kp), some (.int (k : Nat)), some (.int he), x8, x9, x10] S = some (.nx, [some (.ref 0), some (.ref m), some (.ref r), x3, x4, some (.ref kp), some (.int (k : Nat)), some (.int he), x8, x9, some (pD q)], S) := by
   unfold zca
   exact zai (zat (zab (zah (zah (zaa rfl) (zah (zaa rfl) (zat (zab (zaa rfl) zag) (zfs hm)) (zbz (by rw [zs7]; omega))) (zdd hm eb)) zao (zaA rfl)) (zab (zah (zaa rfl) zao (zbI (by decide))) zag)) (zaj rfl (fq S))) rfl
 have s3 : zb9 [some (.ref 0), some (.ref m), some (.ref r), x3, x4, some (.ref kp), some (.int (k : Nat)), some (.int he), x8, x9, some (pD q)] S = some (.nx, [some (.ref 0), some (.ref m), some (.ref r), x3, x4, some (.ref kp), some (.int (k : Nat)), some (.int he), some (.int v), x9, some (pD q)], S) := by
   unfold zb9
   exact zai (zat (zab (zaa rfl) (zab (zaa rfl) zag)) (zaj rfl pl)) rfl
 have s4 : zb8 [some (.ref 0), some (.ref m), some (.ref r), x3, x4, some (.ref kp), some (.int (k : Nat)), some (.int he), some (.int v), x9, some (pD q)] S = some (.nx, [some (.ref 0), some (.ref m), some (.ref r), x3, x4, some (.ref kp), some (.int (k : Nat)), some (.int he), some (.int v), x9, some (pD q)], S) := by
   unfold zb8
   refine zaJ (b := false) (S1 := S) (zi8 (b := false) (S1 := S) (zck (zah (zaa rfl) (zat (zab (zaa rfl) (zab (zaa rfl) zag)) (zaj rfl du)) (by rw [zmy, zb6 rfl]; rfl))) (zaN rfl (zi8 (b := false) (S1 := S) (zfq (b := true) (zdm (zat (zab (zaa rfl) zag) (zaj rfl (zjO v S))) rfl)) (zaN rfl (zck (zah (zaa rfl) (zaa rfl) ?_)))))) (zaN rfl zap)
   rw [zot 8 (.inl hr) (.inl hkp) (zkS _) (zkS _) (by decide)]
   simp
 unfold zcU
 exact ⟨_, _, _, zac s1 (zad (zac s2 (zad (zac s3 (zad (zac s4 (zad zap)))))))⟩
theorem zk6 {bs : List Bx} {i : Nat} {b : Bx} (h : bs[i]? = some b) : tsB (bs.take (i + 1)) = tsB (bs.take i) ++ zp6 b.1.1 b.1.2 b.2 := by
 have e : bs.take (i + 1) = bs.take i ++ [b] := by rw [List.take_add_one, h]; rfl
 unfold tsB
 rw [e, List.flatMap_append]
 simp
theorem zkj : ∀ ns : List Int, ns.length <= 63 -> ∃ σ' S'', zcX (stD 11 [.ref 0]) [.frz (ns.map D.int)] = some (.rt (.bl true), σ', S'') := fun ns hns => by
 have h0 : ([O.frz (ns.map D.int)] : So)[0]? = some (.frz (ns.map .int)) := rfl
 have w0 : WF [O.frz (ns.map D.int)] := fun o ho => by
   rw [List.mem_singleton.mp ho]
   exact zgl _ _
 generalize ([O.frz (ns.map D.int)] : So) = S0 at h0 w0
 obtain ⟨bs, m, S1, fb, g1, m1, l1, l3, hok⟩ := zjR hns w0 h0
 have s1 : zdu [some (.ref 0), none, none, none, none, none, none, none, none, none, none] S0 = some (.nx, [some (.ref 0), some (.ref m), none, none, none, none, none, none, none, none, none], S1) := by
   unfold zdu
   exact zai (zat (zab (zaa rfl) zag) (zaj rfl fb)) rfl
 have g2 : Gr S0 (S1 ++ [.lst []]) := g1.snoc rfl
 have m2 : (S1 ++ [O.lst []])[m]? = some (.lst (bs.map bxD)) := za4 m1
 have r2 : (S1 ++ [O.lst []])[S1.length]? = some (.lst ((tsB (bs.take 0)).map trT)) := zay
 have s2 : zdt [some (.ref 0), some (.ref m), none, none, none, none, none, none, none, none, none] S1 = some (.nx, [some (.ref 0), some (.ref m), some (.ref S1.length), none, none, none, none, none, none, none, none], S1 ++ [.lst []]) := by
   unfold zdt
   exact zai (x := .ref S1.length) (S1 := S1 ++ [O.lst []]) rfl rfl
 obtain ⟨σ', S3, e3, ⟨r, x3, x4, rfl, g3, m3, r3⟩⟩ := zdF (nx := nxD (.lst m)) (g := gTp 2 (zpI (gNm 3) (zpI (gNm 4) (zp3)))) (f := zcV) (xs := bs.map bxD)
   (fun i σ S => ∃ (r : Nat) (x3 x4 : Option D), σ = [some (.ref 0), some (.ref m), some (.ref r), x3, x4, none, none, none, none, none, none] /\ Gr S0 S /\ S[m]? = some (.lst (bs.map bxD)) /\ S[r]? = some (.lst ((tsB (bs.take i)).map trT)))
   (fun i σ S ⟨r, x3, x4, _, _, hm, _⟩ => by unfold nxD; simp only [hm])
   (fun i d σ S hd ⟨r, x3, x4, hσ, hg, hm, hr⟩ => by
     rw [ztb] at hd
     obtain ⟨b, hb, rfl⟩ := oMs.mp hd
     subst hσ
     obtain ⟨n, T, fs, gs, hn⟩ := zh0 (lo := b.1.1) (hi := b.1.2) (ab := b.2) hg.2
     refine ⟨[some (.ref 0), some (.ref m), some (.ref r), some (.tup [pD b.1.1, pD b.1.2]), some (.bl b.2), none, none, none, none, none, none], S, .nx, [some (.ref 0), some (.ref m), some (.ref T.length), some (.tup [pD b.1.1, pD b.1.2]), some (.bl b.2), none, none, none, none, none, none], T ++ [.lst ((tsB (bs.take i)).map trT ++ (zp6 b.1.1 b.1.2 b.2).map trT)], rfl, ?_, .inl rfl, T.length, _, _, rfl, (hg.trans gs).snoc ?_, za4 (gs.old hm), ?_⟩
     . unfold zcV zde
       have hl : ((tsB (bs.take i)).map trT).length + ((zp6 b.1.1 b.1.2 b.2).map trT).length <= sizeLine := by
         rw [zs7, zs7, zgT, zeo, ztu]
         exact Nat.le_trans (show 12 * min i bs.length + 12 <= 100000 by omega) zbA
       exact zac (zai (zah (zaa rfl) (zat (zab (zaa rfl) (zab (zaa rfl) zag)) (zaj rfl fs)) (zjh (gs.old hr) hn hl)) rfl) (zad zap)
     . rw [<- zth]; exact zeL _ _
     . rw [zk6 hb, zth]; exact zay)
   (bs.map bxD).length 0 [some (.ref 0), some (.ref m), some (.ref S1.length), none, none, none, none, none, none, none, none] (S1 ++ [.lst []]) ⟨_, none, none, rfl, g2, m2, r2⟩ (by simp)
 rw [zs7, ztD] at r3
 have s3 : zds [some (.ref 0), some (.ref m), some (.ref S1.length), none, none, none, none, none, none, none, none] (S1 ++ [.lst []]) = some (.nx, [some (.ref 0), some (.ref m), some (.ref r), x3, x4, none, none, none, none, none, none], S3) := by
   unfold zds
   exact zcl (zaU (zaa rfl) m2) (zbv m2) e3
 have g4 : Gr S0 (S3 ++ [.lst ((tsB bs).map trT)]) := g3.snoc (zeL _ _)
 have s4 : zdr [some (.ref 0), some (.ref m), some (.ref r), x3, x4, none, none, none, none, none, none] S3 = some (.nx, [some (.ref 0), some (.ref m), some (.ref r), x3, x4, some (.ref S3.length), none, none, none, none, none], S3 ++ [.lst ((tsB bs).map trT)]) := by
   unfold zdr
   exact zai (zat (zab (zaa rfl) zag) (zep r3)) rfl
 have m4 : (S3 ++ [O.lst ((tsB bs).map trT)])[m]? = some (.lst (bs.map bxD)) := za4 m3
 have r4 : (S3 ++ [O.lst ((tsB bs).map trT)])[r]? = some (.lst ((tsB bs).map trT)) := za4 r3
 have k4 : (S3 ++ [O.lst ((tsB bs).map trT)])[S3.length]? = some (.lst ((tsB bs).map trT)) := zay
 generalize S3.length = kp at s4 k4
 generalize S3 ++ [O.lst ((tsB bs).map trT)] = S4 at *
 obtain ⟨a7, a8, a10, t0⟩ := zjC hns hok l1 l3 g4.2 (g4.old h0) m4 r4 k4 0 x3 x4 none none none none
 obtain ⟨b7, b8, b10, t1⟩ := zjC hns hok l1 l3 g4.2 (g4.old h0) m4 r4 k4 1 x3 x4 a7 a8 none a10
 have s5 : zdq [some (.ref 0), some (.ref m), some (.ref r), x3, x4, some (.ref kp), none, none, none, none, none] S4 = some (.nx, [some (.ref 0), some (.ref m), some (.ref r), x3, x4, some (.ref kp), some (.int 1), b7, b8, none, b10], S4) := by
   unfold zdq
   exact zcl (j := .fix (zpU 0 2)) (n := 2) (S1 := S4) rfl rfl (zax rfl rfl t0 (zaz (zax rfl rfl t1 (zaz (zcv rfl)))))
 have c6 := zez hns 8 (g4.old h0)
 generalize zqO ns 8 = ce at c6
 have d6 := sp_drawn ce 8 S4
 have bd6 := zjs ce 8
 generalize zqQ ce 8 = he at d6 bd6
 have s6 : zdp [some (.ref 0), some (.ref m), some (.ref r), x3, x4, some (.ref kp), some (.int 1), b7, b8, none, b10] S4 = some (.nx, [some (.ref 0), some (.ref m), some (.ref r), x3, x4, some (.ref kp), some (.int 1), some (.int he), b8, none, b10], S4) := by
   unfold zdp
   exact zai (zat (zab (zat (zab (zaa rfl) (zab zao zag)) (zaj rfl c6)) (zab zao zag)) (zaj rfl d6)) rfl
 obtain ⟨b, rest, rfl⟩ : ∃ b rest, bs = b :: rest := by
   cases bs with
   | nil => simp only [ztt] at l1; omega
   | cons b rest => exact ⟨b, rest, rfl⟩
 have e0 : atI ((b :: rest).map bxD) 0 = some (.tup [.tup [pD b.1.1, pD b.1.2], .bl b.2]) := by
   unfold atI ixN
   rw [if_pos (Int.le_refl 0), if_pos (by rw [zs7, ztg]; omega)]
   rfl
 obtain ⟨o1, o2, o3⟩ := hok b (zsZ ..)
 obtain ⟨n, S5, fs, g5, hn⟩ := zh0 (lo := b.1.1) (hi := b.1.2) (ab := false) g4.2
 have h01 : (he.fdiv 2 * 5 + he.fmod 2).fmod 5 = 0 \/ (he.fdiv 2 * 5 + he.fmod 2).fmod 5 = 1 := by
   have q0 := ztc he (show (0 : Int) < 2 by decide)
   have q1 := ztd he (show (0 : Int) < 2 by decide)
   rw [Int.fmod_eq_emod_of_nonneg _ (show (0 : Int) <= 5 by decide)]
   omega
 obtain ⟨es, q, S6, fe, g6, hq, le⟩ := zh1 (more := he.fdiv 2 * 5 + he.fmod 2) g5.2 hn (by rw [zeo]; decide) (by rw [zeo]; decide) h01
 have mo : mulOk (he.fdiv 2) 5 = true := zdD (bd6.fdiv (by decide)) (Bd.lit 5) (by decide)
 have s7 : zdo [some (.ref 0), some (.ref m), some (.ref r), x3, x4, some (.ref kp), some (.int 1), some (.int he), b8, none, b10] S4 = some (.nx, [some (.ref 0), some (.ref m), some (.ref r), x3, x4, some (.ref kp), some (.int 1), some (.int he), b8, some (.ref q), b10], S6) := by
   unfold zdo
   exact zai (zat (zab (zat (zab (zah (zah (zaa rfl) zao (zdd m4 e0)) zao (zaA rfl)) (zab zao zag)) (zaj rfl fs)) (zab (zah (zah (zah (zaa rfl) zao (zbI (by decide))) zao (zfL mo)) (zah (zaa rfl) zao (zbz (by decide))) zcF) zag)) (zaj rfl fe)) rfl
 have lc := zhk g6.2 hq (by omega)
 have gg := (g4.trans g5).trans g6
 show ∃ σ' S'', zcX [some (.ref 0), none, none, none, none, none, none, none, none, none, none] S0 = some (.rt (.bl true), σ', S'')
 have go : ∀ {R : SR}, zpH zcy (zpH zdn (zpH zcW zpE)) [some (.ref 0), some (.ref m), some (.ref r), x3, x4, some (.ref kp), some (.int 1), some (.int he), b8, some (.ref q), b10] S6 = R -> zcX [some (.ref 0), none, none, none, none, none, none, none, none, none, none] S0 = R := fun h => by
   unfold zcX
   exact zac s1 (zad (zac s2 (zad (zac s3 (zad (zac s4 (zad (zac s5 (zad (zac s6 (zad (zac s7 (zad h)))))))))))))
 have t8 := zdm (zat (σ := [some (.ref 0), some (.ref m), some (.ref r), x3, x4, some (.ref kp), some (.int 1), some (.int he), b8, some (.ref q), b10]) (aa := zpz (zpA 9) (zpD)) (g := zpG 1 zbC) (zab (zaa rfl) zag) (zaj rfl lc)) (show truD (.bl (zp1 (edL es))) S6 = some (zp1 (edL es)) from rfl)
 cases hc : zp1 (edL es) with
 | true =>
   rw [hc] at t8
   refine ⟨[some (.ref 0), some (.ref m), some (.ref r), x3, x4, some (.ref kp), some (.int 1), some (.int he), b8, some (.ref q), b10], S6, go ?_⟩
   unfold zcy
   exact zac (zaJ t8 (zbd rfl (zac (zaF zao) zaw))) zaw
 | false =>
   rw [hc] at t8
   obtain ⟨p, bp, fp⟩ := zfA o2 o3 (he.fdiv 6)
   obtain ⟨xn, xs⟩ := zk4 (p := p) gg.2 hq (by omega) hc
   have m6 : S6[m]? = some (.lst ((b :: rest).map bxD)) := (g5.trans g6).old m4
   have fn : eN (zpG 2 zaZ) (zpz (zpA 1) (zpz (zpA 0) (zpD))) [some (.ref q), some (pD p)] S6 = none := zat (zab (zaa rfl) (zab (zaa rfl) zag)) (zaj rfl xn)
   have xn : zrb 2 zbF (zpz (zpA 1) (zpz (zpA 0) (zpD))) [some (.ref q), some (pD p)] S6 = some (("NotClosed" : Str), S6) := by
     have ea : zpz (zpA 1) (zpz (zpA 0) (zpD)) [some (.ref q), some (pD p)] S6 = some ([pD p, .ref q], S6) := zab (zaa rfl) (zab (zaa rfl) zag)
     unfold zrb
     rw [ea]
     simp only [zs6]
     rw [if_pos (show [pD p, D.ref q].length = 2 from rfl), xs]
     rfl
   have told : zrw [9, 10] (eN (zpG 2 zaZ) (zpz (zpA 1) (zpz (zpA 0) (zpD)))) (zrb 2 zbF (zpz (zpA 1) (zpz (zpA 0) (zpD)))) (telR "refused") [some (.ref 0), some (.ref m), some (.ref r), x3, x4, some (.ref kp), some (.int 1), some (.int he), b8, some (.ref q), some (pD p)] S6 = some (.tup [.str "refused", .str "NotClosed"], S6) := by
     have ec : capD [9, 10] [some (.ref 0), some (.ref m), some (.ref r), x3, x4, some (.ref kp), some (.int 1), some (.int he), b8, some (.ref q), some (pD p)] = some [.ref q, pD p] := rfl
     unfold zrw
     rw [ec]
     simp only [zs6, ztJ, List.map_nil]
     rw [fn, xn]
     rfl
   refine ⟨[some (.ref 0), some (.ref m), some (.ref r), x3, x4, some (.ref kp), some (.int 1), some (.int he), b8, some (.ref q), some (pD p)], S6, go ?_⟩
   unfold zcy zdn zcW
   refine zac (zaJ t8 (zaN rfl zap)) (zad (zac (zai (zat (zab (zah (zah (zaa rfl) zao (zdd m6 e0)) zao (zaA rfl)) (zab (zah (zaa rfl) zao (zbI (by decide))) zag)) (zaj rfl (fp S6))) rfl) (zad (zac (zaF (zah told (zat (zab zao (zab zao zag)) (zd9 (zs3 rfl))) ?_)) zaw))))
   refine (zg5 ?_ 8 ?_ ?_ ?_).trans (by rw [zb6 rfl]) <;> first | decide +kernel | rfl | decide
end MX.K22
end
section
local macro_rules | `(tactic| wtm_at "sc") => `(tactic| exact ⟨rfl, rfl, rfl, by decide +kernel, by kernel_rfl, by decide +kernel, by decide +kernel⟩)
namespace MX.K22
open PySem PySem.Spec PySem.W PyProof.Rows L2 MX MX.P
abbrev F0 : List (Str × Nat × GN) := []
abbrev F1 : List (Str × Nat × GN) := ("common_divisor", 2, zaT) :: F0
abbrev F2 : List (Str × Nat × GN) := ("lowest_terms", 1, zaE) :: F1
abbrev F3 : List (Str × Nat × GN) := ("is_less", 2, zeR) :: F2
abbrev F4 : List (Str × Nat × GN) := ("way_between", 2, zae) :: F3
abbrev F5 : List (Str × Nat × GN) := ("dot", 2, zaS) :: F4
abbrev F6 : List (Str × Nat × GN) := ("cross", 2, zaC) :: F5
abbrev F7 : List (Str × Nat × GN) := ("edges_of", 1, zaM) :: F6
abbrev F8 : List (Str × Nat × GN) := ("meets_along", 3, zcq) :: F7
abbrev F9 : List (Str × Nat × GN) := ("meets_segment", 3, zbH) :: F8
abbrev F10 : List (Str × Nat × GN) := ("meets_edges", 2, zaO) :: F9
abbrev F11 : List (Str × Nat × GN) := ("goes_through", 3, zau) :: F10
abbrev F12 : List (Str × Nat × GN) := ("meets_within_plane", 3, zav) :: F11
abbrev F13 : List (Str × Nat × GN) := ("meets_triangle", 2, zan) :: F12
abbrev F14 : List (Str × Nat × GN) := ("is_closed", 1, zbg) :: F13
abbrev F15 : List (Str × Nat × GN) := ("determinant", 1, zcr) :: F14
abbrev F16 : List (Str × Nat × GN) := ("sign_of", 1, zcM) :: F15
abbrev F17 : List (Str × Nat × GN) := ("sign_along", 1, zbt) :: F16
abbrev F18 : List (Str × Nat × GN) := ("goes_out", 2, zc8) :: F17
abbrev F19 : List (Str × Nat × GN) := ("is_on", 2, zeQ) :: F18
abbrev F20 : List (Str × Nat × GN) := ("place_of", 2, zaZ) :: F19
abbrev F21 : List (Str × Nat × GN) := ("_law_cell", 2, zaX) :: F20
abbrev F22 : List (Str × Nat × GN) := ("_law_drawn", 2, za0) :: F21
abbrev F23 : List (Str × Nat × GN) := ("_law_whole", 1, zcN) :: F22
abbrev F24 : List (Str × Nat × GN) := ("_law_spot", 1, zdl) :: F23
abbrev F25 : List (Str × Nat × GN) := ("_law_put", 2, zbB) :: F24
abbrev F26 : List (Str × Nat × GN) := ("_law_face", 3, zaW) :: F25
abbrev F27 : List (Str × Nat × GN) := ("_law_skin", 2, zcs) :: F26
abbrev F28 : List (Str × Nat × GN) := ("_law_closed", 1, zbC) :: F27
abbrev F29 : List (Str × Nat × GN) := ("_law_edited", 2, zct) :: F28
abbrev F30 : List (Str × Nat × GN) := ("_law_boxes", 1, zcO) :: F29
abbrev F31 : List (Str × Nat × GN) := ("_law_point", 2, za7) :: F30
abbrev F32 : List (Str × Nat × GN) := ("_law_due", 2, zcu) :: F31
abbrev X0 : List (Str × Nat × XN) := []
abbrev X1 : List (Str × Nat × XN) := ("place_of", 2, zbF) :: X0
theorem call : WalkO seen [] (fun _ _ => True) (zqU defs blt "law" (top 44)).says PySem.Challenge.rw_firsthit_k22_whole_place_in_boxes.row.toRowW lawRec [] fun f vs => PySem.call f vs := by
 refine zhS (k := 35) (x := "_law_script") rfl rfl ⟨rfl, by decide, by decide⟩ ?F
 case F =>
   intro w mg fa h K c Pt KX G hmg hD hB hX z hC
   have H : ∀ i (h : i < defs.length), DefK K (defs[i]).1 (defs[i]).2 := fun i h => hD _ (List.getElem_mem h)
   have hb := zkI KX G hB
   obtain ⟨T, O, hcl⟩ := zor KX G hX
   have hcl : ∀ y ∈ (["NotClosed", "NoRay", "NoShape", "BadRow"] : List Str), ∃ C, ExcK K mg y C := fun y hy => by
     simp only [List.mem_cons, ztF, or_false] at hy
     rcases hy with rfl | rfl | rfl | rfl
     . exact hcl 2 (by decide)
     . exact hcl 0 (by decide)
     . exact hcl 1 (by decide)
     . exact hcl 3 (by decide)
   obtain ⟨tf, tfd, m1, m2, m3, m4⟩ := zlc (w := w) T O KX G (H 29 (by decide)) (H 30 (by decide))
   have hs : ∀ base : Heap, FnsOk PG w K mg base 32 F32 /\ FxsOk PG w K mg base 32 X1 := by
     intro base
     have h0 : FnsOk PG w K mg base 0 F0 := FnsOk.nil
     have h1 : FnsOk PG w K mg base 1 F1 := zas (x := "common_divisor") (st := top 7) (ps := ["one", "other"]) (n := 3) (fb := zbx) (m := 40) h0 KX G hb (H 0 (by decide)) (zqb fun _ _ _ _ _ _ _ _ => rfl) (by wtm_at "sc") (by decide +kernel) (by kernel_rfl) (by kernel_rfl)
     have h2 : FnsOk PG w K mg base 2 F2 := zas (x := "lowest_terms") (st := top 8) (ps := ["ratio"]) (n := 2) (fb := zb7) (m := 40) h1 KX G hb (H 1 (by decide)) (zqv fun _ _ _ _ _ _ _ => rfl) (by wtm_at "sc") (by decide +kernel) (by kernel_rfl) (by kernel_rfl)
     have h3 : FnsOk PG w K mg base 3 F3 := zas (x := "is_less") (st := top 9) (ps := ["one", "other"]) (n := 2) (fb := zdJ) (m := 40) h2 KX G hb (H 2 (by decide)) (zqb fun _ _ _ _ _ _ _ _ => rfl) (by wtm_at "sc") (by decide +kernel) (by kernel_rfl) (by kernel_rfl)
     have h4 : FnsOk PG w K mg base 4 F4 := zas (x := "way_between") (st := top 10) (ps := ["one", "other"]) (n := 2) (fb := zbD) (m := 40) h3 KX G hb (H 3 (by decide)) (zqb fun _ _ _ _ _ _ _ _ => rfl) (by wtm_at "sc") (by decide +kernel) (by kernel_rfl) (by kernel_rfl)
     have h5 : FnsOk PG w K mg base 5 F5 := zas (x := "dot") (st := top 11) (ps := ["one", "other"]) (n := 2) (fb := zkJ) (m := 40) h4 KX G hb (H 4 (by decide)) (zqb fun _ _ _ _ _ _ _ _ => rfl) (by wtm_at "sc") (by decide +kernel) (by kernel_rfl) (by kernel_rfl)
     have h6 : FnsOk PG w K mg base 6 F6 := zas (x := "cross") (st := top 12) (ps := ["one", "other"]) (n := 2) (fb := zfx) (m := 40) h5 KX G hb (H 5 (by decide)) (zqb fun _ _ _ _ _ _ _ _ => rfl) (by wtm_at "sc") (by decide +kernel) (by kernel_rfl) (by kernel_rfl)
     have h7 : FnsOk PG w K mg base 7 F7 := zas (x := "edges_of") (st := top 14) (ps := ["triangle"]) (n := 1) (fb := zc9) (m := 40) h6 KX G hb (H 6 (by decide)) (zqv fun _ _ _ _ _ _ _ => rfl) (by wtm_at "sc") (by decide +kernel) (by kernel_rfl) (by kernel_rfl)
     have h8 : FnsOk PG w K mg base 8 F8 := zas (x := "meets_along") (st := top 15) (ps := ["ray", "one", "other"]) (n := 6) (fb := za9) (m := 40) h7 KX G hb (H 7 (by decide)) (zrS fun _ _ _ _ _ _ _ _ _ => rfl) (by wtm_at "sc") (by decide +kernel) (by kernel_rfl) (by kernel_rfl)
     have h9 : FnsOk PG w K mg base 9 F9 := zas (x := "meets_segment") (st := top 16) (ps := ["ray", "one", "other"]) (n := 10) (fb := zaB) (m := 40) h8 KX G hb (H 8 (by decide)) (zrS fun _ _ _ _ _ _ _ _ _ => rfl) (by wtm_at "sc") (by decide +kernel) (by kernel_rfl) (by kernel_rfl)
     have h10 : FnsOk PG w K mg base 10 F10 := zas (x := "meets_edges") (st := top 17) (ps := ["ray", "triangle"]) (n := 6) (fb := zcx) (m := 40) h9 KX G hb (H 9 (by decide)) (zqb fun _ _ _ _ _ _ _ _ => rfl) (by wtm_at "sc") (by decide +kernel) (by kernel_rfl) (by kernel_rfl)
     have h11 : FnsOk PG w K mg base 11 F11 := zas (x := "goes_through") (st := top 18) (ps := ["start", "way", "triangle"]) (n := 5) (fb := zbs) (m := 40) h10 KX G hb (H 10 (by decide)) (zrS fun _ _ _ _ _ _ _ _ _ => rfl) (by wtm_at "sc") (by decide +kernel) (by kernel_rfl) (by kernel_rfl)
     have h12 : FnsOk PG w K mg base 12 F12 := zas (x := "meets_within_plane") (st := top 19) (ps := ["ray", "triangle", "upright"]) (n := 3) (fb := zaG) (m := 40) h11 KX G hb (H 11 (by decide)) (zrS fun _ _ _ _ _ _ _ _ _ => rfl) (by wtm_at "sc") (by decide +kernel) (by kernel_rfl) (by kernel_rfl)
     have h13 : FnsOk PG w K mg base 13 F13 := zas (x := "meets_triangle") (st := top 20) (ps := ["ray", "triangle"]) (n := 5) (fb := zaq) (m := 40) h12 KX G hb (H 12 (by decide)) (zqb fun _ _ _ _ _ _ _ _ => rfl) (by wtm_at "sc") (by decide +kernel) (by kernel_rfl) (by kernel_rfl)
     have h14 : FnsOk PG w K mg base 14 F14 := zas (x := "is_closed") (st := top 22) (ps := ["triangles"]) (n := 4) (fb := zdv) (m := 40) h13 KX G hb (H 13 (by decide)) (zqv fun _ _ _ _ _ _ _ => rfl) (by wtm_at "sc") (by decide +kernel) (by kernel_rfl) (by kernel_rfl)
     have h15 : FnsOk PG w K mg base 15 F15 := zas (x := "determinant") (st := top 23) (ps := ["rows"]) (n := 1) (fb := zcz) (m := 40) h14 KX G hb (H 14 (by decide)) (zqv fun _ _ _ _ _ _ _ => rfl) (by wtm_at "sc") (by decide +kernel) (by kernel_rfl) (by kernel_rfl)
     have h16 : FnsOk PG w K mg base 16 F16 := zas (x := "sign_of") (st := top 24) (ps := ["number"]) (n := 1) (fb := zcQ) (m := 40) h15 KX G hb (H 15 (by decide)) (zqv fun _ _ _ _ _ _ _ => rfl) (by wtm_at "sc") (by decide +kernel) (by kernel_rfl) (by kernel_rfl)
     have h17 : FnsOk PG w K mg base 17 F17 := zas (x := "sign_along") (st := top 25) (ps := ["upright"]) (n := 2) (fb := za1) (m := 40) h16 KX G hb (H 16 (by decide)) (zqv fun _ _ _ _ _ _ _ => rfl) (by wtm_at "sc") (by decide +kernel) (by kernel_rfl) (by kernel_rfl)
     have h18 : FnsOk PG w K mg base 18 F18 := zas (x := "goes_out") (st := top 26) (ps := ["point", "triangle"]) (n := 5) (fb := zd3) (m := 40) h17 KX G hb (H 17 (by decide)) (zqb fun _ _ _ _ _ _ _ _ => rfl) (by wtm_at "sc") (by decide +kernel) (by kernel_rfl) (by kernel_rfl)
     have h19 : FnsOk PG w K mg base 19 F19 := zas (x := "is_on") (st := top 27) (ps := ["point", "triangle"]) (n := 2) (fb := zgG) (m := 40) h18 KX G hb (H 18 (by decide)) (zqb fun _ _ _ _ _ _ _ _ => rfl) (by wtm_at "sc") (by decide +kernel) (by kernel_rfl) (by kernel_rfl)
     have x1 : FxsOk PG w K mg base 20 X1 := zku (x := "place_of") (st := top 28) (ps := ["point", "triangles"]) (n := 3) (xb := zbJ) (m := 40) h19 FxsOk.nil KX G hb hcl (H 19 (by decide)) (zqb fun _ _ _ _ _ _ _ _ => rfl) (by wtm_at "sc") (by decide +kernel) (by kernel_rfl) (by kernel_rfl)
     have h20 : FnsOk PG w K mg base 20 F20 := zas (x := "place_of") (st := top 28) (ps := ["point", "triangles"]) (n := 3) (fb := zbh) (m := 40) h19 KX G hb (H 19 (by decide)) (zqb fun _ _ _ _ _ _ _ _ => rfl) (by wtm_at "sc") (by decide +kernel) (by kernel_rfl) (by kernel_rfl)
     have h21 : FnsOk PG w K mg base 21 F21 := zas (x := "_law_cell") (st := top 30) (ps := ["_law_script", "_law_k"]) (n := 2) (fb := zcE) (m := 40) h20 KX G hb (H 20 (by decide)) (zqb fun _ _ _ _ _ _ _ _ => rfl) (by wtm_at "sc") (by decide +kernel) (by kernel_rfl) (by kernel_rfl)
     have h22 : FnsOk PG w K mg base 22 F22 := zas (x := "_law_drawn") (st := top 31) (ps := ["_law_cell_here", "_law_k"]) (n := 3) (fb := zb2) (m := 40) h21 KX G hb (H 21 (by decide)) (zqb fun _ _ _ _ _ _ _ _ => rfl) (by wtm_at "sc") (by decide +kernel) (by kernel_rfl) (by kernel_rfl)
     have h23 : FnsOk PG w K mg base 23 F23 := zas (x := "_law_whole") (st := top 32) (ps := ["_law_thing"]) (n := 1) (fb := zcY) (m := 40) h22 KX G hb (H 22 (by decide)) (zqv fun _ _ _ _ _ _ _ => rfl) (by wtm_at "sc") (by decide +kernel) (by kernel_rfl) (by kernel_rfl)
     have h24 : FnsOk PG w K mg base 24 F24 := zas (x := "_law_spot") (st := top 33) (ps := ["_law_more"]) (n := 1) (fb := zdw) (m := 40) h23 KX G hb (H 23 (by decide)) (zqv fun _ _ _ _ _ _ _ => rfl) (by wtm_at "sc") (by decide +kernel) (by kernel_rfl) (by kernel_rfl)
     have h25 : FnsOk PG w K mg base 25 F25 := zas (x := "_law_put") (st := top 34) (ps := ["_law_point_here", "_law_cell_here"]) (n := 3) (fb := zbE) (m := 40) h24 KX G hb (H 24 (by decide)) (zqb fun _ _ _ _ _ _ _ _ => rfl) (by wtm_at "sc") (by decide +kernel) (by kernel_rfl) (by kernel_rfl)
     have h26 : FnsOk PG w K mg base 26 F26 := zas (x := "_law_face") (st := top 35) (ps := ["_law_box", "_law_k", "_law_side"]) (n := 9) (fb := zdy) (m := 40) h25 KX G hb (H 25 (by decide)) (zrS fun _ _ _ _ _ _ _ _ _ => rfl) (by wtm_at "sc") (by decide +kernel) (by kernel_rfl) (by kernel_rfl)
     have h27 : FnsOk PG w K mg base 27 F27 := zas (x := "_law_skin") (st := top 36) (ps := ["_law_box", "_law_about"]) (n := 7) (fb := zdx) (m := 40) h26 KX G hb (H 26 (by decide)) (zqb fun _ _ _ _ _ _ _ _ => rfl) (by wtm_at "sc") (by decide +kernel) (by kernel_rfl) (by kernel_rfl)
     have h28 : FnsOk PG w K mg base 28 F28 := zas (x := "_law_closed") (st := top 37) (ps := ["_law_triangles"]) (n := 5) (fb := zcD) (m := 40) h27 KX G hb (H 27 (by decide)) (zqv fun _ _ _ _ _ _ _ => rfl) (by wtm_at "sc") (by decide +kernel) (by kernel_rfl) (by kernel_rfl)
     have h29 : FnsOk PG w K mg base 29 F29 := zas (x := "_law_edited") (st := top 38) (ps := ["_law_triangles", "_law_more"]) (n := 7) (fb := zcB) (m := 40) h28 KX G hb (H 28 (by decide)) (zqb fun _ _ _ _ _ _ _ _ => rfl) (by wtm_at "sc") (by decide +kernel) (by kernel_rfl) (by kernel_rfl)
     have h30 : FnsOk PG w K mg base 30 F30 := zas (x := "_law_boxes") (st := top 41) (ps := ["_law_script"]) (n := 9) (fb := zc5) (m := 40) h29 KX G hb (H 31 (by decide)) (zqv fun _ _ _ _ _ _ _ => rfl) (by wtm_at "sc") (by decide +kernel) (by kernel_rfl) (by kernel_rfl)
     have h31 : FnsOk PG w K mg base 31 F31 := zas (x := "_law_point") (st := top 42) (ps := ["_law_box", "_law_here"]) (n := 5) (fb := zbN) (m := 40) h30 KX G hb (H 32 (by decide)) (zqb fun _ _ _ _ _ _ _ _ => rfl) (by wtm_at "sc") (by decide +kernel) (by kernel_rfl) (by kernel_rfl)
     have h32 : FnsOk PG w K mg base 32 F32 := zas (x := "_law_due") (st := top 43) (ps := ["_law_point_here", "_law_boxes_here"]) (n := 5) (fb := zcC) (m := 40) h31 KX G hb (H 33 (by decide)) (zqb fun _ _ _ _ _ _ _ _ => rfl) (by wtm_at "sc") (by decide +kernel) (by kernel_rfl) (by kernel_rfl)
     exact ⟨h32, fun y n ξ e => (x1 y n ξ e).mono (by decide)⟩
   refine ziK (m := 40) (n := 11) (fb := zcX) (fns := F32) (ext := zsy (mkC (top 44) F32 blt) X1 "_law_told" (telR "refused")) KX G hb hmg z hC (show zq1 "law" (top 44) ["_law_script"] from zqv fun _ _ _ _ _ _ _ => rfl) (by wtm_at "sc") (by decide +kernel) (by kernel_rfl) (by kernel_rfl) (fun base => (hs base).1) (fun X e1 e2 e3 e4 hN hnm L hr x es g p pos hx => ?_) zkj
   refine zhi (k := 32) (tS := tRef "refused" _) hN hnm (by rw [e4]; exact hb) L hr (fun base => by rw [e1, e2, e3, e4]; exact hs base) (by rw [e4]; exact T.name) (by rw [e4]; exact m1) (by rw [e3]; exact m2) (by rw [e3]; exact m3) (fun base => by rw [e1, e2, e3, e4]; exact m4 base _ (by decide)) (fun a e i H Q => zld a e i H Q) hx
end MX.K22
theorem PySem.Challenge.cw_firsthit_k22_whole_place_in_boxes_holds : PySem.Challenge.rw_firsthit_k22_whole_place_in_boxes.Holds := by
 exact MX.zmn (H := MX.zqU MX.K22.defs MX.K22.blt "law" (MX.K22.top 44)) (q := MX.K22.seen) (d := MX.K22.lawRec) (by kernel_rfl) MX.K22.left (by kernel_rfl) (by kernel_rfl) (by kernel_rfl) (by kernel_rfl) ⟨rfl, rfl, rfl, rfl, rfl, by decide +kernel⟩ (by w_witness2) MX.K22.call
#print axioms PySem.Challenge.cw_firsthit_k22_whole_place_in_boxes_holds
end
