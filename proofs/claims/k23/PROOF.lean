import PyProof.Rows.All
import Wide.All
import OpenK.AllK
import Wide.FinOn
import PyProof.EqAt
import PyProof.EqKinds
import PyProof.TupleCall
import PyProof.DictRoadsH
import PyProof.DictItems
import PySem.Challenge.RW_firsthit_k23_whole_place_in_corners
noncomputable section
set_option Elab.async false
set_option linter.all false
set_option maxRecDepth 100000
set_option maxHeartbeats 0
section
set_option autoImplicit false
namespace MX
open PySem PySem.Spec PySem.W PyProof.Rows
def keepO (a : Addr) (o : Obj) : Bool := match o.data with
 | .freed => false
 | _ => match o.cls with
   | .none => Nat.beq a 3
   | _ => true
def fragFrom : List Obj → Addr → PySem.W.Frag
 | [], _ => []
 | o :: r, a => bif keepO a o then (a, o) :: fragFrom r (Nat.succ a) else fragFrom r (Nat.succ a)
def fragAt (h : Heap) : PySem.W.Frag := fragFrom h.objs.toList 0
def seenDef (K : PySem.W.Frag) (x : Str) : Option (Arguments × List Stmt × Scope × Bool) := match nsIn K mainGlobals x with
 | some (some (.ref f)) => match K.lookup f with
   | some ⟨_, _, .func ⟨n, q, ps, .stmts b, sc, g, [], .none, _, _, _, _, cd, _, bn⟩, _⟩ => some (ps, b, sc, n == x && (q == x && (Nat.beq g mainGlobals && (Nat.beq bn builtinsNs && (codeIn K cd x && keepIn K (.ref f))))))
   | _ => none
 | _ => none
def seenCode (K : PySem.W.Frag) (h : Heap) (x : Str) : Option Obj × Bool := match nsIn K mainGlobals x with
 | some (some (.ref f)) => match K.lookup f with
   | some ⟨_, _, .func F, _⟩ => match F.code with
     | .ref c => match K.lookup c with
       | some ⟨_, _, .fields vs, _⟩ => match (vs[11]? : Option Value) with
         | some (.ref P) => (h.get? P, codeHdIn K c P && (K.lookup P).isNone)
         | _ => (none, false)
       | _ => (none, false)
     | _ => (none, false)
   | _ => (none, false)
 | _ => (none, false)
def dA (s : Stmt) : Arguments := match s with
 | .FunctionDef _ a _ _ _ _ _ _ _ _ => a
 | _ => { posonlyargs := [], args := [], vararg := none, kwonlyargs := [], kw_defaults := [], kwarg := none, defaults := [] }
def dB (s : Stmt) : List Stmt := match s with
 | .FunctionDef _ _ b _ _ _ _ _ _ _ => b
 | _ => []
def dS (s : Stmt) : Scope := match s with
 | .FunctionDef _ _ _ _ _ _ c _ _ _ => c
 | _ => { kind := .function, names := [], isGenerator := false, isCoroutine := false }
def defPos (s : Stmt) : Pos := match s with
 | .FunctionDef _ _ _ _ _ _ _ _ _ p => p
 | _ => ⟨0, 0, 0, 0⟩
def obsP (ds : List (Str × Stmt)) (blt : List Str) (s : Shared) : List (Option (Arguments × List Stmt × Scope × Bool)) × List (Option (Option Value)) := (ds.map fun y => seenDef (fragAt s.heap) y.1, blt.map fun y => nsIn (fragAt s.heap) mainGlobals y)
def valP (ds : List (Str × Stmt)) (blt : List Str) : List (Option (Arguments × List Stmt × Scope × Bool)) × List (Option (Option Value)) := (ds.map fun y => some (dA y.2, dB y.2, dS y.2, true), blt.map fun _ => some none)
def obsT (ds : List (Str × Stmt)) (blt : List Str) (x : Str) (s : Shared) : (List (Option (Arguments × List Stmt × Scope × Bool)) × List (Option (Option Value))) × Option (Arguments × List Stmt × Scope × Bool) × (Option Obj × Bool) := (obsP ds blt s, seenDef (fragAt s.heap) x, seenCode (fragAt s.heap) s.heap x)
def valT (ds : List (Str × Stmt)) (blt : List Str) (st : Stmt) : (List (Option (Arguments × List Stmt × Scope × Bool)) × List (Option (Option Value))) × Option (Arguments × List Stmt × Scope × Bool) × (Option Obj × Bool) := (valP ds blt, some (dA st, dB st, dS st, true), (some (tabObj #[]), true))
end MX
end
section
set_option autoImplicit false
namespace MX.K23
open PySem PySem.Spec PySem.W PyProof.Rows MX
abbrev PP : Program := PySem.Challenge.pw_firsthit_k23_whole_place_in_corners
abbrev PG : Program := PySem.Challenge.rw_firsthit_k23_whole_place_in_corners.prog
def top (i : Nat) : Stmt := PP.main.body.getD i (.Pass ⟨0, 0, 0, 0⟩)
def blt : List Str := ["len", "abs", "min", "max", "isinstance", "all", "any", "sum", "sorted", "tuple", "list", "range", "zip", "int", "bool", "str"]
def nm (s : Stmt) : Str := match s with
 | .FunctionDef n _ _ _ _ _ _ _ _ _ => n
 | _ => ""
def ixs : List Nat := [4, 5, 6, 7, 8, 9, 11, 12, 13, 14, 15, 16, 17, 19, 20, 21, 22, 23, 24, 25, 27, 28, 29, 30, 31, 32, 33, 34, 35, 36, 37, 38, 39, 40, 41, 42, 43]
def defs : List (Str × Stmt) := ixs.map fun i => (nm (top i), top i)
def seen : Program := view PP [1, 2, 4, 5, 6, 7, 8, 9, 11, 12, 13, 14, 15, 16, 17, 19, 20, 21, 22, 23, 24, 25, 27, 28, 29, 30, 31, 32, 33, 34, 35, 36, 37, 38, 39, 40, 41, 42, 43]
def lawRec : DefRec := ⟨"law", dA (top 43), dB (top 43), dS (top 43), defPos (top 43)⟩
theorem left : LeftO PP seen [] (fun _ => true) (obsP defs blt) (fun _ => valP defs blt) 4224 := by
 intro w
 kernel_rfl
end MX.K23
end
section
namespace L2
open PySem PySem.Spec PyProof.Rows
abbrev Key := Sum Int Str
def keyIs : Key → Value → Bool
 | .inl k, v => Value.isInt k v
 | .inr x, v => Value.isStrOf x v
def keyH (w : World) : Key → Int
 | .inl k => hashInt k
 | .inr x => hashStr w x
theorem zaQ : ∀ {k : Key} {v : Value}, keyIs k v = true → (∃ i t, k = Sum.inl i ∧ v = Value.int i t) ∨ (∃ x t, k = Sum.inr x ∧ v = Value.str x t)
 | .inl i, v, h => by
   obtain ⟨t, e⟩ := Value.isInt_shape (k := i) (v := v) h
   exact .inl ⟨i, t, rfl, e⟩
 | .inr x, v, h => by
   obtain ⟨t, e⟩ := Value.isStrOf_shape (x := x) (v := v) h
   exact .inr ⟨x, t, rfl, e⟩
theorem zmZ (a b : Int) : decide ((Sum.inl a : Key) = Sum.inl b) = (a == b) := by
 by_cases e : a = b
 · subst e; simp
 · have h : ¬ (Sum.inl a : Key) = Sum.inl b := fun q => e (Sum.inl.inj q)
   rw [decide_eq_false h]
   exact (beq_eq_false_iff_ne.mpr e).symm
theorem zmW (a b : Str) : decide ((Sum.inr a : Key) = Sum.inr b) = decide (a = b) := by
 by_cases e : a = b
 · subst e; simp
 · have h : ¬ (Sum.inr a : Key) = Sum.inr b := fun q => e (Sum.inr.inj q)
   rw [decide_eq_false h, decide_eq_false e]
theorem zmY (a : Int) (b : Str) : decide ((Sum.inl a : Key) = Sum.inr b) = false := decide_eq_false (fun q => nomatch q)
theorem zmX (a : Str) (b : Int) : decide ((Sum.inr a : Key) = Sum.inl b) = false := decide_eq_false (fun q => nomatch q)
def mixKind (prog : Program) (w : World) : PySem.KeyKind prog w Key where
 is := keyIs
 hash := keyH w
 inj := fun v a b ha hb => by
   rcases zaQ ha with ⟨i, t, rfl, rfl⟩ | ⟨x, t, rfl, rfl⟩
   · rcases zaQ hb with ⟨j, u, rfl, e⟩ | ⟨y, u, rfl, e⟩
     · injection e with e1 _; rw [e1]
     · exact nomatch e
   · rcases zaQ hb with ⟨j, u, rfl, e⟩ | ⟨y, u, rfl, e⟩
     · exact nomatch e
     · injection e with e1 _; rw [e1]
 byValue := fun k v h => by
   rcases zaQ h with ⟨i, t, rfl, rfl⟩ | ⟨x, t, rfl, rfl⟩ <;> rfl
 pyHash := fun hv h => by
   rcases zaQ hv with ⟨i, t, rfl, rfl⟩ | ⟨x, t, rfl, rfl⟩
   · exact wpAny_pyHash_int h
   · exact wpAny_pyHash_str h
 eqBool := fun hu hv h => by
   rcases zaQ hu with ⟨i, t, rfl, rfl⟩ | ⟨x, t, rfl, rfl⟩
   · rcases zaQ hv with ⟨j, u, rfl, rfl⟩ | ⟨y, u, rfl, rfl⟩
     · rw [zmZ] at h; exact wpAny_eqBool_int h
     · rw [zmY] at h; exact SeqAt.EqAt.int_str i t y u _ _ _ _ h
   · rcases zaQ hv with ⟨j, u, rfl, rfl⟩ | ⟨y, u, rfl, rfl⟩
     · rw [zmX] at h; exact SeqAt.EqAt.str_int x t j u _ _ _ _ h
     · rw [zmW] at h; exact wpAny_eqBool_str h
 «strs» := fun k x t v h => by
   rcases zaQ h with ⟨i, u, rfl, e⟩ | ⟨y, u, rfl, e⟩
   · exact nomatch e
   · injection e with e1 _
     subst e1
     cases v <;> rfl
end L2
namespace L2
open PySem PySem.Spec PyProof.Rows
inductive V where
 | non | bl (b : Bool) | int (i : Int) | str (x : Str) | byt (b : Array UInt8) | flt (b : UInt64) | ref (a : Addr) | ty (n : String)
 deriving DecidableEq
def RelV : V → Value → Prop
 | .non, u => u = Value.none
 | .bl b, u => u = Value.bool b
 | .int i, u => ∃ t, u = Value.int i t
 | .str x, u => ∃ t, u = Value.str x t
 | .byt b, u => ∃ t, u = Value.bytes b t
 | .flt b, u => ∃ t, u = Value.float b t
 | .ref a, u => u = Value.ref a
 | .ty n, u => u = Value.type n
abbrev Vals : List V → List Value → Prop := Paired RelV
theorem Vals.length {xs : List V} {us : List Value} (r : Vals xs us) : xs.length = us.length := Paired.length r
theorem Vals.get : ∀ {xs : List V} {us : List Value} {i : Nat} {x : V}, Vals xs us → xs[i]? = some x → ∃ u, us[i]? = some u ∧ RelV x u
 | _, _, _, _, .nil, e => by simp at e
 | _, _, 0, _, .cons r _, e => by simp at e; subst e; exact ⟨_, rfl, r⟩
 | _, _, i + 1, x, .cons _ t, e => by
   obtain ⟨u, h1, h2⟩ := Vals.get (i := i) (x := x) t (by simpa using e)
   exact ⟨u, by simpa using h1, h2⟩
theorem Vals.set {x : V} {u : Value} (r : RelV x u) : ∀ {xs : List V} {us : List Value} (i : Nat), Vals xs us → Vals (xs.set i x) (us.set i u)
 | _, _, _, .nil => .nil
 | _, _, 0, .cons _ t => .cons r t
 | _, _, i + 1, .cons q t => .cons q (Vals.set r i t)
theorem Vals.append : ∀ {xs ys : List V} {us ws : List Value}, Vals xs us → Vals ys ws → Vals (xs ++ ys) (us ++ ws)
 | _, _, _, _, .nil, s => s
 | _, _, _, _, .cons r t, s => .cons r (Vals.append t s)
theorem Vals.take : ∀ {xs : List V} {us : List Value} (n : Nat), Vals xs us → Vals (xs.take n) (us.take n)
 | _, _, 0, _ => .nil
 | _, _, _ + 1, .nil => .nil
 | _, _, n + 1, .cons r t => .cons r (Vals.take n t)
theorem Vals.drop : ∀ {xs : List V} {us : List Value} (n : Nat), Vals xs us → Vals (xs.drop n) (us.drop n)
 | _, _, 0, r => r
 | _, _, _ + 1, .nil => .nil
 | _, _, n + 1, .cons _ t => Vals.drop n t
def RelO : Option V → Option Value → Prop
 | some v, some u => RelV v u
 | none, none => True
 | _, _ => False
def KV {κ : Type} : List (κ × V) → List (κ × Value) → Prop := Paired fun (p : κ × V) (q : κ × Value) => p.1 = q.1 ∧ RelV p.2 q.2
def kV : Key → V
 | .inl i => .int i
 | .inr x => .str x
inductive HO where
 | lst (xs : List V)
 | tup (xs : List V)
 | dK (kvs : List (Key × V)) | dT (kvs : List (List Key × V))
 | set (S : Int → Bool) (n : Nat)
 | ins (C dx : Addr) (fs : List (Str × V))
 | own (x : Addr)
 | xd (fs : List (Str × V))
 | met (f x : Addr)
 | rng (lo hi : Int)
 | frz (o : Obj) (u : HO)
 | tbl (ps : Array Value)
 | ext (φ : Heap → Prop)
abbrev Hp := Addr → Option HO
def upd (H : Hp) (a : Addr) (o : HO) : Hp := fun b => if b = a then some o else H b
theorem zaI {H : Hp} {a : Addr} {o : HO} : upd H a o a = some o := by unfold upd; rw [if_pos rfl]
theorem zay {H : Hp} {a b : Addr} {o : HO} (h : b ≠ a) : upd H a o b = H b := by unfold upd; rw [if_neg h]
theorem zk4 {H : Hp} {a b : Addr} {o u : HO} (h : H a = some o) (h' : H b = some u) (d : o ≠ u) : a ≠ b := by
 intro e; subst e; rw [h] at h'; exact d (Option.some.inj h')
theorem zaw {H : Hp} {a b : Addr} {o : HO} (h : H a = some o) (h' : H b = none) : a ≠ b := by
 intro e; subst e; rw [h] at h'; cases h'
section
variable (P : Program) (w : World)
def ObjOk (H : Hp) (h : Heap) (a : Addr) : HO → Prop
 | .lst xs => xs.length ≤ sizeLine ∧ ∃ (its : List Value) (n : Nat), Vals xs its ∧ h.get? a = some { cls := .type "list", data := .seq its.toArray n }
 | .tup xs => xs.length ≤ sizeLine ∧ ∃ its : List Value, Vals xs its ∧ IsTup h a its.toArray
 | .dK kvs => kvs.length ≤ sizeLine ∧ (a == sysModules) = false ∧ ∃ vs, KV kvs vs ∧ h.DictOf (mixKind P w) a vs
 | .dT kvs => kvs.length ≤ sizeLine ∧ (a == sysModules) = false ∧ ∃ xs : List (List Key × Addr × Value),
     Paired (fun (p : List Key × V) (q : List Key × Addr × Value) => p.1 = q.1 ∧ H q.2.1 = some (.tup (p.1.map kV)) ∧ RelV p.2 q.2.2) kvs xs ∧
     ∃ o es ep, h.get? a = some o ∧ o.ExactDict ∧ o.data = .dict es ep ∧ es.toList = xs.map (entryOfKey (tupleKind (mixKind P w))) ∧ (xs.map (·.1)).Nodup
 | .set S n => h.SetOf (intKind P w) a S n
 | .ins C dx fs => H dx = some (.own a) ∧ fs.length ≤ 1000 ∧ dx ≠ a ∧ h.get? a = some (PySem.W.instObj C dx) ∧
     ∃ mA, h.Ns1 dx mA ∧ (∀ f, RelO (fs.lookup f) (mA f)) ∧ PySem.Within mA (fs.map (·.1))
 | .own _ => ∃ o, h.get? a = some o
 | .xd fs => ∃ mA, h.Ns1 a mA ∧ ∀ f, RelO (fs.lookup f) (mA f)
 | .rng lo hi => ∃ t u v, h.get? a = some { cls := .type "range", data := .fields #[.int lo t, .int hi u, .int 1 v] }
 | .frz o u => h.get? a = some o ∧ ObjOk H h a u
 | .tbl ps => h.get? a = some { cls := .none, data := .fields ps } ∧ TriplesOk ps.toList ∧ ∀ pos cv, codeAmong pos ps.toList = some cv → ∃ c q oc vs t, cv = Value.ref c ∧ H c = some (.own a) ∧ h.get? c = some oc ∧ oc.data = .fields vs ∧ vs[1]? = some (.str q t)
 | .met f x => h.get? a = some (PySem.W.methodObj (.ref f) (.ref x))
 | .ext φ => φ h ∧ (∃ o, h.get? a = some o) ∧ ∀ h1 h2 : Heap, φ h1 → (∀ o, h1.get? a = some o → h2.get? a = some o) → φ h2
def HOk (H : Hp) (h : Heap) : Prop := ∀ a o, H a = some o → ObjOk P w H h a o
end
section
variable {P : Program} {w : World} {H H' : Hp} {h h' : Heap} {a : Addr} {o : HO}
theorem ObjOk.lt (x : ObjOk P w H h a o) : a < h.objs.size := by
 cases o with
 | lst xs => obtain ⟨_, _, _, _, e⟩ := x; exact Heap.lt_size e
 | tup xs => obtain ⟨_, _, _, p⟩ := x; exact p.lt
 | dK kvs => obtain ⟨_, _, _, _, o, _, _, e, _⟩ := x; exact Heap.lt_size e
 | dT kvs => obtain ⟨_, _, _, _, o, _, _, e, _⟩ := x; exact Heap.lt_size e
 | set S n => obtain ⟨o, _, _, _, e, _⟩ := x; exact Heap.lt_size e
 | ins C dx fs => obtain ⟨_, _, _, e, _⟩ := x; exact Heap.lt_size e
 | own y => obtain ⟨_, e⟩ := x; exact Heap.lt_size e
 | xd fs => obtain ⟨_, ⟨_, _, _, e, _⟩, _⟩ := x; exact Heap.lt_size e
 | rng lo hi => obtain ⟨_, _, _, e⟩ := x; exact Heap.lt_size e
 | frz ob u => obtain ⟨e, _⟩ := x; exact Heap.lt_size e
 | tbl ps => exact Heap.lt_size x.1
 | met f y => exact Heap.lt_size (show h.get? a = some _ from x)
 | ext φ => obtain ⟨_, ⟨_, e⟩, _⟩ := x; exact Heap.lt_size e
theorem Paired.mapP {α β : Type} {F G : α → β → Prop} : ∀ {l₁ : List α} {l₂ : List β}, Paired F l₁ l₂ → (∀ a b, F a b → G a b) → Paired G l₁ l₂
 | _, _, .nil, _ => .nil
 | _, _, .cons r t, f => .cons (f _ _ r) (Paired.mapP t f)
theorem ObjOk.stay (x : ObjOk P w H h a o) (k : ∀ b u, (b = a ∨ H b = some (.own a)) → h.get? b = some u → h'.get? b = some u)
   (ho : ∀ b, H b = some (.own a) → H' b = some (.own a)) (ht : ∀ b xs, H b = some (.tup xs) → H' b = some (.tup xs)) : ObjOk P w H' h' a o := by
 induction o with
 | lst xs => obtain ⟨z, its, n, r, e⟩ := x; exact ⟨z, its, n, r, k _ _ (.inl rfl) e⟩
 | tup xs => obtain ⟨z, its, r, ob, e, c⟩ := x; exact ⟨z, its, r, ob, k _ _ (.inl rfl) e, c⟩
 | dK kvs => obtain ⟨z, y, vs, r, ob, es, ep, e, c⟩ := x; exact ⟨z, y, vs, r, ob, es, ep, k _ _ (.inl rfl) e, c⟩
 | dT kvs =>
   obtain ⟨z, y, xs, r, ob, es, ep, e, c⟩ := x
   exact ⟨z, y, xs, Paired.mapP r fun p q z => ⟨z.1, ht _ _ z.2.1, z.2.2⟩, ob, es, ep, k _ _ (.inl rfl) e, c⟩
 | set S n => obtain ⟨ob, es, ep, t, e, c⟩ := x; exact ⟨ob, es, ep, t, k _ _ (.inl rfl) e, c⟩
 | ins C dx fs =>
   obtain ⟨d, z, ne, e, mA, ⟨od, es, ep, e2, c⟩, r⟩ := x
   exact ⟨ho _ d, z, ne, k _ _ (.inl rfl) e, mA, ⟨od, es, ep, k _ _ (.inr d) e2, c⟩, r⟩
 | own y => obtain ⟨ob, e⟩ := x; exact ⟨ob, k _ _ (.inl rfl) e⟩
 | xd fs => obtain ⟨mA, ⟨od, es, ep, e, c⟩, r⟩ := x; exact ⟨mA, ⟨od, es, ep, k _ _ (.inl rfl) e, c⟩, r⟩
 | rng lo hi => obtain ⟨t, u, v, e⟩ := x; exact ⟨t, u, v, k _ _ (.inl rfl) e⟩
 | frz ob u ih => obtain ⟨e, q⟩ := x; exact ⟨k _ _ (.inl rfl) e, ih q⟩
 | tbl ps =>
   obtain ⟨e, h1, h2⟩ := x
   refine ⟨k a _ (.inl rfl) e, h1, fun pos cv q => ?_⟩
   obtain ⟨c, q, oc, vs, t, e1, e2, e3, e4⟩ := h2 pos cv q
   exact ⟨c, q, oc, vs, t, e1, ho _ e2, k _ _ (.inr e2) e3, e4⟩
 | met f y =>
   have e : h.get? a = some (PySem.W.methodObj (.ref f) (.ref y)) := x
   show h'.get? a = some (PySem.W.methodObj (.ref f) (.ref y))
   exact k a _ (.inl rfl) e
 | ext φ => obtain ⟨p, ⟨o, e⟩, st⟩ := x; exact ⟨st _ _ p fun o q => k _ _ (.inl rfl) q, ⟨o, k _ _ (.inl rfl) e⟩, st⟩
theorem HOk.lt (x : HOk P w H h) (e : H a = some o) : a < h.objs.size := (x a o e).lt
theorem HOk.fresh (x : HOk P w H h) (e : h.objs.size ≤ a) : H a = none := by
 cases q : H a with
 | none => rfl
 | some u => exact absurd (Nat.lt_of_lt_of_le (x.lt q) e) (Nat.lt_irrefl _)
theorem HOk.kept (x : HOk P w H h) (k : ∀ b u, h.get? b = some u → h'.get? b = some u) : HOk P w H h' := fun a o e =>
 (x a o e).stay (fun b u _ q => k b u q) (fun _ q => q) fun _ _ q => q
theorem HOk.laid (x : HOk P w H h) (k : ∀ b u, h.get? b = some u → h'.get? b = some u) (hp : h.objs.size ≤ a) (new : ObjOk P w (upd H a o) h' a o) : HOk P w (upd H a o) h' := fun b u e => by
 have hn := x.fresh hp
 by_cases hb : b = a
 · subst hb; rw [zaI] at e; cases e; exact new
 · rw [zay hb] at e
   exact (x b u e).stay (fun c v _ q => k c v q) (fun c q => by rw [zay (zaw q hn)]; exact q) fun c xs q => by rw [zay (zaw q hn)]; exact q
end
def Rd (H : Hp) (a : Addr) (u : HO) : Prop := H a = some u ∨ ∃ o, H a = some (.frz o u)
theorem Rd.ok {P : Program} {w : World} {H : Hp} {h : Heap} {a : Addr} {u : HO} (r : Rd H a u) (x : HOk P w H h) : ObjOk P w H h a u := by
 rcases r with r | ⟨o, r⟩
 · exact x a u r
 · obtain ⟨_, q⟩ := x a _ r
   exact q
def Mut : Option HO → Prop
 | some (.lst _) => True
 | some (.dK _) => True
 | some (.dT _) => True
 | some (.set _ _) => True
 | some (.ins _ _ _) => True
 | some (.ext _) => True
 | _ => False
section
variable {P : Program} {w : World} {H : Hp} {h h' : Heap} {x e : Addr} {o' : HO}
theorem HOk.write (ok : HOk P w H h) (mu : Mut (H x)) (he : e = x ∨ H e = some (.own x)) (k : ∀ b u, b ≠ e → h.get? b = some u → h'.get? b = some u) (heo : ∃ u, h'.get? e = some u)
   (new : ObjOk P w (upd H x o') h' x o') : HOk P w (upd H x o') h' := fun b u q => by
 have nown : ∀ c y, H c = some (.own y) → c ≠ x := fun c y r z => by subst z; rw [r] at mu; exact mu
 have ntup : ∀ c xs, H c = some (.tup xs) → c ≠ x := fun c xs r z => by subst z; rw [r] at mu; exact mu
 by_cases hb : b = x
 · subst hb; rw [zaI] at q; cases q; exact new
 · rw [zay hb] at q
   by_cases hbe : b = e
   · have q' : H b = some (.own x) := by
       rcases he with z | z
       · exact absurd (hbe.trans z) hb
       · rw [hbe]; exact z
     rw [q] at q'; cases q'
     obtain ⟨v, hv⟩ := heo
     exact ⟨v, by rw [hbe]; exact hv⟩
   · refine (ok b u q).stay (fun c v hc r => k c v ?_ r) (fun c r => by rw [zay (nown c b r)]; exact r) fun c xs r => by rw [zay (ntup c xs r)]; exact r
     rcases hc with rfl | hc
     · exact hbe
     · rintro rfl
       rcases he with z | z
       · exact nown c b hc z
       · rw [hc] at z; cases z; exact hb rfl
end
structure Un (fs ex : List Addr) (H H' : Hp) (h h' : Heap) : Prop where
 keep : ∀ b o, h.get? b = some o → H b = none → b ∉ fs → b ∉ ex → h'.get? b = some o
 slot : ∀ b o, h.get? b = some o → H b = none → b ∈ fs → b ∉ ex → ∃ sl, h'.get? b = some { o with slots := sl }
 free : ∀ b o, h.get? b = some o → H b = none → b ∉ ex → H' b = none
 there : ∀ b o, h.get? b = some o → b ∉ ex → ∃ o', h'.get? b = some o'
 tups : ∀ b xs, H b = some (.tup xs) → H' b = some (.tup xs)
 frzs : ∀ b o u, H b = some (.frz o u) → H' b = some (.frz o u)
 tbls : ∀ b ps, H b = some (.tbl ps) → ∃ more, H' b = some (.tbl (ps ++ more))
section
variable {fs fs' ex ex' : List Addr} {H H1 H2 : Hp} {h h1 h2 h' : Heap} {a x e : Addr} {o : HO}
theorem Un.any (u : Un fs ex H H1 h h1) {b : Addr} {ob : Obj} (q : h.get? b = some ob) (n : H b = none) (hx : b ∉ ex) : ∃ sl, h1.get? b = some { ob with slots := sl } := by
 by_cases hb : b ∈ fs
 · exact u.slot b ob q n hb hx
 · exact ⟨ob.slots, u.keep b ob q n hb hx⟩
theorem Un.kept (k : ∀ b u, h.get? b = some u → h'.get? b = some u) : Un fs ex H H h h' :=
 ⟨fun b ob q _ _ _ => k b ob q, fun b ob q _ _ _ => ⟨ob.slots, k b ob q⟩, fun _ _ _ n _ => n, fun b ob q _ => ⟨ob, k b ob q⟩, fun _ _ q => q, fun _ _ _ q => q, fun _ ps q => ⟨#[], by rw [q]; simp⟩⟩
theorem Un.refl : Un fs ex H H h h := Un.kept fun _ _ q => q
theorem Un.laid (k : ∀ b u, h.get? b = some u → h'.get? b = some u) (hp : h.objs.size ≤ a) (hn : H a = none) : Un fs ex H (upd H a o) h h' where
 keep := fun b u q _ _ _ => k b u q
 slot := fun b u q _ _ _ => ⟨u.slots, k b u q⟩
 free := fun b u q n _ => by rw [zay (Nat.ne_of_lt (Nat.lt_of_lt_of_le (Heap.lt_size q) hp))]; exact n
 there := fun b u q _ => ⟨u, k b u q⟩
 tups := fun b xs q => by rw [zay (zaw q hn)]; exact q
 frzs := fun b u xs q => by rw [zay (zaw q hn)]; exact q
 tbls := fun b ps q => ⟨#[], by rw [zay (zaw q hn), q]; simp⟩
theorem Un.write (mu : Mut (H x)) (he : e = x ∨ H e = some (.own x)) (k : ∀ b u, b ≠ e → h.get? b = some u → h'.get? b = some u) (heo : ∃ u, h'.get? e = some u) : Un fs ex H (upd H x o) h h' := by
 have hx : ∀ b, H b = none → b ≠ x := fun b n z => by subst z; rw [n] at mu; exact mu
 have hb : ∀ b, H b = none → b ≠ e := fun b n z => by
   subst z
   rcases he with r | r
   · exact hx b n r
   · rw [n] at r; cases r
 have hm : ∀ b u, H b = some u → ¬ Mut (some u) → b ≠ x := fun b u q nm z => by subst z; rw [q] at mu; exact nm mu
 refine ⟨fun b u q n _ _ => k b u (hb b n) q, fun b u q n _ _ => ⟨u.slots, k b u (hb b n) q⟩, fun b u q n _ => by rw [zay (hx b n)]; exact n, fun b u q _ => ?_,
   fun b xs q => by rw [zay (hm b _ q fun z => z)]; exact q, fun b u xs q => by rw [zay (hm b _ q fun z => z)]; exact q, fun b ps q => ⟨#[], by rw [zay (hm b _ q fun z => z), q]; simp⟩⟩
 by_cases hbe : b = e
 · subst hbe; exact heo
 · exact ⟨u, k b u hbe q⟩
end
def trk (h : Heap) (H : Hp) : List Addr := (List.range h.objs.size).filter fun a => (H a).isSome
def hidT (h : Heap) (H : Hp) : Heap := PySem.W.hideAll h (trk h H)
theorem zh0 (h : Heap) (H : Hp) : (hidT h H).objs.size = h.objs.size := PySem.W.hideAll_size _ _
theorem zjl {h : Heap} {H : Hp} {b : Addr} {o : Obj} (e : h.get? b = some o) (n : H b = none) : (hidT h H).get? b = some o :=
 PySem.W.hideAll_get _ e fun hm => by
   have q : (H b).isSome = true := (List.mem_filter.mp hm).2
   rw [n] at q; simp at q
theorem zk1 {h : Heap} {H : Hp} {b : Addr} {o : Obj} (e : (hidT h H).get? b = some o) : h.get? b = some o ∧ H b = none := by
 have e' : h.get? b = some o := PySem.W.of_hideAll (trk h H) e
 refine ⟨e', ?_⟩
 cases q : H b with
 | none => rfl
 | some x =>
   have hm : b ∈ trk h H := List.mem_filter.mpr ⟨List.mem_range.mpr (Heap.lt_size e'), by simp [q]⟩
   have z : (hidT h H).get? b = none := PySem.W.hideAll_none (trk h H) hm
   rw [z] at e; cases e
end L2
namespace L2
open PySem PySem.Spec PyProof.Rows
structure Mod (K : PySem.W.Frag) (mg : Str → Option Value) (base : Heap) : Prop where
 kin : K.In base
 glob : base.Ns mainGlobals mg
 blt : ∃ mb, base.Ns builtinsNs mb ∧ ∀ x : Str, x ≠ "__name__" → mb x = bootBuiltins x
 nolimit : base.NoLimit
structure Cx where
 prog : Program
 w : World
 K : PySem.W.Frag
 mg : Str → Option Value
 base : Heap
 A : Around
 N : List Str
 s₀ : Shared
 H₀ : Hp
 env : Env
 outer : List Env
 stack : List Env
 ex : List Addr
 fn : Str → Bool
 calm : Bool
 pn : List (Addr × Obj)
 xe : Value → Shared → Prop
def frs (l : List Env) : List Addr := l.filterMap (·.frame)
abbrev Cx.fs (X : Cx) : List Addr := frs X.outer
def Vis (sc : Scope) (x : Str) : Prop := sc.names.lookup x = some .local ∨ sc.names.lookup x = some .cell ∨ sc.names.lookup x = some .free
def Loc (sc : Scope) (x : Str) : Prop := sc.names.lookup x = some .local ∨ sc.names.lookup x = some .cell
def Look (env : Env) (h : Heap) (m : Str → Option Value) (x : Str) (u : Value) : Prop :=
 (env.kindOf x = some .local ∧ m x = some u) ∨ ((env.kindOf x = some .cell ∨ env.kindOf x = some .free) ∧ ∃ c, env.cells.lookup x = some c ∧ h.IsCell c (some u))
structure Cx.Ok (X : Cx) : Prop where
 mod : Mod X.K X.mg X.base
 kind : X.env.scope.kind = .function
 glob : X.env.globals = mainGlobals
 blt : X.env.builtins = builtinsNs
 above : X.s₀.heap.objs.size ≤ X.env.locals
 inj : ∀ x y c, X.env.cells.lookup x = some c → X.env.cells.lookup y = some c → x = y
 has : ∀ x, (X.env.kindOf x = some .cell ∨ X.env.kindOf x = some .free) → ∃ c, X.env.cells.lookup x = some c
 cab : ∀ x c, X.fn x = true → X.env.cells.lookup x = some c → X.s₀.heap.objs.size ≤ c
 hd : X.calm = true → X.A.handled = none
 frames : X.A.frames = some X.stack
 stk : X.stack = X.outer ∨ (X.stack = X.env :: X.outer ∧ X.env.frame = some X.env.locals)
 exf : ∀ b ∈ X.ex, b ≠ X.env.locals ∧ ∀ x c, X.env.cells.lookup x = some c → c ≠ b
 bs : ∀ b o, X.base.get? b = some o → X.s₀.heap.get? b = some o ∧ X.H₀ b = none
 bsz : X.base.objs.size ≤ X.s₀.heap.objs.size
 noex : ∀ b o, X.base.get? b = some o → b ∉ X.ex
 exfs : ∀ b ∈ X.ex, b ∉ X.fs
 funs : X.s₀.heap.FunFrames X.base X.outer
 frf : ∀ b ∈ X.fs, X.H₀ b = none
structure Inv (X : Cx) (pins : List (Addr × Obj)) (σ : List (Option V)) (H : Hp) (s : Shared) : Prop where
 ok : X.Ok
 os : s.os = X.s₀.os
 bare : AllBare s.gens
 base : Un X.fs X.ex X.H₀ H X.s₀.heap s.heap
 loc : ∃ m, s.heap.Ns X.env.locals m ∧ ∀ (i : Nat) (x : Str) (v : V), X.N[i]? = some x → σ[i]? = some (some v) → Vis X.env.scope x → ∃ u, RelV v u ∧ Look X.env s.heap m x u
 cell : ∀ x c, X.env.cells.lookup x = some c → ∃ v, s.heap.IsCell c v
 free : H X.env.locals = none
 freeC : ∀ x c, X.env.cells.lookup x = some c → H c = none
 pin : ∀ p ∈ X.pn ++ pins, s.heap.get? p.1 = some p.2 ∧ H p.1 = none ∧ p.1 ≠ X.env.locals ∧ p.1 ∉ X.fs ∧ ∀ v, p.2.data ≠ .cell v
 hok : HOk X.prog X.w H s.heap
 len : σ.length = X.N.length
section
variable {X : Cx} {pins : List (Addr × Obj)} {σ : List (Option V)} {H H' : Hp} {s : Shared} {h' : Heap}
theorem Cx.Ok.nofr (ok : X.Ok) {b : Addr} {o : Obj} (e : X.base.get? b = some o) : b ∉ X.fs := fun hb => by
 have := (ok.funs.mem hb).1
 rw [e] at this; cases this
theorem Inv.bs (I : Inv X pins σ H s) : ∀ b o, X.base.get? b = some o → s.heap.get? b = some o ∧ H b = none := fun b o e =>
 ⟨I.base.keep b o (I.ok.bs b o e).1 (I.ok.bs b o e).2 (I.ok.nofr e) (I.ok.noex b o e), I.base.free b o (I.ok.bs b o e).1 (I.ok.bs b o e).2 (I.ok.noex b o e)⟩
theorem Inv.bk (I : Inv X pins σ H s) : ∀ b o, X.base.get? b = some o → s.heap.get? b = some o := fun b o e => (I.bs b o e).1
theorem Inv.mod (I : Inv X pins σ H s) : Mod X.K X.mg X.base := I.ok.mod
theorem Inv.kIn (I : Inv X pins σ H s) : X.K.In s.heap := I.ok.mod.kin.keeps I.bk
theorem Inv.lt (I : Inv X pins σ H s) : X.env.locals < s.heap.objs.size := let ⟨_, hn, _⟩ := I.loc; hn.lt
theorem Inv.sz (I : Inv X pins σ H s) : X.s₀.heap.objs.size ≤ s.heap.objs.size := Nat.le_trans I.ok.above (Nat.le_of_lt I.lt)
theorem Inv.nofs (I : Inv X pins σ H s) {a : Addr} (h : s.heap.objs.size ≤ a) : a ∉ X.fs := fun hb => by
 obtain ⟨_, o, ho, _⟩ := I.ok.funs.mem hb
 exact absurd (Nat.lt_of_lt_of_le (Heap.lt_size ho) (Nat.le_trans I.sz h)) (Nat.lt_irrefl _)
theorem Inv.cne (I : Inv X pins σ H s) : ∀ x c, X.env.cells.lookup x = some c → c ≠ X.env.locals := fun x c e z => by
 obtain ⟨v, o, ho, hd⟩ := I.cell x c e
 obtain ⟨m, ⟨o', es, ep, ho', hd', _⟩, _⟩ := I.loc
 rw [z, ho'] at ho; cases ho; rw [hd'] at hd; cases hd
theorem Inv.funs (I : Inv X pins σ H s) : s.heap.FunFrames X.base X.outer := by
 have all : ∀ (l : List Env), (∀ b ∈ frs l, b ∈ X.fs) → X.s₀.heap.FunFrames X.base l → s.heap.FunFrames X.base l := by
   intro l
   induction l with
   | nil => intro _ _; trivial
   | cons env r ih =>
     intro hs hl
     obtain ⟨hk, ⟨L, o, hf, hn, ho, hd⟩, hr⟩ := hl
     have hL : L ∈ X.fs := hs L (by unfold frs; rw [List.filterMap_cons, hf]; exact List.mem_cons_self)
     obtain ⟨sl, e⟩ := I.base.slot L o ho (I.ok.frf L hL) hL fun z => I.ok.exfs L z hL
     exact ⟨hk, ⟨L, _, hf, hn, e, hd⟩, ih (fun b hb => hs b (by unfold frs; rw [List.filterMap_cons, hf]; exact List.mem_cons_of_mem _ hb)) hr⟩
 exact all X.outer (fun _ hb => hb) I.ok.funs
theorem Inv.stack (I : Inv X pins σ H s) : s.heap.FunFrames X.base X.stack := by
 rcases I.ok.stk with e | ⟨e, hf⟩
 · rw [e]; exact I.funs
 · rw [e]
   obtain ⟨m, hn, _⟩ := I.loc
   refine .cons (by rw [I.ok.kind]; decide) hf hn ?_ I.funs
   exact Heap.get?_none_of_le (Nat.le_trans I.ok.bsz I.ok.above)
theorem Inv.stkSub (I : Inv X pins σ H s) : ∀ b ∈ frs X.stack, b ∈ X.env.locals :: X.fs := fun b hb => by
 rcases I.ok.stk with e | ⟨e, hf⟩
 · rw [e] at hb; exact List.mem_cons_of_mem _ hb
 · rw [e] at hb
   unfold frs at hb
   rw [List.filterMap_cons, hf] at hb
   exact hb
theorem Inv.stkFree (I : Inv X pins σ H s) : ∀ b ∈ frs X.stack, H b = none := fun b hb => by
 rcases List.mem_cons.mp (I.stkSub b hb) with e | hb
 · rw [e]; exact I.free
 · obtain ⟨_, o, ho, _⟩ := I.ok.funs.mem hb
   exact I.base.free b o ho (I.ok.frf b hb) fun z => I.ok.exfs b z hb
theorem Inv.step {g' : Array GenState} {t' : Nat} {d' : Drawn} {ch : List Addr} (I : Inv X pins σ H s)
   (hch : ∀ b ∈ ch, (b ∈ X.ex ∨ X.s₀.heap.objs.size ≤ b) ∧ b ≠ X.env.locals ∧ (∀ x c, X.env.cells.lookup x = some c → c ≠ b) ∧ ∀ p ∈ X.pn ++ pins, p.1 ≠ b)
   (keep : ∀ b o, b ≠ X.env.locals → b ∉ X.fs → b ∉ ch → s.heap.get? b = some o → H b = none → h'.get? b = some o)
   (slot : ∀ b o, b ≠ X.env.locals → b ∈ X.fs → b ∉ ch → s.heap.get? b = some o → H b = none → ∃ sl, h'.get? b = some { o with slots := sl }) (free : ∀ b o, b ∉ ch → s.heap.get? b = some o → H b = none → H' b = none)
   (there : ∀ b o, b ∉ ch → s.heap.get? b = some o → ∃ o', h'.get? b = some o')
   (tups : ∀ b xs, H b = some (.tup xs) → H' b = some (.tup xs)) (frzs : ∀ b o u, H b = some (.frz o u) → H' b = some (.frz o u)) (tbls : ∀ b ps, H b = some (.tbl ps) → ∃ more, H' b = some (.tbl (ps ++ more)))
   (ns : ∀ m, s.heap.Ns X.env.locals m → h'.Ns X.env.locals m) (hok : HOk X.prog X.w H' h') (hg : AllBare g') :
   Inv X pins σ H' { s with heap := h', gens := g', drawn := d', toks := t' } := by
 have neL : ∀ b o, X.s₀.heap.get? b = some o → b ≠ X.env.locals := fun b o e => Nat.ne_of_lt (Nat.lt_of_lt_of_le (Heap.lt_size e) I.ok.above)
 have neC : ∀ b o, X.s₀.heap.get? b = some o → b ∉ X.ex → b ∉ ch := fun b o e hx hb => by
   rcases (hch b hb).1 with z | z
   · exact hx z
   · exact absurd (Nat.lt_of_lt_of_le (Heap.lt_size e) z) (Nat.lt_irrefl _)
 have cellK : ∀ x c, X.env.cells.lookup x = some c → ∀ v, s.heap.IsCell c v → h'.IsCell c v := fun x c e v ⟨o, ho, hd⟩ => by
   have nch : c ∉ ch := fun z => (hch c z).2.2.1 x c e rfl
   by_cases hc : c ∈ X.fs
   · obtain ⟨sl, q⟩ := slot c o (I.cne x c e) hc nch ho (I.freeC x c e)
     exact ⟨_, q, hd⟩
   · exact ⟨o, keep c o (I.cne x c e) hc nch ho (I.freeC x c e), hd⟩
 refine ⟨I.ok, I.os, hg, ⟨fun b o e n hb hx => ?_, fun b o e n hb hx => ?_, fun b o e n hx => ?_, fun b o e hx => ?_, fun b xs e => tups b xs (I.base.tups b xs e), fun b o xs e => frzs b o xs (I.base.frzs b o xs e), fun b ps e => ?_⟩, ?_, fun x c e => ?_, ?_, fun x c e => ?_, fun p hp => ?_, hok, I.len⟩
 · exact keep b o (neL b o e) hb (neC b o e hx) (I.base.keep b o e n hb hx) (I.base.free b o e n hx)
 · obtain ⟨sl, e1⟩ := I.base.slot b o e n hb hx
   obtain ⟨sl', e2⟩ := slot b _ (neL b o e) hb (neC b o e hx) e1 (I.base.free b o e n hx)
   exact ⟨sl', e2⟩
 · obtain ⟨o', e1⟩ := I.base.there b o e hx
   exact free b o' (neC b o e hx) e1 (I.base.free b o e n hx)
 · obtain ⟨o', e1⟩ := I.base.there b o e hx
   exact there b o' (neC b o e hx) e1
 · obtain ⟨m1, e1⟩ := I.base.tbls b ps e
   obtain ⟨m2, e2⟩ := tbls b _ e1
   exact ⟨m1 ++ m2, by rw [e2, Array.append_assoc]⟩
 · obtain ⟨m, hn, hl⟩ := I.loc
   refine ⟨m, ns m hn, fun i x v e1 e2 e3 => ?_⟩
   obtain ⟨u, r, l⟩ := hl i x v e1 e2 e3
   refine ⟨u, r, ?_⟩
   rcases l with l | ⟨k, c, e, z⟩
   · exact .inl l
   · exact .inr ⟨k, c, e, cellK x c e _ z⟩
 · obtain ⟨v, z⟩ := I.cell x c e
   exact ⟨v, cellK x c e v z⟩
 · obtain ⟨m, ⟨o, _, _, ho, _⟩, _⟩ := I.loc
   exact free _ o (fun z => (hch _ z).2.1 rfl) ho I.free
 · obtain ⟨v, o, ho, hd⟩ := I.cell x c e
   exact free c o (fun z => (hch c z).2.2.1 x c e rfl) ho (I.freeC x c e)
 · obtain ⟨e, n, ne, nf, d⟩ := I.pin p hp
   have nch : p.1 ∉ ch := fun z => (hch p.1 z).2.2.2 p hp rfl
   exact ⟨keep p.1 p.2 ne nf nch e n, free p.1 p.2 nch e n, ne, nf, d⟩
theorem Inv.un {t' : Nat} (I : Inv X pins σ H s) (u : Un X.fs [] H H' s.heap h') (hok : HOk X.prog X.w H' h') : Inv X pins σ H' { s with heap := h', toks := t' } := by
 obtain ⟨m, ⟨o, es, ep, ho, r⟩, _⟩ := id I.loc
 obtain ⟨sl, hL⟩ := u.any ho I.free (by simp)
 exact I.step (g' := s.gens) (d' := s.drawn) (ch := []) (fun _ z => nomatch z) (fun b o _ hb _ e n => u.keep b o e n hb (by simp)) (fun b o _ hb _ e n => u.slot b o e n hb (by simp)) (fun b o _ e n => u.free b o e n (by simp)) (fun b o _ e => u.there b o e (by simp)) u.tups u.frzs u.tbls (fun m' hm => by
   obtain ⟨o', es', ep', ho', r'⟩ := hm
   rw [ho] at ho'; cases ho'
   exact ⟨_, es', ep', hL, r'⟩) hok I.bare
theorem Inv.call {g' : Array GenState} {t' : Nat} {d' : Drawn} {ch : List Addr} (I : Inv X pins σ H s) (u : Un (frs X.stack) ch H H' s.heap h') (hok : HOk X.prog X.w H' h') (hg : AllBare g')
   (hch : ∀ b ∈ ch, (b ∈ X.ex ∨ X.s₀.heap.objs.size ≤ b) ∧ b ≠ X.env.locals ∧ (∀ x c, X.env.cells.lookup x = some c → c ≠ b) ∧ ∀ p ∈ X.pn ++ pins, p.1 ≠ b) :
   Inv X pins σ H' { s with heap := h', gens := g', drawn := d', toks := t' } := by
 obtain ⟨m, ⟨o, es, ep, ho, r⟩, _⟩ := id I.loc
 obtain ⟨sl, hL⟩ := u.any ho I.free fun z => (hch _ z).2.1 rfl
 exact I.step (ch := ch) hch (fun b o hL hb hc e n => u.keep b o e n (fun z => (List.mem_cons.mp (I.stkSub b z)).elim hL hb) hc) (fun b o _ _ hc e n => u.any e n hc) (fun b o hc e n => u.free b o e n hc) (fun b o hc e => u.there b o e hc) u.tups u.frzs u.tbls (fun m' hm => by
   obtain ⟨o', es', ep', ho', r'⟩ := hm
   rw [ho] at ho'; cases ho'
   exact ⟨_, es', ep', hL, r'⟩) hok hg
theorem Inv.turned {t' : Nat} {it : Addr} (I : Inv X pins σ H s) (k : ∀ b o, b ≠ it → s.heap.get? b = some o → h'.get? b = some o) (hn : H it = none) (hL : it ≠ X.env.locals)
   (h1 : it ∈ X.ex ∨ X.s₀.heap.objs.size ≤ it) (h2 : ∀ x c, X.env.cells.lookup x = some c → c ≠ it) (h3 : ∀ p ∈ X.pn ++ pins, p.1 ≠ it) : Inv X pins σ H { s with heap := h', toks := t' } := by
 have nit : ∀ b u, H b = some u → b ≠ it := fun b u e z => by rw [z, hn] at e; cases e
 refine I.step (g' := s.gens) (d' := s.drawn) (ch := [it]) (fun b hb => ?_) (fun b o _ _ hc e _ => k b o (fun z => hc (by simp [z])) e) (fun b o _ _ hc e _ => ⟨o.slots, k b o (fun z => hc (by simp [z])) e⟩) (fun _ _ _ _ n => n)
   (fun b o hc e => ⟨o, k b o (fun z => hc (by simp [z])) e⟩) (fun _ _ e => e) (fun _ _ _ e => e) (fun b ps e => ⟨#[], by rw [e]; simp⟩) (fun m hm => ?_) (fun b u e => ?_) I.bare
 · have e : b = it := by simpa using hb
   subst e
   exact ⟨h1, hL, h2, h3⟩
 · obtain ⟨o, es, ep, ho, r⟩ := hm
   exact ⟨o, es, ep, k _ o (Ne.symm hL) ho, r⟩
 · refine (I.hok b u e).stay (fun c v hc q => k c v ?_ q) (fun _ q => q) fun _ _ q => q
   rcases hc with z | z
   · rw [z]; exact nit b u e
   · exact nit c _ z
theorem Inv.tok (I : Inv X pins σ H s) (t : Nat) : Inv X pins σ H { s with toks := t } := I.un (h' := s.heap) (t' := t) Un.refl I.hok
theorem Inv.kept {t' : Nat} (I : Inv X pins σ H s) (k : ∀ b u, s.heap.get? b = some u → h'.get? b = some u) : Inv X pins σ H { s with heap := h', toks := t' } := I.un (Un.kept k) (I.hok.kept k)
theorem Inv.laid {a : Addr} {o : HO} {t' : Nat} (I : Inv X pins σ H s) (k : ∀ b u, s.heap.get? b = some u → h'.get? b = some u) (hp : s.heap.objs.size ≤ a) (new : ObjOk X.prog X.w (upd H a o) h' a o) :
   Inv X pins σ (upd H a o) { s with heap := h', toks := t' } := I.un (Un.laid k hp (I.hok.fresh hp)) (I.hok.laid k hp new)
theorem Inv.write {x e : Addr} {o : HO} {t' : Nat} (I : Inv X pins σ H s) (mu : Mut (H x)) (he : e = x ∨ H e = some (.own x)) (k : ∀ b u, b ≠ e → s.heap.get? b = some u → h'.get? b = some u) (heo : ∃ u, h'.get? e = some u)
   (new : ObjOk X.prog X.w (upd H x o) h' x o) : Inv X pins σ (upd H x o) { s with heap := h', toks := t' } := I.un (Un.write mu he k heo) (I.hok.write mu he k heo new)
theorem Inv.pins_of {pins' : List (Addr × Obj)} (I : Inv X pins σ H s) (h : ∀ p ∈ pins', s.heap.get? p.1 = some p.2 ∧ H p.1 = none ∧ p.1 ≠ X.env.locals ∧ p.1 ∉ X.fs ∧ ∀ v, p.2.data ≠ .cell v) : Inv X pins' σ H s :=
 ⟨I.ok, I.os, I.bare, I.base, I.loc, I.cell, I.free, I.freeC, fun p hp => (List.mem_append.mp hp).elim (fun z => I.pin p (List.mem_append_left _ z)) (h p), I.hok, I.len⟩
theorem zgx {N : List Str} (hN : N.Nodup) {i j : Nat} {x : Str} (a : N[i]? = some x) (b : N[j]? = some x) : i = j := by
 obtain ⟨h1, e1⟩ := List.getElem?_eq_some_iff.mp a
 obtain ⟨h2, e2⟩ := List.getElem?_eq_some_iff.mp b
 exact (List.getElem_inj hN).mp (e1.trans e2.symm)
theorem zhm {M : Model} {A : Around} {E : Value → Shared → Prop} {i : Nat} {x : Str} {v : V} {u : Value} {Q : Unit → Shared → Prop} (I : Inv X pins σ H s) (hN : X.N.Nodup) (hi : X.N[i]? = some x) (hx : Loc X.env.scope x) (r : RelV v u)
   (h : ∀ s', Inv X pins (σ.set i (some v)) H s' → (∃ a, Heap.SameBut a s.heap s'.heap ∧ (a = X.env.locals ∨ X.env.cells.lookup x = some a)) → Q () s') (hf : X.fn x = true ∨ X.env.scope.names.lookup x = some .local := by first | exact .inl rfl | exact .inr rfl | assumption) : wpAny M A (storeName X.env x u) Q E s := by
 obtain ⟨m, hn, hl⟩ := id I.loc
 have hcls : (X.env.scope.kind == .class || (X.env.scope.kind == .module && X.env.locals != X.env.globals)) = false := by rw [I.ok.kind]; rfl
 have hiσ : i < σ.length := by rw [I.len]; exact (List.getElem?_eq_some_iff.mp hi).1
 have cne := I.cne
 have tracked : ∀ {a : Addr} {h' : Heap}, (∃ o, s.heap.get? a = some o ∧ H a = none) → Heap.SameBut a s.heap h' → HOk X.prog X.w H h' := fun {a h'} ha hs b ob e => by
   obtain ⟨_, _, hfree⟩ := ha
   refine (I.hok b ob e).stay (fun c w' hc q => (hs.2 c ?_).trans q) (fun _ q => q) fun _ _ q => q
   rintro rfl
   rcases hc with rfl | hc
   · rw [hfree] at e; cases e
   · rw [hfree] at hc; cases hc
 rcases hx with hk | hk
 · refine wpAny_storeName_local hk hn (fun h' hn' hs => ?_) hcls
   obtain ⟨oL, _, _, hoL, _⟩ := id hn
   refine h _ ⟨I.ok, I.os, I.bare, ⟨fun b o e n hb hx => ?_, fun b o e n hb hx => ?_, I.base.free, fun b o e hx => ?_, I.base.tups, I.base.frzs, I.base.tbls⟩, ⟨_, hn', fun j y v' e1 e2 e3 => ?_⟩, fun y c e => ?_, I.free, I.freeC, fun p hp => ?_, tracked ⟨oL, hoL, I.free⟩ hs, by simpa using I.len⟩ ⟨_, hs, .inl rfl⟩
   · exact (hs.2 b (Nat.ne_of_lt (Nat.lt_of_lt_of_le (Heap.lt_size e) I.ok.above))).trans (I.base.keep b o e n hb hx)
   · obtain ⟨sl, e1⟩ := I.base.slot b o e n hb hx
     exact ⟨sl, (hs.2 b (Nat.ne_of_lt (Nat.lt_of_lt_of_le (Heap.lt_size e) I.ok.above))).trans e1⟩
   · obtain ⟨o', e1⟩ := I.base.there b o e hx
     exact ⟨o', (hs.2 b (Nat.ne_of_lt (Nat.lt_of_lt_of_le (Heap.lt_size e) I.ok.above))).trans e1⟩
   · by_cases hj : j = i
     · subst hj
       rw [hi] at e1; cases e1
       rw [List.getElem?_set_self hiσ] at e2
       cases e2
       exact ⟨u, r, .inl ⟨hk, by simp⟩⟩
     · rw [List.getElem?_set_ne (Ne.symm hj)] at e2
       obtain ⟨u', r', q⟩ := hl j y v' e1 e2 e3
       refine ⟨u', r', ?_⟩
       rcases q with ⟨k, e⟩ | ⟨k, c, e, z⟩
       · refine .inl ⟨k, ?_⟩
         have : y ≠ x := fun e => hj (zgx hN e1 (e ▸ hi))
         simp [this, e]
       · exact .inr ⟨k, c, e, z.sameBut hs (cne y c e)⟩
   · obtain ⟨w', z⟩ := I.cell y c e
     exact ⟨w', z.sameBut hs (cne y c e)⟩
   · obtain ⟨e, n, ne, nf, d⟩ := I.pin p hp
     exact ⟨(hs.2 p.1 ne).trans e, n, ne, nf, d⟩
 · have hfn : X.fn x = true := by
     rcases hf with z | z
     · exact z
     · rw [z] at hk; cases hk
   obtain ⟨c, hc⟩ := I.ok.has x (.inl hk)
   obtain ⟨w', z⟩ := I.cell x c hc
   refine wpAny_storeName_cell I.ok.kind hk hc z (fun h' hc' hs => ?_)
   obtain ⟨oc, hoc, hocd⟩ := id z
   refine h { s with heap := h' } ⟨I.ok, I.os, I.bare, ⟨fun b o e n hb hx => ?_, fun b o e n hb hx => ?_, I.base.free, fun b o e hx => ?_, I.base.tups, I.base.frzs, I.base.tbls⟩, ⟨m, hn.sameBut hs (Ne.symm (cne x c hc)), fun j y v' e1 e2 e3 => ?_⟩, fun y c' e => ?_, I.free, I.freeC, fun p hp => ?_, tracked ⟨oc, hoc, I.freeC x c hc⟩ hs, by simpa using I.len⟩ ⟨c, hs, .inr hc⟩
   · exact (hs.2 b (Nat.ne_of_lt (Nat.lt_of_lt_of_le (Heap.lt_size e) (I.ok.cab x c hfn hc)))).trans (I.base.keep b o e n hb hx)
   · obtain ⟨sl, e1⟩ := I.base.slot b o e n hb hx
     exact ⟨sl, (hs.2 b (Nat.ne_of_lt (Nat.lt_of_lt_of_le (Heap.lt_size e) (I.ok.cab x c hfn hc)))).trans e1⟩
   · obtain ⟨o', e1⟩ := I.base.there b o e hx
     exact ⟨o', (hs.2 b (Nat.ne_of_lt (Nat.lt_of_lt_of_le (Heap.lt_size e) (I.ok.cab x c hfn hc)))).trans e1⟩
   · by_cases hj : j = i
     · subst hj
       rw [hi] at e1; cases e1
       rw [List.getElem?_set_self hiσ] at e2
       cases e2
       exact ⟨u, r, .inr ⟨.inl hk, c, hc, hc'⟩⟩
     · rw [List.getElem?_set_ne (Ne.symm hj)] at e2
       obtain ⟨u', r', q⟩ := hl j y v' e1 e2 e3
       refine ⟨u', r', ?_⟩
       rcases q with q | ⟨k, c', e, z'⟩
       · exact .inl q
       · refine .inr ⟨k, c', e, z'.sameBut hs ?_⟩
         rintro rfl
         exact hj (zgx hN e1 (I.ok.inj _ _ _ e hc ▸ hi))
   · by_cases hcc : c' = c
     · subst hcc; exact ⟨_, hc'⟩
     · obtain ⟨w2, z2⟩ := I.cell y c' e
       exact ⟨w2, z2.sameBut hs hcc⟩
   · obtain ⟨e, n, ne, nf, d⟩ := I.pin p hp
     refine ⟨(hs.2 p.1 ?_).trans e, n, ne, nf, d⟩
     intro q
     rw [q, hoc] at e
     have q' : oc = p.2 := Option.some.inj e
     exact d w' (by rw [← q']; exact hocd)
theorem zcD {M : Model} {A : Around} {E : Value → Shared → Prop} {i : Nat} {x : Str} {v : V} {u : Value} {Q : Unit → Shared → Prop} (I : Inv X pins σ H s) (hN : X.N.Nodup) (hi : X.N[i]? = some x) (hx : Loc X.env.scope x) (r : RelV v u)
   (h : ∀ s', Inv X pins (σ.set i (some v)) H s' → Q () s') (hf : X.fn x = true ∨ X.env.scope.names.lookup x = some .local := by first | exact .inl rfl | exact .inr rfl | assumption) : wpAny M A (storeName X.env x u) Q E s :=
 zhm I hN hi hx r (fun s' I' _ => h s' I') hf
theorem Inv.call' {s' : Shared} {ch : List Addr} (I : Inv X pins σ H s) (ho : s'.os = s.os) (u : Un (frs X.stack) ch H H' s.heap s'.heap) (hok : HOk X.prog X.w H' s'.heap) (hg : AllBare s'.gens)
   (hch : ∀ b ∈ ch, (b ∈ X.ex ∨ X.s₀.heap.objs.size ≤ b) ∧ b ≠ X.env.locals ∧ (∀ x c, X.env.cells.lookup x = some c → c ≠ b) ∧ ∀ p ∈ X.pn ++ pins, p.1 ≠ b) : Inv X pins σ H' s' := by
 obtain ⟨h', g', d', t', o'⟩ := s'
 have e : o' = s.os := ho
 subst e
 exact I.call (g' := g') (t' := t') (d' := d') u hok hg hch
end
abbrev XK := Value → Option Addr → Hp → Prop
abbrev St := List (Option V)
abbrev VK := V → Hp → Prop
abbrev TE := St → Hp → VK → Prop
abbrev TT := St → Hp → (Bool → Hp → Prop) → Prop
abbrev TA := St → Hp → (List V → Hp → Prop) → Prop
structure Ends where
 nx : St → Hp → Prop
 rt : VK
 bk : St → Hp → Prop := fun _ _ => False
 ct : St → Hp → Prop := fun _ _ => False
abbrev TS := Ends → St → Hp → Prop
def EP (X : Cx) (pins : List (Addr × Obj)) (σ : St) (Q : VK) (u : Value) (s' : Shared) : Prop := ∃ v H', Inv X pins σ H' s' ∧ RelV v u ∧ Q v H'
def TP (X : Cx) (pins : List (Addr × Obj)) (σ : St) (Q : Bool → Hp → Prop) (b : Bool) (s' : Shared) : Prop := ∃ H', Inv X pins σ H' s' ∧ Q b H'
def AP (X : Cx) (pins : List (Addr × Obj)) (σ : St) (Q : List V → Hp → Prop) (us : List Value) (s' : Shared) : Prop := ∃ vs H', Inv X pins σ H' s' ∧ Vals vs us ∧ Q vs H'
def SP (X : Cx) (pins : List (Addr × Obj)) (D : Ends) (f : Flow) (s' : Shared) : Prop :=
 match f with
 | .next => ∃ σ' H', Inv X pins σ' H' s' ∧ D.nx σ' H'
 | .brk => ∃ σ' H', Inv X pins σ' H' s' ∧ D.bk σ' H'
 | .cont => ∃ σ' H', Inv X pins σ' H' s' ∧ D.ct σ' H'
 | .ret u => ∃ v σ' H', Inv X pins σ' H' s' ∧ RelV v u ∧ D.rt v H'
def PE (X : Cx) (e : Expr) (t : TE) : Prop :=
 ∀ (pins : List (Addr × Obj)) (s : Shared) (σ : St) (H : Hp) (Q : VK), Inv X pins σ H s → t σ H Q → wpAny (model X.prog X.w) X.A (eval e X.env) (EP X pins σ Q) X.xe s
def PT (X : Cx) (e : Expr) (t : TT) : Prop :=
 ∀ (pins : List (Addr × Obj)) (s : Shared) (σ : St) (H : Hp) (Q : Bool → Hp → Prop), Inv X pins σ H s → t σ H Q → wpAny (model X.prog X.w) X.A (isTrue e X.env (eval e X.env)) (TP X pins σ Q) X.xe s
def PW (X : Cx) (e : Expr) (t : TT) : Prop :=
 ∀ (whole : Sem Value) (pins : List (Addr × Obj)) (s : Shared) (σ : St) (H : Hp) (Q : Bool → Hp → Prop), Inv X pins σ H s → t σ H Q → wpAny (model X.prog X.w) X.A (isTrue e X.env whole) (TP X pins σ Q) X.xe s
theorem PW.pt {X : Cx} {e : Expr} {t : TT} (h : PW X e t) : PT X e t := h _
def PA (X : Cx) (es : List Expr) (t : TA) : Prop :=
 ∀ (pos : Pos) (pins : List (Addr × Obj)) (s : Shared) (σ : St) (H : Hp) (Q : List V → Hp → Prop), Inv X pins σ H s → t σ H Q → wpAny (model X.prog X.w) X.A (spliced (backTo pos (starEach es X.env))) (AP X pins σ Q) X.xe s
def PS (X : Cx) (st : Stmt) (t : TS) : Prop :=
 ∀ (pins : List (Addr × Obj)) (s : Shared) (σ : St) (H : Hp) (D : Ends), Inv X pins σ H s → t D σ H → wpAny (model X.prog X.w) X.A (exec st X.env) (SP X pins D) X.xe s
def PSs (X : Cx) (st : List Stmt) (t : TS) : Prop :=
 ∀ (pins : List (Addr × Obj)) (s : Shared) (σ : St) (H : Hp) (D : Ends), Inv X pins σ H s → t D σ H → wpAny (model X.prog X.w) X.A (execs st X.env) (SP X pins D) X.xe s
theorem thn {α : Type} {t : Sem α} {Q Q' : α → Shared → Prop} {M : Model} {A : Around} {E : Value → Shared → Prop} {s : Shared} (h : wpAny M A t Q E s) (hQ : ∀ a s, Q a s → Q' a s) : wpAny M A t Q' E s := wpAny_mono h hQ fun _ _ x => x
end L2
namespace L2
open PySem PySem.Spec PyProof.Rows
section
variable {X : Cx}
def tVar (i : Nat) : TE := fun σ H Q => ∃ v, σ[i]? = some (some v) ∧ Q v H
def tC (v : V) : TE := fun _ H Q => Q v H
theorem zmy {i : Nat} {x : Str} {pos : Pos} (hN : X.N[i]? = some x) (hv : Vis X.env.scope x) (hd : (x == ("__debug__" : Str)) = false := by decide) (hcd : (x == ("__classdict__" : Str)) = false := by decide) : PE X (.Name x pos) (tVar i) := by
 intro pins s σ H Q I h
 obtain ⟨v, e, h⟩ := h
 obtain ⟨m, hn, hl⟩ := I.loc
 obtain ⟨u, r, l⟩ := hl i x v hN e hv
 have fin : EP X pins σ Q u s := ⟨v, H, I, r, h⟩
 rcases l with ⟨hk, hm⟩ | ⟨hk, c, hc, hcell⟩
 · exact wpAny_Name (wpAny_loadName_local I.ok.kind hk hn hm fin) hd
 · rcases hk with hk | hk
   · exact wpAny_Name (wpAny_loadName_cell I.ok.kind hk hc hcell fin) hd
   · exact wpAny_Name (wpAny_loadName_free I.ok.kind hk hc hcell fin hcd) hd
theorem zmF {i j pos} : PE X (.Constant (.int i) j pos) (tC (.int i)) := fun _ _ _ H _ I h => wpAny_Constant_int ⟨.int i, H, I.tok _, ⟨_, rfl⟩, h⟩
theorem znT {b j pos} : PE X (.Constant (.bool b) j pos) (tC (.bl b)) := fun _ _ _ H _ I h => Constant_bool ⟨.bl b, H, I, rfl, h⟩
theorem zmD {j pos} : PE X (.Constant .none j pos) (tC .non) := fun _ _ _ H _ I h => Constant_none ⟨.non, H, I, rfl, h⟩
theorem zmA {x j pos} : PE X (.Constant (.str x) j pos) (tC (.str x)) := fun _ _ _ H _ I h => Calls.Constant_str ⟨.str x, H, I.tok _, ⟨_, rfl⟩, h⟩
def Gl (X : Cx) (x : Str) : Prop := X.env.kindOf x = some .globalImplicit
theorem zk8 {E : Value → Shared → Prop} {pins : List (Addr × Obj)} {s : Shared} {σ : St} {H : Hp} {x : Str} {u : Value} {pos : Pos} {Q : Value → Shared → Prop} (I : Inv X pins σ H s) (hg : Gl X x) (hm : X.mg x = some u) (h : Q u s)
   (hd : (x == ("__debug__" : Str)) = false := by decide) : wpAny (model X.prog X.w) X.A (eval (.Name x pos) X.env) Q E s :=
 Calls.Name_function_global I.ok.kind hg (Calls.loadGlobal_global (by rw [I.ok.glob]; exact I.mod.glob.keeps I.bk) hm h) hd
theorem zfB {E : Value → Shared → Prop} {pins : List (Addr × Obj)} {s : Shared} {σ : St} {H : Hp} {x : Str} {u : Value} {pos : Pos} {Q : Value → Shared → Prop} (I : Inv X pins σ H s) (hg : Gl X x) (hm : X.mg x = none) (hv : bootBuiltins x = some u) (h : Q u s)
   (hn : x ≠ "__name__" := by decide) (hd : (x == ("__debug__" : Str)) = false := by decide) : wpAny (model X.prog X.w) X.A (eval (.Name x pos) X.env) Q E s := by
 obtain ⟨mb, h1, h2⟩ := I.mod.blt
 exact Calls.Name_function_global I.ok.kind hg (Calls.loadGlobal_builtin (by rw [I.ok.glob]; exact I.mod.glob.keeps I.bk) hm (by rw [I.ok.blt]; exact h1.keeps I.bk) ((h2 x hn).trans hv) h) hd
theorem zkG {x : Str} {v : V} {u : Value} {pos : Pos} (hg : Gl X x) (hm : X.mg x = none) (hv : bootBuiltins x = some u) (r : RelV v u) (hn : x ≠ "__name__" := by decide) (hd : (x == ("__debug__" : Str)) = false := by decide) : PE X (.Name x pos) (tC v) :=
 fun _ _ _ H _ I h => zfB I hg hm hv ⟨v, H, I, r, h⟩ hn hd
variable {a b : Expr} {ta tb : TE} {pos : Pos}
variable {tA tB' : TT} {rest : List Expr}
def tAnd (t u : TT) : TT := fun σ H Q => t σ H fun c H1 => if c = true then u σ H1 Q else Q false H1
def tOr (t u : TT) : TT := fun σ H Q => t σ H fun c H1 => if c = true then Q true H1 else u σ H1 Q
def tNot (t : TT) : TT := fun σ H Q => t σ H fun c H1 => Q (!c) H1
theorem zkp (ha : PT X a tA) : PW X (.BoolOp .And [a] pos) tA := by
 intro wh pins s σ H Q I h
 refine isTrue_and (thn (ha pins s σ H Q I h) fun c s1 e => ?_)
 cases c with
 | true => exact isTrue_and_nil e
 | false => exact e
theorem zmm (ha : PT X a tA) : PW X (.BoolOp .Or [a] pos) tA := by
 intro wh pins s σ H Q I h
 refine isTrue_or (thn (ha pins s σ H Q I h) fun c s1 e => ?_)
 cases c with
 | false => exact isTrue_or_nil e
 | true => exact e
theorem zmn (ha : PT X a tA) (hb : PW X (.BoolOp .And (b :: rest) pos) tB') : PW X (.BoolOp .And (a :: b :: rest) pos) (tAnd tA tB') := by
 intro wh pins s σ H Q I h
 refine isTrue_and (thn (ha pins s σ H _ I h) fun c s1 ⟨H1, I1, q1⟩ => ?_)
 cases c with
 | true => exact hb wh pins s1 σ H1 Q I1 q1
 | false => exact ⟨H1, I1, q1⟩
theorem znK (ha : PT X a tA) (hb : PW X (.BoolOp .Or (b :: rest) pos) tB') : PW X (.BoolOp .Or (a :: b :: rest) pos) (tOr tA tB') := by
 intro wh pins s σ H Q I h
 refine isTrue_or (thn (ha pins s σ H _ I h) fun c s1 ⟨H1, I1, q1⟩ => ?_)
 cases c with
 | true => exact ⟨H1, I1, q1⟩
 | false => exact hb wh pins s1 σ H1 Q I1 q1
theorem zmo (ha : PT X a tA) : PT X (.UnaryOp .Not a pos) (tNot tA) := by
 intro pins s σ H Q I h
 exact isTrue_not (ha pins s σ H (fun c H1 => Q (!c) H1) I h)
def tAndV (ta tb : TE) : TE := fun σ H Q => ta σ H fun x H1 => ∃ c, x = .bl c ∧ if c = true then tb σ H1 Q else Q (.bl false) H1
def tOrV (ta tb : TE) : TE := fun σ H Q => ta σ H fun x H1 => ∃ c, x = .bl c ∧ if c = true then Q (.bl true) H1 else tb σ H1 Q
def tNotV (ta : TE) : TE := fun σ H Q => ta σ H fun x H1 => ∃ c, x = .bl c ∧ Q (.bl (!c)) H1
theorem zmB {op} {t : TE} (h : PE X a t) : PE X (.BoolOp op [a] pos) t := fun pins s σ H Q I hw => BoolOp_one (h pins s σ H Q I hw)
theorem zmH (ha : PE X a ta) (hb : PE X (.BoolOp .And (b :: rest) pos) tb) : PE X (.BoolOp .And (a :: b :: rest) pos) (tAndV ta tb) := by
 intro pins s σ H Q I h
 refine BoolOp_and (thn (ha pins s σ H _ I h) fun v s1 ⟨x, H1, I1, r1, q1⟩ => ?_)
 obtain ⟨c, rfl, q1⟩ := q1
 cases r1
 refine wpAny_truthy_bool ?_
 cases c with
 | true => exact hb pins s1 σ H1 Q I1 q1
 | false => exact ⟨.bl false, H1, I1, rfl, q1⟩
theorem znN (ha : PE X a ta) (hb : PE X (.BoolOp .Or (b :: rest) pos) tb) : PE X (.BoolOp .Or (a :: b :: rest) pos) (tOrV ta tb) := by
 intro pins s σ H Q I h
 refine BoolOp_or (thn (ha pins s σ H _ I h) fun v s1 ⟨x, H1, I1, r1, q1⟩ => ?_)
 obtain ⟨c, rfl, q1⟩ := q1
 cases r1
 refine wpAny_truthy_bool ?_
 cases c with
 | false => exact hb pins s1 σ H1 Q I1 q1
 | true => exact ⟨.bl true, H1, I1, rfl, q1⟩
theorem zmC (ha : PE X a ta) : PE X (.UnaryOp .Not a pos) (tNotV ta) := by
 intro pins s σ H Q I h
 refine UnaryOp_ (thn (ha pins s σ H _ I h) fun v s1 ⟨x, H1, I1, r1, q1⟩ => ?_)
 obtain ⟨c, rfl, q1⟩ := q1
 cases r1
 exact not_of (wpAny_truthy_bool ⟨.bl (!c), H1, I1, rfl, q1⟩)
def tIf (t : TT) (ta tb : TE) : TE := fun σ H Q => t σ H fun c H1 => if c = true then ta σ H1 Q else tb σ H1 Q
theorem zi5 {c : Expr} (hc : PT X c tA) (ha : PE X a ta) (hb : PE X b tb) : PE X (.IfExp c a b pos) (tIf tA ta tb) := by
 intro pins s σ H Q I h
 refine wpAny_IfExp (thn (hc pins s σ H _ I h) fun d s1 ⟨H1, I1, q1⟩ => ?_)
 cases d with
 | true => exact ha pins s1 σ H1 Q I1 q1
 | false => exact hb pins s1 σ H1 Q I1 q1
end
end L2
namespace L2
open PySem PySem.Spec PyProof.Rows
def SqL (K : PySem.W.Frag) (H : Hp) (a : Addr) (xs : List V) : Prop :=
 Rd H a (.lst xs) ∨
   ∃ (o : Obj) (its : Array Value) (n : Nat), K.lookup a = some o ∧ o.cls = .type "list" ∧ o.dict = none ∧ o.data = .seq its n ∧ its.size ≤ sizeLine ∧ Vals xs its.toList
def SqT (K : PySem.W.Frag) (H : Hp) (a : Addr) (xs : List V) : Prop :=
 Rd H a (.tup xs) ∨
   ∃ (o : Obj) (its : Array Value) (n : Nat), K.lookup a = some o ∧ o.cls = .type "tuple" ∧ o.data = .seq its n ∧ its.size ≤ sizeLine ∧ Vals xs its.toList
def absV : Value → Option V
 | .none => some .non
 | .bool b => some (.bl b)
 | .int i _ => some (.int i)
 | .str x _ => some (.str x)
 | .bytes b _ => some (.byt b)
 | .float b _ => some (.flt b)
 | .ref a => some (.ref a)
 | .type n => some (.ty n)
 | _ => none
theorem RelV.abs {x : V} {u : Value} (r : RelV x u) : absV u = some x := by
 cases x with
 | non => cases r; rfl
 | bl _ => cases r; rfl
 | int _ => obtain ⟨t, rfl⟩ := r; rfl
 | str _ => obtain ⟨t, rfl⟩ := r; rfl
 | byt _ => obtain ⟨t, rfl⟩ := r; rfl
 | flt _ => obtain ⟨t, rfl⟩ := r; rfl
 | ref _ => cases r; rfl
 | ty _ => cases r; rfl
theorem RelV.inj {x y : V} {u : Value} (r : RelV x u) (q : RelV y u) : x = y := Option.some.inj (r.abs.symm.trans q.abs)
theorem Vals.inj : ∀ {xs ys : List V} {us : List Value}, Vals xs us → Vals ys us → xs = ys
 | _, _, _, .nil, .nil => rfl
 | _, _, _, .cons r t, .cons r' t' => by rw [r.inj r', Vals.inj t t']
section
variable {X : Cx} {pins : List (Addr × Obj)} {σ : St} {H : Hp} {s : Shared} {a : Addr} {xs ys : List V}
theorem SqL.of {K : PySem.W.Frag} (h : H a = some (.lst xs)) : SqL K H a xs := .inl (.inl h)
theorem SqT.of {K : PySem.W.Frag} (h : H a = some (.tup xs)) : SqT K H a xs := .inl (.inl h)
theorem Inv.list (I : Inv X pins σ H s) (h : SqL X.K H a xs) : ∃ its : List Value, Vals xs its ∧ PlainL s.heap a its.toArray ∧ xs.length ≤ sizeLine := by
 rcases h with h | ⟨o, its, n, hk, hc, hd, hs, hz, r⟩
 · obtain ⟨z, its, n, r, e⟩ := h.ok I.hok
   exact ⟨its, r, ⟨_, n, e, rfl, rfl, rfl⟩, z⟩
 · refine ⟨its.toList, r, ⟨o, n, I.kIn a o hk, hc, hd, by simpa using hs⟩, ?_⟩
   have e := r.length
   simp only [Array.length_toList] at e
   omega
theorem Inv.tuple (I : Inv X pins σ H s) (h : SqT X.K H a xs) : ∃ its : List Value, Vals xs its ∧ IsTup s.heap a its.toArray ∧ xs.length ≤ sizeLine := by
 rcases h with h | ⟨o, its, n, hk, hc, hs, hz, r⟩
 · obtain ⟨z, its, r, p⟩ := h.ok I.hok
   exact ⟨its, r, p, z⟩
 · refine ⟨its.toList, r, ⟨o, I.kIn a o hk, hc, n, by simpa using hs⟩, ?_⟩
   have e := r.length
   simp only [Array.length_toList] at e
   omega
theorem Inv.list_inj (I : Inv X pins σ H s) (h : SqL X.K H a xs) (h' : SqL X.K H a ys) : xs = ys := by
 obtain ⟨its, r, ⟨o, n, e, _, _, d⟩, _⟩ := I.list h
 obtain ⟨its', r', ⟨o', n', e', _, _, d'⟩, _⟩ := I.list h'
 rw [e] at e'; cases e'
 rw [d] at d'
 injection d' with d1 _
 have : its = its' := by simpa using congrArg Array.toList d1
 subst this
 exact r.inj r'
theorem Inv.tuple_inj (I : Inv X pins σ H s) (h : SqT X.K H a xs) (h' : SqT X.K H a ys) : xs = ys := by
 obtain ⟨its, r, ⟨o, e, _, n, d⟩, _⟩ := I.tuple h
 obtain ⟨its', r', ⟨o', e', _, n', d'⟩, _⟩ := I.tuple h'
 rw [e] at e'; cases e'
 rw [d] at d'
 injection d' with d1 _
 have : its = its' := by simpa using congrArg Array.toList d1
 subst this
 exact r.inj r'
end
abbrev Cx.wish (X : Cx) (E : Value → Shared → Prop) : Cx := { X with xe := E }
abbrev Cx.nox (X : Cx) : Cx := X.wish fun _ _ => False
theorem Cx.Ok.wish {X : Cx} (ok : X.Ok) (E : Value → Shared → Prop) : (X.wish E).Ok :=
 ⟨ok.mod, ok.kind, ok.glob, ok.blt, ok.above, ok.inj, ok.has, ok.cab, ok.hd, ok.frames, ok.stk, ok.exf, ok.bs, ok.bsz, ok.noex, ok.exfs, ok.funs, ok.frf⟩
theorem Cx.Ok.unwish {X : Cx} {E : Value → Shared → Prop} (ok : (X.wish E).Ok) : X.Ok :=
 ⟨ok.mod, ok.kind, ok.glob, ok.blt, ok.above, ok.inj, ok.has, ok.cab, ok.hd, ok.frames, ok.stk, ok.exf, ok.bs, ok.bsz, ok.noex, ok.exfs, ok.funs, ok.frf⟩
section
variable {X : Cx} {pins : List (Addr × Obj)} {σ : St} {H : Hp} {s : Shared} {E : Value → Shared → Prop}
theorem Inv.wish (I : Inv X pins σ H s) (E : Value → Shared → Prop) : Inv (X.wish E) pins σ H s := ⟨I.ok.wish E, I.os, I.bare, I.base, I.loc, I.cell, I.free, I.freeC, I.pin, I.hok, I.len⟩
theorem Inv.unwish (I : Inv (X.wish E) pins σ H s) : Inv X pins σ H s := ⟨I.ok.unwish, I.os, I.bare, I.base, I.loc, I.cell, I.free, I.freeC, I.pin, I.hok, I.len⟩
theorem SP.unwish {D : Ends} {f : Flow} {s' : Shared} (h : SP (X.wish E) pins D f s') : SP X pins D f s' := by
 cases f with
 | next => obtain ⟨σ', H', I, q⟩ := h; exact ⟨σ', H', I.unwish, q⟩
 | brk => obtain ⟨σ', H', I, q⟩ := h; exact ⟨σ', H', I.unwish, q⟩
 | cont => obtain ⟨σ', H', I, q⟩ := h; exact ⟨σ', H', I.unwish, q⟩
 | ret u => obtain ⟨v, σ', H', I, r, q⟩ := h; exact ⟨v, σ', H', I.unwish, r, q⟩
theorem PSs.nox {st : List Stmt} {t : TS} (h : PSs X.nox st t) : PSs X st t := fun pins s σ H D I hw =>
 wpAny_mono (h pins s σ H D (I.wish _) hw) (fun _ _ q => q.unwish) fun _ _ z => False.elim z
end
section
variable {X : Cx} {st : Stmt} {rest : List Stmt} {t u : TS} {e : Expr} {te : TE} {pos : Pos}
def tNext : TS := fun D σ H => D.nx σ H
def tSeq (t u : TS) : TS := fun D σ H => t { D with nx := u D } σ H
theorem zkt : PSs X [] tNext := fun _ _ σ H _ I h => wpAny_execs_nil ⟨σ, H, I, h⟩
theorem ziW (h1 : PS X st t) (h2 : PSs X rest u) : PSs X (st :: rest) (tSeq t u) := by
 intro pins s σ H D I h
 refine wpAny_execs_cons (thn (h1 pins s σ H { D with nx := u D } I h) fun f s1 q => ?_)
 cases f with
 | next =>
   obtain ⟨σ', H', I', q⟩ := q
   exact h2 pins s1 σ' H' D I' q
 | ret v => exact q
 | brk => exact q
 | cont => exact q
def tBreak : TS := fun D σ H => D.bk σ H
def tCont : TS := fun D σ H => D.ct σ H
theorem zkv : PS X (.Pass pos) tNext := fun _ _ σ H _ I h => wpAny_Pass ⟨σ, H, I, h⟩
theorem ziZ : PS X (.Break pos) tBreak := fun _ _ σ H _ I h => wpAny_Break ⟨σ, H, I, h⟩
theorem zf3 : PS X (.Continue pos) tCont := fun _ _ σ H _ I h => wpAny_Continue ⟨σ, H, I, h⟩
theorem Inv.quiet {pins : List (Addr × Obj)} {σ : St} {H : Hp} {s : Shared} (I : Inv X pins σ H s) : interactive X.env = false := by simp [interactive, I.ok.kind]
theorem zms {x j pos pos'} : PS X (.Expr (.Constant (.str x) j pos) pos') tNext := fun _ s σ H _ I h => wpAny_Expr (Calls.Constant_str (show SP X _ _ .next { s with toks := s.toks + 1 } from ⟨σ, H, I.tok _, h⟩)) I.quiet
def tDrop (te : TE) : TS := fun D σ H => te σ H fun _ H1 => D.nx σ H1
theorem zkx (he : PE X e te) (hs : swapsWith e none pos.line X.env = pure false := by rfl) : PS X (.Expr e pos) (tDrop te) := by
 intro pins s σ H D I h
 exact wpAny_Expr_any (thn (he pins s σ H _ I h) fun v s1 ⟨x, H1, I1, r1, q1⟩ => ⟨σ, H1, I1, q1⟩) I.quiet hs
def tRet (te : TE) : TS := fun D σ H => te σ H D.rt
theorem zmq (he : PE X e te) : PS X (.Return (some e) pos) (tRet te) := by
 intro pins s σ H D I h
 exact wpAny_Return_some (thn (he pins s σ H _ I h) fun v s1 ⟨x, H1, I1, r1, q1⟩ => ⟨x, σ, H1, I1, r1, q1⟩)
def tRetN : TS := fun D _ H => D.rt .non H
theorem zku : PS X (.Return none pos) tRetN := fun _ _ σ H _ I h => wpAny_Return_none ⟨.non, σ, H, I, rfl, h⟩
def tIfS (c : TT) (t u : TS) : TS := fun D σ H => c σ H fun b H1 => if b = true then t D σ H1 else u D σ H1
theorem znL {c : Expr} {a b : List Stmt} {tc : TT} (hc : PT X c tc) (ha : PSs X a t) (hb : PSs X b u) : PS X (.If c a b pos) (tIfS tc t u) := by
 intro pins s σ H D I h
 refine wpAny_If (thn (hc pins s σ H _ I h) fun d s1 ⟨H1, I1, q1⟩ => ?_)
 cases d with
 | true => exact ha pins s1 σ H1 D I1 q1
 | false => exact hb pins s1 σ H1 D I1 q1
end
abbrev TG := V → St → Hp → (St → Hp → Prop) → Prop
abbrev TGs := List V → St → Hp → (St → Hp → Prop) → Prop
def PG (X : Cx) (target : Expr) (t : TG) : Prop :=
 ∀ (pins : List (Addr × Obj)) (s : Shared) (σ : St) (H : Hp) (v : V) (u : Value) (Q : St → Hp → Prop), Inv X pins σ H s → RelV v u → t v σ H Q →
   wpAny (model X.prog X.w) X.A (assign target X.env u) (fun _ s' => ∃ σ' H', Inv X pins σ' H' s' ∧ Q σ' H') X.xe s
def PGs (X : Cx) (ts : List Expr) (t : TGs) : Prop :=
 ∀ (pins : List (Addr × Obj)) (s : Shared) (σ : St) (H : Hp) (vs : List V) (us : List Value) (Q : St → Hp → Prop), Inv X pins σ H s → Vals vs us → t vs σ H Q →
   wpAny (model X.prog X.w) X.A (assignInOrder ((assignEach ts X.env).map (·.2)) us) (fun _ s' => ∃ σ' H', Inv X pins σ' H' s' ∧ Q σ' H') X.xe s
abbrev TSet := V → V → V → Hp → (Hp → Prop) → Prop
def PSet (X : Cx) (t : TSet) : Prop :=
 ∀ (pins : List (Addr × Obj)) (s : Shared) (σ : St) (H : Hp) (o i v : V) (ov iv u : Value) (Q : Hp → Prop), Inv X pins σ H s → RelV o ov → RelV i iv → RelV v u → t o i v H Q →
   wpAny (model X.prog X.w) X.A (setItem ov iv u) (fun _ s' => ∃ H', Inv X pins σ H' s' ∧ Q H') X.xe s
section
variable {X : Cx} {pos : Pos}
def gName (i : Nat) : TG := fun v σ H Q => Q (σ.set i (some v)) H
theorem zkD {i : Nat} {x : Str} (hN : X.N.Nodup) (hi : X.N[i]? = some x) (hx : Loc X.env.scope x) (hf : X.fn x = true ∨ X.env.scope.names.lookup x = some .local := by first | exact .inl rfl | exact .inr rfl | assumption) : PG X (.Name x pos) (gName i) := by
 intro pins s σ H v u Q I r h
 exact wpAny_assign_Name (zcD I hN hi hx r (fun s' I' => ⟨_, H, I', h⟩) hf)
def gNil : TGs := fun vs σ H Q => vs = [] ∧ Q σ H
def gCons (t : TG) (u : TGs) : TGs := fun vs σ H Q => ∃ v r, vs = v :: r ∧ t v σ H fun σ' H' => u r σ' H' Q
theorem zkB : PGs X [] gNil := by
 intro pins s σ H vs us Q I r h
 obtain ⟨e, h⟩ := h
 subst e
 cases r
 exact assignInOrder_nil ⟨σ, H, I, h⟩
theorem zi3 {e : Expr} {es : List Expr} {t : TG} {u : TGs} (h1 : PG X e t) (h2 : PGs X es u)
   (hs : (assignEach (e :: es) X.env).map (·.2) = assign e X.env :: (assignEach es X.env).map (·.2) := by rfl) : PGs X (e :: es) (gCons t u) := by
 intro pins s σ H vs us Q I r h
 obtain ⟨v, vr, e1, h⟩ := h
 subst e1
 cases r with
 | cons r rr =>
   rw [hs]
   refine assignInOrder_cons (thn (h1 pins s σ H _ _ _ I r h) fun _ s1 ⟨σ1, H1, I1, q1⟩ => ?_)
   exact h2 pins s1 σ1 H1 _ _ Q I1 rr q1
def gTup (K : PySem.W.Frag) (n : Nat) (t : TGs) : TG := fun v σ H Q => ∃ a xs, v = .ref a ∧ SqT K H a xs ∧ xs.length = n ∧ t xs σ H Q
theorem zmw {es : List Expr} {k : Nat} {t : TGs} {n : Nat} (hc : X.calm = true) (h : PGs X es t)
   (hn : (assignEach es X.env).length = n := by rfl) (hst : (assignEach es X.env).findIdx? (·.1) = none := by rfl) : PG X (.Tuple es k pos) (gTup X.K n t) := by
 intro pins s σ H v u Q I r hw
 obtain ⟨a, xs, e1, hq, hl, hw⟩ := hw
 subst e1
 cases r
 obtain ⟨its, rv, ht, hz⟩ := I.tuple hq
 refine assign_Tuple_tuple (I.ok.hd hc) ht (by simp [hn, ← hl, rv.length]) hst fun h' hx => ?_
 have I1 : Inv X pins σ H { s with heap := h' } := I.kept (t' := s.toks) fun b o e => hx b o (Nat.ne_of_lt (Heap.lt_size e)) e
 exact h pins _ σ H xs _ Q I1 (by simpa using rv) hw
def gSub (to ti : TE) (t : TSet) : TG := fun v σ H Q => to σ H fun o H1 => ti σ H1 fun i H2 => t o i v H2 fun H3 => Q σ H3
theorem zmx {o i : Expr} {to ti : TE} {t : TSet} (ho : PE X o to) (hi : PE X i ti) (hs : PSet X t)
   (ha : ∀ v, assign (.Subscript o i pos) X.env v = (do
     let ov ← holding [v] (eval o X.env)
     let iv ← holding [v, ov] (eval i X.env)
     standAt pos
     holding [v, ov, iv] (setItem ov iv v)
     release [v, ov, iv] []) := by intro _; rfl) : PG X (.Subscript o i pos) (gSub to ti t) := by
 intro pins s σ H v u Q I r h
 rw [ha]
 refine wpAny_bind (wpAny_holding (thn (ho pins s σ H _ I h) fun ov s1 ⟨x, H1, I1, r1, q1⟩ => ?_))
 refine wpAny_bind (wpAny_holding (thn (hi pins s1 σ H1 _ I1 q1) fun iv s2 ⟨y, H2, I2, r2, q2⟩ => ?_))
 refine wpAny_bind (wpAny_standAt (wpAny_bind (wpAny_holding (thn (hs pins s2 σ H2 x y v ov iv u _ I2 r1 r2 r q2) fun _ s3 ⟨H3, I3, q3⟩ => ?_))))
 exact wpAny_release ⟨σ, H3, I3, q3⟩
def tAsg (te : TE) (g : TG) : TS := fun D σ H => te σ H fun x H1 => g x σ H1 D.nx
theorem zmt {tg e : Expr} {te : TE} {g : TG} (he : PE X e te) (hg : PG X tg g) (hs : swapsWithSole [tg] e pos.line X.env = pure false := by rfl) (hw : swappedStores [tg] e X.env = pure none := by rfl)
   (h1 : (assignEach [tg] X.env).map (·.2) = [assign tg X.env] := by rfl) : PS X (.Assign [tg] e pos) (tAsg te g) := by
 intro pins s σ H D I h
 refine wpAny_Assign_stores (thn (he pins s σ H _ I h) fun v s1 ⟨x, H1, I1, r1, q1⟩ => ?_) hs hw
 rw [h1]
 exact thn (hg pins s1 σ H1 x v _ I1 r1 q1) fun _ s2 q => q
theorem zmp {i : Nat} {x : Str} {e : Expr} {te : TE} {pos' : Pos} (hN : X.N.Nodup) (hi : X.N[i]? = some x) (hx : Loc X.env.scope x) (he : PE X e te) (hs : swapsWith e (some (.Name x pos')) pos.line X.env = pure false := by rfl) (hf : X.fn x = true ∨ X.env.scope.names.lookup x = some .local := by first | exact .inl rfl | exact .inr rfl | assumption) :
   PS X (.Assign [.Name x pos'] e pos) (tAsg te (gName i)) := by
 intro pins s σ H D I h
 refine wpAny_Assign_Name (thn (he pins s σ H _ I h) fun v s1 ⟨y, H1, I1, r1, q1⟩ => ?_) hs
 exact zcD I1 hN hi hx r1 (fun s2 I2 => ⟨_, H1, I2, q1⟩) hf
end
section
variable {X : Cx} {pos : Pos}
def tWhile (c : TT) (tb : TS) : TS := fun D σ H => ∃ W : Nat → St → Hp → Prop, (∃ m, W m σ H) ∧ ∀ m σ H, W m σ H →
 c σ H fun b H1 => if b = true then ∃ N : St → Hp → Prop, (∀ σ' H', N σ' H' → ∃ m', m' < m ∧ W m' σ' H') ∧ tb { D with nx := N, ct := N, bk := D.nx } σ H1 else D.nx σ H1
theorem ziX {c : Expr} {body : List Stmt} {tc : TT} {tb : TS} (hp : PassesOwn (model X.prog X.w) X.A X.env X.xe) (hc : PT X c tc) (hb : PSs X body tb) : PS X (.While c body [] pos) (tWhile tc tb) := by
 intro pins s σ H D I h
 obtain ⟨W, ⟨m0, w0⟩, turn⟩ := h
 refine wpAny_While (codeAny_whileLoop (fun n s' => ∃ σ' H', Inv X pins σ' H' s' ∧ W n σ' H') ?_ m0 ⟨σ, H, I, w0⟩)
 rintro n s1 ⟨σ1, H1, I1, w1⟩
 refine wpAny_passesOwn hp (thn (hc pins s1 σ1 H1 _ I1 (turn n σ1 H1 w1)) fun b s2 ⟨H2, I2, q2⟩ => ?_)
 cases b with
 | true =>
   obtain ⟨N, hN, q2⟩ := q2
   rw [if_pos rfl]
   refine wpAny_passesOwn hp (thn (hb pins s2 σ1 H2 _ I2 q2) fun f s3 q3 => ?_)
   cases f with
   | next =>
     obtain ⟨σ3, H3, I3, n3⟩ := q3
     obtain ⟨m', hm, w3⟩ := hN σ3 H3 n3
     exact ⟨m', hm, σ3, H3, I3, w3⟩
   | cont =>
     obtain ⟨σ3, H3, I3, n3⟩ := q3
     obtain ⟨m', hm, w3⟩ := hN σ3 H3 n3
     exact ⟨m', hm, σ3, H3, I3, w3⟩
   | brk => exact q3
   | ret v => exact q3
 | false =>
   rw [if_neg Bool.false_ne_true]
   exact wpAny_execs_nil ⟨σ1, H2, I2, q2⟩
end
structure It where
 go : Nat → Hp → Prop
 yld : Nat → Hp → V → Hp → Prop
 stop : Nat → Hp → Prop
def FpOk (X : Cx) (pins : List (Addr × Obj)) (H : Hp) (b : Addr) : Prop :=
 H b = none ∧ b ≠ X.env.locals ∧ b ∉ X.fs ∧ (b ∈ X.ex ∨ X.s₀.heap.objs.size ≤ b) ∧ (∀ x c, X.env.cells.lookup x = some c → c ≠ b) ∧ ∀ p ∈ X.pn ++ pins, p.1 ≠ b
theorem Inv.fpOk {X : Cx} {pins : List (Addr × Obj)} {σ : St} {H H' : Hp} {s : Shared} {b : Addr} (I : Inv X pins σ H s) (hb : s.heap.objs.size ≤ b) (hn : H' b = none) : FpOk X pins H' b := by
 refine ⟨hn, Nat.ne_of_gt (Nat.lt_of_lt_of_le I.lt hb), I.nofs hb, .inr (Nat.le_trans I.sz hb), fun x c e z => ?_, fun p hp z => ?_⟩
 · obtain ⟨v, q⟩ := I.cell x c e
   exact absurd (Nat.lt_of_lt_of_le q.lt (by rw [z]; exact hb)) (Nat.lt_irrefl _)
 · exact absurd (Nat.lt_of_lt_of_le (Heap.lt_size (I.pin p hp).1) (by rw [z]; exact hb)) (Nat.lt_irrefl _)
structure Turn (P : Program) (w : World) (K : PySem.W.Frag) (tg : Expr) (J : It) (fp : List Addr) (it : Addr) (tn : Nat → Heap → Prop) : Prop where
 mem : it ∈ fp
 obj : ∀ i h, tn i h → ∀ b ∈ fp, ∃ o, h.get? b = some o ∧ ∀ v, o.data ≠ .cell v
 keep : ∀ i h h', tn i h → (∀ b ∈ fp, ∀ o, h.get? b = some o → h'.get? b = some o) → tn i h'
 item : ∀ (X : Cx), X.prog = P → X.w = w → X.K = K → X.calm = true → ∀ (i : Nat) (pins : List (Addr × Obj)) (s : Shared) (σ : St) (H : Hp) (E : Value → Shared → Prop), Inv X pins σ H s → (∀ b ∈ fp, FpOk X pins H b) → tn i s.heap → J.go i H →
   wpAny (model P w) X.A (pyNext (.ref it)) (fun r s1 => ∃ u, r = some u ∧
     wpAny (model P w) X.A (letOwnedTupleGo tg (.ref it) u) (fun _ s2 => ∃ x H', Inv X pins σ H' s2 ∧ RelV x u ∧ J.yld i H x H' ∧ tn (i + 1) s2.heap ∧ ∀ b ∈ fp, H' b = none) E s1) E s
 done : ∀ (X : Cx), X.prog = P → X.w = w → X.K = K → X.calm = true → ∀ (i : Nat) (pins : List (Addr × Obj)) (s : Shared) (σ : St) (H : Hp) (E : Value → Shared → Prop), Inv X pins σ H s → (∀ b ∈ fp, FpOk X pins H b) → tn i s.heap → J.stop i H →
   wpAny (model P w) X.A (pyNext (.ref it)) (fun r s1 => r = none ∧ Inv X pins σ H s1) E s
 self : ∀ (A : Around) (i : Nat) (s : Shared) (Q : Value → Shared → Prop) (E : Value → Shared → Prop), tn i s.heap → Q (.ref it) s → wpAny (model P w) A (pyIter (.ref it)) Q E s
abbrev TI := St → Hp → (It → Hp → Prop) → Prop
def PIE (X : Cx) (pins : List (Addr × Obj)) (σ : St) (tg : Expr) (R : It → Hp → Prop) (itv : Value) (s2 : Shared) : Prop :=
 ∃ (it : Addr) (fp : List Addr) (tn : Nat → Heap → Prop) (J : It) (H' : Hp), itv = .ref it ∧ Inv X pins σ H' s2 ∧ Turn X.prog X.w X.K tg J fp it tn ∧ tn 0 s2.heap ∧ (∀ b ∈ fp, FpOk X pins H' b) ∧ R J H'
def PI (X : Cx) (tg iter : Expr) (wi : TI) : Prop :=
 ∀ (pins : List (Addr × Obj)) (s : Shared) (σ : St) (H : Hp) (R : It → Hp → Prop), Inv X pins σ H s → wi σ H R →
   wpAny (model X.prog X.w) X.A (eval iter X.env) (fun v s1 => wpAny (model X.prog X.w) X.A (pyIter v) (PIE X pins σ tg R) X.xe s1) X.xe s
theorem zld {M : Model} {A : Around} {E : Value → Shared → Prop} {s : Shared} {tg : Expr} {it : Addr} {u : Value} {o : Obj} {n : String} {vs : Array Value} {Q : Unit → Shared → Prop} (ho : s.heap.get? it = some o) (hc : o.cls = .type n) (hd : o.data = .fields vs)
   (hn : ["enumerate", "zip", "dict_itemiterator", "dict_reverseitemiterator", "odict_iterator", "itertools.zip_longest", "itertools.pairwise"].contains n = false) (hQ : Q () s) : wpAny M A (letOwnedTupleGo tg (.ref it) u) Q E s := by
 unfold letOwnedTupleGo
 cases tg <;> first
   | exact wpAny_pure hQ
   | (cases u <;> first
       | exact wpAny_pure hQ
       | (refine wpAny_bind (wpAny_load ho ?_)
          rw [hc, hd]
          show wpAny M A (if (["enumerate", "zip", "dict_itemiterator", "dict_reverseitemiterator", "odict_iterator", "itertools.zip_longest", "itertools.pairwise"].contains n && vs[0]? == some (rawInt _)) = true then _ else _) Q E s
          rw [if_neg (by intro h; rw [hn, Bool.false_and] at h; cases h)]
          exact wpAny_pure hQ))
def Itl (K : PySem.W.Frag) (a : Addr) : It :=
 ⟨fun i H => ∃ xs x, SqL K H a xs ∧ xs[i]? = some x, fun i H x H' => H' = H ∧ ∀ xs, SqL K H a xs → xs[i]? = some x, fun i H => ∃ xs, SqL K H a xs ∧ xs.length ≤ i⟩
def Itt (K : PySem.W.Frag) (a : Addr) : It :=
 ⟨fun i H => ∃ xs x, SqT K H a xs ∧ xs[i]? = some x, fun i H x H' => H' = H ∧ ∀ xs, SqT K H a xs → xs[i]? = some x, fun i H => ∃ xs, SqT K H a xs ∧ xs.length ≤ i⟩
def Itr (lo : Int) (n : Nat) : It := ⟨fun i _ => i < n, fun i H x H' => H' = H ∧ x = .int (lo + i), fun i _ => n ≤ i⟩
theorem zhi {P : Program} {w : World} {K : PySem.W.Frag} {tg : Expr} (a it : Addr) : Turn P w K tg (Itl K a) [it] it (fun i h => h.IsListIter it a i) where
 mem := by simp
 obj := fun i h st b hb => by
   have e : b = it := by simpa using hb
   subst e
   obtain ⟨o, e, c, d⟩ := st
   exact ⟨o, e, fun v z => by rw [d] at z; cases z⟩
 keep := fun i h h' st k => st.at fun o e => k it (by simp) o e
 item := by
   intro X hP hw hK hc i pins s σ H E I hf st hg
   subst hP hw hK
   obtain ⟨xs, x, hq, hx⟩ := hg
   obtain ⟨its, rv, p, hz⟩ := I.list hq
   obtain ⟨u, hu, ru⟩ := rv.get hx
   obtain ⟨f0, f1, f2, f3, f4, f5⟩ := hf it (by simp)
   refine wpAny_pyNext_list_item st p.isList (x := u) (by simpa using hu) fun h' st' sb => ?_
   have I1 : Inv X pins σ H { s with heap := h' } := I.turned (t' := s.toks) (fun b o hb e => (sb.2 b hb).trans e) f0 f1 f3 f4 f5
   obtain ⟨o, e, c, d⟩ := id st'
   exact ⟨u, rfl, zld (s := { s with heap := h' }) e c d (by decide) ⟨x, H, I1, ru, ⟨rfl, fun ys hy => by rw [I.list_inj hy hq]; exact hx⟩, st', fun b hb => (hf b hb).1⟩⟩
 done := by
   intro X hP hw hK hc i pins s σ H E I hf st hg
   subst hP hw hK
   obtain ⟨xs, hq, hx⟩ := hg
   obtain ⟨its, rv, p, hz⟩ := I.list hq
   obtain ⟨f0, f1, f2, f3, f4, f5⟩ := hf it (by simp)
   have hl := rv.length
   exact wpAny_pyNext_list_end (I.ok.hd hc) st p.isList (by simp; omega) fun h' eb => ⟨rfl, I.turned (t' := s.toks) (fun b o hb e => eb b o hb e) f0 f1 f3 f4 f5⟩
 self := fun _ _ _ _ _ st h => wpAny_pyIter_listiter st h
theorem zgM {P : Program} {w : World} {K : PySem.W.Frag} {tg : Expr} (a it : Addr) : Turn P w K tg (Itt K a) [it] it (fun i h => h.IsTupleIter it a i) where
 mem := by simp
 obj := fun i h st b hb => by
   have e : b = it := by simpa using hb
   subst e
   obtain ⟨o, e, c, d⟩ := st
   exact ⟨o, e, fun v z => by rw [d] at z; cases z⟩
 keep := fun i h h' st k => st.at fun o e => k it (by simp) o e
 item := by
   intro X hP hw hK hc i pins s σ H E I hf st hg
   subst hP hw hK
   obtain ⟨xs, x, hq, hx⟩ := hg
   obtain ⟨its, rv, p, hz⟩ := I.tuple hq
   obtain ⟨u, hu, ru⟩ := rv.get hx
   obtain ⟨f0, f1, f2, f3, f4, f5⟩ := hf it (by simp)
   refine wpAny_pyNext_tuple_item st (show s.heap.IsTuple a its.toArray from p) (x := u) (by simpa using hu) fun h' st' sb => ?_
   have I1 : Inv X pins σ H { s with heap := h' } := I.turned (t' := s.toks) (fun b o hb e => (sb.2 b hb).trans e) f0 f1 f3 f4 f5
   obtain ⟨o, e, c, d⟩ := id st'
   exact ⟨u, rfl, zld (s := { s with heap := h' }) e c d (by decide) ⟨x, H, I1, ru, ⟨rfl, fun ys hy => by rw [I.tuple_inj hy hq]; exact hx⟩, st', fun b hb => (hf b hb).1⟩⟩
 done := by
   intro X hP hw hK hc i pins s σ H E I hf st hg
   subst hP hw hK
   obtain ⟨xs, hq, hx⟩ := hg
   obtain ⟨its, rv, p, hz⟩ := I.tuple hq
   obtain ⟨f0, f1, f2, f3, f4, f5⟩ := hf it (by simp)
   have hl := rv.length
   exact wpAny_pyNext_tuple_end (I.ok.hd hc) st (show s.heap.IsTuple a its.toArray from p) (by simp; omega) fun h' eb => ⟨rfl, I.turned (t' := s.toks) (fun b o hb e => eb b o hb e) f0 f1 f3 f4 f5⟩
 self := fun _ _ _ _ _ st h => wpAny_pyIter_tupleiter st h
theorem zgN {P : Program} {w : World} {K : PySem.W.Frag} {tg : Expr} (it : Addr) (lo : Int) (n : Nat) : Turn P w K tg (Itr lo n) [it] it (fun i h => IsRangeIter h it (lo + (i : Nat) * 1) ((n : Int) - (i : Nat)) 1) where
 mem := by simp
 obj := fun i h st b hb => by
   have e : b = it := by simpa using hb
   subst e
   exact ⟨_, st, fun v z => by
     have z' : Data.fields _ = Data.cell v := z
     cases z'⟩
 keep := fun i h h' st k => k it (by simp) _ st
 item := by
   intro X hP hw hK hc i pins s σ H E I hf st hg
   subst hP hw hK
   obtain ⟨f0, f1, f2, f3, f4, f5⟩ := hf it (by simp)
   have W := Walks.range (prog := X.prog) (w := X.w) (I.ok.hd hc) it lo 1 n
   refine W.item i s _ _ hg st fun v h' tk hv st' kk => ?_
   obtain ⟨t, rfl⟩ := hv
   have I1 : Inv X pins σ H { s with heap := h', toks := tk } := I.turned (fun b o hb e => kk b o (by simpa using hb) e) f0 f1 f3 f4 f5
   refine ⟨_, rfl, zld (s := { s with heap := h', toks := tk }) (n := "range_iterator") st' rfl rfl (by decide) ⟨.int (lo + i), H, I1, ⟨t, ?_⟩, ⟨rfl, rfl⟩, st', fun b hb => (hf b hb).1⟩⟩
   rw [Int.mul_one]
 done := by
   intro X hP hw hK hc i pins s σ H E I hf st hg
   subst hP hw hK
   obtain ⟨f0, f1, f2, f3, f4, f5⟩ := hf it (by simp)
   exact wpAny_pyNext_range_end (I.ok.hd hc) st (by have : n ≤ i := hg; omega) fun h' eb => ⟨rfl, I.turned (t' := s.toks) (fun b o hb e => eb b o hb e) f0 f1 f3 f4 f5⟩
 self := fun _ _ _ _ _ st h => wpAny_pyIter_rangeiter st h
end L2
namespace L2
open PySem PySem.Spec PyProof.Rows
section
variable {X : Cx} {tg : Expr}
def iList (K : PySem.W.Frag) (tl : TE) : TI := fun σ H R => tl σ H fun x H1 => ∃ a, x = .ref a ∧ (∃ xs, SqL K H1 a xs) ∧ R (Itl K a) H1
def iTup (K : PySem.W.Frag) (tl : TE) : TI := fun σ H R => tl σ H fun x H1 => ∃ a, x = .ref a ∧ (∃ xs, SqT K H1 a xs) ∧ R (Itt K a) H1
theorem zkA {l : Expr} {tl : TE} (hl : PE X l tl) : PI X tg l (iList X.K tl) := by
 intro pins s σ H R I h
 refine thn (hl pins s σ H _ I h) fun v s1 ⟨x, H1, I1, r1, q1⟩ => ?_
 obtain ⟨a, e, ⟨xs, hq⟩, q⟩ := q1
 subst e
 cases r1
 obtain ⟨its, rv, p, hz⟩ := I1.list hq
 refine wpAny_pyIter_list p.isList ?_
 refine ⟨s1.heap.objs.size, [s1.heap.objs.size], _, _, H1, rfl, I1.kept (t' := s1.toks) fun b o e => Heap.get?_push_of_some _ e, zhi a _, ⟨_, Heap.get?_push_size _ rfl, rfl, rfl⟩, fun b hb => ?_, q⟩
 have e : b = s1.heap.objs.size := by simpa using hb
 subst e
 exact I1.fpOk (Nat.le_refl _) (I1.hok.fresh (Nat.le_refl _))
theorem zmv {l : Expr} {tl : TE} (hl : PE X l tl) : PI X tg l (iTup X.K tl) := by
 intro pins s σ H R I h
 refine thn (hl pins s σ H _ I h) fun v s1 ⟨x, H1, I1, r1, q1⟩ => ?_
 obtain ⟨a, e, ⟨xs, hq⟩, q⟩ := q1
 subst e
 cases r1
 obtain ⟨its, rv, p, hz⟩ := I1.tuple hq
 refine wpAny_pyIter_tuple (show s1.heap.IsTuple a its.toArray from p) ?_
 refine ⟨s1.heap.objs.size, [s1.heap.objs.size], _, _, H1, rfl, I1.kept (t' := s1.toks) fun b o e => Heap.get?_push_of_some _ e, zgM a _, ⟨_, Heap.get?_push_size _ rfl, rfl, rfl⟩, fun b hb => ?_, q⟩
 have e : b = s1.heap.objs.size := by simpa using hb
 subst e
 exact I1.fpOk (Nat.le_refl _) (I1.hok.fresh (Nat.le_refl _))
theorem zgu {pins : List (Addr × Obj)} {σ : St} {H : Hp} {s : Shared} {R : It → Hp → Prop} {E : Value → Shared → Prop} {lo hi : Int} {t u v : Tok} {tk : Nat} (I : Inv X pins σ H s) (h1 : -(2 ^ 62) ≤ lo) (h2 : lo < 2 ^ 62) (h3 : -(2 ^ 62) ≤ hi) (h4 : hi < 2 ^ 62)
   (q : R (Itr lo (hi - lo).toNat) H) : wpAny (model X.prog X.w) X.A (pyIter (.ref s.heap.objs.size)) (PIE X pins σ tg R) E { s with heap := s.heap.push { cls := .type "range", data := .fields #[.int lo t, .int hi u, .int 1 v] }, toks := tk } := by
 refine wpAny_pyIter_range (IsRange.new ..) (small_one h1 h2 h3 h4) ?_
 have I1 : Inv X pins σ H { s with heap := s.heap.push { cls := .type "range", data := .fields #[.int lo t, .int hi u, .int 1 v] }, toks := tk } := I.kept fun b o e => Heap.get?_push_of_some _ e
 refine ⟨(s.heap.push { cls := .type "range", data := .fields #[.int lo t, .int hi u, .int 1 v] }).objs.size, [(s.heap.push { cls := .type "range", data := .fields #[.int lo t, .int hi u, .int 1 v] }).objs.size], _, _, H, rfl,
   I1.kept (t' := tk) fun b o e => Heap.get?_push_of_some _ e, zgN _ lo (hi - lo).toNat, ?_, fun b hb => ?_, q⟩
 · have e1 : lo + ((0 : Nat) : Int) * 1 = lo := by simp
   have e2 : (((hi - lo).toNat : Nat) : Int) - ((0 : Nat) : Int) = Builtin.Range.rangeSize lo hi 1 := by rw [rangeSize_one]; split <;> omega
   show IsRangeIter _ _ (lo + ((0 : Nat) : Int) * 1) ((((hi - lo).toNat : Nat) : Int) - ((0 : Nat) : Int)) 1
   rw [e1, e2]
   exact Heap.get?_push_size _ rfl
 · have e : b = (s.heap.push { cls := .type "range", data := .fields #[.int lo t, .int hi u, .int 1 v] }).objs.size := by simpa using hb
   subst e
   exact I1.fpOk (Nat.le_refl _) (I1.hok.fresh (Nat.le_refl _))
def iRng1 (ta : TA) : TI := fun σ H R => ta σ H fun vs H1 => ∃ j : Int, vs = [.int j] ∧ -(2 ^ 62) ≤ j ∧ j < 2 ^ 62 ∧ R (Itr 0 j.toNat) H1
def iRng2 (ta : TA) : TI := fun σ H R => ta σ H fun vs H1 => ∃ i j : Int, vs = [.int i, .int j] ∧ (-(2 ^ 62) ≤ i ∧ i < 2 ^ 62 ∧ -(2 ^ 62) ≤ j ∧ j < 2 ^ 62) ∧ R (Itr i (j - i).toNat) H1
theorem zhC {a : Expr} {ta : TA} {p pos : Pos} (hg : Gl X "range") (hm : X.mg "range" = none) (ha : PA X [a] ta) (hs : starEach [a] X.env = [(false, eval a X.env)] := by rfl) : PI X tg (.Call (.Name "range" p) [a] [] pos) (iRng1 ta) := by
 intro pins s σ H R I h
 refine Call_ (zfB I hg hm boot_range (PyProof.Rows.callWith_type1 (thn (ha pos pins s σ H _ I h) fun us s1 ⟨vs, H1, I1, r1, q1⟩ => ?_) hs rfl))
 obtain ⟨j, e, q1, q2, q⟩ := q1
 subst e
 cases r1 with
 | cons r rr =>
   cases rr
   obtain ⟨t, rfl⟩ := r
   exact call_range_1 (zgu I1 (by omega) (by omega) q1 q2 (by simpa using q))
theorem zhB {a b : Expr} {ta : TA} {p pos : Pos} (hg : Gl X "range") (hm : X.mg "range" = none) (ha : PA X [a, b] ta) (hs : starEach [a, b] X.env = [(false, eval a X.env), (false, eval b X.env)] := by rfl) (hs2 : starEach [b] X.env = [(false, eval b X.env)] := by rfl) :
   PI X tg (.Call (.Name "range" p) [a, b] [] pos) (iRng2 ta) := by
 intro pins s σ H R I h
 refine Call_ (zfB I hg hm boot_range (PyProof.Rows.callWith_type1 (thn (ha pos pins s σ H _ I h) fun us s1 ⟨vs, H1, I1, r1, q1⟩ => ?_) (by rw [hs, hs2]) (by rw [hs2]; rfl)))
 obtain ⟨i, j, e, ⟨q1, q2, q3, q4⟩, q⟩ := q1
 subst e
 cases r1 with
 | cons r rr =>
   cases rr with
   | cons r' rr =>
     cases rr
     obtain ⟨t, rfl⟩ := r
     obtain ⟨t', rfl⟩ := r'
     exact call_range_2 (zgu I1 q1 q2 q3 q4 q)
def tFor (wi : TI) (g : TG) (tb : TS) : TS := fun D σ H => wi σ H fun J H1 => ∃ W : Nat → Nat → St → Hp → Prop, (∃ m, W 0 m σ H1) ∧ ∀ i m σ H, W i m σ H →
 (J.stop i H ∧ D.nx σ H) ∨ (J.go i H ∧ ∃ N : St → Hp → Prop, (∀ σ' H', N σ' H' → ∃ m', m' < m ∧ W (i + 1) m' σ' H') ∧ ∀ x H', J.yld i H x H' → g x σ H' fun σ2 H2 => tb { D with nx := N, ct := N, bk := D.nx } σ2 H2)
def pinsAt (fp : List Addr) (h : Heap) : List (Addr × Obj) := fp.filterMap fun b => (h.get? b).map fun o => (b, o)
theorem zdw {fp : List Addr} {h : Heap} {b : Addr} {o : Obj} (hb : b ∈ fp) (e : h.get? b = some o) : (b, o) ∈ pinsAt fp h := List.mem_filterMap.mpr ⟨b, hb, by rw [e]; rfl⟩
theorem zhH {fp : List Addr} {h : Heap} {p : Addr × Obj} (hp : p ∈ pinsAt fp h) : p.1 ∈ fp ∧ h.get? p.1 = some p.2 := by
 obtain ⟨b, hb, e⟩ := List.mem_filterMap.mp hp
 cases q : h.get? b with
 | none => rw [q] at e; cases e
 | some o =>
   rw [q] at e
   have e' : (b, o) = p := Option.some.inj e
   subst e'
   exact ⟨hb, q⟩
theorem Inv.pinned {pins : List (Addr × Obj)} {σ : St} {H : Hp} {s : Shared} {fp : List Addr} (I : Inv X pins σ H s) (hf : ∀ b ∈ fp, FpOk X pins H b) (ho : ∀ b ∈ fp, ∃ o, s.heap.get? b = some o ∧ ∀ v, o.data ≠ .cell v) : Inv X (pins ++ pinsAt fp s.heap) σ H s :=
 I.pins_of fun p hp => (List.mem_append.mp hp).elim (fun z => I.pin p (List.mem_append_right _ z)) fun z => by
   obtain ⟨hb, e⟩ := zhH z
   obtain ⟨f0, f1, f2, _⟩ := hf p.1 hb
   obtain ⟨o, e', d⟩ := ho p.1 hb
   rw [e] at e'; cases e'
   exact ⟨e, f0, f1, f2, d⟩
theorem Inv.unpinned {pins pl : List (Addr × Obj)} {σ : St} {H : Hp} {s : Shared} (I : Inv X (pins ++ pl) σ H s) : Inv X pins σ H s := I.pins_of fun p hp => I.pin p (List.mem_append_right _ (List.mem_append_left _ hp))
theorem zmr {iter : Expr} {body : List Stmt} {wi : TI} {g : TG} {tb : TS} {pos : Pos} (hp : PassesOwn (model X.prog X.w) X.A X.env X.xe) (hc : X.calm = true) (hi : PI X tg iter wi) (hg : PG X tg g) (hb : PSs X body tb)
   (hs : ∀ x, foldedSetIterable iter X.env x = pure x := by intro _; rfl) : PS X (.For tg iter body [] pos) (tFor wi g tb) := by
 intro pins s σ H D I h
 refine wpAny_For (thn (hi pins s σ H _ I h) fun v s1 h1 => thn h1 fun itv s2 h2 => ?_) hs
 obtain ⟨it, fp, tn, J, H2, e, I2, T, st2, f2, W, ⟨m0, w0⟩, turn⟩ := h2
 subst e
 have stat : ∀ {H' : Hp}, (∀ b ∈ fp, H' b = none) → ∀ b ∈ fp, FpOk X pins H' b := fun hn b hb => ⟨hn b hb, (f2 b hb).2⟩
 refine codeAny_forLoop_any (fun n s' => ∃ i σ' H', Inv X pins σ' H' s' ∧ tn i s'.heap ∧ (∀ b ∈ fp, H' b = none) ∧ W i n σ' H') ?_ m0 ⟨0, σ, H2, I2, st2, fun b hb => (f2 b hb).1, w0⟩
 rintro n s3 ⟨i, σ3, H3, I3, st3, fr3, w3⟩
 rcases turn i n σ3 H3 w3 with ⟨stop, qn⟩ | ⟨go, N, hN, step⟩
 · refine wpAny_passesOwn hp (thn (T.done X rfl rfl rfl hc i pins s3 σ3 H3 X.xe I3 (stat fr3) st3 stop) fun r s4 ⟨hr, I4⟩ => ?_)
   subst hr
   exact wpAny_execs_nil ⟨σ3, H3, I4, qn⟩
 · refine wpAny_passesOwn hp (thn (T.item X rfl rfl rfl hc i pins s3 σ3 H3 X.xe I3 (stat fr3) st3 go) fun r s4 ⟨u, hr, h4⟩ => ?_)
   subst hr
   refine wpAny_passesOwn hp (thn h4 fun _ s5 ⟨x, H5, I5, r5, y5, st5, fr5⟩ => ?_)
   have I5' := I5.pinned (stat fr5) (T.obj _ _ st5)
   refine wpAny_passesOwn hp (thn (hg _ s5 σ3 H5 x u _ I5' r5 (step x H5 y5)) fun _ s6 ⟨σ6, H6, I6, q6⟩ => ?_)
   refine wpAny_passesOwn hp (thn (hb _ s6 σ6 H6 _ I6 q6) fun f s7 q7 => ?_)
   have again : ∀ {σ7 : St} {H7 : Hp}, Inv X (pins ++ pinsAt fp s5.heap) σ7 H7 s7 → N σ7 H7 → ∃ m, m < n ∧ ∃ i σ' H', Inv X pins σ' H' s7 ∧ tn i s7.heap ∧ (∀ b ∈ fp, H' b = none) ∧ W i m σ' H' := fun {σ7 H7} I7 n7 => by
     obtain ⟨m', hm, w7⟩ := hN σ7 H7 n7
     refine ⟨m', hm, i + 1, σ7, H7, I7.unpinned, T.keep _ _ _ st5 fun b hb o e => (I7.pin (b, o) (List.mem_append_right _ (List.mem_append_right _ (zdw hb e)))).1, fun b hb => ?_, w7⟩
     obtain ⟨o, e, d⟩ := T.obj _ _ st5 b hb
     exact (I7.pin (b, o) (List.mem_append_right _ (List.mem_append_right _ (zdw hb e)))).2.1
   cases f with
   | next => obtain ⟨σ7, H7, I7, n7⟩ := q7; exact again I7 n7
   | cont => obtain ⟨σ7, H7, I7, n7⟩ := q7; exact again I7 n7
   | brk => obtain ⟨σ7, H7, I7, q7⟩ := q7; exact ⟨σ7, H7, I7.unpinned, q7⟩
   | ret v => obtain ⟨x7, σ7, H7, I7, r7, q7⟩ := q7; exact ⟨x7, σ7, H7, I7.unpinned, r7, q7⟩
end
end L2
namespace L2
open PySem PySem.Spec PyProof.Rows
abbrev R2 := V → V → Hp → VK → Prop
def OpR (X : Cx) (f : Value → Value → Sem Value) (r : R2) : Prop :=
 ∀ (pins : List (Addr × Obj)) (s : Shared) (σ : St) (H : Hp) (x y : V) (v u : Value) (Q : VK), Inv X pins σ H s → RelV x v → RelV y u → r x y H Q →
   wpAny (model X.prog X.w) X.A (f v u) (EP X pins σ Q) X.xe s
def UnR (X : Cx) (f : Value → Sem Value) (r : V → Hp → VK → Prop) : Prop :=
 ∀ (pins : List (Addr × Obj)) (s : Shared) (σ : St) (H : Hp) (x : V) (v : Value) (Q : VK), Inv X pins σ H s → RelV x v → r x H Q →
   wpAny (model X.prog X.w) X.A (f v) (EP X pins σ Q) X.xe s
def CallR (X : Cx) (f : Value) (r : List V → Hp → VK → Prop) : Prop :=
 ∀ (pins : List (Addr × Obj)) (s : Shared) (σ : St) (H : Hp) (xs : List V) (us : List Value) (Q : VK), Inv X pins σ H s → Vals xs us → r xs H Q →
   wpAny (model X.prog X.w) X.A (call f us) (EP X pins σ Q) X.xe s
def TruR (X : Cx) (r : V → Hp → (Bool → Hp → Prop) → Prop) : Prop :=
 ∀ (pins : List (Addr × Obj)) (s : Shared) (σ : St) (H : Hp) (x : V) (v : Value) (Q : Bool → Hp → Prop), Inv X pins σ H s → RelV x v → r x H Q →
   wpAny (model X.prog X.w) X.A (truthy v) (TP X pins σ Q) X.xe s
def tOp (r : R2) (ta tb : TE) : TE := fun σ H Q => ta σ H fun x H1 => tb σ H1 fun y H2 => r x y H2 Q
def tUn (r : V → Hp → VK → Prop) (ta : TE) : TE := fun σ H Q => ta σ H fun x H1 => r x H1 Q
def rI (C : Int → Int → Prop) (g : Int → Int → V) : R2 := fun x y H Q => ∃ i j, x = .int i ∧ y = .int j ∧ C i j ∧ Q (g i j) H
def rI0 (g : Int → Int → V) : R2 := fun x y H Q => ∃ i j, x = .int i ∧ y = .int j ∧ Q (g i j) H
def rU (g : Int → V) : V → Hp → VK → Prop := fun x H Q => ∃ i, x = .int i ∧ Q (g i) H
section
variable {X : Cx} {a b c : Expr} {ta tb tc : TE} {pos : Pos}
theorem binT (ha : PE X a ta) (hb : PE X b tb) {pins : List (Addr × Obj)} {s : Shared} {σ : St} {H : Hp} {R : V → V → Hp → Prop} (I : Inv X pins σ H s)
   (h : ta σ H fun x H1 => tb σ H1 fun y H2 => R x y H2) {Q : Value → Shared → Prop} {f : Value → Value → Sem Value}
   (hf : ∀ v u s2 x y H2, Inv X pins σ H2 s2 → RelV x v → RelV y u → R x y H2 → wpAny (model X.prog X.w) X.A (f v u) Q X.xe s2) :
   wpAny (model X.prog X.w) X.A (eval a X.env) (fun v s₁ => wpAny (model X.prog X.w) X.A (eval b X.env) (fun u s₂ => wpAny (model X.prog X.w) X.A (f v u) Q X.xe s₂) X.xe s₁) X.xe s := by
 refine thn (ha pins s σ H _ I h) fun v s1 ⟨x, H1, I1, r1, q1⟩ => ?_
 refine thn (hb pins s1 σ H1 _ I1 q1) fun u s2 ⟨y, H2, I2, r2, q2⟩ => ?_
 exact hf v u s2 x y H2 I2 r1 r2 q2
theorem znO {op : Operator} {r : R2} (ho : OpR X (binaryOp op) r) (ha : PE X a ta) (hb : PE X b tb) : PE X (.BinOp a op b pos) (tOp r ta tb) := by
 intro pins s σ H Q I h
 exact wpAny_BinOp (binT ha hb I h fun v u s2 x y H2 I2 rx ry q => ho pins s2 σ H2 x y v u Q I2 rx ry q)
theorem znM {op : UnaryOp} {r : V → Hp → VK → Prop} (ho : UnR X (unaryOp op) r) (ha : PE X a ta) : PE X (.UnaryOp op a pos) (tUn r ta) := by
 intro pins s σ H Q I h
 exact UnaryOp_ (thn (ha pins s σ H _ I h) fun v s1 ⟨x, H1, I1, r1, q1⟩ => ho pins s1 σ H1 x v Q I1 r1 q1)
theorem opI {f : Value → Value → Sem Value} {C : Int → Int → Prop} {g : Int → Int → Int}
   (rule : ∀ (i j : Int) (t u : Tok) (s : Shared) (Q : Value → Shared → Prop) (E : Value → Shared → Prop), C i j → Q (.int (g i j) s.toks) { s with toks := s.toks + 1 } → wpAny (model X.prog X.w) X.A (f (.int i t) (.int j u)) Q E s) :
   OpR X f (rI C fun i j => .int (g i j)) := by
 intro pins s σ H x y v u Q I rx ry h
 obtain ⟨i, j, rfl, rfl, hc, q⟩ := h
 obtain ⟨t, rfl⟩ := rx
 obtain ⟨t', rfl⟩ := ry
 exact rule i j t t' s _ _ hc ⟨.int (g i j), H, I.tok _, ⟨_, rfl⟩, q⟩
theorem opI0 {f : Value → Value → Sem Value} {g : Int → Int → Int}
   (rule : ∀ (i j : Int) (t u : Tok) (s : Shared) (Q : Value → Shared → Prop) (E : Value → Shared → Prop), Q (.int (g i j) s.toks) { s with toks := s.toks + 1 } → wpAny (model X.prog X.w) X.A (f (.int i t) (.int j u)) Q E s) :
   OpR X f (rI0 fun i j => .int (g i j)) := by
 intro pins s σ H x y v u Q I rx ry h
 obtain ⟨i, j, rfl, rfl, q⟩ := h
 obtain ⟨t, rfl⟩ := rx
 obtain ⟨t', rfl⟩ := ry
 exact rule i j t t' s _ _ ⟨.int (g i j), H, I.tok _, ⟨_, rfl⟩, q⟩
theorem opB0 {f : Value → Value → Sem Value} {g : Int → Int → Bool}
   (rule : ∀ (i j : Int) (t u : Tok) (s : Shared) (Q : Value → Shared → Prop) (E : Value → Shared → Prop), Q (.bool (g i j)) s → wpAny (model X.prog X.w) X.A (f (.int i t) (.int j u)) Q E s) :
   OpR X f (rI0 fun i j => .bl (g i j)) := by
 intro pins s σ H x y v u Q I rx ry h
 obtain ⟨i, j, rfl, rfl, q⟩ := h
 obtain ⟨t, rfl⟩ := rx
 obtain ⟨t', rfl⟩ := ry
 exact rule i j t t' s _ _ ⟨.bl (g i j), H, I, rfl, q⟩
def CPow (i j : Int) : Prop := 0 ≤ j ∧ j ≤ 1000000 ∧ i.natAbs < 2 ^ 64
theorem zmO : OpR X (binaryOp .Add) (rI0 fun i j => .int (i + j)) := opI0 fun _ _ _ _ _ _ _ q => add_int q
theorem zmJ : OpR X (binaryOp .Sub) (rI0 fun i j => .int (i - j)) := opI0 fun _ _ _ _ _ _ _ q => sub_int q
theorem zkX : OpR X (binaryOp .Mod) (rI (fun _ j => j ≠ 0) fun i j => .int (i.fmod j)) := opI fun _ _ _ _ _ _ _ hc q => mod_int' hc q
theorem zmL : OpR X (binaryOp .Pow) (rI CPow fun i j => .int (i ^ j.toNat)) := opI fun _ _ _ _ _ _ _ hc q => pow_int_small hc.1 hc.2.1 hc.2.2 q
theorem zmK : OpR X (binaryOp .LShift) (rI CPow fun i j => .int (i * 2 ^ j.toNat)) := opI fun _ _ _ _ _ _ _ hc q => lshift_int_small hc.1 hc.2.1 hc.2.2 q
theorem unI {f : Value → Sem Value} {g : Int → Int}
   (rule : ∀ (i : Int) (t : Tok) (s : Shared) (Q : Value → Shared → Prop) (E : Value → Shared → Prop), Q (.int (g i) s.toks) { s with toks := s.toks + 1 } → wpAny (model X.prog X.w) X.A (f (.int i t)) Q E s) :
   UnR X f (rU fun i => .int (g i)) := by
 intro pins s σ H x v Q I rx h
 obtain ⟨i, rfl, q⟩ := h
 obtain ⟨t, rfl⟩ := rx
 exact rule i t s _ _ ⟨.int (g i), H, I.tok _, ⟨_, rfl⟩, q⟩
theorem zlC : UnR X (unaryOp .USub) (rU fun i => .int (-i)) := unI fun _ _ _ _ _ q => neg_int q
end
section
variable {X : Cx} {a b c : Expr} {ta tb tc : TE} {pos : Pos}
theorem zjT {pins : List (Addr × Obj)} {σ : St} {H : Hp} {s : Shared} {Q : VK} {k k' : Bool} (I : Inv X pins σ H s) (q : Q (.bl k) H) (e : k = k') : EP X pins σ Q (.bool k') s := by
 subst e
 exact ⟨.bl k, H, I, rfl, q⟩
theorem znV : OpR X (compareOp .Lt) (rI0 fun i j => .bl (decide (i < j))) := opB0 fun _ _ _ _ _ _ _ q => lt_int q
theorem znW : OpR X (compareOp .LtE) (rI0 fun i j => .bl (decide (i ≤ j))) := opB0 fun _ _ _ _ _ _ _ q => le_int q
theorem znX : OpR X (compareOp .Gt) (rI0 fun i j => .bl (decide (j < i))) := opB0 fun _ _ _ _ _ _ _ q => gt_int q
theorem znY : OpR X (compareOp .GtE) (rI0 fun i j => .bl (decide (j ≤ i))) := opB0 fun _ _ _ _ _ _ _ q => ge_int q
theorem zmM : OpR X (compareOp .Is) (fun x y H Q => y = .non ∧ Q (.bl (decide (x = .non))) H) := by
 intro pins s σ H x y v u Q I rx ry h
 obtain ⟨rfl, q⟩ := h
 cases ry
 refine is_none_gen (zjT I q ?_)
 cases x <;> first
   | (cases rx; rfl)
   | (obtain ⟨t, rfl⟩ := rx; rfl)
theorem zkV : OpR X (compareOp .IsNot) (fun x y H Q => y = .non ∧ Q (.bl (!decide (x = .non))) H) := by
 intro pins s σ H x y v u Q I rx ry h
 obtain ⟨rfl, q⟩ := h
 cases ry
 refine isnot_none_gen (zjT I q ?_)
 cases x <;> first
   | (cases rx; rfl)
   | (obtain ⟨t, rfl⟩ := rx; rfl)
theorem nomark (b : Expr) {op : CmpOp} (h : op ≠ .In := by decide) (h2 : op ≠ .NotIn := by decide) : behindInMarks op b = false := by
 have e1 : (op == CmpOp.In) = false := by cases op <;> first | rfl | exact absurd rfl h
 have e2 : (op == CmpOp.NotIn) = false := by cases op <;> first | rfl | exact absurd rfl h2
 cases b <;> simp [behindInMarks, e1, e2]
theorem zkE {op : CmpOp} {r : R2} (ho : OpR X (compareOp op) r) (ha : PE X a ta) (hb : PE X b tb) (hm : behindInMarks op b = false) : PE X (.Compare a [op] [b] pos) (tOp r ta tb) := by
 intro pins s σ H Q I h
 exact wpAny_Compare1 (binT ha hb I h fun v u s2 x y H2 I2 rx ry q => ho pins s2 σ H2 x y v u Q I2 rx ry q) hm
def tTest (t : TE) : TT := fun σ H Q => t σ H fun x H' => ∃ k, x = .bl k ∧ Q k H'
theorem zks {op : CmpOp} {r : R2} (ho : OpR X (compareOp op) r) (ha : PE X a ta) (hb : PE X b tb) (hm : behindInMarks op b = false) : PT X (.Compare a [op] [b] pos) (tTest (tOp r ta tb)) := by
 intro pins s σ H Q I h
 refine wpAny_isTrue_Compare1 (thn (ha pins s σ H _ I h) fun v s1 ⟨x, H1, I1, r1, q1⟩ => thn (hb pins s1 σ H1 _ I1 q1) fun u s2 ⟨y, H2, I2, r2, q2⟩ =>
   thn (ho pins s2 σ H2 x y v u _ I2 r1 r2 q2) fun c s3 ⟨z, H3, I3, r3, k, e, q3⟩ => ?_) hm
 subst e
 cases r3
 exact wpAny_truthy_bool ⟨H3, I3, q3⟩
def TruV (K : PySem.W.Frag) (x : V) (H : Hp) (k : Bool) : Prop :=
 match x with
 | .non => k = false
 | .bl b => k = b
 | .int i => k = (i != 0)
 | .str y => y.length ≤ sizeLine ∧ k = ((y.length : Int) != 0)
 | .byt y => y.size ≤ sizeLine ∧ k = ((y.size : Int) != 0)
 | .ref p => (∃ xs, SqL K H p xs ∧ k = !xs.isEmpty) ∨ (∃ xs, SqT K H p xs ∧ k = !xs.isEmpty) ∨ ∃ kvs, H p = some (.dK kvs) ∧ k = !kvs.isEmpty
 | _ => False
theorem zg4 {κ : Type} {kvs : List (κ × V)} {vs : List (κ × Value)} (r : KV kvs vs) : (!vs.isEmpty) = !kvs.isEmpty := by
 cases r <;> rfl
theorem zeR {xs : List V} {its : List Value} (r : Vals xs its) : (!its.toArray.isEmpty) = !xs.isEmpty := by
 cases r <;> simp
theorem line63 : (sizeLine : Nat) < 2 ^ 63 := by rw [sizeLine_eq]; decide
theorem zlE : TruR X (fun x H Q => ∃ k, TruV X.K x H k ∧ Q k H) := by
 intro pins s σ H x v Q I rx h
 obtain ⟨k, e, q⟩ := h
 have hl := line63
 have hs : sizeLine = 16777216 := sizeLine_eq
 cases x with
 | non =>
   cases rx
   have e' : k = false := e
   subst e'
   exact truthy_none ⟨H, I, q⟩
 | bl b =>
   cases rx
   have e' : k = b := e
   subst e'
   exact wpAny_truthy_bool ⟨H, I, q⟩
 | int i =>
   obtain ⟨t, rfl⟩ := rx
   have e' : k = (i != 0) := e
   subst e'
   exact PySem.P.truthy_int ⟨H, I, q⟩
 | str y =>
   obtain ⟨t, rfl⟩ := rx
   obtain ⟨hy, e'⟩ : y.length ≤ sizeLine ∧ k = ((y.length : Int) != 0) := e
   subst e'
   exact PySem.P.truthy_str (by omega) ⟨H, I.tok _, q⟩
 | byt y =>
   obtain ⟨t, rfl⟩ := rx
   obtain ⟨hy, e'⟩ : y.size ≤ sizeLine ∧ k = ((y.size : Int) != 0) := e
   subst e'
   exact PySem.W.truthy_bytes (by omega) ⟨H, I.tok _, q⟩
 | ref p =>
   cases rx
   have e' : (∃ xs, SqL X.K H p xs ∧ k = !xs.isEmpty) ∨ (∃ xs, SqT X.K H p xs ∧ k = !xs.isEmpty) ∨ ∃ kvs, H p = some (.dK kvs) ∧ k = !kvs.isEmpty := e
   rcases e' with ⟨xs, hx, e'⟩ | ⟨xs, hx, e'⟩ | ⟨kvs, hx, e'⟩
   · subst e'
     obtain ⟨its, r, pl, hz⟩ := I.list hx
     have hlen := r.length
     exact wpAny_truthy_list pl.isList (by simp only [List.size_toArray]; omega) ⟨H, I.tok _, by rw [zeR r]; exact q⟩
   · subst e'
     obtain ⟨its, r, pl, hz⟩ := I.tuple hx
     have hlen := r.length
     exact truthy_tuple pl (by simp only [List.size_toArray]; omega) ⟨H, I.tok _, by rw [zeR r]; exact q⟩
   · subst e'
     obtain ⟨hz, hS, vs, r, m⟩ : kvs.length ≤ sizeLine ∧ (p == sysModules) = false ∧ ∃ vs, KV kvs vs ∧ s.heap.DictOf (mixKind X.prog X.w) p vs := I.hok p _ hx
     have hlen : kvs.length = vs.length := Paired.length r
     exact wpAny_truthy_dict hS m (by omega) ⟨H, I.tok _, by rw [zg4 r]; exact q⟩
 | _ => exact (show False from e).elim
theorem ziV (ha : PE X a ta) (he : ∀ whole, isTrue a X.env whole = (do let v ← whole; standAt a.pos; holding [v] (truthy v))) :
   PT X a (fun σ H Q => ta σ H fun x H' => ∃ k, TruV X.K x H' k ∧ Q k H') := by
 intro pins s σ H Q I h
 exact isTrue_plain (thn (ha pins s σ H _ I h) fun v s1 ⟨x, H1, I1, r1, q1⟩ => zlE pins s1 σ H1 x v Q I1 r1 q1) (he _)
theorem zgY : OpR X (binaryOp .Add) (fun x y H Q => ∃ i j, x = .str i ∧ y = .str j ∧ i.length + j.length ≤ sizeLine ∧ Q (.str (i ++ j)) H) := by
 intro pins s σ H x y v u Q I rx ry h
 obtain ⟨i, j, rfl, rfl, hz, q⟩ := h
 obtain ⟨t, rfl⟩ := rx
 obtain ⟨t', rfl⟩ := ry
 exact add_str (fun t' tk => ⟨.str (i ++ j), H, I.tok _, ⟨_, rfl⟩, q⟩) hz
theorem vals1 {x : V} {us : List Value} (r : Vals [x] us) : ∃ u, us = [u] ∧ RelV x u := by
 cases r with
 | cons r1 r2 => cases r2; exact ⟨_, rfl, r1⟩
theorem vals2 {x y : V} {us : List Value} (r : Vals [x, y] us) : ∃ u w', us = [u, w'] ∧ RelV x u ∧ RelV y w' := by
 cases r with
 | cons r1 r2 =>
   cases r2 with
   | cons r3 r4 => cases r4; exact ⟨_, _, rfl, r1, r3⟩
theorem zjC : CallR X (.builtin "abs") (fun xs H Q => ∃ i, xs = [.int i] ∧ Q (.int (if i < 0 then -i else i)) H) := by
 intro pins s σ H xs us Q I r h
 obtain ⟨i, rfl, q⟩ := h
 obtain ⟨u, rfl, t, rfl⟩ := vals1 r
 exact call_abs_int fun u tk => ⟨.int (if i < 0 then -i else i), H, I.tok _, ⟨_, rfl⟩, q⟩
theorem ziq (hc : X.calm = true) : CallR X (.builtin "max") (fun xs H Q => ∃ i j, xs = [.int i, .int j] ∧ Q (.int (if j > i then j else i)) H) := by
 intro pins s σ H xs us Q I r h
 obtain ⟨i, j, rfl, q⟩ := h
 obtain ⟨u, w', rfl, ⟨t, rfl⟩, ⟨t', rfl⟩⟩ := vals2 r
 refine max_two_ints (I.ok.hd hc) fun h' tk k => ⟨_, H, I.kept k, ?_, q⟩
 by_cases hj : j > i
 · rw [if_pos hj, if_pos hj]; exact ⟨_, rfl⟩
 · rw [if_neg hj, if_neg hj]; exact ⟨_, rfl⟩
theorem zio (hc : X.calm = true) : CallR X (.builtin "min") (fun xs H Q => ∃ i j, xs = [.int i, .int j] ∧ Q (.int (if j < i then j else i)) H) := by
 intro pins s σ H xs us Q I r h
 obtain ⟨i, j, rfl, q⟩ := h
 obtain ⟨u, w', rfl, ⟨t, rfl⟩, ⟨t', rfl⟩⟩ := vals2 r
 refine min_two_ints (I.ok.hd hc) fun h' tk k => ⟨_, H, I.kept k, ?_, q⟩
 by_cases hj : j < i
 · rw [if_pos hj, if_pos hj]; exact ⟨_, rfl⟩
 · rw [if_neg hj, if_neg hj]; exact ⟨_, rfl⟩
theorem zir : CallR X (.type "int") (fun xs H Q => (∃ i, xs = [.int i] ∧ Q (.int i) H) ∨ ∃ k, xs = [.bl k] ∧ Q (.int (if k then 1 else 0)) H) := by
 intro pins s σ H xs us Q I r h
 rcases h with ⟨i, rfl, q⟩ | ⟨k, rfl, q⟩
 · obtain ⟨u, rfl, t, rfl⟩ := vals1 r
   exact call_int_int ⟨.int i, H, I, ⟨_, rfl⟩, q⟩
 · obtain ⟨u, rfl, r1⟩ := vals1 r
   cases r1
   exact call_int_bool ⟨.int (if k then 1 else 0), H, I.tok _, ⟨_, rfl⟩, q⟩
end
end L2
namespace L2
open PySem PySem.Spec PyProof.Rows
structure ObjM (h : Heap) (x dx C : Addr) (mA : Str → Option Value) : Prop where
 obj : h.get? x = some (PySem.W.instObj C dx)
 ns : h.Ns1 dx mA
 ne : dx ≠ x
theorem zhN {h : Heap} {dx : Addr} {mA : Str → Option Value} (n : h.Ns1 dx mA) : ∃ od, h.get? dx = some od ∧ ∀ name, PySem.W.lookIn name od = some (mA name) := by
 obtain ⟨o, es, ep, ho, hd, hk, _, hm⟩ := n
 refine ⟨o, ho, fun name => ?_⟩
 have e := hm name
 unfold nsFind findBy at e
 rw [← Array.find?_toList] at e
 unfold PySem.W.lookIn
 rw [hd]
 dsimp only
 split
 · rename_i y q
   rw [q] at e
   exact congrArg some e
 · rename_i q
   rw [q] at e
   have a : es.toList.any (·.refKey) = false := by
     rw [List.any_eq_false]
     intro y hy
     obtain ⟨z, t, hkey⟩ := hk y (Array.mem_toList_iff.mp hy)
     simp [DictEntry.refKey, hkey]
   have a' : ¬ es.toList.any (·.refKey) = true := by rw [a]; exact Bool.false_ne_true
   rw [if_neg a']
   exact congrArg some e
theorem ObjM.look {h : Heap} {x dx C : Addr} {mA : Str → Option Value} (I : ObjM h x dx C mA) : ∃ od, PySem.W.InstAt h x (PySem.W.instObj C dx) C (some od) ∧ ∀ name, PySem.W.lookIn name od = some (mA name) :=
 let ⟨od, ho, hl⟩ := zhN I.ns
 ⟨od, ⟨I.obj, rfl, rfl, ho⟩, hl⟩
section
variable {prog : Program} {w : World} {A : Around} {E : Value → Shared → Prop} {s : Shared} {K : PySem.W.Frag} {x dx C f : Addr} {mA : Str → Option Value} {name : Str} {v : Value}
end
section
variable {P : Program} {w : World} {H H' : Hp} {h h' : Heap} {a C dx : Addr} {fs fs' : List (Str × V)}
theorem zlb (hok : HOk P w H h) (e : H a = some (.ins C dx fs)) : ∃ mA, ObjM h a dx C mA ∧ (∀ f, RelO (fs.lookup f) (mA f)) ∧ PySem.Within mA (fs.map (·.1)) ∧ fs.length ≤ 1000 ∧ H dx = some (.own a) := by
 obtain ⟨d, z, ne, ob, mA, n, r, q⟩ := (show ObjOk P w H h a (.ins C dx fs) from hok a _ e)
 exact ⟨mA, ⟨ob, n, ne⟩, r, q, z, d⟩
end
structure Cls (K : PySem.W.Frag) (C : Addr) : Prop where
 pg : PySem.W.plainGet K C Str.empty = true
 hd : PySem.W.hasDictIn K C = true
 po : PySem.W.plainOver K C = true
 sa : PySem.W.findIn K (.ref C) "__setattr__" = some (some (.builtin "object.__setattr__"))
theorem Cls.get {K : PySem.W.Frag} {C : Addr} (c : Cls K C) (f : Str) : PySem.W.plainGet K C f = true := c.pg
structure Meth (K : PySem.W.Frag) (C : Addr) (m : Str) (f : Addr) : Prop where
 at_ : PySem.W.findIn K (.ref C) m = some (some (.ref f))
 fn : PySem.W.isFn K (.ref f) = true
 kp : PySem.W.keepIn K (.ref f) = true
section
variable {X : Cx} {pins : List (Addr × Obj)} {σ : St} {H : Hp} {s : Shared} {a C dx : Addr} {fs : List (Str × V)} {f : Str} {v : V} {A : Around} {E : Value → Shared → Prop}
end
section
variable {X : Cx} {o e value : Expr} {f : Str} {pos pos' tpos : Pos} {ta tv : TE}
end
section
variable {X : Cx} {pins : List (Addr × Obj)} {σ : St} {H : Hp} {s : Shared} {A : Around} {E : Value → Shared → Prop} {Q : Value → Shared → Prop} {c : Value} {b : Bool}
inductive TyOf (K : PySem.W.Frag) (H : Hp) : V → Value → Prop where
 | non : TyOf K H .non (.type "NoneType")
 | bl (x : Bool) : TyOf K H (.bl x) (.type "bool")
 | int (i : Int) : TyOf K H (.int i) (.type "int")
 | str (x : Str) : TyOf K H (.str x) (.type "str")
 | flt (x : UInt64) : TyOf K H (.flt x) (.type "float")
 | lst {a : Addr} {xs : List V} (e : H a = some (.lst xs)) : TyOf K H (.ref a) (.type "list")
 | frz {a : Addr} {o : Obj} {xs : List V} (e : H a = some (.frz o (.lst xs))) : TyOf K H (.ref a) (.type "list")
 | tup {a : Addr} {xs : List V} (e : H a = some (.tup xs)) : TyOf K H (.ref a) (.type "tuple")
 | dK {a : Addr} {kvs : List (Key × V)} (e : H a = some (.dK kvs)) : TyOf K H (.ref a) (.type "dict")
 | dT {a : Addr} {kvs : List (List Key × V)} (e : H a = some (.dT kvs)) : TyOf K H (.ref a) (.type "dict")
 | ins {a C dx : Addr} {fs : List (Str × V)} (e : H a = some (.ins C dx fs)) (cl : Cls K C) (ha : PySem.W.findIn K (.ref C) "__class__" = some (some (.builtin "object.__class__")))
     (hn : PySem.W.specialIn K (.builtin "object.__class__") "__get__" = some (some (.builtin "getset_descriptor.__get__"))) (htk : PySem.W.takesIn K (.builtin "object.__class__") = some true)
     (hm : PySem.W.mroIn K C (.type "object") = some true) : TyOf K H (.ref a) (.ref C)
theorem zhU {x : V} {u t : Value} (I : Inv X pins σ H s) (rx : RelV x u) (ty : TyOf X.K H x t) (e : PySem.W.kitOne X.K t c = some b) (h : ∀ tk, Q (.bool b) { s with toks := tk }) :
   wpAny (model X.prog X.w) A (call (.builtin "isinstance") [u, c]) Q E s := by
 cases ty with
 | non => cases (show u = Value.none from rx); exact PySem.W.kia_one PySem.W.kitx_none I.kIn True.intro e (fun z => nomatch z) h
 | bl y => cases (show u = Value.bool y from rx); exact PySem.W.kia_one PySem.W.kitx_bool I.kIn True.intro e (fun z => nomatch z) h
 | int i => obtain ⟨t, q⟩ := (show ∃ t, u = Value.int i t from rx); cases q; exact PySem.W.kia_one PySem.W.kitx_int I.kIn True.intro e (fun z => nomatch z) h
 | str y => obtain ⟨t, q⟩ := (show ∃ t, u = Value.str y t from rx); cases q; exact PySem.W.kia_one PySem.W.kitx_str I.kIn True.intro e (fun z => nomatch z) h
 | flt y => obtain ⟨t, q⟩ := (show ∃ t, u = Value.float y t from rx); cases q; exact PySem.W.kia_one PySem.W.kitx_float I.kIn True.intro e (fun z => nomatch z) h
 | @lst a xs ea =>
   cases (show u = Value.ref a from rx)
   obtain ⟨_, _, n, _, h1⟩ := (show ObjOk X.prog X.w H s.heap a (.lst xs) from I.hok a _ ea)
   exact PySem.W.kia_one PySem.W.kitx_list I.kIn ⟨_, h1, rfl⟩ e (fun z => nomatch z) h
 | @frz a ob xs ea =>
   cases (show u = Value.ref a from rx)
   obtain ⟨_, _, _, n, _, h1⟩ := (show ObjOk X.prog X.w H s.heap a (.frz ob (.lst xs)) from I.hok a _ ea)
   exact PySem.W.kia_one PySem.W.kitx_list I.kIn ⟨_, h1, rfl⟩ e (fun z => nomatch z) h
 | @tup a xs ea =>
   cases (show u = Value.ref a from rx)
   obtain ⟨_, _, _, p⟩ := (show ObjOk X.prog X.w H s.heap a (.tup xs) from I.hok a _ ea)
   obtain ⟨o, h1, h2, _⟩ := p
   exact PySem.W.kia_one PySem.W.kitx_tuple I.kIn ⟨o, h1, h2⟩ e (fun z => nomatch z) h
 | @dK a kvs ea =>
   cases (show u = Value.ref a from rx)
   obtain ⟨_, _, vs, _, p⟩ := (show ObjOk X.prog X.w H s.heap a (.dK kvs) from I.hok a _ ea)
   obtain ⟨o, es, ep, h1, h2, _⟩ := p
   exact PySem.W.kia_one PySem.W.kitx_dict I.kIn ⟨o, h1, h2.1⟩ e (fun z => nomatch z) h
 | @dT a kvs ea =>
   cases (show u = Value.ref a from rx)
   obtain ⟨_, _, xs, _, o, es, ep, h1, h2, _⟩ := (show ObjOk X.prog X.w H s.heap a (.dT kvs) from I.hok a _ ea)
   exact PySem.W.kia_one PySem.W.kitx_dict I.kIn ⟨o, h1, h2.1⟩ e (fun z => nomatch z) h
 | @ins a C dx fs ea cl ha hn htk hm =>
   cases (show u = Value.ref a from rx)
   obtain ⟨mA, O, _⟩ := zlb I.hok ea
   obtain ⟨od, J, _⟩ := O.look
   exact PySem.W.kia_one (PySem.W.kitx_own (cl.get _) cl.hd ha hn htk hm) I.kIn J e (fun z => nomatch z) h
end
end L2
namespace L2
open PySem PySem.Spec PyProof.Rows
structure Room (k : Nat) (A : Around) : Prop where
 hd : A.handled = none
 dp : A.depth + 3 * k + 5 < recursionLimit
 un : A.units + 16 * k + 200 < cLine
theorem Room.mono {j k : Nat} {A : Around} (r : Room k A) (h : j ≤ k) : Room j A := ⟨r.hd, by have := r.dp; omega, by have := r.un; omega⟩
theorem Room.deeper {k : Nat} {A : Around} (r : Room (k + 1) A) (env : Env) : Room k (A.deeper env) :=
 ⟨r.hd, by have := r.dp; show A.depth + 1 + 3 * k + 5 < _; omega, by have := r.un; show A.units + 3 + 16 * k + 200 < _; omega⟩
theorem Room.depth {k : Nat} {A : Around} (r : Room k A) : A.depth < recursionLimit := by have := r.dp; omega
theorem Room.units {k : Nat} {A : Around} (r : Room k A) : A.units + 64 < cLine := by have := r.un; omega
def tNil : TA := fun _ H Q => Q [] H
def tCons (ta : TE) (tr : TA) : TA := fun σ H Q => ta σ H fun x H1 => tr σ H1 fun xs H2 => Q (x :: xs) H2
section
variable {X : Cx} {e : Expr} {es : List Expr} {te : TE} {t : TA} {pos : Pos}
theorem zmI : PA X [] tNil := fun _ _ _ _ H Q I h => Calls.spliced_nil ⟨[], H, I, .nil, h⟩
theorem zkH (ha : PE X e te) (hr : PA X es t) (hs : starEach (e :: es) X.env = (false, eval e X.env) :: starEach es X.env := by rfl) : PA X (e :: es) (tCons te t) := by
 intro pos pins s σ H Q I h
 rw [hs]
 show wpAny _ _ (spliced ((false, eval e X.env) :: backTo pos (starEach es X.env))) _ _ s
 refine Calls.spliced_cons (thn (ha pins s σ H _ I h) fun u s1 ⟨x, H1, I1, r1, q1⟩ => ?_)
 exact thn (hr pos pins s1 σ H1 _ I1 q1) fun us s2 ⟨xs, H2, I2, r2, q2⟩ => ⟨x :: xs, H2, I2, .cons r1 r2, q2⟩
def tTup (t : TA) : TE := fun σ H Q => t σ H fun xs H1 => xs.length ≤ sizeLine ∧ ∀ p, H1 p = none → Q (.ref p) (upd H1 p (.tup xs))
def tLst (t : TA) : TE := fun σ H Q => t σ H fun xs H1 => xs.length ≤ sizeLine ∧ ∀ p, H1 p = none → Q (.ref p) (upd H1 p (.lst xs))
theorem zmz {x1} (h : PA X es t) : PE X (.Tuple es x1 pos) (tTup t) := by
 intro pins s σ H Q I hq
 refine wpAny_Tuple_spliced (thn (h pos pins s σ H _ I hq) fun us s1 ⟨xs, H1, I1, r, z, q⟩ => ⟨by rw [← r.length]; exact z, ?_⟩)
 have hf : H1 s1.heap.objs.size = none := I1.hok.fresh (Nat.le_refl _)
 refine ⟨.ref s1.heap.objs.size, upd H1 s1.heap.objs.size (.tup xs), I1.laid (t' := s1.toks) (fun b u e => Heap.get?_push_of_some _ e) (Nat.le_refl _) ?_, rfl, q _ hf⟩
 exact ⟨z, us, r, ⟨_, Heap.get?_push_size _ rfl, rfl, _, rfl⟩⟩
theorem zmE (h : PA X es t) : PE X (.List es pos) (tLst t) := by
 intro pins s σ H Q I hq
 refine wpAny_List_spliced (thn (h pos pins s σ H _ I hq) fun us s1 ⟨xs, H1, I1, r, z, q⟩ => ⟨by rw [← r.length]; exact z, ?_⟩)
 have hf : H1 s1.heap.objs.size = none := I1.hok.fresh (Nat.le_refl _)
 refine ⟨.ref s1.heap.objs.size, upd H1 s1.heap.objs.size (.lst xs), I1.laid (t' := s1.toks) (fun b u e => Heap.get?_push_of_some _ e) (Nat.le_refl _) ?_, rfl, q _ hf⟩
 exact ⟨z, us, 0, r, Heap.get?_push_size _ rfl⟩
end
abbrev Sp := List V → Hp → VK → XK → Prop
abbrev CXT := List Env → Hp → Shared → XK → Value → Shared → Prop
structure Env0 (P : Program) (w : World) (K : PySem.W.Frag) (mg : Str → Option Value) (base : Heap) (A : Around) (outer : List Env) (s : Shared) (H : Hp) : Prop where
 frames : A.frames = some outer
 mod : Mod K mg base
 bs : ∀ b o, base.get? b = some o → s.heap.get? b = some o ∧ H b = none
 bsz : base.objs.size ≤ s.heap.objs.size
 funs : s.heap.FunFrames base outer
 frf : ∀ b ∈ frs outer, H b = none
 hok : HOk P w H s.heap
 bare : AllBare s.gens
def CE (outer : List Env) (P : Program) (w : World) (H : Hp) (s : Shared) (Q : VK) (u : Value) (s' : Shared) : Prop :=
 ∃ v H', s'.os = s.os ∧ AllBare s'.gens ∧ Un (frs outer) [] H H' s.heap s'.heap ∧ HOk P w H' s'.heap ∧ RelV v u ∧ Q v H'
def CR (CX : CXT) (outer : List Env) (P : Program) (w : World) (H : Hp) (s : Shared) (Q : VK) (E : XK) (r : Result) (s' : Shared) : Prop :=
 match r with
 | .ok (.ret u) => CE outer P w H s Q u s'
 | .ok _ => False
 | .error e => CX outer H s E e s'
structure FnOk (P : Program) (w : World) (K : PySem.W.Frag) (mg : Str → Option Value) (base : Heap) (CX : CXT) (k : Nat) (f : Addr) (fd : FuncData) (ps : List Str) (sp : Sp) : Prop where
 len : ∀ vs H Q E, sp vs H Q E → vs.length = ps.length
 run : ∀ (A : Around) (outer : List Env) (s : Shared) (H : Hp) (args : Args) (us : List Value) (vs : List V) (Q : VK) (E : XK), Room k A → Env0 P w K mg base A outer s H → BindsTo s fd args (ps.zip us) → Vals vs us → sp vs H Q E →
   codeAny (model P w) A (.call (.ref f) args) (CR CX outer P w H s Q E) s
theorem FnOk.mono {P : Program} {w : World} {K : PySem.W.Frag} {mg : Str → Option Value} {base : Heap} {CX : CXT} {j k : Nat} {f : Addr} {fd : FuncData} {ps : List Str} {sp : Sp} (F : FnOk P w K mg base CX j f fd ps sp) (h : j ≤ k) :
   FnOk P w K mg base CX k f fd ps sp := ⟨F.len, fun A outer s H args us vs Q E hr => F.run A outer s H args us vs Q E (hr.mono h)⟩
section
variable {X : Cx} {pins : List (Addr × Obj)} {σ : St} {H : Hp} {s s' : Shared}
theorem Inv.env0 (I : Inv X pins σ H s) : Env0 X.prog X.w X.K X.mg X.base X.A X.stack s H :=
 ⟨I.ok.frames, I.ok.mod, I.bs, Nat.le_trans I.ok.bsz I.sz, I.stack, I.stkFree, I.hok, I.bare⟩
theorem Inv.after {Q : VK} {u : Value} (I : Inv X pins σ H s) (h : CE X.stack X.prog X.w H s Q u s') : EP X pins σ Q u s' := by
 obtain ⟨v, H', os, bare, un, hok, r, q⟩ := h
 obtain ⟨hh, g, d, t, os'⟩ := s'
 obtain rfl : os' = s.os := os
 exact ⟨v, H', I.call (h' := hh) (g' := g) (d' := d) (t' := t) (ch := []) un hok bare (fun b z => absurd z (by simp)), r, q⟩
end
def tCall (sp : Sp) (dvs : List V) (E : XK) (t : TA) : TE := fun σ H Q => t σ H fun vs H1 => sp (vs ++ dvs) H1 Q E
def Binds (K : PySem.W.Frag) (fd : FuncData) (ps : List Str) (ds : List Value) : Prop :=
 ∀ (s : Shared) (us : List Value), K.In s.heap → (us ++ ds).length = ps.length → BindsTo s fd ⟨us, []⟩ (ps.zip (us ++ ds))
theorem Binds.all {K : PySem.W.Frag} {fd : FuncData} {ps : List Str} (h : ∀ us : List Value, us.length = ps.length → bindArgs fd ⟨us, []⟩ = pure (ps.zip us)) : Binds K fd ps [] := fun s us _ hl => by
 rw [List.append_nil] at hl ⊢
 exact .of_eq (h us hl)
def Passes (CX : CXT) (X : Cx) (E : XK) : Prop := ∀ (pins : List (Addr × Obj)) (σ : St) (H : Hp) (s : Shared) (e : Value) (s' : Shared), Inv X pins σ H s → CX X.stack H s E e s' → X.xe e s'
section
variable {X : Cx} {CX : CXT} {k : Nat} {f C : Addr} {fd : FuncData} {ps : List Str} {sp : Sp} {dvs : List V} {ds : List Value} {E : XK} {x m : Str} {p pos apos : Pos} {e o : Expr} {es : List Expr} {ta : TE} {t : TA}
theorem zml {pins : List (Addr × Obj)} {σ : St} {H : Hp} {s : Shared} {Q : VK} {us : List Value} {vs : List V} (F : FnOk X.prog X.w X.K X.mg X.base CX k f fd ps sp) (hr : Room k X.A) (hb : Binds X.K fd ps ds) (hd : Vals dvs ds) (hx : Passes CX X E)
   (I : Inv X pins σ H s) (r : Vals vs us) (h : sp (vs ++ dvs) H Q E) : wpAny (model X.prog X.w) X.A (call (.ref f) us) (EP X pins σ Q) X.xe s := by
 have r2 : Vals (vs ++ dvs) (us ++ ds) := r.append hd
 have hl : (us ++ ds).length = ps.length := by rw [← r2.length]; exact F.len _ _ _ _ h
 refine wpAny_call (codeAny_mono (F.run X.A X.stack s H ⟨us, []⟩ (us ++ ds) (vs ++ dvs) Q E hr I.env0 (hb s us I.kIn hl) r2 h) fun r s' hq => ?_)
 cases r with
 | error e => exact hx pins σ H s e s' I hq
 | ok fl =>
   cases fl with
   | ret u => exact I.after hq
   | next => exact False.elim hq
   | brk => exact False.elim hq
   | cont => exact False.elim hq
theorem zkF (F : FnOk X.prog X.w X.K X.mg X.base CX k f fd ps sp) (hr : Room k X.A) (hg : Gl X x) (hm : X.mg x = some (.ref f)) (hk : PySem.W.keepIn X.K (.ref f) = true) (hb : Binds X.K fd ps ds) (hd : Vals dvs ds) (hx : Passes CX X E)
   (ha : PA X (e :: es) t) (hdb : (x == ("__debug__" : Str)) = false := by decide) (he : starEach (e :: es) X.env = (false, eval e X.env) :: starEach es X.env := by rfl) (hpl : (backTo pos (starEach es X.env)).any (·.1) = false := by rfl) :
   PE X (.Call (.Name x p) (e :: es) [] pos) (tCall sp dvs E t) := by
 intro pins s σ H Q I h
 refine wpAny_Call_Name_kw (zk8 I hg hm ?_ hdb)
 refine PySem.W.callWith_K (h₀ := X.base) I.ok.mod.kin hk (thn (ha pos pins s σ H _ I h) fun us s1 ⟨vs, H1, I1, r, q⟩ => ⟨I1.kIn, ?_⟩) he hpl
 exact zml F hr hb hd hx I1 r q
structure Mk (K : PySem.W.Frag) (C f : Addr) : Prop where
 makes : PySem.W.makesIn K C = true
 init : PySem.W.findIn K (.ref C) "__init__" = some (some (.ref f))
 fn : PySem.W.isFn K (.ref f) = true
 kp : PySem.W.keepIn K (.ref C) = true
end
section
variable {X : Cx} {CX : CXT} {k : Nat} {f C : Addr} {fd : FuncData} {ps ks : List Str} {sp : Sp} {E : XK} {x m : Str} {p pos apos kpos : Pos} {e o : Expr} {es : List Expr} {kws : List Keyword} {te ta : TE} {t tk : TA} {nm : Option Str}
variable {g : List Value → List Value → List Value} {gV : List V → List V → List V}
end
structure FnScope (N P : List Str) (sc : Scope) : Prop where
 kind : sc.kind = .function
 co : sc.isCoroutine = false
 gen : sc.isGenerator = false
 nd : N.Nodup
 pre : N.take P.length = P
 par : ∀ x ∈ P, sc.names.lookup x = some .local ∨ sc.names.lookup x = some .cell
 nofree : ∀ y ∈ sc.names, y.2 ≠ .free
theorem zfN {kindOf : Str → Option NameKind} {x : Str} : ∀ {binds : List (Str × Value)} {m : Str → Option Value}, (∀ v, (x, v) ∉ binds) → bindL kindOf binds m x = m x
 | [], _, _ => rfl
 | (n, v) :: r, m, h => by
   unfold bindL
   rw [zfN fun w hw => h w (List.mem_cons_of_mem _ hw)]
   split
   · have : x ≠ n := by rintro rfl; exact h v List.mem_cons_self
     simp [this]
   · rfl
theorem zfP {kindOf : Str → Option NameKind} {x : Str} : ∀ {binds : List (Str × Value)} {m : Str → Option Value}, (∀ v, (x, v) ∉ binds) → bindC kindOf binds m x = m x
 | [], _, _ => rfl
 | (n, v) :: r, m, h => by
   unfold bindC
   rw [zfP fun w hw => h w (List.mem_cons_of_mem _ hw)]
   split
   · rfl
   · have : x ≠ n := by rintro rfl; exact h v List.mem_cons_self
     simp [this]
theorem zfO {kindOf : Str → Option NameKind} {x : Str} {v : Value} : ∀ {P : List Str} {vs : List Value} {i : Nat} {m : Str → Option Value}, P.Nodup → P[i]? = some x → vs[i]? = some v → kindOf x = some .local →
   bindL kindOf (P.zip vs) m x = some v
 | [], _, _, _, _, h, _, _ => by simp at h
 | _ :: _, [], _, _, _, _, h, _ => by simp at h
 | p :: P, w :: vs, 0, m, nd, h1, h2, hk => by
   simp at h1 h2; subst h1; subst h2
   show bindL kindOf ((p, w) :: P.zip vs) m p = _
   unfold bindL
   rw [zfN fun v hv => (List.nodup_cons.mp nd).1 (List.of_mem_zip hv).1, if_pos hk]
   simp
 | p :: P, w :: vs, i + 1, m, nd, h1, h2, hk => by
   show bindL kindOf ((p, w) :: P.zip vs) m x = _
   unfold bindL
   exact zfO (i := i) (List.nodup_cons.mp nd).2 (by simpa using h1) (by simpa using h2) hk
theorem zfQ {kindOf : Str → Option NameKind} {x : Str} {v : Value} : ∀ {P : List Str} {vs : List Value} {i : Nat} {m : Str → Option Value}, P.Nodup → P[i]? = some x → vs[i]? = some v → kindOf x ≠ some .local →
   bindC kindOf (P.zip vs) m x = some v
 | [], _, _, _, _, h, _, _ => by simp at h
 | _ :: _, [], _, _, _, _, h, _ => by simp at h
 | p :: P, w :: vs, 0, m, nd, h1, h2, hk => by
   simp at h1 h2; subst h1; subst h2
   show bindC kindOf ((p, w) :: P.zip vs) m p = _
   unfold bindC
   rw [zfP fun v hv => (List.nodup_cons.mp nd).1 (List.of_mem_zip hv).1, if_neg hk]
   simp
 | p :: P, w :: vs, i + 1, m, nd, h1, h2, hk => by
   show bindC kindOf ((p, w) :: P.zip vs) m x = _
   unfold bindC
   exact zfQ (i := i) (List.nodup_cons.mp nd).2 (by simpa using h1) (by simpa using h2) hk
def start (N : List Str) (vs : List V) : St := vs.map some ++ List.replicate (N.length - vs.length) none
def cxOf (CX : CXT) (P : Program) (w : World) (K : PySem.W.Frag) (mg : Str → Option Value) (base : Heap) (N : List Str) (qual : Str) (scope : Scope) (f : Addr) (cd : Value) (A : Around) (outer : List Env) (s : Shared) (H : Hp) (E : XK) : Cx where
 prog := P
 w := w
 K := K
 mg := mg
 base := base
 A := A.deeper (envOfC qual scope s.heap.objs.size f cd)
 N := N
 s₀ := s
 H₀ := H
 env := envOfC qual scope s.heap.objs.size f cd
 outer := outer
 stack := envOfC qual scope s.heap.objs.size f cd :: outer
 ex := []
 calm := true
 fn := fun _ => true
 pn := []
 xe := fun e s' => wpAny (model P w) (A.deeper (envOfC qual scope s.heap.objs.size f cd)) (leaving (envOfC qual scope s.heap.objs.size f cd) e) (fun _ s'' => CX outer H s E e s'') (fun e' s'' => CX outer H s E e' s'') s'
theorem zgK {sc : Scope} {n : Nat} {x : Str} (h : sc.names.lookup x = some .cell) : ∃ c, (cellsFrom n sc.names []).lookup x = some c := by
 have q := PySem.W.cellsFrom_some sc.names n [] (.inl h)
 exact Option.isSome_iff_exists.mp q
theorem zhX {CX : CXT} {P : Program} {w : World} {K : PySem.W.Frag} {mg : Str → Option Value} {base : Heap} {N ps : List Str} {qual : Str} {scope : Scope} {f : Addr} {cd : Value} {A : Around} {outer : List Env} {s s1 : Shared} {H : Hp} {E : XK} {us : List Value} {vs : List V}
   (S : FnScope N ps scope) (hd : A.handled = none) (e0 : Env0 P w K mg base A outer s H) (hl : vs.length = ps.length) (r : Vals vs us)
   (x : InCallC s s.heap.objs.size (bindL (envOfC qual scope s.heap.objs.size f cd).kindOf (ps.zip us) fun _ => none) (cellsFrom (s.heap.objs.size + 1) scope.names []) (bindC (envOfC qual scope s.heap.objs.size f cd).kindOf (ps.zip us) fun _ => none) s1) :
   Inv (cxOf CX P w K mg base N qual scope f cd A outer s H E) [] (start N vs) H s1 := by
 have hpl : ps.length ≤ N.length := by have := congrArg List.length S.pre; rw [List.length_take] at this; omega
 obtain ⟨h1, tk, rfl, hk⟩ := x.done
 have noA : ∀ b : Addr, b ∉ (cxOf CX P w K mg base N qual scope f cd A outer s H E).ex := fun b z => absurd (show b ∈ ([] : List Addr) from z) (by simp)
 refine ⟨⟨e0.mod, S.kind, rfl, rfl, Nat.le_refl _, fun y z c h1 h2 => ?_, fun y hy => ?_, fun y c _ h => ?_, fun _ => hd, Around.frames_deeper e0.frames, .inr ⟨rfl, rfl⟩, fun b z => absurd z (noA b), e0.bs, e0.bsz, fun b _ _ => noA b, fun b z => absurd z (noA b), e0.funs, e0.frf⟩,
   rfl, e0.bare, Un.kept hk, ⟨_, x.toInCall.ns, fun i y v h1 h2 h3 => ?_⟩, fun y c h => ⟨_, x.cell y c h⟩, e0.hok.fresh (Nat.le_refl _), fun y c h => ?_, fun p hp => absurd (show p ∈ ([] : List (Addr × Obj)) from hp) (by simp), e0.hok.kept hk, ?_⟩
 · exact name_of_addr x.apart (PySem.mem_of_lookup h1) (PySem.mem_of_lookup h2)
 · have hy : scope.names.lookup y = some .cell ∨ scope.names.lookup y = some .free := hy
   rcases hy with hy | hy
   · exact zgK hy
   · exact absurd rfl (S.nofree _ (PySem.mem_of_lookup hy))
 · exact Nat.le_of_lt (x.above y c (PySem.mem_of_lookup h))
 · have hi : i < vs.length := by
     unfold start at h2
     by_cases hi : i < vs.length
     · exact hi
     · rw [List.getElem?_append_right (by simpa using hi)] at h2
       rw [List.getElem?_replicate] at h2
       split at h2 <;> cases h2
   have ha : vs[i]? = some v := by
     unfold start at h2
     rw [List.getElem?_append_left (by simpa using hi), List.getElem?_map] at h2
     cases e : vs[i]? with
     | none => rw [e] at h2; cases h2
     | some a => rw [e] at h2; cases h2; rfl
   obtain ⟨u, hu, rv⟩ := r.get ha
   have hp : ps[i]? = some y := by
     rw [← S.pre, List.getElem?_take_of_lt (by omega)]; exact h1
   have ndP : ps.Nodup := by rw [← S.pre]; exact S.nd.sublist (List.take_sublist _ _)
   refine ⟨u, rv, ?_⟩
   rcases S.par y (List.mem_of_getElem? hp) with k | k
   · exact .inl ⟨k, zfO ndP hp hu k⟩
   · obtain ⟨c, e⟩ := zgK (n := s.heap.objs.size + 1) k
     refine .inr ⟨.inl k, c, e, ?_⟩
     have q := x.cell y c e
     rw [zfQ ndP hp hu (by show scope.names.lookup y ≠ _; rw [k]; decide)] at q
     exact q
 · exact e0.hok.fresh (Nat.le_of_lt (x.above y c (PySem.mem_of_lookup h)))
 · unfold start
   show _ = N.length
   rw [List.length_append, List.length_map, List.length_replicate]
   omega
theorem zn3 {CX : CXT} {P : Program} {w : World} {K : PySem.W.Frag} {mg : Str → Option Value} {base : Heap} {k : Nat} {f : Addr} {name qual : Str} {params : Arguments} {body : List Stmt} {scope : Scope} {dV kV doc pm cdv ct oc : Value} {an od : Option Addr}
   {osl : Array (Option Value)} {N ps : List Str} {sp : Sp} (lk : K.lookup f = some ⟨oc, od, .func (PySem.W.fnOf name qual params body scope dV kV doc pm an cdv ct), osl⟩) (hcd : PySem.W.codeIn K cdv qual = true) (S : FnScope N ps scope)
   (len : ∀ vs H Q E, sp vs H Q E → vs.length = ps.length)
   (hbody : ∀ (A : Around) (outer : List Env) (s : Shared) (H : Hp) (vs : List V) (Q : VK) (E : XK), Room k (A.deeper (envOfC qual scope s.heap.objs.size f cdv)) → sp vs H Q E →
     ∃ t, PSs (cxOf CX P w K mg base N qual scope f cdv A outer s H E) body t ∧ t { nx := fun _ H' => Q .non H', rt := Q } (start N vs) H) :
   FnOk P w K mg base CX (k + 1) f (PySem.W.fnOf name qual params body scope dV kV doc pm an cdv ct) ps sp := by
 refine ⟨len, fun A outer s H args us vs Q E hr e0 hb r hsp => ?_⟩
 have hl := len _ _ _ _ hsp
 have KX : K.In s.heap := e0.mod.kin.keeps fun b o e => (e0.bs b o e).1
 have lim : s.heap.NoLimit := e0.mod.nolimit.keeps fun b o e => (e0.bs b o e).1
 have hkind : ∀ y ∈ ps.zip us, scope.names.lookup y.1 = some .local ∨ (scope.names.lookup y.1 = some .cell ∧ ((cellsFrom (s.heap.objs.size + 1) scope.names []).lookup y.1).isSome = true) := fun ⟨n, v⟩ hy => by
   rcases S.par n (List.of_mem_zip hy).1 with q | q
   · exact .inl q
   · exact .inr ⟨q, PySem.W.cellsFrom_some _ _ _ (.inl q)⟩
 refine codeAny_call_function hr.depth (KX _ _ lk) rfl S.co S.gen rfl (PySem.W.codeRec_of KX hcd) (hb _ _ _ _ ?_)
 refine wpAny_newFunctionEnv_cells S.kind hkind fun env he s1 x => ?_
 subst he
 refine ⟨lim.keeps x.toInCall.keep, codeAny_func ?_⟩
 obtain ⟨t, ht, hq⟩ := hbody A outer s H vs Q E (hr.deeper _) hsp
 have I : Inv (cxOf CX P w K mg base N qual scope f cdv A outer s H E) [] (start N vs) H s1 := zhX S hr.hd e0 hl r x
 refine wpAny_mono (ht [] s1 (start N vs) H _ I hq) (fun fl s' hs => ?_) fun e s' hs => hs
 have fin : ∀ {σ' : St} {H' : Hp} {v : V} {u : Value}, Inv (cxOf CX P w K mg base N qual scope f cdv A outer s H E) [] σ' H' s' → RelV v u → Q v H' → CE outer P w H s Q u s' :=
   fun {σ' H' v u} J rv q => ⟨v, H', J.os, J.bare, J.base, J.hok, rv, q⟩
 cases fl with
 | ret u =>
   obtain ⟨v, σ', H', J, rv, q⟩ := hs
   exact fin J rv q
 | next =>
   obtain ⟨σ', H', J, q⟩ := hs
   exact fin (v := V.non) (u := Value.none) J rfl q
 | brk =>
   obtain ⟨_, _, _, q⟩ := hs
   exact False.elim q
 | cont =>
   obtain ⟨_, _, _, q⟩ := hs
   exact False.elim q
end L2
namespace L2
open PySem PySem.Spec PyProof.Rows
section
variable {X : Cx} {x : Str} {p pos : Pos} {e : Expr} {es : List Expr} {t : TA} {id T : String} {r : List V → Hp → VK → Prop}
def tCB (r : List V → Hp → VK → Prop) (t : TA) : TE := fun σ H Q => t σ H fun vs H1 => r vs H1 Q
theorem zi7 (hc : CallR X (.builtin id) r) (hg : Gl X x) (hm : X.mg x = none) (hv : bootBuiltins x = some (.builtin id)) (ha : PA X (e :: es) t) (hn : x ≠ "__name__" := by decide) (hdb : (x == ("__debug__" : Str)) = false := by decide)
   (he : starEach (e :: es) X.env = (false, eval e X.env) :: starEach es X.env := by rfl) (hpl : (backTo pos (starEach es X.env)).any (·.1) = false := by rfl) : PE X (.Call (.Name x p) (e :: es) [] pos) (tCB r t) := by
 intro pins s σ H Q I h
 refine wpAny_Call_Name_kw (zfB I hg hm hv ?_ hn hdb)
 exact PyProof.Rows.callWith_builtin1 (thn (ha pos pins s σ H _ I h) fun us s1 ⟨vs, H1, I1, r1, q1⟩ => hc pins s1 σ H1 vs us Q I1 r1 q1) he hpl
theorem zhD (hc : CallR X (.type T) r) (hg : Gl X x) (hm : X.mg x = none) (hv : bootBuiltins x = some (.type T)) (ha : PA X (e :: es) t) (hn : x ≠ "__name__" := by decide) (hdb : (x == ("__debug__" : Str)) = false := by decide)
   (he : starEach (e :: es) X.env = (false, eval e X.env) :: starEach es X.env := by rfl) (hpl : (backTo pos (starEach es X.env)).any (·.1) = false := by rfl) : PE X (.Call (.Name x p) (e :: es) [] pos) (tCB r t) := by
 intro pins s σ H Q I h
 refine wpAny_Call_Name_kw (zfB I hg hm hv ?_ hn hdb)
 exact PyProof.Rows.callWith_type1 (thn (ha pos pins s σ H _ I h) fun us s1 ⟨vs, H1, I1, r1, q1⟩ => hc pins s1 σ H1 vs us Q I1 r1 q1) he hpl
end
end L2
namespace HT
open PySem PyProof.Rows
section
open PySem.SeqAt
open PySem.AutoSeq1 (wpAny_loadPart')
open PySem.MeetsSeq PySem.MeetsSeq2 PySem.MeetsSeq3
end
section
variable {prog : Program} {w : World} {A : Around} {E : Value → Shared → Prop} {s : Shared}
theorem zlx {t b : Addr} {vs ws : List Value} {Q : Value → Shared → Prop} (ht : IsTup s.heap t vs.toArray) (hb : IsTup s.heap b ws.toArray) (hv : vs ≠ [])
   (h1 : ws = [] → Q (.ref t) s) (h2 : ws ≠ [] → Q (.ref s.heap.objs.size) { s with heap := s.heap.push { cls := .type "tuple", data := .seq (vs ++ ws).toArray } })
   (hsz : vs.length + ws.length ≤ sizeLine) : wpAny (model prog w) A (binaryOp .Add (.ref t) (.ref b)) Q E s := by
 obtain ⟨⟨cls, dd, data, sl⟩, ho, hc, n, hd⟩ := id ht
 obtain ⟨⟨cls2, dd2, data2, sl2⟩, ho2, hc2, n2, hd2⟩ := id hb
 simp only at hc hd hc2 hd2
 subst hc hd hc2 hd2
 have e : vs.toArray ++ ws.toArray = (vs ++ ws).toArray := by simp
 by_cases hw : ws = []
 · exact concat_meets ⟨_, ho, rfl⟩ ⟨_, ho2, rfl⟩ noFill_tuple_add seq_tuple_add PySem.F.slot_tuple_add PySem.F.entry_tuple_add (PySem.F.args_tuple_add_2 _ _)
     (tuple_addW1 t b vs.toArray ws.toArray n n2 dd dd2 sl sl2 (by simpa using hv) (by simp [hw])) ⟨ho, ho2, h1 hw⟩
 · refine concat_meets ⟨_, ho, rfl⟩ ⟨_, ho2, rfl⟩ noFill_tuple_add seq_tuple_add PySem.F.slot_tuple_add PySem.F.entry_tuple_add (PySem.F.args_tuple_add_2 _ _)
     (tuple_addW2 t b vs.toArray ws.toArray n n2 dd dd2 sl sl2 (by simpa using hv) (by simpa using hw) (by rw [List.size_toArray, List.size_toArray]; exact hsz)) ⟨ho, ho2, ?_⟩
   rw [e]
   exact h2 hw
def sIx (n d : Nat) : Option Int → Nat
 | none => d
 | some v => if v < 0 then (v + (n : Int)).toNat else min v.toNat n
theorem zmk (n d : Nat) (hd : d ≤ n) (o : Option Int) : sIx n d o ≤ n := by
 cases o with
 | none => exact hd
 | some v =>
   show (if v < 0 then (v + (n : Int)).toNat else min v.toNat n) ≤ n
   by_cases hv : v < 0
   · rw [if_pos hv]; omega
   · rw [if_neg hv]; exact Nat.min_le_right _ _
theorem zin (v : Int) (n d : Nat) : (if v < 0 then max (v + (n : Int)) 0 else min v (n : Int)) = ((sIx n d (some v) : Nat) : Int) := by
 show (if v < 0 then max (v + (n : Int)) 0 else min v (n : Int)) = (((if v < 0 then (v + (n : Int)).toNat else min v.toNat n) : Nat) : Int)
 by_cases hv : v < 0
 · simp only [if_pos hv]; omega
 · simp only [if_neg hv]; omega
theorem zhe (lo hi : Option Int) (n : Nat) : Builtin.Slice.sliceAdjust lo hi 1 (n : Int) = (((sIx n 0 lo : Nat) : Int), ((sIx n n hi : Nat) : Int)) := by
 have h1 : ¬ ((1 : Int) < 0) := by omega
 unfold Builtin.Slice.sliceAdjust
 simp only [h1, if_false]
 refine Prod.ext ?_ ?_
 · cases lo with
   | none => rfl
   | some v => exact zin v n 0
 · cases hi with
   | none => rfl
   | some v => exact zin v n n
theorem zgX (i j : Nat) : Builtin.Slice.slicePlaces (i : Int) (j : Int) 1 = j - i := by
 unfold Builtin.Slice.slicePlaces
 have h1 : (1 : Int) > 0 := by omega
 simp only [h1, if_true, Int.ediv_one]
 split <;> omega
theorem zeK {v : Value} {o : Option Int} {Q : Option Int → Shared → Prop} (p : IsPart v o) (h : Q o s) : wpAny (model prog w) A (Builtin.Slice.slicePartIndex v) Q E s := by
 cases p with
 | none => exact slicePart_none h
 | int i t => exact slicePart_int h
theorem zdS {sl : Addr} {vl vu : Value} {lo hi : Option Int} {n : Nat} {Q : Int × Int × Nat → Shared → Prop} (hs : s.heap.IsSliceOf sl vl vu .none) (pl : IsPart vl lo) (pu : IsPart vu hi)
   (h : Q (((sIx n 0 lo : Nat) : Int), 1, sIx n n hi - sIx n 0 lo) s) : wpAny (model prog w) A (Builtin.Slice.sliceApplied (.ref sl) (pure (n : Int))) Q E s := by
 obtain ⟨os, hos, hcs, hds⟩ := id hs
 unfold Builtin.Slice.sliceApplied Builtin.Slice.sliceFields
 refine wpAny_bind (wpAny_bind (wpAny_field hos hds (x := vl) rfl (wpAny_bind (wpAny_field hos hds (x := vu) rfl (wpAny_bind (wpAny_field hos hds (x := .none) rfl (wpAny_pure ?_)))))))
 refine wpAny_bind (slicePart_none ?_)
 show wpAny _ _ (if ((1 : Int) == 0) = true then _ else _) _ _ s
 rw [if_neg (by decide)]
 refine wpAny_bind (zeK pl (wpAny_bind (zeK pu (wpAny_bind (wpAny_pure ?_)))))
 show wpAny _ _ (match Builtin.Slice.sliceAdjust lo hi 1 (n : Int) with | (lo, hi) => pure (lo, (1 : Int), Builtin.Slice.slicePlaces lo hi 1)) _ _ s
 rw [zhe lo hi n]
 show wpAny _ _ (pure (((sIx n 0 lo : Nat) : Int), (1 : Int), Builtin.Slice.slicePlaces ((sIx n 0 lo : Nat) : Int) ((sIx n n hi : Nat) : Int) 1)) _ _ s
 rw [zgX]
 exact wpAny_pure h
theorem zi1 (xs : Array Value) (i k : Nat) : ((List.range k).filterMap fun (m : Nat) => xs[((i : Int) + (m : Int) * 1).toNat]?).toArray = ((xs.toList.drop i).take k).toArray := by
 have e : (fun (m : Nat) => xs[((i : Int) + (m : Int) * 1).toNat]?) = fun m => xs[i + m]? := by
   funext m
   have : ((i : Int) + (m : Int) * 1).toNat = i + m := by omega
   rw [this]
 rw [e]
 have := pick_run xs i k
 rw [List.filterMap_map] at this
 have e2 : ((fun x => xs[x]?) ∘ fun x => i + x) = fun m => xs[i + m]? := rfl
 rw [e2] at this
 rw [this]
theorem zdx {t sl : Addr} {items : Array Value} {vl vu : Value} {lo hi : Option Int} {Q : Value → Shared → Prop} (ht : IsTup s.heap t items) (hs : s.heap.IsSliceOf sl vl vu .none) (pl : IsPart vl lo) (pu : IsPart vu hi)
   (hw : ¬ (sIx items.size 0 lo = 0 ∧ sIx items.size items.size hi = items.size))
   (h : Q (.ref s.heap.objs.size) { s with heap := s.heap.push { cls := .type "tuple", data := .seq ((items.toList.drop (sIx items.size 0 lo)).take (sIx items.size items.size hi - sIx items.size 0 lo)).toArray } })
   (hsz : items.size ≤ sizeLine) : wpAny (model prog w) A (getItem (.ref t) (.ref sl)) Q E s := by
 have htake : sizeOk (.seq ((items.toList.drop (sIx items.size 0 lo)).take (sIx items.size items.size hi - sIx items.size 0 lo)).toArray) := by
   show ((items.toList.drop (sIx items.size 0 lo)).take (sIx items.size items.size hi - sIx items.size 0 lo)).toArray.size ≤ sizeLine
   rw [List.size_toArray, List.length_take, List.length_drop, Array.length_toList]
   omega
 have hj : sIx items.size items.size hi ≤ items.size := zmk _ _ (Nat.le_refl _) hi
 obtain ⟨os, hos, hcs, hds⟩ := id hs
 have hTs : s.TypeIs (.ref sl) "slice" := ⟨os, hos, hcs⟩
 unfold getItem
 try with_reducible refine wpAny_holding ?_
 first | refine wpAny_bind (wpAny_pure ?_) | skip
 refine wpAny_bind (wpAny_sequenceKey ht.typeIs (by decide) ?_)
 refine wpAny_bind (wpAny_callSpecial?_slot (name := Str.ofString "__getitem__") ht.typeIs PyProof.Rows.slot_tuple_getitem
   (wpAny_call_entry PyProof.Rows.slot_tuple_getitem ht.typeIs entry_tuple_getitem ?_ (args_tuple_getitem _ _)))
 show wpAny _ _ (Builtin.Tuple.tupleItemsOf (.ref t) >>= _) _ _ s
 refine wpAny_bind (tupleItemsOf_ ht ?_)
 refine wpAny_bind (wpAny_typeOf hTs ?_)
 rw [if_pos (by decide)]
 refine wpAny_bind (zdS hs pl pu ?_)
 have hno : ¬ ((((sIx items.size 0 lo : Nat) : Int) == 0 && (1 : Int) == 1 && (sIx items.size items.size hi - sIx items.size 0 lo) == items.size) = true) := by
   intro q
   rw [Bool.and_eq_true, Bool.and_eq_true] at q
   have q1 : ((sIx items.size 0 lo : Nat) : Int) = 0 := eq_of_beq q.1.1
   have q2 : sIx items.size items.size hi - sIx items.size 0 lo = items.size := eq_of_beq q.2
   exact hw ⟨by omega, by omega⟩
 show wpAny _ _ (if (((sIx items.size 0 lo : Nat) : Int) == 0 && (1 : Int) == 1 && (sIx items.size items.size hi - sIx items.size 0 lo) == items.size) = true then _ else _) _ _ s
 rw [if_neg hno, zi1]
 first
   | exact wpAny_bind (m := Builtin.Tuple.tupleExact _) (wpAny_newObj_type (wpAny_pure ⟨_, rfl, wpAny_pure h⟩) htake)
   | exact wpAny_bind (m := Builtin.Tuple.tupleExact _) (wpAny_newObj_type (wpAny_bind (wpAny_pure (wpAny_pure ⟨_, rfl, wpAny_pure h⟩))) htake)
   | exact wpAny_bind (wpAny_bind (m := Builtin.Tuple.tupleExact _) (wpAny_newObj_type (wpAny_pure (wpAny_pure ⟨_, rfl, wpAny_pure h⟩)) htake))
   | exact wpAny_bind (wpAny_bind (m := Builtin.Tuple.tupleExact _) (wpAny_newObj_type (wpAny_pure ⟨_, rfl, wpAny_pure h⟩) htake))
end
end HT
namespace L2
open PySem PySem.Spec PyProof.Rows
abbrev TO := St → Hp → (Option Int → Hp → Prop) → Prop
def PO (X : Cx) (e : Option Expr) (t : TO) : Prop :=
 ∀ (pins : List (Addr × Obj)) (s : Shared) (σ : St) (H : Hp) (Q : Option Int → Hp → Prop), Inv X pins σ H s → t σ H Q →
   wpAny (model X.prog X.w) X.A (evalPart e X.env) (fun u s' => ∃ o H', Inv X pins σ H' s' ∧ IsPart u o ∧ Q o H') X.xe s
def tNoPart : TO := fun _ H Q => Q none H
def tPart (t : TE) : TO := fun σ H Q => t σ H fun x H1 => ∃ i, x = .int i ∧ Q (some i) H1
section
variable {X : Cx} {e : Expr} {te : TE} {lo hi : Option Expr} {tl th : TO} {pos p2 : Pos}
theorem zkz : PO X none tNoPart := by
 intro pins s σ H Q I h
 rw [evalPart_none]
 exact wpAny_pure ⟨none, H, I, .none, h⟩
theorem zky (h : PE X e te) : PO X (some e) (tPart te) := by
 intro pins s σ H Q I hw
 rw [evalPart_some]
 refine thn (h pins s σ H _ I hw) fun u s1 ⟨x, H1, I1, r1, q1⟩ => ?_
 obtain ⟨i, rfl, q⟩ := q1
 obtain ⟨t, rfl⟩ := r1
 exact ⟨some i, H1, I1, .int i t, q⟩
def SlR (X : Cx) (r : V → Option Int → Option Int → Hp → VK → Prop) : Prop :=
 ∀ (pins : List (Addr × Obj)) (s : Shared) (σ : St) (H : Hp) (x : V) (v vl vu : Value) (lo hi : Option Int) (sl : Addr) (Q : VK), Inv X pins σ H s → RelV x v → s.heap.IsSliceOf sl vl vu .none → IsPart vl lo → IsPart vu hi → r x lo hi H Q →
   ∃ T id, typeLookup (.type T) "__getitem__" = pure (some (.builtin id)) ∧ s.TypeIs v T ∧ wpAny (model X.prog X.w) X.A (getItem v (.ref sl)) (EP X pins σ Q) X.xe s
theorem SlR.or {r r' : V → Option Int → Option Int → Hp → VK → Prop} (h : SlR X r) (h' : SlR X r') : SlR X (fun x lo hi H Q => r x lo hi H Q ∨ r' x lo hi H Q) := by
 intro pins s σ H x v vl vu lo hi sl Q I rx hs pl pu q
 rcases q with q | q
 · exact h pins s σ H x v vl vu lo hi sl Q I rx hs pl pu q
 · exact h' pins s σ H x v vl vu lo hi sl Q I rx hs pl pu q
def tSl (r : V → Option Int → Option Int → Hp → VK → Prop) (te : TE) (tl th : TO) : TE := fun σ H Q => te σ H fun x H1 => tl σ H1 fun l H2 => th σ H2 fun u H3 => r x l u H3 Q
theorem zi4 {r : V → Option Int → Option Int → Hp → VK → Prop} (hr : SlR X r) (he : PE X e te) (hl : PO X lo tl) (hu : PO X hi th) : PE X (.Subscript e (.Slice lo hi none p2) pos) (tSl r te tl th) := by
 intro pins s σ H Q I h
 refine Subscript_ (thn (he pins s σ H _ I h) fun v s1 ⟨x, H1, I1, r1, q1⟩ => ?_)
 refine wpAny_Slice (thn (hl pins s1 σ H1 _ I1 q1) fun vl s2 ⟨l, H2, I2, pl, q2⟩ => thn (hu pins s2 σ H2 _ I2 q2) fun vu s3 ⟨u, H3, I3, pu, q3⟩ => ?_)
 rw [evalPart_none]
 refine wpAny_pure ?_
 have I4 : Inv X pins σ H3 { s3 with heap := s3.heap.push { cls := .type "slice", data := .fields #[vl, vu, .none] } } := I3.kept (t' := s3.toks) fun b ob q => Heap.get?_push_of_some _ q
 obtain ⟨T, id, hT, ht, hg⟩ := hr pins { s3 with heap := s3.heap.push { cls := .type "slice", data := .fields #[vl, vu, .none] } } σ H3 x v vl vu l u s3.heap.objs.size Q I4 r1 (Heap.IsSliceOf.new ..) pl pu q3
 show wpAny (model X.prog X.w) X.A (subscriptTail e (.Slice lo hi none p2) v (.ref s3.heap.objs.size)) (EP X pins σ Q) X.xe { s3 with heap := s3.heap.push { cls := .type "slice", data := .fields #[vl, vu, .none] } }
 exact tail_any (ops := [.ref s3.heap.objs.size, v]) ht hT hg (by with_unfolding_all rfl)
def cutV (xs : List V) (lo hi : Option Int) : List V := (xs.drop (HT.sIx xs.length 0 lo)).take (HT.sIx xs.length xs.length hi - HT.sIx xs.length 0 lo)
theorem zeq (xs : List V) (lo hi : Option Int) : (cutV xs lo hi).length ≤ xs.length := by
 unfold cutV
 rw [List.length_take, List.length_drop]
 omega
def rSlT (K : PySem.W.Frag) : V → Option Int → Option Int → Hp → VK → Prop := fun x lo hi H Q => ∃ a xs, x = .ref a ∧ SqT K H a xs ∧
 ¬ (HT.sIx xs.length 0 lo = 0 ∧ HT.sIx xs.length xs.length hi = xs.length) ∧ ∀ p, H p = none → Q (.ref p) (upd H p (.tup (cutV xs lo hi)))
theorem zl1 : SlR X (rSlT X.K) := by
 intro pins s σ H x v vl vu lo hi sl Q I rx hs pl pu h
 obtain ⟨a, xs, rfl, hx, hw, q⟩ := h
 cases rx
 obtain ⟨its, r, ht, hz⟩ := I.tuple hx
 have hlen : its.toArray.size = xs.length := by rw [List.size_toArray]; exact r.length.symm
 refine ⟨"tuple", _, PyProof.Rows.slot_tuple_getitem.lookup, ht.typeIs, ?_⟩
 refine HT.zdx ht hs pl pu (by rw [hlen]; exact hw) ?_ (by rw [hlen]; exact hz)
 rw [hlen]
 refine ⟨.ref s.heap.objs.size, _, I.laid (t' := s.toks) (o := .tup (cutV xs lo hi)) (fun b ob q => Heap.get?_push_of_some _ q) (Nat.le_refl _) ?_, rfl, q _ (I.hok.fresh (Nat.le_refl _))⟩
 exact ⟨Nat.le_trans (zeq xs lo hi) hz, _, (r.drop (HT.sIx xs.length 0 lo)).take (HT.sIx xs.length xs.length hi - HT.sIx xs.length 0 lo), IsTup.new _ _⟩
def rCatT (K : PySem.W.Frag) : R2 := fun x y H Q => ∃ a b xs ys, x = .ref a ∧ y = .ref b ∧ SqT K H a xs ∧ SqT K H b ys ∧ xs ≠ [] ∧ xs.length + ys.length ≤ sizeLine ∧
 (ys = [] → Q (.ref a) H) ∧ (ys ≠ [] → ∀ p, H p = none → Q (.ref p) (upd H p (.tup (xs ++ ys))))
theorem Vals.nil_iff {xs : List V} {us : List Value} (r : Vals xs us) : us = [] ↔ xs = [] := by
 cases r with
 | nil => simp
 | cons _ _ => simp
theorem zkZ : OpR X (binaryOp .Add) (rCatT X.K) := by
 intro pins s σ H x y v u Q I rx ry h
 obtain ⟨a, b, xs, ys, rfl, rfl, ha, hb, hx, hz, q1, q2⟩ := h
 cases rx
 cases ry
 obtain ⟨its, r1, p1, _⟩ := I.tuple ha
 obtain ⟨its2, r2, p2, _⟩ := I.tuple hb
 refine HT.zlx p1 p2 (fun z => hx (r1.nil_iff.mp z)) (fun z => ⟨.ref a, H, I, rfl, q1 (r2.nil_iff.mp z)⟩) (fun z => ?_) (by rw [← r1.length, ← r2.length]; exact hz)
 refine ⟨.ref s.heap.objs.size, _, I.laid (t' := s.toks) (o := .tup (xs ++ ys)) (fun b ob q => Heap.get?_push_of_some _ q) (Nat.le_refl _) ?_, rfl, q2 (fun w => z (r2.nil_iff.mpr w)) _ (I.hok.fresh (Nat.le_refl _))⟩
 exact ⟨by rw [List.length_append]; exact hz, _, r1.append r2, IsTup.new _ _⟩
end
end L2
namespace L2
open PySem PySem.Spec PyProof.Rows
def ixN (n : Nat) (i : Int) : Option Nat := if 0 ≤ i then (if i < n then some i.toNat else none) else if -(n : Int) ≤ i then some (i + n).toNat else none
def atI {α : Type} (xs : List α) (i : Int) : Option α := (ixN xs.length i).bind fun j => xs[j]?
theorem zhS {n : Nat} {i : Int} {j : Nat} (h : ixN n i = some j) : seqIndex? i n = some j ∧ j < n ∧ -(n : Int) ≤ i ∧ i < n := by
 unfold ixN at h
 by_cases h0 : 0 ≤ i
 · rw [if_pos h0] at h
   by_cases h1 : i < n
   · rw [if_pos h1] at h
     have e : i.toNat = j := Option.some.inj h
     exact ⟨by rw [seqIndex_of h0 h1, e], by omega, by omega, h1⟩
   · rw [if_neg h1] at h; cases h
 · rw [if_neg h0] at h
   by_cases h1 : -(n : Int) ≤ i
   · rw [if_pos h1] at h
     have e : (i + n).toNat = j := Option.some.inj h
     exact ⟨by rw [seqIndex_neg (by omega) h1, e], by omega, h1, by omega⟩
   · rw [if_neg h1] at h; cases h
theorem zgl {α : Type} {xs : List α} {i : Int} {v : α} (h : atI xs i = some v) : ∃ j, seqIndex? i xs.length = some j ∧ xs[j]? = some v ∧ j < xs.length ∧ -(xs.length : Int) ≤ i ∧ i < xs.length := by
 unfold atI at h
 cases e : ixN xs.length i with
 | none => rw [e] at h; cases h
 | some j =>
   rw [e] at h
   obtain ⟨h1, h2, h3, h4⟩ := zhS e
   exact ⟨j, h1, h, h2, h3, h4⟩
def PlainIx (b : Expr) : Prop := ∀ o i, subscripted b false o i = operate [o, i] (getItem o i)
def IxR (X : Cx) (r : R2) : Prop :=
 ∀ (value slice : Expr) (pins : List (Addr × Obj)) (s : Shared) (σ : St) (H : Hp) (x y : V) (v u : Value) (Q : VK), Inv X pins σ H s → RelV x v → RelV y u → r x y H Q →
   subscripted slice false v u = operate [v, u] (getItem v u) → wpAny (model X.prog X.w) X.A (subscriptTail value slice v u) (EP X pins σ Q) X.xe s
def MtR (X : Cx) (id : String) (r : V → List V → Hp → VK → Prop) : Prop :=
 ∀ (pins : List (Addr × Obj)) (s : Shared) (σ : St) (H : Hp) (x : V) (xs : List V) (v : Value) (us : List Value) (Q : VK), Inv X pins σ H s → RelV x v → Vals xs us → r x xs H Q →
   wpAny (model X.prog X.w) X.A (call (.builtin id) (v :: us)) (EP X pins σ Q) X.xe s
section
variable {X : Cx} {a b : Expr} {ta tb : TE} {pos : Pos}
theorem znQ {r : R2} (hr : IxR X r) (ha : PE X a ta) (hb : PE X b tb) (hs : PlainIx b) : PE X (.Subscript a b pos) (tOp r ta tb) := by
 intro pins s σ H Q I h
 exact Subscript_ (binT ha hb I h fun v u s2 x y H2 I2 rx ry q => hr a b pins s2 σ H2 x y v u Q I2 rx ry q (hs _ _))
def rIxL (K : PySem.W.Frag) : R2 := fun x y H Q => ∃ p xs i v, x = .ref p ∧ y = .int i ∧ SqL K H p xs ∧ atI xs i = some v ∧ Q v H
def rIxT (K : PySem.W.Frag) : R2 := fun x y H Q => ∃ p xs i v, x = .ref p ∧ y = .int i ∧ SqT K H p xs ∧ atI xs i = some v ∧ Q v H
def rIxS : R2 := fun x y H Q => ∃ z i c, x = .str z ∧ y = .int i ∧ z.length ≤ sizeLine ∧ atI z.cps.toList i = some c ∧ Q (.str ⟨#[c]⟩) H
theorem zhR : IxR X (rIxL X.K) := by
 intro value slice pins s σ H x y v u Q I rx ry h hs
 obtain ⟨p, xs, i, z, rfl, rfl, hq, he, q⟩ := h
 cases rx
 obtain ⟨t, rfl⟩ := ry
 obtain ⟨its, r, pl, hz⟩ := I.list hq
 obtain ⟨j, h1, h2, h3, h4, h5⟩ := zgl he
 obtain ⟨w, ew, rw'⟩ := r.get h2
 have hl := r.length
 have hn := line63
 have fin : EP X pins σ Q w s := ⟨z, H, I, rw', q⟩
 by_cases h0 : 0 ≤ i
 · have hj : i.toNat = j := by
     rw [seqIndex_of h0 h5] at h1
     exact Option.some.inj h1
   exact item_listR pl.isList h0 (by omega) (by rw [hj]; simpa using ew) fin hs
 · have hj : (i + (its.toArray.size : Int)).toNat = j := by
     rw [seqIndex_neg (by omega) h4] at h1
     rw [List.size_toArray, ← hl]
     exact Option.some.inj h1
   exact subscriptTail_builtinR (x := w) pl.isList.typeIs slot_list_getitem.lookup
     (wpAny_getItem_list_neg (Q := fun r s' => r = w ∧ EP X pins σ Q r s') pl.isList (by omega) (by rw [List.size_toArray] <;> omega) (by omega) (by rw [hj]; simpa using ew) ⟨rfl, fin⟩) hs
theorem zm0 : IxR X (rIxT X.K) := by
 intro value slice pins s σ H x y v u Q I rx ry h hs
 obtain ⟨p, xs, i, z, rfl, rfl, hq, he, q⟩ := h
 cases rx
 obtain ⟨t, rfl⟩ := ry
 obtain ⟨its, r, pl, hz⟩ := I.tuple hq
 obtain ⟨j, h1, h2, h3, h4, h5⟩ := zgl he
 obtain ⟨w, ew, rw'⟩ := r.get h2
 have hl := r.length
 have hn := line63
 have fin : EP X pins σ Q w s := ⟨z, H, I, rw', q⟩
 exact subscriptTail_builtinR (x := w) pl.typeIs slot_tuple_getitem.lookup
   (getItem_tuple (j := j) (Q := fun r s' => r = w ∧ EP X pins σ Q r s') pl (by omega) (by omega) (by rw [List.size_toArray, ← hl]; exact h1) (by simpa using ew) ⟨rfl, fin⟩) hs
theorem zm1 : IxR X rIxS := by
 intro value slice pins s σ H x y v u Q I rx ry h hs
 obtain ⟨z, i, c, rfl, rfl, hz, he, q⟩ := h
 obtain ⟨t, rfl⟩ := rx
 obtain ⟨t', rfl⟩ := ry
 obtain ⟨j, h1, h2, h3, h4, h5⟩ := zgl he
 have hl : z.cps.toList.length = z.length := by simp [Str.length]
 rw [hl] at h1 h4 h5
 have hn := line63
 exact tail_any (typeIs_str s z t) slot_str_getitem.lookup (getItem_str (c := c) (by
   have e1 : decide (i < -(2 ^ 63 : Int)) = false := decide_eq_false (by omega)
   have e2 : decide (i ≥ 2 ^ 63) = false := decide_eq_false (by omega)
   rw [e1, e2, Bool.or_false]) (by rw [h1]; simpa using h2) ⟨.str ⟨#[c]⟩, H, I.tok _, ⟨_, rfl⟩, q⟩) hs
theorem zg2 (its : List Value) (n j : Nat) (u : Value) : Obj.mapSeq (·.setIfInBounds j u) { cls := .type "list", data := .seq its.toArray n } = { cls := .type "list", data := .seq (its.set j u).toArray n } := by
 simp [Obj.mapSeq]
theorem Inv.lst {pins : List (Addr × Obj)} {σ : St} {H : Hp} {s : Shared} {p : Addr} {xs : List V} (I : Inv X pins σ H s) (h : H p = some (.lst xs)) :
   ∃ (its : List Value) (n : Nat), Vals xs its ∧ s.heap.get? p = some { cls := .type "list", data := .seq its.toArray n } ∧ xs.length ≤ sizeLine := by
 obtain ⟨z, its, n, r, e⟩ := I.hok p _ h
 exact ⟨its, n, r, e, z⟩
theorem Inv.lstUpd {pins : List (Addr × Obj)} {σ : St} {H : Hp} {s : Shared} {p : Addr} {xs ys : List V} {its its' : List Value} {n n' : Nat} {f : Obj → Obj} (I : Inv X pins σ H s) (h : H p = some (.lst xs))
   (ho : s.heap.get? p = some { cls := .type "list", data := .seq its.toArray n }) (hf : f { cls := .type "list", data := .seq its.toArray n } = { cls := .type "list", data := .seq its'.toArray n' }) (r : Vals ys its') (hz : ys.length ≤ sizeLine) (t : Nat) :
   Inv X pins σ (upd H p (.lst ys)) { s with heap := s.heap.update p f, toks := t } := by
 have e : (s.heap.update p f).get? p = some { cls := .type "list", data := .seq its'.toArray n' } := by
   rw [Heap.get?_update_self f ho (by rw [hf] <;> rfl), hf]
 refine I.write (x := p) (e := p) (by rw [h]; trivial) (.inl rfl) (fun b u hb q => (Heap.get?_update_other _ _ (Ne.symm hb)).trans q) ⟨_, e⟩ ?_
 exact ⟨hz, its', n', r, e⟩
def rSetL : V → V → V → Hp → (Hp → Prop) → Prop := fun o i v H Q => ∃ p xs k j, o = .ref p ∧ i = .int k ∧ H p = some (.lst xs) ∧ ixN xs.length k = some j ∧ Q (upd H p (.lst (xs.set j v)))
theorem ziN : PSet X rSetL := by
 intro pins s σ H o i v ov iv u Q I ro ri rv h
 obtain ⟨p, xs, k, j, rfl, rfl, hp, hj, q⟩ := h
 cases ro
 obtain ⟨t, rfl⟩ := ri
 obtain ⟨its, n, r, ho, hz⟩ := I.lst hp
 obtain ⟨h1, h2, h3, h4⟩ := zhS hj
 have hl := r.length
 have hn := line63
 have I' : Inv X pins σ (upd H p (.lst (xs.set j v))) { s with heap := s.heap.update p (Obj.mapSeq (·.setIfInBounds j u)) } :=
   I.lstUpd hp ho (zg2 its n j u) (r.set rv j) (by rw [List.length_set]; exact hz) s.toks
 by_cases h0 : 0 ≤ k
 · have hk : k.toNat = j := by
     rw [seqIndex_of h0 h4] at h1
     exact Option.some.inj h1
   exact PySem.W.ki_setAt ho h0 (by omega) (by rw [List.size_toArray, ← hl]; exact h4) (by rw [hk]; exact ⟨_, I', q⟩)
 · have hk : (k + (its.toArray.size : Int)).toNat = j := by
     rw [seqIndex_neg (by omega) h3] at h1
     rw [List.size_toArray, ← hl]
     exact Option.some.inj h1
   exact PySem.W.ki_setBack ho (by omega) (by rw [List.size_toArray, ← hl]; exact h3) (by omega) (by rw [hk]; exact ⟨_, I', q⟩)
theorem zfv (lo hi : Option Int) (n : Nat) : (sliceBounds lo hi none n).1 = ((HT.sIx n 0 lo : Nat) : Int) ∧ (sliceBounds lo hi none n).2.1 = ((HT.sIx n n hi : Nat) : Int) ∧ (sliceBounds lo hi none n).2.2 = 1 := by
 refine ⟨?_, ?_, rfl⟩
 · cases lo with
   | none => simp [sliceBounds, HT.sIx]
   | some i =>
     simp only [sliceBounds, HT.sIx, Option.getD_none, show (1 : Int) > 0 by decide, if_true]
     by_cases h : i < 0
     · simp only [h, if_true] <;> omega
     · simp only [h, if_false] <;> omega
 · cases hi with
   | none => simp [sliceBounds, HT.sIx]
   | some i =>
     simp only [sliceBounds, HT.sIx, Option.getD_none, show (1 : Int) > 0 by decide, if_true]
     by_cases h : i < 0
     · simp only [h, if_true] <;> omega
     · simp only [h, if_false] <;> omega
theorem ze8 (its : List Value) (lo hi : Option Int) : slicePick its.toArray lo hi none = ((its.drop (HT.sIx its.length 0 lo)).take (HT.sIx its.length its.length hi - HT.sIx its.length 0 lo)).toArray := by
 obtain ⟨h1, h2, h3⟩ := zfv lo hi its.toArray.size
 unfold slicePick
 rw [h1, h2, h3]
 simp only [sliceRange_one, pick_run, List.size_toArray] <;> rfl
def rSlL (K : PySem.W.Frag) : V → Option Int → Option Int → Hp → VK → Prop := fun x lo hi H Q => ∃ a xs, x = .ref a ∧ SqL K H a xs ∧ ∀ p, H p = none → Q (.ref p) (upd H p (.lst (cutV xs lo hi)))
theorem zkf : SlR X (rSlL X.K) := by
 intro pins s σ H x v vl vu lo hi sl Q I rx hs pl pu h
 obtain ⟨a, xs, rfl, hx, q⟩ := h
 cases rx
 obtain ⟨its, r, ht, hz⟩ := I.list hx
 have hlen := r.length
 refine ⟨"list", _, slot_list_getitem.lookup, ht.isList.typeIs, ?_⟩
 refine wpAny_getItem_list_slice ht.isList hs pl pu .none (by simp) ?_ (by rw [List.size_toArray] <;> omega)
 rw [ze8, ← hlen]
 refine ⟨.ref s.heap.objs.size, _, I.laid (t' := s.toks) (o := .lst (cutV xs lo hi)) (fun b ob q => Heap.get?_push_of_some _ q) (Nat.le_refl _) ?_, rfl, q _ (I.hok.fresh (Nat.le_refl _))⟩
 exact ⟨Nat.le_trans (zeq xs lo hi) hz, _, 0, (r.drop (HT.sIx xs.length 0 lo)).take (HT.sIx xs.length xs.length hi - HT.sIx xs.length 0 lo), Heap.get?_push_size _ rfl⟩
theorem zdK : CallR X (.builtin "len") (fun xs H Q => ∃ p ys, xs = [.ref p] ∧ (SqL X.K H p ys ∨ SqT X.K H p ys) ∧ Q (.int ys.length) H) := by
 intro pins s σ H xs us Q I r h
 obtain ⟨p, ys, rfl, hq, q⟩ := h
 obtain ⟨u, rfl, rx⟩ := vals1 r
 cases rx
 have hn := line63
 rcases hq with hq | hq
 · obtain ⟨its, r', pl, hz⟩ := I.list hq
   have hlen := r'.length
   exact Calls.call_len_list pl.isList (by simp only [List.size_toArray] <;> omega) ⟨.int ys.length, H, I.tok _, ⟨s.toks + 1, by rw [List.size_toArray, hlen]⟩, q⟩
 · obtain ⟨its, r', pl, hz⟩ := I.tuple hq
   have hlen := r'.length
   exact len_tuple pl (by simp only [List.size_toArray] <;> omega) ⟨.int ys.length, H, I.tok _, ⟨s.toks + 1, by rw [List.size_toArray, hlen]⟩, q⟩
theorem zfM : CallR X (.builtin "len") (fun xs H Q => ∃ z, xs = [.str z] ∧ z.length ≤ sizeLine ∧ Q (.int z.length) H) := by
 intro pins s σ H xs us Q I r h
 obtain ⟨z, rfl, hz, q⟩ := h
 obtain ⟨u, rfl, t, rfl⟩ := vals1 r
 have hn := line63
 exact len_str (by omega) ⟨.int z.length, H, I.tok _, ⟨_, rfl⟩, q⟩
theorem zdJ : CallR X (.type "list") (fun xs H Q => ∃ p ys, xs = [.ref p] ∧ (SqL X.K H p ys ∨ SqT X.K H p ys) ∧ ∀ l, H l = none → Q (.ref l) (upd H l (.lst ys))) := by
 intro pins s σ H xs us Q I r h
 obtain ⟨p, ys, rfl, hq, q⟩ := h
 obtain ⟨u, rfl, rx⟩ := vals1 r
 cases rx
 have fin : ∀ (its : List Value), Vals ys its → ys.length ≤ sizeLine → ∀ (h' : Heap) (c' : Nat), (∀ b o', s.heap.get? b = some o' → h'.get? b = some o') →
     h'.get? s.heap.objs.size = some { cls := .type "list", dict := none, data := .seq its.toArray c', slots := #[] } → EP X pins σ Q (.ref s.heap.objs.size) { s with heap := h' } := fun its r' hz h' c' kp e =>
   ⟨.ref s.heap.objs.size, _, I.laid (t' := s.toks) kp (Nat.le_refl _) (show ObjOk X.prog X.w _ h' _ (.lst ys) from ⟨hz, its, c', r', e⟩), rfl, q _ (I.hok.fresh (Nat.le_refl _))⟩
 rcases hq with hq | hq
 · obtain ⟨its, r', pl, hz⟩ := I.list hq
   have hlen := r'.length
   obtain ⟨o, ho, hc, n, hd⟩ := pl.isList
   exact call_list_seq p (.inl rfl) ho hc hd (fun h' c' kp e => fin its r' hz h' c' kp e) (by simp only [List.size_toArray] <;> omega)
 · obtain ⟨its, r', pl, hz⟩ := I.tuple hq
   have hlen := r'.length
   obtain ⟨o, ho, hc, n, hd⟩ := pl
   exact call_list_seq p (.inr rfl) ho hc hd (fun h' c' kp e => fin its r' hz h' c' kp e) (by simp only [List.size_toArray] <;> omega)
theorem zdh : CallR X (.type "tuple") (fun xs H Q => ∃ p ys, xs = [.ref p] ∧ ((SqL X.K H p ys ∧ ∀ l, H l = none → Q (.ref l) (upd H l (.tup ys))) ∨ (SqT X.K H p ys ∧ Q (.ref p) H))) := by
 intro pins s σ H xs us Q I r h
 obtain ⟨p, ys, rfl, h⟩ := h
 obtain ⟨u, rfl, rx⟩ := vals1 r
 cases rx
 rcases h with ⟨hq, q⟩ | ⟨hq, q⟩
 · obtain ⟨its, r', pl, hz⟩ := I.list hq
   have hlen := r'.length
   refine call_tuple_list pl.isList (fun h' kp => ?_) (by simp only [List.size_toArray] <;> omega)
   have I1 : Inv X pins σ H { s with heap := h' } := I.kept (t' := s.toks) kp
   have I2 : Inv X pins σ (upd H h'.objs.size (.tup ys)) { s with heap := h'.push { cls := .type "tuple", data := .seq its.toArray } } :=
     I1.laid (t' := s.toks) (fun b o e => Heap.get?_push_of_some _ e) (Nat.le_refl _) (show ObjOk X.prog X.w _ _ _ (.tup ys) from ⟨hz, its, r', IsTup.new _ _⟩)
   exact ⟨.ref h'.objs.size, _, I2, rfl, q _ (I1.hok.fresh (Nat.le_refl _))⟩
 · obtain ⟨its, r', pl, hz⟩ := I.tuple hq
   exact call_tuple_same pl ⟨.ref p, H, I, rfl, q⟩
def tyV (K : PySem.W.Frag) (T : String) (x : V) (H : Hp) : Prop := match x with
 | .str _ => T = "str"
 | .int _ => T = "int"
 | .ref p => (T = "list" ∧ ∃ xs, SqL K H p xs) ∨ (T = "tuple" ∧ ∃ o, K.lookup p = some o ∧ o.cls = .type "tuple" ∧ o.dict = none) ∨
     (T = "dict" ∧ ((∃ kvs, H p = some (.dK kvs)) ∨ ∃ kvs, H p = some (.dT kvs))) ∨ (T = "set" ∧ ∃ S n, H p = some (.set S n))
 | _ => False
theorem zjI {pins : List (Addr × Obj)} {σ : St} {H : Hp} {s : Shared} {T : String} {x : V} {v : Value} (I : Inv X pins σ H s) (r : RelV x v) (ty : tyV X.K T x H) :
   s.TypeIs v T ∧ ∀ a, v = .ref a → ∃ ob, s.heap.get? a = some ob ∧ ob.dict = none := by
 cases x with
 | str z =>
   obtain ⟨t, rfl⟩ := r
   cases (show T = "str" from ty)
   exact ⟨typeIs_str s z t, fun _ e => nomatch e⟩
 | int i =>
   obtain ⟨t, rfl⟩ := r
   cases (show T = "int" from ty)
   exact ⟨typeIs_int s i t, fun _ e => nomatch e⟩
 | ref p =>
   cases r
   rcases ty with ⟨rfl, xs, hq⟩ | ⟨rfl, o, hk, hc, hd⟩ | ⟨rfl, hk⟩ | ⟨rfl, S, n, hk⟩
   · obtain ⟨its, _, pl, _⟩ := I.list hq
     refine ⟨pl.isList.typeIs, fun a e => ?_⟩
     cases e
     obtain ⟨o, n, e, c, hd, _⟩ := pl
     exact ⟨o, e, hd⟩
   · refine ⟨⟨o, I.kIn p o hk, hc⟩, fun a e => ?_⟩
     cases e
     exact ⟨o, I.kIn _ o hk, hd⟩
   · have z : ∃ o, s.heap.get? p = some o ∧ o.ExactDict := by
       rcases hk with ⟨kvs, hk⟩ | ⟨kvs, hk⟩
       · obtain ⟨_, _, _, _, o, _, _, e, ex, _⟩ := I.hok p _ hk
         exact ⟨o, e, ex⟩
       · obtain ⟨_, _, _, _, o, _, _, e, ex, _⟩ := I.hok p _ hk
         exact ⟨o, e, ex⟩
     obtain ⟨o, e, ex⟩ := z
     refine ⟨⟨o, e, ex.1⟩, fun a e2 => ?_⟩
     cases e2
     exact ⟨o, e, ex.2.1⟩
   · obtain ⟨o, _, _, _, e, ex, _⟩ := I.hok p _ hk
     refine ⟨⟨o, e, ex.1⟩, fun a e2 => ?_⟩
     cases e2
     exact ⟨o, e, ex.2.1⟩
 | _ => exact False.elim ty
def tBM0 (K : PySem.W.Frag) (T : String) (r : V → List V → Hp → VK → Prop) (to : TE) : TE := fun σ H Q => to σ H fun x H1 => tyV K T x H1 ∧ r x [] H1 Q
def tBM (K : PySem.W.Frag) (T : String) (r : V → List V → Hp → VK → Prop) (to : TE) (t : TA) : TE := fun σ H Q => to σ H fun x H1 => tyV K T x H1 ∧ t σ H1 fun xs H2 => r x xs H2 Q
variable {o e : Expr} {es : List Expr} {to : TE} {t : TA} {name : Str} {apos cpos : Pos} {T id : String} {r : V → List V → Hp → VK → Prop}
theorem zmG (pa : PlainAttrs T) (slot : Slot T name id) (hty : typeOf (.builtin id) = pure (.type "method_descriptor")) (hm : MtR X id r) (ho : PE X o to)
   (hbase : attributeBase o name X.env (eval o X.env) = eval o X.env := by rfl) (hline : (apos.endLine == cpos.line) = true := by rfl) : PE X (.Call (.Attribute o name apos) [] [] cpos) (tBM0 X.K T r to) := by
 intro pins s σ H Q I h
 refine wpAny_Call_method0_late hbase hline (thn (ho pins s σ H _ I h) fun v s1 ⟨x, H1, I1, r1, ty, q1⟩ => ?_)
 obtain ⟨h1, h2⟩ := zjI I1 r1 ty
 exact ⟨T, id, pa, slot, hty, h1, h2, Calls.callWith_builtin rfl (PySem.evalArgs_none (hm pins s1 σ H1 x [] v [] Q I1 r1 .nil q1))⟩
theorem znS (pa : PlainAttrs T) (slot : Slot T name id) (hty : typeOf (.builtin id) = pure (.type "method_descriptor")) (hm : MtR X id r) (ho : PE X o to) (ha : PA X (e :: es) t)
   (hbase : attributeBase o name X.env (eval o X.env) = eval o X.env := by rfl)
   (hfew : ((backTo cpos (starEach (e :: es) X.env)).all (fun x => !x.1) && (backToKw cpos (keywordEach [] X.env)).all (fun x => x.1.isSome)
     && decide ((e :: es).length + ([] : List Keyword).length + (if ([] : List Keyword).isEmpty then 0 else 1) < 30)) = true := by rfl)
   (hline : (apos.endLine == cpos.line) = true := by rfl) (hs : starEach (e :: es) X.env = (false, eval e X.env) :: starEach es X.env := by rfl) (hplain : (backTo cpos (starEach es X.env)).any (·.1) = false := by rfl) :
   PE X (.Call (.Attribute o name apos) (e :: es) [] cpos) (tBM X.K T r to t) := by
 intro pins s σ H Q I h
 refine wpAny_Call_method_late hbase hfew hline rfl (thn (ho pins s σ H _ I h) fun v s1 ⟨x, H1, I1, r1, ty, q1⟩ => ?_)
 obtain ⟨h1, h2⟩ := zjI I1 r1 ty
 refine ⟨T, id, pa, slot, hty, h1, h2, ?_⟩
 have hA := ha cpos pins s1 σ H1 _ I1 q1
 rw [hs] at hA ⊢
 refine Calls.callWith_builtin (by show (false || (backTo cpos (starEach es X.env)).any (·.1)) = false; rw [hplain] <;> rfl) (Calls.evalArgs_plain ?_)
 exact thn hA fun us s2 ⟨vs, H2, I2, r2, q2⟩ => hm pins s2 σ H2 x vs v us Q I2 r1 r2 q2
end
end L2
namespace L2
open PySem PySem.Spec PyProof.Rows
section
variable {X : Cx} {pins : List (Addr × Obj)} {σ : St} {H : Hp} {s : Shared} {l b : Addr} {xs ys zs : List V}
theorem Inv.lnew {its : List Value} {t' : Nat} (I : Inv X pins σ H s) (hv : Vals ys its) (hz : ys.length ≤ sizeLine) :
   Inv X pins σ (upd H s.heap.objs.size (.lst ys)) { s with heap := s.heap.push { cls := .type "list", data := .seq its.toArray }, toks := t' } :=
 I.laid (fun _ _ q => Heap.get?_push_of_some _ q) (Nat.le_refl _) ⟨hz, its, 0, hv, Heap.get?_push_size _ rfl⟩
theorem Inv.fresh (I : Inv X pins σ H s) : H s.heap.objs.size = none := I.hok.fresh (Nat.le_refl _)
theorem Inv.lstM (I : Inv X pins σ H s) (hH : H l = some (.lst xs)) : xs.length ≤ sizeLine ∧ ∃ (its : List Value) (n : Nat), Vals xs its ∧ xs.length = its.length ∧ s.heap.get? l = some { cls := .type "list", data := .seq its.toArray n } := by
 obtain ⟨z, its, n, r, e⟩ := I.hok l _ hH
 exact ⟨z, its, n, r, r.length, e⟩
end
section
variable {X : Cx}
def rCat : R2 := fun x y H Q => ∃ l b xs zs, x = .ref l ∧ y = .ref b ∧ H l = some (.lst xs) ∧ H b = some (.lst zs) ∧ xs.length + zs.length ≤ sizeLine ∧ ∀ p, H p = none → Q (.ref p) (upd H p (.lst (xs ++ zs)))
theorem zmN : OpR X (binaryOp .Add) rCat := by
 intro pins s σ H x y v u Q I rx ry h
 obtain ⟨l, b, xs, zs, rfl, rfl, hH, hB, hz, q⟩ := h
 cases rx
 cases ry
 obtain ⟨z, its, n, r, hl, e⟩ := I.lstM hH
 obtain ⟨z2, its2, n2, r2, hl2, e2⟩ := I.lstM hB
 refine PySem.P.add_list e e2 ?_ (by rw [List.size_toArray, List.size_toArray]; omega)
 have ea : its.toArray ++ its2.toArray = (its ++ its2).toArray := by simp
 rw [ea]
 exact ⟨.ref _, _, I.lnew (t' := s.toks) (r.append r2) (by rw [List.length_append]; omega), rfl, q _ I.fresh⟩
end
section
variable {prog : Program} {w : World} {A : Around} {E : Value → Shared → Prop} {s : Shared}
end
section
variable {X : Cx}
end
end L2
namespace Att
open PySem PySem.W PySem.Calls PyProof.Rows
theorem zef {P : Params} {h : Heap} : ∀ (ns : List Int) (vs : List Value), WellAll P h vs (ns.map WData.int) → IntsAre vs ns := by
 intro ns
 induction ns with
 | nil =>
   intro vs w
   rw [List.map_nil] at w
   cases w
   exact .nil
 | cons n ns ih =>
   intro vs w
   rw [List.map_cons] at w
   cases w with
   | cons a b =>
     cases a
     exact .cons _ _ (ih _ b)
theorem zhu {l : OpenLaw} {n : Nat} (hn : l.most = some n) {P : Params} {h : Heap} {args : List WData} {vals : List Value}
   (hpre : l.row.toRowW.claim.pre args = true) (hwl : WellAll P h vals args) :
   ∃ a vs ns, vals = [Value.ref a] ∧ args = [WData.list (ns.map WData.int)] ∧ h.get? a = some { cls := .type "list", data := .seq vs.toArray } ∧ IntsAre vs ns ∧ ns.length ≤ n := by
 have hsh : WShape.hasAll [] args [.list .int] = true := (pre_splitW hpre).1
 have hc : l.pre.holds [] { args := args } = true := (pre_splitW hpre).2
 obtain ⟨d, r, rfl, h1, h2⟩ := hasAllW_cons hsh
 obtain rfl := hasAllW_nil h2
 obtain ⟨xs, rfl, h3⟩ := hasW_list h1
 obtain ⟨ns, rfl⟩ := items_int h3
 have hlen : ns.length ≤ n := by
   unfold OpenLaw.pre at hc
   have h4 : (WTm.not (.lt (.lit (.int (n : Int))) (.len (.arg 0)))).holds [] { args := [.list (ns.map .int)] } = true := by
     have h4 := (holds_andW hc).1
     rw [hn] at h4
     exact h4
   have h5 := condW_of h4 (w_not (w_lt w_lit (w_len_list (w_arg rfl))))
   rw [List.length_map] at h5
   refine Nat.le_of_not_lt fun q => ?_
   have q' : (n : Int) < ((ns.length : Nat) : Int) := by omega
   first
     | (rw [decide_eq_true q'] at h5; exact absurd h5 (by decide))
     | (simp at h5; omega)
 cases hwl with
 | cons w1 w2 =>
   cases w2
   cases w1 with
   | list ho hall => exact ⟨_, _, ns, rfl, rfl, ho, zef ns _ hall, hlen⟩
theorem zhx (l : OpenLaw) (args : List WData) : l.row.toRowW.claim.post args (.bool true) args = true :=
 postW_of (r := l.row.toRowW) (X := (true == true))
   (show WShape.has [] (.bool true) .bool = true by first | rfl | decide | simp [WShape.has, WShape.arms, WShape.armsAll])
   (show (WTm.eq .res (.lit (.bool true))).value [] { args := args, res := some (.bool true), after := args } = some (.bool (true == true)) from w_eq_bool (w_res rfl) w_lit) rfl
theorem zgj {l : OpenLaw} {n : Nat} {q : Program} {loose : List Str} {XP : (Str → Option Value) → Heap → Prop} {YP : World → Heap → Prop} {d : DefRec}
   (hn : l.most = some n) (hdf : d.params.defaults = [])
   (call : ∀ (w : World) (s₀ s₁ : Shared) (mg mb : Str → Option Value) (fa : Addr) (o : Obj) (pm cd doc : Value) (a : Addr) (vs : List Value) (ns : List Int),
     Ground q loose [] XP w s₀ mg mb s₁.heap → YP w s₁.heap →
     s₁.heap.get? fa = some o → o.data = .func (docDef d.name d.params d.body d.scope pm cd doc) → s₁.heap.CodeRec cd d.name → mg d.name = some (.ref fa) →
     s₁.heap.get? a = some { cls := .type "list", data := .seq vs.toArray } → IntsAre vs ns → ns.length ≤ n → s₁.gens = #[] →
     codeAny (model l.prog w) callerA (.call (.ref fa) ⟨[.ref a], []⟩) (fun r s' => r = .ok (.ret (.bool true)) ∧ OldK s₁.heap s'.heap ∧ s'.os = s₁.os ∧ AllBare s'.gens) s₁) :
   WalkO q loose XP YP l.row.toRowW d [] (fun f vs => PySem.call f vs) := by
 intro w s₀ s₁ mg mb G Y fa o pm cd doc dV kV ho hd hcd hD hmg hg args vals as hpre hlay hrd hwl hlo
 obtain rfl : dV = .none := Dflts.none hD hdf
 obtain rfl : kV = .none := Dflts.noKw hD
 obtain ⟨a, vs, ns, rfl, rfl, hobj, hints, hlen⟩ := zhu hn hpre hwl
 refine enter_call (codeAny_mono (call w s₀ s₁ mg mb fa o pm cd doc a vs ns G Y ho (fd_plain hd) hcd hmg hobj hints hlen hg) fun r s' hq => ?_)
 obtain ⟨rfl, h2, h3, h4⟩ := hq
 exact ⟨.inl ⟨.bool true, .bool true, [], rfl, fun _ => rfl, .bool true, zhx l _, fun _ => ⟨List.Pairwise.nil, fun _ hm => (nomatch hm)⟩⟩, h2, h3, h4⟩
section
variable {prog : Program} {w : World} {A : Around} {E : Value → Shared → Prop} {s : Shared} {K : Frag}
end
end Att
namespace L2
open PySem PySem.Spec PyProof.Rows
theorem zfq : ∀ {vs : List Value} {ns : List Int}, IntsAre vs ns → Vals (ns.map V.int) vs
 | _, _, .nil => .nil
 | _, _, .cons n t h => .cons ⟨t, rfl⟩ (zfq h)
def Only (H : Hp) : Prop := ∀ b, H b = none ∨ ∃ o xs, H b = some (.frz o (.lst xs))
theorem zje {P : Program} {w : World} {K : PySem.W.Frag} {mg mb : Str → Option Value} {CX : CXT} {k : Nat} {fa a : Addr} {fd : FuncData} {x : Str} {sp : Sp} {s₁ : Shared} {vs : List Value} {ns : List Int}
   (KX : K.In s₁.heap) (hns : s₁.heap.Ns mainGlobals mg) (hb : s₁.heap.Ns builtinsNs mb) (hbb : ∀ x : Str, x ≠ "__name__" → mb x = bootBuiltins x) (hlim : s₁.heap.NoLimit) (hg : s₁.gens = #[])
   (ha : s₁.heap.get? a = some { cls := .type "list", data := .seq vs.toArray }) (hi : IntsAre vs ns) (hl : ns.length ≤ sizeLine) (hr : Room k callerA)
   (F : ∀ base : Heap, K.In base → base.Ns mainGlobals mg → FnOk P w K mg base CX k fa fd [x] sp) (hbind : ∀ (s : Shared) (u : Value), BindsTo s fd ⟨[u], []⟩ [(x, u)])
   (hsp : ∀ H : Hp, Only H → SqL K H a (ns.map V.int) → sp [.ref a] H (fun v _ => v = .bl true) fun _ _ _ => False)
   (hCX : ∀ H e s', CX [] H s₁ (fun _ _ _ => False) e s' → False) :
   codeAny (model P w) callerA (.call (.ref fa) ⟨[.ref a], []⟩) (fun r s' => r = .ok (.ret (.bool true)) ∧ OldK s₁.heap s'.heap ∧ s'.os = s₁.os ∧ AllBare s'.gens) s₁ := by
 have rv := zfq hi
 have lenV := hi.length
 have core : ∀ H : Hp, Only H → SqL K H a (ns.map V.int) → HOk P w H s₁.heap → (∀ b, H b ≠ none → b = a) → (H a ≠ none → K.lookup a = none) →
     codeAny (model P w) callerA (.call (.ref fa) ⟨[.ref a], []⟩) (fun r s' => r = .ok (.ret (.bool true)) ∧ OldK s₁.heap s'.heap ∧ s'.os = s₁.os ∧ AllBare s'.gens) s₁ := by
   intro H hO hS hok hA hK
   have base_of : ∀ {b : Addr} {o : Obj}, s₁.heap.get? b = some o → H b = none → (hidT s₁.heap H).get? b = some o := fun e n => zjl e n
   have noA : ∀ {b : Addr} {o : Obj} {es : Array DictEntry} {ep : Nat}, s₁.heap.get? b = some o → o.data = .dict es ep → H b = none := fun {b o es ep} e d => by
     cases q : H b with
     | none => rfl
     | some u =>
       have e' : b = a := hA b (by rw [q]; simp)
       subst e'
       rw [ha] at e; cases e
       have d' : Data.seq vs.toArray _ = Data.dict es ep := d
       cases d'
   have nsK : ∀ {b : Addr} {m : Str → Option Value}, s₁.heap.Ns b m → (hidT s₁.heap H).Ns b m := fun {b m} ⟨o, es, ep, e, d, r⟩ => ⟨o, es, ep, base_of e (noA e d), d, r⟩
   have hKb : K.In (hidT s₁.heap H) := fun b o e => base_of (KX b o e) (by
     cases q : H b with
     | none => rfl
     | some u =>
       have e' : b = a := hA b (by rw [q]; simp)
       subst e'
       rw [hK (by rw [q]; simp)] at e; cases e)
   have hM : Mod K mg (hidT s₁.heap H) := ⟨hKb, nsK hns, ⟨mb, nsK hb, hbb⟩, let ⟨mc, h1, h2⟩ := hlim; ⟨mc, nsK h1, h2⟩⟩
   have e0 : Env0 P w K mg (hidT s₁.heap H) callerA [] s₁ H := ⟨rfl, hM, fun b o e => zk1 e, Nat.le_of_eq (zh0 _ _), trivial, fun b hb => absurd (show b ∈ ([] : List Addr) from hb) (by simp), hok, .of_eq hg⟩
   refine codeAny_mono ((F _ hKb (nsK hns)).run callerA [] s₁ H ⟨[.ref a], []⟩ [.ref a] [.ref a] _ _ hr e0 (hbind s₁ (.ref a)) (.cons rfl .nil) (hsp H hO hS)) fun r s' h => ?_
   cases r with
   | error e => exact (hCX H e s' h).elim
   | ok fl =>
     cases fl with
     | next => exact False.elim h
     | brk => exact False.elim h
     | cont => exact False.elim h
     | ret u =>
       obtain ⟨v, H', os, bare, un, hok', r', q⟩ := h
       have q' : v = .bl true := q
       subst q'
       obtain rfl : u = Value.bool true := r'
       refine ⟨rfl, OldK.of_keep fun b o e => ?_, os, bare⟩
       cases q : H b with
       | none => exact un.keep b o e q (by intro z; exact absurd (show b ∈ ([] : List Addr) from z) (by simp)) (by simp)
       | some u =>
         rcases hO b with z | ⟨ob, xs, z⟩
         · rw [q] at z; cases z
         · have z2 := un.frzs b ob _ z
           obtain ⟨e1, _⟩ := hok b _ z
           obtain ⟨e2, _⟩ := hok' b _ z2
           rw [e] at e1; cases e1
           exact e2
 cases hk : K.lookup a with
 | some o =>
   have e := KX a o hk
   rw [ha] at e
   cases e
   refine core (fun _ => none) (fun _ => .inl rfl) (.inr ⟨_, vs.toArray, _, hk, rfl, rfl, rfl, by rw [List.size_toArray, lenV]; exact hl, by simpa using rv⟩) (fun b u z => by have z' : (none : Option HO) = some u := z; cases z') (fun b z => absurd rfl z) fun z => absurd rfl z
 | none =>
   refine core (fun b => if b = a then some (.frz { cls := .type "list", data := .seq vs.toArray } (.lst (ns.map V.int))) else none) (fun b => ?_) (.inl (.inr ⟨{ cls := .type "list", data := .seq vs.toArray }, if_pos rfl⟩)) (fun b u z => ?_) (fun b z => ?_) fun _ => hk
   · by_cases hb : b = a
     · exact .inr ⟨_, _, if_pos hb⟩
     · exact .inl (if_neg hb)
   · by_cases hb : b = a
     · have z' := (if_pos hb).symm.trans z
       cases z'
       subst hb
       exact ⟨ha, by rw [List.length_map]; exact hl, vs, _, rv, ha⟩
     · have z' := (if_neg hb).symm.trans z
       cases z'
   · by_cases hb : b = a
     · exact hb
     · exact absurd (if_neg hb) z
end L2
namespace L2
open PySem PySem.Spec PyProof.Rows
end L2
namespace L2
open PySem PySem.Spec PyProof.Rows
def defArgs (s : Stmt) : Arguments := match s with
 | .FunctionDef _ a _ _ _ _ _ _ _ _ => a
 | _ => { posonlyargs := [], args := [], vararg := none, kwonlyargs := [], kw_defaults := [], kwarg := none, defaults := [] }
def defBody (s : Stmt) : List Stmt := match s with
 | .FunctionDef _ _ b _ _ _ _ _ _ _ => b
 | _ => []
def defScope (s : Stmt) : Scope := match s with
 | .FunctionDef _ _ _ _ _ _ sc _ _ _ => sc
 | _ => { kind := .function, names := [], isGenerator := false, isCoroutine := false }
abbrev CX0 : CXT := fun _ _ _ _ _ _ => False
abbrev E0 : XK := fun _ _ _ => False
theorem pass0 {X : Cx} : Passes CX0 X E0 := fun _ _ _ _ _ _ _ h => h.elim
structure Fun (K : PySem.W.Frag) (x qual : Str) (st : Stmt) (f : Addr) (fd : FuncData) : Prop where
 ex : ∃ (oc : Value) (od : Option Addr) (kV doc pm : Value) (an : Option Addr) (cdv ct : Value) (osl : Array (Option Value)),
   fd = PySem.W.fnOf x qual (defArgs st) (defBody st) (defScope st) .none kV doc pm an cdv ct ∧ K.lookup f = some ⟨oc, od, .func fd, osl⟩ ∧ PySem.W.codeIn K cdv qual = true
 kp : PySem.W.keepIn K (.ref f) = true
section
variable {P : Program} {w : World} {K : PySem.W.Frag} {mg : Str → Option Value} {base : Heap}
theorem Fun.ok {x qual : Str} {st : Stmt} {f : Addr} {fd : FuncData} {N ps : List Str} {k : Nat} {sp : Sp} (F : Fun K x qual st f fd) (S : FnScope N ps (defScope st)) (len : ∀ vs H Q E, sp vs H Q E → vs.length = ps.length)
   (hbody : ∀ (cdv : Value) (A : Around) (outer : List Env) (s : Shared) (H : Hp) (vs : List V) (Q : VK) (E : XK), Room k (A.deeper (envOfC qual (defScope st) s.heap.objs.size f cdv)) → sp vs H Q E →
     ∃ t, PSs (cxOf CX0 P w K mg base N qual (defScope st) f cdv A outer s H E).nox (defBody st) t ∧ t { nx := fun _ H' => Q .non H', rt := Q } (start N vs) H) : FnOk P w K mg base CX0 (k + 1) f fd ps sp := by
 obtain ⟨oc, od, kV, doc, pm, an, cdv, ct, osl, rfl, lk, hcd⟩ := F.ex
 refine zn3 lk hcd S len fun A outer s H vs Q E hr hsp => ?_
 obtain ⟨t, h, q⟩ := hbody cdv A outer s H vs Q E hr hsp
 exact ⟨t, h.nox, q⟩
theorem Fun.binds {x qual : Str} {st : Stmt} {f : Addr} {fd : FuncData} {ps : List Str} (F : Fun K x qual st f fd)
   (h : ∀ (kV doc pm : Value) (an : Option Addr) (cdv ct : Value) (us : List Value), us.length = ps.length → bindArgs (PySem.W.fnOf x qual (defArgs st) (defBody st) (defScope st) .none kV doc pm an cdv ct) ⟨us, []⟩ = pure (ps.zip us)) : Binds K fd ps [] := by
 obtain ⟨oc, od, kV, doc, pm, an, cdv, ct, osl, rfl, lk, hcd⟩ := F.ex
 exact .all (h kV doc pm an cdv ct)
theorem zm9 {x qual : Str} {st : Stmt} {f : Addr} {oc : Value} {od an : Option Addr} {osl : Array (Option Value)} {kV doc pm cdv ct : Value} (l : K.lookup f = some ⟨oc, od, .func (PySem.W.fnOf x qual (defArgs st) (defBody st) (defScope st) .none kV doc pm an cdv ct), osl⟩)
   (c : PySem.W.codeIn K cdv qual = true) (k : PySem.W.keepIn K (.ref f) = true) : Fun K x qual st f (PySem.W.fnOf x qual (defArgs st) (defBody st) (defScope st) .none kV doc pm an cdv ct) := ⟨⟨oc, od, kV, doc, pm, an, cdv, ct, osl, rfl, l, c⟩, k⟩
end
section
variable {X : Cx}
end
def Same (H H' : Hp) : Prop := ∀ b o, H b = some o → H' b = some o
theorem Same.refl (H : Hp) : Same H H := fun _ _ h => h
theorem Same.seq {K : PySem.W.Frag} {H H' : Hp} {a : Addr} {xs : List V} (e : Same H H') (h : SqL K H a xs) : SqL K H' a xs := by
 rcases h with (h | ⟨o, h⟩) | h
 · exact .inl (.inl (e _ _ h))
 · exact .inl (.inr ⟨o, e _ _ h⟩)
 · exact .inr h
end L2
end
section
set_option autoImplicit false
namespace PySem
open Sem (wp)
section
variable {prog : Program} {w : World} {K : Type} [DecidableEq K] (knd : KeyKind prog w K)
inductive NItems (h : Heap) : List (List K) → List Value → Prop
 | nil : NItems h [] []
 | cons {k : List K} {b : Addr} {ks : List (List K)} {vs : List Value} : IsTupleKey knd h k b → NItems h ks vs → NItems h (k :: ks) (.ref b :: vs)
def IsNestKey (h : Heap) (ks : List (List K)) (a : Addr) : Prop := ∃ o items n, h.get? a = some o ∧ o.cls = .type "tuple" ∧ o.data = .seq items n ∧ NItems knd h ks items.toList
variable {knd}
theorem NItems.inj {h : Heap} {x y : List (List K)} {vs : List Value} (hx : NItems knd h x vs) (hy : NItems knd h y vs) : x = y := by
 induction hx generalizing y with
 | nil => cases hy; rfl
 | cons h1 _ ih =>
   cases hy with
   | cons h2 t2 => rw [h1.inj h2, ih t2]
theorem IsNestKey.typeIs {s : Shared} {ks : List (List K)} {a : Addr} (x : IsNestKey knd s.heap ks a) : s.TypeIs (.ref a) "tuple" := let ⟨o, _, _, ho, hc, _⟩ := x; ⟨o, ho, hc⟩
theorem IsNestKey.inj {h : Heap} {a : Addr} {x y : List (List K)} (hx : IsNestKey knd h x a) (hy : IsNestKey knd h y a) : x = y := by
 obtain ⟨o, items, n, ho, _, hd, hi⟩ := hx
 obtain ⟨o', items', n', ho', _, hd', hi'⟩ := hy
 obtain rfl : o = o' := Option.some.inj (ho.symm.trans ho')
 rw [hd] at hd'
 injection hd' with h1 _
 subst h1
 exact hi.inj hi'
theorem NItems.keeps {h h' : Heap} {d : Addr} {o : Obj} {es ep} (ho : h.get? d = some o) (hd : o.data = .dict es ep) (hs : Heap.SameBut d h h') {ks : List (List K)} {vs : List Value} (x : NItems knd h ks vs) : NItems knd h' ks vs := by
 induction x with
 | nil => exact .nil
 | cons h1 _ ih => exact .cons (h1.keeps ho hd hs) ih
theorem IsNestKey.keeps {h h' : Heap} {ks : List (List K)} {a d : Addr} {o : Obj} {es ep} (x : IsNestKey knd h ks a) (ho : h.get? d = some o) (hd : o.data = .dict es ep) (hs : Heap.SameBut d h h') : IsNestKey knd h' ks a := by
 obtain ⟨o', items, n, ho', hc, hd', hi⟩ := x
 have hne : a ≠ d := by
   rintro rfl
   obtain rfl : o' = o := Option.some.inj (ho'.symm.trans ho)
   rw [hd] at hd'; exact nomatch hd'
 exact ⟨o', items, n, (hs.2 a hne).trans ho', hc, hd', hi.keeps ho hd hs⟩
def nestDraws (ks : List (List K)) : Nat := (ks.map fun k => k.length + 1).sum
def nestHash (knd : KeyKind prog w K) (ks : List (List K)) : Int := reduceHash (Builtin.Tuple.tupleHashOf (ks.map (tupleKeyHash knd)))
variable {A : Around} {E : Value → Shared → Prop} {s : Shared}
theorem zdn {ks : List (List K)} {a : Addr} {Q : Int → Shared → Prop} (hu : A.units + 1 < cLine) (hk : IsNestKey knd s.heap ks a) (h : Q (nestHash knd ks) { s with toks := s.toks + (nestDraws ks + 1) }) :
   wpAny (model prog w) A (pyHash (.ref a)) Q E s := by
 have hT := hk.typeIs
 obtain ⟨o, items, n, ho, _, hd, hi⟩ := hk
 unfold pyHash
 first | unfold pyHashByItsType | skip
 first | refine wpAny_bind (wpAny_cRoomFor_or (.inr (Nat.lt_of_le_of_lt (Nat.le_succ _) hu)) ?_) | skip
 refine wpAny_bind (wpAny_specialOf hT F.slot_tuple_hash.lookup ?_)
 show wpAny _ _ (if (some (Value.builtin "tuple.__hash__") == some Value.none) = true then _ else _) Q E s
 rw [if_neg (by rw [beq_builtin_none]; exact Bool.false_ne_true)]
 refine wpAny_bind (wpAny_specialOf hT F.slot_tuple_hash.lookup ?_)
 show wpAny _ _ (callSpecialIfBoundUnlessNone? (.ref a) "__hash__" _ >>= _) Q E s
 refine wpAny_bind (wpAny_callSpecialIfBoundUnlessNone?_slot hT F.slot_tuple_hash (wpAny_call_entry F.slot_tuple_hash hT F.entry_tuple_hash ?_ (F.args_tuple_hash_1 _)))
 show wpAny _ _ (Builtin.Tuple.tupleItemsOf (.ref a) >>= _) _ _ s
 refine wpAny_bind (wpAny_tupleItemsOf ho hd ?_)
 refine wpAny_bind ?_
 rw [← Array.forIn_toList]
 refine wpAny_forIn_list _
   (fun rest (b : Array Int) s' => ∃ done left, ks = done ++ left ∧ NItems knd s.heap left rest ∧ b.toList = done.map (tupleKeyHash knd) ∧ s' = { s with toks := s.toks + nestDraws done })
   _ ?_ ?_ _ _ ⟨[], ks, rfl, hi, rfl, rfl⟩
 · rintro x rest b s' ⟨done, left, rfl, hl, hb, rfl⟩
   cases hl with
   | @cons k b' ks' _ h1 hl' =>
     have hd2 : nestDraws (done ++ [k]) = nestDraws done + (k.length + 1) := by simp [nestDraws]
     refine wpAny_bind (wpAny_pyHash_tuple (s := { s with toks := s.toks + nestDraws done }) ?_ h1 ?_)
     · exact hu
     first
       | exact wpAny_pure ⟨done ++ [k], ks', by simp, hl', by simp [hb], by rw [hd2]; simp [Nat.add_assoc]⟩
       | exact wpAny_bind (wpAny_pure (wpAny_pure ⟨done ++ [k], ks', by simp, hl', by simp [hb], by rw [hd2]; simp [Nat.add_assoc]⟩))
 · rintro b s' ⟨done, left, rfl, hl, hb, rfl⟩
   cases hl
   rw [List.append_nil] at h
   show wpAny _ _ (retInt (Builtin.Tuple.tupleHashOf b.toList)) _ _ _
   rw [hb]
   refine wpAny_ret_mkInt ?_
   show wpAny _ _ (if (decide (-(2 : Int) ^ 63 ≤ Builtin.Tuple.tupleHashOf (done.map (tupleKeyHash knd))) && decide (Builtin.Tuple.tupleHashOf (done.map (tupleKeyHash knd)) < 2 ^ 63)) = true then _ else _) Q E _
   unfold nestHash reduceHash at h
   by_cases hr : (decide (-(2 : Int) ^ 63 ≤ Builtin.Tuple.tupleHashOf (done.map (tupleKeyHash knd))) && decide (Builtin.Tuple.tupleHashOf (done.map (tupleKeyHash knd)) < 2 ^ 63)) = true
   · rw [if_pos hr]
     rw [if_pos hr] at h
     exact wpAny_pure (by simpa [Nat.add_assoc] using h)
   · rw [if_neg hr]
     rw [if_neg hr] at h
     exact wpAny_bind (wpAny_rule (wpAny_pure (by simpa [Nat.add_assoc] using h)))
theorem zfz {x y : List (List K)} {a b : Addr} {P : Fin → Shared → Prop} (hu : A.units < cLine) (hx : IsNestKey knd s.heap x a) (hy : IsNestKey knd s.heap y b) (h : P (.done (.ret (.bool (decide (x = y))))) s) :
   wpAny (model prog w) A (Builtin.«tuple.__eq__» ⟨[.ref a, .ref b], []⟩) P E s := by
 have hTb := hy.typeIs
 obtain ⟨oa, xs, na, hoa, _, hda, hia⟩ := hx
 obtain ⟨ob, ys, nb, hob, _, hdb, hib⟩ := hy
 show wpAny _ _ (isInstance (.ref b) (.type "tuple") >>= _) _ _ s
 refine wpAny_bind (wpAny_isInstance hTb isSubtype_tuple_tuple ?_)
 simp only [Bool.not_true, Bool.false_eq_true, if_false]
 refine wpAny_bind (wpAny_tupleItemsOf hoa hda ?_)
 refine wpAny_bind (wpAny_tupleItemsOf hob hdb ?_)
 refine wpAny_bind ?_
 refine wpAny_forIn_list _
   (fun rest r s' => r.1 = none ∧ s' = s ∧ ∃ x' y' xs' ys', rest = List.zip xs' ys' ∧ NItems knd s.heap x' xs' ∧ NItems knd s.heap y' ys' ∧ decide (x' = y') = decide (x = y) ∧ (xs'.length == ys'.length) = (xs.size == ys.size))
   _ ?_ ?_ _ _ ⟨rfl, rfl, x, y, xs.toList, ys.toList, rfl, hia, hib, rfl, by simp⟩
 · rintro ⟨u, v⟩ rest r s' ⟨hr, rfl, x', y', xs', ys', hz, hx', hy', hdec, hlen⟩
   cases hx' with
   | nil => simp at hz
   | @cons k1 u' x'' xs'' h1 hx'' =>
     cases hy' with
     | nil => simp at hz
     | @cons k2 v' y'' ys'' h2 hy'' =>
       simp only [List.zip_cons_cons, List.cons.injEq, Prod.mk.injEq] at hz
       obtain ⟨⟨rfl, rfl⟩, rfl⟩ := hz
       refine wpAny_bind (wpAny_eqBool_tuple (x := k1) (y := k2) hu h1 h2 ?_)
       by_cases hk : k1 = k2
       · subst hk
         rw [decide_eq_true rfl]
         simp only [Bool.not_true, Bool.false_eq_true, if_false]
         refine wpAny_pure ⟨rfl, rfl, x'', y'', xs'', ys'', rfl, hx'', hy'', ?_, by simpa using hlen⟩
         rw [← hdec]
         by_cases hxy : x'' = y''
         · simp [hxy]
         · simp [hxy]
       · rw [decide_eq_false hk]
         simp only [Bool.not_false, if_true]
         have hf : decide (x = y) = false := by rw [← hdec]; simp [hk]
         rw [hf] at h
         exact wpAny_bind (wpAny_pure (wpAny_pure (wpAny_pure h)))
 · rintro ⟨r1, r2⟩ s' ⟨hr, rfl, x', y', xs', ys', hz, hx', hy', hdec, hlen⟩
   simp only at hr
   subst hr
   refine wpAny_pure ?_
   have hfin : (xs.size == ys.size) = decide (x = y) := by
     rw [← hdec, ← hlen]
     cases hx' with
     | nil =>
       cases hy' with
       | nil => simp
       | cons _ _ => simp
     | cons _ _ =>
       cases hy' with
       | nil => simp
       | cons _ _ => simp at hz
   show P (.done (.ret (.bool (xs.size == ys.size)))) s'
   rw [hfin]; exact h
theorem zdo {x y : List (List K)} {a b : Addr} {Q : Bool → Shared → Prop} (hu : A.units + 2 < cLine) (hx : IsNestKey knd s.heap x a) (hy : IsNestKey knd s.heap y b) (h : Q (decide (x = y)) s) :
   wpAny (model prog w) A (eqBool (.ref a) (.ref b)) Q E s := by
 unfold eqBool
 try with_reducible refine wpAny_holding ?_
 show wpAny _ _ (if (Value.ref a == Value.ref b) = true then _ else _) Q E s
 by_cases hab : (Value.ref a == Value.ref b) = true
 · rw [if_pos hab]
   have e : a = b := by have := eq_of_beq hab; injection this
   subst e
   obtain rfl := hx.inj hy
   exact wpAny_bind (wpAny_rule (wpAny_pure (by simpa using h)))
 · rw [if_neg hab]
   refine wpAny_bind (wpAny_richCompare_same_room (op := .Eq) hx.typeIs hy.typeIs F.slot_tuple_eq
     (wpAny_call_entry F.slot_tuple_eq hx.typeIs F.entry_tuple_eq (zfz ?_ hx hy ⟨_, rfl, (fun e => nomatch e), wpAny_truthy_bool h⟩) (F.args_tuple_eq_2 _ _)) (Nat.lt_of_le_of_lt (Nat.le_add_right _ 2) hu))
   show A.units + 1 < cLine
   omega
theorem zf2 (n : Nat) {ks : List K} {a : Addr} {Q : Bool → Shared → Prop} (hk : IsTupleKey knd s.heap ks a) (h : Q true s) : wpAny (model prog w) A (eqIsQuiet (n + 1) (.ref a)) Q E s := by
 have hT := hk.typeIs
 obtain ⟨o, items, m, ho, _, hd, hi⟩ := hk
 unfold eqIsQuiet
 refine wpAny_bind (wpAny_specialOf hT F.slot_tuple_eq.lookup ?_)
 show wpAny _ _ (isInstance (.ref a) (.type "tuple") >>= _) _ _ s
 refine wpAny_bind (wpAny_isInstance hT isSubtype_tuple_tuple ?_)
 simp only [Bool.not_true, Bool.false_eq_true, if_false]
 refine wpAny_bind (wpAny_seqItems ho hd ?_)
 refine wpAny_bind ?_
 show wpAny _ _ (forIn items _ _) _ _ s
 rw [← Array.forIn_toList]
 refine wpAny_forIn_list _ (fun rest r s' => r.1 = none ∧ s' = s ∧ ∀ v ∈ rest, carriedByValue v = true) _ ?_ ?_ _ _ ⟨rfl, rfl, hi.byValue⟩
 · rintro v rest r s' ⟨hr, rfl, hall⟩
   rw [eqIsQuiet_byValue _ (hall v List.mem_cons_self)]
   refine wpAny_bind (wpAny_pure ?_)
   simp only [Bool.not_true, Bool.false_eq_true, if_false]
   exact wpAny_pure ⟨rfl, rfl, fun u hu' => hall u (List.mem_cons_of_mem _ hu')⟩
 · rintro ⟨r1, r2⟩ s' ⟨hr, rfl, _⟩
   simp only at hr
   subst hr
   exact wpAny_pure h
theorem zcJ {ks : List (List K)} {a : Addr} {Q : Bool → Shared → Prop} (hk : IsNestKey knd s.heap ks a) (h : Q true s) : wpAny (model prog w) A (eqIsQuiet 8 (.ref a)) Q E s := by
 have hT := hk.typeIs
 obtain ⟨o, items, m, ho, _, hd, hi⟩ := hk
 unfold eqIsQuiet
 refine wpAny_bind (wpAny_specialOf hT F.slot_tuple_eq.lookup ?_)
 show wpAny _ _ (isInstance (.ref a) (.type "tuple") >>= _) _ _ s
 refine wpAny_bind (wpAny_isInstance hT isSubtype_tuple_tuple ?_)
 simp only [Bool.not_true, Bool.false_eq_true, if_false]
 refine wpAny_bind (wpAny_seqItems ho hd ?_)
 refine wpAny_bind ?_
 show wpAny _ _ (forIn items _ _) _ _ s
 rw [← Array.forIn_toList]
 refine wpAny_forIn_list _ (fun rest r s' => r.1 = none ∧ s' = s ∧ ∃ left, NItems knd s.heap left rest) _ ?_ ?_ _ _ ⟨rfl, rfl, ks, hi⟩
 · rintro v rest r s' ⟨hr, rfl, left, hl⟩
   cases hl with
   | cons h1 hl' =>
     refine wpAny_bind (zf2 6 h1 ?_)
     simp only [Bool.not_true, Bool.false_eq_true, if_false]
     exact wpAny_pure ⟨rfl, rfl, _, hl'⟩
 · rintro ⟨r1, r2⟩ s' ⟨hr, rfl, _⟩
   simp only at hr
   subst hr
   exact wpAny_pure h
end
def nestKind {prog : Program} {w : World} {K : Type} [DecidableEq K] (knd : KeyKind prog w K) : HeapKind prog w (List (List K)) where
 is := IsNestKey knd
 hash := nestHash knd
 draws := fun ks => nestDraws ks + 1
 room := fun A => A.units + 2 < cLine
 inj := fun hx hy => hx.inj hy
 keeps := fun x ho hd hs => x.keeps ho hd hs
 pyHash := fun hu hk h => zdn (Nat.lt_of_le_of_lt (Nat.le_succ _) hu) hk h
 eqBool := fun hu hx hy h => zdo hu hx hy h
 quiet := fun hk h => zcJ hk h
end PySem
end
section
set_option autoImplicit false
namespace MX
open PySem PySem.Spec PyProof.Rows L2
abbrev NK := List (List Int)
def hashN (k : NK) : Int := reduceHash (Builtin.Tuple.tupleHashOf (k.map fun ks => reduceHash (Builtin.Tuple.tupleHashOf (ks.map hashInt))))
def entN (x : NK × Addr × Value) : DictEntry := ⟨hashN x.1, .ref x.2.1, x.2.2⟩
def IsDc (h : Heap) (d : Addr) (xs : List (NK × Addr × Value)) : Prop := ∃ o es, h.get? d = some o ∧ o.ExactDict ∧ o.data = .dict es xs.length ∧ es.toList = xs.map entN ∧ (xs.map (·.1)).Nodup
def dctO (a : Addr) (xs : List (NK × Addr × Value)) : HO := .ext fun h => (a == sysModules) = false ∧ xs.length ≤ sizeLine ∧ IsDc h a xs
def NKey (K : PySem.W.Frag) (H : Hp) (k : NK) (b : Addr) : Prop := ∃ bs : List Addr, SqT K H b (bs.map V.ref) ∧ Paired (fun (ks : List Int) (c : Addr) => SqT K H c (ks.map V.int)) k bs
theorem NKey.mono {K : PySem.W.Frag} {H H' : Hp} {k : NK} {b : Addr} (t : ∀ a vs, SqT K H a vs → SqT K H' a vs) (h : NKey K H k b) : NKey K H' k b := by
 obtain ⟨bs, h1, h2⟩ := h
 refine ⟨bs, t _ _ h1, ?_⟩
 clear h1
 induction h2 with
 | nil => exact .nil
 | cons hc _ ih => exact .cons (t _ _ hc) ih
inductive DR (K : PySem.W.Frag) (H : Hp) : List (NK × Int) → List (NK × Addr × Value) → Prop
 | nil : DR K H [] []
 | cons {k : NK} {i : Int} {b : Addr} {t : Tok} {xs : List (NK × Int)} {ys : List (NK × Addr × Value)} : NKey K H k b → DR K H xs ys → DR K H ((k, i) :: xs) ((k, b, .int i t) :: ys)
def getO (xs : List (NK × Int)) (k : NK) : Option Int := (xs.find? fun x => decide (x.1 = k)).map (·.2)
def putN (xs : List (NK × Int)) (k : NK) (i : Int) : List (NK × Int) := if (getO xs k).isSome then xs.map (fun x => if x.1 = k then (x.1, i) else x) else xs ++ [(k, i)]
section
variable {K : PySem.W.Frag} {H H' : Hp} {xs : List (NK × Int)} {ys : List (NK × Addr × Value)}
theorem DR.mono (t : ∀ a vs, SqT K H a vs → SqT K H' a vs) (h : DR K H xs ys) : DR K H' xs ys := by
 induction h with
 | nil => exact .nil
 | cons hc _ ih => exact .cons (hc.mono t) ih
theorem DR.length (h : DR K H xs ys) : xs.length = ys.length := by
 induction h with
 | nil => rfl
 | cons _ _ ih => simp [ih]
theorem DR.keys (h : DR K H xs ys) : ∀ y ∈ ys, NKey K H y.1 y.2.1 := by
 induction h with
 | nil => intro y hy; cases hy
 | cons hc _ ih =>
   intro y hy
   rcases List.mem_cons.mp hy with rfl | hy
   · exact hc
   · exact ih y hy
theorem DR.get (h : DR K H xs ys) : ∀ {i : Nat} {x : NK × Int}, xs[i]? = some x → ∃ b t, ys[i]? = some (x.1, b, .int x.2 t) ∧ NKey K H x.1 b := by
 induction h with
 | nil => intro i x e; simp at e
 | @cons k j b t xs ys hc _ ih =>
   intro i x e
   cases i with
   | zero =>
     simp only [List.getElem?_cons_zero, Option.some.injEq] at e
     subst e
     exact ⟨b, t, rfl, hc⟩
   | succ n => exact ih (by simpa using e)
theorem DR.at (h : DR K H xs ys) (k : NK) : (atKey ys k = none ∧ getO xs k = none) ∨ ∃ b i t, atKey ys k = some (b, .int i t) ∧ getO xs k = some i := by
 induction h with
 | nil => exact .inl ⟨rfl, rfl⟩
 | @cons k' j b t xs ys hc _ ih =>
   by_cases hk : k' = k
   · exact .inr ⟨b, j, t, by simp [atKey, hk], by simp [getO, hk]⟩
   · have e1 : atKey ((k', b, Value.int j t) :: ys) k = atKey ys k := by simp [atKey, hk]
     have e2 : getO ((k', j) :: xs) k = getO xs k := by simp [getO, hk]
     rw [e1, e2]; exact ih
theorem DR.snoc (h : DR K H xs ys) {k : NK} {b : Addr} {i : Int} {t : Tok} (hb : NKey K H k b) : DR K H (xs ++ [(k, i)]) (ys ++ [(k, b, .int i t)]) := by
 induction h with
 | nil => exact .cons hb .nil
 | cons hc _ ih => exact .cons hc ih
theorem DR.over (h : DR K H xs ys) {k : NK} {i : Int} {t : Tok} : DR K H (xs.map (fun x => if x.1 = k then (x.1, i) else x)) (ys.map (putAt k (.int i t))) := by
 induction h with
 | nil => exact .nil
 | @cons k' j b t' xs ys hc _ ih =>
   by_cases hk : k' = k
   · simp only [List.map_cons, putAt, hk, if_true]; exact .cons (hk ▸ hc) ih
   · simp only [List.map_cons, putAt, hk, if_false]; exact .cons hc ih
theorem DR.put (h : DR K H xs ys) {k : NK} {b : Addr} {i : Int} {t : Tok} (hb : NKey K H k b) : DR K H (putN xs k i) (storedH ys k b (.int i t)) := by
 unfold putN storedH
 rcases h.at k with ⟨e1, e2⟩ | ⟨b', j, t', e1, e2⟩
 · rw [e1, e2]; exact h.snoc hb
 · rw [e1, e2]; exact h.over
end
section
variable {X : Cx} {pins : List (Addr × Obj)} {σ : L2.St} {H : Hp} {s : Shared}
theorem znv (I : Inv X pins σ H s) : sysModules < s.heap.objs.size := by
 have h : mainGlobals < s.heap.objs.size := (I.mod.glob.keeps I.bk).lt
 exact Nat.lt_trans (by decide) h
theorem zgq (I : Inv X pins σ H s) {b : Addr} {xs : List V} (h : SqT X.K H b xs) : ∃ o items n, s.heap.get? b = some o ∧ o.cls = .type "tuple" ∧ o.data = .seq items n ∧ Vals xs items.toList := by
 rcases h with h | ⟨o, its, n, h1, h2, h3, _, h5⟩
 · obtain ⟨_, its, r, o, h1, h2, n, h3⟩ := (show ObjOk X.prog X.w H s.heap b (.tup xs) from h.ok I.hok)
   exact ⟨o, its.toArray, n, h1, h2, h3, by simpa using r⟩
 · exact ⟨o, its, n, I.kIn _ _ h1, h2, h3, h5⟩
theorem zeQ {P : Program} {w : World} : ∀ {ks : List Int} {us : List Value}, Vals (ks.map V.int) us → ItemsAre (intKind P w) ks us
 | [], _, .nil => .nil
 | k :: ks, _, .cons h t => by
   obtain ⟨tk, rfl⟩ := h
   exact .cons (by show Value.isInt k (.int k tk) = true; simp [Value.isInt]) (zeQ t)
theorem zfw : ∀ {bs : List Addr} {us : List Value}, Vals (bs.map V.ref) us → us = bs.map Value.ref
 | [], _, .nil => rfl
 | b :: bs, _, .cons h t => by
   have e : _ = Value.ref b := h
   rw [List.map_cons, ← zfw t, e]
theorem zfd (I : Inv X pins σ H s) {k : NK} {b : Addr} (h : NKey X.K H k b) : (nestKind (intKind X.prog X.w)).is s.heap k b := by
 obtain ⟨bs, h1, h2⟩ := h
 obtain ⟨o, items, n, e1, e2, e3, e4⟩ := zgq I h1
 refine ⟨o, items, n, e1, e2, e3, ?_⟩
 rw [zfw e4]
 clear e4 h1
 induction h2 with
 | nil => exact .nil
 | cons hc _ ih =>
   obtain ⟨o', items', n', f1, f2, f3, f4⟩ := zgq I hc
   exact .cons ⟨o', items', n', f1, f2, f3, zeQ f4⟩ ih
theorem zcd (I : Inv X pins σ H s) {a : Addr} {xs : List (NK × Addr × Value)} (e : H a = some (dctO a xs)) : (a == sysModules) = false ∧ xs.length ≤ sizeLine ∧ IsDc s.heap a xs :=
 (show ObjOk X.prog X.w H s.heap a (dctO a xs) from I.hok a _ e).1
theorem zni (I : Inv X pins σ H s) {a : Addr} {xs : List (NK × Addr × Value)} (e : H a = some (dctO a xs)) (hk : ∀ x ∈ xs, NKey X.K H x.1 x.2.1) : s.heap.DictOfH (nestKind (intKind X.prog X.w)) a xs := by
 obtain ⟨_, _, o, es, h1, h2, h3, h4, h5⟩ := zcd I e
 exact ⟨o, es, _, h1, h2, h3, h4, fun x hx => zfd I (hk x hx), h5⟩
theorem zij {P : Program} {w : World} {H : Hp} {h : Heap} {a : Addr} {xs : List (NK × Addr × Value)} (h0 : (a == sysModules) = false) (hl : xs.length ≤ sizeLine) (hd : IsDc h a xs) : ObjOk P w H h a (dctO a xs) :=
 ⟨⟨h0, hl, hd⟩, let ⟨o, _, h1, _⟩ := hd; ⟨o, h1⟩, fun g1 g2 ⟨k0, kl, o', es', k1, k2⟩ kk => ⟨k0, kl, o', es', kk _ k1, k2⟩⟩
theorem zi6 {pos : Pos} : PE X (.Dict [] [] pos) (fun _ H Q => ∀ p, H p = none → Q (.ref p) (upd H p (dctO p []))) := fun pins s σ H Q I h =>
 wpAny_Dict_empty ⟨.ref s.heap.objs.size, _, I.laid (a := s.heap.objs.size) (o := dctO s.heap.objs.size []) (t' := s.toks) (fun _ _ q => Heap.get?_push_of_some _ q) (Nat.le_refl _)
   (zij (beq_eq_false_iff_ne.mpr (Ne.symm (Nat.ne_of_lt (znv I)))) (Nat.zero_le _) ⟨_, _, Heap.get?_push_size _ rfl, ⟨rfl, rfl, rfl⟩, rfl, rfl, List.nodup_nil⟩), rfl, h _ (I.hok.fresh (Nat.le_refl _))⟩
theorem znk {A : Around} {E : Value → Shared → Prop} {Q : Value → Shared → Prop} {a b : Addr} {k : NK} {xs : List (NK × Addr × Value)} {r : Value} (hu : A.units + 3 < cLine) (I : Inv X pins σ H s) (e : H a = some (dctO a xs)) (hk : ∀ x ∈ xs, NKey X.K H x.1 x.2.1) (hb : NKey X.K H k b)
   (h : ∀ s', Inv X pins σ H s' → Q (((atKey xs k).map (·.2)).getD r) s') : wpAny (model X.prog X.w) A (call (.builtin "dict.get") [.ref a, .ref b, r]) Q E s := by
 have h0 := (zcd I e).1
 have dd := zni I e hk
 exact call_meetsIn PySem.F.slot_dict_get dd.typeIs PySem.F.entry_dict_get (PySem.F.args_dict_get_3 _ _ _) (meetsH_dict_get_default (nestKind (intKind X.prog X.w)) a b h0 r) ⟨hu, k, xs, zfd I hb, dd, h _ (I.tok _)⟩
end
theorem zjy {prog : Program} {w : World} {A : Around} {E : Value → Shared → Prop} {s : Shared} {d b : Addr} {xs : List (NK × Addr × Value)} {k : NK} {v : Value} {Q : Unit → Shared → Prop} (hu : (nestKind (intKind prog w)).room A)
   (kb : (nestKind (intKind prog w)).is s.heap k b) (hd : IsDc s.heap d xs) (gk : ∀ x ∈ xs, (nestKind (intKind prog w)).is s.heap x.1 x.2.1) (gz : xs.length < sizeLine)
   (q : ∀ h' t, IsDc h' d (storedH xs k b v) → Heap.SameBut d s.heap h' → Q () { s with heap := h', toks := t }) : wpAny (model prog w) A (dictSet d (.ref b) v) Q E s := by
 obtain ⟨o, es, g1, g2, g3, g4, g5⟩ := hd
 have es' : es.size = xs.length := by rw [← Array.length_toList, g4, List.length_map]
 unfold dictSet
 refine wpAny_holding ?_
 refine wpAny_bind ((nestKind (intKind prog w)).pyHash hu kb ?_)
 unfold dictSetHashed
 refine wpAny_holding ?_
 generalize hs1 : s.toks + (nestKind (intKind prog w)).draws k = t1
 refine wpAny_bind (wpAny_dictFind_heap (knd := nestKind (intKind prog w)) (s := { s with toks := t1 }) hu kb g1 g3 g4 gk g5 (fun no => ?_) (fun j p at' => ?_))
 · have e0 : atKey xs k = none := atKey_none_of_get no
   refine wpAny_bind (wpAny_rule (wpAny_updateDictKeys (hz := by omega) (s := { s with toks := t1 }) g1 g3 (q _ t1 ?_ (Heap.SameBut.update ..))))
   rw [storedH_new e0]
   refine ⟨_, es.push ⟨hashN k, .ref b, v⟩, Heap.get?_update_self _ g1 (Obj.isFreed_of_dict (Obj.data_mapDictKeys g3 _)), g2.mapDictKeys _, ?_, ?_, ?_⟩
   · rw [List.length_append]; exact Obj.data_mapDictKeys g3 _
   · rw [Array.toList_push, g4, List.map_append]; rfl
   · rw [List.map_append, List.nodup_append]
     refine ⟨g5, by simp, fun x hx y hy z => ?_⟩
     have : y = k := by simpa using hy
     exact not_mem_keys_of_get no (this ▸ z ▸ hx)
 · have e1 : atKey xs k = some p := atKey_of_get g5 at'
   refine wpAny_bind (wpAny_rule (wpAny_bind (wpAny_updateDict (s := { s with toks := t1 }) g1 g3 (wpAny_point (q _ t1 ?_ (Heap.SameBut.update ..))))))
   rw [storedH_old e1]
   refine ⟨_, es.modify j fun e => { e with val := v }, Heap.get?_update_self _ g1 (Obj.isFreed_of_dict (Obj.data_mapDict g3 _)), g2.mapDict _, ?_, ?_, ?_⟩
   · rw [List.length_map]; exact Obj.data_mapDict g3 _
   · have m := modify_map_putAt entN (fun e : DictEntry => { e with val := v }) k v (fun _ _ => rfl) g5 at'
     rw [← g4] at m
     obtain ⟨l⟩ := es
     simpa using m
   · rw [keys_map_putAt]; exact g5
section
variable {X : Cx} {pins : List (Addr × Obj)} {σ : L2.St} {H : Hp} {s : Shared}
theorem znj {A : Around} {E : Value → Shared → Prop} {Q : Unit → Shared → Prop} {a b : Addr} {k : NK} {xs : List (NK × Addr × Value)} {r : Value} (hu : A.units + 3 < cLine) (I : Inv X pins σ H s) (e : H a = some (dctO a xs)) (hk : ∀ x ∈ xs, NKey X.K H x.1 x.2.1) (hb : NKey X.K H k b) (hl : xs.length < sizeLine)
   (h : ∀ s', Inv X pins σ (upd H a (dctO a (storedH xs k b r))) s' → Q () s') : wpAny (model X.prog X.w) A (setItem (.ref a) (.ref b) r) Q E s := by
 obtain ⟨h0, hl0, hd⟩ := zcd I e
 have tI : s.TypeIs (.ref a) "dict" := let ⟨o, _, g1, g2, _⟩ := hd; ⟨o, g1, g2.1⟩
 have hlen : (storedH xs k b r).length ≤ sizeLine := by
   unfold storedH
   split
   · rw [List.length_map]; exact hl0
   · rw [List.length_append]; exact hl
 unfold setItem
 refine wpAny_holding ?_
 refine wpAny_bind (wpAny_sequenceKey tI (by decide) ?_)
 refine wpAny_bind (wpAny_callSpecial?_slot (name := Str.ofString "__setitem__") tI slot_dict_setitem (wpAny_call_entry slot_dict_setitem tI entry_dict_setitem ?_ (args_dict_setitem _ _ _)))
 refine wpAny_bind (wpAny_notOrdered_dict tI ?_)
 show wpAny _ _ (dictSet a (.ref b) r >>= _) _ _ _
 refine wpAny_bind (zjy hu (zfd I hb) hd (fun x hx => zfd I (hk x hx)) hl fun h' t dd hs => wpAny_pure ⟨.none, rfl, wpAny_pure (h _ ?_)⟩)
 have ho : ∃ u, h'.get? a = some u := let ⟨o, _, g1, _⟩ := dd; ⟨o, g1⟩
 exact I.write (x := a) (e := a) (by rw [e]; exact True.intro) (.inl rfl) (fun c q hc z => (hs.2 c hc).trans z) ho (zij h0 hlen dd)
end
end MX
end
section
set_option autoImplicit false
namespace MX
open PySem PySem.Spec PyProof.Rows L2
section
variable {prog : Program} {w : World} {A : Around} {E : Value → Shared → Prop} {t : Shared}
theorem zja (d : Addr) (hS : (d == sysModules) = false) : MeetsIn prog w (Builtin.«dict.items» ⟨[.ref d], []⟩) (fun _ R t => t.TypeIs (.ref d) "dict" ∧
   R (.ok (.ret (.ref t.heap.objs.size))) { t with heap := t.heap.push { cls := .type "dict_items", data := .fields #[.ref d] } }) :=
 .of_wp fun B R t ⟨tI, q⟩ => by
   unfold Builtin.«dict.items» Builtin.Dict.noArgs
   refine wpAny_bind (wpAny_bind (wpAny_notOrdered_dict tI ?_))
   show wpAny _ _ (pure d) _ _ t
   refine wpAny_pure ?_
   show wpAny _ _ (Builtin.Dict.showsAll d >>= _) _ _ t
   unfold Builtin.Dict.showsAll
   rw [if_neg (by rw [hS]; exact Bool.false_ne_true)]
   exact wpAny_bind (wpAny_pure (wpAny_bind (wpAny_newObj_type (wpAny_pure ⟨_, rfl, q⟩))))
theorem zji {v d : Addr} {xs : List (NK × Addr × Value)} {Q : Value → Shared → Prop} (hv : t.heap.IsItemsView v d) (hd : IsDc t.heap d xs)
   (q : Q (.ref t.heap.objs.size) { t with heap := t.heap.push { cls := .type "dict_itemiterator", data := .fields #[.none, .bool false, .ref d, .int 0 0, .int xs.length 0, .int xs.length 0, .none, .none] } }) :
   wpAny (model prog w) A (pyIter (.ref v)) Q E t := by
 obtain ⟨ob, b1, b2, b3⟩ := id hv
 obtain ⟨o, es, g1, g2, g3, g4, g5⟩ := hd
 have sz : es.size = xs.length := by rw [← Array.length_toList, g4, List.length_map]
 have own : Builtin.Dict_items.ownsTuple "dict_itemiterator" = true := by decide
 refine wpAny_pyIter_slot hv.typeIs F.slot_dict_items_iter (wpAny_call_entry F.slot_dict_items_iter hv.typeIs F.entry_dict_items_iter ?_ (F.args_dict_items_iter_1 _))
 unfold Builtin.«dict_items.__iter__»
 refine wpAny_bind (wpAny_pure (wpAny_bind ?_))
 unfold Builtin.Dict_items.dictOf
 refine wpAny_bind (wpAny_field b1 b3 (x := .ref d) rfl (wpAny_pure (wpAny_bind ?_)))
 unfold Builtin.Dict_items.newIterator
 refine wpAny_bind (wpAny_dictEntries g1 g3 (wpAny_bind (wpAny_dictEpoch g1 g3 ?_)))
 simp only [own, if_true]
 refine wpAny_newObj_type (wpAny_pure ⟨_, rfl, "dict_itemiterator", _, ⟨_, Heap.get?_push_size _ rfl, rfl⟩, F.slot_dict_itemiterator_next.lookup, ?_⟩)
   (by simp only [sizeOk, Builtin.Dict_items.ownedTupleFields, List.size_toArray, List.length_append, List.length_cons, List.length_nil, sizeLine_eq] <;> omega)
 simpa [rawInt, sz, Builtin.Dict_items.ownedTupleFields] using q
theorem zk2 {it d b : Addr} {i : Nat} {xs : List (NK × Addr × Value)} {k : NK} {v ok ov : Value} {Q : Option Value → Shared → Prop} (g : IsItemIter t.heap it d i xs.length xs.length ok ov) (hd : IsDc t.heap d xs) (hx : xs[i]? = some (k, b, v))
   (q : ∀ h', IsItemIterOut h' it d (i + 1) xs.length xs.length (.ref b) v t.heap.objs.size → h'.get? t.heap.objs.size = some { cls := .type "tuple", data := .seq #[.ref b, v] } → h'.objs.size = t.heap.objs.size + 1 →
     (∀ c o, c ≠ it → t.heap.get? c = some o → h'.get? c = some o) → Q (some (.ref t.heap.objs.size)) { t with heap := h' }) : wpAny (model prog w) A (pyNext (.ref it)) Q E t := by
 obtain ⟨hp, gg, dr, tk, os⟩ := t
 obtain ⟨o, es, g1, g2, g3, g4, g5⟩ := hd
 have sz : es.size = xs.length := by rw [← Array.length_toList, g4, List.length_map]
 have il : i < xs.length := (List.getElem?_eq_some_iff.mp hx).1
 have il' : i < es.size := by omega
 have ee : es[i] = ⟨hashN k, .ref b, v⟩ := by
   have e : es.toList[i]? = some (entN (k, b, v)) := by rw [g4, List.getElem?_map, hx]; rfl
   rw [Array.getElem?_toList, Array.getElem?_eq_getElem il'] at e
   exact Option.some.inj e
 have own : Builtin.Dict_items.ownsTuple "dict_itemiterator" = true := by decide
 have tI : Shared.TypeIs ⟨hp, gg, dr, tk, os⟩ (.ref it) "dict_itemiterator" := ⟨_, g, rfl⟩
 unfold pyNext
 refine wpAny_bind (wpAny_attempt (wpAny_callSpecial?_slot (name := Str.ofString "__next__") tI F.slot_dict_itemiterator_next
   (wpAny_call_entry F.slot_dict_itemiterator_next tI F.entry_dict_itemiterator_next ?_ (F.args_dict_itemiterator_next_1 _))))
 refine wpAny_bind (wpAny_pure (wpAny_bind (wpAny_bind ?_)))
 first | refine wpAny_bind (wpAny_typeNameOfWhole_itemiter tI (wpAny_pure ?_)) | refine wpAny_bind (wpAny_typeNameOf_itemiter tI (wpAny_pure ?_))
 refine wpAny_bind (wpAny_fieldsOf g rfl ?_)
 simp only [own, if_true]
 show wpAny _ _ (if (Value.ref d == Value.none) = true then _ else _) _ _ ⟨hp, gg, dr, tk, os⟩
 rw [if_neg (show ¬ ((Value.ref d == Value.none) = true) from fun z => nomatch z)]
 refine wpAny_bind (wpAny_pure (wpAny_bind (wpAny_dictEntries g1 g3 ?_)))
 rw [if_neg (by rw [sz]; simp)]
 refine wpAny_bind (wpAny_pure (wpAny_bind (wpAny_dictEpoch g1 g3 ?_)))
 rw [if_neg (by simp)]
 refine wpAny_pure ?_
 simp only [show ¬ ((i : Int) < 0) from by omega, if_false, Int.toNat_natCast, Array.getElem?_eq_getElem il', ee]
 refine wpAny_bind ?_
 first | refine wpAny_bind (wpAny_typeNameOfWhole_itemiter tI (wpAny_pure ?_)) | refine wpAny_bind (wpAny_typeNameOf_itemiter tI (wpAny_pure ?_))
 refine wpAny_bind (wpAny_isOneOf_itemiter tI ?_)
 show wpAny _ _ (setField (.ref it) 3 (rawInt ((i : Int) + 1)) >>= _) _ _ ⟨hp, gg, dr, tk, os⟩
 refine wpAny_bind (wpAny_setField_rec g (by simp) fun k₁ e₁ s₁ => ?_)
 replace s₁ : Heap.SameBut it hp k₁ := s₁
 replace e₁ : IsItemIter k₁ it d (i + 1) xs.length xs.length ok ov := by
   have z : ((i + 1 : Nat) : Int) = (i : Int) + 1 := by omega
   unfold IsItemIter; rw [z]; simpa [rawInt] using e₁
 have tI₁ : Shared.TypeIs ⟨k₁, gg, dr, tk, os⟩ (.ref it) "dict_itemiterator" := ⟨_, e₁, rfl⟩
 refine wpAny_bind (wpAny_holding (wpAny_bind (wpAny_isOneOf_itemiter tI₁ (wpAny_bind (wpAny_isOneOf_itemiter tI₁ ?_)))))
 show wpAny _ _ (Builtin.Dict_items.pairFromOwner (.ref it) 6 (.ref b) v) _ _ ⟨k₁, gg, dr, tk, os⟩
 unfold Builtin.Dict_items.pairFromOwner
 refine wpAny_bind (wpAny_newTuple ?_)
 have e₂ : IsItemIter (k₁.push { cls := .type "tuple", data := .seq #[.ref b, v] }) it d (i + 1) xs.length xs.length ok ov := Heap.get?_push_of_some _ e₁
 have z₁ : k₁.objs.size = hp.objs.size := s₁.1
 have lt : it < hp.objs.size := Heap.lt_size g
 have t₂ : (k₁.push { cls := .type "tuple", data := .seq #[.ref b, v] }).get? hp.objs.size = some { cls := .type "tuple", data := .seq #[.ref b, v] } := by rw [← z₁]; exact Heap.get?_push_size _ rfl
 have z₂ : (k₁.push { cls := .type "tuple", data := .seq #[.ref b, v] }).objs.size = hp.objs.size + 1 := by rw [Heap.size_push, z₁]
 have c₂ : ∀ c u, c ≠ it → hp.get? c = some u → (k₁.push { cls := .type "tuple", data := .seq #[.ref b, v] }).get? c = some u := fun c u hc e => Heap.get?_push_of_some _ (s₁.extBut c u hc e)
 rw [z₁]
 generalize k₁.push { cls := .type "tuple", data := .seq #[.ref b, v] } = k₂ at e₂ t₂ z₂ c₂
 show wpAny _ _ (Builtin.Dict_items.ownedTupleIsFree (.ref it) >>= _) _ _ ⟨k₂, gg, dr, tk, os⟩
 clear e₁ s₁ tI₁ z₁
 refine wpAny_bind ?_
 unfold Builtin.Dict_items.ownedTupleIsFree
 refine wpAny_bind (wpAny_field e₂ rfl (x := .none) rfl (wpAny_pure ?_))
 simp only [if_true]
 refine wpAny_bind (wpAny_field e₂ rfl (x := ok) rfl (wpAny_bind (wpAny_field e₂ rfl (x := ov) rfl ?_)))
 refine wpAny_bind (wpAny_setField_rec e₂ (by simp) fun k₃ e₃ s₃ => ?_)
 replace s₃ : Heap.SameBut it k₂ k₃ := s₃
 replace e₃ : IsItemIter k₃ it d (i + 1) xs.length xs.length (.ref b) ov := e₃
 refine wpAny_bind (wpAny_setField_rec e₃ (by simp) fun k₄ e₄ s₄ => ?_)
 replace s₄ : Heap.SameBut it k₃ k₄ := s₄
 replace e₄ : IsItemIter k₄ it d (i + 1) xs.length xs.length (.ref b) v := e₄
 refine wpAny_bind (wpAny_setField_rec e₄ (by simp) fun k₅ e₅ s₅ => ?_)
 replace s₅ : Heap.SameBut it k₄ k₅ := s₅
 replace e₅ : IsItemIterOut k₅ it d (i + 1) xs.length xs.length (.ref b) v hp.objs.size := e₅
 refine wpAny_bind (wpAny_setField_rec e₅ (by simp) fun k₆ e₆ s₆ => ?_)
 replace s₆ : Heap.SameBut it k₅ k₆ := s₆
 replace e₆ : IsItemIterOut k₆ it d (i + 1) xs.length xs.length (.ref b) v hp.objs.size := e₆
 have up : ∀ c u, c ≠ it → k₂.get? c = some u → k₆.get? c = some u := fun c u hc e => s₆.extBut c u hc (s₅.extBut c u hc (s₄.extBut c u hc (s₃.extBut c u hc e)))
 refine wpAny_bind (wpAny_letGo (wpAny_pure (wpAny_pure ⟨_, rfl, wpAny_pure (q k₆ e₆ (up _ _ (Nat.ne_of_gt lt) t₂) ?_ fun c u hc e => up c u hc (c₂ c u hc e))⟩)))
 show k₆.objs.size = hp.objs.size + 1
 rw [s₆.1, s₅.1, s₄.1, s₃.1, z₂]
theorem zk3 {it d : Addr} {i : Nat} {xs : List (NK × Addr × Value)} {ok ov : Value} {Q : Option Value → Shared → Prop} (hh : A.handled = none) (g : IsItemIter t.heap it d i xs.length xs.length ok ov) (hd : IsDc t.heap d xs) (hx : xs.length ≤ i)
   (q : ∀ h', Heap.ExtBut it t.heap h' → Q none { t with heap := h' }) : wpAny (model prog w) A (pyNext (.ref it)) Q E t := by
 obtain ⟨o, es, g1, g2, g3, g4, g5⟩ := hd
 have sz : es.size = xs.length := by rw [← Array.length_toList, g4, List.length_map]
 have own : Builtin.Dict_items.ownsTuple "dict_itemiterator" = true := by decide
 have tI : t.TypeIs (.ref it) "dict_itemiterator" := ⟨_, g, rfl⟩
 unfold pyNext
 refine wpAny_bind (wpAny_attempt (wpAny_callSpecial?_slot (name := Str.ofString "__next__") tI F.slot_dict_itemiterator_next
   (wpAny_call_entry F.slot_dict_itemiterator_next tI F.entry_dict_itemiterator_next ?_ (F.args_dict_itemiterator_next_1 _))))
 refine wpAny_bind (wpAny_pure (wpAny_bind (wpAny_bind ?_)))
 first | refine wpAny_bind (wpAny_typeNameOfWhole_itemiter tI (wpAny_pure ?_)) | refine wpAny_bind (wpAny_typeNameOf_itemiter tI (wpAny_pure ?_))
 refine wpAny_bind (wpAny_fieldsOf g rfl ?_)
 simp only [own, if_true]
 show wpAny _ _ (if (Value.ref d == Value.none) = true then _ else _) _ _ t
 rw [if_neg (show ¬ ((Value.ref d == Value.none) = true) from fun z => nomatch z)]
 refine wpAny_bind (wpAny_pure (wpAny_bind (wpAny_dictEntries g1 g3 ?_)))
 rw [if_neg (by rw [sz]; simp)]
 refine wpAny_bind (wpAny_pure (wpAny_bind (wpAny_dictEpoch g1 g3 ?_)))
 rw [if_neg (by simp)]
 refine wpAny_pure ?_
 simp only [show ¬ ((i : Int) < 0) from by omega, if_false, Int.toNat_natCast, Array.getElem?_eq_none (show es.size ≤ i by omega)]
 refine wpAny_bind ?_
 first | refine wpAny_bind (wpAny_typeNameOfWhole_itemiter tI (wpAny_pure ?_)) | refine wpAny_bind (wpAny_typeNameOf_itemiter tI (wpAny_pure ?_))
 show wpAny _ _ (setField (.ref it) 2 .none >>= _) _ _ t
 refine wpAny_bind (wpAny_setField g rfl (by simp) ?_)
 show wpAny _ _ (newExc (.type "StopIteration") [] >>= _) _ _ _
 refine wpAny_bind ?_
 simp only [newExc, newTuple]
 refine wpAny_bind (wpAny_newObj_type ?_ (by size_fits))
 refine wpAny_bind (m := firstArgMember _ _) (wpAny_of_eq (a := Value.none) (by first | rfl | (simp only [firstArgMember] <;> rfl)) ?_)
 refine wpAny_newObj_type ?_ (by size_fits)
 simp only [raiseNew]
 refine wpAny_bind (wpAny_handled ?_)
 rw [show A.in1.handled = none from hh]
 refine wpAny_bind (wpAny_pure (wpAny_throw ?_))
 refine wpAny_bind ( wpAny_isInstance (T := "StopIteration") (b := true) ⟨_, Heap.get?_push_size _ rfl, rfl⟩ isSubtype_stop ?_)
 exact wpAny_pure (q _ (((Heap.SameBut.update ..).extBut.push _).push _))
end
section
variable {X : Cx} {pins : List (Addr × Obj)} {σ : L2.St} {H : Hp} {s : Shared}
theorem turnedT {t' : Nat} {h' : Heap} {ch : List Addr} {row : List V} {urow : List Value} (I : Inv X pins σ H s) (k : ∀ b o, b ∉ ch → s.heap.get? b = some o → h'.get? b = some o) (hf : ∀ b ∈ ch, FpOk X pins H b)
   (ht : h'.get? s.heap.objs.size = some { cls := .type "tuple", data := .seq urow.toArray }) (rv : Vals row urow) (hz : row.length ≤ sizeLine) : Inv X pins σ (upd H s.heap.objs.size (.tup row)) { s with heap := h', toks := t' } := by
 have nch : ∀ b u, H b = some u → b ∉ ch := fun b u e hb => by rw [(hf b hb).1] at e; cases e
 have hn : H s.heap.objs.size = none := I.hok.fresh (Nat.le_refl _)
 have old : ∀ b o, s.heap.get? b = some o → b ≠ s.heap.objs.size := fun b o e => Nat.ne_of_lt (Heap.lt_size e)
 refine I.step (g' := s.gens) (d' := s.drawn) (ch := ch) (fun b hb => ⟨(hf b hb).2.2.2.1, (hf b hb).2.1, (hf b hb).2.2.2.2.1, (hf b hb).2.2.2.2.2⟩) (fun b o _ _ hc e _ => k b o hc e) (fun b o _ _ hc e _ => ⟨o.slots, k b o hc e⟩)
   (fun b o _ e n => by rw [zay (old b o e)]; exact n)
   (fun b o hc e => ⟨o, k b o hc e⟩) (fun b xs e => by rw [zay (zaw e hn)]; exact e) (fun b o u e => by rw [zay (zaw e hn)]; exact e) (fun b ps e => ⟨#[], by rw [zay (zaw e hn), e]; simp⟩) (fun m hm => ?_) (fun b u e => ?_) I.bare
 · obtain ⟨o, es, ep, ho, r⟩ := hm
   exact ⟨o, es, ep, k _ o (fun hb => (hf _ hb).2.1 rfl) ho, r⟩
 · by_cases hb : b = s.heap.objs.size
   · subst hb
     rw [zaI] at e; cases e
     exact ⟨hz, urow, rv, ⟨_, ht, rfl, _, rfl⟩⟩
   · rw [zay hb] at e
     refine (I.hok b u e).stay (fun c v hc q => k c v ?_ q) (fun c q => by rw [zay (zaw q hn)]; exact q) fun c xs q => by rw [zay (zaw q hn)]; exact q
     rcases hc with rfl | hc
     · exact nch _ _ e
     · exact nch _ _ hc
end
def numV : Value → V
 | .int i _ => .int i
 | _ => .non
def rowV (y : NK × Addr × Value) : List V := [.ref y.2.1, numV y.2.2]
def ItN (d : Addr) (n : Nat) : It :=
 ⟨fun i H => ∃ ys y j t, H d = some (dctO d ys) ∧ ys.length = n ∧ ys[i]? = some y ∧ y.2.2 = .int j t,
  fun i H x H' => ∃ p row, x = .ref p ∧ H p = none ∧ H' = upd H p (.tup row) ∧ ∀ ys, H d = some (dctO d ys) → (ys[i]?).map rowV = some row,
  fun i H => ∃ ys, H d = some (dctO d ys) ∧ ys.length = n ∧ n ≤ i⟩
theorem zlq {h : Heap} {d : Addr} {xs ys : List (NK × Addr × Value)} (a : IsDc h d xs) (b : IsDc h d ys) (i : Nat) : (xs[i]?).map rowV = (ys[i]?).map rowV := by
 obtain ⟨o, es, g1, _, g3, g4, _⟩ := a
 obtain ⟨o', es', k1, _, k3, k4, _⟩ := b
 rw [g1] at k1
 cases k1
 rw [g3] at k3
 have ee : es = es' := by injection k3
 subst ee
 rw [g4] at k4
 have e : (xs.map entN)[i]? = (ys.map entN)[i]? := by rw [k4]
 rw [List.getElem?_map, List.getElem?_map] at e
 cases hx : xs[i]? with
 | none =>
   cases hy : ys[i]? with
   | none => rfl
   | some y => rw [hx, hy] at e; cases e
 | some x =>
   cases hy : ys[i]? with
   | none => rw [hx, hy] at e; cases e
   | some y =>
     rw [hx, hy] at e
     have e' : entN x = entN y := Option.some.inj e
     have e1 : Value.ref x.2.1 = Value.ref y.2.1 := congrArg DictEntry.key e'
     have e2 : x.2.2 = y.2.2 := congrArg DictEntry.val e'
     have e3 : x.2.1 = y.2.1 := by injection e1
     simp only [Option.map_some, rowV, e2, e3]
theorem entI : entryFor table "dict_itemiterator.__iter__" = some Builtin.«dict_keyiterator.__iter__» := entryFor_alias (id' := "dict_keyiterator.__iter__") (by kernel_rfl) rfl (by decide +kernel) (by kernel_rfl)
theorem zgO {P : Program} {w : World} {K : PySem.W.Frag} {es : List Expr} {kk : Nat} {tp : Pos} (d it : Addr) (n : Nat) :
   Turn P w K (.Tuple es kk tp) (ItN d n) [it] it (fun i h => ∃ ok ov, IsItemIter h it d i n n ok ov) where
 mem := by simp
 obj := fun i h ⟨ok, ov, st⟩ b hb => by
   have e : b = it := by simpa using hb
   subst e
   exact ⟨_, st, fun v z => by cases z⟩
 keep := fun i h h' ⟨ok, ov, st⟩ k => ⟨ok, ov, k it (by simp) _ st⟩
 item := by
   intro X hP hw hK hc i pins s σ H E I hf st hg
   subst hP hw hK
   obtain ⟨ok, ov, st⟩ := st
   obtain ⟨ys, ⟨k, b, v⟩, j, tj, hd, hn, hx, hv⟩ := hg
   subst hn
   have hv' : v = .int j tj := hv
   subst hv'
   obtain ⟨h0, hl, dd⟩ := zcd I hd
   have fi := hf it (by simp)
   refine zk2 st dd hx fun h' a1 a2 a3 a4 => ?_
   refine ⟨_, rfl, wpAny_letOwnedTupleGo_items (s := { s with heap := h' }) a1 fun h'' b1 b2 => ?_⟩
   have hne : s.heap.objs.size ≠ it := Nat.ne_of_gt (Heap.lt_size st)
   have kp : ∀ c o, c ∉ [it] → s.heap.get? c = some o → h''.get? c = some o := fun c o hc e => by
     have c1 : c ≠ it := fun q => hc (by simp [q])
     exact b2.extBut _ _ c1 (a4 c o c1 e)
   have rv : Vals (rowV (k, b, .int j tj)) [.ref b, .int j tj] := .cons rfl (.cons ⟨tj, rfl⟩ .nil)
   have I1 : Inv X pins σ (upd H s.heap.objs.size (.tup (rowV (k, b, .int j tj)))) { s with heap := h'' } := turnedT (t' := s.toks) I kp (fun b hb => hf b hb) (b2.extBut _ _ hne a2) rv (by show 2 ≤ sizeLine; decide)
   refine ⟨.ref s.heap.objs.size, _, I1, rfl, ⟨s.heap.objs.size, _, rfl, I.hok.fresh (Nat.le_refl _), rfl, fun ys' h => ?_⟩, ⟨_, _, b1⟩, fun c hb => ?_⟩
   · have := zlq dd (zcd I h).2.2 i
     rw [hx] at this
     exact this.symm
   · have e : c = it := by simpa using hb
     subst e
     rw [zay (Ne.symm hne)]; exact fi.1
 done := by
   intro X hP hw hK hc i pins s σ H E I hf st hg
   subst hP hw hK
   obtain ⟨ok, ov, st⟩ := st
   obtain ⟨ys, hd, hn, hx⟩ := hg
   subst hn
   obtain ⟨f0, f1, f2, f3, f4, f5⟩ := hf it (by simp)
   exact zk3 (I.ok.hd hc) st (zcd I hd).2.2 hx fun h' eb => ⟨rfl, I.turned (t' := s.toks) (fun b o hb e => eb b o hb e) f0 f1 f3 f4 f5⟩
 self := fun A i s Q E ⟨ok, ov, st⟩ h => by
   have tI : s.TypeIs (.ref it) "dict_itemiterator" := ⟨_, st, rfl⟩
   refine wpAny_pyIter_slot tI F.slot_dict_itemiterator_iter (wpAny_call_entry F.slot_dict_itemiterator_iter tI entI ?_ (F.args_dict_itemiterator_iter_1 _))
   exact wpAny_pure ⟨_, rfl, "dict_itemiterator", _, tI, F.slot_dict_itemiterator_next.lookup, h⟩
def iItm (to : TE) : TI := fun σ H R => to σ H fun x H1 => ∃ a ys, x = .ref a ∧ H1 a = some (dctO a ys) ∧ R (ItN a ys.length) H1
theorem zii {X : Cx} {pins : List (Addr × Obj)} {σ : L2.St} {H : Hp} {s : Shared} {a : Addr} {ys : List (NK × Addr × Value)} (I : Inv X pins σ H s) (e : H a = some (dctO a ys)) : s.TypeIs (.ref a) "dict" ∧ ∀ c, Value.ref a = .ref c → ∃ ob, s.heap.get? c = some ob ∧ ob.dict = none := by
 obtain ⟨_, _, o, es, g1, g2, _⟩ := zcd I e
 exact ⟨⟨o, g1, g2.1⟩, fun c z => by cases z; exact ⟨o, g1, g2.2.1⟩⟩
theorem zi2 {X : Cx} {es : List Expr} {kk : Nat} {tp apos cpos : Pos} {o : Expr} {to : TE} (ho : PE X o to) (hbase : attributeBase o "items" X.env (eval o X.env) = eval o X.env) (hline : (apos.endLine == cpos.line) = true) :
   PI X (.Tuple es kk tp) (.Call (.Attribute o "items" apos) [] [] cpos) (iItm to) := by
 intro pins s σ H R I h
 refine wpAny_Call_method0_late hbase hline (thn (ho pins s σ H _ I h) fun v s1 ⟨x, H1, I1, r1, q1⟩ => ?_)
 obtain ⟨a, ys, rfl, hd, q⟩ := q1
 cases r1
 obtain ⟨d1, d2⟩ := zii I1 hd
 obtain ⟨h0, hl, dd⟩ := zcd I1 hd
 refine ⟨"dict", "dict.items", F.plainAttrs_dict, F.slot_dict_items, F.type_dict_items, d1, d2, Calls.callWith_builtin rfl (PySem.evalArgs_none ?_)⟩
 refine call_meetsIn F.slot_dict_items d1 F.entry_dict_items (F.args_dict_items_1 _) (zja a h0) ⟨d1, ?_⟩
 have I2 : Inv X pins σ H1 { s1 with heap := s1.heap.push { cls := .type "dict_items", data := .fields #[.ref a] } } := I1.kept (t' := s1.toks) fun b o e => Heap.get?_push_of_some _ e
 refine zji (xs := ys) ⟨_, Heap.get?_push_size _ rfl, rfl, rfl⟩ (zcd I2 hd).2.2 ?_
 refine ⟨_, [_], _, _, H1, rfl, I2.kept (t' := s1.toks) fun b o e => Heap.get?_push_of_some _ e, zgO a _ ys.length, ⟨.none, .none, Heap.get?_push_size _ rfl⟩, fun b hb => ?_, q⟩
 have e := List.mem_singleton.mp hb
 subst e
 exact I2.fpOk (Nat.le_refl _) (I2.hok.fresh (Nat.le_refl _))
theorem znR {X : Cx} {o e : Expr} {es : List Expr} {to : TE} {t : TA} {name : Str} {apos cpos : Pos} {id : String} {r : V → List V → Hp → VK → Prop} (slot : Slot "dict" name id) (hty : typeOf (.builtin id) = pure (.type "method_descriptor")) (hm : MtR X id r) (ho : PE X o to) (ha : PA X (e :: es) t)
   (hbase : attributeBase o name X.env (eval o X.env) = eval o X.env)
   (hfew : ((backTo cpos (starEach (e :: es) X.env)).all (fun x => !x.1) && (backToKw cpos (keywordEach [] X.env)).all (fun x => x.1.isSome)
     && decide ((e :: es).length + ([] : List Keyword).length + (if ([] : List Keyword).isEmpty then 0 else 1) < 30)) = true)
   (hline : (apos.endLine == cpos.line) = true) (hs : starEach (e :: es) X.env = (false, eval e X.env) :: starEach es X.env) (hplain : (backTo cpos (starEach es X.env)).any (·.1) = false) :
   PE X (.Call (.Attribute o name apos) (e :: es) [] cpos) (fun σ H Q => to σ H fun x H1 => (∃ a ys, x = .ref a ∧ H1 a = some (dctO a ys)) ∧ t σ H1 fun xs H2 => r x xs H2 Q) := by
 intro pins s σ H Q I h
 refine wpAny_Call_method_late hbase hfew hline rfl (thn (ho pins s σ H _ I h) fun v s1 ⟨x, H1, I1, r1, ty, q1⟩ => ?_)
 obtain ⟨a, ys, rfl, hd⟩ := ty
 have rr := r1
 cases r1
 obtain ⟨d1, d2⟩ := zii I1 hd
 refine ⟨"dict", id, F.plainAttrs_dict, slot, hty, d1, d2, ?_⟩
 have hA := ha cpos pins s1 σ H1 _ I1 q1
 rw [hs] at hA ⊢
 refine Calls.callWith_builtin (by show (false || (backTo cpos (starEach es X.env)).any (·.1)) = false; rw [hplain] <;> rfl) (Calls.evalArgs_plain ?_)
 exact thn hA fun us s2 ⟨vs, H2, I2, r2, q2⟩ => hm pins s2 σ H2 _ vs _ us Q I2 rr r2 q2
def rSetN (K : PySem.W.Frag) : V → V → V → Hp → (Hp → Prop) → Prop := fun o i v H Q => ∃ a b k ys j, o = .ref a ∧ i = .ref b ∧ v = .int j ∧ H a = some (dctO a ys) ∧ (∀ y ∈ ys, NKey K H y.1 y.2.1) ∧ NKey K H k b ∧ ys.length < sizeLine ∧ ∀ t, Q (upd H a (dctO a (storedH ys k b (.int j t))))
theorem ziO {X : Cx} (hu : X.A.units + 64 < cLine) : PSet X (rSetN X.K) := by
 intro pins s σ H o i v ov iv u Q I ro ri rv h
 obtain ⟨a, b, k, ys, j, rfl, rfl, rfl, hd, hk, hb, hl, q⟩ := h
 cases ro
 cases ri
 obtain ⟨t, rfl⟩ := rv
 exact znj (by omega) I hd hk hb hl fun s' I' => ⟨_, I', q t⟩
theorem PSet.or {X : Cx} {t t' : TSet} (h : PSet X t) (h' : PSet X t') : PSet X (fun o i v H Q => t o i v H Q ∨ t' o i v H Q) := fun pins s σ H o i v ov iv u Q I ro ri rv q => by
 rcases q with q | q
 · exact h pins s σ H o i v ov iv u Q I ro ri rv q
 · exact h' pins s σ H o i v ov iv u Q I ro ri rv q
def rGetN (K : PySem.W.Frag) : V → List V → Hp → VK → Prop := fun x xs H Q => ∃ a b k ys i j, x = .ref a ∧ xs = [.ref b, .int i] ∧ H a = some (dctO a ys) ∧ (∀ y ∈ ys, NKey K H y.1 y.2.1) ∧ NKey K H k b ∧ ((atKey ys k = none ∧ j = i) ∨ ∃ c t, atKey ys k = some (c, .int j t)) ∧ Q (.int j) H
theorem zmU {X : Cx} (hu : X.A.units + 64 < cLine) : MtR X "dict.get" (rGetN X.K) := by
 intro pins s σ H x xs v us Q I r rs h
 obtain ⟨a, b, k, ys, i, j, rfl, rfl, hd, hk, hb, hj, q⟩ := h
 cases r
 cases rs with
 | cons r1 rs =>
   cases r1
   cases rs with
   | cons r2 rs =>
     cases rs
     obtain ⟨t, rfl⟩ := r2
     refine znk (by omega) I hd hk hb fun s' I' => ?_
     rcases hj with ⟨e, rfl⟩ | ⟨c, t', e⟩
     · rw [e]; exact ⟨.int j, H, I', ⟨t, rfl⟩, q⟩
     · rw [e]; exact ⟨.int j, H, I', ⟨t', rfl⟩, q⟩
section
variable {prog : Program} {w : World} {A : Around} {E : Value → Shared → Prop}
theorem zjU {it l : Addr} {us : Array Value} (ne : l ≠ it) : ∀ (n i : Nat) (t : Shared) (Q : List Value → Shared → Prop), t.heap.IsListIter it l i → t.heap.IsList l us → i + n ≤ us.size →
   (∀ h', h'.IsListIter it l (i + n) → Heap.SameBut it t.heap h' → Q ((us.toList.drop i).take n) { t with heap := h' }) → wpAny (model prog w) A (draw (.ref it) n) Q E t
 | 0, i, t, Q, g, _, _, q => by
   show wpAny _ _ (pure []) Q E t
   exact wpAny_pure (by simpa using q t.heap g (Heap.SameBut.refl ..))
 | n + 1, i, t, Q, g, gl, le, q => by
   have lt : i < us.size := by omega
   show wpAny _ _ (pyNext (.ref it) >>= _) Q E t
   refine wpAny_bind (wpAny_pyNext_list_item g gl (x := us[i]) (by simp [lt]) fun k₁ g₁ s₁ => ?_)
   have gl₁ : k₁.IsList l us := let ⟨o, e, r⟩ := gl; ⟨o, s₁.extBut _ _ ne e, r⟩
   refine wpAny_bind (wpAny_holding (zjU ne n (i + 1) _ _ g₁ gl₁ (by omega) fun k₂ g₂ s₂ => wpAny_pure ?_))
   have e : us.toList.drop i = us[i] :: us.toList.drop (i + 1) := by simp [List.drop_eq_getElem_cons, lt]
   have z := q k₂ (by rw [show i + (n + 1) = i + 1 + n by omega]; exact g₂) (s₁.trans s₂)
   rw [e, List.take_succ_cons] at z
   exact z
theorem ziz {l : Addr} {us : Array Value} {t : Shared} {Q : List Value → Shared → Prop} (hh : A.handled = none) (gl : t.heap.IsList l us)
   (q : ∀ h', Heap.ExtBut t.heap.objs.size t.heap h' → Q us.toList { t with heap := h' }) : wpAny (model prog w) A (unpackItems (.ref l) us.size none) Q E t := by
 have ne : l ≠ t.heap.objs.size := by obtain ⟨o, e, _⟩ := gl; exact Nat.ne_of_lt (Heap.lt_size e)
 have gp : ∀ o, (t.heap.push o).IsList l us := fun o => let ⟨u, e, r⟩ := gl; ⟨u, Heap.get?_push_of_some _ e, r⟩
 unfold unpackItems notIterableAtAll
 refine wpAny_bind (wpAny_bind (wpAny_specialOf gl.typeIs slot_list_iter.lookup (wpAny_pure ?_)))
 simp only [Bool.false_eq_true, if_false]
 refine wpAny_bind (wpAny_holding (wpAny_pyIter_list gl (wpAny_bind (wpAny_holding (zjU ne us.size 0 _ _ ⟨_, Heap.get?_push_size _ rfl, rfl, rfl⟩ (gp _) (by omega) fun k₁ g₁ s₁ => ?_)))))
 rw [show List.take us.size (List.drop 0 us.toList) = us.toList by rw [List.drop_zero]; exact List.take_of_length_le (by simp), if_neg (by simp)]
 have gl₁ : k₁.IsList l us := let ⟨o, e, r⟩ := gp _; ⟨o, s₁.extBut _ _ ne e, r⟩
 refine wpAny_bind (wpAny_holding (wpAny_pyNext_list_end hh g₁ gl₁ (by simp) fun k₂ e₂ => ?_))
 simp only [Option.isSome_none, Bool.false_eq_true, if_false]
 exact wpAny_pure (q k₂ fun c o hc e => e₂ c o hc (s₁.extBut c o hc (Heap.get?_push_of_some _ e)))
end
def gTupL (K : PySem.W.Frag) (n : Nat) (t : TGs) : TG := fun v σ H Q => ∃ a xs, v = .ref a ∧ SqL K H a xs ∧ xs.length = n ∧ t xs σ H Q
theorem zkC {X : Cx} {pos : Pos} {es : List Expr} {k : Nat} {t : TGs} {n : Nat} (hc : X.calm = true) (h : PGs X es t) (hn : (assignEach es X.env).length = n) (hst : (assignEach es X.env).findIdx? (·.1) = none) : PG X (.Tuple es k pos) (gTupL X.K n t) := by
 intro pins s σ H v u Q I r hw
 obtain ⟨a, xs, rfl, hq, hl, hw⟩ := hw
 cases r
 obtain ⟨its, rv, ht, hz⟩ := I.list hq
 rw [arm_assign_Tuple]
 refine wpAny_bind (wpAny_standAt ?_)
 unfold unpack
 have el : (assignEach es X.env).length = its.toArray.size := by simp [hn, ← hl, rv.length]
 rw [el, hst]
 refine wpAny_bind (wpAny_holding (ziz (I.ok.hd hc) ht.isList fun h' hx => ?_))
 have I1 : Inv X pins σ H { s with heap := h' } := I.kept (t' := s.toks) fun b o e => hx b o (Nat.ne_of_lt (Heap.lt_size e)) e
 exact h pins _ σ H xs _ Q I1 (by simpa using rv) hw
theorem PG.or {X : Cx} {e : Expr} {t t' : TG} (h : PG X e t) (h' : PG X e t') : PG X e (fun v σ H Q => t v σ H Q ∨ t' v σ H Q) := fun pins s σ H v u Q I r q => by
 rcases q with q | q
 · exact h pins s σ H v u Q I r q
 · exact h' pins s σ H v u Q I r q
end MX
end
section
set_option autoImplicit false
namespace MZ
open PySem PySem.Spec PyProof.Rows L2
structure Sub where
 it : Addr
 src : Addr
 tup : Bool
section
variable {prog : Program} {w : World} {A : Around} {E : Value → Shared → Prop} {s : Shared}
end
section
variable {prog : Program} {w : World} {A : Around} {E : Value → Shared → Prop} {s : Shared}
end
end MZ
end
section
set_option autoImplicit false
namespace MZ
open PySem PySem.Spec PyProof.Rows L2
def rowAt {α : Type} : List (List α) → Nat → Option (List α)
 | [], _ => some []
 | xs :: r, i => (xs[i]?).bind fun x => (rowAt r i).map (x :: ·)
section
variable {X : Cx} {pins : List (Addr × Obj)} {σ : L2.St} {H : Hp} {s : Shared}
end
end MZ
end
section
set_option autoImplicit false
namespace MX
open PySem PySem.Spec PyProof.Rows L2
inductive D where
 | non | bl (b : Bool) | int (i : Int) | str (x : Str) | tup (xs : List D) | ref (n : Nat)
 | ty (n : String) | adr (a : Addr)
inductive O where
 | lst (xs : List D)
 | frz (xs : List D)
 | ins (C : Addr) (fs : List (Str × D))
 | dct (xs : List (NK × Int))
abbrev Sg := List (Option D)
abbrev So := List O
mutual
inductive Rep (K : PySem.W.Frag) (H : Hp) (α : List Addr) : D → V → Prop
 | non : Rep K H α .non .non
 | bl (b : Bool) : Rep K H α (.bl b) (.bl b)
 | int (i : Int) : Rep K H α (.int i) (.int i)
 | str (x : Str) : Rep K H α (.str x) (.str x)
 | tup {a : Addr} {ds : List D} {vs : List V} : SqT K H a vs → Reps K H α ds vs → Rep K H α (.tup ds) (.ref a)
 | ref {n : Nat} {a : Addr} : α[n]? = some a → Rep K H α (.ref n) (.ref a)
 | ty (n : String) : Rep K H α (.ty n) (.ty n)
 | adr (a : Addr) : Rep K H α (.adr a) (.ref a)
inductive Reps (K : PySem.W.Frag) (H : Hp) (α : List Addr) : List D → List V → Prop
 | nil : Reps K H α [] []
 | cons {d : D} {v : V} {ds : List D} {vs : List V} : Rep K H α d v → Reps K H α ds vs → Reps K H α (d :: ds) (v :: vs)
end
structure Ext (K : PySem.W.Frag) (H : Hp) (α : List Addr) (H' : Hp) (α' : List Addr) : Prop where
 tups : ∀ a vs, SqT K H a vs → SqT K H' a vs
 pre : ∀ (n : Nat) a, α[n]? = some a → α'[n]? = some a
section
variable {K : PySem.W.Frag} {H H' H'' : Hp} {α α' α'' : List Addr}
theorem Ext.refl : Ext K H α H α := ⟨fun _ _ h => h, fun _ _ h => h⟩
theorem Ext.trans (a : Ext K H α H' α') (b : Ext K H' α' H'' α'') : Ext K H α H'' α'' := ⟨fun c vs h => b.tups c vs (a.tups c vs h), fun n c h => b.pre n c (a.pre n c h)⟩
mutual
theorem Rep.mono (e : Ext K H α H' α') : ∀ {d : D} {v : V}, Rep K H α d v → Rep K H' α' d v
 | _, _, .non => .non
 | _, _, .bl b => .bl b
 | _, _, .int i => .int i
 | _, _, .str x => .str x
 | _, _, .tup h r => .tup (e.tups _ _ h) (Reps.mono e r)
 | _, _, .ref h => .ref (e.pre _ _ h)
 | _, _, .ty n => .ty n
 | _, _, .adr a => .adr a
theorem Reps.mono (e : Ext K H α H' α') : ∀ {ds : List D} {vs : List V}, Reps K H α ds vs → Reps K H' α' ds vs
 | _, _, .nil => .nil
 | _, _, .cons h r => .cons (Rep.mono e h) (Reps.mono e r)
end
theorem Reps.length : ∀ {ds : List D} {vs : List V}, Reps K H α ds vs → ds.length = vs.length
 | _, _, .nil => rfl
 | _, _, .cons _ r => by simp [Reps.length r]
theorem Reps.get : ∀ {ds : List D} {vs : List V} {i : Nat} {d : D}, Reps K H α ds vs → ds[i]? = some d → ∃ v, vs[i]? = some v ∧ Rep K H α d v
 | _, _, _, _, .nil, e => by simp at e
 | _, _, 0, _, .cons h _, e => by simp at e; subst e; exact ⟨_, rfl, h⟩
 | _, _, i + 1, _, .cons _ r, e => by
   obtain ⟨v, h1, h2⟩ := Reps.get (i := i) r (by simpa using e)
   exact ⟨v, by simpa using h1, h2⟩
theorem Reps.append : ∀ {ds es : List D} {vs ws : List V}, Reps K H α ds vs → Reps K H α es ws → Reps K H α (ds ++ es) (vs ++ ws)
 | _, _, _, _, .nil, s => s
 | _, _, _, _, .cons h r, s => .cons h (Reps.append r s)
theorem Reps.take : ∀ {ds : List D} {vs : List V} (n : Nat), Reps K H α ds vs → Reps K H α (ds.take n) (vs.take n)
 | _, _, 0, _ => by simp; exact .nil
 | _, _, _ + 1, .nil => .nil
 | _, _, n + 1, .cons h r => .cons h (Reps.take n r)
theorem Reps.drop : ∀ {ds : List D} {vs : List V} (n : Nat), Reps K H α ds vs → Reps K H α (ds.drop n) (vs.drop n)
 | _, _, 0, r => by simpa using r
 | _, _, _ + 1, .nil => .nil
 | _, _, n + 1, .cons h r => by simpa using Reps.drop n r
theorem Reps.set {d : D} {v : V} (h : Rep K H α d v) : ∀ {ds : List D} {vs : List V} (i : Nat), Reps K H α ds vs → Reps K H α (ds.set i d) (vs.set i v)
 | _, _, _, .nil => .nil
 | _, _, 0, .cons _ r => .cons h r
 | _, _, i + 1, .cons q r => .cons q (Reps.set h i r)
theorem Same.tups (s : Same H H') : ∀ a vs, SqT K H a vs → SqT K H' a vs := fun a vs h => by
 rcases h with (h | ⟨o, h⟩) | h
 · exact .inl (.inl (s _ _ h))
 · exact .inl (.inr ⟨o, s _ _ h⟩)
 · exact .inr h
theorem Same.ext (s : Same H H') : Ext K H α H' α := ⟨Same.tups s, fun _ _ h => h⟩
theorem zbm {p : Addr} {o : HO} (h : H p = none) : Same H (upd H p o) := fun b u e => by rw [zay (zaw e h)]; exact e
def FzL (K : PySem.W.Frag) (H : Hp) (a : Addr) (xs : List V) : Prop :=
 (∃ o, H a = some (.frz o (.lst xs))) ∨
   ∃ (o : Obj) (its : Array Value) (n : Nat), K.lookup a = some o ∧ o.cls = .type "list" ∧ o.dict = none ∧ o.data = .seq its n ∧ its.size ≤ sizeLine ∧ Vals xs its.toList
theorem FzL.sq {a : Addr} {xs : List V} (h : FzL K H a xs) : SqL K H a xs := by
 rcases h with h | h
 · exact .inl (.inr h)
 · exact .inr h
theorem FzL.same {a : Addr} {xs : List V} (s : Same H H') (h : FzL K H a xs) : FzL K H' a xs := by
 rcases h with ⟨o, h⟩ | h
 · exact .inl ⟨o, s _ _ h⟩
 · exact .inr h
def O.own : O → Bool
 | .frz _ => false
 | _ => true
def ObjR (K : PySem.W.Frag) (H : Hp) (α : List Addr) (a : Addr) : O → Prop
 | .lst ds => ∃ vs, H a = some (.lst vs) ∧ Reps K H α ds vs
 | .frz ds => ∃ vs, FzL K H a vs ∧ Reps K H α ds vs
 | .ins C fs => ∃ dx gs, H a = some (.ins C dx gs) ∧ fs.map (·.1) = gs.map (·.1) ∧ Reps K H α (fs.map (·.2)) (gs.map (·.2))
 | .dct xs => ∃ ys, H a = some (dctO a ys) ∧ DR K H xs ys
structure StoreR (K : PySem.W.Frag) (H : Hp) (α : List Addr) (S : So) : Prop where
 len : α.length = S.length
 nd : ∀ (n m : Nat) o o' a, S[n]? = some o → S[m]? = some o' → O.own o = true → O.own o' = true → α[n]? = some a → α[m]? = some a → n = m
 obj : ∀ (n : Nat) o a, S[n]? = some o → α[n]? = some a → ObjR K H α a o
def VarsR (K : PySem.W.Frag) (H : Hp) (α : List Addr) (σd : Sg) (σ : L2.St) : Prop :=
 σd.length = σ.length ∧ ∀ (i : Nat) d, σd[i]? = some (some d) → ∃ v, σ[i]? = some (some v) ∧ Rep K H α d v
theorem VarsR.mono {σd : Sg} {σ : L2.St} (e : Ext K H α H' α') (h : VarsR K H α σd σ) : VarsR K H' α' σd σ :=
 ⟨h.1, fun i d q => let ⟨v, h1, h2⟩ := h.2 i d q; ⟨v, h1, h2.mono e⟩⟩
theorem VarsR.set {σd : Sg} {σ : L2.St} {d : D} {v : V} (h : VarsR K H α σd σ) (r : Rep K H α d v) (i : Nat) : VarsR K H α (σd.set i (some d)) (σ.set i (some v)) := by
 refine ⟨by simpa using h.1, fun j e q => ?_⟩
 by_cases hj : j = i
 · subst hj
   by_cases hlt : j < σd.length
   · rw [List.getElem?_set_self hlt] at q
     cases q
     exact ⟨v, by rw [List.getElem?_set_self (by rw [← h.1]; exact hlt)], r⟩
   · rw [List.getElem?_eq_none (by simpa using hlt)] at q; cases q
 · rw [List.getElem?_set_ne (Ne.symm hj)] at q
   obtain ⟨u, h1, h2⟩ := h.2 j e q
   exact ⟨u, by rw [List.getElem?_set_ne (Ne.symm hj)]; exact h1, h2⟩
theorem ObjR.mono {a : Addr} {o : O} (s : Same H H') (e : Ext K H α H' α') (h : ObjR K H α a o) : ObjR K H' α' a o := by
 cases o with
 | lst ds => obtain ⟨vs, h1, h2⟩ := h; exact ⟨vs, s _ _ h1, h2.mono e⟩
 | frz ds => obtain ⟨vs, h1, h2⟩ := h; exact ⟨vs, FzL.same s h1, h2.mono e⟩
 | ins C fs => obtain ⟨dx, gs, h1, h2, h3⟩ := h; exact ⟨dx, gs, s _ _ h1, h2, h3.mono e⟩
 | dct xs => obtain ⟨ys, h1, h2⟩ := h; exact ⟨ys, s _ _ h1, h2.mono e.tups⟩
theorem StoreR.mono {S : So} (s : Same H H') (h : StoreR K H α S) : StoreR K H' α S :=
 ⟨h.len, h.nd, fun n o a h1 h2 => (h.obj n o a h1 h2).mono s (Same.ext s)⟩
theorem ObjR.some {a : Addr} {o : O} (h : ObjR K H α a o) (w : O.own o = true) : ∃ u, H a = some u := by
 cases o with
 | lst ds => obtain ⟨vs, h1, _⟩ := h; exact ⟨_, h1⟩
 | frz ds => cases w
 | ins C fs => obtain ⟨dx, gs, h1, _⟩ := h; exact ⟨_, h1⟩
 | dct xs => obtain ⟨ys, h1, _⟩ := h; exact ⟨_, h1⟩
theorem getElem?_snoc {α : Type} {l : List α} {x y : α} {n : Nat} (h : (l ++ [x])[n]? = some y) : l[n]? = some y ∨ (n = l.length ∧ y = x) := by
 by_cases hn : n < l.length
 · rw [List.getElem?_append_left hn] at h; exact .inl h
 · rw [List.getElem?_append_right (by omega)] at h
   by_cases h0 : n - l.length = 0
   · rw [h0] at h; simp at h; exact .inr ⟨by omega, h.symm⟩
   · rw [List.getElem?_eq_none (by simp; omega)] at h; cases h
theorem StoreR.snoc {S : So} {p : Addr} {o : O} {u : HO} (h : StoreR K H α S) (hp : H p = none) (ho : ∀ α', Ext K H α (upd H p u) α' → ObjR K (upd H p u) α' p o) :
   StoreR K (upd H p u) (α ++ [p]) (S ++ [o]) ∧ Ext K H α (upd H p u) (α ++ [p]) := by
 have s : Same H (upd H p u) := zbm hp
 have e : Ext K H α (upd H p u) (α ++ [p]) := ⟨Same.tups s, fun n a q => by rw [List.getElem?_append_left (List.getElem?_eq_some_iff.mp q).1]; exact q⟩
 have old : ∀ {n : Nat} {o' : O} {a : Addr}, S[n]? = some o' → (α ++ [p])[n]? = some a → α[n]? = some a := fun {n o' a} h1 h2 => by
   have hn : n < α.length := by rw [h.len]; exact (List.getElem?_eq_some_iff.mp h1).1
   rw [List.getElem?_append_left hn] at h2
   exact h2
 have lastA : (α ++ [p])[S.length]? = some p := by rw [← h.len]; simp
 have apart : ∀ {n : Nat} {o' : O}, S[n]? = some o' → O.own o' = true → ¬ (α ++ [p])[n]? = some p := fun {n o'} h1 w h2 => by
   obtain ⟨u, z⟩ := (h.obj n o' p h1 (old h1 h2)).some w
   rw [hp] at z; cases z
 refine ⟨⟨by simp [h.len], fun n m o1 o2 a h1 h2 w1 w2 a1 a2 => ?_, fun n o' a h1 h2 => ?_⟩, e⟩
 · rcases getElem?_snoc h1 with q1 | ⟨e1, e2⟩ <;> rcases getElem?_snoc h2 with q2 | ⟨e3, e4⟩
   · exact h.nd n m o1 o2 a q1 q2 w1 w2 (old q1 a1) (old q2 a2)
   · rw [e3, lastA] at a2; cases a2
     exact absurd a1 (apart q1 w1)
   · rw [e1, lastA] at a1; cases a1
     exact absurd a2 (apart q2 w2)
   · rw [e1, e3]
 · rcases getElem?_snoc h1 with h1 | ⟨rfl, rfl⟩
   · exact (h.obj n o' a h1 (old h1 h2)).mono s e
   · rw [lastA] at h2; cases h2
     exact ho _ e
theorem StoreR.put {S : So} {n : Nat} {a : Addr} {o₀ o : O} {u₀ u : HO} (h : StoreR K H α S) (hn : S[n]? = some o₀) (w₀ : O.own o₀ = true) (w : O.own o = true) (ha : α[n]? = some a) (hv : H a = some u₀)
   (hu : (∃ vs, u₀ = .lst vs) ∨ ∃ f, u₀ = .ext f)
   (ho : Ext K H α (upd H a u) α → ObjR K (upd H a u) α a o) : StoreR K (upd H a u) α (S.set n o) ∧ Ext K H α (upd H a u) α := by
 have nt : ∀ ws, HO.tup ws ≠ u₀ := fun ws z => by rcases hu with ⟨vs, e⟩ | ⟨f, e⟩ <;> (rw [e] at z; cases z)
 have nf : ∀ ob x, HO.frz ob x ≠ u₀ := fun ob x z => by rcases hu with ⟨vs, e⟩ | ⟨f, e⟩ <;> (rw [e] at z; cases z)
 have e : Ext K H α (upd H a u) α := ⟨fun b ws q => by
   rcases q with (q | ⟨o, q⟩) | q
   · exact .inl (.inl (by rw [zay (zk4 q hv (nt _))]; exact q))
   · exact .inl (.inr ⟨o, by rw [zay (zk4 q hv (nf _ _))]; exact q⟩)
   · exact .inr q, fun _ _ q => q⟩
 have hlt : n < S.length := (List.getElem?_eq_some_iff.mp hn).1
 have at' : ∀ {m : Nat} {o' : O}, (S.set n o)[m]? = some o' → (m = n ∧ o' = o) ∨ (m ≠ n ∧ S[m]? = some o') := fun {m o'} h1 => by
   by_cases hm : m = n
   · subst hm
     rw [List.getElem?_set_self hlt] at h1
     exact .inl ⟨rfl, (Option.some.inj h1).symm⟩
   · rw [List.getElem?_set_ne (Ne.symm hm)] at h1
     exact .inr ⟨hm, h1⟩
 refine ⟨⟨by simpa using h.len, fun m k o1 o2 b h1 h2 w1 w2 b1 b2 => ?_, fun m o' b h1 h2 => ?_⟩, e⟩
 · rcases at' h1 with ⟨e1, e2⟩ | ⟨n1, q1⟩ <;> rcases at' h2 with ⟨e3, e4⟩ | ⟨n2, q2⟩
   · rw [e1, e3]
   · rw [e1] at b1 ⊢
     exact h.nd _ _ o₀ o2 b hn q2 w₀ w2 b1 b2
   · rw [e3] at b2 ⊢
     exact h.nd _ _ o1 o₀ b q1 hn w1 w₀ b1 b2
   · exact h.nd _ _ o1 o2 b q1 q2 w1 w2 b1 b2
 · rcases at' h1 with ⟨rfl, rfl⟩ | ⟨hm, h1⟩
   · rw [ha] at h2; cases h2
     exact ho e
   · have q := h.obj m o' b h1 h2
     have hba : O.own o' = true → b ≠ a := fun w' z => hm (by subst z; exact h.nd m n o' o₀ b h1 hn w' w₀ h2 ha)
     cases o' with
     | lst ds => obtain ⟨ws, q1, q2⟩ := q; exact ⟨ws, by rw [zay (hba rfl)]; exact q1, q2.mono e⟩
     | frz ds =>
       obtain ⟨ws, q1, q2⟩ := q
       refine ⟨ws, ?_, q2.mono e⟩
       rcases q1 with ⟨ob, q1⟩ | q1
       · exact .inl ⟨ob, by rw [zay (zk4 q1 hv (nf _ _))]; exact q1⟩
       · exact .inr q1
     | ins C fs => obtain ⟨dx, gs, q1, q2, q3⟩ := q; exact ⟨dx, gs, by rw [zay (hba rfl)]; exact q1, q2, q3.mono e⟩
     | dct xs => obtain ⟨ys, q1, q2⟩ := q; exact ⟨ys, by rw [zay (hba rfl)]; exact q1, q2.mono e.tups⟩
end
mutual
def D.lo (n : Nat) : D → Bool
 | .tup xs => los n xs
 | .ref m => decide (m < n)
 | _ => true
def los (n : Nat) : List D → Bool
 | [] => true
 | d :: ds => D.lo n d && los n ds
end
def O.lo (n : Nat) : O → Bool
 | .lst xs => los n xs
 | .frz xs => los n xs
 | .ins _ fs => los n (fs.map (·.2))
 | .dct _ => true
section
variable {K : PySem.W.Frag} {H : Hp} {α β : List Addr}
mutual
theorem Rep.lo : ∀ {d : D} {v : V}, Rep K H α d v → D.lo α.length d = true
 | _, _, .non => by simp [D.lo]
 | _, _, .bl _ => by simp [D.lo]
 | _, _, .int _ => by simp [D.lo]
 | _, _, .str _ => by simp [D.lo]
 | _, _, .tup _ r => by rw [D.lo]; exact Reps.lo r
 | _, _, .ref h => by rw [D.lo]; exact decide_eq_true (List.getElem?_eq_some_iff.mp h).1
 | _, _, .ty _ => by simp [D.lo]
 | _, _, .adr _ => by simp [D.lo]
theorem Reps.lo : ∀ {ds : List D} {vs : List V}, Reps K H α ds vs → los α.length ds = true
 | _, _, .nil => by simp [los]
 | _, _, .cons h r => by rw [los, Rep.lo h, Reps.lo r]; rfl
end
mutual
theorem Rep.cut (n : Nat) : ∀ {d : D} {v : V}, Rep K H α d v → D.lo n d = true → Rep K H (α.take n) d v
 | _, _, .non, _ => .non
 | _, _, .bl b, _ => .bl b
 | _, _, .int i, _ => .int i
 | _, _, .str x, _ => .str x
 | _, _, .tup h r, b => .tup h (Reps.cut n r (by rw [D.lo] at b; exact b))
 | _, _, .ref h, b => .ref (by
     rw [D.lo] at b
     rw [List.getElem?_take_of_lt (of_decide_eq_true b)]; exact h)
 | _, _, .ty n, _ => .ty n
 | _, _, .adr a, _ => .adr a
theorem Reps.cut (n : Nat) : ∀ {ds : List D} {vs : List V}, Reps K H α ds vs → los n ds = true → Reps K H (α.take n) ds vs
 | _, _, .nil, _ => .nil
 | _, _, .cons h r, b => by
   rw [los, Bool.and_eq_true] at b
   exact .cons (Rep.cut n h b.1) (Reps.cut n r b.2)
end
theorem ObjR.lo {a : Addr} {o : O} (h : ObjR K H α a o) : O.lo α.length o = true := by
 cases o with
 | lst ds => obtain ⟨_, _, r⟩ := h; exact r.lo
 | frz ds => obtain ⟨_, _, r⟩ := h; exact r.lo
 | ins C fs => obtain ⟨_, _, _, _, r⟩ := h; exact r.lo
 | dct xs => rfl
theorem ObjR.cut {a : Addr} {o : O} (n : Nat) (h : ObjR K H α a o) (b : O.lo n o = true) : ObjR K H (α.take n) a o := by
 cases o with
 | lst ds => obtain ⟨vs, h1, r⟩ := h; exact ⟨vs, h1, r.cut n b⟩
 | frz ds => obtain ⟨vs, h1, r⟩ := h; exact ⟨vs, h1, r.cut n b⟩
 | ins C fs => obtain ⟨dx, gs, h1, h2, r⟩ := h; exact ⟨dx, gs, h1, h2, r.cut n b⟩
 | dct xs => exact h
def WF (S : So) : Prop := ∀ o ∈ S, O.lo S.length o = true
theorem StoreR.wf {S : So} (h : StoreR K H α S) : WF S := fun o ho => by
 obtain ⟨n, hn, e⟩ := List.mem_iff_getElem.mp ho
 have hn' : n < α.length := by rw [h.len]; exact hn
 have := (h.obj n o α[n] (by rw [List.getElem?_eq_some_iff]; exact ⟨hn, e⟩) (by simp)).lo
 rw [h.len] at this
 exact this
theorem StoreR.cut {S : So} (h : StoreR K H α S) (n : Nat) (b : ∀ o ∈ S.take n, O.lo n o = true) : StoreR K H (α.take n) (S.take n) := by
 have lt : ∀ {m : Nat} {o : O}, (S.take n)[m]? = some o → m < n := fun {m o} h1 => by
   have := (List.getElem?_eq_some_iff.mp h1).1
   simp at this; omega
 refine ⟨by simp [h.len], fun m k o1 o2 a h1 h2 w1 w2 a1 a2 => ?_, fun m o a h1 h2 => ?_⟩
 · have l1 := lt h1
   have l2 := lt h2
   rw [List.getElem?_take_of_lt l1] at h1 a1
   rw [List.getElem?_take_of_lt l2] at h2 a2
   exact h.nd m k o1 o2 a h1 h2 w1 w2 a1 a2
 have hm : m < n := by
   have := (List.getElem?_eq_some_iff.mp h1).1
   simp at this; omega
 have b1 := b o (List.mem_of_getElem? h1)
 rw [List.getElem?_take_of_lt hm] at h1 h2
 exact (h.obj m o a h1 h2).cut n b1
end
def intsT : List D → Option (List Int)
 | [] => some []
 | d :: r => match d with
   | .int i => (intsT r).map fun l => i :: l
   | _ => none
def nkRow : D → Option (List Int)
 | .tup ds => intsT ds
 | _ => none
def nkRows : List D → Option NK
 | [] => some []
 | d :: r => (nkRow d).bind fun k => (nkRows r).map fun ks => k :: ks
def nkOf : D → Option NK
 | .tup ds => nkRows ds
 | _ => none
def kD (k : NK) : D := .tup (k.map fun ks => .tup (ks.map .int))
section
variable {K : PySem.W.Frag} {H : Hp} {α : List Addr}
theorem zfD : ∀ {ds : List D} {l : List Int} {vs : List V}, intsT ds = some l → Reps K H α ds vs → vs = l.map V.int
 | [], l, vs, h, r => by cases h; cases r; rfl
 | d :: ds, l, _, h, .cons r rr => by
   unfold intsT at h
   split at h
   · simp only [Option.map_eq_some_iff] at h
     obtain ⟨l', e, rfl⟩ := h
     cases r
     rw [zfD e rr]; rfl
   · cases h
theorem zeP : ∀ {ds : List D} {k : NK} {vs : List V}, nkRows ds = some k → Reps K H α ds vs → ∃ bs : List Addr, vs = bs.map V.ref ∧ Paired (fun (ks : List Int) (c : Addr) => SqT K H c (ks.map V.int)) k bs
 | [], k, vs, h, r => by cases h; cases r; exact ⟨[], rfl, .nil⟩
 | d :: ds, k, _, h, .cons r rr => by
   unfold nkRows at h
   simp only [Option.bind_eq_some_iff, Option.map_eq_some_iff] at h
   obtain ⟨l, e1, ks, e2, rfl⟩ := h
   obtain ⟨bs, h1, h2⟩ := zeP e2 rr
   cases r with
   | tup hq hr =>
     have e3 := zfD (show intsT _ = some l from e1) hr
     subst e3
     exact ⟨_ :: bs, by rw [h1]; rfl, .cons hq h2⟩
   | _ => cases e1
theorem zgt {d : D} {k : NK} {v : V} (h : nkOf d = some k) (r : Rep K H α d v) : ∃ b, v = .ref b ∧ NKey K H k b := by
 cases r with
 | tup hq hr =>
   obtain ⟨bs, h1, h2⟩ := zeP (show nkRows _ = some k from h) hr
   subst h1
   exact ⟨_, rfl, bs, hq, h2⟩
 | _ => cases h
theorem zeb : ∀ l : List Int, Reps K H α (l.map .int) (l.map V.int)
 | [] => .nil
 | i :: l => .cons (.int i) (zeb l)
theorem zi9 {k : NK} {b : Addr} (h : NKey K H k b) : Rep K H α (kD k) (.ref b) := by
 obtain ⟨bs, h1, h2⟩ := h
 refine .tup h1 ?_
 clear h1
 induction h2 with
 | nil => exact .nil
 | cons hc _ ih => exact .cons (.tup hc (zeb _)) ih
end
end MX
end
section
set_option autoImplicit false
namespace MX
open PySem PySem.Spec PyProof.Rows L2
open Builtin.Int (intBits)
abbrev EF := Sg → So → Option (D × So)
def Kt (K : PySem.W.Frag) (H : Hp) (α : List Addr) (z : D) (S' : So) (Q : VK) : Prop :=
 ∀ w H' α', StoreR K H' α' S' → Ext K H α H' α' → Rep K H' α' z w → Q w H'
def rdE (K : PySem.W.Frag) (f : EF) : TE := fun σ H Q => ∃ σd S α z S', VarsR K H α σd σ ∧ StoreR K H α S ∧ f σd S = some (z, S') ∧ Kt K H α z S' Q
def SE (X : Cx) (e : Expr) (f : EF) : Prop := PE X e (rdE X.K f)
theorem PE.imp {X : Cx} {e : Expr} {t t' : TE} (h : PE X e t) (k : ∀ σ H Q, t' σ H Q → t σ H Q) : PE X e t' := fun pins s σ H Q I q => h pins s σ H Q I (k σ H Q q)
abbrev G2 := D → D → So → Option (D × So)
abbrev GN := List D → So → Option (D × So)
def rdOp (K : PySem.W.Frag) (g : G2) : R2 := fun v u H Q => ∃ S α x y z S', StoreR K H α S ∧ Rep K H α x v ∧ Rep K H α y u ∧ g x y S = some (z, S') ∧ Kt K H α z S' Q
def rdC (K : PySem.W.Frag) (g : GN) : List V → Hp → VK → Prop := fun vs H Q => ∃ S α ds z S', StoreR K H α S ∧ Reps K H α ds vs ∧ g ds S = some (z, S') ∧ Kt K H α z S' Q
theorem Kt.same {K : PySem.W.Frag} {H : Hp} {α : List Addr} {z : D} {S : So} {Q : VK} {w : V} (k : Kt K H α z S Q) (s : StoreR K H α S) (r : Rep K H α z w) : Q w H := k w H α s Ext.refl r
theorem Kt.new {K : PySem.W.Frag} {H H' : Hp} {α : List Addr} {z : D} {S : So} {Q : VK} {w : V} (k : Kt K H α z S Q) (s : StoreR K H α S) (m : Same H H') (r : Rep K H' α z w) : Q w H' := k w H' α (s.mono m) (Same.ext m) r
theorem Kt.trans {K : PySem.W.Frag} {H H1 : Hp} {α α1 : List Addr} {z : D} {S' : So} {Q : VK} (k : Kt K H α z S' Q) (e : Ext K H α H1 α1) : Kt K H1 α1 z S' Q := fun w H' α' s x r => k w H' α' s (e.trans x) r
def mulOk (i j : Int) : Bool := decide (intBits i ≤ 64) || decide (intBits j ≤ 64) || decide (intBits i + intBits j ≤ 134217728)
theorem mulOk.ok {i j : Int} (h : mulOk i j = true) : IntMulOk i j := by
 unfold mulOk at h
 rw [Bool.or_eq_true, Bool.or_eq_true] at h
 rcases h with (h | h) | h
 · exact .of_left (of_decide_eq_true h)
 · exact .of_right (of_decide_eq_true h)
 · exact IntMulOk.of_le (Nat.le_refl _) (Nat.le_refl _) (of_decide_eq_true h)
def divOk (j : Int) : Bool := decide (j ≠ 0) && decide (intBits j ≤ 8000)
theorem divOk.ok {i j : Int} (h : divOk j = true) : j ≠ 0 ∧ Builtin.divisionGoesByPylong i j = false := by
 unfold divOk at h
 rw [Bool.and_eq_true] at h
 have h1 : j ≠ 0 := of_decide_eq_true h.1
 have h2 : intBits j ≤ 8000 := of_decide_eq_true h.2
 refine ⟨h1, PyProof.noPylong_of_log2 ?_⟩
 have hb : (j == 0) = false := by simpa using h1
 unfold Builtin.Int.intBits at h2
 rw [hb] at h2
 simp only [Bool.false_eq_true, if_false] at h2
 omega
section
variable {X : Cx}
theorem zkW : OpR X (binaryOp .Mult) (rI (fun i j => mulOk i j = true) fun i j => .int (i * j)) := opI fun _ _ _ _ _ _ _ hc q => mul_int q (mulOk.ok hc)
theorem zkY : OpR X (binaryOp .FloorDiv) (rI (fun _ j => divOk j = true) fun i j => .int (i.fdiv j)) := opI fun _ _ _ _ _ _ _ hc q => floordiv_int (divOk.ok (i := 0) hc).1 q (.inl (divOk.ok hc).2)
end
def gAdd : G2
 | .int i, .int j, S => some (.int (i + j), S)
 | .str a, .str b, S => if a.length + b.length ≤ sizeLine then some (.str (a ++ b), S) else none
 | .tup xs, .tup ys, S => if xs ≠ [] ∧ xs.length + ys.length ≤ sizeLine then some (.tup (xs ++ ys), S) else none
 | .ref n, .ref m, S => match S[n]?, S[m]? with
   | some (.lst xs), some (.lst ys) => if xs.length + ys.length ≤ sizeLine then some (.ref S.length, S ++ [.lst (xs ++ ys)]) else none
   | _, _ => none
 | _, _, _ => none
def gSub : G2
 | .int i, .int j, S => some (.int (i - j), S)
 | _, _, _ => none
def gMul : G2
 | .int i, .int j, S => if mulOk i j = true then some (.int (i * j), S) else none
 | _, _, _ => none
def gDiv : G2
 | .int i, .int j, S => if divOk j = true then some (.int (i.fdiv j), S) else none
 | _, _, _ => none
def gMod : G2
 | .int i, .int j, S => if j ≠ 0 then some (.int (i.fmod j), S) else none
 | _, _, _ => none
def gShl : G2
 | .int i, .int j, S => if 0 ≤ j ∧ j ≤ 1000000 ∧ i.natAbs < 2 ^ 64 then some (.int (i * 2 ^ j.toNat), S) else none
 | _, _, _ => none
def gPow : G2
 | .int i, .int j, S => if 0 ≤ j ∧ j ≤ 1000000 ∧ i.natAbs < 2 ^ 64 then some (.int (i ^ j.toNat), S) else none
 | _, _, _ => none
def gBin : Operator → G2
 | .Add => gAdd
 | .Sub => gSub
 | .Mult => gMul
 | .FloorDiv => gDiv
 | .Mod => gMod
 | .LShift => gShl
 | .Pow => gPow
 | _ => fun _ _ _ => none
section
variable {X : Cx}
theorem zkU : OpR X (binaryOp .Add) (rdOp X.K gAdd) := by
 intro pins s σ H v u vv uu Q I rv ru h
 obtain ⟨S, α, x, y, z, S', hs, rx, ry, hg, k⟩ := h
 unfold gAdd at hg
 split at hg
 · cases hg; cases rx; cases ry
   exact zmO pins s σ H _ _ _ _ Q I rv ru ⟨_, _, rfl, rfl, k.same hs (.int _)⟩
 · split at hg
   · rename_i hl
     cases hg; cases rx; cases ry
     exact zgY pins s σ H _ _ _ _ Q I rv ru ⟨_, _, rfl, rfl, hl, k.same hs (.str _)⟩
   · cases hg
 · split at hg
   · rename_i hl
     cases hg
     cases rx with
     | tup h1 r1 =>
       cases ry with
       | tup h2 r2 =>
         refine zkZ pins s σ H _ _ _ _ Q I rv ru ⟨_, _, _, _, rfl, rfl, h1, h2, ?_, ?_, ?_, ?_⟩
         · intro e; subst e; cases r1; exact hl.1 rfl
         · rw [← r1.length, ← r2.length]; exact hl.2
         · intro e; subst e; cases r2
           exact k.same hs (.tup h1 (by rw [List.append_nil]; exact r1))
         · intro _ p hp
           exact k.new hs (zbm hp) (.tup (SqT.of zaI) ((r1.append r2).mono (Same.ext (zbm hp))))
   · cases hg
 · split at hg
   · rename_i n m xs ys e1 e2
     split at hg
     · rename_i hl
       cases hg
       cases rx with
       | ref a1 =>
         cases ry with
         | ref a2 =>
           obtain ⟨vs, h1, r1⟩ := hs.obj _ _ _ e1 a1
           obtain ⟨ws, h2, r2⟩ := hs.obj _ _ _ e2 a2
           refine zmN pins s σ H _ _ _ _ Q I rv ru ⟨_, _, _, _, rfl, rfl, h1, h2, by rw [← r1.length, ← r2.length]; exact hl, fun p hp => ?_⟩
           obtain ⟨s', e'⟩ := hs.snoc (p := p) (o := .lst (xs ++ ys)) (u := .lst (vs ++ ws)) hp fun α' e => ⟨_, zaI, (r1.append r2).mono e⟩
           exact k _ _ _ s' e' (.ref (by rw [← hs.len]; simp))
     · cases hg
   · cases hg
 · cases hg
theorem zkJ : OpR X (binaryOp .Sub) (rdOp X.K gSub) := by
 intro pins s σ H v u vv uu Q I rv ru h
 obtain ⟨S, α, x, y, z, S', hs, rx, ry, hg, k⟩ := h
 unfold gSub at hg
 split at hg
 · cases hg; cases rx; cases ry
   exact zmJ pins s σ H _ _ _ _ Q I rv ru ⟨_, _, rfl, rfl, k.same hs (.int _)⟩
 · cases hg
theorem zkO : OpR X (binaryOp .Mult) (rdOp X.K gMul) := by
 intro pins s σ H v u vv uu Q I rv ru h
 obtain ⟨S, α, x, y, z, S', hs, rx, ry, hg, k⟩ := h
 unfold gMul at hg
 split at hg
 · split at hg
   · rename_i hc
     cases hg; cases rx; cases ry
     exact zkW pins s σ H _ _ _ _ Q I rv ru ⟨_, _, rfl, rfl, hc, k.same hs (.int _)⟩
   · cases hg
 · cases hg
theorem zkS : OpR X (binaryOp .FloorDiv) (rdOp X.K gDiv) := by
 intro pins s σ H v u vv uu Q I rv ru h
 obtain ⟨S, α, x, y, z, S', hs, rx, ry, hg, k⟩ := h
 unfold gDiv at hg
 split at hg
 · split at hg
   · rename_i hc
     cases hg; cases rx; cases ry
     exact zkY pins s σ H _ _ _ _ Q I rv ru ⟨_, _, rfl, rfl, hc, k.same hs (.int _)⟩
   · cases hg
 · cases hg
theorem zkP : OpR X (binaryOp .Mod) (rdOp X.K gMod) := by
 intro pins s σ H v u vv uu Q I rv ru h
 obtain ⟨S, α, x, y, z, S', hs, rx, ry, hg, k⟩ := h
 unfold gMod at hg
 split at hg
 · split at hg
   · rename_i hc
     cases hg; cases rx; cases ry
     exact zkX pins s σ H _ _ _ _ Q I rv ru ⟨_, _, rfl, rfl, hc, k.same hs (.int _)⟩
   · cases hg
 · cases hg
theorem zkK : OpR X (binaryOp .LShift) (rdOp X.K gShl) := by
 intro pins s σ H v u vv uu Q I rv ru h
 obtain ⟨S, α, x, y, z, S', hs, rx, ry, hg, k⟩ := h
 unfold gShl at hg
 split at hg
 · split at hg
   · rename_i hc
     cases hg; cases rx; cases ry
     exact zmK pins s σ H _ _ _ _ Q I rv ru ⟨_, _, rfl, rfl, hc, k.same hs (.int _)⟩
   · cases hg
 · cases hg
theorem zkL : OpR X (binaryOp .Pow) (rdOp X.K gPow) := by
 intro pins s σ H v u vv uu Q I rv ru h
 obtain ⟨S, α, x, y, z, S', hs, rx, ry, hg, k⟩ := h
 unfold gPow at hg
 split at hg
 · split at hg
   · rename_i hc
     cases hg; cases rx; cases ry
     exact zmL pins s σ H _ _ _ _ Q I rv ru ⟨_, _, rfl, rfl, hc, k.same hs (.int _)⟩
   · cases hg
 · cases hg
theorem zkT : ∀ op : Operator, OpR X (binaryOp op) (rdOp X.K (gBin op)) := by
 intro op
 cases op
 case Add => exact zkU
 case Sub => exact zkJ
 case Mult => exact zkO
 case FloorDiv => exact zkS
 case Mod => exact zkP
 case LShift => exact zkK
 case Pow => exact zkL
 all_goals
   intro pins s σ H v u vv uu Q I rv ru h
   obtain ⟨S, α, x, y, z, S', hs, rx, ry, hg, k⟩ := h
   exact absurd hg (by simp [gBin])
end
def toPl (f : D → Option PyData) : List D → Option (List PyData)
 | [] => some []
 | d :: ds => (f d).bind fun p => (toPl f ds).map fun ps => p :: ps
def toP (S : So) : Nat → D → Option PyData
 | 0, _ => none
 | _ + 1, .non => some .none
 | _ + 1, .bl b => some (.bool b)
 | _ + 1, .int i => some (.int i)
 | _ + 1, .str x => some (.str x)
 | n + 1, .tup ds => (toPl (toP S n) ds).map .tuple
 | n + 1, .ref m => match S[m]? with
   | some (.lst ds) => (toPl (toP S n) ds).map .list
   | some (.frz ds) => (toPl (toP S n) ds).map .list
   | _ => none
 | _ + 1, _ => none
theorem zeF {X : Cx} {s : Shared} {H : Hp} {α : List Addr} {f : D → Option PyData} (hf : ∀ d v u p, Rep X.K H α d v → RelV v u → f d = some p → ∃ as, Reads s.heap u p as) :
   ∀ ds vs us ps, Reps X.K H α ds vs → Vals vs us → toPl f ds = some ps → ∃ as, ReadsAll s.heap us ps as
 | _, _, _, _, .nil, .nil, e => by simp [toPl] at e; subst e; exact ⟨_, .nil⟩
 | _, _, _, _, .cons r rr, .cons rv rvs, e => by
   simp only [toPl, Option.bind_eq_some_iff, Option.map_eq_some_iff] at e
   obtain ⟨p, e1, ps, e2, rfl⟩ := e
   obtain ⟨as, ra⟩ := hf _ _ _ _ r rv e1
   obtain ⟨bs, rb⟩ := zeF hf _ _ _ _ rr rvs e2
   exact ⟨_, .cons ra rb⟩
theorem zcl {X : Cx} {pins : List (Addr × Obj)} {s : Shared} {σ : L2.St} {H : Hp} {α : List Addr} {S : So} (I : Inv X pins σ H s) (hs : StoreR X.K H α S) : ∀ (n : Nat) d v u p, Rep X.K H α d v → RelV v u → toP S n d = some p → ∃ as, Reads s.heap u p as
 | 0, d, v, u, p, _, _, e => by simp [toP] at e
 | n + 1, d, v, u, p, r, rv, e => by
   have ih := zeF (X := X) (s := s) (zcl I hs n)
   cases r with
   | non => cases rv; simp [toP] at e; subst e; exact ⟨_, .none⟩
   | bl b => cases rv; simp [toP] at e; subst e; exact ⟨_, .bool b⟩
   | int i => obtain ⟨t, rfl⟩ := rv; simp [toP] at e; subst e; exact ⟨_, .int i t⟩
   | str x => obtain ⟨t, rfl⟩ := rv; simp [toP] at e; subst e; exact ⟨_, .str x t⟩
   | tup h r =>
     cases rv
     simp only [toP, Option.map_eq_some_iff] at e
     obtain ⟨ps, e1, rfl⟩ := e
     obtain ⟨its, r', ⟨o, ho, hc, m, hd⟩, _⟩ := I.tuple h
     obtain ⟨as, ra⟩ := ih _ _ _ _ r r' e1
     exact ⟨_, .tuple ho hc hd (by simpa using ra)⟩
   | @ref m a h =>
     cases rv
     simp only [toP] at e
     cases hm : S[m]? with
     | none => rw [hm] at e; simp at e
     | some o =>
       rw [hm] at e
       have hob := hs.obj _ _ _ hm h
       cases o with
       | lst ds =>
         simp only [Option.map_eq_some_iff] at e
         obtain ⟨ps, e1, rfl⟩ := e
         obtain ⟨vs, h1, r⟩ := hob
         obtain ⟨its, r', ⟨o, m, ho, hc, hdd, hd⟩, _⟩ := I.list (SqL.of (K := X.K) h1)
         obtain ⟨as, ra⟩ := ih _ _ _ _ r r' e1
         exact ⟨_, .list ho hc hd (by simpa using ra)⟩
       | frz ds =>
         simp only [Option.map_eq_some_iff] at e
         obtain ⟨ps, e1, rfl⟩ := e
         obtain ⟨vs, h1, r⟩ := hob
         obtain ⟨its, r', ⟨o, m, ho, hc, hdd, hd⟩, _⟩ := I.list h1.sq
         obtain ⟨as, ra⟩ := ih _ _ _ _ r r' e1
         exact ⟨_, .list ho hc hd (by simpa using ra)⟩
       | ins C fs => simp at e
       | dct xs => simp at e
   | ty n => simp [toP] at e
   | adr a => simp [toP] at e
def eqD (S : So) (x y : D) : Option Bool := (toP S 24 x).bind fun p => (toP S 24 y).bind fun q => if SeqAt.shaped p = true ∧ SeqAt.shaped q = true then some (PyData.eqv p q) else none
def isNon : D → Bool
 | .non => true
 | _ => false
def gCmp : CmpOp → G2
 | .Lt, .int i, .int j, S => some (.bl (decide (i < j)), S)
 | .LtE, .int i, .int j, S => some (.bl (decide (i ≤ j)), S)
 | .Gt, .int i, .int j, S => some (.bl (decide (j < i)), S)
 | .GtE, .int i, .int j, S => some (.bl (decide (j ≤ i)), S)
 | .Eq, .int i, .int j, S => some (.bl (decide (i = j)), S)
 | .NotEq, .int i, .int j, S => some (.bl (!decide (i = j)), S)
 | .Eq, x, y, S => (eqD S x y).map fun b => (.bl b, S)
 | .NotEq, x, y, S => (eqD S x y).map fun b => (.bl (!b), S)
 | .Is, x, .non, S => some (.bl (isNon x), S)
 | .IsNot, x, .non, S => some (.bl (!isNon x), S)
 | _, _, _, _ => none
theorem zhw {K : PySem.W.Frag} {H : Hp} {α : List Addr} {x : D} {v : V} (r : Rep K H α x v) : decide (v = .non) = isNon x := by
 cases r <;> simp [isNon]
section
variable {X : Cx}
theorem zkQ : OpR X (compareOp .Eq) (rI0 fun i j => .bl (decide (i = j))) := opB0 fun _ _ _ _ _ _ _ q => eq_int (by rw [Bool.beq_eq_decide_eq]; exact q)
theorem zkM : OpR X (compareOp .NotEq) (rI0 fun i j => .bl (!decide (i = j))) := opB0 fun _ _ _ _ _ _ _ q => ne_int (by rw [bne, Bool.beq_eq_decide_eq]; exact q)
theorem zkR {pins : List (Addr × Obj)} {s : Shared} {σ : L2.St} {H : Hp} {v u : V} {vv uu : Value} {Q : VK} {S : So} {α : List Addr} {x y : D} {b : Bool} (hu : X.A.units + 64 < cLine) (I : Inv X pins σ H s) (rv : RelV v vv) (ru : RelV u uu)
   (hs : StoreR X.K H α S) (rx : Rep X.K H α x v) (ry : Rep X.K H α y u) (hg : eqD S x y = some b) (k : Q (.bl b) H) : wpAny (model X.prog X.w) X.A (compareOp .Eq vv uu) (EP X pins σ Q) X.xe s := by
 unfold eqD at hg
 simp only [Option.bind_eq_some_iff] at hg
 obtain ⟨p, e1, q, e2, hg⟩ := hg
 split at hg
 · rename_i hc
   obtain ⟨as, ra⟩ := zcl I hs 24 _ _ _ _ rx rv e1
   obtain ⟨bs, rb⟩ := zcl I hs 24 _ _ _ _ ry ru e2
   cases hg
   exact SeqAt.compareEq_shaped ra rb hc.1 hc.2 hu ⟨.bl _, H, I, rfl, k⟩
 · cases hg
theorem zkN {pins : List (Addr × Obj)} {s : Shared} {σ : L2.St} {H : Hp} {v u : V} {vv uu : Value} {Q : VK} {S : So} {α : List Addr} {x y : D} {b : Bool} (hu : X.A.units + 64 < cLine) (I : Inv X pins σ H s) (rv : RelV v vv) (ru : RelV u uu)
   (hs : StoreR X.K H α S) (rx : Rep X.K H α x v) (ry : Rep X.K H α y u) (hg : eqD S x y = some b) (k : Q (.bl (!b)) H) : wpAny (model X.prog X.w) X.A (compareOp .NotEq vv uu) (EP X pins σ Q) X.xe s := by
 unfold eqD at hg
 simp only [Option.bind_eq_some_iff] at hg
 obtain ⟨p, e1, q, e2, hg⟩ := hg
 split at hg
 · rename_i hc
   obtain ⟨as, ra⟩ := zcl I hs 24 _ _ _ _ rx rv e1
   obtain ⟨bs, rb⟩ := zcl I hs 24 _ _ _ _ ry ru e2
   cases hg
   exact SeqAt.compareNe_shaped ra rb hc.1 hc.2 hu ⟨.bl _, H, I, rfl, k⟩
 · cases hg
theorem zhE (hu : X.A.units + 64 < cLine) : ∀ op : CmpOp, OpR X (compareOp op) (rdOp X.K (gCmp op)) := by
 intro op pins s σ H v u vv uu Q I rv ru h
 obtain ⟨S, α, x, y, z, S', hs, rx, ry, hg, k⟩ := h
 unfold gCmp at hg
 split at hg
 · cases hg; cases rx; cases ry
   exact znV pins s σ H _ _ _ _ Q I rv ru ⟨_, _, rfl, rfl, k.same hs (.bl _)⟩
 · cases hg; cases rx; cases ry
   exact znW pins s σ H _ _ _ _ Q I rv ru ⟨_, _, rfl, rfl, k.same hs (.bl _)⟩
 · cases hg; cases rx; cases ry
   exact znX pins s σ H _ _ _ _ Q I rv ru ⟨_, _, rfl, rfl, k.same hs (.bl _)⟩
 · cases hg; cases rx; cases ry
   exact znY pins s σ H _ _ _ _ Q I rv ru ⟨_, _, rfl, rfl, k.same hs (.bl _)⟩
 · cases hg; cases rx; cases ry
   exact zkQ pins s σ H _ _ _ _ Q I rv ru ⟨_, _, rfl, rfl, k.same hs (.bl _)⟩
 · cases hg; cases rx; cases ry
   exact zkM pins s σ H _ _ _ _ Q I rv ru ⟨_, _, rfl, rfl, k.same hs (.bl _)⟩
 · simp only [Option.map_eq_some_iff] at hg
   obtain ⟨b, e, hg⟩ := hg
   cases hg
   exact zkR hu I rv ru hs rx ry e (k.same hs (.bl _))
 · simp only [Option.map_eq_some_iff] at hg
   obtain ⟨b, e, hg⟩ := hg
   cases hg
   exact zkN hu I rv ru hs rx ry e (k.same hs (.bl _))
 · cases hg; cases ry
   exact zmM pins s σ H _ _ _ _ Q I rv ru ⟨rfl, by rw [zhw rx]; exact k.same hs (.bl _)⟩
 · cases hg; cases ry
   refine zkV pins s σ H _ _ _ _ Q I rv ru ⟨rfl, ?_⟩
   rw [zhw rx]
   exact k.same hs (.bl _)
 · cases hg
end
def gIx : G2
 | .tup xs, .int i, S => (atI xs i).map fun z => (z, S)
 | .ref n, .int i, S => match S[n]? with
   | some (.lst xs) => (atI xs i).map fun z => (z, S)
   | some (.frz xs) => (atI xs i).map fun z => (z, S)
   | _ => none
 | .str z, .int i, S => if z.length ≤ sizeLine then (atI z.cps.toList i).map fun c => (.str ⟨#[c]⟩, S) else none
 | _, _, _ => none
theorem zgk {K : PySem.W.Frag} {H : Hp} {α : List Addr} {ds : List D} {vs : List V} {i : Int} {z : D} (r : Reps K H α ds vs) (h : atI ds i = some z) : ∃ w, atI vs i = some w ∧ Rep K H α z w := by
 unfold atI at h ⊢
 rw [← r.length]
 cases e : ixN ds.length i with
 | none => rw [e] at h; simp at h
 | some j =>
   rw [e] at h
   exact r.get h
theorem ixs {X : Cx} : IxR X (rdOp X.K gIx) := by
 intro value slice pins s σ H v u vv uu Q I rv ru h hsub
 obtain ⟨S, α, x, y, z, S', hs, rx, ry, hg, k⟩ := h
 unfold gIx at hg
 split at hg
 · simp only [Option.map_eq_some_iff] at hg
   obtain ⟨b, e, hg⟩ := hg
   cases hg; cases ry
   cases rx with
   | tup h r =>
     obtain ⟨w, e', rw'⟩ := zgk r e
     exact zm0 value slice pins s σ H _ _ _ _ Q I rv ru ⟨_, _, _, _, rfl, rfl, h, e', k.same hs rw'⟩ hsub
 · cases ry
   cases rx with
   | ref h =>
     rename_i n i a
     cases hm : S[n]? with
     | none => rw [hm] at hg; simp at hg
     | some o =>
       rw [hm] at hg
       have hob := hs.obj _ _ _ hm h
       cases o with
       | lst ds =>
         simp only [Option.map_eq_some_iff] at hg
         obtain ⟨b, e, hg⟩ := hg
         cases hg
         obtain ⟨vs, h1, r⟩ := hob
         obtain ⟨w, e', rw'⟩ := zgk r e
         exact zhR value slice pins s σ H _ _ _ _ Q I rv ru ⟨_, _, _, _, rfl, rfl, SqL.of h1, e', k.same hs rw'⟩ hsub
       | frz ds =>
         simp only [Option.map_eq_some_iff] at hg
         obtain ⟨b, e, hg⟩ := hg
         cases hg
         obtain ⟨vs, h1, r⟩ := hob
         obtain ⟨w, e', rw'⟩ := zgk r e
         exact zhR value slice pins s σ H _ _ _ _ Q I rv ru ⟨_, _, _, _, rfl, rfl, h1.sq, e', k.same hs rw'⟩ hsub
       | ins C fs => simp at hg
       | dct xs => simp at hg
 · split at hg
   · rename_i hl
     simp only [Option.map_eq_some_iff] at hg
     obtain ⟨b, e, hg⟩ := hg
     cases hg; cases rx; cases ry
     exact zm1 value slice pins s σ H _ _ _ _ Q I rv ru ⟨_, _, _, rfl, rfl, hl, e, k.same hs (.str _)⟩ hsub
   · cases hg
 · cases hg
end MX
end
section
set_option autoImplicit false
namespace MX
open PySem PySem.Spec PyProof.Rows L2
theorem zdV (names : List (Str × NameKind)) : ∀ (n : Nat) (acc : List (Str × Addr)), cellsFrom n names acc = cellsFrom n names [] ++ acc := by
 induction names with
 | nil => intro n acc; simp [cellsFrom]
 | cons p r ih =>
   intro n acc
   obtain ⟨x, k⟩ := p
   unfold cellsFrom
   split
   · rw [ih, ih _ [(x, n)], List.append_assoc]; rfl
   · exact ih n acc
theorem zgJ {names : List (Str × NameKind)} : ∀ {n : Nat} {x : Str} {c : Addr}, (x, c) ∈ cellsFrom n names [] → n ≤ c ∧ (x, NameKind.cell) ∈ names := by
 induction names with
 | nil => intro n x c h; simp [cellsFrom] at h
 | cons p r ih =>
   intro n x c h
   obtain ⟨y, k⟩ := p
   unfold cellsFrom at h
   split at h
   · rename_i hk
     rw [zdV, List.mem_append] at h
     rcases h with h | h
     · have := ih h
       exact ⟨by omega, List.mem_cons_of_mem _ this.2⟩
     · have e : (x, c) = (y, n) := by simpa using h
       cases e
       have : k = NameKind.cell := by simpa using hk
       subst this
       exact ⟨Nat.le_refl _, List.mem_cons_self⟩
   · have := ih h
     exact ⟨this.1, List.mem_cons_of_mem _ this.2⟩
theorem zbn {α : Type} (x : Str) : ∀ (l r : List (Str × α)), (l ++ r).lookup x = (l.lookup x).or (r.lookup x)
 | [], r => by simp
 | (k, v) :: l, r => by
   rw [List.cons_append, List.lookup_cons, List.lookup_cons]
   cases x == k with
   | true => rfl
   | false => exact zbn x l r
theorem zer {names : List (Str × NameKind)} {n : Nat} {acc : List (Str × Addr)} {x : Str} {c : Addr} (h : (cellsFrom n names acc).lookup x = some c) :
   ((cellsFrom n names []).lookup x = some c) ∨ ((cellsFrom n names []).lookup x = none ∧ acc.lookup x = some c) := by
 rw [zdV, zbn] at h
 cases e : (cellsFrom n names []).lookup x with
 | some d => rw [e] at h; exact .inl h
 | none => rw [e] at h; exact .inr ⟨rfl, h⟩
theorem zfl {env : Env} (f : Str × NameKind → List (Str × Addr) → Sem (ForInStep (List (Str × Addr))))
   (hf : ∀ name kind cs, f (name, kind) cs = if (kind == NameKind.free) = true then (do let a ← cellOf env name; pure (.yield ((name, a) :: cs))) else pure (.yield cs)) :
   ∀ (names : List (Str × NameKind)) (acc : List (Str × Addr)), (∀ y ∈ names, y.2 = .free → ∃ c, env.cells.lookup y.1 = some c) → ∃ cl, forIn names acc f = pure cl ∧
     (∀ x c, cl.lookup x = some c → acc.lookup x = some c ∨ ((x, NameKind.free) ∈ names ∧ env.cells.lookup x = some c)) ∧ ∀ x, ((x, NameKind.free) ∈ names ∨ ∃ c, acc.lookup x = some c) → ∃ c, cl.lookup x = some c
 | [], acc, _ => ⟨acc, by rw [List.forIn_nil], fun x c h => .inl h, fun x h => by
     rcases h with h | h
     · cases h
     · exact h⟩
 | (y, k) :: r, acc, h => by
   by_cases hk : k = NameKind.free
   · subst hk
     obtain ⟨c, hc⟩ := h (y, .free) List.mem_cons_self rfl
     obtain ⟨cl, e, h1, h2⟩ := zfl f hf r ((y, c) :: acc) fun z hz => h z (List.mem_cons_of_mem _ hz)
     refine ⟨cl, ?_, fun x d hx => ?_, fun x hx => h2 x ?_⟩
     · rw [List.forIn_cons, hf]
       have e1 : cellOf env y = pure c := by unfold cellOf; rw [hc]
       simp only [beq_self_eq_true, if_true, e1, pure_bind]
       exact e
     · rcases h1 x d hx with q | ⟨q1, q2⟩
       · rw [List.lookup_cons] at q
         cases hb : x == y with
         | true =>
           rw [hb] at q; cases q
           obtain rfl : x = y := by simpa using hb
           exact .inr ⟨List.mem_cons_self, hc⟩
         | false => rw [hb] at q; exact .inl q
       · exact .inr ⟨List.mem_cons_of_mem _ q1, q2⟩
     · rcases hx with hx | ⟨d, hx⟩
       · rcases List.mem_cons.mp hx with q | q
         · cases q
           exact .inr ⟨c, by simp⟩
         · exact .inl q
       · cases hb : x == y with
         | true => exact .inr ⟨c, by rw [List.lookup_cons, hb]⟩
         | false => exact .inr ⟨d, by rw [List.lookup_cons, hb]; exact hx⟩
   · have hb : (k == NameKind.free) = false := by simpa using hk
     obtain ⟨cl, e, h1, h2⟩ := zfl f hf r acc fun z hz => h z (List.mem_cons_of_mem _ hz)
     refine ⟨cl, ?_, fun x d hx => ?_, fun x hx => h2 x ?_⟩
     · rw [List.forIn_cons, hf, hb]
       simp only [Bool.false_eq_true, if_false, pure_bind]
       exact e
     · rcases h1 x d hx with q | ⟨q1, q2⟩
       · exact .inl q
       · exact .inr ⟨List.mem_cons_of_mem _ q1, q2⟩
     · rcases hx with hx | hx
       · rcases List.mem_cons.mp hx with q | q
         · cases q; exact absurd rfl hk
         · exact .inl q
       · exact .inr hx
theorem zlv {scope : Scope} {env : Env} (h : ∀ y ∈ scope.names, y.2 = .free → ∃ c, env.cells.lookup y.1 = some c) : ∃ cl, closureFor scope env = pure cl ∧
   (∀ x c, cl.lookup x = some c → (x, NameKind.free) ∈ scope.names ∧ env.cells.lookup x = some c) ∧ ∀ x, (x, NameKind.free) ∈ scope.names → ∃ c, cl.lookup x = some c := by
 obtain ⟨cl, e, h1, h2⟩ := zfl (env := env) (fun x cs => if (x.2 == NameKind.free) = true then (do let a ← cellOf env x.1; pure (.yield ((x.1, a) :: cs))) else pure (.yield cs)) (fun _ _ _ => rfl) scope.names [] h
 refine ⟨cl, ?_, fun x c q => ?_, fun x q => h2 x (.inl q)⟩
 · unfold closureFor
   show (forIn scope.names [] _ >>= fun cs => pure cs) = _
   rw [show (forIn scope.names ([] : List (Str × Addr)) _ : Sem (List (Str × Addr))) = _ from e]
   rfl
 · rcases h1 x c q with z | z
   · simp at z
   · exact z
theorem zbW {env : Env} : ∀ {names : List (Str × NameKind)} {x : Str},
   (names.map fun (n, k) => if (k == NameKind.free && env.scope.kind == .function && env.kindOf n == some .cell) then (n, NameKind.cell) else (n, k)).lookup x =
     (names.lookup x).map fun k => if (k == NameKind.free && env.scope.kind == .function && env.kindOf x == some .cell) then NameKind.cell else k
 | [], _ => rfl
 | (n, k) :: r, x => by
   have ih := @zbW env r x
   show List.lookup x ((if (k == NameKind.free && env.scope.kind == .function && env.kindOf n == some .cell) = true then (n, NameKind.cell) else (n, k)) :: _) = _
   cases hx : x == n with
   | true =>
     obtain rfl : x = n := by simpa using hx
     by_cases hc : (k == NameKind.free && env.scope.kind == .function && env.kindOf x == some .cell) = true
     · rw [if_pos hc]; simp only [List.lookup_cons, hx, Option.map_some, if_pos hc]
     · rw [if_neg hc]; simp only [List.lookup_cons, hx, Option.map_some, if_neg hc]
   | false =>
     by_cases hc : (k == NameKind.free && env.scope.kind == .function && env.kindOf n == some .cell) = true
     · rw [if_pos hc]; simp only [List.lookup_cons, hx]; exact ih
     · rw [if_neg hc]; simp only [List.lookup_cons, hx]; exact ih
theorem zgL {M : Model} {A : Around} {E : Value → Shared → Prop} {s : Shared} {scope : Scope} {globals : Addr} {cl : List (Str × Addr)} {qual : Str} {env : Env} {Q : Env → Shared → Prop}
   (h : Q { scope := scope, locals := s.heap.objs.size, globals := globals, cells := cellsFrom (s.heap.objs.size + 1) scope.names cl, qual := qual, func := none, code := env.code, frame := env.frame, builtins := env.builtins }
     { s with heap := pushCells (s.heap.push { cls := .type "dict", data := .dict #[] }) scope.names }) :
   wpAny M A (newFunctionEnv scope globals cl [] qual none .none (some env)) Q E s := by
 simp only [newFunctionEnv, Option.isSome_some, if_true]
 refine wpAny_bind (wpAny_alloc ?_)
 refine wpAny_bind (wpAny_layCells _ (fun name kind cells => by cases hkc : kind == NameKind.cell <;> simp [hkc]) _ _ _ _ ?_)
 rw [show ({ s with heap := s.heap.push { cls := .type "dict", data := .dict #[] } } : Shared).heap.objs.size = s.heap.objs.size + 1 from Heap.size_push ..]
 rw [List.forIn_nil]
 exact wpAny_bind (wpAny_pure (wpAny_pure h))
structure CompOk (X : Cx) (scope : Scope) (N' : List Str) (src : List (Option Nat)) : Prop where
 kind : scope.kind = .function
 uniq : ∀ y ∈ scope.names, scope.names.lookup y.1 = some y.2
 free : ∀ y ∈ scope.names, y.2 = .free → (X.env.kindOf y.1 = some .cell ∨ X.env.kindOf y.1 = some .free)
 len : src.length = N'.length
 src : ∀ (j i : Nat) x, N'[j]? = some x → src[j]? = some (some i) → X.N[i]? = some x ∧ scope.names.lookup x = some .free
def srcV (src : List (Option Nat)) (σ : L2.St) : L2.St := src.map fun o => o.bind fun i => (σ[i]?).join
def compCx (X : Cx) (scope : Scope) (N' : List Str) (cl : List (Str × Addr)) (s₂ : Shared) (H₂ : Hp) (fp : List Addr) : Cx where
 prog := X.prog
 w := X.w
 K := X.K
 mg := X.mg
 base := X.base
 A := X.A
 N := N'
 s₀ := s₂
 H₀ := H₂
 env := { scope := relabel scope X.env, locals := s₂.heap.objs.size + 1, globals := X.env.globals, cells := cellsFrom (s₂.heap.objs.size + 1 + 1) scope.names cl, qual := X.env.qual, func := none, code := X.env.code, frame := X.env.frame, builtins := X.env.builtins }
 outer := X.stack
 stack := X.stack
 ex := fp
 fn := fun x => decide (scope.names.lookup x = some .cell)
 calm := X.calm
 pn := []
 xe := fun _ _ => False
structure IsComp (X : Cx) (scope : Scope) (N' : List Str) (Y : Cx) : Prop where
 prog : Y.prog = X.prog
 w : Y.w = X.w
 K : Y.K = X.K
 mg : Y.mg = X.mg
 base : Y.base = X.base
 A : Y.A = X.A
 N : Y.N = N'
 sc : Y.env.scope = relabel scope X.env
 calm : Y.calm = X.calm
 fn : ∀ x, scope.names.lookup x = some .cell → Y.fn x = true
section
variable {X : Cx} {pins : List (Addr × Obj)} {σ : L2.St} {H : Hp} {s : Shared} {scope : Scope} {N' : List Str} {src : List (Option Nat)} {cl : List (Str × Addr)} {fp : List Addr}
theorem zhW : IsComp X scope N' (compCx X scope N' cl s H fp) := ⟨rfl, rfl, rfl, rfl, rfl, rfl, rfl, rfl, rfl, fun x h => decide_eq_true h⟩
theorem zjj (I : Inv X pins σ H s) (hf : ∀ b ∈ fp, FpOk X pins H b) (hfe : ∀ b ∈ fp, ∃ o, s.heap.get? b = some o) (ok : CompOk X scope N' src)
   (h1 : ∀ x c, cl.lookup x = some c → (x, NameKind.free) ∈ scope.names ∧ X.env.cells.lookup x = some c) (h2 : ∀ x, (x, NameKind.free) ∈ scope.names → ∃ c, cl.lookup x = some c) {l : Obj} :
   Inv (compCx X scope N' cl s H fp) [] (srcV src σ) H { s with heap := pushCells ((s.heap.push l).push { cls := .type "dict", data := .dict #[] }) scope.names } := by
 have hC : ((s.heap.push l).objs.size) = s.heap.objs.size + 1 := Heap.size_push ..
 have keep : ∀ b o, s.heap.get? b = some o → (pushCells ((s.heap.push l).push { cls := .type "dict", data := .dict #[] }) scope.names).get? b = some o := fun b o e =>
   pushCells_keeps _ _ b o (Heap.get?_push_of_some _ (Heap.get?_push_of_some _ e))
 have okc := cellsFrom_ok scope.names ((s.heap.push l).push { cls := .type "dict", data := .dict #[] }) (s.heap.objs.size + 1 + 1) [] ⟨fun _ _ hm => (nomatch hm), List.Pairwise.nil⟩ (by rw [Heap.size_push, hC]; exact Nat.le_refl _)
 rw [Heap.size_push, hC] at okc
 have cells : ∀ x c, (compCx X scope N' cl s H fp).env.cells.lookup x = some c → ((cellsFrom (s.heap.objs.size + 1 + 1) scope.names []).lookup x = some c ∧ s.heap.objs.size + 1 + 1 ≤ c ∧ (x, NameKind.cell) ∈ scope.names) ∨ (X.env.cells.lookup x = some c ∧ (x, NameKind.free) ∈ scope.names) := fun x c e => by
   rcases zer e with z | ⟨_, z⟩
   · have := zgJ (PySem.mem_of_lookup z)
     exact .inl ⟨z, this.1, this.2⟩
   · exact .inr ⟨(h1 x c z).2, (h1 x c z).1⟩
 have oldc : ∀ x c, X.env.cells.lookup x = some c → c < s.heap.objs.size := fun x c e => by
   obtain ⟨v, q⟩ := I.cell x c e
   exact q.lt
 have rel : ∀ x, (compCx X scope N' cl s H fp).env.kindOf x = (scope.names.lookup x).map fun k => if (k == NameKind.free && X.env.scope.kind == .function && X.env.kindOf x == some .cell) then NameKind.cell else k := fun x => zbW
 have fpl : ∀ b ∈ fp, b < s.heap.objs.size := fun b hb => by
   obtain ⟨o, e⟩ := hfe b hb
   exact Heap.lt_size e
 have cap : ∀ x y c, (compCx X scope N' cl s H fp).env.cells.lookup x = some c → (compCx X scope N' cl s H fp).env.cells.lookup y = some c → x = y := fun x y c ex ey => by
   rcases cells x c ex with ⟨z1, l1, m1⟩ | ⟨z1, m1⟩ <;> rcases cells y c ey with ⟨z2, l2, m2⟩ | ⟨z2, m2⟩
   · exact name_of_addr okc.apart (PySem.mem_of_lookup z1) (PySem.mem_of_lookup z2)
   · exact absurd (Nat.lt_of_lt_of_le (oldc y c z2) (Nat.le_trans (Nat.le_add_right _ 2) l1)) (Nat.lt_irrefl _)
   · exact absurd (Nat.lt_of_lt_of_le (oldc x c z1) (Nat.le_trans (Nat.le_add_right _ 2) l2)) (Nat.lt_irrefl _)
   · exact I.ok.inj x y c z1 z2
 have hlast : (pushCells ((s.heap.push l).push { cls := .type "dict", data := .dict #[] }) scope.names).Ns (s.heap.objs.size + 1) (fun _ => none) := by
   have q : ((s.heap.push l).push { cls := .type "dict", data := .dict #[] }).Ns (s.heap.push l).objs.size (fun _ => none) := Heap.Ns.new (s.heap.push l) (.type "dict")
   rw [hC] at q
   exact q.keeps (pushCells_keeps _ _)
 refine ⟨⟨I.ok.mod, ok.kind, I.ok.glob, I.ok.blt, Nat.le_succ _, cap, fun x hx => ?_, fun x c hx e => ?_, I.ok.hd, I.ok.frames, .inl rfl, fun b hb => ?_, I.bs, Nat.le_trans I.ok.bsz I.sz, fun b o e hb => ?_, fun b hb => ?_, I.stack, I.stkFree⟩,
   rfl, I.bare, Un.kept keep, ⟨_, hlast, fun i x v e1 e2 e3 => ?_⟩, fun x c e => ?_, I.hok.fresh (Nat.le_succ _), fun x c e => ?_, fun p hp => absurd (show p ∈ ([] : List (Addr × Obj)) from hp) (by simp), I.hok.kept keep, ?_⟩
 · -- has
   rw [rel] at hx
   have hk : scope.names.lookup x = some .cell ∨ scope.names.lookup x = some .free := by
     cases q : scope.names.lookup x with
     | none => rw [q] at hx; simp at hx
     | some k =>
       rw [q] at hx
       simp only [Option.map_some, Option.some.injEq] at hx
       by_cases hk : k = .free
       · exact .inr (by rw [hk])
       · have hb : (k == NameKind.free) = false := by simpa using hk
         simp only [hb, Bool.false_and, Bool.false_eq_true, if_false] at hx
         rcases hx with hx | hx
         · exact .inl (by rw [hx])
         · exact absurd hx hk
   show ∃ c, (cellsFrom (s.heap.objs.size + 1 + 1) scope.names cl).lookup x = some c
   rw [zdV, zbn]
   rcases hk with hk | hk
   · obtain ⟨c, hc⟩ := Option.isSome_iff_exists.mp (PySem.W.cellsFrom_some scope.names (s.heap.objs.size + 1 + 1) [] (.inl hk))
     exact ⟨c, by rw [hc]; rfl⟩
   · obtain ⟨c, hc⟩ := h2 x (PySem.mem_of_lookup hk)
     cases q : (cellsFrom (s.heap.objs.size + 1 + 1) scope.names []).lookup x with
     | some d => exact ⟨d, rfl⟩
     | none => exact ⟨c, hc⟩
 · -- cab
   have hx' : scope.names.lookup x = some .cell := of_decide_eq_true hx
   rcases cells x c e with ⟨_, l1, _⟩ | ⟨_, m1⟩
   · show s.heap.objs.size ≤ c; omega
   · rw [ok.uniq _ m1] at hx'; cases hx'
 · -- exf
   refine ⟨?_, fun x c e z => ?_⟩
   · exact Nat.ne_of_lt (Nat.lt_succ_of_lt (fpl b hb))
   · subst z
     rcases cells x c e with ⟨_, l1, _⟩ | ⟨z1, _⟩
     · exact absurd (Nat.lt_of_lt_of_le (fpl c hb) (Nat.le_trans (Nat.le_add_right _ 2) l1)) (Nat.lt_irrefl _)
     · exact (hf c hb).2.2.2.2.1 x c z1 rfl
 · -- noex
   obtain ⟨_, _, _, q, _⟩ := hf b hb
   rcases q with q | q
   · exact I.ok.noex b o e q
   · exact absurd (Nat.lt_of_lt_of_le (Nat.lt_of_lt_of_le (Heap.lt_size e) I.ok.bsz) q) (Nat.lt_irrefl _)
 · -- exfs
   intro z
   obtain ⟨_, f1, f2, _⟩ := hf b hb
   exact (List.mem_cons.mp (I.stkSub b z)).elim f1 f2
 · -- loc
   have e1' : N'[i]? = some x := e1
   obtain ⟨j, hj, hv⟩ : ∃ j, src[i]? = some (some j) ∧ σ[j]? = some (some v) := by
     unfold srcV at e2
     rw [List.getElem?_map] at e2
     cases q : src[i]? with
     | none => rw [q] at e2; simp at e2
     | some o =>
       rw [q] at e2
       cases o with
       | none => simp at e2
       | some j =>
         refine ⟨j, rfl, ?_⟩
         simp only [Option.map_some, Option.bind_some, Option.some.injEq] at e2
         cases q2 : σ[j]? with
         | none => rw [q2] at e2; simp at e2
         | some o2 => rw [q2] at e2; simp at e2; rw [e2]
   obtain ⟨hN, hfr⟩ := ok.src i j x e1' hj
   have hm := PySem.mem_of_lookup hfr
   have hk := ok.free _ hm rfl
   obtain ⟨m, hn, hl⟩ := I.loc
   obtain ⟨u, ru, lk⟩ := hl j x v hN hv (by rcases hk with hk | hk; exact .inr (.inl hk); exact .inr (.inr hk))
   refine ⟨u, ru, .inr ⟨?_, ?_⟩⟩
   · rw [rel, hfr]
     simp only [Option.map_some]
     split
     · exact .inl rfl
     · exact .inr rfl
   · rcases lk with ⟨q, _⟩ | ⟨_, c, hc, hcell⟩
     · rcases hk with hk | hk <;> (rw [q] at hk; cases hk)
     · refine ⟨c, ?_, hcell.keeps keep⟩
       show (cellsFrom (s.heap.objs.size + 1 + 1) scope.names cl).lookup x = some c
       rw [zdV, zbn]
       have hnone : (cellsFrom (s.heap.objs.size + 1 + 1) scope.names []).lookup x = none := by
         cases q : (cellsFrom (s.heap.objs.size + 1 + 1) scope.names []).lookup x with
         | none => rfl
         | some d =>
           have := ok.uniq _ (zgJ (PySem.mem_of_lookup q)).2
           rw [hfr] at this; cases this
       rw [hnone]
       obtain ⟨c', hc'⟩ := h2 x hm
       have := (h1 x c' hc').2
       rw [hc] at this; cases this
       exact hc'
 · -- cell
   rcases cells x c e with ⟨z1, _, _⟩ | ⟨z1, _⟩
   · exact ⟨none, (okc.empty x c (PySem.mem_of_lookup z1)).1⟩
   · obtain ⟨v, q⟩ := I.cell x c z1
     exact ⟨v, q.keeps keep⟩
 · -- freeC
   rcases cells x c e with ⟨_, l1, _⟩ | ⟨z1, _⟩
   · exact I.hok.fresh (by omega)
   · exact I.freeC x c z1
 · -- len
   show (srcV src σ).length = N'.length
   unfold srcV
   rw [List.length_map]; exact ok.len
end
theorem zgi {prog : Program} {w : World} {A : Around} {R : Result → Shared → Prop} {s : Shared} {elt target iter : Expr} {ifs : List Expr} {scope : Scope} {pos : Pos} {it acc : Value} {env : Env} (I : Nat → Shared → Prop)
   (turn : ∀ n s, I n s → wpAny (model prog w) A (pyNext it) (fun r s₁ => match r with
     | none => R (.ok .next) s₁
     | some v => wpAny (model prog w) A (letOwnedTupleGo target it v) (fun _ s₀ => wpAny (model prog w) A (assign target env v) (fun _ s₂ =>
         wpAny (model prog w) A (forIn ifs true fun c r => if r = true then do let ok ← isTrue c env (eval c env); pure (ForInStep.yield ok) else pure (ForInStep.yield r)) (fun ok s₃ =>
           if ok = true then wpAny (model prog w) A (eval elt env) (fun x s₄ =>
             wpAny (model prog w) A (call (.builtin "list.append") [acc, x]) (fun _ s₅ => ∃ m, m < n ∧ I m s₅) (fun _ _ => False) s₄) (fun _ _ => False) s₃
           else ∃ m, m < n ∧ I m s₃) (fun _ _ => False) s₂) (fun _ _ => False) s₀) (fun _ _ => False) s₁) (fun _ _ => False) s)
   (n : Nat) (h : I n s) :
   codeAny (model prog w) A (.compLoop (.ListComp elt [⟨target, iter, ifs, 0⟩] scope pos) 0 it acc env) R s := by
 refine codeAny_loop rfl I (fun n s hI => ?_) n h
 show wpAny _ A ((compTurn (.ListComp elt [⟨target, iter, ifs, 0⟩] scope pos) 0 it acc env).onRaise (fun x => do noteFrame x env; theTreesLotGoes x)) _ _ s
 refine wpAny_noted ?_
 rw [compTurn_list]
 refine wpAny_bind (wpAny_standAt (wpAny_bind (wpAny_mono (turn n s hI) (fun r s₁ h₁ => ?_) fun _ _ h' => h'.elim)))
 cases r with
 | none => exact wpAny_pure h₁
 | some v =>
   refine wpAny_bind (wpAny_mono h₁ (fun _ s₀ h₀ => ?_) fun _ _ h' => h'.elim)
   refine wpAny_bind (wpAny_mono h₀ (fun _ s₂ h₂ => wpAny_bind (wpAny_mono h₂ (fun ok s₃ h₃ => ?_) fun _ _ h' => h'.elim)) fun _ _ h' => h'.elim)
   cases ok with
   | false => exact wpAny_pure ⟨rfl, h₃⟩
   | true =>
     exact wpAny_bind (wpAny_bind (wpAny_mono h₃ (fun x s₄ h₄ => wpAny_bind (wpAny_mono h₄ (fun _ s₅ h₅ => wpAny_pure (wpAny_pure ⟨rfl, h₅⟩)) fun _ _ h' => h'.elim)) fun _ _ h' => h'.elim))
def PTs (X : Cx) (ifs : List Expr) (t : TT) : Prop :=
 ∀ (pins : List (Addr × Obj)) (s : Shared) (σ : L2.St) (H : Hp) (Q : Bool → Hp → Prop), Inv X pins σ H s → t σ H Q →
   wpAny (model X.prog X.w) X.A (forIn ifs true fun c r => if r = true then do let ok ← isTrue c X.env (eval c X.env); pure (ForInStep.yield ok) else pure (ForInStep.yield r)) (TP X pins σ Q) X.xe s
theorem zkr {X : Cx} : PTs X [] (fun _ H Q => Q true H) := fun _ _ _ H _ I h => wpAny_tests_nil ⟨H, I, h⟩
theorem zkq {X : Cx} {c : Expr} {t : TT} (h : PT X c t) : PTs X [c] t := fun pins s σ H Q I q => wpAny_tests_one (h pins s σ H Q I q)
def LcW (J : It) (g : TG) (tt : TT) (te : TE) (Fin : List V → Hp → Prop) (W : Nat → Nat → List V → L2.St → Hp → Prop) : Prop :=
 ∀ i m ys τ H, W i m ys τ H → (J.stop i H ∧ Fin ys H) ∨ (J.go i H ∧ ys.length < sizeLine ∧ ∀ x H', J.yld i H x H' → g x τ H' fun τ2 H2 => tt τ2 H2 fun b H3 =>
   if b = true then te τ2 H3 fun y H4 => ∃ m', m' < m ∧ W (i + 1) m' (ys ++ [y]) τ2 H4 else ∃ m', m' < m ∧ W (i + 1) m' ys τ2 H3)
theorem HOk.track {P : Program} {w : World} {H : Hp} {h : Heap} {a : Addr} {o : HO} (x : HOk P w H h) (hn : H a = none) (new : ObjOk P w (upd H a o) h a o) : HOk P w (upd H a o) h := fun b u e => by
 by_cases hb : b = a
 · subst hb; rw [zaI] at e; cases e; exact new
 · rw [zay hb] at e
   exact (x b u e).stay (fun c v _ q => q) (fun c q => by rw [zay (zaw q hn)]; exact q) fun c xs q => by rw [zay (zaw q hn)]; exact q
theorem Un.track {fs ex : List Addr} {H H' : Hp} {h h' : Heap} {a : Addr} {o : HO} (u : Un fs ex H H' h h') (hn : H' a = none) (ha : h.get? a = none) : Un fs ex H (upd H' a o) h h' where
 keep := u.keep
 slot := u.slot
 free := fun b ob q n hx => by
   rw [zay (fun z => by rw [z, ha] at q; cases q)]
   exact u.free b ob q n hx
 there := u.there
 tups := fun b xs q => by rw [zay (zaw (u.tups b xs q) hn)]; exact u.tups b xs q
 frzs := fun b ob xs q => by rw [zay (zaw (u.frzs b ob xs q) hn)]; exact u.frzs b ob xs q
 tbls := fun b ps q => by
   obtain ⟨m, e⟩ := u.tbls b ps q
   exact ⟨m, by rw [zay (zaw e hn)]; exact e⟩
theorem zfL {X : Cx} {pins : List (Addr × Obj)} {σ : L2.St} {H : Hp} {s : Shared} {scope : Scope} {N' : List Str} {src : List (Option Nat)} {cl : List (Str × Addr)} {fp : List Addr} {elt tg iter : Expr} {ifs : List Expr} {pos : Pos}
   {J : It} {it : Addr} {tn : Nat → Heap → Prop} {g : TG} {tt : TT} {te : TE} {Fin : List V → Hp → Prop} {W : Nat → Nat → List V → L2.St → Hp → Prop} {RR : Value → Addr → Result → Shared → Prop} {E : Value → Shared → Prop}
   (hc : X.calm = true) (ok : CompOk X scope N' src) (I : Inv X pins σ H s) (T : Turn X.prog X.w X.K tg J fp it tn) (st : tn 0 s.heap) (hf : ∀ b ∈ fp, FpOk X pins H b)
   (h1 : ∀ x c, cl.lookup x = some c → (x, NameKind.free) ∈ scope.names ∧ X.env.cells.lookup x = some c) (h2 : ∀ x, (x, NameKind.free) ∈ scope.names → ∃ c, cl.lookup x = some c)
   (hY : ∀ Y, IsComp X scope N' Y → PG Y tg g ∧ PTs Y ifs tt ∧ PE Y elt te)
   (w0 : ∃ m, W 0 m [] (srcV src σ) H) (turn : LcW J g tt te Fin W)
   (hRR : ∀ ys H' s' oC m, H' s.heap.objs.size = none → LCg.NsObj oC m → Inv X (pins ++ [(s.heap.objs.size + 1, oC)]) σ (upd H' s.heap.objs.size (.lst ys)) s' → Fin ys H' → RR (.ref s.heap.objs.size) (s.heap.objs.size + 1) (.ok .next) s') :
   wpAny (model X.prog X.w) X.A (newList []) (fun acc s₃ => wpAny (model X.prog X.w) X.A (newFunctionEnv scope X.env.globals cl [] X.env.qual none .none (some X.env)) (fun cenv s₄ =>
     codeAny (model X.prog X.w) X.A (.compStart (.ListComp elt [⟨tg, iter, ifs, 0⟩] scope pos) 0 (.ref it) acc { cenv with scope := relabel scope X.env }) (RR acc cenv.locals) s₄) E s₃) E s := by
 have hfe : ∀ b ∈ fp, ∃ o, s.heap.get? b = some o := fun b hb => by
   obtain ⟨o, e, _⟩ := T.obj _ _ st b hb
   exact ⟨o, e⟩
 refine wpAny_newObj_type (zgL ?_)
 have hC : (s.heap.push { cls := .type "list", dict := none, data := .seq ([] : List Value).toArray }).objs.size = s.heap.objs.size + 1 := Heap.size_push ..
 dsimp only
 rw [hC]
 have I0 : Inv (compCx X scope N' cl s H fp) [] (srcV src σ) H { s with heap := pushCells ((s.heap.push { cls := .type "list", dict := none, data := .seq ([] : List Value).toArray }).push { cls := .type "dict", data := .dict #[] }) scope.names } :=
   zjj I hf hfe ok h1 h2
 have isY : IsComp X scope N' (compCx X scope N' cl s H fp) := zhW
 obtain ⟨hg, ht, he⟩ := hY _ isY
 generalize hYe : compCx X scope N' cl s H fp = Y at I0 isY hg ht he
 have eP : Y.prog = X.prog := isY.prog
 have ew : Y.w = X.w := isY.w
 have eA : Y.A = X.A := isY.A
 have eK : Y.K = X.K := isY.K
 have ecalm : Y.calm = true := isY.calm.trans hc
 have eenv : Y.env = { scope := relabel scope X.env, locals := s.heap.objs.size + 1, globals := X.env.globals, cells := cellsFrom (s.heap.objs.size + 1 + 1) scope.names cl, qual := X.env.qual, func := none, code := X.env.code, frame := X.env.frame, builtins := X.env.builtins } := by rw [← hYe]; rfl
 have exe : Y.xe = fun _ _ => False := by rw [← hYe]; rfl
 have efs : Y.fs = frs X.stack := by rw [← hYe]; rfl
 have eex : Y.ex = fp := by rw [← hYe]; rfl
 have es0 : Y.s₀ = s := by rw [← hYe]; rfl
 have eH0 : Y.H₀ = H := by rw [← hYe]; rfl
 have epn : Y.pn = [] := by rw [← hYe]; rfl
 have eL : Y.env.locals = s.heap.objs.size + 1 := by rw [eenv]
 rw [← eenv]
 have fpl : ∀ b ∈ fp, b < s.heap.objs.size := fun b hb => by
   obtain ⟨o, e⟩ := hfe b hb
   exact Heap.lt_size e
 have hD : ∀ (τ : L2.St) (H' : Hp) (s' : Shared) (pn : List (Addr × Obj)), Inv Y pn τ H' s' → ∀ x c, Y.env.cells.lookup x = some c → c ≠ s.heap.objs.size := fun τ H' s' pn J' x c e z => by
   have e' := e
   rw [eenv] at e'
   rcases zer e' with q | ⟨_, q⟩
   · have := (zgJ (PySem.mem_of_lookup q)).1
     rw [z] at this
     exact absurd (Nat.lt_of_lt_of_le (Nat.lt_succ_self _) (Nat.le_trans (Nat.le_succ _) this)) (Nat.lt_irrefl _)
   · obtain ⟨v, q'⟩ := I.cell x c (h1 x c q).2
     have := q'.lt
     rw [z] at this
     exact absurd this (Nat.lt_irrefl _)
 have stat : ∀ {H' : Hp} {pn : List (Addr × Obj)}, (∀ b ∈ fp, H' b = none) → (∀ p ∈ pn, p.1 = s.heap.objs.size) → ∀ b ∈ fp, FpOk Y pn H' b := fun {H' pn} hn hp b hb => by
   refine ⟨hn b hb, ?_, ?_, .inl (by rw [eex]; exact hb), fun x c e z => ?_, fun p hm z => ?_⟩
   · rw [eL]; exact Nat.ne_of_lt (Nat.lt_succ_of_lt (fpl b hb))
   · rw [efs]
     intro z
     exact (List.mem_cons.mp (I.stkSub b z)).elim (hf b hb).2.1 (hf b hb).2.2.1
   · subst z
     rw [eenv] at e
     rcases zer e with q | ⟨_, q⟩
     · have := (zgJ (PySem.mem_of_lookup q)).1
       exact absurd (Nat.lt_of_lt_of_le (fpl c hb) (Nat.le_trans (Nat.le_add_right _ 2) this)) (Nat.lt_irrefl _)
     · exact (hf c hb).2.2.2.2.1 x c (h1 x c q).2 rfl
   · rw [epn, List.nil_append] at hm
     have e1 := hp p hm
     rw [e1] at z
     have := fpl b hb
     rw [← z] at this
     exact absurd this (Nat.lt_irrefl _)
 obtain ⟨m0, w0⟩ := w0
 have loop : ∀ s₃ : Shared, s₃ = { s with heap := pushCells ((s.heap.push { cls := .type "list", dict := none, data := .seq ([] : List Value).toArray }).push { cls := .type "dict", data := .dict #[] }) scope.names } →
     codeAny (model X.prog X.w) X.A (.compLoop (.ListComp elt [⟨tg, iter, ifs, 0⟩] scope pos) 0 (.ref it) (.ref s.heap.objs.size) Y.env) (RR (.ref s.heap.objs.size) (s.heap.objs.size + 1)) s₃ := by
   rintro s₃ rfl
   refine zgi (fun n s' => ∃ i ys τ H' its k, Inv Y [(s.heap.objs.size, { cls := .type "list", data := .seq (List.toArray its) k })] τ H' s' ∧ Vals ys its ∧ ys.length ≤ sizeLine ∧ tn i s'.heap ∧ (∀ b ∈ fp, H' b = none) ∧ W i n ys τ H') ?_ m0 ?_
   · rintro n s3 ⟨i, ys, τ, H3, its, k, I3, rv, hlen, st3, fr3, w3⟩
     have fo3 := stat fr3 (pn := [(s.heap.objs.size, { cls := .type "list", data := .seq (List.toArray its) k })]) (by simp)
     rcases turn i n ys τ H3 w3 with ⟨stop, fin⟩ | ⟨go, hlt, step⟩
     · have q := T.done Y eP ew eK ecalm i _ s3 τ H3 (fun _ _ => False) I3 fo3 st3 stop
       rw [eA] at q
       refine thn q fun r s4 ⟨hr, I4⟩ => ?_
       subst hr
       obtain ⟨oD, nD, _⟩ := I4.pin (s.heap.objs.size, { cls := .type "list", data := .seq (List.toArray its) k }) (by rw [epn]; simp)
       obtain ⟨m, hn, _⟩ := I4.loc
       rw [eL] at hn
       obtain ⟨oC, heC, hoC⟩ := LCg.ns_obj hn
       have un := I4.base
       rw [efs, eex, eH0, es0] at un
       have hfresh : s.heap.get? s.heap.objs.size = none := by
         cases q : s.heap.get? s.heap.objs.size with
         | none => rfl
         | some o => exact absurd (Heap.lt_size q) (Nat.lt_irrefl _)
       have hok := I4.hok
       rw [eP, ew] at hok
       have hCn : H3 (s.heap.objs.size + 1) = none := by have := I4.free; rw [eL] at this; exact this
       have I5 : Inv X pins σ (upd H3 s.heap.objs.size (.lst ys)) s4 := by
         refine I.call' (ch := fp) (by have := I4.os; rw [es0] at this; exact this) (Un.track un nD hfresh) (HOk.track hok nD ⟨hlen, its, k, rv, oD⟩) I4.bare fun b hb => ?_
         exact ⟨(hf b hb).2.2.2.1, (hf b hb).2.1, (hf b hb).2.2.2.2.1, (hf b hb).2.2.2.2.2⟩
       refine hRR ys H3 s4 oC m nD hoC ?_ fin
       refine I5.pins_of fun p hp => ?_
       rcases List.mem_append.mp hp with z | z
       · exact I5.pin p (List.mem_append_right _ z)
       · have e : p = (s.heap.objs.size + 1, oC) := by simpa using z
         subst e
         have fo := I.fpOk (b := s.heap.objs.size + 1) (H' := upd H3 s.heap.objs.size (.lst ys)) (Nat.le_succ _) (by rw [zay (Nat.ne_of_gt (Nat.lt_succ_self _))]; exact hCn)
         obtain ⟨es, ep, hd, _⟩ := hoC
         exact ⟨heC, fo.1, fo.2.1, fo.2.2.1, fun v z => by rw [hd] at z; cases z⟩
     · have q := T.item Y eP ew eK ecalm i _ s3 τ H3 (fun _ _ => False) I3 fo3 st3 go
       rw [eA] at q
       refine thn q fun r s4 ⟨u, hr, h4⟩ => ?_
       subst hr
       refine thn h4 fun _ s5 ⟨x, H5, I5, r5, y5, st5, fr5⟩ => ?_
       have fo5 := stat fr5 (pn := [(s.heap.objs.size, { cls := .type "list", data := .seq (List.toArray its) k })]) (by simp)
       have I5' := I5.pinned fo5 (T.obj _ _ st5)
       have q := hg _ s5 τ H5 x u _ I5' r5 (step x H5 y5)
       rw [eP, ew, eA, exe] at q
       refine thn q fun _ s6 ⟨τ6, H6, I6, q6⟩ => ?_
       have q := ht _ s6 τ6 H6 _ I6 q6
       rw [eP, ew, eA, exe] at q
       refine thn q fun b s7 ⟨H7, I7, q7⟩ => ?_
       have after : ∀ {τ8 : L2.St} {H8 : Hp} {s8 : Shared}, Inv Y ([(s.heap.objs.size, { cls := .type "list", data := .seq (List.toArray its) k })] ++ pinsAt fp s5.heap) τ8 H8 s8 →
           tn (i + 1) s8.heap ∧ (∀ b ∈ fp, H8 b = none) ∧ s8.heap.get? s.heap.objs.size = some { cls := .type "list", data := .seq (List.toArray its) k } ∧ H8 s.heap.objs.size = none := fun {τ8 H8 s8} I8 => by
         have pi : ∀ b ∈ fp, ∀ o, s5.heap.get? b = some o → s8.heap.get? b = some o ∧ H8 b = none := fun b hb o e => by
           have := I8.pin (b, o) (List.mem_append_right _ (List.mem_append_right _ (zdw hb e)))
           exact ⟨this.1, this.2.1⟩
         have pd := I8.pin (s.heap.objs.size, { cls := .type "list", data := .seq (List.toArray its) k }) (List.mem_append_right _ (List.mem_append_left _ (by simp)))
         refine ⟨T.keep _ _ _ st5 fun b hb o e => (pi b hb o e).1, fun b hb => ?_, pd.1, pd.2.1⟩
         obtain ⟨o, e, d⟩ := T.obj _ _ st5 b hb
         exact (pi b hb o e).2
       cases b with
       | false =>
         rw [if_neg Bool.false_ne_true]
         rw [if_neg Bool.false_ne_true] at q7
         obtain ⟨m', hm, w7⟩ := q7
         obtain ⟨a1, a2, _, _⟩ := after I7
         exact ⟨m', hm, i + 1, ys, τ6, H7, its, k, I7.unpinned, rv, hlen, a1, a2, w7⟩
       | true =>
         rw [if_pos rfl]
         rw [if_pos rfl] at q7
         have q := he _ s7 τ6 H7 _ I7 q7
         rw [eP, ew, eA, exe] at q
         refine thn q fun v s8 ⟨y, H8, I8, r8, m', hm, w8⟩ => ?_
         obtain ⟨a1, a2, aD, nD⟩ := after I8
         refine append_at (hsz := by rw [List.size_toArray, ← rv.length]; exact hlen) aD fun h9 sb9 e9 => ?_
         have hne : s.heap.objs.size ≠ Y.env.locals := by rw [eL]; exact Nat.ne_of_lt (Nat.lt_succ_self _)
         have I8' : Inv Y [] τ6 H8 s8 := I8.pins_of fun p hp => absurd hp (by simp)
         have I9 : Inv Y [] τ6 H8 { s8 with heap := h9 } := I8'.turned (t' := s8.toks) (fun b o hb e => sb9.extBut b o hb e) nD hne (.inr (by rw [es0]; exact Nat.le_refl _)) (fun x c e => hD _ _ _ _ I8 x c e) (by rw [epn]; simp)
         have I10 : Inv Y [(s.heap.objs.size, { cls := .type "list", data := .seq (List.toArray (its ++ [v])) (k + 1) })] τ6 H8 { s8 with heap := h9 } := I9.pins_of fun p hp => by
           have e : p = (s.heap.objs.size, { cls := .type "list", data := .seq (List.toArray (its ++ [v])) (k + 1) }) := by simpa using hp
           subst e
           refine ⟨by rw [← List.push_toArray]; exact e9, nD, hne, ?_, fun v z => by cases z⟩
           rw [efs]
           intro z
           rcases List.mem_cons.mp (I.stkSub _ z) with z | z
           · exact absurd I.lt (by rw [← z]; exact Nat.lt_irrefl _)
           · exact I.nofs (Nat.le_refl _) z
         refine ⟨m', hm, i + 1, ys ++ [y], τ6, H8, its ++ [v], k + 1, I10, rv.append (.cons r8 .nil), by rw [List.length_append]; exact hlt, ?_, a2, w8⟩
         exact T.keep _ _ _ a1 fun b hb o e => sb9.extBut b o (Nat.ne_of_lt (fpl b hb)) e
   · refine ⟨0, [], srcV src σ, H, [], 0, ?_, .nil, Nat.zero_le _, ?_, fun b hb => (hf b hb).1, w0⟩
     · refine I0.pins_of fun p hp => ?_
       have e : p = (s.heap.objs.size, { cls := .type "list", data := .seq (List.toArray []) 0 }) := by simpa using hp
       subst e
       refine ⟨pushCells_keeps _ _ _ _ (Heap.get?_push_of_some _ (Heap.get?_push_size _ rfl)), I.hok.fresh (Nat.le_refl _), by rw [eL]; exact Nat.ne_of_lt (Nat.lt_succ_self _), ?_, fun v z => by cases z⟩
       rw [efs]
       intro z
       rcases List.mem_cons.mp (I.stkSub _ z) with z | z
       · exact absurd I.lt (by rw [← z]; exact Nat.lt_irrefl _)
       · exact I.nofs (Nat.le_refl _) z
     · exact T.keep _ _ _ st fun b hb o e => pushCells_keeps _ _ _ _ (Heap.get?_push_of_some _ (Heap.get?_push_of_some _ e))
 exact codeAny_compStart_list (loop _ rfl) (T.self _ 0 _ _ _ (T.keep _ _ _ st fun b hb o e => pushCells_keeps _ _ _ _ (Heap.get?_push_of_some _ (Heap.get?_push_of_some _ e))) (loop _ rfl))
def tLc (wi : TI) (g : TG) (tt : TT) (te : TE) (src : List (Option Nat)) : TE := fun σ H Q => wi σ H fun J H1 => ∃ W, (∃ m, W 0 m [] (srcV src σ) H1) ∧
 LcW J g tt te (fun ys H' => ∀ p, H' p = none → Q (.ref p) (upd H' p (.lst ys))) W
section
variable {X : Cx} {elt tg iter : Expr} {ifs : List Expr} {scope : Scope} {pos : Pos} {N' : List Str} {src : List (Option Nat)} {wi : TI} {g : TG} {tt : TT} {te : TE}
theorem zhQ (ok : CompOk X scope N' src) {pins : List (Addr × Obj)} {σ : L2.St} {H : Hp} {s : Shared} (I : Inv X pins σ H s) : ∃ cl, closureFor scope X.env = pure cl ∧
   (∀ x c, cl.lookup x = some c → (x, NameKind.free) ∈ scope.names ∧ X.env.cells.lookup x = some c) ∧ ∀ x, (x, NameKind.free) ∈ scope.names → ∃ c, cl.lookup x = some c :=
 zlv (scope := scope) (env := X.env) fun y hy e => I.ok.has y.1 (ok.free y hy e)
theorem znP (hc : X.calm = true) (ok : CompOk X scope N' src) (hi : PI X tg iter wi) (hY : ∀ Y, IsComp X scope N' Y → PG Y tg g ∧ PTs Y ifs tt ∧ PE Y elt te)
   (hs : ∀ x, foldedSetIterable iter X.env x = pure x) : PE X (.ListComp elt [⟨tg, iter, ifs, 0⟩] scope pos) (tLc wi g tt te src) := by
 intro pins s σ H Q I h
 obtain ⟨cl, hclos, h1, h2⟩ := zhQ ok I
 rw [eval_ListComp]
 refine wpAny_comprehension_free (use := none) rfl hs hclos ok.kind (fun y hy e => by rw [ok.uniq y hy, e]) ?_
 refine thn (hi pins s σ H _ I h) fun v s1 q1 => thn q1 fun itv s2 q2 => ?_
 obtain ⟨it, fp, tn, J, H2, e, I2, T, st2, f2, W, w0, turn⟩ := q2
 subst e
 refine zfL (RR := fun acc C => compPost (model X.prog X.w) X.A X.xe none (EP X pins σ Q) acc C) hc ok I2 T st2 f2 h1 h2 hY w0 turn ?_
 intro ys H' s' oC m nD hoC I3 fin
 obtain ⟨heC, nC, neC, nfC, dC⟩ := I3.pin (s2.heap.objs.size + 1, oC) (List.mem_append_right _ (List.mem_append_right _ (by simp)))
 refine ⟨m, hoC.ns heC, fun h'' sb => ⟨.ref s2.heap.objs.size, _, ?_, rfl, fin _ nD⟩⟩
 have I4 : Inv X pins σ (upd H' s2.heap.objs.size (.lst ys)) s' := I3.unpinned
 have fo := I2.fpOk (b := s2.heap.objs.size + 1) (H' := upd H' s2.heap.objs.size (.lst ys)) (Nat.le_succ _) nC
 exact I4.turned (t' := s'.toks) (fun b o hb e => sb.extBut b o hb e) nC fo.2.1 fo.2.2.2.1 fo.2.2.2.2.1 fo.2.2.2.2.2
def tLcS (wi : TI) (g : TG) (tt : TT) (te : TE) (src : List (Option Nat)) (i : Nat) : TS := fun D σ H => wi σ H fun J H1 => ∃ W, (∃ m, W 0 m [] (srcV src σ) H1) ∧
 LcW J g tt te (fun ys H' => ∀ p, H' p = none → D.nx (σ.set i (some (.ref p))) (upd H' p (.lst ys))) W
theorem ziY {y : Str} {py spos : Pos} {i : Nat} (hN : X.N.Nodup) (hyi : X.N[i]? = some y) (hy : X.env.kindOf y = some .local)
   (hsw : swapsWith (.ListComp elt [⟨tg, iter, ifs, 0⟩] scope pos) (some (.Name y py)) spos.line X.env = pure true)
   (hc : X.calm = true) (ok : CompOk X scope N' src) (hi : PI X tg iter wi) (hY : ∀ Y, IsComp X scope N' Y → PG Y tg g ∧ PTs Y ifs tt ∧ PE Y elt te)
   (hs : ∀ x, foldedSetIterable iter X.env x = pure x) : PS X (.Assign [.Name y py] (.ListComp elt [⟨tg, iter, ifs, 0⟩] scope pos) spos) (tLcS wi g tt te src i) := by
 intro pins s σ H D I h
 obtain ⟨cl, hclos, h1, h2⟩ := zhQ ok I
 rw [exec_Assign_Name_used _ _ _ _ hsw]
 refine wpAny_bind (wpAny_standAt (wpAny_bind ?_))
 show wpAny _ _ (do let _ ← comprehension (.ListComp elt [⟨tg, iter, ifs, 0⟩] scope pos) scope X.env _ (newList []) false (eval iter X.env) (some (assign (.Name y py) X.env))) _ _ s
 refine wpAny_bind (wpAny_mono (wpAny_comprehension_free (use := some (assign (.Name y py) X.env)) (Q := fun _ s' => SP X pins D .next s') rfl hs hclos ok.kind (fun y hy e => by rw [ok.uniq y hy, e])
   ?_) (fun _ s' hq => wpAny_pure (wpAny_pure hq)) fun _ _ e => e)
 refine thn (hi pins s σ H _ I h) fun v s1 q1 => thn q1 fun itv s2 q2 => ?_
 obtain ⟨it, fp, tn, J, H2, e, I2, T, st2, f2, W, w0, turn⟩ := q2
 subst e
 refine zfL (RR := fun acc C => compPost (model X.prog X.w) X.A X.xe (some (assign (.Name y py) X.env)) (fun _ s' => SP X pins D .next s') acc C) hc ok I2 T st2 f2 h1 h2 hY w0 turn ?_
 intro ys H' s' oC m nD hoC I3 fin
 show wpAny _ _ (assign (.Name y py) X.env (.ref s2.heap.objs.size)) _ _ s'
 refine wpAny_assign_Name (zcD I3 hN hyi (.inl hy) (v := .ref s2.heap.objs.size) rfl (fun s3 I4 => ?_) (.inr hy))
 obtain ⟨heC, nC, neC, nfC, dC⟩ := I4.pin (s2.heap.objs.size + 1, oC) (List.mem_append_right _ (List.mem_append_right _ (by simp)))
 refine ⟨m, hoC.ns heC, fun h'' sb => ⟨_, _, ?_, fin _ nD⟩⟩
 have I5 : Inv X pins _ (upd H' s2.heap.objs.size (.lst ys)) s3 := I4.unpinned
 have fo := I2.fpOk (b := s2.heap.objs.size + 1) (H' := upd H' s2.heap.objs.size (.lst ys)) (Nat.le_succ _) nC
 exact I5.turned (t' := s3.toks) (fun b o hb e => sb.extBut b o hb e) nC fo.2.1 fo.2.2.2.1 fo.2.2.2.2.1 fo.2.2.2.2.2
end
end MX
end
section
set_option autoImplicit false
namespace MX
open PySem PySem.Spec PyProof.Rows L2
abbrev TF := Sg → So → Option (Bool × So)
abbrev AF := Sg → So → Option (List D × So)
inductive Fl where
 | nx | bk | ct | rt (d : D)
abbrev SF := Sg → So → Option (Fl × Sg × So)
abbrev GF := D → Sg → So → Option (Sg × So)
def Kb (K : PySem.W.Frag) (H : Hp) (α : List Addr) (S' : So) (Q : Hp → Prop) : Prop := ∀ H' α', StoreR K H' α' S' → Ext K H α H' α' → Q H'
def rdT (K : PySem.W.Frag) (f : TF) : TT := fun σ H Q => ∃ σd S α b S', VarsR K H α σd σ ∧ StoreR K H α S ∧ f σd S = some (b, S') ∧ Kb K H α S' (Q b)
def ST (X : Cx) (e : Expr) (f : TF) : Prop := PT X e (rdT X.K f)
def SW (X : Cx) (e : Expr) (f : TF) : Prop := PW X e (rdT X.K f)
def rdA (K : PySem.W.Frag) (f : AF) : TA := fun σ H Q => ∃ σd S α ds S', VarsR K H α σd σ ∧ StoreR K H α S ∧ f σd S = some (ds, S') ∧ ∀ vs H' α', StoreR K H' α' S' → Ext K H α H' α' → Reps K H' α' ds vs → Q vs H'
def SA (X : Cx) (es : List Expr) (f : AF) : Prop := PA X es (rdA X.K f)
def Ks (K : PySem.W.Frag) (H : Hp) (α : List Addr) (fl : Fl) (σd' : Sg) (S' : So) (D : Ends) : Prop :=
 ∀ σ' H' α', VarsR K H' α' σd' σ' → StoreR K H' α' S' → Ext K H α H' α' → match fl with
   | .nx => D.nx σ' H'
   | .bk => D.bk σ' H'
   | .ct => D.ct σ' H'
   | .rt d => ∀ v, Rep K H' α' d v → D.rt v H'
def rdS (K : PySem.W.Frag) (f : SF) : TS := fun D σ H => ∃ σd S α fl σd' S', VarsR K H α σd σ ∧ StoreR K H α S ∧ f σd S = some (fl, σd', S') ∧ Ks K H α fl σd' S' D
def SS (X : Cx) (st : Stmt) (f : SF) : Prop := PS X st (rdS X.K f)
def SSs (X : Cx) (sts : List Stmt) (f : SF) : Prop := PSs X sts (rdS X.K f)
def rdG (K : PySem.W.Frag) (f : GF) : TG := fun v σ H Q => ∃ σd S α d σd' S', VarsR K H α σd σ ∧ StoreR K H α S ∧ Rep K H α d v ∧ f d σd S = some (σd', S') ∧
 ∀ σ' H' α', VarsR K H' α' σd' σ' → StoreR K H' α' S' → Ext K H α H' α' → Q σ' H'
def SG (X : Cx) (tg : Expr) (f : GF) : Prop := PG X tg (rdG X.K f)
theorem PT.imp {X : Cx} {e : Expr} {t t' : TT} (h : PT X e t) (k : ∀ σ H Q, t' σ H Q → t σ H Q) : PT X e t' := fun pins s σ H Q I q => h pins s σ H Q I (k σ H Q q)
theorem PW.imp {X : Cx} {e : Expr} {t t' : TT} (h : PW X e t) (k : ∀ σ H Q, t' σ H Q → t σ H Q) : PW X e t' := fun wh pins s σ H Q I q => h wh pins s σ H Q I (k σ H Q q)
theorem PA.imp {X : Cx} {e : List Expr} {t t' : TA} (h : PA X e t) (k : ∀ σ H Q, t' σ H Q → t σ H Q) : PA X e t' := fun pos pins s σ H Q I q => h pos pins s σ H Q I (k σ H Q q)
theorem PS.imp {X : Cx} {e : Stmt} {t t' : TS} (h : PS X e t) (k : ∀ D σ H, t' D σ H → t D σ H) : PS X e t' := fun pins s σ H D I q => h pins s σ H D I (k D σ H q)
theorem PSs.imp {X : Cx} {e : List Stmt} {t t' : TS} (h : PSs X e t) (k : ∀ D σ H, t' D σ H → t D σ H) : PSs X e t' := fun pins s σ H D I q => h pins s σ H D I (k D σ H q)
theorem PG.imp {X : Cx} {e : Expr} {t t' : TG} (h : PG X e t) (k : ∀ v σ H Q, t' v σ H Q → t v σ H Q) : PG X e t' := fun pins s σ H v u Q I r q => h pins s σ H v u Q I r (k v σ H Q q)
theorem PI.imp {X : Cx} {tg e : Expr} {t t' : TI} (h : PI X tg e t) (k : ∀ σ H Q, t' σ H Q → t σ H Q) : PI X tg e t' := fun pins s σ H Q I q => h pins s σ H Q I (k σ H Q q)
def eVar (i : Nat) : EF := fun σ S => match σ[i]? with
 | some (some d) => some (d, S)
 | _ => none
def eC (d : D) : EF := fun _ S => some (d, S)
def eB (g : G2) (fa fb : EF) : EF := fun σ S => (fa σ S).bind fun r => (fb σ r.2).bind fun q => g r.1 q.1 q.2
def eU (g : D → So → Option (D × So)) (fa : EF) : EF := fun σ S => (fa σ S).bind fun r => g r.1 r.2
def aNil : AF := fun _ S => some ([], S)
def aCons (fa : EF) (fr : AF) : AF := fun σ S => (fa σ S).bind fun r => (fr σ r.2).bind fun q => some (r.1 :: q.1, q.2)
def eN (g : GN) (fa : AF) : EF := fun σ S => (fa σ S).bind fun r => g r.1 r.2
def eIf (t : TF) (fa fb : EF) : EF := fun σ S => (t σ S).bind fun r => if r.1 = true then fa σ r.2 else fb σ r.2
def gTup : GN := fun ds S => if ds.length ≤ sizeLine then some (.tup ds, S) else none
def gLst : GN := fun ds S => if ds.length ≤ sizeLine then some (.ref S.length, S ++ [.lst ds]) else none
section
variable {X : Cx} {a b : Expr} {fa fb : EF} {pos : Pos}
theorem zl6 {i : Nat} {x : Str} (hN : X.N[i]? = some x) (hv : Vis X.env.scope x) (hd : (x == ("__debug__" : Str)) = false) (hcd : (x == ("__classdict__" : Str)) = false) : SE X (.Name x pos) (eVar i) := by
 refine PE.imp (zmy hN hv hd hcd) fun σ H Q h => ?_
 obtain ⟨σd, S, α, z, S', hv, hs, hf, k⟩ := h
 unfold eVar at hf
 split at hf
 · rename_i d e
   cases hf
   obtain ⟨v, h1, h2⟩ := hv.2 i _ e
   exact ⟨v, h1, k.same hs h2⟩
 · cases hf
theorem se_c {e : Expr} {d : D} {v : V} (h : PE X e (tC v)) (r : ∀ H α, Rep X.K H α d v) : SE X e (eC d) := by
 refine PE.imp h fun σ H Q h => ?_
 obtain ⟨σd, S, α, z, S', hv, hs, hf, k⟩ := h
 cases hf
 exact k.same hs (r _ _)
theorem zmf {i : Int} {j} : SE X (.Constant (.int i) j pos) (eC (.int i)) := se_c zmF fun _ _ => .int i
theorem znE {i : Bool} {j} : SE X (.Constant (.bool i) j pos) (eC (.bl i)) := se_c znT fun _ _ => .bl i
theorem zma {j} : SE X (.Constant .none j pos) (eC .non) := se_c zmD fun _ _ => .non
theorem zl8 {x : Str} {j} : SE X (.Constant (.str x) j pos) (eC (.str x)) := se_c zmA fun _ _ => .str x
theorem rd2 {K : PySem.W.Frag} {g : G2} {σ : L2.St} {H : Hp} {Q : VK} (h : rdE K (eB g fa fb) σ H Q) : rdE K fa σ H fun x H1 => rdE K fb σ H1 fun y H2 => rdOp K g x y H2 Q := by
 obtain ⟨σd, S, α, z, S', hv, hs, hf, k⟩ := h
 unfold eB at hf
 simp only [Option.bind_eq_some_iff] at hf
 obtain ⟨⟨x, S1⟩, e1, ⟨y, S2⟩, e2, e3⟩ := hf
 refine ⟨σd, S, α, x, S1, hv, hs, e1, fun v H1 α1 s1 x1 r1 => ⟨σd, S1, α1, y, S2, hv.mono x1, s1, e2, fun u H2 α2 s2 x2 r2 => ?_⟩⟩
 exact ⟨S2, α2, x, y, z, S', s2, r1.mono x2, r2, e3, k.trans (x1.trans x2)⟩
theorem znA {op : Operator} (ha : SE X a fa) (hb : SE X b fb) : SE X (.BinOp a op b pos) (eB (gBin op) fa fb) :=
 PE.imp (znO (zkT op) ha hb) fun _ _ _ h => rd2 h
theorem zmh {op : CmpOp} (hu : X.A.units + 64 < cLine) (h1 : op ≠ .In) (h2 : op ≠ .NotIn) (ha : SE X a fa) (hb : SE X b fb) : SE X (.Compare a [op] [b] pos) (eB (gCmp op) fa fb) :=
 PE.imp (zkE (zhE hu op) ha hb (nomark b h1 h2)) fun _ _ _ h => rd2 h
theorem znC (hp : PlainIx b) (ha : SE X a fa) (hb : SE X b fb) : SE X (.Subscript a b pos) (eB gIx fa fb) :=
 PE.imp (znQ ixs ha hb hp) fun _ _ _ h => rd2 h
def gNeg : D → So → Option (D × So)
 | .int i, S => some (.int (-i), S)
 | _, _ => none
theorem zmb (ha : SE X a fa) : SE X (.UnaryOp .USub a pos) (eU gNeg fa) := by
 refine PE.imp (znM zlC ha) fun σ H Q h => ?_
 obtain ⟨σd, S, α, z, S', hv, hs, hf, k⟩ := h
 unfold eU at hf
 simp only [Option.bind_eq_some_iff] at hf
 obtain ⟨⟨x, S1⟩, e1, e2⟩ := hf
 refine ⟨σd, S, α, x, S1, hv, hs, e1, fun v H1 α1 s1 x1 r1 => ?_⟩
 cases r1 with
 | int i => cases e2; exact ⟨_, rfl, (k.trans x1).same s1 (.int _)⟩
 | _ => cases e2
theorem zmj : SA X [] aNil := by
 refine PA.imp zmI fun σ H Q h => ?_
 obtain ⟨σd, S, α, ds, S', hv, hs, hf, k⟩ := h
 cases hf
 exact k _ _ _ hs Ext.refl .nil
theorem zkm {e : Expr} {es : List Expr} {fe : EF} {fr : AF} (ha : SE X e fe) (hr : SA X es fr) (hst : starEach (e :: es) X.env = (false, eval e X.env) :: starEach es X.env) : SA X (e :: es) (aCons fe fr) := by
 refine PA.imp (zkH ha hr hst) fun σ H Q h => ?_
 obtain ⟨σd, S, α, ds, S', hv, hs, hf, k⟩ := h
 unfold aCons at hf
 simp only [Option.bind_eq_some_iff] at hf
 obtain ⟨⟨x, S1⟩, e1, ⟨ys, S2⟩, e2, e3⟩ := hf
 cases e3
 exact ⟨σd, S, α, x, S1, hv, hs, e1, fun v H1 α1 s1 x1 r1 => ⟨σd, S1, α1, ys, _, hv.mono x1, s1, e2, fun vs H2 α2 s2 x2 r2 => k _ _ _ s2 (x1.trans x2) (.cons (r1.mono x2) r2)⟩⟩
theorem rdN {K : PySem.W.Frag} {g : GN} {fa : AF} {σ : L2.St} {H : Hp} {Q : VK} (h : rdE K (eN g fa) σ H Q) : rdA K fa σ H fun vs H1 => rdC K g vs H1 Q := by
 obtain ⟨σd, S, α, z, S', hv, hs, hf, k⟩ := h
 unfold eN at hf
 simp only [Option.bind_eq_some_iff] at hf
 obtain ⟨⟨ds, S1⟩, e1, e2⟩ := hf
 exact ⟨σd, S, α, ds, S1, hv, hs, e1, fun vs H1 α1 s1 x1 r1 => ⟨S1, α1, ds, z, S', s1, r1, e2, k.trans x1⟩⟩
theorem zl7 {es : List Expr} {fs : AF} {k0} (h : SA X es fs) : SE X (.Tuple es k0 pos) (eN gTup fs) := by
 refine PE.imp (zmz h) fun σ H Q q => ?_
 obtain ⟨σd, S, α, ds, S1, hv, hs, e1, k⟩ := rdN q
 refine ⟨σd, S, α, ds, S1, hv, hs, e1, fun vs H1 α1 s1 x1 r1 => ?_⟩
 obtain ⟨S2, α2, ds', z, S3, s2, r2, e2, k2⟩ := k vs H1 α1 s1 x1 r1
 unfold gTup at e2
 split at e2
 · rename_i hl
   cases e2
   refine ⟨by rw [← r2.length]; exact hl, fun p hp => ?_⟩
   exact k2.new s2 (zbm hp) (.tup (SqT.of zaI) (r2.mono (Same.ext (zbm hp))))
 · cases e2
theorem zmd {es : List Expr} {fs : AF} (h : SA X es fs) : SE X (.List es pos) (eN gLst fs) := by
 refine PE.imp (zmE h) fun σ H Q q => ?_
 obtain ⟨σd, S, α, ds, S1, hv, hs, e1, k⟩ := rdN q
 refine ⟨σd, S, α, ds, S1, hv, hs, e1, fun vs H1 α1 s1 x1 r1 => ?_⟩
 obtain ⟨S2, α2, ds', z, S3, s2, r2, e2, k2⟩ := k vs H1 α1 s1 x1 r1
 unfold gLst at e2
 split at e2
 · rename_i hl
   cases e2
   refine ⟨by rw [← r2.length]; exact hl, fun p hp => ?_⟩
   obtain ⟨s', e'⟩ := s2.snoc (p := p) (o := .lst ds') (u := .lst vs) hp fun α' e => ⟨_, zaI, r2.mono e⟩
   exact k2 _ _ _ s' e' (.ref (by rw [← s2.len]; simp))
 · cases e2
def truD : D → So → Option Bool
 | .non, _ => some false
 | .bl b, _ => some b
 | .int i, _ => some (i != 0)
 | .str x, _ => if x.length ≤ sizeLine then some ((x.length : Int) != 0) else none
 | .tup xs, _ => some (!xs.isEmpty)
 | .ref n, S => match S[n]? with
   | some (.lst xs) => some (!xs.isEmpty)
   | some (.frz xs) => some (!xs.isEmpty)
   | _ => none
 | _, _ => none
theorem zco {K : PySem.W.Frag} {H : Hp} {α : List Addr} {ds : List D} {vs : List V} (r : Reps K H α ds vs) : (!ds.isEmpty) = !vs.isEmpty := by cases r <;> rfl
theorem zjW {K : PySem.W.Frag} {H : Hp} {α : List Addr} {S : So} {d : D} {v : V} {b : Bool} (hs : StoreR K H α S) (r : Rep K H α d v) (e : truD d S = some b) : TruV K v H b := by
 cases r with
 | non => cases e; exact rfl
 | bl b => cases e; exact rfl
 | int i => cases e; exact rfl
 | str x =>
   have e' : (if x.length ≤ sizeLine then some ((x.length : Int) != 0) else none) = some b := e
   split at e'
   · rename_i hl; cases e'; exact ⟨hl, rfl⟩
   · cases e'
 | tup h r => cases e; exact .inr (.inl ⟨_, h, zco r⟩)
 | @ref n a h =>
   simp only [truD] at e
   cases hm : S[n]? with
   | none => simp [hm] at e
   | some o =>
     simp only [hm] at e
     have hob := hs.obj _ _ _ hm h
     cases o with
     | lst xs =>
       cases e
       obtain ⟨vs, h1, r⟩ := hob
       exact .inl ⟨_, SqL.of h1, zco r⟩
     | frz xs =>
       cases e
       obtain ⟨vs, h1, r⟩ := hob
       exact .inl ⟨_, h1.sq, zco r⟩
     | ins C fs => cases e
     | dct xs => cases e
 | ty n => cases e
 | adr a => cases e
def tVal (fa : EF) : TF := fun σ S => (fa σ S).bind fun r => (truD r.1 r.2).map fun b => (b, r.2)
theorem zlQ (ha : SE X a fa) (he : ∀ whole, isTrue a X.env whole = (do let v ← whole; standAt a.pos; holding [v] (truthy v))) : ST X a (tVal fa) := by
 refine PT.imp (ziV ha he) fun σ H Q h => ?_
 obtain ⟨σd, S, α, b, S', hv, hs, hf, k⟩ := h
 unfold tVal at hf
 simp only [Option.bind_eq_some_iff, Option.map_eq_some_iff] at hf
 obtain ⟨⟨x, S1⟩, e1, c, e2, e3⟩ := hf
 cases e3
 exact ⟨σd, S, α, x, S1, hv, hs, e1, fun v H1 α1 s1 x1 r1 => ⟨b, zjW s1 r1 e2, k _ _ s1 x1⟩⟩
def tBl (fa : EF) : TF := fun σ S => (fa σ S).bind fun r => match r.1 with
 | .bl b => some (b, r.2)
 | _ => none
theorem zlS {op : CmpOp} (hu : X.A.units + 64 < cLine) (h1 : op ≠ .In) (h2 : op ≠ .NotIn) (ha : SE X a fa) (hb : SE X b fb) : ST X (.Compare a [op] [b] pos) (tBl (eB (gCmp op) fa fb)) := by
 refine PT.imp (zks (zhE hu op) ha hb (nomark b h1 h2)) fun σ H Q h => ?_
 obtain ⟨σd, S, α, c, S', hv, hs, hf, k⟩ := h
 unfold tBl at hf
 simp only [Option.bind_eq_some_iff] at hf
 obtain ⟨⟨z, S1⟩, e1, e2⟩ := hf
 cases z with
 | bl c' =>
   cases e2
   exact rd2 ⟨σd, S, α, .bl c, _, hv, hs, e1, fun v H1 α1 s1 x1 r1 => by cases r1; exact ⟨c, rfl, k _ _ s1 x1⟩⟩
 | _ => cases e2
def tNotF (t : TF) : TF := fun σ S => (t σ S).map fun r => (!r.1, r.2)
theorem zlR {t : TF} (ha : ST X a t) : ST X (.UnaryOp .Not a pos) (tNotF t) := by
 refine PT.imp (zmo ha) fun σ H Q h => ?_
 obtain ⟨σd, S, α, c, S', hv, hs, hf, k⟩ := h
 unfold tNotF at hf
 simp only [Option.map_eq_some_iff] at hf
 obtain ⟨⟨b, S1⟩, e1, e2⟩ := hf
 cases e2
 exact ⟨σd, S, α, b, S1, hv, hs, e1, k⟩
def tAndF (t u : TF) : TF := fun σ S => (t σ S).bind fun r => if r.1 = true then u σ r.2 else some (false, r.2)
def tOrF (t u : TF) : TF := fun σ S => (t σ S).bind fun r => if r.1 = true then some (true, r.2) else u σ r.2
theorem zj1 {t : TF} (ha : ST X a t) : SW X (.BoolOp .And [a] pos) t := zkp ha
theorem zlO {t : TF} (ha : ST X a t) : SW X (.BoolOp .Or [a] pos) t := zmm ha
theorem zlP {t u : TF} {rest : List Expr} (ha : ST X a t) (hb : SW X (.BoolOp .And (b :: rest) pos) u) : SW X (.BoolOp .And (a :: b :: rest) pos) (tAndF t u) := by
 refine PW.imp (zmn ha hb) fun σ H Q h => ?_
 obtain ⟨σd, S, α, c, S', hv, hs, hf, k⟩ := h
 unfold tAndF at hf
 simp only [Option.bind_eq_some_iff] at hf
 obtain ⟨⟨b1, S1⟩, e1, e2⟩ := hf
 refine ⟨σd, S, α, b1, S1, hv, hs, e1, fun H1 α1 s1 x1 => ?_⟩
 cases b1 with
 | true =>
   rw [if_pos rfl]; rw [if_pos rfl] at e2
   exact ⟨σd, S1, α1, c, S', hv.mono x1, s1, e2, fun H2 α2 s2 x2 => k _ _ s2 (x1.trans x2)⟩
 | false =>
   rw [if_neg Bool.false_ne_true]; rw [if_neg Bool.false_ne_true] at e2
   cases e2
   exact k _ _ s1 x1
theorem znx {t u : TF} {rest : List Expr} (ha : ST X a t) (hb : SW X (.BoolOp .Or (b :: rest) pos) u) : SW X (.BoolOp .Or (a :: b :: rest) pos) (tOrF t u) := by
 refine PW.imp (znK ha hb) fun σ H Q h => ?_
 obtain ⟨σd, S, α, c, S', hv, hs, hf, k⟩ := h
 unfold tOrF at hf
 simp only [Option.bind_eq_some_iff] at hf
 obtain ⟨⟨b1, S1⟩, e1, e2⟩ := hf
 refine ⟨σd, S, α, b1, S1, hv, hs, e1, fun H1 α1 s1 x1 => ?_⟩
 cases b1 with
 | true =>
   rw [if_pos rfl]; rw [if_pos rfl] at e2
   cases e2
   exact k _ _ s1 x1
 | false =>
   rw [if_neg Bool.false_ne_true]; rw [if_neg Bool.false_ne_true] at e2
   exact ⟨σd, S1, α1, c, S', hv.mono x1, s1, e2, fun H2 α2 s2 x2 => k _ _ s2 (x1.trans x2)⟩
theorem znD {c : Expr} {t : TF} (hc : ST X c t) (ha : SE X a fa) (hb : SE X b fb) : SE X (.IfExp c a b pos) (eIf t fa fb) := by
 refine PE.imp (zi5 hc ha hb) fun σ H Q h => ?_
 obtain ⟨σd, S, α, z, S', hv, hs, hf, k⟩ := h
 unfold eIf at hf
 simp only [Option.bind_eq_some_iff] at hf
 obtain ⟨⟨b1, S1⟩, e1, e2⟩ := hf
 refine ⟨σd, S, α, b1, S1, hv, hs, e1, fun H1 α1 s1 x1 => ?_⟩
 cases b1 with
 | true =>
   rw [if_pos rfl]; rw [if_pos rfl] at e2
   exact ⟨σd, S1, α1, z, S', hv.mono x1, s1, e2, k.trans x1⟩
 | false =>
   rw [if_neg Bool.false_ne_true]; rw [if_neg Bool.false_ne_true] at e2
   exact ⟨σd, S1, α1, z, S', hv.mono x1, s1, e2, k.trans x1⟩
def eNot (fa : EF) : EF := fun σ S => (fa σ S).bind fun r => match r.1 with
 | .bl b => some (.bl (!b), r.2)
 | _ => none
theorem zl9 (ha : SE X a fa) : SE X (.UnaryOp .Not a pos) (eNot fa) := by
 refine PE.imp (zmC ha) fun σ H Q h => ?_
 obtain ⟨σd, S, α, z, S', hv, hs, hf, k⟩ := h
 unfold eNot at hf
 simp only [Option.bind_eq_some_iff] at hf
 obtain ⟨⟨x, S1⟩, e1, e2⟩ := hf
 refine ⟨σd, S, α, x, S1, hv, hs, e1, fun v H1 α1 s1 x1 r1 => ?_⟩
 cases r1 with
 | bl c => cases e2; exact ⟨c, rfl, (k.trans x1).same s1 (.bl _)⟩
 | _ => cases e2
def eAnd (fa fb : EF) : EF := fun σ S => (fa σ S).bind fun r => match r.1 with
 | .bl true => fb σ r.2
 | .bl false => some (.bl false, r.2)
 | _ => none
def eOr (fa fb : EF) : EF := fun σ S => (fa σ S).bind fun r => match r.1 with
 | .bl true => some (.bl true, r.2)
 | .bl false => fb σ r.2
 | _ => none
theorem ziT {op} (ha : SE X a fa) : SE X (.BoolOp op [a] pos) fa := zmB ha
theorem zmi {rest : List Expr} (ha : SE X a fa) (hb : SE X (.BoolOp .And (b :: rest) pos) fb) : SE X (.BoolOp .And (a :: b :: rest) pos) (eAnd fa fb) := by
 refine PE.imp (zmH ha hb) fun σ H Q h => ?_
 obtain ⟨σd, S, α, z, S', hv, hs, hf, k⟩ := h
 unfold eAnd at hf
 simp only [Option.bind_eq_some_iff] at hf
 obtain ⟨⟨x, S1⟩, e1, e2⟩ := hf
 refine ⟨σd, S, α, x, S1, hv, hs, e1, fun v H1 α1 s1 x1 r1 => ?_⟩
 cases r1 with
 | bl c =>
   refine ⟨c, rfl, ?_⟩
   cases c with
   | true => rw [if_pos rfl]; exact ⟨σd, S1, α1, z, S', hv.mono x1, s1, e2, k.trans x1⟩
   | false => rw [if_neg Bool.false_ne_true]; cases e2; exact (k.trans x1).same s1 (.bl _)
 | _ => cases e2
theorem znz {rest : List Expr} (ha : SE X a fa) (hb : SE X (.BoolOp .Or (b :: rest) pos) fb) : SE X (.BoolOp .Or (a :: b :: rest) pos) (eOr fa fb) := by
 refine PE.imp (znN ha hb) fun σ H Q h => ?_
 obtain ⟨σd, S, α, z, S', hv, hs, hf, k⟩ := h
 unfold eOr at hf
 simp only [Option.bind_eq_some_iff] at hf
 obtain ⟨⟨x, S1⟩, e1, e2⟩ := hf
 refine ⟨σd, S, α, x, S1, hv, hs, e1, fun v H1 α1 s1 x1 r1 => ?_⟩
 cases r1 with
 | bl c =>
   refine ⟨c, rfl, ?_⟩
   cases c with
   | false => rw [if_neg Bool.false_ne_true]; exact ⟨σd, S1, α1, z, S', hv.mono x1, s1, e2, k.trans x1⟩
   | true => rw [if_pos rfl]; cases e2; exact (k.trans x1).same s1 (.bl _)
 | _ => cases e2
end
def spOf (K : PySem.W.Frag) (n : Nat) (φ : GN) : Sp := fun vs H Q _ => vs.length = n ∧ rdC K φ vs H Q
def FnRef (X : Cx) (x : Str) (n : Nat) (φ : GN) : Prop := ∃ f fd ps k, X.mg x = some (.ref f) ∧ PySem.W.keepIn X.K (.ref f) = true ∧ Binds X.K fd ps [] ∧
 FnOk X.prog X.w X.K X.mg X.base CX0 k f fd ps (spOf X.K n φ) ∧ Room k X.A
section
variable {X : Cx} {x : Str} {p pos : Pos} {es : List Expr} {fs : AF}
def nArgs (n : Nat) (φ : GN) : GN := fun ds S => if ds.length = n then φ ds S else none
theorem zkl {e : Expr} {n : Nat} {φ : GN} (hg : Gl X x) (hF : FnRef X x n φ) (ha : SA X (e :: es) fs) (hdb : (x == ("__debug__" : Str)) = false) (he : starEach (e :: es) X.env = (false, eval e X.env) :: starEach es X.env)
   (hpl : (backTo pos (starEach es X.env)).any (·.1) = false) : SE X (.Call (.Name x p) (e :: es) [] pos) (eN (nArgs n φ) fs) := by
 obtain ⟨f, fd, ps, k, hm, hk, hb, F, hr⟩ := hF
 refine PE.imp (zkF F hr hg hm hk hb .nil pass0 ha hdb he hpl) fun σ H Q h => ?_
 obtain ⟨σd, S, α, ds, S1, hv, hs, e1, k⟩ := rdN h
 refine ⟨σd, S, α, ds, S1, hv, hs, e1, fun vs H1 α1 s1 x1 r1 => ?_⟩
 obtain ⟨S2, α2, ds', z, S3, s2, r2, e2, k2⟩ := k vs H1 α1 s1 x1 r1
 unfold nArgs at e2
 split at e2
 · rename_i hl
   rw [List.append_nil]
   exact ⟨by rw [← r2.length]; exact hl, S2, α2, ds', z, S3, s2, r2, e2, k2⟩
 · cases e2
theorem ziS {e : Expr} {id : String} {g : GN} (hc : CallR X (.builtin id) (rdC X.K g)) (hg : Gl X x) (hm : X.mg x = none) (hv : bootBuiltins x = some (.builtin id)) (ha : SA X (e :: es) fs) (hn : x ≠ "__name__") (hdb : (x == ("__debug__" : Str)) = false)
   (he : starEach (e :: es) X.env = (false, eval e X.env) :: starEach es X.env) (hpl : (backTo pos (starEach es X.env)).any (·.1) = false) : SE X (.Call (.Name x p) (e :: es) [] pos) (eN g fs) :=
 PE.imp (zi7 hc hg hm hv ha hn hdb he hpl) fun _ _ _ h => rdN h
theorem ziR {e : Expr} {T : String} {g : GN} (hc : CallR X (.type T) (rdC X.K g)) (hg : Gl X x) (hm : X.mg x = none) (hv : bootBuiltins x = some (.type T)) (ha : SA X (e :: es) fs) (hn : x ≠ "__name__") (hdb : (x == ("__debug__" : Str)) = false)
   (he : starEach (e :: es) X.env = (false, eval e X.env) :: starEach es X.env) (hpl : (backTo pos (starEach es X.env)).any (·.1) = false) : SE X (.Call (.Name x p) (e :: es) [] pos) (eN g fs) :=
 PE.imp (zhD hc hg hm hv ha hn hdb he hpl) fun _ _ _ h => rdN h
end
def gNm (i : Nat) : GF := fun d σ S => some (σ.set i (some d), S)
abbrev GFs := List D → Sg → So → Option (Sg × So)
def gsNil : GFs := fun ds σ S => match ds with
 | [] => some (σ, S)
 | _ => none
def gsCons (f : GF) (fr : GFs) : GFs := fun ds σ S => match ds with
 | d :: r => (f d σ S).bind fun q => fr r q.1 q.2
 | [] => none
def gTp (n : Nat) (fr : GFs) : GF := fun d σ S => match d with
 | .tup xs => if xs.length = n then fr xs σ S else none
 | .ref m => match S[m]? with
   | some (.lst xs) => if xs.length = n then fr xs σ S else none
   | _ => none
 | _ => none
def rdGs (K : PySem.W.Frag) (f : GFs) : TGs := fun vs σ H Q => ∃ σd S α ds σd' S', VarsR K H α σd σ ∧ StoreR K H α S ∧ Reps K H α ds vs ∧ f ds σd S = some (σd', S') ∧
 ∀ σ' H' α', VarsR K H' α' σd' σ' → StoreR K H' α' S' → Ext K H α H' α' → Q σ' H'
def SGs (X : Cx) (tgs : List Expr) (f : GFs) : Prop := PGs X tgs (rdGs X.K f)
section
variable {X : Cx} {pos : Pos}
theorem zkh {i : Nat} {x : Str} (hN : X.N.Nodup) (hi : X.N[i]? = some x) (hx : Loc X.env.scope x) (hf : X.fn x = true ∨ X.env.scope.names.lookup x = some .local) : SG X (.Name x pos) (gNm i) := by
 refine PG.imp (zkD hN hi hx hf) fun v σ H Q h => ?_
 obtain ⟨σd, S, α, d, σd', S', hv, hs, r, hf, k⟩ := h
 cases hf
 exact k _ _ _ (hv.set r i) hs Ext.refl
theorem zkg : SGs X [] gsNil := by
 refine fun pins s σ H vs us Q I r0 h => zkB pins s σ H vs us Q I r0 ?_
 obtain ⟨σd, S, α, ds, σd', S', hv, hs, r, hf, k⟩ := h
 cases r with
 | nil => cases hf; exact ⟨rfl, k _ _ _ hv hs Ext.refl⟩
 | cons _ _ => cases hf
theorem ziM {e : Expr} {es : List Expr} {f : GF} {fr : GFs} (h1 : SG X e f) (h2 : SGs X es fr) (hs : (assignEach (e :: es) X.env).map (·.2) = assign e X.env :: (assignEach es X.env).map (·.2)) : SGs X (e :: es) (gsCons f fr) := by
 refine fun pins s σ H vs us Q I r0 h => zi3 h1 h2 hs pins s σ H vs us Q I r0 ?_
 obtain ⟨σd, S, α, ds, σd', S', hv, hs, r, hf, k⟩ := h
 cases r with
 | nil => cases hf
 | cons r rr =>
   unfold gsCons at hf
   simp only [Option.bind_eq_some_iff] at hf
   obtain ⟨⟨σ1, S1⟩, e1, e2⟩ := hf
   exact ⟨_, _, rfl, σd, S, α, _, σ1, S1, hv, hs, r, e1, fun σ' H' α' v' s' x' => ⟨σ1, S1, α', _, σd', S', v', s', rr.mono x', e2, fun σ2 H2 α2 v2 s2 x2 => k _ _ _ v2 s2 (x'.trans x2)⟩⟩
theorem zl3 {es : List Expr} {k0 : Nat} {f : GFs} {n : Nat} (hc : X.calm = true) (h : SGs X es f) (hn : (assignEach es X.env).length = n) (hst : (assignEach es X.env).findIdx? (·.1) = none) : SG X (.Tuple es k0 pos) (gTp n f) := by
 refine PG.imp (PG.or (zmw hc h hn hst) (zkC hc h hn hst)) fun v σ H Q h => ?_
 obtain ⟨σd, S, α, d, σd', S', hv, hs, r, hf, k⟩ := h
 unfold gTp at hf
 cases r with
 | tup h r =>
   simp only at hf
   split at hf
   · rename_i hl
     exact .inl ⟨_, _, rfl, h, by rw [← r.length]; exact hl, σd, S, α, _, σd', S', hv, hs, r, hf, k⟩
   · cases hf
 | ref ha =>
   simp only at hf
   split at hf
   · rename_i xs em
     split at hf
     · rename_i hl
       obtain ⟨vs, h1, r⟩ := hs.obj _ _ _ em ha
       exact .inr ⟨_, vs, rfl, SqL.of h1, by rw [← r.length]; exact hl, σd, S, α, xs, σd', S', hv, hs, r, hf, k⟩
     · cases hf
   · cases hf
 | _ => cases hf
end
def sPass : SF := fun σ S => some (.nx, σ, S)
def sSeq (f g : SF) : SF := fun σ S => (f σ S).bind fun r => match r.1 with
 | .nx => g r.2.1 r.2.2
 | fl => some (fl, r.2.1, r.2.2)
def sAsg (fe : EF) (fg : GF) : SF := fun σ S => (fe σ S).bind fun r => (fg r.1 σ r.2).map fun q => (.nx, q.1, q.2)
def sDrop (fe : EF) : SF := fun σ S => (fe σ S).map fun r => (.nx, σ, r.2)
def sRet (fe : EF) : SF := fun σ S => (fe σ S).map fun r => (.rt r.1, σ, r.2)
def sRetN : SF := fun σ S => some (.rt .non, σ, S)
def sBrk : SF := fun σ S => some (.bk, σ, S)
def sCnt : SF := fun σ S => some (.ct, σ, S)
def sIf (t : TF) (f g : SF) : SF := fun σ S => (t σ S).bind fun r => if r.1 = true then f σ r.2 else g σ r.2
section
variable {X : Cx} {st : Stmt} {rest : List Stmt} {f g : SF} {e : Expr} {fe : EF} {pos : Pos}
theorem zlU : SSs X [] sPass := by
 refine PSs.imp zkt fun D σ H h => ?_
 obtain ⟨σd, S, α, fl, σd', S', hv, hs, hf, k⟩ := h
 cases hf
 exact k _ _ _ hv hs Ext.refl
theorem Ks.trans {K : PySem.W.Frag} {H H1 : Hp} {α α1 : List Addr} {fl : Fl} {σd' : Sg} {S' : So} {D : Ends} (k : Ks K H α fl σd' S' D) (e : Ext K H α H1 α1) : Ks K H1 α1 fl σd' S' D := fun σ' H' α' v s x => k σ' H' α' v s (e.trans x)
theorem zj9 (h1 : SS X st f) (h2 : SSs X rest g) : SSs X (st :: rest) (sSeq f g) := by
 refine PSs.imp (ziW h1 h2) fun D σ H h => ?_
 obtain ⟨σd, S, α, fl, σd', S', hv, hs, hf, k⟩ := h
 unfold sSeq at hf
 simp only [Option.bind_eq_some_iff] at hf
 obtain ⟨⟨fl1, σ1, S1⟩, e1, e2⟩ := hf
 refine ⟨σd, S, α, fl1, σ1, S1, hv, hs, e1, fun σ' H' α' v' s' x' => ?_⟩
 cases fl1 with
 | nx => exact ⟨σ1, S1, α', fl, σd', S', v', s', e2, k.trans x'⟩
 | bk => cases e2; exact k σ' H' α' v' s' x'
 | ct => cases e2; exact k σ' H' α' v' s' x'
 | rt d => cases e2; exact k σ' H' α' v' s' x'
theorem zj6 : SS X (.Pass pos) sPass := by
 refine PS.imp zkv fun D σ H h => ?_
 obtain ⟨σd, S, α, fl, σd', S', hv, hs, hf, k⟩ := h
 cases hf
 exact k _ _ _ hv hs Ext.refl
theorem zlW {x j pos'} : SS X (.Expr (.Constant (.str x) j pos) pos') sPass := by
 refine PS.imp zms fun D σ H h => ?_
 obtain ⟨σd, S, α, fl, σd', S', hv, hs, hf, k⟩ := h
 cases hf
 exact k _ _ _ hv hs Ext.refl
theorem zlY : SS X (.Break pos) sBrk := by
 refine PS.imp ziZ fun D σ H h => ?_
 obtain ⟨σd, S, α, fl, σd', S', hv, hs, hf, k⟩ := h
 cases hf
 exact k _ _ _ hv hs Ext.refl
theorem zlX : SS X (.Continue pos) sCnt := by
 refine PS.imp zf3 fun D σ H h => ?_
 obtain ⟨σd, S, α, fl, σd', S', hv, hs, hf, k⟩ := h
 cases hf
 exact k _ _ _ hv hs Ext.refl
theorem zj8 (he : SE X e fe) (hsw : swapsWith e none pos.line X.env = pure false) : SS X (.Expr e pos) (sDrop fe) := by
 refine PS.imp (zkx he hsw) fun D σ H h => ?_
 obtain ⟨σd, S, α, fl, σd', S', hv, hs, hf, k⟩ := h
 unfold sDrop at hf
 simp only [Option.map_eq_some_iff] at hf
 obtain ⟨⟨d, S1⟩, e1, e2⟩ := hf
 cases e2
 exact ⟨σd, S, α, d, S1, hv, hs, e1, fun v H' α' s' x' r' => k _ _ _ (hv.mono x') s' x'⟩
theorem zlT (he : SE X e fe) : SS X (.Return (some e) pos) (sRet fe) := by
 refine PS.imp (zmq he) fun D σ H h => ?_
 obtain ⟨σd, S, α, fl, σd', S', hv, hs, hf, k⟩ := h
 unfold sRet at hf
 simp only [Option.map_eq_some_iff] at hf
 obtain ⟨⟨d, S1⟩, e1, e2⟩ := hf
 cases e2
 exact ⟨σd, S, α, d, S1, hv, hs, e1, fun v H' α' s' x' r' => k _ _ _ (hv.mono x') s' x' v r'⟩
theorem zj5 : SS X (.Return none pos) sRetN := by
 refine PS.imp zku fun D σ H h => ?_
 obtain ⟨σd, S, α, fl, σd', S', hv, hs, hf, k⟩ := h
 cases hf
 exact k _ _ _ hv hs Ext.refl _ .non
theorem zfs {tg : Expr} {fg : GF} (he : SE X e fe) (hg : SG X tg fg) (h1 : swapsWithSole [tg] e pos.line X.env = pure false) (h2 : swappedStores [tg] e X.env = pure none)
   (h3 : (assignEach [tg] X.env).map (·.2) = [assign tg X.env]) : SS X (.Assign [tg] e pos) (sAsg fe fg) := by
 refine PS.imp (zmt he hg h1 h2 h3) fun D σ H h => ?_
 obtain ⟨σd, S, α, fl, σd', S', hv, hs, hf, k⟩ := h
 unfold sAsg at hf
 simp only [Option.bind_eq_some_iff, Option.map_eq_some_iff] at hf
 obtain ⟨⟨d, S1⟩, e1, ⟨σ1, S2⟩, e2, e3⟩ := hf
 cases e3
 exact ⟨σd, S, α, d, S1, hv, hs, e1, fun v H' α' s' x' r' => ⟨σd, S1, α', d, _, _, hv.mono x', s', r', e2, fun σ2 H2 α2 v2 s2 x2 => k _ _ _ v2 s2 (x'.trans x2)⟩⟩
theorem zjJ {i : Nat} {x : Str} {pos' : Pos} (hN : X.N.Nodup) (hi : X.N[i]? = some x) (hx : Loc X.env.scope x) (he : SE X e fe) (hsw : swapsWith e (some (.Name x pos')) pos.line X.env = pure false) (hfn : X.fn x = true ∨ X.env.scope.names.lookup x = some .local) :
   SS X (.Assign [.Name x pos'] e pos) (sAsg fe (gNm i)) := by
 refine PS.imp (zmp hN hi hx he hsw hfn) fun D σ H h => ?_
 obtain ⟨σd, S, α, fl, σd', S', hv, hs, hf, k⟩ := h
 unfold sAsg at hf
 simp only [Option.bind_eq_some_iff, Option.map_eq_some_iff] at hf
 obtain ⟨⟨d, S1⟩, e1, ⟨σ1, S2⟩, e2, e3⟩ := hf
 cases e3; cases e2
 exact ⟨σd, S, α, d, S1, hv, hs, e1, fun v H' α' s' x' r' => k _ _ _ ((hv.mono x').set r' i) s' x'⟩
theorem zny {c : Expr} {a b : List Stmt} {t : TF} (hc : ST X c t) (ha : SSs X a f) (hb : SSs X b g) : SS X (.If c a b pos) (sIf t f g) := by
 refine PS.imp (znL hc ha hb) fun D σ H h => ?_
 obtain ⟨σd, S, α, fl, σd', S', hv, hs, hf, k⟩ := h
 unfold sIf at hf
 simp only [Option.bind_eq_some_iff] at hf
 obtain ⟨⟨b1, S1⟩, e1, e2⟩ := hf
 refine ⟨σd, S, α, b1, S1, hv, hs, e1, fun H1 α1 s1 x1 => ?_⟩
 cases b1 with
 | true =>
   rw [if_pos rfl]; rw [if_pos rfl] at e2
   exact ⟨σd, S1, α1, fl, σd', S', hv.mono x1, s1, e2, k.trans x1⟩
 | false =>
   rw [if_neg Bool.false_ne_true]; rw [if_neg Bool.false_ne_true] at e2
   exact ⟨σd, S1, α1, fl, σd', S', hv.mono x1, s1, e2, k.trans x1⟩
end
def whN (t : TF) (f : SF) : Nat → SF
 | 0 => fun _ _ => none
 | n + 1 => fun σ S => (t σ S).bind fun r => if r.1 = true then (f σ r.2).bind fun q => match q.1 with
     | .nx => whN t f n q.2.1 q.2.2
     | .ct => whN t f n q.2.1 q.2.2
     | .bk => some (.nx, q.2.1, q.2.2)
     | .rt d => some (.rt d, q.2.1, q.2.2)
   else some (.nx, σ, r.2)
theorem ze1 {t : TF} {f : SF} : ∀ {n : Nat} {σ : Sg} {S : So} {r : Fl × Sg × So}, whN t f n σ S = some r → whN t f (n + 1) σ S = some r
 | 0, _, _, _, h => by cases h
 | n + 1, σ, S, r, h => by
   unfold whN at h ⊢
   simp only [Option.bind_eq_some_iff] at h ⊢
   obtain ⟨q, e1, e2⟩ := h
   refine ⟨q, e1, ?_⟩
   by_cases hb : q.1 = true
   · rw [if_pos hb] at e2 ⊢
     simp only [Option.bind_eq_some_iff] at e2 ⊢
     obtain ⟨q2, e3, e4⟩ := e2
     refine ⟨q2, e3, ?_⟩
     obtain ⟨fl, σ1, S1⟩ := q2
     cases fl with
     | nx => exact ze1 e4
     | ct => exact ze1 e4
     | bk => exact e4
     | rt d => exact e4
   · rw [if_neg hb] at e2 ⊢
     exact e2
theorem zgn {t : TF} {f : SF} {n m : Nat} {σ : Sg} {S : So} {r : Fl × Sg × So} (h : whN t f n σ S = some r) (hm : n ≤ m) : whN t f m σ S = some r := by
 obtain ⟨k, rfl⟩ := Nat.exists_eq_add_of_le hm
 clear hm
 induction k with
 | zero => exact h
 | succ k ih => exact ze1 ih
open Classical in
def sWh (t : TF) (f : SF) : SF := fun σ S => if h : ∃ n r, whN t f n σ S = some r then some (Classical.choose (Classical.choose_spec h)) else none
theorem zjK {t : TF} {f : SF} {n : Nat} {σ : Sg} {S : So} {r : Fl × Sg × So} (h : whN t f n σ S = some r) : sWh t f σ S = some r := by
 have hx : ∃ n r, whN t f n σ S = some r := ⟨n, r, h⟩
 unfold sWh
 rw [dif_pos hx]
 have e := Classical.choose_spec (Classical.choose_spec hx)
 have e1 := zgn e (Nat.le_max_left _ n)
 have e2 := zgn h (Nat.le_max_right (Classical.choose hx) n)
 rw [e1] at e2
 exact e2
theorem zjN {t : TF} {f : SF} {σ : Sg} {S : So} {r : Fl × Sg × So} (h : sWh t f σ S = some r) : ∃ n, whN t f n σ S = some r := by
 unfold sWh at h
 split at h
 · rename_i hx
   cases h
   exact ⟨_, Classical.choose_spec (Classical.choose_spec hx)⟩
 · cases h
theorem ziU {t : TF} {f : SF} {σ σ1 σ2 : Sg} {S S1 S2 : So} {fl : Fl} {r : Fl × Sg × So} (h1 : t σ S = some (true, S1)) (h2 : f σ S1 = some (fl, σ2, S2)) (hf : fl = .nx ∨ fl = .ct) (h3 : sWh t f σ2 S2 = some r) : sWh t f σ S = some r := by
 obtain ⟨n, e⟩ := zjN h3
 refine zjK (n := n + 1) ?_
 unfold whN
 rw [h1]
 simp only [Option.bind_some, if_true]
 rw [h2]
 rcases hf with rfl | rfl <;> exact e
theorem zkn {t : TF} {f : SF} {σ : Sg} {S S1 : So} (h1 : t σ S = some (false, S1)) : sWh t f σ S = some (.nx, σ, S1) := by
 refine zjK (n := 1) ?_
 unfold whN
 rw [h1]
 simp
section
variable {X : Cx} {pos : Pos}
theorem ziB {c : Expr} {body : List Stmt} {t : TF} {f : SF} (hp : PassesOwn (model X.prog X.w) X.A X.env X.xe) (hc : ST X c t) (hb : SSs X body f) : SS X (.While c body [] pos) (sWh t f) := by
 refine PS.imp (ziX hp hc hb) fun D σ H h => ?_
 obtain ⟨σd, S, α, fl, σd', S', hv, hs, hf, k⟩ := h
 obtain ⟨n, hn⟩ := zjN hf
 refine ⟨fun m σ1 H1 => ∃ σd1 S1 α1, VarsR X.K H1 α1 σd1 σ1 ∧ StoreR X.K H1 α1 S1 ∧ Ext X.K H α H1 α1 ∧ whN t f m σd1 S1 = some (fl, σd', S'), ⟨n, σd, S, α, hv, hs, Ext.refl, hn⟩, ?_⟩
 rintro m σ1 H1 ⟨σd1, S1, α1, v1, s1, x1, e⟩
 cases m with
 | zero => cases e
 | succ m =>
   unfold whN at e
   simp only [Option.bind_eq_some_iff] at e
   obtain ⟨⟨b, S2⟩, e1, e2⟩ := e
   refine ⟨σd1, S1, α1, b, S2, v1, s1, e1, fun H2 α2 s2 x2 => ?_⟩
   cases b with
   | false =>
     rw [if_neg Bool.false_ne_true]; rw [if_neg Bool.false_ne_true] at e2
     cases e2
     exact k _ _ _ (v1.mono x2) s2 (x1.trans x2)
   | true =>
     rw [if_pos rfl]; rw [if_pos rfl] at e2
     simp only [Option.bind_eq_some_iff] at e2
     obtain ⟨⟨fl3, σd3, S3⟩, e3, e4⟩ := e2
     refine ⟨fun σ4 H4 => ∃ σd4 S4 α4, VarsR X.K H4 α4 σd4 σ4 ∧ StoreR X.K H4 α4 S4 ∧ Ext X.K H α H4 α4 ∧ whN t f m σd4 S4 = some (fl, σd', S'), fun σ4 H4 q => ⟨m, Nat.lt_succ_self _, q⟩, ?_⟩
     refine ⟨σd1, S2, α2, fl3, σd3, S3, v1.mono x2, s2, e3, fun σ4 H4 α4 v4 s4 x4 => ?_⟩
     have xx := (x1.trans x2).trans x4
     cases fl3 with
     | nx => exact ⟨σd3, S3, α4, v4, s4, xx, e4⟩
     | ct => exact ⟨σd3, S3, α4, v4, s4, xx, e4⟩
     | bk => cases e4; exact k _ _ _ v4 s4 xx
     | rt d => cases e4; exact k _ _ _ v4 s4 xx
end
end MX
end
section
set_option autoImplicit false
namespace MX
open PySem PySem.Spec PyProof.Rows L2
inductive ItD where
 | fix (xs : List D) | lst (n : Nat) | zip (ds : List D) | itm (n m : Nat)
def seqD (S : So) : D → Option (List D)
 | .tup xs => some xs
 | .ref n => match S[n]? with
   | some (.lst xs) => some xs
   | some (.frz xs) => some xs
   | _ => none
 | _ => none
def seqsD (S : So) : List D → Option (List (List D))
 | [] => some []
 | d :: r => (seqD S d).bind fun xs => (seqsD S r).map (xs :: ·)
def minLen : List (List D) → Option Nat
 | [] => none
 | [xs] => some xs.length
 | xs :: r => (minLen r).map fun n => min xs.length n
def nxD : ItD → Nat → So → Option (Option D)
 | .fix xs, i, _ => some xs[i]?
 | .lst n, i, S => match S[n]? with
   | some (.lst xs) => some xs[i]?
   | some (.frz xs) => some xs[i]?
   | _ => none
 | .zip ds, i, S => (seqsD S ds).map fun xss => (MZ.rowAt xss i).map D.tup
 | .itm n m, i, S => match S[n]? with
   | some (.dct xs) => if xs.length = m then some ((xs[i]?).map fun x => .tup [kD x.1, .int x.2]) else none
   | _ => none
def cntD : ItD → So → Option Nat
 | .fix xs, _ => some xs.length
 | .lst n, S => match S[n]? with
   | some (.lst xs) => some xs.length
   | some (.frz xs) => some xs.length
   | _ => none
 | .zip ds, S => (seqsD S ds).bind minLen
 | .itm n m, S => match S[n]? with
   | some (.dct xs) => if xs.length = m then some m else none
   | _ => none
abbrev IF := Sg → So → Option (ItD × So)
def ItR (K : PySem.W.Frag) (H₀ : Hp) (α₀ : List Addr) (j : ItD) (J : It) : Prop := ∀ (i : Nat) H α S, Ext K H₀ α₀ H α → StoreR K H α S →
 (nxD j i S = some none → J.stop i H) ∧ ∀ d, nxD j i S = some (some d) → J.go i H ∧ ∀ x H', J.yld i H x H' → Same H H' ∧ Rep K H' α d x
def rdI (K : PySem.W.Frag) (f : IF) : TI := fun σ H R => ∃ σd S α j S', VarsR K H α σd σ ∧ StoreR K H α S ∧ f σd S = some (j, S') ∧ ∀ J H' α', StoreR K H' α' S' → Ext K H α H' α' → ItR K H' α' j J → R J H'
def SI (X : Cx) (tg e : Expr) (f : IF) : Prop := PI X tg e (rdI X.K f)
def iVal (fe : EF) : IF := fun σ S => (fe σ S).bind fun r => match r.1 with
 | .tup xs => some (.fix xs, r.2)
 | .ref n => match r.2[n]? with
   | some (.lst _) => some (.lst n, r.2)
   | some (.frz _) => some (.lst n, r.2)
   | _ => none
 | _ => none
def rangeD (lo : Int) (n : Nat) : List D := (List.range n).map fun k => .int (lo + (k : Nat))
def iRg1 (fa : AF) : IF := fun σ S => (fa σ S).bind fun r => match r.1 with
 | [.int j] => if -(2 ^ 62) ≤ j ∧ j < 2 ^ 62 then some (.fix (rangeD 0 j.toNat), r.2) else none
 | _ => none
def iRg2 (fa : AF) : IF := fun σ S => (fa σ S).bind fun r => match r.1 with
 | [.int i, .int j] => if (-(2 ^ 62) ≤ i ∧ i < 2 ^ 62) ∧ -(2 ^ 62) ≤ j ∧ j < 2 ^ 62 then some (.fix (rangeD i (j - i).toNat), r.2) else none
 | _ => none
section
variable {X : Cx} {tg : Expr}
theorem PI.or {e : Expr} {t t' : TI} (h : PI X tg e t) (h' : PI X tg e t') : PI X tg e (fun σ H R => t σ H R ∨ t' σ H R) := fun pins s σ H R I q => by
 rcases q with q | q
 · exact h pins s σ H R I q
 · exact h' pins s σ H R I q
theorem zk9 {K : PySem.W.Frag} {H : Hp} {α : List Addr} {a : Addr} {ds : List D} {vs : List V} (h : SqT K H a vs) (r : Reps K H α ds vs) : ItR K H α (.fix ds) (Itt K a) := fun i H1 α1 S1 x1 s1 => by
 have h1 := x1.tups _ _ h
 have r1 := r.mono x1
 refine ⟨fun e => ?_, fun d e => ?_⟩
 · have e' : ds[i]? = none := Option.some.inj e
   exact ⟨vs, h1, by rw [← r.length]; exact List.getElem?_eq_none_iff.mp e'⟩
 · obtain ⟨v, e1, q⟩ := r1.get (Option.some.inj e)
   refine ⟨⟨vs, v, h1, e1⟩, fun x H' y => ?_⟩
   obtain ⟨rfl, y⟩ := y
   have := y vs h1
   rw [e1] at this; cases this
   exact ⟨Same.refl _, q⟩
theorem zhT {K : PySem.W.Frag} {H : Hp} {α : List Addr} {a : Addr} {n : Nat} (h : α[n]? = some a) : ItR K H α (.lst n) (Itl K a) := fun i H1 α1 S1 x1 s1 => by
 have h1 := x1.pre _ _ h
 have core : ∀ ds, (∃ vs, SqL K H1 a vs ∧ Reps K H1 α1 ds vs) → ((some ds[i]? = some (none : Option D)) → (Itl K a).stop i H1) ∧ ∀ d, some ds[i]? = some (some d) → (Itl K a).go i H1 ∧ ∀ x H', (Itl K a).yld i H1 x H' → Same H1 H' ∧ Rep K H' α1 d x := fun ds ⟨vs, q, r⟩ => by
   refine ⟨fun e => ?_, fun d e => ?_⟩
   · have e' : ds[i]? = none := Option.some.inj e
     exact ⟨vs, q, by rw [← r.length]; exact List.getElem?_eq_none_iff.mp e'⟩
   · obtain ⟨v, e1, rv⟩ := r.get (Option.some.inj e)
     refine ⟨⟨vs, v, q, e1⟩, fun x H' y => ?_⟩
     obtain ⟨rfl, y⟩ := y
     have := y vs q
     rw [e1] at this; cases this
     exact ⟨Same.refl _, rv⟩
 unfold nxD
 cases hm : S1[n]? with
 | none => simp only [hm]; exact ⟨fun e => (nomatch e), fun d e => (nomatch e)⟩
 | some o =>
   have hob := s1.obj _ _ _ hm h1
   cases o with
   | lst ds => simp only [hm]; obtain ⟨vs, q, r⟩ := hob; exact core ds ⟨vs, SqL.of q, r⟩
   | frz ds => simp only [hm]; obtain ⟨vs, q, r⟩ := hob; exact core ds ⟨vs, q.sq, r⟩
   | ins C fs => simp only [hm]; exact ⟨fun e => (nomatch e), fun d e => (nomatch e)⟩
   | dct xs => simp only [hm]; exact ⟨fun e => (nomatch e), fun d e => (nomatch e)⟩
theorem zdt {lo : Int} {n i : Nat} : (rangeD lo n)[i]? = if i < n then some (.int (lo + (i : Nat))) else none := by
 unfold rangeD
 rw [List.getElem?_map]
 by_cases h : i < n
 · rw [if_pos h, List.getElem?_range h]; rfl
 · rw [if_neg h, List.getElem?_eq_none (by simpa using h)]; rfl
theorem zfC {K : PySem.W.Frag} {H : Hp} {α : List Addr} {lo : Int} {n : Nat} : ItR K H α (.fix (rangeD lo n)) (Itr lo n) := fun i H1 α1 S1 x1 s1 => by
 simp only [nxD]
 rw [zdt]
 by_cases h : i < n
 · rw [if_pos h]
   refine ⟨fun e => (nomatch e), fun d e => ⟨h, fun x H' y => ?_⟩⟩
   obtain ⟨rfl, rfl⟩ := y
   cases e
   exact ⟨Same.refl _, .int _⟩
 · rw [if_neg h]
   exact ⟨fun _ => Nat.le_of_not_lt h, fun d e => (nomatch e)⟩
theorem zl2 {e : Expr} {fe : EF} (he : SE X e fe) : SI X tg e (iVal fe) := by
 refine PI.imp (PI.or (zmv he) (zkA he)) fun σ H R h => ?_
 obtain ⟨σd, S, α, j, S', hv, hs, hf, k⟩ := h
 unfold iVal at hf
 simp only [Option.bind_eq_some_iff] at hf
 obtain ⟨⟨d, S1⟩, e1, e2⟩ := hf
 cases d with
 | tup xs =>
   cases e2
   refine .inl ⟨σd, S, α, .tup xs, _, hv, hs, e1, fun v H1 α1 s1 x1 r1 => ?_⟩
   cases r1 with
   | tup h r => exact ⟨_, rfl, ⟨_, h⟩, k _ _ _ s1 x1 (zk9 h r)⟩
 | ref n =>
   refine .inr ⟨σd, S, α, .ref n, S1, hv, hs, e1, fun v H1 α1 s1 x1 r1 => ?_⟩
   cases r1 with
   | ref h =>
     refine ⟨_, rfl, ?_⟩
     simp only at e2
     cases hm : S1[n]? with
     | none => simp [hm] at e2
     | some o =>
       have hob := s1.obj _ _ _ hm h
       cases o with
       | lst ds => simp only [hm] at e2; cases e2; obtain ⟨vs, q, r⟩ := hob; exact ⟨⟨vs, SqL.of q⟩, k _ _ _ s1 x1 (zhT h)⟩
       | frz ds => simp only [hm] at e2; cases e2; obtain ⟨vs, q, r⟩ := hob; exact ⟨⟨vs, q.sq⟩, k _ _ _ s1 x1 (zhT h)⟩
       | ins C fs => simp [hm] at e2
       | dct xs => simp [hm] at e2
 | _ => cases e2
theorem zht {a : Expr} {fa : AF} {p pos : Pos} (hg : Gl X "range") (hm : X.mg "range" = none) (ha : SA X [a] fa) (hst : starEach [a] X.env = [(false, eval a X.env)]) : SI X tg (.Call (.Name "range" p) [a] [] pos) (iRg1 fa) := by
 refine PI.imp (zhC hg hm ha hst) fun σ H R h => ?_
 obtain ⟨σd, S, α, j, S', hv, hs, hf, k⟩ := h
 unfold iRg1 at hf
 simp only [Option.bind_eq_some_iff] at hf
 obtain ⟨⟨ds, S1⟩, e1, e2⟩ := hf
 refine ⟨σd, S, α, ds, S1, hv, hs, e1, fun vs H1 α1 s1 x1 r1 => ?_⟩
 split at e2
 · rename_i jj hj
   simp only at hj
   subst hj
   split at e2
   · rename_i hb
     cases e2
     cases r1 with
     | cons r rr => cases r; cases rr; exact ⟨jj, rfl, hb.1, hb.2, k _ _ _ s1 x1 zfC⟩
   · cases e2
 · cases e2
theorem zhs {a b : Expr} {fa : AF} {p pos : Pos} (hg : Gl X "range") (hm : X.mg "range" = none) (ha : SA X [a, b] fa) (hst : starEach [a, b] X.env = [(false, eval a X.env), (false, eval b X.env)]) (hst2 : starEach [b] X.env = [(false, eval b X.env)]) :
   SI X tg (.Call (.Name "range" p) [a, b] [] pos) (iRg2 fa) := by
 refine PI.imp (zhB hg hm ha hst hst2) fun σ H R h => ?_
 obtain ⟨σd, S, α, j, S', hv, hs, hf, k⟩ := h
 unfold iRg2 at hf
 simp only [Option.bind_eq_some_iff] at hf
 obtain ⟨⟨ds, S1⟩, e1, e2⟩ := hf
 refine ⟨σd, S, α, ds, S1, hv, hs, e1, fun vs H1 α1 s1 x1 r1 => ?_⟩
 split at e2
 · rename_i ii jj hj
   simp only at hj
   subst hj
   split at e2
   · rename_i hb
     cases e2
     cases r1 with
     | cons r rr =>
       cases r
       cases rr with
       | cons r rr => cases r; cases rr; exact ⟨ii, jj, rfl, ⟨hb.1.1, hb.1.2, hb.2.1, hb.2.2⟩, k _ _ _ s1 x1 zfC⟩
   · cases e2
 · cases e2
end
def forN (nx : Nat → So → Option (Option D)) (g : GF) (f : SF) : Nat → Nat → SF
 | 0, i => fun σ S => match nx i S with
   | some none => some (.nx, σ, S)
   | _ => none
 | k + 1, i => fun σ S => match nx i S with
   | some (some d) => (g d σ S).bind fun q => (f q.1 q.2).bind fun r => match r.1 with
     | .nx => forN nx g f k (i + 1) r.2.1 r.2.2
     | .ct => forN nx g f k (i + 1) r.2.1 r.2.2
     | .bk => some (.nx, r.2.1, r.2.2)
     | .rt d => some (.rt d, r.2.1, r.2.2)
   | _ => none
def sFor (fi : IF) (g : GF) (f : SF) : SF := fun σ S => (fi σ S).bind fun r => (cntD r.1 r.2).bind fun n => forN (nxD r.1) g f n 0 σ r.2
theorem zlV {X : Cx} {tg iter : Expr} {body : List Stmt} {fi : IF} {g : GF} {f : SF} {pos : Pos} (hp : PassesOwn (model X.prog X.w) X.A X.env X.xe) (hc : X.calm = true) (hi : SI X tg iter fi) (hg : SG X tg g) (hb : SSs X body f)
   (hfs : ∀ x, foldedSetIterable iter X.env x = pure x) : SS X (.For tg iter body [] pos) (sFor fi g f) := by
 refine PS.imp (zmr hp hc hi hg hb hfs) fun D σ H h => ?_
 obtain ⟨σd, S, α, fl, σd', S', hv, hs, hf, k⟩ := h
 unfold sFor at hf
 simp only [Option.bind_eq_some_iff] at hf
 obtain ⟨⟨j, S1⟩, e1, n, e2, e3⟩ := hf
 refine ⟨σd, S, α, j, S1, hv, hs, e1, fun J H1 α1 s1 x1 jr => ?_⟩
 refine ⟨fun i m σ2 H2 => ∃ σd2 S2 α2, VarsR X.K H2 α2 σd2 σ2 ∧ StoreR X.K H2 α2 S2 ∧ Ext X.K H1 α1 H2 α2 ∧ forN (nxD j) g f m i σd2 S2 = some (fl, σd', S'), ⟨n, σd, S1, α1, hv.mono x1, s1, Ext.refl, e3⟩, ?_⟩
 rintro i m σ2 H2 ⟨σd2, S2, α2, v2, s2, x2, e⟩
 obtain ⟨jstop, jgo⟩ := jr i H2 α2 S2 x2 s2
 cases m with
 | zero =>
   unfold forN at e
   split at e
   · rename_i hn
     cases e
     exact .inl ⟨jstop hn, k _ _ _ v2 s2 (x1.trans x2)⟩
   · cases e
 | succ m =>
   unfold forN at e
   split at e
   · rename_i d hn
     obtain ⟨hgo, hy⟩ := jgo d hn
     simp only [Option.bind_eq_some_iff] at e
     obtain ⟨⟨σ3, S3⟩, e4, ⟨fl4, σ4, S4⟩, e5, e6⟩ := e
     refine .inr ⟨hgo, fun σ5 H5 => ∃ σd5 S5 α5, VarsR X.K H5 α5 σd5 σ5 ∧ StoreR X.K H5 α5 S5 ∧ Ext X.K H1 α1 H5 α5 ∧ forN (nxD j) g f m (i + 1) σd5 S5 = some (fl, σd', S'), fun σ5 H5 q => ⟨m, Nat.lt_succ_self _, q⟩, fun x H3 y => ?_⟩
     obtain ⟨sm, rx⟩ := hy x H3 y
     have x3 : Ext X.K H2 α2 H3 α2 := Same.ext sm
     refine ⟨σd2, S2, α2, d, σ3, S3, v2.mono x3, s2.mono sm, rx, e4, fun σ5 H5 α5 v5 s5 x5 => ?_⟩
     refine ⟨σ3, S3, α5, fl4, σ4, S4, v5, s5, e5, fun σ6 H6 α6 v6 s6 x6 => ?_⟩
     have xx := ((x2.trans x3).trans x5).trans x6
     cases fl4 with
     | nx => exact ⟨σ4, S4, α6, v6, s6, xx, e6⟩
     | ct => exact ⟨σ4, S4, α6, v6, s6, xx, e6⟩
     | bk => cases e6; exact k _ _ _ v6 s6 (x1.trans xx)
     | rt d => cases e6; exact k _ _ _ v6 s6 (x1.trans xx)
   · cases e
def srcD (src : List (Option Nat)) (σ : Sg) : Sg := src.map fun o => o.bind fun i => (σ[i]?).join
theorem ziE {K : PySem.W.Frag} {H : Hp} {α : List Addr} {σd : Sg} {σ : L2.St} {src : List (Option Nat)} (h : VarsR K H α σd σ) : VarsR K H α (srcD src σd) (srcV src σ) := by
 refine ⟨by simp [srcD, srcV], fun i d e => ?_⟩
 unfold srcD at e
 rw [List.getElem?_map] at e
 cases q : src[i]? with
 | none => rw [q] at e; simp at e
 | some o =>
   rw [q] at e
   cases o with
   | none => simp at e
   | some j =>
     simp only [Option.map_some, Option.bind_some, Option.some.injEq] at e
     cases q2 : σd[j]? with
     | none => rw [q2] at e; simp at e
     | some o2 =>
       rw [q2] at e
       simp at e
       subst e
       obtain ⟨v, h1, h2⟩ := h.2 j d q2
       exact ⟨v, by unfold srcV; rw [List.getElem?_map, q]; simp [h1], h2⟩
def tTru : TF := fun _ S => some (true, S)
def lcN (nx : Nat → So → Option (Option D)) (g : GF) (t : TF) (fe : EF) : Nat → Nat → Sg → So → List D → Option (List D × So)
 | 0, i, _, S, acc => match nx i S with
   | some none => some (acc, S)
   | _ => none
 | k + 1, i, τ, S, acc => match nx i S with
   | some (some d) => (g d τ S).bind fun q => (t q.1 q.2).bind fun b => if b.1 = true then (fe q.1 b.2).bind fun r => lcN nx g t fe k (i + 1) q.1 r.2 (acc ++ [r.1]) else lcN nx g t fe k (i + 1) q.1 b.2 acc
   | _ => none
def lcD (fi : IF) (g : GF) (t : TF) (fe : EF) (src : List (Option Nat)) : Sg → So → Option (List D × So) := fun σ S => (fi σ S).bind fun r => (cntD r.1 r.2).bind fun n => if n ≤ sizeLine then lcN (nxD r.1) g t fe n 0 (srcD src σ) r.2 [] else none
def eLc (fi : IF) (g : GF) (t : TF) (fe : EF) (src : List (Option Nat)) : EF := fun σ S => (lcD fi g t fe src σ S).map fun q => (.ref q.2.length, q.2 ++ [.lst q.1])
def STs (X : Cx) (ifs : List Expr) (t : TF) : Prop := PTs X ifs (rdT X.K t)
theorem zj4 {X : Cx} : STs X [] tTru := fun pins s σ H Q I h => zkr pins s σ H Q I (by
 obtain ⟨σd, S, α, b, S', hv, hs, hf, k⟩ := h
 cases hf
 exact k _ _ hs Ext.refl)
theorem zj3 {X : Cx} {c : Expr} {t : TF} (h : ST X c t) : STs X [c] t := zkq h
section
variable {X : Cx} {elt tg iter : Expr} {ifs : List Expr} {scope : Scope} {pos : Pos} {N' : List Str} {src : List (Option Nat)} {fi : IF} {g : GF} {t : TF} {fe : EF}
theorem zhP {K : PySem.W.Frag} {σd : Sg} {σ : L2.St} {S S' : So} {H : Hp} {α : List Addr} {ds : List D} {Fin : List V → Hp → Prop} (hv : VarsR K H α σd σ) (hs : StoreR K H α S) (hf : lcD fi g t fe src σd S = some (ds, S'))
   (k : ∀ ys H' α', StoreR K H' α' S' → Ext K H α H' α' → Reps K H' α' ds ys → Fin ys H') :
   rdI K fi σ H fun J H1 => ∃ W, (∃ m, W 0 m [] (srcV src σ) H1) ∧ LcW J (rdG K g) (rdT K t) (rdE K fe) Fin W := by
 unfold lcD at hf
 simp only [Option.bind_eq_some_iff] at hf
 obtain ⟨⟨j, S1⟩, e1, n, e2, e3⟩ := hf
 split at e3
 · rename_i hn
   refine ⟨σd, S, α, j, S1, hv, hs, e1, fun J H1 α1 s1 x1 jr => ?_⟩
   refine ⟨fun i m ys τ H2 => ∃ σd2 S2 α2 acc, VarsR K H2 α2 σd2 τ ∧ StoreR K H2 α2 S2 ∧ Ext K H1 α1 H2 α2 ∧ Reps K H2 α2 acc ys ∧ acc.length + m ≤ sizeLine ∧ lcN (nxD j) g t fe m i σd2 S2 acc = some (ds, S'),
     ⟨n, srcD src σd, S1, α1, [], ziE (hv.mono x1), s1, Ext.refl, .nil, by simpa using hn, e3⟩, ?_⟩
   rintro i m ys τ H2 ⟨σd2, S2, α2, acc, v2, s2, x2, r2, hl, e⟩
   obtain ⟨jstop, jgo⟩ := jr i H2 α2 S2 x2 s2
   cases m with
   | zero =>
     unfold lcN at e
     split at e
     · rename_i hn
       cases e
       exact .inl ⟨jstop hn, k _ _ _ s2 (x1.trans x2) r2⟩
     · cases e
   | succ m =>
     unfold lcN at e
     split at e
     · rename_i d hn
       obtain ⟨hgo, hy⟩ := jgo d hn
       simp only [Option.bind_eq_some_iff] at e
       obtain ⟨⟨σ3, S3⟩, e4, ⟨b, S4⟩, e5, e6⟩ := e
       refine .inr ⟨hgo, by rw [← r2.length]; omega, fun x H3 y => ?_⟩
       obtain ⟨sm, rx⟩ := hy x H3 y
       have x3 : Ext K H2 α2 H3 α2 := Same.ext sm
       refine ⟨σd2, S2, α2, d, σ3, S3, v2.mono x3, s2.mono sm, rx, e4, fun σ5 H5 α5 v5 s5 x5 => ?_⟩
       refine ⟨σ3, S3, α5, b, S4, v5, s5, e5, fun H6 α6 s6 x6 => ?_⟩
       cases b with
       | false =>
         rw [if_neg Bool.false_ne_true]; rw [if_neg Bool.false_ne_true] at e6
         exact ⟨m, Nat.lt_succ_self _, σ3, S4, α6, acc, v5.mono x6, s6, ((x2.trans x3).trans x5).trans x6, ((r2.mono x3).mono x5).mono x6, by omega, e6⟩
       | true =>
         rw [if_pos rfl]; rw [if_pos rfl] at e6
         simp only [Option.bind_eq_some_iff] at e6
         obtain ⟨⟨z, S7⟩, e7, e8⟩ := e6
         refine ⟨σ3, S4, α6, z, S7, v5.mono x6, s6, e7, fun w H8 α8 s8 x8 r8 => ?_⟩
         exact ⟨m, Nat.lt_succ_self _, σ3, S7, α8, acc ++ [z], (v5.mono x6).mono x8, s8, (((x2.trans x3).trans x5).trans x6).trans x8, ((((r2.mono x3).mono x5).mono x6).mono x8).append (.cons r8 .nil), by simp; omega, e8⟩
     · cases e
 · cases e3
theorem zeZ (hY : ∀ Y, IsComp X scope N' Y → SG Y tg g ∧ STs Y ifs t ∧ SE Y elt fe) : ∀ Y, IsComp X scope N' Y → PG Y tg (rdG X.K g) ∧ PTs Y ifs (rdT X.K t) ∧ PE Y elt (rdE X.K fe) := fun Y hy => by
 obtain ⟨h1, h2, h3⟩ := hY Y hy
 unfold SG at h1
 unfold STs at h2
 unfold SE at h3
 rw [hy.K] at h1 h2 h3
 exact ⟨h1, h2, h3⟩
theorem zme (hc : X.calm = true) (ok : CompOk X scope N' src) (hi : SI X tg iter fi) (hY : ∀ Y, IsComp X scope N' Y → SG Y tg g ∧ STs Y ifs t ∧ SE Y elt fe)
   (hfs : ∀ x, foldedSetIterable iter X.env x = pure x) : SE X (.ListComp elt [⟨tg, iter, ifs, 0⟩] scope pos) (eLc fi g t fe src) := by
 refine PE.imp (znP hc ok hi (zeZ hY) hfs) fun σ H Q h => ?_
 obtain ⟨σd, S, α, z, S', hv, hs, hf, k⟩ := h
 unfold eLc at hf
 simp only [Option.map_eq_some_iff] at hf
 obtain ⟨⟨ds, S1⟩, e1, e2⟩ := hf
 cases e2
 refine zhP hv hs e1 fun ys H' α' s' x' r' p hp => ?_
 obtain ⟨s2, x2⟩ := s'.snoc (p := p) (o := .lst ds) (u := .lst ys) hp fun α'' e => ⟨_, zaI, r'.mono e⟩
 exact k _ _ _ s2 (x'.trans x2) (.ref (by rw [← s'.len]; simp))
theorem ziC {y : Str} {py spos : Pos} {i : Nat} (hN : X.N.Nodup) (hyi : X.N[i]? = some y) (hy : X.env.kindOf y = some .local)
   (hsw : swapsWith (.ListComp elt [⟨tg, iter, ifs, 0⟩] scope pos) (some (.Name y py)) spos.line X.env = pure true)
   (hc : X.calm = true) (ok : CompOk X scope N' src) (hi : SI X tg iter fi) (hY : ∀ Y, IsComp X scope N' Y → SG Y tg g ∧ STs Y ifs t ∧ SE Y elt fe)
   (hfs : ∀ x, foldedSetIterable iter X.env x = pure x) : SS X (.Assign [.Name y py] (.ListComp elt [⟨tg, iter, ifs, 0⟩] scope pos) spos) (sAsg (eLc fi g t fe src) (gNm i)) := by
 refine PS.imp (ziY hN hyi hy hsw hc ok hi (zeZ hY) hfs) fun D σ H h => ?_
 obtain ⟨σd, S, α, fl, σd', S', hv, hs, hf, k⟩ := h
 unfold sAsg eLc at hf
 simp only [Option.bind_eq_some_iff, Option.map_eq_some_iff] at hf
 obtain ⟨⟨d, S1⟩, ⟨⟨ds, S2⟩, e1, e2⟩, ⟨σ1, S3⟩, e3, e4⟩ := hf
 cases e4; cases e3; cases e2
 refine zhP hv hs e1 fun ys H' α' s' x' r' p hp => ?_
 obtain ⟨s2, x2⟩ := s'.snoc (p := p) (o := .lst ds) (u := .lst ys) hp fun α'' e => ⟨_, zaI, r'.mono e⟩
 exact k _ _ _ (((hv.mono x').mono x2).set (.ref (by rw [← s'.len]; simp)) i) s2 (x'.trans x2)
end
end MX
end
section
set_option autoImplicit false
namespace MX
open PySem PySem.Spec PyProof.Rows L2
def gLen : GN
 | [.tup xs], S => some (.int xs.length, S)
 | [.str z], S => if z.length ≤ sizeLine then some (.int z.length, S) else none
 | [.ref n], S => match S[n]? with
   | some (.lst xs) => some (.int xs.length, S)
   | some (.frz xs) => some (.int xs.length, S)
   | _ => none
 | _, _ => none
def gAbs : GN
 | [.int i], S => some (.int (if i < 0 then -i else i), S)
 | _, _ => none
def intsD : List D → Option (List Int)
 | [] => some []
 | .int i :: r => (intsD r).map (i :: ·)
 | _ :: _ => none
def minI : List Int → Option Int
 | [] => none
 | i :: r => some (r.foldl (fun a b => if b < a then b else a) i)
def maxI : List Int → Option Int
 | [] => none
 | i :: r => some (r.foldl (fun a b => if b > a then b else a) i)
def gMin : GN
 | [.int i, .int j], S => some (.int (if j < i then j else i), S)
 | [.ref n], S => match S[n]? with
   | some (.lst xs) => (intsD xs).bind fun ns => (minI ns).map fun m => (.int m, S)
   | _ => none
 | _, _ => none
def gMax : GN
 | [.int i, .int j], S => some (.int (if j > i then j else i), S)
 | [.ref n], S => match S[n]? with
   | some (.lst xs) => (intsD xs).bind fun ns => (maxI ns).map fun m => (.int m, S)
   | _ => none
 | _, _ => none
def gTuple : GN
 | [.tup xs], S => some (.tup xs, S)
 | [.ref n], S => match S[n]? with
   | some (.lst xs) => some (.tup xs, S)
   | some (.frz xs) => some (.tup xs, S)
   | _ => none
 | _, _ => none
def gList : GN
 | [.tup xs], S => some (.ref S.length, S ++ [.lst xs])
 | [.ref n], S => match S[n]? with
   | some (.lst xs) => some (.ref S.length, S ++ [.lst xs])
   | some (.frz xs) => some (.ref S.length, S ++ [.lst xs])
   | _ => none
 | _, _ => none
theorem zdH : ∀ (r : List Int) (i : Int), r.foldl (fun a b => if b < a then b else a) i ≤ i ∧ (∀ x ∈ r, r.foldl (fun a b => if b < a then b else a) i ≤ x) ∧ (r.foldl (fun a b => if b < a then b else a) i = i ∨ r.foldl (fun a b => if b < a then b else a) i ∈ r)
 | [], i => ⟨Int.le_refl _, fun _ h => (nomatch h), .inl rfl⟩
 | x :: r, i => by
   obtain ⟨h1, h2, h3⟩ := zdH r (if x < i then x else i)
   rw [List.foldl_cons]
   refine ⟨?_, fun y hy => ?_, ?_⟩
   · refine Int.le_trans (by first | exact h1 | (refine Int.le_trans ?_ h1; split <;> omega)) (by first | (split <;> omega) | exact Int.le_refl _)
   · rcases List.mem_cons.mp hy with rfl | hy
     · first
         | exact Int.le_trans h1 (by split <;> omega)
         | exact Int.le_trans (by split <;> omega) h1
     · exact h2 y hy
   · rcases h3 with h3 | h3
     · rw [h3]
       split
       · exact .inr List.mem_cons_self
       · exact .inl rfl
     · exact .inr (List.mem_cons_of_mem _ h3)
theorem zdI : ∀ (r : List Int) (i : Int), i ≤ r.foldl (fun a b => if b > a then b else a) i ∧ (∀ x ∈ r, x ≤ r.foldl (fun a b => if b > a then b else a) i) ∧ (r.foldl (fun a b => if b > a then b else a) i = i ∨ r.foldl (fun a b => if b > a then b else a) i ∈ r)
 | [], i => ⟨Int.le_refl _, fun _ h => (nomatch h), .inl rfl⟩
 | x :: r, i => by
   obtain ⟨h1, h2, h3⟩ := zdI r (if x > i then x else i)
   rw [List.foldl_cons]
   refine ⟨?_, fun y hy => ?_, ?_⟩
   · refine Int.le_trans (by first | exact h1 | (refine Int.le_trans ?_ h1; split <;> omega)) (by first | (split <;> omega) | exact Int.le_refl _)
   · rcases List.mem_cons.mp hy with rfl | hy
     · first
         | exact Int.le_trans h1 (by split <;> omega)
         | exact Int.le_trans (by split <;> omega) h1
     · exact h2 y hy
   · rcases h3 with h3 | h3
     · rw [h3]
       split
       · exact .inr List.mem_cons_self
       · exact .inl rfl
     · exact .inr (List.mem_cons_of_mem _ h3)
theorem zhK {ns : List Int} {m : Int} (h1 : m ∈ ns) (h2 : ∀ a ∈ ns, m ≤ a) : minI ns = some m := by
 cases ns with
 | nil => cases h1
 | cons i r =>
   obtain ⟨a, b, c⟩ := zdH r i
   unfold minI
   have l1 : m ≤ r.foldl (fun a b => if b < a then b else a) i := by
     rcases c with c | c
     · rw [c]; exact h2 i List.mem_cons_self
     · exact h2 _ (List.mem_cons_of_mem _ c)
   have l2 : r.foldl (fun a b => if b < a then b else a) i ≤ m := by
     rcases List.mem_cons.mp h1 with rfl | h1
     · exact a
     · exact b m h1
   exact congrArg some (Int.le_antisymm l2 l1)
theorem zhM {ns : List Int} {m : Int} (h1 : m ∈ ns) (h2 : ∀ a ∈ ns, a ≤ m) : maxI ns = some m := by
 cases ns with
 | nil => cases h1
 | cons i r =>
   obtain ⟨a, b, c⟩ := zdI r i
   unfold maxI
   have l1 : r.foldl (fun a b => if b > a then b else a) i ≤ m := by
     rcases c with c | c
     · rw [c]; exact h2 i List.mem_cons_self
     · exact h2 _ (List.mem_cons_of_mem _ c)
   have l2 : m ≤ r.foldl (fun a b => if b > a then b else a) i := by
     rcases List.mem_cons.mp h1 with rfl | h1
     · exact a
     · exact b m h1
   exact congrArg some (Int.le_antisymm l1 l2)
theorem zb4 {K : PySem.W.Frag} {H : Hp} {α : List Addr} : ∀ {ds : List D} {vs : List V} {us : List Value} {ns : List Int}, Reps K H α ds vs → Vals vs us → intsD ds = some ns → IntsAre us ns
 | _, _, _, _, .nil, .nil, e => by cases e; exact .nil
 | _, _, _, _, .cons r rr, .cons rv rvs, e => by
   cases r with
   | int i =>
     simp only [intsD, Option.map_eq_some_iff] at e
     obtain ⟨ms, e1, rfl⟩ := e
     obtain ⟨t, rfl⟩ := rv
     exact .cons _ _ (zb4 rr rvs e1)
   | _ => cases e
theorem Reps.inv1 {K : PySem.W.Frag} {H : Hp} {α : List Addr} {d : D} {vs : List V} (r : Reps K H α [d] vs) : ∃ v, vs = [v] ∧ Rep K H α d v := by
 cases r with
 | cons r rr => cases rr; exact ⟨_, rfl, r⟩
theorem Reps.inv2 {K : PySem.W.Frag} {H : Hp} {α : List Addr} {d e : D} {vs : List V} (r : Reps K H α [d, e] vs) : ∃ v u, vs = [v, u] ∧ Rep K H α d v ∧ Rep K H α e u := by
 cases r with
 | cons r rr =>
   obtain ⟨u, rfl, q⟩ := rr.inv1
   exact ⟨_, _, rfl, r, q⟩
theorem zaZ {K : PySem.W.Frag} {H : Hp} {α : List Addr} {S : So} {n : Nat} {a : Addr} {xs : List D} (hs : StoreR K H α S) (ha : α[n]? = some a) (h : S[n]? = some (.lst xs) ∨ S[n]? = some (.frz xs)) : ∃ vs, SqL K H a vs ∧ Reps K H α xs vs := by
 rcases h with h | h
 · obtain ⟨vs, q, r⟩ := hs.obj _ _ _ h ha; exact ⟨vs, SqL.of q, r⟩
 · obtain ⟨vs, q, r⟩ := hs.obj _ _ _ h ha; exact ⟨vs, q.sq, r⟩
section
variable {X : Cx}
theorem znq : CallR X (.builtin "len") (rdC X.K gLen) := by
 intro pins s σ H vs us Q I rv h
 obtain ⟨S, α, ds, z, S', hs, r, hg, k⟩ := h
 unfold gLen at hg
 split at hg
 · cases hg
   obtain ⟨v, rfl, r0⟩ := r.inv1
   cases r0 with
   | tup h r1 => exact zdK pins s σ H _ us Q I rv ⟨_, _, rfl, .inr h, by rw [← r1.length]; exact k.same hs (.int _)⟩
 · split at hg
   · rename_i hl
     cases hg
     obtain ⟨v, rfl, r0⟩ := r.inv1
     cases r0
     exact zfM pins s σ H _ us Q I rv ⟨_, rfl, hl, k.same hs (.int _)⟩
   · cases hg
 · obtain ⟨v, rfl, r0⟩ := r.inv1
   cases r0 with
   | @ref n a ha =>
     have core : ∀ xs, (∃ vs, SqL X.K H a vs ∧ Reps X.K H α xs vs) → some (D.int (xs.length : Int), S) = some (z, S') → wpAny (model X.prog X.w) X.A (call (.builtin "len") us) (EP X pins σ Q) X.xe s := fun xs ⟨vs, q, r⟩ e => by
       cases e
       exact zdK pins s σ H _ us Q I rv ⟨_, _, rfl, .inl q, by rw [← r.length]; exact k.same hs (.int _)⟩
     split at hg
     · rename_i e; exact core _ (zaZ hs ha (.inl e)) hg
     · rename_i e; exact core _ (zaZ hs ha (.inr e)) hg
     · cases hg
 · cases hg
theorem znu : CallR X (.builtin "abs") (rdC X.K gAbs) := by
 intro pins s σ H vs us Q I rv h
 obtain ⟨S, α, ds, z, S', hs, r, hg, k⟩ := h
 unfold gAbs at hg
 split at hg
 · cases hg
   obtain ⟨v, rfl, r0⟩ := r.inv1
   cases r0
   exact zjC pins s σ H _ us Q I rv ⟨_, rfl, k.same hs (.int _)⟩
 · cases hg
theorem zno (hc : X.calm = true) : CallR X (.builtin "min") (rdC X.K gMin) := by
 intro pins s σ H vs us Q I rv h
 obtain ⟨S, α, ds, z, S', hs, r, hg, k⟩ := h
 unfold gMin at hg
 split at hg
 · cases hg
   obtain ⟨v, u, rfl, r1, r2⟩ := r.inv2
   cases r1; cases r2
   exact zio hc pins s σ H _ us Q I rv ⟨_, _, rfl, k.same hs (.int _)⟩
 · obtain ⟨v, rfl, r0⟩ := r.inv1
   cases r0 with
   | @ref n a ha =>
     split at hg
     · rename_i e
       simp only [Option.bind_eq_some_iff, Option.map_eq_some_iff] at hg
       obtain ⟨ns, e1, m, e2, e3⟩ := hg
       cases e3
       obtain ⟨ws, q, r⟩ := zaZ hs ha (.inl e)
       obtain ⟨u, rfl, ru⟩ := vals1 rv
       cases ru
       obtain ⟨its, rr, pl, hz⟩ := I.list q
       have hi := zb4 r rr e1
       have hne : 0 < ns.length := by
         cases ns with
         | nil => cases e2
         | cons _ _ => simp
       obtain ⟨xs, hxs⟩ := hi.allInts.items
       have hn := hi.numsOf
       have hnn : numsOf (intItems xs).toList = ns := by rw [← hxs]; simpa using hn
       rw [nums_intItems] at hnn
       have hsz : 0 < xs.size := by
         have := congrArg List.length hnn
         simp at this; omega
       have hl' : s.heap.IsList a (intItems xs) := by rw [← hxs]; exact pl.isList
       refine min_intList (I.ok.hd hc) hl' hsz fun v h' tk hv hk => ?_
       obtain ⟨t, rfl⟩ := intItems_at hv
       obtain ⟨h1, h2⟩ := argBest_lt (numAt xs) (xs.size - 1)
       have hm : minI ns = some (numAt xs (argBest (fun i j => decide (numAt xs i < numAt xs j)) (xs.size - 1))) := by
         refine zhK ?_ fun b hb => ?_
         · rw [← hnn, numAt_eq]; exact getD_mem (by rw [List.length_map, Array.length_toList]; omega)
         · rw [← hnn] at hb
           obtain ⟨j, hj, rfl⟩ := mem_getD hb
           rw [List.length_map, Array.length_toList] at hj
           rw [← numAt_eq]; exact h2 j (by omega)
       rw [e2] at hm; cases hm
       exact ⟨.int _, H, I.kept hk, ⟨t, rfl⟩, k.same hs (.int _)⟩
     · cases hg
 · cases hg
theorem znp (hc : X.calm = true) : CallR X (.builtin "max") (rdC X.K gMax) := by
 intro pins s σ H vs us Q I rv h
 obtain ⟨S, α, ds, z, S', hs, r, hg, k⟩ := h
 unfold gMax at hg
 split at hg
 · cases hg
   obtain ⟨v, u, rfl, r1, r2⟩ := r.inv2
   cases r1; cases r2
   exact ziq hc pins s σ H _ us Q I rv ⟨_, _, rfl, k.same hs (.int _)⟩
 · obtain ⟨v, rfl, r0⟩ := r.inv1
   cases r0 with
   | @ref n a ha =>
     split at hg
     · rename_i e
       simp only [Option.bind_eq_some_iff, Option.map_eq_some_iff] at hg
       obtain ⟨ns, e1, m, e2, e3⟩ := hg
       cases e3
       obtain ⟨ws, q, r⟩ := zaZ hs ha (.inl e)
       obtain ⟨u, rfl, ru⟩ := vals1 rv
       cases ru
       obtain ⟨its, rr, pl, hz⟩ := I.list q
       have hi := zb4 r rr e1
       have hne : 0 < ns.length := by
         cases ns with
         | nil => cases e2
         | cons _ _ => simp
       obtain ⟨xs, hxs⟩ := hi.allInts.items
       have hn := hi.numsOf
       have hnn : numsOf (intItems xs).toList = ns := by rw [← hxs]; simpa using hn
       rw [nums_intItems] at hnn
       have hsz : 0 < xs.size := by
         have := congrArg List.length hnn
         simp at this; omega
       have hl' : s.heap.IsList a (intItems xs) := by rw [← hxs]; exact pl.isList
       refine max_intList (I.ok.hd hc) hl' hsz fun v h' tk hv hk => ?_
       obtain ⟨t, rfl⟩ := intItems_at hv
       obtain ⟨h1, h2⟩ := argBest_gt (numAt xs) (xs.size - 1)
       have hm : maxI ns = some (numAt xs (argBest (fun i j => decide (numAt xs i > numAt xs j)) (xs.size - 1))) := by
         refine zhM ?_ fun b hb => ?_
         · rw [← hnn, numAt_eq]; exact getD_mem (by rw [List.length_map, Array.length_toList]; omega)
         · rw [← hnn] at hb
           obtain ⟨j, hj, rfl⟩ := mem_getD hb
           rw [List.length_map, Array.length_toList] at hj
           rw [← numAt_eq]; exact h2 j (by omega)
       rw [e2] at hm; cases hm
       exact ⟨.int _, H, I.kept hk, ⟨t, rfl⟩, k.same hs (.int _)⟩
     · cases hg
 · cases hg
theorem zjD : CallR X (.type "tuple") (rdC X.K gTuple) := by
 intro pins s σ H vs us Q I rv h
 obtain ⟨S, α, ds, z, S', hs, r, hg, k⟩ := h
 unfold gTuple at hg
 split at hg
 · cases hg
   obtain ⟨v, rfl, r0⟩ := r.inv1
   cases r0 with
   | tup h r1 => exact zdh pins s σ H _ us Q I rv ⟨_, _, rfl, .inr ⟨h, k.same hs (.tup h r1)⟩⟩
 · obtain ⟨v, rfl, r0⟩ := r.inv1
   cases r0 with
   | @ref n a ha =>
     have core : ∀ xs, (∃ vs, SqL X.K H a vs ∧ Reps X.K H α xs vs) → some (D.tup xs, S) = some (z, S') → wpAny (model X.prog X.w) X.A (call (.type "tuple") us) (EP X pins σ Q) X.xe s := fun xs ⟨vs, q, r⟩ e => by
       cases e
       exact zdh pins s σ H _ us Q I rv ⟨_, _, rfl, .inl ⟨q, fun p hp => k.new hs (zbm hp) (.tup (SqT.of zaI) (r.mono (Same.ext (zbm hp))))⟩⟩
     split at hg
     · rename_i e; exact core _ (zaZ hs ha (.inl e)) hg
     · rename_i e; exact core _ (zaZ hs ha (.inr e)) hg
     · cases hg
 · cases hg
theorem zly : CallR X (.type "list") (rdC X.K gList) := by
 intro pins s σ H vs us Q I rv h
 obtain ⟨S, α, ds, z, S', hs, r, hg, k⟩ := h
 have fin : ∀ (xs : List D) (vs : List V) (p : Addr), Reps X.K H α xs vs → H p = none → some (D.ref S.length, S ++ [O.lst xs]) = some (z, S') → Q (.ref p) (upd H p (.lst vs)) := fun xs vs p r hp e => by
   cases e
   obtain ⟨s2, x2⟩ := hs.snoc (p := p) (o := .lst xs) (u := .lst vs) hp fun α'' e => ⟨_, zaI, r.mono e⟩
   exact k _ _ _ s2 x2 (.ref (by rw [← hs.len]; simp))
 unfold gList at hg
 split at hg
 · obtain ⟨v, rfl, r0⟩ := r.inv1
   cases r0 with
   | tup h r1 => exact zdJ pins s σ H _ us Q I rv ⟨_, _, rfl, .inr h, fun p hp => fin _ _ p r1 hp hg⟩
 · obtain ⟨v, rfl, r0⟩ := r.inv1
   cases r0 with
   | @ref n a ha =>
     have core : ∀ xs, (∃ vs, SqL X.K H a vs ∧ Reps X.K H α xs vs) → some (D.ref S.length, S ++ [O.lst xs]) = some (z, S') → wpAny (model X.prog X.w) X.A (call (.type "list") us) (EP X pins σ Q) X.xe s := fun xs ⟨vs, q, r⟩ e =>
       zdJ pins s σ H _ us Q I rv ⟨_, _, rfl, .inl q, fun p hp => fin _ _ p r hp e⟩
     split at hg
     · rename_i e; exact core _ (zaZ hs ha (.inl e)) hg
     · rename_i e; exact core _ (zaZ hs ha (.inr e)) hg
     · cases hg
 · cases hg
end
def isiT (a b : String) : Option Bool := PySem.W.kitOne (default) (.type a) (.type b)
theorem zhV {K : PySem.W.Frag} {a b : String} : PySem.W.kitOne K (.type a) (.type b) = isiT a b := by
 unfold isiT PySem.W.kitOne PySem.W.kitCls PySem.W.subIn
 rfl
def tyD : D → So → Option String
 | .non, _ => some "NoneType"
 | .bl _, _ => some "bool"
 | .int _, _ => some "int"
 | .str _, _ => some "str"
 | .tup _, _ => some "tuple"
 | .ref n, S => match S[n]? with
   | some (.lst _) => some "list"
   | _ => none
 | _, _ => none
def gIsi : GN
 | [d, .ty T], S => (tyD d S).bind fun t => (isiT t T).map fun b => (.bl b, S)
 | _, _ => none
theorem zlD {K : PySem.W.Frag} {H : Hp} {α : List Addr} {S : So} {d : D} {v : V} {t : String} (hs : StoreR K H α S) (r : Rep K H α d v) (e : tyD d S = some t) : (∃ b vs, v = .ref b ∧ SqT K H b vs ∧ t = "tuple") ∨ TyOf K H v (.type t) := by
 cases r with
 | non => cases e; exact .inr .non
 | bl b => cases e; exact .inr (.bl b)
 | int i => cases e; exact .inr (.int i)
 | str x => cases e; exact .inr (.str x)
 | tup h r => cases e; exact .inl ⟨_, _, rfl, h, rfl⟩
 | @ref n a ha =>
   simp only [tyD] at e
   split at e
   · rename_i q
     cases e
     obtain ⟨vs, h, _⟩ := hs.obj _ _ _ q ha
     exact .inr (.lst h)
   · cases e
 | ty n => cases e
 | adr a => cases e
theorem znr {X : Cx} : CallR X (.builtin "isinstance") (rdC X.K gIsi) := by
 intro pins s σ H vs us Q I rv h
 obtain ⟨S, α, ds, z, S', hs, r, hg, k⟩ := h
 unfold gIsi at hg
 split at hg
 · simp only [Option.bind_eq_some_iff, Option.map_eq_some_iff] at hg
   obtain ⟨t, e1, b, e2, e3⟩ := hg
   cases e3
   obtain ⟨v, u, rfl, r1, r2⟩ := r.inv2
   cases r2 with
   | ty T =>
     obtain ⟨u1, u2, rfl, q1, q2⟩ := vals2 rv
     cases q2
     rcases zlD hs r1 e1 with ⟨a, ws, rfl, h, rfl⟩ | ty
     · cases q1
       obtain ⟨its, _, ⟨o, h1, h2, _⟩, _⟩ := I.tuple h
       exact PySem.W.kia_one PySem.W.kitx_tuple I.kIn ⟨o, h1, h2⟩ (by rw [zhV]; exact e2) (fun z => nomatch z) fun tk => ⟨.bl b, H, I.tok _, rfl, k.same hs (.bl _)⟩
     · exact zhU I q1 ty (by rw [zhV]; exact e2) fun tk => ⟨.bl b, H, I.tok _, rfl, k.same hs (.bl _)⟩
 · cases hg
abbrev PF := Sg → So → Option (Option Int × So)
def pNone : PF := fun _ S => some (none, S)
def pSome (fe : EF) : PF := fun σ S => (fe σ S).bind fun r => match r.1 with
 | .int i => some (some i, r.2)
 | _ => none
def cutD (xs : List D) (lo hi : Option Int) : List D := (xs.drop (HT.sIx xs.length 0 lo)).take (HT.sIx xs.length xs.length hi - HT.sIx xs.length 0 lo)
def gSl : D → Option Int → Option Int → So → Option (D × So)
 | .tup xs, lo, hi, S => if ¬ (HT.sIx xs.length 0 lo = 0 ∧ HT.sIx xs.length xs.length hi = xs.length) then some (.tup (cutD xs lo hi), S) else none
 | .ref n, lo, hi, S => match S[n]? with
   | some (.lst xs) => some (.ref S.length, S ++ [.lst (cutD xs lo hi)])
   | some (.frz xs) => some (.ref S.length, S ++ [.lst (cutD xs lo hi)])
   | _ => none
 | _, _, _, _ => none
def eSl (fe : EF) (fl fh : PF) : EF := fun σ S => (fe σ S).bind fun r => (fl σ r.2).bind fun l => (fh σ l.2).bind fun h => gSl r.1 l.1 h.1 h.2
def rdP (K : PySem.W.Frag) (f : PF) : TO := fun σ H Q => ∃ σd S α p S', VarsR K H α σd σ ∧ StoreR K H α S ∧ f σd S = some (p, S') ∧ ∀ H' α', StoreR K H' α' S' → Ext K H α H' α' → Q p H'
def SPt (X : Cx) (e : Option Expr) (f : PF) : Prop := PO X e (rdP X.K f)
theorem zgE {K : PySem.W.Frag} {H : Hp} {α : List Addr} {ds : List D} {vs : List V} {lo hi : Option Int} (r : Reps K H α ds vs) : Reps K H α (cutD ds lo hi) (cutV vs lo hi) := by
 unfold cutD cutV
 rw [r.length]
 exact (r.drop _).take _
section
variable {X : Cx} {e : Expr} {fe : EF} {lo hi : Option Expr} {fl fh : PF} {pos p2 : Pos}
theorem zkc : SPt X none pNone := fun pins s σ H Q I h => zkz pins s σ H Q I (by
 obtain ⟨σd, S, α, p, S', hv, hs, hf, k⟩ := h
 cases hf
 exact k _ _ hs Ext.refl)
theorem zka (he : SE X e fe) : SPt X (some e) (pSome fe) := fun pins s σ H Q I h => zky he pins s σ H Q I (by
 obtain ⟨σd, S, α, p, S', hv, hs, hf, k⟩ := h
 unfold pSome at hf
 simp only [Option.bind_eq_some_iff] at hf
 obtain ⟨⟨d, S1⟩, e1, e2⟩ := hf
 refine ⟨σd, S, α, d, S1, hv, hs, e1, fun v H1 α1 s1 x1 r1 => ?_⟩
 cases r1 with
 | int i => cases e2; exact ⟨i, rfl, k _ _ s1 x1⟩
 | _ => cases e2)
theorem ziP (he : SE X e fe) (hl : SPt X lo fl) (hh : SPt X hi fh) : SE X (.Subscript e (.Slice lo hi none p2) pos) (eSl fe fl fh) := by
 refine PE.imp (zi4 (SlR.or zl1 zkf) he hl hh) fun σ H Q h => ?_
 obtain ⟨σd, S, α, z, S', hv, hs, hf, k⟩ := h
 unfold eSl at hf
 simp only [Option.bind_eq_some_iff] at hf
 obtain ⟨⟨d, S1⟩, e1, ⟨l, S2⟩, e2, ⟨u, S3⟩, e3, e4⟩ := hf
 refine ⟨σd, S, α, d, S1, hv, hs, e1, fun v H1 α1 s1 x1 r1 => ⟨σd, S1, α1, l, S2, hv.mono x1, s1, e2, fun H2 α2 s2 x2 => ⟨σd, S2, α2, u, S3, (hv.mono x1).mono x2, s2, e3, fun H3 α3 s3 x3 => ?_⟩⟩⟩
 have r3 := (r1.mono x2).mono x3
 have k3 := k.trans ((x1.trans x2).trans x3)
 simp only at e4
 cases r3 with
 | tup h r =>
   simp only [gSl] at e4
   split at e4
   · rename_i hc
     cases e4
     refine .inl ⟨_, _, rfl, h, by rw [← r.length]; exact hc, fun p hp => ?_⟩
     exact k3.new s3 (zbm hp) (.tup (SqT.of zaI) ((zgE r).mono (Same.ext (zbm hp))))
   · cases e4
 | @ref n a ha =>
   simp only [gSl] at e4
   have core : ∀ xs, (∃ vs, SqL X.K H3 a vs ∧ Reps X.K H3 α3 xs vs) → some (D.ref S3.length, S3 ++ [O.lst (cutD xs l u)]) = some (z, S') → rSlT X.K (.ref a) l u H3 Q ∨ rSlL X.K (.ref a) l u H3 Q := fun xs ⟨vs, q, r⟩ e => by
     cases e
     refine .inr ⟨_, _, rfl, q, fun p hp => ?_⟩
     obtain ⟨s4, x4⟩ := s3.snoc (p := p) (o := .lst (cutD xs l u)) (u := .lst (cutV vs l u)) hp fun α'' e => ⟨_, zaI, (zgE r).mono e⟩
     exact k3 _ _ _ s4 x4 (.ref (by rw [← s3.len]; simp))
   split at e4
   · rename_i q; exact core _ (zaZ s3 ha (.inl q)) e4
   · rename_i q; exact core _ (zaZ s3 ha (.inr q)) e4
   · cases e4
 | _ => cases e4
end
abbrev GM := D → List D → So → Option (D × So)
def rdM (K : PySem.W.Frag) (g : GM) : V → List V → Hp → VK → Prop := fun v vs H Q => ∃ S α d ds z S', StoreR K H α S ∧ Rep K H α d v ∧ Reps K H α ds vs ∧ g d ds S = some (z, S') ∧ Kt K H α z S' Q
def gAppend : GM
 | .ref n, [d], S => match S[n]? with
   | some (.lst xs) => if xs.length < sizeLine then some (.non, S.set n (.lst (xs ++ [d]))) else none
   | _ => none
 | _, _, _ => none
def eM (g : GM) (fo : EF) (fa : AF) : EF := fun σ S => (fo σ S).bind fun r => match r.1 with
 | .ref n => match r.2[n]? with
   | some (.lst _) => (fa σ r.2).bind fun q => g r.1 q.1 q.2
   | _ => none
 | _ => none
theorem znB {X : Cx} {o e : Expr} {es : List Expr} {fo : EF} {fa : AF} {g : GM} {name : Str} {id : String} {apos cpos : Pos} (slot : Slot "list" name id) (hty : typeOf (.builtin id) = pure (.type "method_descriptor")) (hm : MtR X id (rdM X.K g))
   (ho : SE X o fo) (ha : SA X (e :: es) fa) (hbase : attributeBase o name X.env (eval o X.env) = eval o X.env)
   (hfew : ((backTo cpos (starEach (e :: es) X.env)).all (fun x => !x.1) && (backToKw cpos (keywordEach [] X.env)).all (fun x => x.1.isSome)
     && decide ((e :: es).length + ([] : List Keyword).length + (if ([] : List Keyword).isEmpty then 0 else 1) < 30)) = true)
   (hline : (apos.endLine == cpos.line) = true) (hst : starEach (e :: es) X.env = (false, eval e X.env) :: starEach es X.env) (hplain : (backTo cpos (starEach es X.env)).any (·.1) = false) :
   SE X (.Call (.Attribute o name apos) (e :: es) [] cpos) (eM g fo fa) := by
 refine PE.imp (znS PySem.F.plainAttrs_list slot hty hm ho ha hbase hfew hline hst hplain) fun σ H Q h => ?_
 obtain ⟨σd, S, α, z, S', hv, hs, hf, k⟩ := h
 unfold eM at hf
 simp only [Option.bind_eq_some_iff] at hf
 obtain ⟨⟨d, S1⟩, e1, e2⟩ := hf
 refine ⟨σd, S, α, d, S1, hv, hs, e1, fun v H1 α1 s1 x1 r1 => ?_⟩
 simp only at e2
 split at e2
 · rename_i n
   split at e2
   · rename_i xs q
     simp only [Option.bind_eq_some_iff] at e2
     obtain ⟨⟨ds, S2⟩, e3, e4⟩ := e2
     cases r1 with
     | ref ha =>
       obtain ⟨ws, hw, _⟩ := s1.obj _ _ _ q ha
       refine ⟨.inl ⟨rfl, _, SqL.of hw⟩, σd, S1, α1, ds, S2, hv.mono x1, s1, e3, fun vs H2 α2 s2 x2 r2 => ?_⟩
       exact ⟨S2, α2, _, ds, z, S', s2, .ref (x2.pre _ _ ha), r2, e4, k.trans (x1.trans x2)⟩
   · cases e2
 · cases e2
end MX
end
section
set_option autoImplicit false
namespace MX
open PySem PySem.Spec PyProof.Rows L2
def boolsD : List D → Option (List Bool)
 | [] => some []
 | .bl b :: r => (boolsD r).map (b :: ·)
 | _ :: _ => none
theorem zdB {K : PySem.W.Frag} {H : Hp} {α : List Addr} : ∀ {ds : List D} {vs : List V} {us : List Value} {bs : List Bool}, Reps K H α ds vs → Vals vs us → boolsD ds = some bs → LSm.BoolsAre us bs
 | _, _, _, _, .nil, .nil, e => by cases e; exact .nil
 | _, _, _, _, .cons r rr, .cons rv rvs, e => by
   cases r with
   | bl b =>
     simp only [boolsD, Option.map_eq_some_iff] at e
     obtain ⟨ms, e1, rfl⟩ := e
     cases rv
     exact .cons _ (zdB rr rvs e1)
   | _ => cases e
def gAll : GN
 | [.ref n], S => match S[n]? with
   | some (.lst xs) => (boolsD xs).map fun bs => (.bl (bs.all id), S)
   | _ => none
 | _, _ => none
def gAny : GN
 | [.ref n], S => match S[n]? with
   | some (.lst xs) => (boolsD xs).map fun bs => (.bl (bs.any id), S)
   | _ => none
 | _, _ => none
def gSum : GN
 | [.ref n], S => match S[n]? with
   | some (.lst xs) => (intsD xs).map fun ns => (.int ns.sum, S)
   | _ => none
 | _, _ => none
section
variable {X : Cx}
theorem zhd {prog : Program} {w : World} {A : Around} {E : Value → Shared → Prop} {s : Shared} {l : Addr} {vs : List Value} {bs : List Bool} {Q : Value → Shared → Prop} (hh : A.handled = none) (hl : s.heap.IsList l vs.toArray) (hb : LSm.BoolsAre vs bs)
   (h : ∀ h' tk, (∀ b x, s.heap.get? b = some x → h'.get? b = some x) → Q (.bool (bs.all id)) { s with heap := h', toks := tk }) : wpAny (model prog w) A (call (.builtin "all") [.ref l]) Q E s := by
 have hlt : l < s.heap.objs.size := by obtain ⟨_, e, _⟩ := hl; exact Heap.lt_size e
 refine call_all_walk (wpAny_pyIter_list hl ?_)
 refine ⟨s.heap.objs.size, [s.heap.objs.size, l], [s.heap.objs.size], vs.toArray.size, _, _, fun i => (bs[i]?).getD true, rfl, Walks.list (A := A.in1) hh _ l (Nat.ne_of_lt hlt) vs.toArray,
   ⟨⟨_, Heap.get?_push_size _ rfl, rfl, rfl⟩, hl.push _⟩, fun i v s' Q' E' hP hQ => ?_, fun h' tk hk => ?_⟩
 · obtain ⟨b, e, rfl⟩ := hb.get i v (by simpa using hP)
   simp only [e, Option.getD_some] at hQ
   exact wpAny_truthy_bool hQ
 · have e : ((List.range vs.toArray.size).all fun i => (bs[i]?).getD true) = bs.all id := by
     rw [List.size_toArray, hb.length]; exact LSm.range_all bs
   rw [e]
   exact h h' tk (LSm.kept_iter hk)
theorem zhc {prog : Program} {w : World} {A : Around} {E : Value → Shared → Prop} {s : Shared} {l : Addr} {vs : List Value} {bs : List Bool} {Q : Value → Shared → Prop} (hh : A.handled = none) (hl : s.heap.IsList l vs.toArray) (hb : LSm.BoolsAre vs bs)
   (h : ∀ h' tk, (∀ b x, s.heap.get? b = some x → h'.get? b = some x) → Q (.bool (bs.any id)) { s with heap := h', toks := tk }) : wpAny (model prog w) A (call (.builtin "any") [.ref l]) Q E s := by
 have hlt : l < s.heap.objs.size := by obtain ⟨_, e, _⟩ := hl; exact Heap.lt_size e
 refine call_any_walk (wpAny_pyIter_list hl ?_)
 refine ⟨s.heap.objs.size, [s.heap.objs.size, l], [s.heap.objs.size], vs.toArray.size, _, _, fun i => (bs[i]?).getD false, rfl, Walks.list (A := A.in1) hh _ l (Nat.ne_of_lt hlt) vs.toArray,
   ⟨⟨_, Heap.get?_push_size _ rfl, rfl, rfl⟩, hl.push _⟩, fun i v s' Q' E' hP hQ => ?_, fun h' tk hk => ?_⟩
 · obtain ⟨b, e, rfl⟩ := hb.get i v (by simpa using hP)
   simp only [e, Option.getD_some] at hQ
   exact wpAny_truthy_bool hQ
 · have e : ((List.range vs.toArray.size).any fun i => (bs[i]?).getD false) = bs.any id := by
     rw [List.size_toArray, hb.length]; exact LSm.range_any bs
   rw [e]
   exact h h' tk (LSm.kept_iter hk)
theorem znt (hc : X.calm = true) : CallR X (.builtin "all") (rdC X.K gAll) := by
 intro pins s σ H vs us Q I rv h
 obtain ⟨S, α, ds, z, S', hs, r, hg, k⟩ := h
 unfold gAll at hg
 split at hg
 · obtain ⟨v, rfl, r0⟩ := r.inv1
   cases r0 with
   | @ref n a ha =>
     split at hg
     · rename_i e
       simp only [Option.map_eq_some_iff] at hg
       obtain ⟨bs, e1, e2⟩ := hg
       cases e2
       obtain ⟨ws, q, r⟩ := zaZ hs ha (.inl e)
       obtain ⟨u, rfl, ru⟩ := vals1 rv
       cases ru
       obtain ⟨its, rr, pl, hz⟩ := I.list q
       exact zhd (I.ok.hd hc) pl.isList (zdB r rr e1) fun h' tk hk => ⟨.bl _, H, I.kept hk, rfl, k.same hs (.bl _)⟩
     · cases hg
 · cases hg
theorem zns (hc : X.calm = true) : CallR X (.builtin "any") (rdC X.K gAny) := by
 intro pins s σ H vs us Q I rv h
 obtain ⟨S, α, ds, z, S', hs, r, hg, k⟩ := h
 unfold gAny at hg
 split at hg
 · obtain ⟨v, rfl, r0⟩ := r.inv1
   cases r0 with
   | @ref n a ha =>
     split at hg
     · rename_i e
       simp only [Option.map_eq_some_iff] at hg
       obtain ⟨bs, e1, e2⟩ := hg
       cases e2
       obtain ⟨ws, q, r⟩ := zaZ hs ha (.inl e)
       obtain ⟨u, rfl, ru⟩ := vals1 rv
       cases ru
       obtain ⟨its, rr, pl, hz⟩ := I.list q
       exact zhc (I.ok.hd hc) pl.isList (zdB r rr e1) fun h' tk hk => ⟨.bl _, H, I.kept hk, rfl, k.same hs (.bl _)⟩
     · cases hg
 · cases hg
theorem znn (hc : X.calm = true) : CallR X (.builtin "sum") (rdC X.K gSum) := by
 intro pins s σ H vs us Q I rv h
 obtain ⟨S, α, ds, z, S', hs, r, hg, k⟩ := h
 unfold gSum at hg
 split at hg
 · obtain ⟨v, rfl, r0⟩ := r.inv1
   cases r0 with
   | @ref n a ha =>
     split at hg
     · rename_i e
       simp only [Option.map_eq_some_iff] at hg
       obtain ⟨ns, e1, e2⟩ := hg
       cases e2
       obtain ⟨ws, q, r⟩ := zaZ hs ha (.inl e)
       obtain ⟨u, rfl, ru⟩ := vals1 rv
       cases ru
       obtain ⟨its, rr, pl, hz⟩ := I.list q
       have hi := zb4 r rr e1
       obtain ⟨xs, hx⟩ := hi.allInts.items
       have hl' : s.heap.IsList a (intItems xs) := hx ▸ pl.isList
       refine sum_intListG (I.ok.hd hc) hl' fun h' tk t' hk => ?_
       have e1 : ns = xs.toList.map (·.1) := by
         rw [← nums_intItems, ← hx]
         exact (show numsOf its.toArray.toList = ns by simpa using hi.numsOf).symm
       have e2 : preSum (numAt xs) xs.size = ns.sum := by
         rw [preSum_eq, List.take_of_length_le (by simp), e1]
       rw [e2]
       exact ⟨.int _, H, I.kept hk, ⟨_, rfl⟩, k.same hs (.int _)⟩
     · cases hg
 · cases hg
theorem zg0 {prog : Program} {w : World} {A : Around} {E : Value → Shared → Prop} {s : Shared} {l : Addr} {xs : Array (Int × Tok)} {Q : Value → Shared → Prop} (hh : A.handled = none) (hl : s.heap.IsTuple l (intItems xs)) (hne : 0 < xs.size)
   (h : ∀ v h' tk, (intItems xs)[argBest (fun i j => decide (numAt xs i < numAt xs j)) (xs.size - 1)]? = some v → (∀ b o, s.heap.get? b = some o → h'.get? b = some o) → Q v { s with heap := h', toks := tk }) :
   wpAny (model prog w) A (call (.builtin "min") [.ref l]) Q E s := by
 have hlt : l < s.heap.objs.size := by obtain ⟨_, e, _⟩ := hl; exact Heap.lt_size e
 refine call_min_walk (wpAny_pyIter_tuple hl ?_)
 refine ⟨_, [s.heap.objs.size, l], [s.heap.objs.size], _, _, _, _, rfl, Walks.tuple (A := A.in1) hh _ l (Nat.ne_of_lt hlt) (intItems xs),
   ⟨⟨_, Heap.get?_push_size _ rfl, rfl, rfl⟩, hl.push _⟩, fun c hc => ?_, by simpa [intItems] using hne, CmpOf.ints_lt (numAt xs) (fun _ _ => intItems_at), fun v h' tk hP hk => ?_⟩
 · show c < (s.heap.push _).objs.size
   rw [Heap.size_push]
   rcases List.mem_cons.mp hc with rfl | hc
   · exact Nat.lt_succ_self _
   · rcases List.mem_cons.mp hc with rfl | hc
     · exact Nat.lt_succ_of_lt hlt
     · cases hc
 · exact h v h' tk (by simpa [intItems] using hP) (LSm.kept_iter hk)
theorem zg1 {prog : Program} {w : World} {A : Around} {E : Value → Shared → Prop} {s : Shared} {l : Addr} {xs : Array (Int × Tok)} {Q : Value → Shared → Prop} (hh : A.handled = none) (hl : s.heap.IsTuple l (intItems xs)) (hne : 0 < xs.size)
   (h : ∀ v h' tk, (intItems xs)[argBest (fun i j => decide (numAt xs i > numAt xs j)) (xs.size - 1)]? = some v → (∀ b o, s.heap.get? b = some o → h'.get? b = some o) → Q v { s with heap := h', toks := tk }) :
   wpAny (model prog w) A (call (.builtin "max") [.ref l]) Q E s := by
 have hlt : l < s.heap.objs.size := by obtain ⟨_, e, _⟩ := hl; exact Heap.lt_size e
 refine call_max_walk (wpAny_pyIter_tuple hl ?_)
 refine ⟨_, [s.heap.objs.size, l], [s.heap.objs.size], _, _, _, _, rfl, Walks.tuple (A := A.in1) hh _ l (Nat.ne_of_lt hlt) (intItems xs),
   ⟨⟨_, Heap.get?_push_size _ rfl, rfl, rfl⟩, hl.push _⟩, fun c hc => ?_, by simpa [intItems] using hne, CmpOf.ints_gt (numAt xs) (fun _ _ => intItems_at), fun v h' tk hP hk => ?_⟩
 · show c < (s.heap.push _).objs.size
   rw [Heap.size_push]
   rcases List.mem_cons.mp hc with rfl | hc
   · exact Nat.lt_succ_self _
   · rcases List.mem_cons.mp hc with rfl | hc
     · exact Nat.lt_succ_of_lt hlt
     · cases hc
 · exact h v h' tk (by simpa [intItems] using hP) (LSm.kept_iter hk)
def gMin' : GN
 | [.tup xs], S => (intsD xs).bind fun ns => (minI ns).map fun m => (.int m, S)
 | ds, S => gMin ds S
def gMax' : GN
 | [.tup xs], S => (intsD xs).bind fun ns => (maxI ns).map fun m => (.int m, S)
 | ds, S => gMax ds S
theorem zlz (hc : X.calm = true) : CallR X (.builtin "min") (rdC X.K gMin') := by
 intro pins s σ H vs us Q I rv h
 obtain ⟨S, α, ds, z, S', hs, r, hg, k⟩ := h
 unfold gMin' at hg
 split at hg
 · obtain ⟨v, rfl, r0⟩ := r.inv1
   cases r0 with
   | @tup a ds vs q r1 =>
     simp only [Option.bind_eq_some_iff, Option.map_eq_some_iff] at hg
     obtain ⟨ns, e1, m, e2, e3⟩ := hg
     cases e3
     obtain ⟨u, rfl, ru⟩ := vals1 rv
     cases ru
     obtain ⟨its, rr, pl, hz⟩ := I.tuple q
     have hi := zb4 r1 rr e1
     have hne : 0 < ns.length := by
       cases ns with
       | nil => cases e2
       | cons _ _ => simp
     obtain ⟨xs, hxs⟩ := hi.allInts.items
     have hn := hi.numsOf
     have hnn : numsOf (intItems xs).toList = ns := by rw [← hxs]; simpa using hn
     rw [nums_intItems] at hnn
     have hsz : 0 < xs.size := by
       have := congrArg List.length hnn
       simp at this; omega
     have hl' : s.heap.IsTuple a (intItems xs) := by rw [← hxs]; exact pl
     refine zg0 (I.ok.hd hc) hl' hsz fun v h' tk hv hk => ?_
     obtain ⟨t, rfl⟩ := intItems_at hv
     obtain ⟨h1, h2⟩ := argBest_lt (numAt xs) (xs.size - 1)
     have hm : minI ns = some (numAt xs (argBest (fun i j => decide (numAt xs i < numAt xs j)) (xs.size - 1))) := by
       refine zhK ?_ fun b hb => ?_
       · rw [← hnn, numAt_eq]; exact getD_mem (by rw [List.length_map, Array.length_toList]; omega)
       · rw [← hnn] at hb
         obtain ⟨j, hj, rfl⟩ := mem_getD hb
         rw [List.length_map, Array.length_toList] at hj
         rw [← numAt_eq]; exact h2 j (by omega)
     rw [e2] at hm; cases hm
     exact ⟨.int _, H, I.kept hk, ⟨t, rfl⟩, k.same hs (.int _)⟩
 · exact zno hc pins s σ H vs us Q I rv ⟨S, α, _, z, S', hs, r, hg, k⟩
theorem zlA (hc : X.calm = true) : CallR X (.builtin "max") (rdC X.K gMax') := by
 intro pins s σ H vs us Q I rv h
 obtain ⟨S, α, ds, z, S', hs, r, hg, k⟩ := h
 unfold gMax' at hg
 split at hg
 · obtain ⟨v, rfl, r0⟩ := r.inv1
   cases r0 with
   | @tup a ds vs q r1 =>
     simp only [Option.bind_eq_some_iff, Option.map_eq_some_iff] at hg
     obtain ⟨ns, e1, m, e2, e3⟩ := hg
     cases e3
     obtain ⟨u, rfl, ru⟩ := vals1 rv
     cases ru
     obtain ⟨its, rr, pl, hz⟩ := I.tuple q
     have hi := zb4 r1 rr e1
     have hne : 0 < ns.length := by
       cases ns with
       | nil => cases e2
       | cons _ _ => simp
     obtain ⟨xs, hxs⟩ := hi.allInts.items
     have hn := hi.numsOf
     have hnn : numsOf (intItems xs).toList = ns := by rw [← hxs]; simpa using hn
     rw [nums_intItems] at hnn
     have hsz : 0 < xs.size := by
       have := congrArg List.length hnn
       simp at this; omega
     have hl' : s.heap.IsTuple a (intItems xs) := by rw [← hxs]; exact pl
     refine zg1 (I.ok.hd hc) hl' hsz fun v h' tk hv hk => ?_
     obtain ⟨t, rfl⟩ := intItems_at hv
     obtain ⟨h1, h2⟩ := argBest_gt (numAt xs) (xs.size - 1)
     have hm : maxI ns = some (numAt xs (argBest (fun i j => decide (numAt xs i > numAt xs j)) (xs.size - 1))) := by
       refine zhM ?_ fun b hb => ?_
       · rw [← hnn, numAt_eq]; exact getD_mem (by rw [List.length_map, Array.length_toList]; omega)
       · rw [← hnn] at hb
         obtain ⟨j, hj, rfl⟩ := mem_getD hb
         rw [List.length_map, Array.length_toList] at hj
         rw [← numAt_eq]; exact h2 j (by omega)
     rw [e2] at hm; cases hm
     exact ⟨.int _, H, I.kept hk, ⟨t, rfl⟩, k.same hs (.int _)⟩
 · exact znp hc pins s σ H vs us Q I rv ⟨S, α, _, z, S', hs, r, hg, k⟩
end
end MX
end
section
set_option autoImplicit false
namespace MX
open PySem PySem.Spec PyProof.Rows L2
def gSet : D → D → D → So → Option So
 | .ref n, .int i, d, S => match S[n]? with
   | some (.lst xs) => (ixN xs.length i).map fun j => S.set n (.lst (xs.set j d))
   | _ => none
 | .ref n, .tup ks, .int j, S => match S[n]? with
   | some (.dct xs) => if xs.length < sizeLine then (nkRows ks).map fun k => S.set n (.dct (putN xs k j)) else none
   | _ => none
 | _, _, _, _ => none
def gSt (fo fi : EF) : GF := fun d σ S => (fo σ S).bind fun r => (fi σ r.2).bind fun q => (gSet r.1 q.1 d q.2).map fun S' => (σ, S')
theorem zl4 {X : Cx} (hu : X.A.units + 64 < cLine) {o i : Expr} {fo fi : EF} {pos : Pos} (ho : SE X o fo) (hi : SE X i fi)
   (ha : ∀ v, assign (.Subscript o i pos) X.env v = (do
     let ov ← holding [v] (eval o X.env)
     let iv ← holding [v, ov] (eval i X.env)
     standAt pos
     holding [v, ov, iv] (setItem ov iv v)
     release [v, ov, iv] [])) : SG X (.Subscript o i pos) (gSt fo fi) := by
 refine PG.imp (zmx ho hi (PSet.or ziN (ziO hu)) ha) fun v σ H Q h => ?_
 obtain ⟨σd, S, α, d, σd', S', hv, hs, r, hf, k⟩ := h
 unfold gSt at hf
 simp only [Option.bind_eq_some_iff, Option.map_eq_some_iff] at hf
 obtain ⟨⟨x, S1⟩, e1, ⟨y, S2⟩, e2, S3, e3, e4⟩ := hf
 cases e4
 refine ⟨σd, S, α, x, S1, hv, hs, e1, fun ov H1 α1 s1 x1 r1 => ⟨σd, S1, α1, y, S2, hv.mono x1, s1, e2, fun iv H2 α2 s2 x2 r2 => ?_⟩⟩
 have r1' := r1.mono x2
 have rd := (r.mono x1).mono x2
 simp only at e3
 unfold gSet at e3
 split at e3
 · rename_i n j d
   cases r1' with
   | ref ha =>
     cases r2
     split at e3
     · rename_i xs e
       simp only [Option.map_eq_some_iff] at e3
       obtain ⟨jj, e5, rfl⟩ := e3
       obtain ⟨ws, q, rr⟩ := s2.obj _ _ _ e ha
       refine .inl ⟨_, ws, _, jj, rfl, rfl, q, by rw [← rr.length]; exact e5, ?_⟩
       obtain ⟨s3, x3⟩ := s2.put (o := .lst (xs.set jj _)) (u := .lst (ws.set jj v)) e rfl rfl ha q (.inl ⟨_, rfl⟩) fun x => ⟨_, zaI, (Reps.set rd jj rr).mono x⟩
       exact k _ _ _ (((hv.mono x1).mono x2).mono x3) s3 ((x1.trans x2).trans x3)
     · cases e3
 · rename_i n ks j
   cases r1' with
   | ref ha =>
     cases rd
     split at e3
     · rename_i xs e
       split at e3
       · rename_i hlt
         simp only [Option.map_eq_some_iff] at e3
         obtain ⟨kk, e5, rfl⟩ := e3
         obtain ⟨ys, q, rr⟩ := s2.obj _ _ _ e ha
         obtain ⟨b, rfl, hb⟩ := zgt (show nkOf (.tup ks) = some kk from e5) r2
         refine .inr ⟨_, b, kk, ys, j, rfl, rfl, rfl, q, rr.keys, hb, by rw [← rr.length]; exact hlt, fun t => ?_⟩
         obtain ⟨s3, x3⟩ := s2.put (o := .dct (putN xs kk j)) (u := dctO _ (storedH ys kk b (.int j t))) e rfl rfl ha q (.inr ⟨_, rfl⟩) fun x => ⟨_, zaI, (rr.put hb).mono x.tups⟩
         exact k _ _ _ (((hv.mono x1).mono x2).mono x3) s3 ((x1.trans x2).trans x3)
       · cases e3
     · cases e3
 · cases e3
def eM0 (g : GM) (fo : EF) : EF := fun σ S => (fo σ S).bind fun r => match r.1 with
 | .ref n => match r.2[n]? with
   | some (.lst _) => g r.1 [] r.2
   | _ => none
 | _ => none
theorem zmc {X : Cx} {o : Expr} {fo : EF} {g : GM} {name : Str} {id : String} {apos cpos : Pos} (slot : Slot "list" name id) (hty : typeOf (.builtin id) = pure (.type "method_descriptor")) (hm : MtR X id (rdM X.K g))
   (ho : SE X o fo) (hbase : attributeBase o name X.env (eval o X.env) = eval o X.env) (hline : (apos.endLine == cpos.line) = true) :
   SE X (.Call (.Attribute o name apos) [] [] cpos) (eM0 g fo) := by
 refine PE.imp (zmG PySem.F.plainAttrs_list slot hty hm ho hbase hline) fun σ H Q h => ?_
 obtain ⟨σd, S, α, z, S', hv, hs, hf, k⟩ := h
 unfold eM0 at hf
 simp only [Option.bind_eq_some_iff] at hf
 obtain ⟨⟨d, S1⟩, e1, e2⟩ := hf
 refine ⟨σd, S, α, d, S1, hv, hs, e1, fun v H1 α1 s1 x1 r1 => ?_⟩
 simp only at e2
 split at e2
 · rename_i n
   split at e2
   · rename_i xs q
     cases r1 with
     | ref ha =>
       obtain ⟨ws, hw, _⟩ := s1.obj _ _ _ q ha
       exact ⟨.inl ⟨rfl, _, SqL.of hw⟩, S1, α1, _, [], z, S', s1, .ref ha, .nil, e2, k.trans x1⟩
   · cases e2
 · cases e2
end MX
end
section
set_option autoImplicit false
namespace MX
open PySem PySem.Spec PyProof.Rows L2
def eDct : EF := fun _ S => some (.ref S.length, S ++ [.dct []])
theorem zmg {X : Cx} {pos : Pos} : SE X (.Dict [] [] pos) eDct := by
 refine PE.imp zi6 fun σ H Q h => ?_
 obtain ⟨σd, S, α, z, S', hv, hs, hf, k⟩ := h
 cases hf
 intro p hp
 obtain ⟨s', e'⟩ := hs.snoc (p := p) (o := .dct []) (u := dctO p []) hp fun α' e => ⟨[], zaI, .nil⟩
 exact k _ _ _ s' e' (.ref (by rw [← hs.len]; simp))
def gDGet : GM
 | .ref n, [k, .int i], S => match S[n]? with
   | some (.dct xs) => (nkOf k).map fun kk => (.int ((getO xs kk).getD i), S)
   | _ => none
 | _, _, _ => none
theorem zmV {X : Cx} (hu : X.A.units + 64 < cLine) : MtR X "dict.get" (rdM X.K gDGet) := by
 intro pins s σ H x xs v us Q I r rs h
 obtain ⟨S, α, d, ds, z, S', hs, r1, r2, hg, k⟩ := h
 refine zmU hu pins s σ H x xs v us Q I r rs ?_
 unfold gDGet at hg
 split at hg
 · rename_i n kd i
   cases r1 with
   | ref ha =>
     split at hg
     · rename_i xs' e
       simp only [Option.map_eq_some_iff] at hg
       obtain ⟨kk, e1, hg⟩ := hg
       cases hg
       obtain ⟨ys, q, rr⟩ := hs.obj _ _ _ e ha
       cases r2 with
       | cons c1 r3 =>
         obtain ⟨b, rfl, hb⟩ := zgt e1 c1
         cases r3 with
         | cons c2 r4 =>
           cases c2
           cases r4
           refine ⟨_, b, kk, ys, i, _, rfl, rfl, q, rr.keys, hb, ?_, k.same hs (.int _)⟩
           rcases rr.at kk with ⟨a1, a2⟩ | ⟨b', j, t, a1, a2⟩
           · exact .inl ⟨a1, by rw [a2]; rfl⟩
           · exact .inr ⟨b', t, by rw [a1, a2]; rfl⟩
     · cases hg
 · cases hg
def eDM (g : GM) (fo : EF) (fa : AF) : EF := fun σ S => (fo σ S).bind fun r => match r.1 with
 | .ref n => match r.2[n]? with
   | some (.dct _) => (fa σ r.2).bind fun q => g r.1 q.1 q.2
   | _ => none
 | _ => none
theorem zkk {X : Cx} (hu : X.A.units + 64 < cLine) {o e : Expr} {es : List Expr} {fo : EF} {fa : AF} {apos cpos : Pos}
   (ho : SE X o fo) (ha : SA X (e :: es) fa) (hbase : attributeBase o "get" X.env (eval o X.env) = eval o X.env)
   (hfew : ((backTo cpos (starEach (e :: es) X.env)).all (fun x => !x.1) && (backToKw cpos (keywordEach [] X.env)).all (fun x => x.1.isSome)
     && decide ((e :: es).length + ([] : List Keyword).length + (if ([] : List Keyword).isEmpty then 0 else 1) < 30)) = true)
   (hline : (apos.endLine == cpos.line) = true) (hst : starEach (e :: es) X.env = (false, eval e X.env) :: starEach es X.env) (hplain : (backTo cpos (starEach es X.env)).any (·.1) = false) :
   SE X (.Call (.Attribute o "get" apos) (e :: es) [] cpos) (eDM gDGet fo fa) := by
 refine PE.imp (znR PySem.F.slot_dict_get PySem.F.type_dict_get (zmV hu) ho ha hbase hfew hline hst hplain) fun σ H Q h => ?_
 obtain ⟨σd, S, α, z, S', hv, hs, hf, k⟩ := h
 unfold eDM at hf
 simp only [Option.bind_eq_some_iff] at hf
 obtain ⟨⟨d, S1⟩, e1, e2⟩ := hf
 refine ⟨σd, S, α, d, S1, hv, hs, e1, fun v H1 α1 s1 x1 r1 => ?_⟩
 simp only at e2
 split at e2
 · rename_i n
   split at e2
   · rename_i xs q
     simp only [Option.bind_eq_some_iff] at e2
     obtain ⟨⟨ds, S2⟩, e3, e4⟩ := e2
     cases r1 with
     | ref ha =>
       obtain ⟨ys, hw, _⟩ := s1.obj _ _ _ q ha
       refine ⟨⟨_, _, rfl, hw⟩, σd, S1, α1, ds, S2, hv.mono x1, s1, e3, fun vs H2 α2 s2 x2 r2 => ?_⟩
       exact ⟨S2, α2, _, ds, z, S', s2, .ref (x2.pre _ _ ha), r2, e4, k.trans (x1.trans x2)⟩
   · cases e2
 · cases e2
def iItems (fo : EF) : IF := fun σ S => (fo σ S).bind fun r => match r.1 with
 | .ref n => match r.2[n]? with
   | some (.dct xs) => some (.itm n xs.length, r.2)
   | _ => none
 | _ => none
theorem zla {K : PySem.W.Frag} {H : Hp} {α : List Addr} {a : Addr} {n m : Nat} (h : α[n]? = some a) : ItR K H α (.itm n m) (ItN a m) := fun i H1 α1 S1 x1 s1 => by
 have h1 := x1.pre _ _ h
 unfold nxD
 cases hm : S1[n]? with
 | none => simp only [hm]; exact ⟨fun e => (nomatch e), fun d e => (nomatch e)⟩
 | some o =>
   have hob := s1.obj _ _ _ hm h1
   cases o with
   | dct xs =>
     obtain ⟨ys, q, r⟩ := hob
     simp only [hm]
     by_cases hl : xs.length = m
     · rw [if_pos hl]
       refine ⟨fun e => ?_, fun d e => ?_⟩
       · have e' : xs[i]? = none := by simpa using e
         exact ⟨ys, q, by rw [← r.length, hl], by rw [← hl]; exact List.getElem?_eq_none_iff.mp e'⟩
       · have e' : (xs[i]?).map (fun x => D.tup [kD x.1, .int x.2]) = some d := by simpa using e
         simp only [Option.map_eq_some_iff] at e'
         obtain ⟨x, e2, rfl⟩ := e'
         obtain ⟨b, t, e3, hb⟩ := r.get e2
         refine ⟨⟨ys, _, x.2, t, q, by rw [← r.length, hl], e3, rfl⟩, fun v H' y => ?_⟩
         obtain ⟨p, row, rfl, hp, rfl, hy⟩ := y
         have er := hy ys q
         rw [e3] at er
         have er' : row = [.ref b, .int x.2] := (Option.some.inj er).symm
         subst er'
         have sm := zbm (o := .tup [.ref b, .int x.2]) hp
         exact ⟨sm, .tup (SqT.of zaI) (.cons ((zi9 hb).mono (Same.ext (α := α1) sm)) (.cons (.int _) .nil))⟩
     · rw [if_neg hl]; exact ⟨fun e => (nomatch e), fun d e => (nomatch e)⟩
   | _ => simp only [hm]; exact ⟨fun e => (nomatch e), fun d e => (nomatch e)⟩
theorem ziL {X : Cx} {es : List Expr} {kk : Nat} {tp apos cpos : Pos} {o : Expr} {fo : EF} (ho : SE X o fo) (hbase : attributeBase o "items" X.env (eval o X.env) = eval o X.env) (hline : (apos.endLine == cpos.line) = true) :
   SI X (.Tuple es kk tp) (.Call (.Attribute o "items" apos) [] [] cpos) (iItems fo) := by
 refine PI.imp (zi2 ho hbase hline) fun σ H R h => ?_
 obtain ⟨σd, S, α, j, S', hv, hs, hf, k⟩ := h
 unfold iItems at hf
 simp only [Option.bind_eq_some_iff] at hf
 obtain ⟨⟨d, S1⟩, e1, e2⟩ := hf
 refine ⟨σd, S, α, d, S1, hv, hs, e1, fun v H1 α1 s1 x1 r1 => ?_⟩
 simp only at e2
 split at e2
 · rename_i n
   split at e2
   · rename_i xs q
     cases e2
     cases r1 with
     | ref ha =>
       obtain ⟨ys, hw, rr⟩ := s1.obj _ _ _ q ha
       exact ⟨_, ys, rfl, hw, k _ _ _ s1 x1 (by rw [← rr.length]; exact zla ha)⟩
   · cases e2
 · cases e2
def gInt : GN
 | [.bl b], S => some (.int (if b then 1 else 0), S)
 | _, _ => none
theorem znm {X : Cx} : CallR X (.type "int") (rdC X.K gInt) := by
 intro pins s σ H xs us Q I r h
 obtain ⟨S, α, ds, z, S', hs, r2, hg, k⟩ := h
 refine zir pins s σ H xs us Q I r ?_
 unfold gInt at hg
 split at hg
 · cases hg
   cases r2 with
   | cons c1 r3 =>
     cases c1
     cases r3
     exact .inr ⟨_, rfl, k.same hs (.int _)⟩
 · cases hg
end MX
end
section
set_option autoImplicit false
namespace MX
open PySem PySem.Spec PyProof.Rows L2
def starF : Expr → Bool
 | .Starred _ _ => true
 | _ => false
theorem swapped3 {x y z : Str} {px py pz pt pt2 : Pos} {kt k2 : Nat} {a b d : Expr} {env : Env} (hk : env.scope.kind = .function) (hx : env.scope.names.lookup x = some .local) (hy : env.scope.names.lookup y = some .local) (hz : env.scope.names.lookup z = some .local)
   (l1 : py.line = px.line) (l2 : pz.line = px.line) (xy : x ≠ y) (xz : x ≠ z) (yz : y ≠ z) (s1 : starF a = false) (s2 : starF b = false) (s3 : starF d = false) (f : [a, b, d].all (foldedForSure 8) = false) (g : [a, b, d].all (constantsAlone 8) = false) :
   swappedStores [.Tuple [.Name x px, .Name y py, .Name z pz] kt pt] (.Tuple [a, b, d] k2 pt2) env = pure (some [x, y, z]) := by
 have hb : env.blockKind = .function := by unfold Env.blockKind; rw [hk]; rfl
 have kx : env.kindOf x = some .local := hx
 have ky : env.kindOf y = some .local := hy
 have kz : env.kindOf z = some .local := hz
 have hst : ([a, b, d].any fun | .Starred .. => true | _ => false) = false := by
   have e : ∀ e : Expr, starF e = false → (match e with | .Starred .. => true | _ => false) = false := fun e h => by cases e <;> first | rfl | cases h
   simp only [List.any_cons, List.any_nil, e a s1, e b s2, e d s3, Bool.or_false]
 have hln : ∀ e : Pos, (Expr.Name x e).pos = e := fun e => rfl
 have hnm : ([Expr.Name x px, Expr.Name y py, Expr.Name z pz].filterMap fun
     | .Name id pos => if env.kindOf id == some .local && pos.line == px.line then some id else none
     | _ => none) = [x, y, z] := by
   simp only [List.filterMap_cons, List.filterMap_nil, kx, ky, kz, l1, l2, beq_self_eq_true, Bool.and_self, if_true]
 have hed : [x, y, z].eraseDups.length = 3 := by
   have q1 : (y == x) = false := by simpa using Ne.symm xy
   have q2 : (z == x) = false := by simpa using Ne.symm xz
   have q3 : (z == y) = false := by simpa using Ne.symm yz
   simp [List.eraseDups_cons, q1, q2, q3, xy, xz, yz, Ne.symm xy, Ne.symm xz, Ne.symm yz]
 have nn : ∀ l : List Str, l = [x, y, z] → ¬ ((l.length != 0 + 1 + 1 + 1 || l.eraseDups.length != l.length) = true) := fun l e => by
   subst e
   rw [hed]
   exact (by decide : ¬ ((3 != 3 || 3 != 3) = true))
 unfold swappedStores
 simp only [List.length_cons, List.length_nil, hb, List.head?_cons, Option.map_some, Option.getD_some, hln, f, g]
 rw [if_neg (by decide)]
 refine (if_neg (fun h => Bool.noConfusion (hst.symm.trans h))).trans ?_
 refine (if_neg (nn _ hnm)).trans ?_
 rw [if_neg (by decide), if_neg (by decide)]
 exact congrArg (fun l => (pure (some l) : Sem (Option (List Str)))) hnm
theorem zgP {x y z : Str} {px py pz pt pt2 : Pos} {kt k2 : Nat} {vs : List Expr} {env : Env} (h : ¬ (env.scope.names.lookup x = some .local ∧ env.scope.names.lookup y = some .local ∧ env.scope.names.lookup z = some .local)) :
   swappedStores [.Tuple [.Name x px, .Name y py, .Name z pz] kt pt] (.Tuple vs k2 pt2) env = pure none := by
 have hb : ∀ (l : Nat) (w : Str) (p : Pos), (if env.kindOf w == some .local && p.line == l then some w else none) = some w → env.scope.names.lookup w = some .local := fun l w p e => by
   by_cases q : (env.kindOf w == some .local && p.line == l) = true
   · exact eq_of_beq (Bool.and_eq_true_iff.mp q).1
   · rw [if_neg q] at e; cases e
 have hl : ∀ l : Nat, (([Expr.Name x px, Expr.Name y py, Expr.Name z pz].filterMap fun
     | .Name id pos => if env.kindOf id == some .local && pos.line == l then some id else none
     | _ => none).length != 0 + 1 + 1 + 1) = true := fun l => by
   simp only [List.filterMap_cons, List.filterMap_nil]
   by_cases hx : (env.kindOf x == some .local && px.line == l) = true
   · by_cases hy : (env.kindOf y == some .local && py.line == l) = true
     · by_cases hz : (env.kindOf z == some .local && pz.line == l) = true
       · exact absurd ⟨eq_of_beq (Bool.and_eq_true_iff.mp hx).1, eq_of_beq (Bool.and_eq_true_iff.mp hy).1, eq_of_beq (Bool.and_eq_true_iff.mp hz).1⟩ h
       · rw [if_pos hx, if_pos hy, if_neg hz]; rfl
     · by_cases hz : (env.kindOf z == some .local && pz.line == l) = true
       · rw [if_pos hx, if_neg hy, if_pos hz]; rfl
       · rw [if_pos hx, if_neg hy, if_neg hz]; rfl
   · by_cases hy : (env.kindOf y == some .local && py.line == l) = true
     · by_cases hz : (env.kindOf z == some .local && pz.line == l) = true
       · rw [if_neg hx, if_pos hy, if_pos hz]; rfl
       · rw [if_neg hx, if_pos hy, if_neg hz]; rfl
     · by_cases hz : (env.kindOf z == some .local && pz.line == l) = true
       · rw [if_neg hx, if_neg hy, if_pos hz]; rfl
       · rw [if_neg hx, if_neg hy, if_neg hz]; rfl
 unfold swappedStores
 simp only [List.length_cons, List.length_nil, List.head?_cons, Option.map_some, Option.getD_some]
 split
 · rfl
 · split
   · rfl
   · refine (if_pos ?_).trans rfl
     exact Bool.or_eq_true_iff.mpr (.inl (hl _))
def tPar3 (i j k : Nat) (ta : TA) : TS := fun D σ H => ta σ H fun vs H1 => ∃ u v w, vs = [u, v, w] ∧ D.nx (((σ.set i (some u)).set j (some v)).set k (some w)) H1
section
variable {X : Cx} {pos : Pos}
theorem zkw {i j k : Nat} {x y z : Str} {a b d : Expr} {ta : TA} {px py pz pt : Pos} {kt k2 pt2} (hc : X.calm = true) (hN : X.N.Nodup) (hi : X.N[i]? = some x) (hj : X.N[j]? = some y) (hk : X.N[k]? = some z) (hij : i ≠ j) (hik : i ≠ k) (hjk : j ≠ k)
   (hx : X.env.scope.names.lookup x = some .local) (hy : X.env.scope.names.lookup y = some .local) (hz : X.env.scope.names.lookup z = some .local) (ha : PA X [a, b, d] ta)
   (hw : swappedStores [.Tuple [.Name x px, .Name y py, .Name z pz] kt pt] (.Tuple [a, b, d] k2 pt2) X.env = pure (some [x, y, z]))
   (hs : swapsWithSole [.Tuple [.Name x px, .Name y py, .Name z pz] kt pt] (.Tuple [a, b, d] k2 pt2) pos.line X.env = pure false := by rfl) :
   PS X (.Assign [.Tuple [.Name x px, .Name y py, .Name z pz] kt pt] (.Tuple [a, b, d] k2 pt2) pos) (tPar3 i j k ta) := by
 intro pins s σ H D I h
 rw [exec_Assign_arm]
 refine wpAny_bind (wpAny_standAt ?_)
 rw [hs]
 refine wpAny_bind (wpAny_pure ?_)
 rw [if_neg (by decide)]
 refine wpAny_bind (Tuple_ (thn (ha _ pins s σ H _ I h) fun us s1 ⟨vs, H1, I1, r1, q1⟩ => ?_))
 obtain ⟨u, v, w, e1, q1⟩ := q1
 subst e1
 obtain ⟨u1, u2, u3, rfl, ru, rv, rw'⟩ : ∃ u1 u2 u3, us = [u1, u2, u3] ∧ RelV u u1 ∧ RelV v u2 ∧ RelV w u3 := by
   cases r1 with
   | cons p q => cases q with
     | cons p' q' => cases q' with
       | cons p'' q'' =>
         cases q''
         exact ⟨_, _, _, rfl, p, p', p''⟩
 refine wpAny_newObj_type ?_ (by show 3 ≤ sizeLine; decide)
 have I2 : Inv X pins σ H1 { s1 with heap := s1.heap.push { cls := .type "tuple", data := .seq [u1, u2, u3].toArray } } := I1.kept (t' := s1.toks) fun b o e => Heap.get?_push_of_some _ e
 rw [hw]
 refine wpAny_bind (wpAny_pure ?_)
 show wpAny (model X.prog X.w) X.A (do rule "assign.swapped-stores"; let items ← unpackItems (.ref s1.heap.objs.size) 3 none; assignInOrder [fun v => bindName X.env z v, fun v => bindName X.env y v, fun v => bindName X.env x v] items.reverse; pure Flow.next) _ _ _
 refine wpAny_bind (wpAny_rule (wpAny_bind (unpackItems_tuple (items := #[u1, u2, u3]) (I.ok.hd hc) (IsTup.new s1.heap _) fun h' hx' => ?_)))
 have I3 := I2.kept (h' := h') (t' := s1.toks) fun b o e => hx' b o (Nat.ne_of_lt (Heap.lt_size e)) e
 show wpAny _ _ (assignInOrder [fun v => bindName X.env z v, fun v => bindName X.env y v, fun v => bindName X.env x v] [u3, u2, u1] >>= fun _ => pure Flow.next) _ _ _
 refine wpAny_bind (assignInOrder_cons (wpAny_bindName (zcD I3 hN hk (.inl hz) rw' (fun s2 I4 => ?_) (.inr hz))))
 refine assignInOrder_cons (wpAny_bindName (zcD I4 hN hj (.inl hy) rv (fun s3 I5 => ?_) (.inr hy)))
 refine assignInOrder_cons (wpAny_bindName (zcD I5 hN hi (.inl hx) ru (fun s4 I6 => assignInOrder_nil (wpAny_pure ?_)) (.inr hx)))
 have e : ((σ.set k (some w)).set j (some v)).set i (some u) = ((σ.set i (some u)).set j (some v)).set k (some w) := by
   rw [List.set_comm _ _ (Ne.symm hjk), List.set_comm _ _ (Ne.symm hik), List.set_comm _ _ (Ne.symm hij)]
 rw [e] at I6
 exact ⟨_, H1, I6, q1⟩
theorem zj7 {i j k : Nat} {x y z : Str} {a b d : Expr} {fa : AF} {px py pz pt : Pos} {kt k2 pt2} (hc : X.calm = true) (hN : X.N.Nodup) (hi : X.N[i]? = some x) (hj : X.N[j]? = some y) (hk : X.N[k]? = some z) (hij : i ≠ j) (hik : i ≠ k) (hjk : j ≠ k)
   (hx : X.env.scope.names.lookup x = some .local) (hy : X.env.scope.names.lookup y = some .local) (hz : X.env.scope.names.lookup z = some .local) (ha : SA X [a, b, d] fa)
   (hw : swappedStores [.Tuple [.Name x px, .Name y py, .Name z pz] kt pt] (.Tuple [a, b, d] k2 pt2) X.env = pure (some [x, y, z])) :
   SS X (.Assign [.Tuple [.Name x px, .Name y py, .Name z pz] kt pt] (.Tuple [a, b, d] k2 pt2) pos) (sAsg (eN gTup fa) (gTp 3 (gsCons (gNm i) (gsCons (gNm j) (gsCons (gNm k) gsNil))))) := by
 refine PS.imp (zkw hc hN hi hj hk hij hik hjk hx hy hz ha hw) fun D σ H h => ?_
 obtain ⟨σd, S, α, fl, σd', S', hv, hs, hf, kk⟩ := h
 unfold sAsg eN at hf
 simp only [Option.bind_eq_some_iff, Option.map_eq_some_iff] at hf
 obtain ⟨⟨t, S2⟩, ⟨⟨ds, S1⟩, e1, e2⟩, ⟨σ1, S3⟩, e3, e4⟩ := hf
 cases e4
 unfold gTup at e2
 split at e2
 · cases e2
   simp only [gTp] at e3
   split at e3
   · rename_i hl
     obtain ⟨d1, d2, d3, rfl⟩ : ∃ d1 d2 d3, ds = [d1, d2, d3] := by
       match ds, hl with
       | [d1, d2, d3], _ => exact ⟨d1, d2, d3, rfl⟩
     simp only [gsCons, gsNil, gNm, Option.bind_some, Option.some.injEq, Prod.mk.injEq] at e3
     obtain ⟨rfl, rfl⟩ := e3
     refine ⟨σd, S, α, _, _, hv, hs, e1, fun vs H1 α1 s1 x1 r1 => ?_⟩
     cases r1 with
     | cons p q => cases q with
       | cons p' q' => cases q' with
         | cons p'' q'' =>
           cases q''
           exact ⟨_, _, _, rfl, kk _ _ _ ((((hv.mono x1).set p i).set p' j).set p'' k) s1 x1⟩
   · cases e3
 · cases e2
end
end MX
end
section
set_option autoImplicit false
namespace MX
open PySem PySem.Spec PySem.W PyProof.Rows L2
section
variable {X : Cx} {x : Str} {p pos : Pos} {e : Expr} {es : List Expr} {t : TA}
structure Tups (H H' : Hp) : Prop where
 tups : ∀ b xs, H b = some (.tup xs) → H' b = some (.tup xs)
 tbls : ∀ b ps, H b = some (.tbl ps) → ∃ more, H' b = some (.tbl (ps ++ more))
 frzs : ∀ b o u, H b = some (.frz o u) → H' b = some (.frz o u)
end
end MX
end
section
set_option autoImplicit false
namespace MX
open PySem PySem.Spec PySem.W PyProof.Rows L2
def BM (h : Heap) (mg : Str → Option Value) : Prop := ∃ bm o, mg "__builtins__" = some (.ref bm) ∧ bm ≠ builtinsNs ∧ h.get? bm = some o ∧ o.cls = .type "module" ∧ o.dict = some builtinsNs ∧ o.data = .plain
section
variable {X : Cx} {pins : List (Addr × Obj)} {σ : L2.St} {H : Hp} {s : Shared}
end
section
variable {X : Cx} {pins : List (Addr × Obj)} {σ : L2.St} {H : Hp} {s : Shared} {params : Arguments} {body : Expr} {scope : Scope} {lpos : Pos} {clos : List (Str × Addr)} {c P : Addr} {ps : Array Value} {R : Value → Shared → Prop}
end
end MX
end
section
set_option autoImplicit false
namespace MX
open PySem PySem.Spec PySem.W PyProof.Rows L2
section
variable {K : PySem.W.Frag} {H H' : Hp} {α : List Addr}
end
def CloFn (P : Program) (w : World) (K : PySem.W.Frag) (mg : Str → Option Value) (base : Heap) (k : Nat) (a : Addr) (R : Hp → Prop) (ψ : GN) : Prop :=
 ∃ fd q sp, FnOk P w K mg base CX0 k a fd [q] sp ∧ base.get? a = some { cls := .type "function", data := .func fd } ∧ (∀ (s : Shared) (u : Value), BindsTo s fd ⟨[u], []⟩ [(q, u)]) ∧ ∀ vs H Q, R H → vs.length = 1 → rdC K ψ vs H Q → sp vs H Q E0
def LocFn (X : Cx) (a : Addr) (ψ : GN) : Prop := ∃ R k, CloFn X.prog X.w X.K X.mg X.base k a R ψ ∧ Room k X.A ∧ ∀ H, Tups X.H₀ H → R H
section
variable {X : Cx} {x : Str} {p pos : Pos} {e : Expr} {es : List Expr} {fs : AF}
end
def spH (K : PySem.W.Frag) (R : Hp → Prop) (a : Addr) (ψ : GN) (G : Addr → GN → GN) : Sp := fun vs H Q _ => ∃ v1, vs = [v1, .ref a] ∧ R H ∧ ∃ S α d1 z S', StoreR K H α S ∧ Rep K H α d1 v1 ∧ G a ψ [d1, .adr a] S = some (z, S') ∧ Kt K H α z S' Q
def HofOk (P : Program) (w : World) (K : PySem.W.Frag) (mg : Str → Option Value) (base : Heap) (k : Nat) (f : Addr) (fd : FuncData) (ps : List Str) (G : Addr → GN → GN) : Prop :=
 ∀ (a : Addr) (R : Hp → Prop) (ψ : GN), (∀ H H', Tups H H' → R H → R H') → CloFn P w K mg base k a R ψ → FnOk P w K mg base CX0 (k + 1) f fd ps (spH K R a ψ G)
structure LamAt (X : Cx) (P c : Addr) : Prop where
 fn : ∀ y, X.fn y = true
 tab : ∃ ps, X.H₀ P = some (.tbl ps)
 code : X.env.code = .ref c
 hd : CodeHd X.base c P
 bm : BM X.base X.mg
section
variable {X : Cx} {x : Str} {p pos lpos : Pos} {e : Expr} {fe fb : EF} {params : Arguments} {body : Expr} {scope : Scope} {q : Str} {cap : List Str} {src : List Nat} {G : Addr → GN → GN} {f : Addr} {fd : FuncData} {p1 p2 : Str} {k : Nat} {Pt ct : Addr}
end
end MX
end
section
set_option autoImplicit false
namespace MX
open PySem PySem.Spec PyProof.Rows L2
structure Ctx where
 N : List Str
 names : List (Str × NameKind)
 sts : List Str
 fns : List (Str × Nat × GN)
 blt : List Str
 lf : Option (Str × Addr × GN) := none
 hof : List (Str × Str × (Addr → GN → GN)) := []
def FnAt (P : Program) (w : World) (K : PySem.W.Frag) (mg : Str → Option Value) (base : Heap) (k : Nat) (x : Str) (n : Nat) (φ : GN) : Prop :=
 ∃ f fd ps, mg x = some (.ref f) ∧ PySem.W.keepIn K (.ref f) = true ∧ Binds K fd ps [] ∧ FnOk P w K mg base CX0 k f fd ps (spOf K n φ)
def oneArg (q : Str) (ap : Pos) : Arguments := { posonlyargs := [], args := [{ arg := q, annotation := none, pos := ap }], vararg := none, kwonlyargs := [], kw_defaults := [], kwarg := none, defaults := [] }
def HofRef (c : Ctx) (X : Cx) (x q : Str) (G : Addr → GN → GN) : Prop := ∃ f fd p1 p2 k Pt ct, LamAt X Pt ct ∧ X.mg x = some (.ref f) ∧ PySem.W.keepIn X.K (.ref f) = true ∧ Binds X.K fd [p1, p2] [] ∧ Room (k + 2) X.A ∧
 (∀ (ap : Pos) (body : Expr) (scope : Scope) (pm cdv ctv : Value) (clos : List (Str × Addr)) (qual : Str) (u : Value), bindArgs (PySem.W.kla_fn "<lambda>" qual (oneArg q ap) body scope clos pm cdv ctv) ⟨[u], []⟩ = pure [(q, u)]) ∧
 (∀ base : Heap, Mod X.K X.mg base → (∀ b o, X.base.get? b = some o → base.get? b = some o) → HofOk X.prog X.w X.K X.mg base (k + 1) f fd [p1, p2] G) ∧
 ∀ base : Heap, Mod X.K X.mg base → (∀ b o, X.base.get? b = some o → base.get? b = some o) → ∀ y n ψ, c.fns.lookup y = some (n, ψ) → FnAt X.prog X.w X.K X.mg base k y n ψ
structure CtxOk (c : Ctx) (X : Cx) : Prop where
 N : X.N = c.N
 nd : c.N.Nodup
 names : X.env.scope.names = c.names
 kind : X.env.scope.kind = .function
 st : ∀ x ∈ c.sts, Loc X.env.scope x ∧ (X.fn x = true ∨ X.env.scope.names.lookup x = some .local)
 fns : ∀ x k φ, c.fns.lookup x = some (k, φ) → FnRef X x k φ
 blt : ∀ x ∈ c.blt, X.mg x = none
 calm : X.calm = true
 un : X.A.units + 64 < cLine
 lf : ∀ x a ψ, c.lf = some (x, a, ψ) → LocFn X a ψ
 hof : ∀ x q G, c.hof.lookup x = some (q, G) → HofRef c X x q G
def slotOf : List Str → Str → Option Nat
 | [], _ => none
 | y :: r, x => if y = x then some 0 else (slotOf r x).map (· + 1)
theorem zaN : ∀ {N : List Str} {x : Str} {i : Nat}, slotOf N x = some i → N[i]? = some x
 | [], _, _, h => by cases h
 | y :: r, x, i, h => by
   unfold slotOf at h
   split at h
   · rename_i e; cases h; rw [e]; rfl
   · simp only [Option.map_eq_some_iff] at h
     obtain ⟨j, h1, rfl⟩ := h
     simpa using zaN h1
def notStar : Expr → Bool
 | .Starred _ _ => false
 | _ => true
theorem zaU {e : Expr} (h : notStar e = true) (es : List Expr) (env : Env) : starEach (e :: es) env = (false, eval e env) :: starEach es env := by
 cases e with
 | Starred _ _ => cases h
 | _ => simp [starEach]
theorem zc4 {es : List Expr} (h : es.all notStar = true) (pos : Pos) (env : Env) : (backTo pos (starEach es env)).any (·.1) = false := by
 induction es with
 | nil => rfl
 | cons e r ih =>
   rw [List.all_cons, Bool.and_eq_true] at h
   rw [zaU h.1]
   show (false || (backTo pos (starEach r env)).any (·.1)) = false
   rw [ih h.2]; rfl
theorem zgp {es : List Expr} (h : es.all notStar = true) (pos : Pos) (env : Env) : (backTo pos (starEach es env)).all (fun x => !x.1) = true := by
 induction es with
 | nil => rfl
 | cons e r ih =>
   rw [List.all_cons, Bool.and_eq_true] at h
   rw [zaU h.1]
   show (!false && (backTo pos (starEach r env)).all (fun x => !x.1)) = true
   rw [ih h.2]; rfl
def plainIx : Expr → Bool
 | .Slice _ _ _ _ => false
 | _ => true
theorem zgW {b : Expr} (h : plainIx b = true) : PlainIx b := by
 intro o i
 cases b with
 | Slice _ _ _ _ => cases h
 | _ => rfl
def plainT : Expr → Bool
 | .Name _ _ => true
 | .Call _ _ _ _ => true
 | .Subscript _ _ _ => true
 | .Constant _ _ _ => true
 | .BinOp _ _ _ _ => true
 | .List _ _ => true
 | .Tuple _ _ _ => true
 | .Attribute _ _ _ => true
 | .ListComp _ _ _ _ => true
 | _ => false
theorem zhy {a : Expr} (h : plainT a = true) (env : Env) (whole : Sem Value) : isTrue a env whole = (do let v ← whole; standAt a.pos; holding [v] (truthy v)) := by
 cases a with
 | Name _ _ => rfl
 | Call _ _ _ _ => rfl
 | Subscript _ _ _ => rfl
 | Constant _ _ _ => rfl
 | BinOp _ _ _ _ => rfl
 | List _ _ => rfl
 | Tuple _ _ _ => rfl
 | Attribute _ _ _ => rfl
 | ListComp _ _ _ _ => rfl
 | _ => cases h
def notSet : Expr → Bool
 | .Set _ _ _ => false
 | _ => true
theorem zfy {e : Expr} (h : notSet e = true) (env : Env) (x : Value) : foldedSetIterable e env x = pure x := by
 cases e with
 | Set _ _ _ => cases h
 | _ => rfl
def notComp : Expr → Bool
 | .ListComp _ _ _ _ => false
 | .SetComp _ _ _ _ => false
 | .DictComp _ _ _ _ _ => false
 | _ => true
theorem zbH {e : Expr} (h : notComp e = true) (t : Option Expr) (l : Nat) (env : Env) : swapsWith e t l env = pure false := by
 cases e with
 | ListComp _ _ _ _ => cases h
 | SetComp _ _ _ _ => cases h
 | DictComp _ _ _ _ _ => cases h
 | _ => rfl
def notTup : Expr → Bool
 | .Tuple _ _ _ => false
 | _ => true
def isTup0 : Expr → Bool
 | .Tuple _ _ _ => true
 | .List _ _ => true
 | _ => false
theorem zeO {t : Expr} (h : isTup0 t = false) (e : Expr) (env : Env) : swappedStores [t] e env = pure none := by
 cases t with
 | Tuple _ _ _ => cases h
 | List _ _ => cases h
 | _ => rfl
theorem zgZ {e : Expr} (h : notTup e = true) (ts : List Expr) (k : Nat) (p : Pos) (env : Env) : swappedStores [.Tuple ts k p] e env = pure none := by
 cases e with
 | Tuple _ _ _ => cases h
 | _ => rfl
def btTy : List (Str × String) := [("int", "int"), ("bool", "bool"), ("str", "str"), ("tuple", "tuple"), ("list", "list")]
theorem zis {x : Str} {T : String} (h : btTy.lookup x = some T) : bootBuiltins x = some (.type T) := by
 have hm := PySem.mem_of_lookup h
 unfold btTy at hm
 simp only [List.mem_cons, List.mem_nil_iff, or_false, Prod.mk.injEq] at hm
 rcases hm with ⟨rfl, rfl⟩ | ⟨rfl, rfl⟩ | ⟨rfl, rfl⟩ | ⟨rfl, rfl⟩ | ⟨rfl, rfl⟩ <;> decide +kernel
def oddName (x : Str) : Bool := (x == ("__debug__" : Str)) || (x == ("__classdict__" : Str)) || (x == ("__name__" : Str))
theorem odd1 {x : Str} (h : oddName x = false) : (x == ("__debug__" : Str)) = false := by
 unfold oddName at h; rw [Bool.or_eq_false_iff, Bool.or_eq_false_iff] at h; exact h.1.1
theorem odd2 {x : Str} (h : oddName x = false) : (x == ("__classdict__" : Str)) = false := by
 unfold oddName at h; rw [Bool.or_eq_false_iff, Bool.or_eq_false_iff] at h; exact h.1.2
theorem odd3 {x : Str} (h : oddName x = false) : x ≠ ("__name__" : Str) := by
 unfold oddName at h; rw [Bool.or_eq_false_iff] at h
 exact beq_eq_false_iff_ne.mp h.2
def nmE (c : Ctx) (x : Str) : Option EF := if oddName x = true then none else match c.names.lookup x with
 | some .local => (slotOf c.N x).map eVar
 | some .cell => (slotOf c.N x).map eVar
 | some .free => (slotOf c.N x).map eVar
 | some .globalImplicit => if x ∈ c.blt then (btTy.lookup x).map fun T => eC (.ty T) else none
 | _ => none
def constE : Const → Option EF
 | .int i => some (eC (.int i))
 | .bool b => some (eC (.bl b))
 | .none => some (eC .non)
 | .str x => some (eC (.str x))
 | _ => none
section
variable {c : Ctx} {X : Cx}
theorem zgQ {x : Str} {f : EF} {pos : Pos} (ok : CtxOk c X) (h : nmE c x = some f) : SE X (.Name x pos) f := by
 unfold nmE at h
 split at h
 · cases h
 · rename_i ho
   have ho' : oddName x = false := by simpa using ho
   have loc : ∀ (v : Vis X.env.scope x), (slotOf c.N x).map eVar = some f → SE X (.Name x pos) f := fun v e => by
     simp only [Option.map_eq_some_iff] at e
     obtain ⟨i, e1, rfl⟩ := e
     exact zl6 (by rw [ok.N]; exact zaN e1) v (odd1 ho') (odd2 ho')
   split at h
   · rename_i e; exact loc (.inl (by rw [ok.names]; exact e)) h
   · rename_i e; exact loc (.inr (.inl (by rw [ok.names]; exact e))) h
   · rename_i e; exact loc (.inr (.inr (by rw [ok.names]; exact e))) h
   · rename_i e
     split at h
     · rename_i hb
       simp only [Option.map_eq_some_iff] at h
       obtain ⟨T, e1, rfl⟩ := h
       exact se_c (zkG (show X.env.scope.names.lookup x = _ by rw [ok.names]; exact e) (ok.blt x hb) (zis e1) (v := .ty T) rfl (odd3 ho') (odd1 ho')) fun _ _ => .ty T
     · cases h
   · cases h
theorem zfW {k : Const} {j : Nat} {f : EF} {pos : Pos} (h : constE k = some f) : SE X (.Constant k j pos) f := by
 cases k with
 | int i => cases h; exact zmf
 | bool b => cases h; exact znE
 | none => cases h; exact zma
 | str x => cases h; exact zl8
 | _ => cases h
end
def relN (cn names : List (Str × NameKind)) : List (Str × NameKind) := names.map fun (n, k) => if (k == NameKind.free && true && cn.lookup n == some .cell) then (n, NameKind.cell) else (n, k)
def ownOf (names : List (Str × NameKind)) : List Str := (names.filter fun y => (y.2 == .local || y.2 == .cell) && y.1 != (".0" : Str)).map (·.1)
def freeOf (c : Ctx) (names : List (Str × NameKind)) : List (Str × Nat) := names.filterMap fun y => if y.2 == NameKind.free then (slotOf c.N y.1).map fun i => (y.1, i) else none
def compN (c : Ctx) (names : List (Str × NameKind)) : List Str := ownOf names ++ (freeOf c names).map (·.1)
def compSrc (c : Ctx) (names : List (Str × NameKind)) : List (Option Nat) := (ownOf names).map (fun _ => none) ++ (freeOf c names).map fun p => some p.2
def compC (c : Ctx) (names : List (Str × NameKind)) : Ctx := { N := compN c names, names := relN c.names names, sts := ownOf names, fns := c.fns, blt := c.blt }
def compB (c : Ctx) (scope : Scope) : Bool := decide (scope.kind = .function) && scope.names.all (fun y => decide (scope.names.lookup y.1 = some y.2)) &&
 scope.names.all (fun y => decide (y.2 = .free → (c.names.lookup y.1 = some .cell ∨ c.names.lookup y.1 = some .free))) && decide (compN c scope.names).Nodup
section
variable {c : Ctx} {X : Cx} {scope : Scope}
theorem zjn {names : List (Str × NameKind)} {p : Str × Nat} (h : p ∈ freeOf c names) : (p.1, NameKind.free) ∈ names ∧ slotOf c.N p.1 = some p.2 := by
 unfold freeOf at h
 obtain ⟨y, hy, e⟩ := List.mem_filterMap.mp h
 split at e
 · rename_i hk
   simp only [Option.map_eq_some_iff] at e
   obtain ⟨i, e1, rfl⟩ := e
   have : y.2 = NameKind.free := by simpa using hk
   refine ⟨?_, e1⟩
   rw [← this]; exact hy
 · cases e
theorem zkI {names : List (Str × NameKind)} {x : Str} (h : x ∈ ownOf names) : (x, NameKind.local) ∈ names ∨ (x, NameKind.cell) ∈ names := by
 unfold ownOf at h
 obtain ⟨y, hy, rfl⟩ := List.mem_map.mp h
 obtain ⟨h1, h2⟩ := List.mem_filter.mp hy
 rw [Bool.and_eq_true, Bool.or_eq_true] at h2
 obtain ⟨y1, y2⟩ := y
 rcases h2.1 with q | q
 · have : y2 = NameKind.local := by simpa using q
   subst this; exact .inl h1
 · have : y2 = NameKind.cell := by simpa using q
   subst this; exact .inr h1
theorem zls (ok : CtxOk c X) (h : compB c scope = true) : CompOk X scope (compN c scope.names) (compSrc c scope.names) := by
 unfold compB at h
 rw [Bool.and_eq_true, Bool.and_eq_true, Bool.and_eq_true] at h
 obtain ⟨⟨⟨h1, h2⟩, h3⟩, h4⟩ := h
 rw [List.all_eq_true] at h2 h3
 have u : ∀ y ∈ scope.names, scope.names.lookup y.1 = some y.2 := fun y hy => of_decide_eq_true (h2 y hy)
 refine ⟨of_decide_eq_true h1, u, fun y hy e => ?_, by simp [compSrc, compN], fun j i x e1 e2 => ?_⟩
 · have := of_decide_eq_true (h3 y hy) e
   show X.env.scope.names.lookup y.1 = _ ∨ X.env.scope.names.lookup y.1 = _
   rw [ok.names]; exact this
 · unfold compN at e1
   unfold compSrc at e2
   have hj : (ownOf scope.names).length ≤ j := by
     refine Nat.le_of_not_lt fun hlt => ?_
     rw [List.getElem?_append_left (by simpa using hlt), List.getElem?_map] at e2
     cases q : (ownOf scope.names)[j]? with
     | none => rw [q] at e2; cases e2
     | some z => rw [q] at e2; cases e2
   rw [List.getElem?_append_right (by simpa using hj), List.getElem?_map, List.length_map] at e2
   rw [List.getElem?_append_right hj, List.getElem?_map] at e1
   cases q : (freeOf c scope.names)[j - (ownOf scope.names).length]? with
   | none => rw [q] at e2; cases e2
   | some p =>
     rw [q] at e1 e2
     simp only [Option.map_some, Option.some.injEq] at e1 e2
     obtain ⟨m1, m2⟩ := zjn (List.mem_of_getElem? q)
     subst e1 e2
     exact ⟨by rw [ok.N]; exact zaN m2, u _ m1⟩
theorem zjA (ok : CtxOk c X) (h : compB c scope = true) {Y : Cx} (hy : IsComp X scope (compN c scope.names) Y) : CtxOk (compC c scope.names) Y := by
 have h0 := h
 unfold compB at h
 rw [Bool.and_eq_true, Bool.and_eq_true, Bool.and_eq_true] at h
 obtain ⟨⟨⟨h1, h2⟩, h3⟩, h4⟩ := h
 rw [List.all_eq_true] at h2
 have u : ∀ y ∈ scope.names, scope.names.lookup y.1 = some y.2 := fun y hy => of_decide_eq_true (h2 y hy)
 have hn : Y.env.scope.names = relN c.names scope.names := by
   rw [hy.sc]
   show List.map _ scope.names = List.map _ scope.names
   refine List.map_congr_left fun y _ => ?_
   obtain ⟨n, k⟩ := y
   have e1 : (X.env.scope.kind == .function) = true := by rw [ok.kind]; rfl
   have e2 : X.env.kindOf n = c.names.lookup n := by show X.env.scope.names.lookup n = _; rw [ok.names]
   simp only [e1, e2]
 refine ⟨hy.N, of_decide_eq_true h4, hn, by rw [hy.sc]; exact of_decide_eq_true h1, fun x hx => ?_, fun x k φ e => ?_, fun x hx => by rw [hy.mg]; exact ok.blt x hx, hy.calm.trans ok.calm, by rw [hy.A]; exact ok.un, fun _ _ _ h => (nomatch h), fun _ _ _ h => (nomatch h)⟩
 · have lk : ∀ k, k ≠ .free → scope.names.lookup x = some k → Y.env.scope.names.lookup x = some k := fun k hk e => by
     rw [hy.sc]
     show (List.map _ scope.names).lookup x = _
     rw [show (List.map _ scope.names).lookup x = _ from zbW, e]
     have hb : (k == NameKind.free) = false := by simpa using hk
     show some (if (k == NameKind.free && _ && _) = true then NameKind.cell else k) = some k
     rw [hb]
     rfl
   rcases zkI hx with m | m
   · have e := u _ m
     exact ⟨.inl (lk _ (by decide) e), .inr (lk _ (by decide) e)⟩
   · have e := u _ m
     exact ⟨.inr (lk _ (by decide) e), .inl (hy.fn x e)⟩
 · obtain ⟨f, fd, ps, kk, m1, m2, m3, m4, m5⟩ := ok.fns x k φ e
   refine ⟨f, fd, ps, kk, by rw [hy.mg]; exact m1, by rw [hy.K]; exact m2, by rw [hy.K]; exact m3, ?_, by rw [hy.A]; exact m5⟩
   rw [hy.prog, hy.w, hy.K, hy.mg, hy.base]
   exact m4
end
def targ1 (c : Ctx) : Expr → Option GF
 | .Name x _ => if x ∈ c.sts then (slotOf c.N x).map gNm else none
 | _ => none
def targs (c : Ctx) : List Expr → Option GFs
 | [] => some gsNil
 | e :: r => (targ1 c e).bind fun f => (targs c r).map fun fr => gsCons f fr
def targE (c : Ctx) : Expr → Option GF
 | .Name x p => targ1 c (.Name x p)
 | .Tuple es _ _ => (targs c es).map fun fr => gTp es.length fr
 | _ => none
section
variable {c : Ctx} {X : Cx}
theorem zd6 (ok : CtxOk c X) {e : Expr} {f : GF} (h : targ1 c e = some f) : SG X e f := by
 cases e with
 | Name x p =>
   simp only [targ1] at h
   split at h
   · rename_i hx
     simp only [Option.map_eq_some_iff] at h
     obtain ⟨i, e1, rfl⟩ := h
     obtain ⟨h1, h2⟩ := ok.st x hx
     exact zkh (by rw [ok.N]; exact ok.nd) (by rw [ok.N]; exact zaN e1) h1 h2
   · cases h
 | _ => cases h
theorem zd5 (ok : CtxOk c X) : ∀ {es : List Expr} {f : GFs}, targs c es = some f → SGs X es f ∧ (assignEach es X.env).length = es.length ∧ (assignEach es X.env).findIdx? (·.1) = none
 | [], f, h => by cases h; exact ⟨zkg, rfl, rfl⟩
 | e :: r, f, h => by
   unfold targs at h
   simp only [Option.bind_eq_some_iff, Option.map_eq_some_iff] at h
   obtain ⟨f1, e1, fr, e2, rfl⟩ := h
   obtain ⟨i1, i2, i3⟩ := zd5 ok e2
   have ea : assignEach (e :: r) X.env = (false, assign e X.env) :: assignEach r X.env := by
     cases e with
     | Name x p => rfl
     | _ => cases e1
   refine ⟨ziM (zd6 ok e1) i1 (by rw [ea]; rfl), by rw [ea, List.length_cons, List.length_cons, i2], ?_⟩
   rw [ea, List.findIdx?_cons, i3]
   rfl
theorem zbG (ok : CtxOk c X) {e : Expr} {f : GF} (h : targE c e = some f) : SG X e f := by
 cases e with
 | Name x p => exact zd6 ok h
 | Tuple es k p =>
   unfold targE at h
   simp only [Option.map_eq_some_iff] at h
   obtain ⟨fr, e1, rfl⟩ := h
   obtain ⟨i1, i2, i3⟩ := zd5 ok e1
   exact zl3 ok.calm i1 i2 i3
 | _ => cases h
end
def eNever : EF := fun _ _ => none
theorem ziQ {X : Cx} {e : Expr} : SE X e eNever := fun _ _ _ _ _ _ h => by
 obtain ⟨_, _, _, _, _, _, _, hf, _⟩ := h
 cases hf
section
variable (rE : Ctx → Expr → Option EF) (rT : Ctx → Expr → Option TF)
def argE (c : Ctx) : List Expr → Option AF
 | [] => some aNil
 | e :: r => if notStar e = true then (rE c e).bind fun f => (argE c r).map fun fr => aCons f fr else none
def boolE (c : Ctx) (op : BoolOp) : List Expr → Option EF
 | [] => none
 | [a] => rE c a
 | a :: b :: r => (rE c a).bind fun f => (boolE c op (b :: r)).map fun g => match op with
   | .And => eAnd f g
   | .Or => eOr f g
def boolT (c : Ctx) (op : BoolOp) : List Expr → Option TF
 | [] => none
 | [a] => rT c a
 | a :: b :: r => (rT c a).bind fun f => (boolT c op (b :: r)).map fun g => match op with
   | .And => tAndF f g
   | .Or => tOrF f g
def partE (c : Ctx) : Option Expr → Option PF
 | none => some pNone
 | some e => (rE c e).map pSome
def bltF : List (Str × String × GN) := [("len", "len", gLen), ("abs", "abs", gAbs), ("min", "min", gMin'), ("max", "max", gMax'), ("isinstance", "isinstance", gIsi), ("all", "all", gAll), ("any", "any", gAny), ("sum", "sum", gSum)]
def bltT : List (Str × String × GN) := [("tuple", "tuple", gTuple), ("list", "list", gList), ("int", "int", gInt)]
def callG (c : Ctx) (x : Str) (es : List Expr) : Option EF := if oddName x = true then none else
 if c.names.lookup x = some .globalImplicit ∧ es.all notStar = true ∧ es ≠ [] then
   match c.fns.lookup x with
   | some (k, φ) => (argE rE c es).map fun fa => eN (nArgs k φ) fa
   | none => if x ∈ c.blt then match bltF.lookup x with
     | some (_, g) => (argE rE c es).map fun fa => eN g fa
     | none => match bltT.lookup x with
       | some (_, g) => (argE rE c es).map fun fa => eN g fa
       | none => none
     else some eNever
 else none
def callE (c : Ctx) (x : Str) (es : List Expr) : Option EF := callG rE c x es
def isTup : Expr → Bool
 | .Tuple _ _ _ => true
 | _ => false
def iterB (c : Ctx) (tg : Expr) : Expr → Option IF
 | .Call (.Name x p) es [] pos => if x = "range" ∧ c.names.lookup x = some .globalImplicit ∧ x ∈ c.blt ∧ es.all notStar = true then
     match es with
     | [_] => (argE rE c es).map iRg1
     | [_, _] => (argE rE c es).map iRg2
     | _ => none
   else (rE c (.Call (.Name x p) es [] pos)).map iVal
 | e => (rE c e).map iVal
def isName : Expr → Bool
 | .Name _ _ => true
 | _ => false
def itmA (tg f : Expr) (b : Bool) (pos : Pos) : Option Expr := match f with
 | .Attribute o m apos => if m = "items" ∧ b = true ∧ (apos.endLine == pos.line) = true ∧ isTup tg = true ∧ isName o = true then some o else none
 | _ => none
def itmO (tg e : Expr) : Option Expr := match e with
 | .Call f es ks pos => itmA tg f (es.isEmpty && ks.isEmpty) pos
 | _ => none
def iterE (c : Ctx) (tg e : Expr) : Option IF := match itmO tg e with
 | some o => (rE c o).map iItems
 | none => iterB rE c tg e
def ifsT (c : Ctx) : List Expr → Option TF
 | [] => some tTru
 | [t] => rT c t
 | _ => none
def compE (c : Ctx) (elt : Expr) (g : Comprehension) (scope : Scope) : Option EF :=
 if g.is_async = 0 ∧ compB c scope = true ∧ notSet g.iter = true then
   (iterE rE c g.target g.iter).bind fun fi => (targE (compC c scope.names) g.target).bind fun fg => (ifsT rT (compC c scope.names) g.ifs).bind fun ft => (rE (compC c scope.names) elt).map fun fe => eLc fi fg ft fe (compSrc c scope.names)
 else none
def methF : List (Str × String × GM) := []
theorem zjb {X : Cx} {m : Str} {p : String × GM} (h : methF.lookup m = some p) : Slot "list" m p.1 ∧ typeOf (.builtin p.1) = pure (.type "method_descriptor") ∧ MtR X p.1 (rdM X.K p.2) := by cases h
def dgetE (c : Ctx) (x : Str) (p : Pos) (m : Str) (es : List Expr) : Option EF := if m = "get" then match es with
   | [] => none
   | e :: r => (rE c (.Name x p)).bind fun fo => (argE rE c (e :: r)).map fun fa => eDM gDGet fo fa
 else none
def dctE (ks : List (Option Expr)) (vs : List Expr) : Option EF := if ks.isEmpty = true ∧ vs.isEmpty = true then some eDct else none
def methE (c : Ctx) (o : Expr) (m : Str) (apos : Pos) (es : List Expr) (cpos : Pos) : Option EF :=
 if es.all notStar = true ∧ es.length < 20 ∧ (apos.endLine == cpos.line) = true then
   match o with
   | .Name x p => match methF.lookup m with
     | some (_, g) => match es with
       | [] => (rE c (.Name x p)).map fun fo => eM0 g fo
       | e :: r => (rE c (.Name x p)).bind fun fo => (argE rE c (e :: r)).map fun fa => eM g fo fa
     | none => dgetE rE c x p m es
   | _ => none
 else none
def unE (c : Ctx) (op : UnaryOp) (a : Expr) : Option EF := match op with
 | .USub => (rE c a).map (eU gNeg)
 | .Not => (rE c a).map eNot
 | _ => none
def cmpE (c : Ctx) (a : Expr) (ops : List CmpOp) (bs : List Expr) : Option EF := match ops with
 | [] => none
 | op :: r => match r with
   | _ :: _ => none
   | [] => match bs with
     | [] => none
     | b :: q => match q with
       | _ :: _ => none
       | [] => if op ≠ .In ∧ op ≠ .NotIn then (rE c a).bind fun fa => (rE c b).map fun fb => eB (gCmp op) fa fb else none
def slcE (c : Ctx) (a : Expr) (lo hi st : Option Expr) : Option EF := match st with
 | none => (rE c a).bind fun fa => (partE rE c lo).bind fun fl => (partE rE c hi).map fun fh => eSl fa fl fh
 | some _ => none
def sbxE (c : Ctx) (a b : Expr) : Option EF := match b with
 | .Slice lo hi st _ => slcE rE c a lo hi st
 | _ => none
def subE (c : Ctx) (a b : Expr) : Option EF := if plainIx b = true then (rE c a).bind fun fa => (rE c b).map fun fb => eB gIx fa fb else sbxE rE c a b
def calE (c : Ctx) (f : Expr) (es : List Expr) (ks : List Keyword) (pos : Pos) : Option EF := match ks with
 | [] => match f with
   | .Name x _ => callE rE c x es
   | .Attribute o m apos => methE rE c o m apos es pos
   | _ => none
 | _ :: _ => none
def lcE (c : Ctx) (elt : Expr) (gs : List Comprehension) (scope : Scope) : Option EF := match gs with
 | [] => none
 | g :: r => match r with
   | [] => compE rE rT c elt g scope
   | _ :: _ => none
def stepE (c : Ctx) (e : Expr) : Option EF := match e with
 | .Name x _ => nmE c x
 | .Constant k _ _ => constE k
 | .BinOp a op b _ => (rE c a).bind fun fa => (rE c b).map fun fb => eB (gBin op) fa fb
 | .UnaryOp op a _ => unE rE c op a
 | .BoolOp op es _ => boolE rE c op es
 | .Compare a ops bs _ => cmpE rE c a ops bs
 | .Tuple es _ _ => (argE rE c es).map (eN gTup)
 | .List es _ => (argE rE c es).map (eN gLst)
 | .Subscript a b _ => subE rE c a b
 | .IfExp t a b _ => (rT c t).bind fun ft => (rE c a).bind fun fa => (rE c b).map fun fb => eIf ft fa fb
 | .Call f es ks pos => calE rE c f es ks pos
 | .Dict ks vs _ => dctE ks vs
 | .ListComp elt gs scope _ => lcE rE rT c elt gs scope
 | _ => none
def stepT (c : Ctx) : Expr → Option TF
 | .UnaryOp .Not a _ => (rT c a).map tNotF
 | .BoolOp op es _ => boolT rT c op es
 | .Compare a [op] [b] _ => if op ≠ .In ∧ op ≠ .NotIn then (rE c a).bind fun fa => (rE c b).map fun fb => tBl (eB (gCmp op) fa fb) else none
 | e => if plainT e = true then (rE c e).map tVal else none
end
mutual
def cE : Nat → Ctx → Expr → Option EF
 | 0, _, _ => none
 | n + 1, c, e => stepE (cE n) (cT n) c e
def cT : Nat → Ctx → Expr → Option TF
 | 0, _, _ => none
 | n + 1, c, e => stepT (cE n) (cT n) c e
end
def OkE (rE : Ctx → Expr → Option EF) : Prop := ∀ c X e f, CtxOk c X → rE c e = some f → SE X e f
def OkT (rT : Ctx → Expr → Option TF) : Prop := ∀ c X e f, CtxOk c X → rT c e = some f → ST X e f
section
variable {rE : Ctx → Expr → Option EF} {rT : Ctx → Expr → Option TF} {c : Ctx} {X : Cx}
theorem zaM (hE : OkE rE) (ok : CtxOk c X) : ∀ {es : List Expr} {f : AF}, argE rE c es = some f → SA X es f ∧ es.all notStar = true
 | [], f, h => by cases h; exact ⟨zmj, rfl⟩
 | e :: r, f, h => by
   unfold argE at h
   split at h
   · rename_i hn
     simp only [Option.bind_eq_some_iff, Option.map_eq_some_iff] at h
     obtain ⟨f1, e1, fr, e2, rfl⟩ := h
     obtain ⟨i1, i2⟩ := zaM hE ok e2
     exact ⟨zkm (hE c X e f1 ok e1) i1 (zaU hn r X.env), by rw [List.all_cons, hn, i2]; rfl⟩
   · cases h
theorem zeJ (hE : OkE rE) (ok : CtxOk c X) {op : BoolOp} {pos : Pos} : ∀ {es : List Expr} {f : EF}, boolE rE c op es = some f → SE X (.BoolOp op es pos) f
 | [], f, h => by cases h
 | [a], f, h => ziT (hE c X a f ok h)
 | a :: b :: r, f, h => by
   unfold boolE at h
   simp only [Option.bind_eq_some_iff, Option.map_eq_some_iff] at h
   obtain ⟨f1, e1, fr, e2, rfl⟩ := h
   have i := zeJ hE ok (pos := pos) e2
   cases op with
   | And => exact zmi (hE c X a f1 ok e1) i
   | Or => exact znz (hE c X a f1 ok e1) i
theorem zd7 (hT : OkT rT) (ok : CtxOk c X) {op : BoolOp} {pos : Pos} : ∀ {es : List Expr} {f : TF}, boolT rT c op es = some f → SW X (.BoolOp op es pos) f
 | [], f, h => by cases h
 | [a], f, h => by
   cases op with
   | And => exact zj1 (hT c X a f ok h)
   | Or => exact zlO (hT c X a f ok h)
 | a :: b :: r, f, h => by
   unfold boolT at h
   simp only [Option.bind_eq_some_iff, Option.map_eq_some_iff] at h
   obtain ⟨f1, e1, fr, e2, rfl⟩ := h
   have i := zd7 hT ok (pos := pos) e2
   cases op with
   | And => exact zlP (hT c X a f1 ok e1) i
   | Or => exact znx (hT c X a f1 ok e1) i
theorem zeG (hE : OkE rE) (ok : CtxOk c X) {e : Option Expr} {f : PF} (h : partE rE c e = some f) : SPt X e f := by
 cases e with
 | none => cases h; exact zkc
 | some e =>
   unfold partE at h
   simp only [Option.map_eq_some_iff] at h
   obtain ⟨f1, e1, rfl⟩ := h
   exact zka (hE c X e f1 ok e1)
theorem ziu {x : Str} {p : String × GN} (h : bltF.lookup x = some p) (hc : X.calm = true) : bootBuiltins x = some (.builtin p.1) ∧ CallR X (.builtin p.1) (rdC X.K p.2) := by
 have hm := PySem.mem_of_lookup h
 unfold bltF at hm
 simp only [List.mem_cons, List.mem_nil_iff, or_false, Prod.mk.injEq] at hm
 rcases hm with ⟨rfl, rfl⟩ | ⟨rfl, rfl⟩ | ⟨rfl, rfl⟩ | ⟨rfl, rfl⟩ | ⟨rfl, rfl⟩ | ⟨rfl, rfl⟩ | ⟨rfl, rfl⟩ | ⟨rfl, rfl⟩
 · exact ⟨by decide +kernel, znq⟩
 · exact ⟨by decide +kernel, znu⟩
 · exact ⟨by decide +kernel, zlz hc⟩
 · exact ⟨by decide +kernel, zlA hc⟩
 · exact ⟨by decide +kernel, znr⟩
 · exact ⟨by decide +kernel, znt hc⟩
 · exact ⟨by decide +kernel, zns hc⟩
 · exact ⟨by decide +kernel, znn hc⟩
theorem zit {x : Str} {p : String × GN} (h : bltT.lookup x = some p) : bootBuiltins x = some (.type p.1) ∧ CallR X (.type p.1) (rdC X.K p.2) := by
 have hm := PySem.mem_of_lookup h
 unfold bltT at hm
 simp only [List.mem_cons, List.mem_nil_iff, or_false, Prod.mk.injEq] at hm
 rcases hm with ⟨rfl, rfl⟩ | ⟨rfl, rfl⟩ | ⟨rfl, rfl⟩
 · exact ⟨by decide +kernel, zjD⟩
 · exact ⟨by decide +kernel, zly⟩
 · exact ⟨by decide +kernel, znm⟩
theorem zfX (hE : OkE rE) (ok : CtxOk c X) {x : Str} {es : List Expr} {f : EF} {p pos : Pos} (h : callG rE c x es = some f) : SE X (.Call (.Name x p) es [] pos) f := by
 unfold callG at h
 split at h
 · cases h
 · rename_i ho
   have ho' : oddName x = false := by simpa using ho
   split at h
   · rename_i hc
     obtain ⟨h1, h2, h3⟩ := hc
     have hg : Gl X x := by show X.env.scope.names.lookup x = _; rw [ok.names]; exact h1
     cases es with
     | nil => exact absurd rfl h3
     | cons e r =>
       rw [List.all_cons, Bool.and_eq_true] at h2
       split at h
       · rename_i k φ e1
         simp only [Option.map_eq_some_iff] at h
         obtain ⟨fa, e2, rfl⟩ := h
         exact zkl hg (ok.fns x k φ e1) (zaM hE ok e2).1 (odd1 ho') (zaU h2.1 r X.env) (zc4 h2.2 pos X.env)
       · split at h
         · rename_i hb
           split at h
           · rename_i q g e1
             simp only [Option.map_eq_some_iff] at h
             obtain ⟨fa, e2, rfl⟩ := h
             obtain ⟨b1, b2⟩ := ziu e1 ok.calm
             exact ziS b2 hg (ok.blt x hb) b1 (zaM hE ok e2).1 (odd3 ho') (odd1 ho') (zaU h2.1 r X.env) (zc4 h2.2 pos X.env)
           · split at h
             · rename_i q g e1
               simp only [Option.map_eq_some_iff] at h
               obtain ⟨fa, e2, rfl⟩ := h
               obtain ⟨b1, b2⟩ := zit (X := X) e1
               exact ziR b2 hg (ok.blt x hb) b1 (zaM hE ok e2).1 (odd3 ho') (odd1 ho') (zaU h2.1 r X.env) (zc4 h2.2 pos X.env)
             · cases h
         · cases h; exact ziQ
   · cases h
theorem zgS (hE : OkE rE) (ok : CtxOk c X) {x : Str} {es : List Expr} {f : EF} {p pos : Pos} (h : callE rE c x es = some f) : SE X (.Call (.Name x p) es [] pos) f := zfX hE ok h
theorem zfV (hE : OkE rE) (ok : CtxOk c X) {tg e : Expr} {f : IF} (h : iterB rE c tg e = some f) : SI X tg e f := by
 have dflt : ∀ {e : Expr}, (rE c e).map iVal = some f → SI X tg e f := fun {e} q => by
   simp only [Option.map_eq_some_iff] at q
   obtain ⟨f1, e1, rfl⟩ := q
   exact zl2 (hE c X e f1 ok e1)
 unfold iterB at h
 split at h
 · rename_i x p es pos
   split at h
   · rename_i hc
     obtain ⟨rfl, h1, h2, h3⟩ := hc
     have hg : Gl X "range" := by show X.env.scope.names.lookup _ = _; rw [ok.names]; exact h1
     split at h
     · rename_i a
       simp only [Option.map_eq_some_iff] at h
       obtain ⟨fa, e2, rfl⟩ := h
       rw [List.all_cons, Bool.and_eq_true] at h3
       exact zht hg (ok.blt _ h2) (zaM hE ok e2).1 (by rw [zaU h3.1]; rfl)
     · rename_i a b
       simp only [Option.map_eq_some_iff] at h
       obtain ⟨fa, e2, rfl⟩ := h
       rw [List.all_cons, List.all_cons, Bool.and_eq_true, Bool.and_eq_true] at h3
       exact zhs hg (ok.blt _ h2) (zaM hE ok e2).1 (by rw [zaU h3.1, zaU h3.2.1]; rfl) (by rw [zaU h3.2.1]; rfl)
     · cases h
   · exact dflt h
 · exact dflt h
theorem zeH (hE : OkE rE) (ok : CtxOk c X) {tg e : Expr} {f : IF} (h : iterE rE c tg e = some f) : SI X tg e f := by
 unfold iterE at h
 split at h
 · rename_i o eo
   obtain ⟨fo, e1, rfl⟩ := Option.map_eq_some_iff.mp h
   have so := hE c X o fo ok e1
   unfold itmO at eo
   cases e with
   | Call g es ks pos =>
     simp only at eo
     unfold itmA at eo
     cases g with
     | Attribute o' m apos =>
       simp only at eo
       split at eo
       · rename_i hc
         obtain ⟨rfl, h2, h3, h4, h5⟩ := hc
         cases eo
         rw [Bool.and_eq_true, List.isEmpty_iff, List.isEmpty_iff] at h2
         obtain ⟨rfl, rfl⟩ := h2
         cases tg with
         | Tuple ts kk tp =>
           cases o with
           | Name x p => exact ziL so rfl h3
           | _ => cases h5
         | _ => cases h4
       · cases eo
     | _ => cases eo
   | _ => cases eo
 · exact zfV hE ok h
theorem zhq (hT : OkT rT) (ok : CtxOk c X) {ifs : List Expr} {f : TF} (h : ifsT rT c ifs = some f) : STs X ifs f := by
 unfold ifsT at h
 split at h
 · cases h; exact zj4
 · exact zj3 (hT c X _ f ok h)
 · cases h
theorem zeI (hE : OkE rE) (hT : OkT rT) (ok : CtxOk c X) {elt : Expr} {g : Comprehension} {scope : Scope} {f : EF} (h : compE rE rT c elt g scope = some f) :
   ∃ fi fg ft fe, f = eLc fi fg ft fe (compSrc c scope.names) ∧ g = ⟨g.target, g.iter, g.ifs, 0⟩ ∧ CompOk X scope (compN c scope.names) (compSrc c scope.names) ∧ SI X g.target g.iter fi ∧
     (∀ Y, IsComp X scope (compN c scope.names) Y → SG Y g.target fg ∧ STs Y g.ifs ft ∧ SE Y elt fe) ∧ ∀ x, foldedSetIterable g.iter X.env x = pure x := by
 unfold compE at h
 split at h
 · rename_i hc
   obtain ⟨h1, h2, h3⟩ := hc
   simp only [Option.bind_eq_some_iff, Option.map_eq_some_iff] at h
   obtain ⟨fi, e1, fg, e2, ft, e3, fe, e4, rfl⟩ := h
   refine ⟨fi, fg, ft, fe, rfl, ?_, zls ok h2, zeH hE ok e1, fun Y hy => ?_, zfy h3 X.env⟩
   · obtain ⟨a, b, d, z⟩ := g
     have : z = 0 := h1
     subst this; rfl
   · have okY := zjA ok h2 hy
     exact ⟨zbG okY e2, zhq hT okY e3, hE _ Y elt fe okY e4⟩
 · cases h
theorem zgR (hE : OkE rE) (ok : CtxOk c X) {o : Expr} {m : Str} {apos cpos : Pos} {es : List Expr} {f : EF} (h : methE rE c o m apos es cpos = some f) : SE X (.Call (.Attribute o m apos) es [] cpos) f := by
 unfold methE at h
 split at h
 · rename_i hc
   obtain ⟨h1, h3, h4⟩ := hc
   split at h
   · rename_i x p
     split at h
     · rename_i q g e1
       obtain ⟨m1, m2, m3⟩ := zjb (X := X) e1
       cases es with
       | nil =>
         simp only [Option.map_eq_some_iff] at h
         obtain ⟨fo, e2, rfl⟩ := h
         exact zmc m1 m2 m3 (hE c X _ fo ok e2) rfl h4
       | cons e r =>
         have h1' := h1
         rw [List.all_cons, Bool.and_eq_true] at h1
         simp only [Option.bind_eq_some_iff, Option.map_eq_some_iff] at h
         obtain ⟨fo, e2, fa, e3, rfl⟩ := h
         have few : ((backTo cpos (starEach (e :: r) X.env)).all (fun x => !x.1) && (backToKw cpos (keywordEach [] X.env)).all (fun x => x.1.isSome)
             && decide ((e :: r).length + ([] : List Keyword).length + (if ([] : List Keyword).isEmpty then 0 else 1) < 30)) = true := by
           rw [zgp h1']
           show (true && true && _) = true
           rw [Bool.and_eq_true]
           exact ⟨rfl, decide_eq_true (by simp at h3 ⊢; omega)⟩
         exact znB m1 m2 m3 (hE c X _ fo ok e2) (zaM hE ok e3).1 rfl few h4 (zaU h1.1 r X.env) (zc4 h1.2 cpos X.env)
     · unfold dgetE at h
       split at h
       · rename_i hm
         subst hm
         cases es with
         | nil => cases h
         | cons e r =>
           have h1' := h1
           rw [List.all_cons, Bool.and_eq_true] at h1
           simp only [Option.bind_eq_some_iff, Option.map_eq_some_iff] at h
           obtain ⟨fo, e2, fa, e3, rfl⟩ := h
           have few : ((backTo cpos (starEach (e :: r) X.env)).all (fun x => !x.1) && (backToKw cpos (keywordEach [] X.env)).all (fun x => x.1.isSome)
               && decide ((e :: r).length + ([] : List Keyword).length + (if ([] : List Keyword).isEmpty then 0 else 1) < 30)) = true := by
             rw [zgp h1']
             show (true && true && _) = true
             rw [Bool.and_eq_true]
             exact ⟨rfl, decide_eq_true (by simp at h3 ⊢; omega)⟩
           exact zkk ok.un (hE c X _ fo ok e2) (zaM hE ok e3).1 rfl few h4 (zaU h1.1 r X.env) (zc4 h1.2 cpos X.env)
       · cases h
   · cases h
 · cases h
theorem zfU (hE : OkE rE) (hT : OkT rT) : OkE (stepE rE rT) := by
 intro c X e f ok h
 cases e with
 | Name x p => exact zgQ ok h
 | Constant k a b => exact zfW h
 | BinOp a op b p =>
   obtain ⟨fa, e1, h⟩ := Option.bind_eq_some_iff.mp h
   obtain ⟨fb, e2, rfl⟩ := Option.map_eq_some_iff.mp h
   exact znA (hE c X _ fa ok e1) (hE c X _ fb ok e2)
 | UnaryOp op a p =>
   cases op with
   | USub =>
     obtain ⟨fa, e1, rfl⟩ := Option.map_eq_some_iff.mp h
     exact zmb (hE c X _ fa ok e1)
   | Not =>
     obtain ⟨fa, e1, rfl⟩ := Option.map_eq_some_iff.mp h
     exact zl9 (hE c X _ fa ok e1)
   | _ => exact nomatch (show (none : Option EF) = some f from h)
 | BoolOp op es p => exact zeJ hE ok h
 | Compare a ops bs p =>
   cases ops with
   | nil => exact nomatch (show (none : Option EF) = some f from h)
   | cons op r =>
     cases r with
     | cons _ _ => exact nomatch (show (none : Option EF) = some f from h)
     | nil =>
       cases bs with
       | nil => exact nomatch (show (none : Option EF) = some f from h)
       | cons b q =>
         cases q with
         | cons _ _ => exact nomatch (show (none : Option EF) = some f from h)
         | nil =>
           change (if op ≠ .In ∧ op ≠ .NotIn then (rE c a).bind fun fa => (rE c b).map fun fb => eB (gCmp op) fa fb else none) = some f at h
           by_cases hc : op ≠ .In ∧ op ≠ .NotIn
           · rw [if_pos hc] at h
             obtain ⟨fa, e1, h⟩ := Option.bind_eq_some_iff.mp h
             obtain ⟨fb, e2, rfl⟩ := Option.map_eq_some_iff.mp h
             exact zmh ok.un hc.1 hc.2 (hE c X _ fa ok e1) (hE c X _ fb ok e2)
           · rw [if_neg hc] at h; cases h
 | Tuple es a b =>
   obtain ⟨fa, e1, rfl⟩ := Option.map_eq_some_iff.mp h
   exact zl7 (zaM hE ok e1).1
 | List es a =>
   obtain ⟨fa, e1, rfl⟩ := Option.map_eq_some_iff.mp h
   exact zmd (zaM hE ok e1).1
 | Subscript a b p =>
   change (if plainIx b = true then (rE c a).bind fun fa => (rE c b).map fun fb => eB gIx fa fb else sbxE rE c a b) = some f at h
   by_cases hp : plainIx b = true
   · rw [if_pos hp] at h
     obtain ⟨fa, e1, h⟩ := Option.bind_eq_some_iff.mp h
     obtain ⟨fb, e2, rfl⟩ := Option.map_eq_some_iff.mp h
     exact znC (zgW hp) (hE c X _ fa ok e1) (hE c X _ fb ok e2)
   · rw [if_neg hp] at h
     cases b with
     | Slice lo hi st q =>
       cases st with
       | some _ => exact nomatch (show (none : Option EF) = some f from h)
       | none =>
         obtain ⟨fa, e1, h⟩ := Option.bind_eq_some_iff.mp h
         obtain ⟨fl, e2, h⟩ := Option.bind_eq_some_iff.mp h
         obtain ⟨fh, e3, rfl⟩ := Option.map_eq_some_iff.mp h
         exact ziP (hE c X _ fa ok e1) (zeG hE ok e2) (zeG hE ok e3)
     | _ => exact nomatch (show (none : Option EF) = some f from h)
 | IfExp t a b p =>
   obtain ⟨ft, e0, h⟩ := Option.bind_eq_some_iff.mp h
   obtain ⟨fa, e1, h⟩ := Option.bind_eq_some_iff.mp h
   obtain ⟨fb, e2, rfl⟩ := Option.map_eq_some_iff.mp h
   exact znD (hT c X _ ft ok e0) (hE c X _ fa ok e1) (hE c X _ fb ok e2)
 | Call g es ks pos =>
   cases ks with
   | cons _ _ => exact nomatch (show (none : Option EF) = some f from h)
   | nil =>
     cases g with
     | Name x p => exact zgS hE ok h
     | Attribute o m p => exact zgR hE ok h
     | _ => exact nomatch (show (none : Option EF) = some f from h)
 | ListComp elt gs scope p =>
   cases gs with
   | nil => exact nomatch (show (none : Option EF) = some f from h)
   | cons g r =>
     cases r with
     | cons _ _ => exact nomatch (show (none : Option EF) = some f from h)
     | nil =>
       obtain ⟨fi, fg, ft, fe, rfl, eg, cok, hi, hY, hfs⟩ := zeI hE hT ok h
       rw [eg]
       exact zme ok.calm cok hi hY hfs
 | Dict ks vs p =>
   change (if ks.isEmpty = true ∧ vs.isEmpty = true then some eDct else none) = some f at h
   by_cases hc : ks.isEmpty = true ∧ vs.isEmpty = true
   · rw [if_pos hc] at h
     cases h
     rw [List.isEmpty_iff, List.isEmpty_iff] at hc
     obtain ⟨rfl, rfl⟩ := hc
     exact zmg
   · rw [if_neg hc] at h; cases h
 | _ => exact nomatch (show (none : Option EF) = some f from h)
theorem zfT (hE : OkE rE) (hT : OkT rT) : OkT (stepT rE rT) := by
 intro c X e f ok h
 unfold stepT at h
 split at h
 · simp only [Option.map_eq_some_iff] at h
   obtain ⟨fa, e1, rfl⟩ := h
   exact zlR (hT c X _ fa ok e1)
 · exact PW.pt (zd7 hT ok h)
 · split at h
   · rename_i hc
     simp only [Option.bind_eq_some_iff, Option.map_eq_some_iff] at h
     obtain ⟨fa, e1, fb, e2, rfl⟩ := h
     exact zlS ok.un hc.1 hc.2 (hE c X _ fa ok e1) (hE c X _ fb ok e2)
   · cases h
 · split at h
   · rename_i hp
     simp only [Option.map_eq_some_iff] at h
     obtain ⟨fa, e1, rfl⟩ := h
     exact zlQ (hE c X _ fa ok e1) (zhy hp X.env)
   · cases h
theorem zbR : ∀ n, OkE (cE n) ∧ OkT (cT n)
 | 0 => ⟨fun _ _ _ _ _ h => by simp [cE] at h, fun _ _ _ _ _ h => by simp [cT] at h⟩
 | n + 1 => by
   obtain ⟨h1, h2⟩ := zbR n
   refine ⟨fun c X e f ok h => ?_, fun c X e f ok h => ?_⟩
   · rw [cE] at h; exact zfU h1 h2 c X e f ok h
   · rw [cT] at h; exact zfT h1 h2 c X e f ok h
end
def sNever : SF := fun _ _ => none
theorem ziD {X : Cx} {st : Stmt} : SS X st sNever := fun _ _ _ _ _ _ h => by
 obtain ⟨_, _, _, _, _, _, _, _, hf, _⟩ := h
 cases hf
def asgLc (c : Ctx) (x : Str) (e : Expr) : Option SF := match e with
 | .ListComp elt gs scope _ => match gs with
   | [] => none
   | g :: r => match r with
     | _ :: _ => none
     | [] => if x ∈ c.sts then (slotOf c.N x).bind fun i => (compE (cE 60) (cT 60) c elt g scope).map fun f => sAsg f (gNm i) else none
 | _ => none
def asgSt (c : Ctx) (x : Str) (e : Expr) : Option SF := if x ∈ c.sts then (cE 60 c e).bind fun fe => (slotOf c.N x).map fun i => sAsg fe (gNm i) else none
def asgSub (c : Ctx) (o i e : Expr) : Option SF := if plainIx i = true then (cE 60 c e).bind fun fe => (cE 60 c o).bind fun fo => (cE 60 c i).map fun fi => sAsg fe (gSt fo fi) else none
def asgTo (c : Ctx) (tg e : Expr) : Option SF := (cE 60 c e).bind fun fe => (targE c tg).map fun fg => sAsg fe fg
def parOk (c : Ctx) (x y z : Str) (px py pz : Pos) (a b d : Expr) : Bool := decide (c.names.lookup x = some .local ∧ c.names.lookup y = some .local ∧ c.names.lookup z = some .local ∧ py.line = px.line ∧ pz.line = px.line ∧ x ≠ y ∧ x ≠ z ∧ y ≠ z ∧
 starF a = false ∧ starF b = false ∧ starF d = false ∧ [a, b, d].all (foldedForSure 8) = false ∧ [a, b, d].all (constantsAlone 8) = false)
def parNo (c : Ctx) (ts : List Expr) : Bool := match ts with
 | [.Name x _, .Name y _, .Name z _] => decide (¬ (c.names.lookup x = some .local ∧ c.names.lookup y = some .local ∧ c.names.lookup z = some .local))
 | _ => false
theorem zi8 {c : Ctx} {X : Cx} (ok : CtxOk c X) {ts vs : List Expr} {k k2 : Nat} {p p2 : Pos} (h : parNo c ts = true) : swappedStores [.Tuple ts k p] (.Tuple vs k2 p2) X.env = pure none := by
 unfold parNo at h
 split at h
 · have := of_decide_eq_true h
   rw [← ok.names] at this
   exact zgP this
 · cases h
def asgPar3 (c : Ctx) (x y z : Str) (px py pz : Pos) (a b d : Expr) : Option SF := if parOk c x y z px py pz a b d = true then (argE (cE 60) c [a, b, d]).bind fun fa => (slotOf c.N x).bind fun i => (slotOf c.N y).bind fun j => (slotOf c.N z).map fun k =>
 sAsg (eN gTup fa) (gTp 3 (gsCons (gNm i) (gsCons (gNm j) (gsCons (gNm k) gsNil)))) else none
def asgPar (c : Ctx) (ts : List Expr) (e : Expr) : Option SF := match e with
 | .Tuple vs _ _ => match ts with
   | [.Name x px, .Name y py, .Name z pz] => match vs with
     | [a, b, d] => asgPar3 c x y z px py pz a b d
     | _ => none
   | _ => none
 | _ => none
def isLc : Expr → Bool
 | .ListComp _ _ _ _ => true
 | _ => false
def asg1 (c : Ctx) (tg e : Expr) : Option SF :=
 if notComp e = true then
   if notTup e = true then match tg with
     | .Subscript o i _ => asgSub c o i e
     | tg => asgTo c tg e
   else match tg with
     | .Name x _ => asgSt c x e
     | .Tuple ts k p => if parNo c ts = true then asgTo c (.Tuple ts k p) e else asgPar c ts e
     | _ => none
 else match tg with
   | .Name x _ => asgLc c x e
   | .Tuple ts k p => if isLc e = true then asgTo c (.Tuple ts k p) e else none
   | _ => none
def isDoc (e : Expr) : Bool := match e with
 | .Constant k _ _ => match k with
   | .str _ => true
   | _ => false
 | _ => false
def expS (c : Ctx) (e : Expr) : Option SF := if isDoc e = true then some sPass else if notComp e = true then (cE 60 c e).map sDrop else none
mutual
def cS : Nat → Ctx → Stmt → Option SF
 | 0, _, _ => none
 | n + 1, c, st => match st with
   | .Pass _ => some sPass
   | .Break _ => some sBrk
   | .Continue _ => some sCnt
   | .Expr e _ => expS c e
   | .Return o _ => match o with
     | none => some sRetN
     | some e => (cE 60 c e).map sRet
   | .Raise _ _ _ => some sNever
   | .Assign tgs e _ => match tgs with
     | [] => none
     | tg :: r => match r with
       | [] => asg1 c tg e
       | _ :: _ => none
   | .If t a b _ => (cT 60 c t).bind fun ft => (cSs n c a).bind fun fa => (cSs n c b).map fun fb => sIf ft fa fb
   | .While t a o _ => match o with
     | [] => (cT 60 c t).bind fun ft => (cSs n c a).map fun fa => sWh ft fa
     | _ :: _ => none
   | .For tg it a o _ => match o with
     | [] => if notSet it = true then (iterE (cE 60) c tg it).bind fun fi => (targE c tg).bind fun fg => (cSs n c a).map fun fa => sFor fi fg fa else none
     | _ :: _ => none
   | _ => none
def cSs : Nat → Ctx → List Stmt → Option SF
 | 0, _, _ => none
 | _ + 1, _, [] => some sPass
 | n + 1, c, st :: r => (cS n c st).bind fun f => (cSs n c r).map fun g => sSeq f g
end
theorem zfY {c : Ctx} {X : Cx} (ok : CtxOk c X) {x : Str} {px spos : Pos} {e : Expr} {f : SF} (h : asgLc c x e = some f) : SS X (.Assign [.Name x px] e spos) f := by
 have hE := (zbR 60).1
 have hT := (zbR 60).2
 cases e with
 | ListComp elt gs scope p => cases gs with
   | nil => exact nomatch (show (none : Option SF) = some f from h)
   | cons g r => cases r with
     | cons _ _ => exact nomatch (show (none : Option SF) = some f from h)
     | nil =>
       change (if x ∈ c.sts then (slotOf c.N x).bind fun i => (compE (cE 60) (cT 60) c elt g scope).map fun f => sAsg f (gNm i) else none) = some f at h
       by_cases hx : x ∈ c.sts
       · rw [if_pos hx] at h
         obtain ⟨i, e0, h⟩ := Option.bind_eq_some_iff.mp h
         obtain ⟨f1, e1, rfl⟩ := Option.map_eq_some_iff.mp h
         obtain ⟨fi, fg, ft, fe, rfl, eg, cok, hi, hY, hfs⟩ := zeI hE hT ok e1
         obtain ⟨s1, s2⟩ := ok.st x hx
         have nd : X.N.Nodup := by rw [ok.N]; exact ok.nd
         have sl : X.N[i]? = some x := by rw [ok.N]; exact zaN e0
         rw [eg]
         have key : swapsWith (.ListComp elt [⟨g.target, g.iter, g.ifs, 0⟩] scope p) (some (.Name x px)) spos.line X.env = pure (X.env.blockKind == ScopeKind.function && X.env.kindOf x == some NameKind.local && px.line == p.line && !(scope.names.any fun y => y.1 == x && (y.2 == NameKind.local || y.2 == NameKind.cell))) := rfl
         cases hb : (X.env.blockKind == ScopeKind.function && X.env.kindOf x == some NameKind.local && px.line == p.line && !(scope.names.any fun y => y.1 == x && (y.2 == NameKind.local || y.2 == NameKind.cell))) with
         | true =>
           rw [hb] at key
           rw [Bool.and_eq_true, Bool.and_eq_true, Bool.and_eq_true] at hb
           have hk : X.env.kindOf x = some .local := by simpa using hb.1.1.2
           exact ziC nd sl hk key ok.calm cok hi hY hfs
         | false =>
           rw [hb] at key
           exact zjJ nd sl s1 (zme ok.calm cok hi hY hfs) key s2
       · rw [if_neg hx] at h; cases h
 | _ => exact nomatch (show (none : Option SF) = some f from h)
theorem zfu {c : Ctx} {X : Cx} (ok : CtxOk c X) {ts : List Expr} {k0 : Nat} {p spos : Pos} {e : Expr} {f : SF} (h : asgPar c ts e = some f) : SS X (.Assign [.Tuple ts k0 p] e spos) f := by
 have hE := (zbR 60).1
 unfold asgPar at h
 split at h
 · rename_i vs k1 p1
   split at h
   · rename_i x px y py z pz
     split at h
     · rename_i a b d
       unfold asgPar3 at h
       by_cases hp : parOk c x y z px py pz a b d = true
       · rw [if_pos hp] at h
         unfold parOk at hp
         obtain ⟨q1, q2, q3, q4, q5, q6, q7, q8, q9, q10, q11, q12, q13⟩ := of_decide_eq_true hp
         obtain ⟨fa, e0, h⟩ := Option.bind_eq_some_iff.mp h
         obtain ⟨i, e1, h⟩ := Option.bind_eq_some_iff.mp h
         obtain ⟨j, e2, h⟩ := Option.bind_eq_some_iff.mp h
         obtain ⟨k, e3, rfl⟩ := Option.map_eq_some_iff.mp h
         rw [← ok.names] at q1 q2 q3
         have apart : ∀ {x y : Str} {i j : Nat}, x ≠ y → slotOf c.N x = some i → slotOf c.N y = some j → i ≠ j := fun hn a b q => by
           subst q
           have := (zaN a).symm.trans (zaN b)
           cases this
           exact hn rfl
         exact zj7 ok.calm (by rw [ok.N]; exact ok.nd) (by rw [ok.N]; exact zaN e1) (by rw [ok.N]; exact zaN e2) (by rw [ok.N]; exact zaN e3) (apart q6 e1 e2) (apart q7 e1 e3) (apart q8 e2 e3) q1 q2 q3 (zaM hE ok e0).1
           (swapped3 ok.kind q1 q2 q3 q4 q5 q6 q7 q8 q9 q10 q11 q12 q13)
       · rw [if_neg hp] at h; cases h
     · cases h
   · cases h
 · cases h
theorem zgT {c : Ctx} {X : Cx} (ok : CtxOk c X) {tg e : Expr} {spos : Pos} {f : SF} (h : asg1 c tg e = some f) : SS X (.Assign [tg] e spos) f := by
 have hE := (zbR 60).1
 unfold asg1 at h
 by_cases hc : notComp e = true
 · rw [if_pos hc] at h
   by_cases ht : notTup e = true
   · rw [if_pos ht] at h
     cases tg with
     | Subscript o i p =>
       change (if plainIx i = true then (cE 60 c e).bind fun fe => (cE 60 c o).bind fun fo => (cE 60 c i).map fun fi => sAsg fe (gSt fo fi) else none) = some f at h
       by_cases hi : plainIx i = true
       · rw [if_pos hi] at h
         obtain ⟨fe, e1, h⟩ := Option.bind_eq_some_iff.mp h
         obtain ⟨fo, e2, h⟩ := Option.bind_eq_some_iff.mp h
         obtain ⟨fi, e3, rfl⟩ := Option.map_eq_some_iff.mp h
         refine zfs (hE c X _ fe ok e1) (zl4 ok.un (hE c X _ fo ok e2) (hE c X _ fi ok e3) fun v => ?_) (by unfold swapsWithSole; exact zbH hc _ _ _) (zeO rfl _ _) rfl
         cases i with
         | Slice _ _ _ _ => cases hi
         | _ => rfl
       · rw [if_neg hi] at h; cases h
     | Name _ _ =>
       obtain ⟨fe, e1, h⟩ := Option.bind_eq_some_iff.mp h
       obtain ⟨fg, e2, rfl⟩ := Option.map_eq_some_iff.mp h
       exact zfs (hE c X _ fe ok e1) (zbG ok e2) (by unfold swapsWithSole; exact zbH hc _ _ _) (zeO rfl _ _) rfl
     | Tuple _ _ _ =>
       obtain ⟨fe, e1, h⟩ := Option.bind_eq_some_iff.mp h
       obtain ⟨fg, e2, rfl⟩ := Option.map_eq_some_iff.mp h
       exact zfs (hE c X _ fe ok e1) (zbG ok e2) (by unfold swapsWithSole; exact zbH hc _ _ _) (zgZ ht _ _ _ _) rfl
     | _ =>
       obtain ⟨fe, e1, h⟩ := Option.bind_eq_some_iff.mp h
       obtain ⟨fg, e2, h⟩ := Option.map_eq_some_iff.mp h
       cases e2
   · rw [if_neg ht] at h
     cases tg with
     | Name x px =>
       change (if x ∈ c.sts then (cE 60 c e).bind fun fe => (slotOf c.N x).map fun i => sAsg fe (gNm i) else none) = some f at h
       by_cases hx : x ∈ c.sts
       · rw [if_pos hx] at h
         obtain ⟨fe, e1, h⟩ := Option.bind_eq_some_iff.mp h
         obtain ⟨i, e2, rfl⟩ := Option.map_eq_some_iff.mp h
         obtain ⟨s1, s2⟩ := ok.st x hx
         exact zjJ (by rw [ok.N]; exact ok.nd) (by rw [ok.N]; exact zaN e2) s1 (hE c X _ fe ok e1) (zbH hc _ _ _) s2
       · rw [if_neg hx] at h; cases h
     | Tuple ts k0 p =>
       change (if parNo c ts = true then asgTo c (.Tuple ts k0 p) e else asgPar c ts e) = some f at h
       by_cases hp : parNo c ts = true
       · rw [if_pos hp] at h
         obtain ⟨fe, e1, h⟩ := Option.bind_eq_some_iff.mp h
         obtain ⟨fg, e2, rfl⟩ := Option.map_eq_some_iff.mp h
         cases e with
         | Tuple vs k2 p2 => exact zfs (hE c X _ fe ok e1) (zbG ok e2) (by unfold swapsWithSole; exact zbH hc _ _ _) (zi8 ok hp) rfl
         | _ => exact absurd rfl ht
       · rw [if_neg hp] at h
         exact zfu ok h
     | _ => exact nomatch (show (none : Option SF) = some f from h)
 · rw [if_neg hc] at h
   cases tg with
   | Name x px => exact zfY ok h
   | Tuple ts k0 p =>
     change (if isLc e = true then asgTo c (.Tuple ts k0 p) e else none) = some f at h
     by_cases hl : isLc e = true
     · rw [if_pos hl] at h
       obtain ⟨fe, e1, h⟩ := Option.bind_eq_some_iff.mp h
       obtain ⟨fg, e2, rfl⟩ := Option.map_eq_some_iff.mp h
       cases e with
       | ListComp _ _ _ _ => exact zfs (hE c X _ fe ok e1) (zbG ok e2) rfl rfl rfl
       | _ => cases hl
     · rw [if_neg hl] at h; cases h
   | _ => exact nomatch (show (none : Option SF) = some f from h)
theorem zhr {c : Ctx} {X : Cx} (ok : CtxOk c X) {e : Expr} {p : Pos} {f : SF} (h : expS c e = some f) : SS X (.Expr e p) f := by
 have hE := (zbR 60).1
 unfold expS at h
 by_cases hd : isDoc e = true
 · rw [if_pos hd] at h
   cases h
   cases e with
   | Constant k a b => cases k with
     | str _ => exact zlW
     | _ => cases hd
   | _ => cases hd
 · rw [if_neg hd] at h
   by_cases hc : notComp e = true
   · rw [if_pos hc] at h
     obtain ⟨fe, e1, rfl⟩ := Option.map_eq_some_iff.mp h
     exact zj8 (hE c X _ fe ok e1) (zbH hc _ _ _)
   · rw [if_neg hc] at h; cases h
theorem ze7 : ∀ n c X, CtxOk c X → PassesOwn (model X.prog X.w) X.A X.env X.xe → (∀ st f, cS n c st = some f → SS X st f) ∧ ∀ sts f, cSs n c sts = some f → SSs X sts f
 | 0, c, X, ok, hp => ⟨fun _ _ h => by simp [cS] at h, fun _ _ h => by simp [cSs] at h⟩
 | n + 1, c, X, ok, hp => by
   obtain ⟨ih1, ih2⟩ := ze7 n c X ok hp
   have hE := (zbR 60).1
   have hT := (zbR 60).2
   refine ⟨fun st f h => ?_, fun sts f h => ?_⟩
   · unfold cS at h
     cases st with
     | Pass _ => cases h; exact zj6
     | Break _ => cases h; exact zlY
     | Continue _ => cases h; exact zlX
     | Expr e p => exact zhr ok h
     | Return o p => cases o with
       | none => cases h; exact zj5
       | some e =>
         obtain ⟨fe, e1, rfl⟩ := Option.map_eq_some_iff.mp h
         exact zlT (hE c X _ fe ok e1)
     | Raise _ _ _ => cases h; exact ziD
     | Assign tgs e p => cases tgs with
       | nil => exact nomatch (show (none : Option SF) = some f from h)
       | cons tg r => cases r with
         | nil => exact zgT ok h
         | cons _ _ => exact nomatch (show (none : Option SF) = some f from h)
     | If t a b p =>
       obtain ⟨ft, e0, h⟩ := Option.bind_eq_some_iff.mp h
       obtain ⟨fa, e1, h⟩ := Option.bind_eq_some_iff.mp h
       obtain ⟨fb, e2, rfl⟩ := Option.map_eq_some_iff.mp h
       exact zny (hT c X _ ft ok e0) (ih2 _ fa e1) (ih2 _ fb e2)
     | While t a o p => cases o with
       | cons _ _ => exact nomatch (show (none : Option SF) = some f from h)
       | nil =>
         obtain ⟨ft, e0, h⟩ := Option.bind_eq_some_iff.mp h
         obtain ⟨fa, e1, rfl⟩ := Option.map_eq_some_iff.mp h
         exact ziB hp (hT c X _ ft ok e0) (ih2 _ fa e1)
     | For tg it a o p => cases o with
       | cons _ _ => exact nomatch (show (none : Option SF) = some f from h)
       | nil =>
         change (if notSet it = true then (iterE (cE 60) c tg it).bind fun fi => (targE c tg).bind fun fg => (cSs n c a).map fun fa => sFor fi fg fa else none) = some f at h
         by_cases hn : notSet it = true
         · rw [if_pos hn] at h
           obtain ⟨fi, e0, h⟩ := Option.bind_eq_some_iff.mp h
           obtain ⟨fg, e1, h⟩ := Option.bind_eq_some_iff.mp h
           obtain ⟨fa, e2, rfl⟩ := Option.map_eq_some_iff.mp h
           exact zlV hp ok.calm (zeH hE ok e0) (zbG ok e1) (ih2 _ fa e2) (zfy hn X.env)
         · rw [if_neg hn] at h; cases h
     | _ => exact nomatch (show (none : Option SF) = some f from h)
   · cases sts with
     | nil => rw [cSs] at h; cases h; exact zlU
     | cons st r =>
       rw [cSs] at h
       simp only [Option.bind_eq_some_iff, Option.map_eq_some_iff] at h
       obtain ⟨f1, e1, g1, e2, rfl⟩ := h
       exact zj9 (ih1 _ f1 e1) (ih2 _ g1 e2)
end MX
end
section
set_option autoImplicit false
namespace MX
open PySem PySem.Spec PyProof.Rows L2
theorem FnAt.mono {P : Program} {w : World} {K : PySem.W.Frag} {mg : Str → Option Value} {base : Heap} {j k : Nat} {x : Str} {n : Nat} {φ : GN} (h : FnAt P w K mg base j x n φ) (hjk : j ≤ k) : FnAt P w K mg base k x n φ :=
 let ⟨f, fd, ps, a, b, c, d⟩ := h
 ⟨f, fd, ps, a, b, c, d.mono hjk⟩
def ownN (names : List (Str × NameKind)) : List Str := (names.filter fun y => y.2 == .local || y.2 == .cell).map (·.1)
def mkC (st : Stmt) (fns : List (Str × Nat × GN)) (blt : List Str) : Ctx := { N := ownN (defScope st).names, names := (defScope st).names, sts := ownN (defScope st).names, fns := fns, blt := blt }
def startD (N : List Str) (ds : List D) : Sg := ds.map some ++ List.replicate (N.length - ds.length) none
theorem zfr {K : PySem.W.Frag} {H : Hp} {α : List Addr} {N : List Str} {ds : List D} {vs : List V} (r : Reps K H α ds vs) : VarsR K H α (startD N ds) (start N vs) := by
 have hl := r.length
 refine ⟨by simp [startD, L2.start, hl], fun i d e => ?_⟩
 have hi : i < ds.length := by
   unfold startD at e
   by_cases hi : i < ds.length
   · exact hi
   · rw [List.getElem?_append_right (by simpa using hi), List.getElem?_replicate] at e
     split at e <;> cases e
 have ed : ds[i]? = some d := by
   unfold startD at e
   rw [List.getElem?_append_left (by simpa using hi), List.getElem?_map] at e
   cases q : ds[i]? with
   | none => rw [q] at e; cases e
   | some z => rw [q] at e; cases e; rfl
 obtain ⟨v, h1, h2⟩ := r.get ed
 refine ⟨v, ?_, h2⟩
 unfold L2.start
 rw [List.getElem?_append_left (by rw [List.length_map, ← hl]; exact hi), List.getElem?_map, h1]
 rfl
def Ends1 (r : Option (Fl × Sg × So)) (z : D) (S S' : So) : Prop := ∃ fl σ' S'', r = some (fl, σ', S'') ∧ (fl = .rt z ∨ (fl = .nx ∧ z = .non)) ∧ S' = S''.take S'.length ∧ S.length ≤ S'.length ∧ D.lo S'.length z = true ∧ ∀ o ∈ S', O.lo S'.length o = true
theorem zeM {names : List (Str × NameKind)} (hu : ∀ y ∈ names, names.lookup y.1 = some y.2) {x : Str} (h : x ∈ ownN names) : names.lookup x = some .local ∨ names.lookup x = some .cell := by
 unfold ownN at h
 obtain ⟨y, hy, rfl⟩ := List.mem_map.mp h
 obtain ⟨h1, h2⟩ := List.mem_filter.mp hy
 rw [Bool.or_eq_true] at h2
 have e := hu y h1
 rcases h2 with q | q
 · exact .inl (by rw [e]; congr 1; simpa using q)
 · exact .inr (by rw [e]; congr 1; simpa using q)
section
variable {P : Program} {w : World} {K : PySem.W.Frag} {mg : Str → Option Value} {base : Heap}
theorem zlh {x qual : Str} {st : Stmt} {f : Addr} {fd : FuncData} {ps : List Str} {k m : Nat} {fns : List (Str × Nat × GN)} {blt : List Str} {fb : SF} {φ : GN}
   (F : Fun K x qual st f fd) (S : FnScope (ownN (defScope st).names) ps (defScope st)) (hu : (defScope st).names.all (fun y => decide ((defScope st).names.lookup y.1 = some y.2)) = true)
   (hfns : ∀ y n ψ, fns.lookup y = some (n, ψ) → FnAt P w K mg base k y n ψ) (hblt : ∀ y ∈ blt, mg y = none)
   (hb : cSs m (mkC st fns blt) (defBody st) = some fb)
   (hφ : ∀ ds S₀ z S', WF S₀ → ds.length = ps.length → φ ds S₀ = some (z, S') → Ends1 (fb (startD (ownN (defScope st).names) ds) S₀) z S₀ S') :
   FnOk P w K mg base CX0 (k + 1) f fd ps (spOf K ps.length φ) := by
 refine F.ok S (fun vs H Q E h => h.1) (fun cdv A outer s H vs Q E hr h => ?_)
 obtain ⟨hlen, S₀, α, ds, z, S', hs, r, e, kk⟩ := h
 have ok : CtxOk (mkC st fns blt) (cxOf CX0 P w K mg base (ownN (defScope st).names) qual (defScope st) f cdv A outer s H E).nox := by
   refine ⟨rfl, S.nd, rfl, S.kind, fun y hy => ?_, fun y n ψ q => ?_, hblt, rfl, hr.units, fun _ _ _ h => (nomatch h), fun _ _ _ h => (nomatch h)⟩
   · rw [List.all_eq_true] at hu
     exact ⟨zeM (fun z hz => of_decide_eq_true (hu z hz)) hy, .inl rfl⟩
   · obtain ⟨f', fd', ps', a, b, c, d⟩ := hfns y n ψ q
     exact ⟨f', fd', ps', k, a, b, c, d, hr⟩
 refine ⟨rdS K fb, (ze7 m _ _ ok PassesOwn.never).2 _ fb hb, ?_⟩
 obtain ⟨fl, σ', S'', e1, e2, e3, e4, e5, e6⟩ := hφ ds S₀ z S' hs.wf (by rw [r.length]; exact hlen) e
 refine ⟨_, S₀, α, fl, σ', S'', zfr r, hs, e1, fun σ2 H2 α2 v2 s2 x2 => ?_⟩
 have s3 : StoreR K H2 (α2.take S'.length) S' := by
   have := s2.cut S'.length (by rw [← e3]; exact e6)
   rw [← e3] at this; exact this
 have x3 : Ext K H α H2 (α2.take S'.length) := ⟨x2.tups, fun n a q => by
   have hn : n < S'.length := by
     have := (List.getElem?_eq_some_iff.mp q).1
     rw [hs.len] at this; omega
   rw [List.getElem?_take_of_lt hn]; exact x2.pre n a q⟩
 rcases e2 with rfl | ⟨rfl, rfl⟩
 · exact fun v rv => kk v H2 _ s3 x3 (rv.cut _ e5)
 · exact kk .non H2 _ s3 x3 .non
theorem zn4 {x qual : Str} {st : Stmt} {f : Addr} {fd : FuncData} {ps : List Str} {k m : Nat} {fns : List (Str × Nat × GN)} {blt : List Str} {fb : SF} {φ : GN}
   (F : Fun K x qual st f fd) (hm : mg x = some (.ref f)) (hbd : Binds K fd ps []) (S : FnScope (ownN (defScope st).names) ps (defScope st)) (hu : (defScope st).names.all (fun y => decide ((defScope st).names.lookup y.1 = some y.2)) = true)
   (hfns : ∀ y n ψ, fns.lookup y = some (n, ψ) → FnAt P w K mg base k y n ψ) (hblt : ∀ y ∈ blt, mg y = none)
   (hb : cSs m (mkC st fns blt) (defBody st) = some fb)
   (hφ : ∀ ds S₀ z S', WF S₀ → ds.length = ps.length → φ ds S₀ = some (z, S') → Ends1 (fb (startD (ownN (defScope st).names) ds) S₀) z S₀ S') :
   FnAt P w K mg base (k + 1) x ps.length φ := ⟨f, fd, ps, hm, F.kp, hbd, zlh F S hu hfns hblt hb hφ⟩
end
section
variable {P : Program} {w : World} {K : PySem.W.Frag} {mg : Str → Option Value} {base : Heap}
end
def spLaw (K : PySem.W.Frag) (n : Nat) : Sp := fun vs H Q _ => ∃ (a : Addr) (ns : List Int), vs = [.ref a] ∧ FzL K H a (ns.map V.int) ∧ ns.length ≤ n ∧ ∀ H', Q (.bl true) H'
section
variable {P : Program} {w : World} {K : PySem.W.Frag} {mg : Str → Option Value} {base : Heap}
theorem zjd {x qual : Str} {st : Stmt} {f : Addr} {fd : FuncData} {p : Str} {k m n : Nat} {fns : List (Str × Nat × GN)} {blt : List Str} {fb : SF}
   (F : Fun K x qual st f fd) (S : FnScope (ownN (defScope st).names) [p] (defScope st)) (hu : (defScope st).names.all (fun y => decide ((defScope st).names.lookup y.1 = some y.2)) = true)
   (hfns : ∀ y n ψ, fns.lookup y = some (n, ψ) → FnAt P w K mg base k y n ψ) (hblt : ∀ y ∈ blt, mg y = none)
   (hb : cSs m (mkC st fns blt) (defBody st) = some fb)
   (hφ : ∀ ns : List Int, ns.length ≤ n → ∃ σ' S'', fb (startD (ownN (defScope st).names) [.ref 0]) [.frz (ns.map D.int)] = some (.rt (.bl true), σ', S'')) :
   FnOk P w K mg base CX0 (k + 1) f fd [p] (spLaw K n) := by
 refine F.ok S (fun vs H Q E h => ?_) (fun cdv A outer s H vs Q E hr h => ?_)
 · obtain ⟨a, ns, rfl, _⟩ := h; rfl
 obtain ⟨a, ns, rfl, hz, hl, kk⟩ := h
 have ok : CtxOk (mkC st fns blt) (cxOf CX0 P w K mg base (ownN (defScope st).names) qual (defScope st) f cdv A outer s H E).nox := by
   refine ⟨rfl, S.nd, rfl, S.kind, fun y hy => ?_, fun y n ψ q => ?_, hblt, rfl, hr.units, fun _ _ _ h => (nomatch h), fun _ _ _ h => (nomatch h)⟩
   · rw [List.all_eq_true] at hu
     exact ⟨zeM (fun z hz => of_decide_eq_true (hu z hz)) hy, .inl rfl⟩
   · obtain ⟨f', fd', ps', a, b, c, d⟩ := hfns y n ψ q
     exact ⟨f', fd', ps', k, a, b, c, d, hr⟩
 refine ⟨rdS K fb, (ze7 m _ _ ok PassesOwn.never).2 _ fb hb, ?_⟩
 obtain ⟨σ', S'', e⟩ := hφ ns hl
 have hs : StoreR K H [a] [.frz (ns.map D.int)] := by
   refine ⟨rfl, fun i j o o' b h1 h2 w1 w2 _ _ => ?_, fun i o b h1 h2 => ?_⟩
   · cases i with
     | zero => cases h1; cases w1
     | succ i => simp at h1
   · cases i with
     | zero => cases h1; cases h2; exact ⟨_, hz, zeb ns⟩
     | succ i => simp at h1
 refine ⟨_, _, [a], _, σ', S'', zfr (K := K) (α := [a]) (.cons (.ref rfl) .nil), hs, e, fun σ2 H2 α2 v2 s2 x2 v rv => ?_⟩
 cases rv
 exact kk H2
end
end MX
end
section
set_option autoImplicit false
namespace MX
open PySem L2
theorem zc7 {nx : Nat → So → Option (Option D)} {g : GF} {t : TF} {fe : EF} {S : So} {xs : List D} (T : Sg → Prop) (p : D → Bool) (h : D → D) (hnx : ∀ i : Nat, nx i S = some xs[i]?)
   (hstep : ∀ d ∈ xs, ∀ τ, T τ → ∃ τ', g d τ S = some (τ', S) ∧ T τ' ∧ t τ' S = some (p d, S) ∧ (p d = true → fe τ' S = some (h d, S))) :
   ∀ (n i : Nat) (τ : Sg) (acc : List D), T τ → i + n = xs.length → lcN nx g t fe n i τ S acc = some (acc ++ ((xs.drop i).filter p).map h, S)
 | 0, i, τ, acc, hT, hl => by
   unfold lcN
   rw [hnx, List.getElem?_eq_none (by omega), List.drop_of_length_le (by omega)]
   simp
 | n + 1, i, τ, acc, hT, hl => by
   have hi : i < xs.length := by omega
   unfold lcN
   rw [hnx, List.getElem?_eq_getElem hi, List.drop_eq_getElem_cons hi]
   obtain ⟨τ', h1, h2, h3, h4⟩ := hstep xs[i] (List.getElem_mem hi) τ hT
   simp only [h1, Option.bind_some, h3]
   cases hp : p xs[i] with
   | false =>
     simp only [Bool.false_eq_true, if_false]
     rw [zc7 T p h hnx hstep n (i + 1) τ' acc h2 (by omega), List.filter_cons_of_neg (by simp [hp])]
   | true =>
     simp only [if_true, h4 hp, Option.bind_some]
     rw [zc7 T p h hnx hstep n (i + 1) τ' _ h2 (by omega), List.filter_cons_of_pos hp]
     simp
theorem zdU {nx : Nat → So → Option (Option D)} {g : GF} {f : SF} {xs : List D} (P : Nat → Sg → So → Prop) (hnx : ∀ (i : Nat) σ S, P i σ S → nx i S = some xs[i]?)
   (hstep : ∀ (i : Nat) d σ S, xs[i]? = some d → P i σ S → ∃ σ1 S1 fl σ2 S2, g d σ S = some (σ1, S1) ∧ f σ1 S1 = some (fl, σ2, S2) ∧ (fl = .nx ∨ fl = .ct) ∧ P (i + 1) σ2 S2) :
   ∀ (n i : Nat) (σ : Sg) (S : So), P i σ S → i + n = xs.length → ∃ σ' S', forN nx g f n i σ S = some (.nx, σ', S') ∧ P xs.length σ' S'
 | 0, i, σ, S, hP, hl => by
   unfold forN
   rw [hnx i σ S hP, List.getElem?_eq_none (by omega)]
   have : i = xs.length := by omega
   subst this
   exact ⟨σ, S, rfl, hP⟩
 | n + 1, i, σ, S, hP, hl => by
   have hi : i < xs.length := by omega
   unfold forN
   rw [hnx i σ S hP, List.getElem?_eq_getElem hi]
   obtain ⟨σ1, S1, fl, σ2, S2, h1, h2, h3, h4⟩ := hstep i xs[i] σ S (List.getElem?_eq_getElem hi) hP
   obtain ⟨σ', S', e1, e2⟩ := zdU P hnx hstep n (i + 1) σ2 S2 h4 (by omega)
   refine ⟨σ', S', ?_, e2⟩
   simp only [h1, Option.bind_some, h2]
   rcases h3 with rfl | rfl <;> exact e1
theorem zfE (ns : List Int) : intsD (ns.map D.int) = some ns := by
 induction ns with
 | nil => rfl
 | cons n r ih => simp [intsD, ih]
end MX
end
section
set_option autoImplicit false
namespace MX
open PySem PySem.Spec PyProof.Rows L2
def stD (n : Nat) (ds : List D) : Sg := ds.map some ++ List.replicate (n - ds.length) none
open Classical in
def fnOf (n : Nat) (fb : SF) : GN := fun ds S => match fb (stD n ds) S with
 | some (.rt z, _, S'') => if S''.take S.length = S ∧ D.lo S.length z = true then some (z, S) else if S.length ≤ S''.length ∧ D.lo S''.length z = true ∧ WF S'' then some (z, S'') else none
 | some (.nx, _, S'') => if S''.take S.length = S then some (.non, S) else if S.length ≤ S''.length ∧ WF S'' then some (.non, S'') else none
 | _ => none
theorem zh5 {N : List Str} {n : Nat} {fb : SF} (hn : N.length = n) {ds : List D} {S : So} {z : D} {S' : So} (hS : WF S) (h : fnOf n fb ds S = some (z, S')) : Ends1 (fb (startD N ds) S) z S S' := by
 have e0 : startD N ds = stD n ds := by unfold startD stD; rw [hn]
 rw [e0]
 unfold fnOf at h
 split at h
 · rename_i z' σ' S'' e
   split at h
   · rename_i hc
     cases h
     exact ⟨_, _, _, e, .inl rfl, hc.1.symm, Nat.le_refl _, hc.2, hS⟩
   · split at h
     · rename_i hc
       cases h
       exact ⟨_, _, _, e, .inl rfl, by simp, hc.1, hc.2.1, hc.2.2⟩
     · cases h
 · rename_i σ' S'' e
   split at h
   · rename_i hc
     cases h
     exact ⟨_, _, _, e, .inr ⟨rfl, rfl⟩, hc.symm, Nat.le_refl _, by simp [D.lo], hS⟩
   · split at h
     · rename_i hc
       cases h
       exact ⟨_, _, _, e, .inr ⟨rfl, rfl⟩, by simp, hc.1, by simp [D.lo], hc.2⟩
     · cases h
 · cases h
theorem zae {n : Nat} {fb : SF} {ds : List D} {S : So} {z : D} {σ' : Sg} {S' : So} (h : fb (stD n ds) S = some (.rt z, σ', S')) (hS : S'.take S.length = S) (hz : D.lo S.length z = true) : fnOf n fb ds S = some (z, S) := by
 unfold fnOf
 rw [h]
 simp only
 rw [if_pos ⟨hS, hz⟩]
theorem zeh {n : Nat} {fb : SF} {ds : List D} {S : So} {z : D} {σ' : Sg} {S' : So} (h : fb (stD n ds) S = some (.rt z, σ', S')) (hne : ¬ (S'.take S.length = S ∧ D.lo S.length z = true)) (hl : S.length ≤ S'.length) (hz : D.lo S'.length z = true) (hw : WF S') : fnOf n fb ds S = some (z, S') := by
 unfold fnOf
 rw [h]
 simp only
 rw [if_neg hne, if_pos ⟨hl, hz, hw⟩]
def DefK (K : PySem.W.Frag) (x : Str) (st : Stmt) : Prop := ∃ f fd, PySem.W.nsIn K mainGlobals x = some (some (.ref f)) ∧ Fun K x x st f fd
theorem DefK.mk' {K : PySem.W.Frag} {x : Str} {st : Stmt} {f : Addr} {oc : Value} {od an : Option Addr} {osl : Array (Option Value)} {kV doc pm cdv ct : Value} (a : PySem.W.nsIn K mainGlobals x = some (some (.ref f)))
   (l : K.lookup f = some ⟨oc, od, .func (PySem.W.fnOf x x (defArgs st) (defBody st) (defScope st) .none kV doc pm an cdv ct), osl⟩)
   (c : PySem.W.codeIn K cdv x = true) (k : PySem.W.keepIn K (.ref f) = true) : DefK K x st := ⟨f, _, a, zm9 l c k⟩
def FnsOk (P : Program) (w : World) (K : PySem.W.Frag) (mg : Str → Option Value) (base : Heap) (k : Nat) (fns : List (Str × Nat × GN)) : Prop := ∀ y n ψ, fns.lookup y = some (n, ψ) → FnAt P w K mg base k y n ψ
section
variable {P : Program} {w : World} {K : PySem.W.Frag} {mg : Str → Option Value} {base h : Heap}
theorem FnsOk.nil {k : Nat} : FnsOk P w K mg base k [] := fun _ _ _ e => by cases e
theorem FnsOk.snoc {k n : Nat} {x : Str} {φ : GN} {fns : List (Str × Nat × GN)} (hs : FnsOk P w K mg base k fns) (h : FnAt P w K mg base (k + 1) x n φ) : FnsOk P w K mg base (k + 1) ((x, n, φ) :: fns) := fun y m ψ e => by
 rw [List.lookup_cons] at e
 split at e
 · rename_i q
   cases e
   have : y = x := by simpa using q
   subst this
   exact h
 · exact (hs y m ψ e).mono (Nat.le_succ _)
def BindK (x : Str) (st : Stmt) (ps : List Str) : Prop := ∀ (kV doc pm : Value) (an : Option Addr) (cdv ct : Value) (us : List Value), us.length = ps.length → bindArgs (PySem.W.fnOf x x (defArgs st) (defBody st) (defScope st) .none kV doc pm an cdv ct) ⟨us, []⟩ = pure (ps.zip us)
theorem bind1 {x : Str} {st : Stmt} {p0 : Str} (h : ∀ (kV doc pm : Value) (an : Option Addr) (cdv ct : Value) (u0 : Value), bindArgs (PySem.W.fnOf x x (defArgs st) (defBody st) (defScope st) .none kV doc pm an cdv ct) ⟨[u0], []⟩ = pure ([p0].zip [u0])) : BindK x st [p0] := fun kV doc pm an cdv ct us hl => match us, hl with
 | [u0], _ => h kV doc pm an cdv ct u0
theorem bind2 {x : Str} {st : Stmt} {p0 p1 : Str} (h : ∀ (kV doc pm : Value) (an : Option Addr) (cdv ct : Value) (u0 u1 : Value), bindArgs (PySem.W.fnOf x x (defArgs st) (defBody st) (defScope st) .none kV doc pm an cdv ct) ⟨[u0, u1], []⟩ = pure ([p0, p1].zip [u0, u1])) : BindK x st [p0, p1] := fun kV doc pm an cdv ct us hl => match us, hl with
 | [u0, u1], _ => h kV doc pm an cdv ct u0 u1
theorem bind3 {x : Str} {st : Stmt} {p0 p1 p2 : Str} (h : ∀ (kV doc pm : Value) (an : Option Addr) (cdv ct : Value) (u0 u1 u2 : Value), bindArgs (PySem.W.fnOf x x (defArgs st) (defBody st) (defScope st) .none kV doc pm an cdv ct) ⟨[u0, u1, u2], []⟩ = pure ([p0, p1, p2].zip [u0, u1, u2])) : BindK x st [p0, p1, p2] := fun kV doc pm an cdv ct us hl => match us, hl with
 | [u0, u1, u2], _ => h kV doc pm an cdv ct u0 u1 u2
theorem bind4 {x : Str} {st : Stmt} {p0 p1 p2 p3 : Str} (h : ∀ (kV doc pm : Value) (an : Option Addr) (cdv ct : Value) (u0 u1 u2 u3 : Value), bindArgs (PySem.W.fnOf x x (defArgs st) (defBody st) (defScope st) .none kV doc pm an cdv ct) ⟨[u0, u1, u2, u3], []⟩ = pure ([p0, p1, p2, p3].zip [u0, u1, u2, u3])) : BindK x st [p0, p1, p2, p3] := fun kV doc pm an cdv ct us hl => match us, hl with
 | [u0, u1, u2, u3], _ => h kV doc pm an cdv ct u0 u1 u2 u3
theorem zaq {x : Str} {st : Stmt} {ps : List Str} {k m n : Nat} {fns : List (Str × Nat × GN)} {blt : List Str} {fb : SF} (hs : FnsOk P w K mg base k fns) (KX : K.In h) (G : h.Ns mainGlobals mg) (hblt : ∀ y ∈ blt, mg y = none)
   (hD : DefK K x st) (hb0 : BindK x st ps) (S : FnScope (ownN (defScope st).names) ps (defScope st)) (hu : (defScope st).names.all (fun y => decide ((defScope st).names.lookup y.1 = some y.2)) = true)
   (hn : (ownN (defScope st).names).length = n) (hb : cSs m (mkC st fns blt) (defBody st) = some fb) : FnsOk P w K mg base (k + 1) ((x, ps.length, fnOf n fb) :: fns) := by
 obtain ⟨f, fd, a, F⟩ := hD
 exact hs.snoc (zn4 F (PySem.W.mg_of KX G a) (F.binds hb0) S hu hs hblt hb fun ds S₀ z S' hw _ e => zh5 hn hw e)
theorem zjf {x p : Str} {st : Stmt} {k m n : Nat} {fns : List (Str × Nat × GN)} {blt : List Str} {fb : SF} {fa : Addr} (KX : K.In h) (G : h.Ns mainGlobals mg) (hblt : ∀ y ∈ blt, mg y = none) (hfa : mg x = some (.ref fa))
   (hD : DefK K x st) (hb0 : BindK x st [p]) (S : FnScope (ownN (defScope st).names) [p] (defScope st)) (hu : (defScope st).names.all (fun y => decide ((defScope st).names.lookup y.1 = some y.2)) = true)
   (hn : (ownN (defScope st).names).length = n) (hb : cSs m (mkC st fns blt) (defBody st) = some fb) (hs : ∀ base, K.In base → base.Ns mainGlobals mg → FnsOk P w K mg base k fns)
   (hφ : ∀ ns : List Int, ns.length ≤ 63 → ∃ σ' S'', fb (stD n [.ref 0]) [.frz (ns.map D.int)] = some (.rt (.bl true), σ', S'')) :
   ∃ fd : FuncData, (∀ (s : Shared) (v : Value), BindsTo s fd ⟨[v], []⟩ [(p, v)]) ∧ ∀ base : Heap, K.In base → base.Ns mainGlobals mg → FnOk P w K mg base CX0 (k + 1) fa fd [p] (spLaw K 63) := by
 obtain ⟨f, fd, a, F⟩ := hD
 have e := hfa.symm.trans (PySem.W.mg_of KX G a)
 cases e
 refine ⟨fd, fun s v => ?_, fun base kb gb => zjd F S hu (hs base kb gb) hblt hb fun ns hl => ?_⟩
 · obtain ⟨oc, od, kV, doc, pm, an, cdv, ct, osl, rfl, lk, hcd⟩ := F.ex
   exact .of_eq (hb0 kV doc pm an cdv ct [v] rfl)
 · have e0 : startD (ownN (defScope st).names) [D.ref 0] = stD n [D.ref 0] := by unfold startD stD; rw [hn]
   rw [e0]
   exact hφ ns hl
theorem zjE {blt : List Str} (KX : K.In h) (G : h.Ns mainGlobals mg) (hz : ∀ y ∈ blt, PySem.W.nsIn K mainGlobals y = some none) : ∀ y ∈ blt, mg y = none := fun y hy => PySem.W.mg_none_of KX G (hz y hy)
end
end MX
end
section
set_option autoImplicit false
namespace MX
open PySem PySem.Spec PySem.W PyProof.Rows L2
theorem zeg : ∀ (os : List Obj) (b a : Nat) (o : Obj), (fragFrom os b).lookup a = some o → b ≤ a ∧ os[a - b]? = some o ∧ keepO a o = true
 | [], _, _, _, e => by cases e
 | o' :: r, b, a, o, e => by
   have low : (fragFrom r (Nat.succ b)).lookup a = some o → b ≤ a ∧ (o' :: r)[a - b]? = some o ∧ keepO a o = true := fun e => by
     obtain ⟨h1, h2, h3⟩ := zeg r (Nat.succ b) a o e
     refine ⟨by omega, ?_, h3⟩
     have : a - b = (a - Nat.succ b) + 1 := by omega
     rw [this, List.getElem?_cons_succ]
     exact h2
   unfold fragFrom at e
   cases q : keepO b o' with
   | false => rw [q] at e; exact low e
   | true =>
     rw [q] at e
     simp only [cond_true, List.lookup_cons] at e
     cases z : a == b with
     | false => rw [z] at e; exact low e
     | true =>
       rw [z] at e
       cases e
       have z' : a = b := by simpa using z
       subst z'
       exact ⟨Nat.le_refl _, by rw [Nat.sub_self]; rfl, q⟩
theorem zh4 (h : Heap) : (fragAt h).In h := fun a o e => by
 obtain ⟨_, h2, h3⟩ := zeg _ _ _ _ e
 rw [Nat.sub_zero, Array.getElem?_toList] at h2
 unfold Heap.get?
 rw [h2]
 obtain ⟨c, d, dt, sl⟩ := o
 cases dt <;> first | rfl | (exact absurd h3 (by intro z; cases z))
theorem zn8 (s : Stmt) : dA s = defArgs s := by cases s <;> rfl
theorem zn7 (s : Stmt) : dB s = defBody s := by cases s <;> rfl
theorem zn6 (s : Stmt) : dS s = defScope s := by cases s <;> rfl
theorem DefK.of_seen {K : PySem.W.Frag} {x : Str} {st : Stmt} (h : seenDef K x = some (dA st, dB st, dS st, true)) : DefK K x st := by
 rw [zn8, zn7, zn6] at h
 unfold seenDef at h
 split at h
 · rename_i f a
   split at h
   · rename_i oc od n q ps b sc g kV doc pm an cd ct bn osl l
     simp only [Option.some.injEq, Prod.mk.injEq, Bool.and_eq_true, beq_iff_eq] at h
     obtain ⟨e1, e2, e3, e4, e5, e6, e7, e8, e9⟩ := h
     have e6 := Nat.eq_of_beq_eq_true e6
     have e7 := Nat.eq_of_beq_eq_true e7
     subst e1 e2 e3 e4 e5 e6 e7
     exact DefK.mk' a l e8 e9
   · cases h
 · cases h
def topHook (ds : List (Str × Stmt)) (blt : List Str) : Hook where
 α := List (Option (Arguments × List Stmt × Scope × Bool)) × List (Option (Option Value))
 obs := obsP ds blt
 val := fun _ => valP ds blt
 says := fun _ h => ∃ K : PySem.W.Frag, K.In h ∧ (∀ y ∈ ds, DefK K y.1 y.2) ∧ ∀ y ∈ blt, nsIn K mainGlobals y = some none
 of := fun _ s e => ⟨fragAt s.heap, zh4 _, fun y hy => DefK.of_seen (List.map_inj_left.mp (Prod.mk.inj e).1 y hy), List.map_inj_left.mp (Prod.mk.inj e).2⟩
 keeps := fun _ _ _ ⟨K, a, b⟩ k => ⟨K, a.keeps k, b⟩
theorem zhf {l : PySem.W.OpenLaw} {q : Program} {loose : List Str} {XP : (Str → Option Value) → Heap → Prop} {d : DefRec} {x : Str} {k : Nat} {ds : List (Str × Stmt)} {blt : List Str} (hn : l.most = some 63) (hdf : d.params.defaults = []) (hr : Room k callerA)
   (F : ∀ (w : World) (mg : Str → Option Value) (fa : Addr) (h : Heap) (K : PySem.W.Frag), K.In h → h.Ns mainGlobals mg → mg d.name = some (.ref fa) → (∀ y ∈ ds, DefK K y.1 y.2) → (∀ y ∈ blt, nsIn K mainGlobals y = some none) →
     ∃ fd : FuncData, (∀ (s : Shared) (u : Value), BindsTo s fd ⟨[u], []⟩ [(x, u)]) ∧ ∀ base : Heap, K.In base → base.Ns mainGlobals mg → FnOk l.prog w K mg base CX0 k fa fd [x] (spLaw K 63)) :
   PySem.W.WalkO q loose XP (topHook ds blt).says l.row.toRowW d [] (fun f vs => PySem.call f vs) := by
 refine Att.zgj hn hdf fun w s₀ s₁ mg mb fa o pm cd doc a vs ns G Y ho hd hcd hmg hobj hints hlen hg => ?_
 obtain ⟨K, KX, hD, hB⟩ := Y
 obtain ⟨fd, hb, hF⟩ := F w mg fa _ K KX G.T.g hmg hD hB
 refine zje KX G.T.g G.T.b G.T.builtins G.T.nolimit hg hobj hints (Nat.le_trans hlen (by decide)) hr hF hb (fun H hO hS => ⟨a, ns, rfl, ?_, hlen, fun _ => rfl⟩) fun H e s' z => z
 rcases hS with (h | ⟨o, h⟩) | h
 · rcases hO a with z | ⟨o, xs, z⟩
   · rw [z] at h; cases h
   · rw [z] at h; cases h
 · exact .inl ⟨o, h⟩
 · exact .inr h
theorem zlc {l : PySem.W.OpenLaw} {q : Program} {d : DefRec} {H : Hook} {N : Nat} (said0 : l.wellSaid = true)
   (left : LeftO l.prog q [] (fun _ => true) H.obs H.val N) (hdef : defOf q l.name = some (d, [])) (hp : l.prog.theDef l.name = some (d.params, d.body, d.scope))
   (hk : kwWritten? d.params.kwonlyargs d.params.kw_defaults = some []) (ok : (chainsOk q && opensWell l.prog && (frees l.row.toRowW && l.row.within.isEmpty)) = true) (hb : l.prog.bare) (hw : l.row.toRowW.promised)
   (call : PySem.W.WalkO q [] (fun _ _ => True) H.says l.row.toRowW d [] fun f vs => PySem.call f vs) : l.Holds := by
 refine holds_law said0 fun said => ?_
 refine holds_open (r := l.row) (Xt := fun _ => true) (XP := fun _ _ => True) left H.of H.keeps ?_ ?_ hdef hp hk ?_ ?_ said ok hb hw call
 · exact fun _ _ => trivial
 · exact fun _ _ _ _ _ => trivial
 · exact fun s _ => recFacts_of (R := []) rfl
 · show (!l.row.writes || true) = true
   exact Bool.or_true _
end MX
end
section
namespace MX.P
open PySem L2 MX
def zch : SF := sSeq (sIf (tBl (eB (gCmp .Eq) (eVar 0) (eN gLst (aNil)))) (sSeq (sRet (eB (gBin .Mult) (eVar 1) (eC (.int 7919)))) (sPass)) (sPass)) (sSeq (sRet (eB (gBin .Add) (eB gIx (eVar 0) (eB (gBin .Mod) (eVar 1) (eN gLen (aCons (eVar 0) (aNil))))) (eB (gBin .Mult) (eB (gBin .FloorDiv) (eVar 1) (eN gLen (aCons (eVar 0) (aNil)))) (eC (.int 104729))))) (sPass))
def zaK : GN := fnOf 2 zch
def zbV : SF := sSeq (sAsg (eB (gBin .Mod) (eB (gBin .Add) (eB (gBin .Mult) (eVar 0) (eC (.int 6364136223846793005))) (eB (gBin .Mult) (eB (gBin .Add) (eVar 1) (eC (.int 1))) (eC (.int 1442695040888963407)))) (eC (.int 340282366920938463463374607431768211507))) (gNm 2)) (sSeq (sRet (eB (gBin .Mod) (eB (gBin .Mult) (eVar 2) (eVar 2)) (eC (.int 340282366920938463463374607431768211297)))) (sPass))
def zbT : GN := fnOf 3 zbV
def zbv : SF := sSeq (sWh (tBl (eB (gCmp .NotEq) (eVar 1) (eC (.int 0)))) (sSeq (sAsg (eB (gBin .Mod) (eVar 0) (eVar 1)) (gNm 2)) (sSeq (sAsg (eVar 1) (gNm 0)) (sSeq (sAsg (eVar 2) (gNm 1)) (sPass))))) (sSeq (sRet (eN gAbs (aCons (eVar 0) (aNil)))) (sPass))
def za9 : GN := fnOf 3 zbv
def zbX : SF := sSeq (sAsg (eN (nArgs 2 za9) (aCons (eB gIx (eVar 0) (eC (.int 0))) (aCons (eB gIx (eVar 0) (eC (.int 1))) (aNil)))) (gNm 1)) (sSeq (sRet (eN gTup (aCons (eB (gBin .FloorDiv) (eB gIx (eVar 0) (eC (.int 0))) (eVar 1)) (aCons (eB (gBin .FloorDiv) (eB gIx (eVar 0) (eC (.int 1))) (eVar 1)) (aNil))))) (sPass))
def zaJ : GN := fnOf 2 zbX
def zdj : SF := sSeq (sRet (eB (gCmp .Lt) (eB (gBin .Mult) (eB gIx (eVar 0) (eC (.int 0))) (eB gIx (eVar 1) (eC (.int 1)))) (eB (gBin .Mult) (eB gIx (eVar 1) (eC (.int 0))) (eB gIx (eVar 0) (eC (.int 1)))))) (sPass)
def zej : GN := fnOf 2 zdj
def zbE : SF := sSeq (sRet (eN gTup (aCons (eB (gBin .Sub) (eB gIx (eVar 1) (eC (.int 0))) (eB gIx (eVar 0) (eC (.int 0)))) (aCons (eB (gBin .Sub) (eB gIx (eVar 1) (eC (.int 1))) (eB gIx (eVar 0) (eC (.int 1)))) (aCons (eB (gBin .Sub) (eB gIx (eVar 1) (eC (.int 2))) (eB gIx (eVar 0) (eC (.int 2)))) (aNil)))))) (sPass)
def zad : GN := fnOf 2 zbE
def zjG : SF := sSeq (sRet (eB (gBin .Add) (eB (gBin .Add) (eB (gBin .Mult) (eB gIx (eVar 0) (eC (.int 0))) (eB gIx (eVar 1) (eC (.int 0)))) (eB (gBin .Mult) (eB gIx (eVar 0) (eC (.int 1))) (eB gIx (eVar 1) (eC (.int 1))))) (eB (gBin .Mult) (eB gIx (eVar 0) (eC (.int 2))) (eB gIx (eVar 1) (eC (.int 2)))))) (sPass)
def za6 : GN := fnOf 2 zjG
def zfn : SF := sSeq (sRet (eN gTup (aCons (eB (gBin .Sub) (eB (gBin .Mult) (eB gIx (eVar 0) (eC (.int 1))) (eB gIx (eVar 1) (eC (.int 2)))) (eB (gBin .Mult) (eB gIx (eVar 0) (eC (.int 2))) (eB gIx (eVar 1) (eC (.int 1))))) (aCons (eB (gBin .Sub) (eB (gBin .Mult) (eB gIx (eVar 0) (eC (.int 2))) (eB gIx (eVar 1) (eC (.int 0)))) (eB (gBin .Mult) (eB gIx (eVar 0) (eC (.int 0))) (eB gIx (eVar 1) (eC (.int 2))))) (aCons (eB (gBin .Sub) (eB (gBin .Mult) (eB gIx (eVar 0) (eC (.int 0))) (eB gIx (eVar 1) (eC (.int 1)))) (eB (gBin .Mult) (eB gIx (eVar 0) (eC (.int 1))) (eB gIx (eVar 1) (eC (.int 0))))) (aNil)))))) (sPass)
def zaG : GN := fnOf 2 zfn
def zcI : SF := sSeq (sRet (eN gLst (aCons (eN gTup (aCons (eB gIx (eVar 0) (eC (.int 0))) (aCons (eB gIx (eVar 0) (eC (.int 1))) (aNil)))) (aCons (eN gTup (aCons (eB gIx (eVar 0) (eC (.int 1))) (aCons (eB gIx (eVar 0) (eC (.int 2))) (aNil)))) (aCons (eN gTup (aCons (eB gIx (eVar 0) (eC (.int 2))) (aCons (eB gIx (eVar 0) (eC (.int 0))) (aNil)))) (aNil)))))) (sPass)
def zaY : GN := fnOf 1 zcI
def zbh : SF := sSeq (sAsg (eB gIx (eVar 0) (eC (.int 1))) (gNm 3)) (sSeq (sAsg (eN (nArgs 2 zad) (aCons (eB gIx (eVar 0) (eC (.int 0))) (aCons (eVar 1) (aNil)))) (gNm 4)) (sSeq (sIf (tBl (eB (gCmp .NotEq) (eN (nArgs 2 zaG) (aCons (eVar 4) (aCons (eVar 3) (aNil)))) (eN gTup (aCons (eC (.int 0)) (aCons (eC (.int 0)) (aCons (eC (.int 0)) (aNil))))))) (sSeq (sRet (eC .non)) (sPass)) (sPass)) (sSeq (sAsg (eN gTup (aCons (eN (nArgs 2 za6) (aCons (eVar 4) (aCons (eVar 3) (aNil)))) (aCons (eN (nArgs 2 za6) (aCons (eN (nArgs 2 zad) (aCons (eB gIx (eVar 0) (eC (.int 0))) (aCons (eVar 2) (aNil)))) (aCons (eVar 3) (aNil)))) (aNil)))) (gNm 5)) (sSeq (sIf (tBl (eB (gCmp .Lt) (eN gMax' (aCons (eVar 5) (aNil))) (eC (.int 0)))) (sSeq (sRet (eC .non)) (sPass)) (sPass)) (sSeq (sRet (eN (nArgs 1 zaJ) (aCons (eN gTup (aCons (eN gMax' (aCons (eN gMin' (aCons (eVar 5) (aNil))) (aCons (eC (.int 0)) (aNil)))) (aCons (eN (nArgs 2 za6) (aCons (eVar 3) (aCons (eVar 3) (aNil)))) (aNil)))) (aNil)))) (sPass))))))
def zb9 : GN := fnOf 6 zbh
def zaC : SF := sSeq (sAsg (eB gIx (eVar 0) (eC (.int 1))) (gNm 3)) (sSeq (sAsg (eN (nArgs 2 zad) (aCons (eVar 1) (aCons (eVar 2) (aNil)))) (gNm 4)) (sSeq (sAsg (eN (nArgs 2 zaG) (aCons (eVar 3) (aCons (eVar 4) (aNil)))) (gNm 5)) (sSeq (sIf (tBl (eB (gCmp .Eq) (eVar 5) (eN gTup (aCons (eC (.int 0)) (aCons (eC (.int 0)) (aCons (eC (.int 0)) (aNil))))))) (sSeq (sRet (eN (nArgs 3 zb9) (aCons (eVar 0) (aCons (eVar 1) (aCons (eVar 2) (aNil)))))) (sPass)) (sPass)) (sSeq (sAsg (eN (nArgs 2 zad) (aCons (eB gIx (eVar 0) (eC (.int 0))) (aCons (eVar 1) (aNil)))) (gNm 6)) (sSeq (sIf (tBl (eB (gCmp .NotEq) (eN (nArgs 2 za6) (aCons (eVar 6) (aCons (eVar 5) (aNil)))) (eC (.int 0)))) (sSeq (sRet (eC .non)) (sPass)) (sPass)) (sSeq (sAsg (eN (nArgs 2 za6) (aCons (eVar 5) (aCons (eVar 5) (aNil)))) (gNm 7)) (sSeq (sAsg (eN (nArgs 2 za6) (aCons (eN (nArgs 2 zaG) (aCons (eVar 6) (aCons (eVar 4) (aNil)))) (aCons (eVar 5) (aNil)))) (gNm 8)) (sSeq (sAsg (eN (nArgs 2 za6) (aCons (eN (nArgs 2 zaG) (aCons (eVar 6) (aCons (eVar 3) (aNil)))) (aCons (eVar 5) (aNil)))) (gNm 9)) (sSeq (sIf (tOrF (tBl (eB (gCmp .Lt) (eVar 8) (eC (.int 0)))) (tOrF (tBl (eB (gCmp .Lt) (eVar 9) (eC (.int 0)))) (tBl (eB (gCmp .Gt) (eVar 9) (eVar 7))))) (sSeq (sRet (eC .non)) (sPass)) (sPass)) (sSeq (sRet (eN (nArgs 1 zaJ) (aCons (eN gTup (aCons (eVar 8) (aCons (eVar 7) (aNil)))) (aNil)))) (sPass)))))))))))
def zbK : GN := fnOf 10 zaC
def zcy : SF := sAsg (eC .non) (gNm 2)
def zbg : SF := sAsg (eN (nArgs 3 zbK) (aCons (eVar 0) (aCons (eVar 3) (aCons (eVar 4) (aNil))))) (gNm 5)
def zap : SF := sIf (tAndF (tBl (eB (gCmp .IsNot) (eVar 5) (eC .non))) (tOrF (tBl (eB (gCmp .Is) (eVar 2) (eC .non))) (tVal (eN (nArgs 2 zej) (aCons (eVar 5) (aCons (eVar 2) (aNil))))))) (sSeq (sAsg (eVar 5) (gNm 2)) (sPass)) (sPass)
def zbu : SF := sSeq zbg (sSeq zap sPass)
def zbN : SF := sFor (iVal (eN (nArgs 1 zaY) (aCons (eVar 1) (aNil)))) (gTp 2 (gsCons (gNm 3) (gsCons (gNm 4) (gsNil)))) zbu
def zcx : SF := sRet (eVar 2)
def zce : SF := sSeq zcy (sSeq zbN (sSeq zcx sPass))
def za0 : GN := fnOf 6 zce
def zbp : SF := sSeq (sAsg (eLc (iVal (eVar 2)) (gNm 0) (tTru) (eN (nArgs 2 zad) (aCons (eVar 1) (aCons (eVar 0) (aNil)))) [none, some 0]) (gNm 3)) (sSeq (sAsg (eLc (iVal (eN (nArgs 1 zaY) (aCons (eVar 3) (aNil)))) (gTp 2 (gsCons (gNm 0) (gsCons (gNm 1) (gsNil)))) (tTru) (eN (nArgs 2 za6) (aCons (eVar 2) (aCons (eN (nArgs 2 zaG) (aCons (eVar 0) (aCons (eVar 1) (aNil)))) (aNil)))) [none, none, some 1]) (gNm 4)) (sSeq (sRet (eOr (eB (gCmp .GtE) (eN gMin' (aCons (eVar 4) (aNil))) (eC (.int 0))) (eB (gCmp .LtE) (eN gMax' (aCons (eVar 4) (aNil))) (eC (.int 0))))) (sPass)))
def zav : GN := fnOf 5 zbp
def zaL : SF := sSeq (sIf (tVal (eN (nArgs 3 zav) (aCons (eB gIx (eVar 0) (eC (.int 0))) (aCons (eVar 2) (aCons (eVar 1) (aNil)))))) (sSeq (sRet (eN gTup (aCons (eC (.int 0)) (aCons (eC (.int 1)) (aNil))))) (sPass)) (sPass)) (sSeq (sRet (eN (nArgs 2 za0) (aCons (eVar 0) (aCons (eVar 1) (aNil))))) (sPass))
def zax : GN := fnOf 3 zaL
def zao : SF := sSeq (sAsg (eN (nArgs 2 zaG) (aCons (eN (nArgs 2 zad) (aCons (eB gIx (eVar 1) (eC (.int 0))) (aCons (eB gIx (eVar 1) (eC (.int 1))) (aNil)))) (aCons (eN (nArgs 2 zad) (aCons (eB gIx (eVar 1) (eC (.int 0))) (aCons (eB gIx (eVar 1) (eC (.int 2))) (aNil)))) (aNil)))) (gNm 2)) (sSeq (sIf (tBl (eB (gCmp .Eq) (eVar 2) (eN gTup (aCons (eC (.int 0)) (aCons (eC (.int 0)) (aCons (eC (.int 0)) (aNil))))))) (sSeq (sRet (eN (nArgs 2 za0) (aCons (eVar 0) (aCons (eVar 1) (aNil))))) (sPass)) (sPass)) (sSeq (sAsg (eN (nArgs 2 za6) (aCons (eN (nArgs 2 zad) (aCons (eB gIx (eVar 0) (eC (.int 0))) (aCons (eB gIx (eVar 1) (eC (.int 0))) (aNil)))) (aCons (eVar 2) (aNil)))) (gNm 3)) (sSeq (sAsg (eN (nArgs 2 za6) (aCons (eB gIx (eVar 0) (eC (.int 1))) (aCons (eVar 2) (aNil)))) (gNm 4)) (sSeq (sIf (tBl (eB (gCmp .Eq) (eVar 4) (eC (.int 0)))) (sSeq (sRet (eIf (tBl (eB (gCmp .Eq) (eVar 3) (eC (.int 0)))) (eN (nArgs 3 zax) (aCons (eVar 0) (aCons (eVar 1) (aCons (eVar 2) (aNil))))) (eC .non))) (sPass)) (sPass)) (sSeq (sIf (tBl (eB (gCmp .Lt) (eVar 4) (eC (.int 0)))) (sSeq (sAsg (eU gNeg (eVar 3)) (gNm 3)) (sSeq (sAsg (eU gNeg (eVar 4)) (gNm 4)) (sPass))) (sPass)) (sSeq (sIf (tOrF (tBl (eB (gCmp .Lt) (eVar 3) (eC (.int 0)))) (tNotF (tVal (eN (nArgs 3 zav) (aCons (eB gIx (eVar 0) (eC (.int 0))) (aCons (eB gIx (eVar 0) (eC (.int 1))) (aCons (eVar 1) (aNil)))))))) (sSeq (sRet (eC .non)) (sPass)) (sPass)) (sSeq (sRet (eN (nArgs 1 zaJ) (aCons (eN gTup (aCons (eVar 3) (aCons (eVar 4) (aNil)))) (aNil)))) (sPass))))))))
def zam : GN := fnOf 5 zao
def zcA : SF := sSeq (sRet (eAnd (eN gIsi (aCons (eVar 0) (aCons (eC (.ty "int")) (aNil)))) (eNot (eN gIsi (aCons (eVar 0) (aCons (eC (.ty "bool")) (aNil))))))) (sPass)
def zcq : GN := fnOf 1 zcA
def zdD : SF := sSeq (sRet (eN gTuple (aCons (eLc (iRg1 (aCons (eC (.int 3)) (aNil))) (gNm 0) (tTru) (eB (gBin .Sub) (eB gIx (eVar 2) (eVar 0)) (eB gIx (eVar 1) (eVar 0))) [none, some 0, some 1]) (aNil)))) (sPass)
def zba : GN := fnOf 2 zdD
def zbQ : SF := sSeq (sRet (eB (gBin .Sub) (eB (gBin .Mult) (eB gIx (eVar 0) (eVar 2)) (eB gIx (eVar 1) (eVar 3))) (eB (gBin .Mult) (eB gIx (eVar 0) (eVar 3)) (eB gIx (eVar 1) (eVar 2))))) (sPass)
def zak : GN := fnOf 4 zbQ
def zcO : SF := sIf (tOrF (tBl (eB (gCmp .Lt) (eB gIx (eVar 0) (eVar 4)) (eB (gBin .Mult) (eN gMin' (aCons (eN gLst (aCons (eB gIx (eVar 2) (eVar 4)) (aCons (eB gIx (eVar 3) (eVar 4)) (aNil)))) (aNil))) (eVar 1)))) (tBl (eB (gCmp .Gt) (eB gIx (eVar 0) (eVar 4)) (eB (gBin .Mult) (eN gMax' (aCons (eN gLst (aCons (eB gIx (eVar 2) (eVar 4)) (aCons (eB gIx (eVar 3) (eVar 4)) (aNil)))) (aNil))) (eVar 1))))) (sSeq (sRet (eC (.bl false))) (sPass)) (sPass)
def zcB : SF := sSeq zcO sPass
def zbP : SF := sFor (iRg1 (aCons (eC (.int 3)) (aNil))) (gNm 4) zcB
def zeB : SF := sAsg (eLc (iRg1 (aCons (eC (.int 3)) (aNil))) (gNm 0) (tTru) (eB (gBin .Sub) (eB gIx (eVar 2) (eVar 0)) (eB (gBin .Mult) (eB gIx (eVar 1) (eVar 0)) (eVar 3))) [none, some 2, some 0, some 1]) (gNm 5)
def zeA : SF := sAsg (eN (nArgs 2 zba) (aCons (eVar 2) (aCons (eVar 3) (aNil)))) (gNm 6)
def zez : SF := sRet (eN gAll (aCons (eLc (iRg1 (aCons (eC (.int 3)) (aNil))) (gNm 0) (tTru) (eB (gCmp .Eq) (eN (nArgs 4 zak) (aCons (eVar 1) (aCons (eVar 2) (aCons (eVar 0) (aCons (eB (gBin .Mod) (eB (gBin .Add) (eVar 0) (eC (.int 1))) (eC (.int 3))) (aNil)))))) (eC (.int 0))) [none, some 5, some 6]) (aNil)))
def zb7 : SF := sSeq zbP (sSeq zeB (sSeq zeA (sSeq zez sPass)))
def zcr : GN := fnOf 7 zb7
def zbD : SF := sAsg (eVar 2) (gTp 3 (gsCons (gNm 3) (gsCons (gNm 4) (gsCons (gNm 5) (gsNil)))))
def zbC : SF := sAsg (eN (nArgs 2 zba) (aCons (eVar 3) (aCons (eVar 4) (aNil)))) (gNm 6)
def zbB : SF := sAsg (eN (nArgs 2 zba) (aCons (eVar 3) (aCons (eVar 5) (aNil)))) (gNm 7)
def zbA : SF := sAsg (eLc (iRg1 (aCons (eC (.int 3)) (aNil))) (gNm 0) (tTru) (eB (gBin .Sub) (eB gIx (eVar 2) (eVar 0)) (eB (gBin .Mult) (eB gIx (eVar 1) (eVar 0)) (eVar 3))) [none, some 3, some 0, some 1]) (gNm 8)
def zaT : SF := sAsg (eN (nArgs 4 zak) (aCons (eVar 6) (aCons (eVar 7) (aCons (eVar 9) (aCons (eVar 10) (aNil)))))) (gNm 11)
def zaS : SF := sIf (tBl (eB (gCmp .NotEq) (eVar 11) (eC (.int 0)))) (sSeq (sAsg (eN (nArgs 4 zak) (aCons (eVar 8) (aCons (eVar 7) (aCons (eVar 9) (aCons (eVar 10) (aNil)))))) (gNm 12)) (sSeq (sAsg (eN (nArgs 4 zak) (aCons (eVar 6) (aCons (eVar 8) (aCons (eVar 9) (aCons (eVar 10) (aNil)))))) (gNm 13)) (sSeq (sIf (tBl (eB (gCmp .Lt) (eVar 11) (eC (.int 0)))) (sSeq (sAsg (eN gTup (aCons (eB (gBin .Sub) (eC (.int 0)) (eVar 12)) (aCons (eB (gBin .Sub) (eC (.int 0)) (eVar 13)) (aCons (eB (gBin .Sub) (eC (.int 0)) (eVar 11)) (aNil))))) (gTp 3 (gsCons (gNm 12) (gsCons (gNm 13) (gsCons (gNm 11) (gsNil)))))) (sPass)) (sPass)) (sSeq (sIf (tOrF (tBl (eB (gCmp .Lt) (eVar 12) (eC (.int 0)))) (tOrF (tBl (eB (gCmp .Lt) (eVar 13) (eC (.int 0)))) (tBl (eB (gCmp .Gt) (eB (gBin .Add) (eVar 12) (eVar 13)) (eB (gBin .Mult) (eVar 11) (eVar 1)))))) (sSeq (sRet (eC (.bl false))) (sPass)) (sPass)) (sSeq (sAsg (eLc (iRg1 (aCons (eC (.int 3)) (aNil))) (gNm 0) (tTru) (eB (gBin .Add) (eB (gBin .Mult) (eVar 2) (eB gIx (eVar 4) (eVar 0))) (eB (gBin .Mult) (eVar 3) (eB gIx (eVar 1) (eVar 0)))) [none, some 7, some 12, some 13, some 6]) (gNm 14)) (sSeq (sRet (eB (gCmp .Eq) (eVar 14) (eLc (iVal (eVar 8)) (gNm 0) (tTru) (eB (gBin .Mult) (eVar 0) (eVar 1)) [none, some 11]))) (sPass))))))) (sPass)
def zaD : SF := sSeq zaT (sSeq zaS sPass)
def zbz : SF := sFor (iVal (eN gLst (aCons (eN gTup (aCons (eC (.int 0)) (aCons (eC (.int 1)) (aNil)))) (aCons (eN gTup (aCons (eC (.int 1)) (aCons (eC (.int 2)) (aNil)))) (aCons (eN gTup (aCons (eC (.int 2)) (aCons (eC (.int 0)) (aNil)))) (aNil)))))) (gTp 2 (gsCons (gNm 9) (gsCons (gNm 10) (gsNil)))) zaD
def zby : SF := sRet (eOr (eN (nArgs 4 zcr) (aCons (eVar 0) (aCons (eVar 1) (aCons (eVar 3) (aCons (eVar 4) (aNil)))))) (eOr (eN (nArgs 4 zcr) (aCons (eVar 0) (aCons (eVar 1) (aCons (eVar 4) (aCons (eVar 5) (aNil)))))) (eN (nArgs 4 zcr) (aCons (eVar 0) (aCons (eVar 1) (aCons (eVar 5) (aCons (eVar 3) (aNil))))))))
def zbi : SF := sSeq zbD (sSeq zbC (sSeq zbB (sSeq zbA (sSeq zbz (sSeq zby sPass)))))
def zaE : GN := fnOf 15 zbi
def zdm : SF := sAsg (eDct) (gNm 1)
def zbO : SF := sAsg (eB (gBin .Add) (eDM gDGet (eVar 1) (aCons (eVar 3) (aCons (eC (.int 0)) (aNil)))) (eC (.int 1))) (gSt (eVar 1) (eVar 3))
def zbk : SF := sSeq zbO sPass
def zck : SF := sFor (iVal (eN (nArgs 1 zaY) (aCons (eVar 2) (aNil)))) (gNm 3) zbk
def zbo : SF := sSeq zck sPass
def zdl : SF := sFor (iVal (eVar 0)) (gNm 2) zbo
def zdk : SF := sRet (eN gAll (aCons (eLc (iItems (eVar 1)) (gTp 2 (gsCons (gNm 0) (gsCons (gNm 1) (gsNil)))) (tTru) (eB (gCmp .Eq) (eVar 1) (eDM gDGet (eVar 2) (aCons (eN gTup (aCons (eB gIx (eVar 0) (eC (.int 1))) (aCons (eB gIx (eVar 0) (eC (.int 0))) (aNil)))) (aCons (eC (.int 0)) (aNil))))) [none, none, some 1]) (aNil)))
def zcY : SF := sSeq zdm (sSeq zdl (sSeq zdk sPass))
def zcQ : GN := fnOf 4 zcY
def zcf : SF := sSeq (sRet (eN (nArgs 2 za6) (aCons (eB gIx (eVar 0) (eC (.int 0))) (aCons (eN (nArgs 2 zaG) (aCons (eB gIx (eVar 0) (eC (.int 1))) (aCons (eB gIx (eVar 0) (eC (.int 2))) (aNil)))) (aNil))))) (sPass)
def zca : GN := fnOf 1 zcf
def zcu : SF := sSeq (sIf (tBl (eB (gCmp .Eq) (eVar 0) (eC (.int 0)))) (sSeq (sRet (eC (.int 0))) (sPass)) (sPass)) (sSeq (sRet (eIf (tBl (eB (gCmp .Gt) (eVar 0) (eC (.int 0)))) (eC (.int 1)) (eU gNeg (eC (.int 1))))) (sPass))
def zcp : GN := fnOf 1 zcu
def zbd : SF := sSeq (sFor (iVal (eVar 0)) (gNm 1) (sSeq (sIf (tBl (eB (gCmp .NotEq) (eVar 1) (eC (.int 0)))) (sSeq (sRet (eN (nArgs 1 zcp) (aCons (eVar 1) (aNil)))) (sPass)) (sPass)) (sPass))) (sSeq (sRet (eC (.int 0))) (sPass))
def zbr : GN := fnOf 2 zbd
def zdQ : SF := sAsg (eLc (iVal (eVar 1)) (gNm 0) (tTru) (eN (nArgs 2 zad) (aCons (eVar 1) (aCons (eVar 0) (aNil)))) [none, some 0]) (gNm 2)
def zdP : SF := sAsg (eN (nArgs 1 zcp) (aCons (eN (nArgs 1 zca) (aCons (eVar 2) (aNil))) (aNil))) (gNm 3)
def zdO : SF := sAsg (eLc (iVal (eN (nArgs 1 zaY) (aCons (eVar 2) (aNil)))) (gTp 2 (gsCons (gNm 0) (gsCons (gNm 1) (gsNil)))) (tTru) (eN (nArgs 1 zbr) (aCons (eN (nArgs 2 zaG) (aCons (eVar 0) (aCons (eVar 1) (aNil)))) (aNil))) [none, none]) (gNm 4)
def zdN : SF := sRet (eIf (tBl (eB (gCmp .Eq) (eVar 4) (eN gLst (aCons (eVar 3) (aCons (eVar 3) (aCons (eVar 3) (aNil))))))) (eVar 3) (eC (.int 0)))
def zdC : SF := sSeq zdQ (sSeq zdP (sSeq zdO (sSeq zdN sPass)))
def zcG : GN := fnOf 5 zdC
def zgm : SF := sSeq (sRet (eB (gCmp .Eq) (eN (nArgs 2 zam) (aCons (eN gTup (aCons (eVar 0) (aCons (eN gTup (aCons (eC (.int 1)) (aCons (eC (.int 0)) (aCons (eC (.int 0)) (aNil))))) (aNil)))) (aCons (eVar 1) (aNil)))) (eN gTup (aCons (eC (.int 0)) (aCons (eC (.int 1)) (aNil)))))) (sPass)
def zei : GN := fnOf 2 zgm
def zcw : SF := sIf (tNotF (tVal (eN (nArgs 1 zcQ) (aCons (eVar 1) (aNil))))) (sSeq (sNever) (sPass)) (sPass)
def zcv : SF := sIf (tVal (eN gAny (aCons (eLc (iVal (eVar 1)) (gNm 0) (tTru) (eN (nArgs 2 zei) (aCons (eVar 1) (aCons (eVar 0) (aNil)))) [none, some 0]) (aNil)))) (sSeq (sRet (eC (.int 0))) (sPass)) (sPass)
def zdM : SF := sAsg (eN gSum (aCons (eLc (iVal (eVar 1)) (gNm 0) (tTru) (eN (nArgs 2 zcG) (aCons (eVar 1) (aCons (eVar 0) (aNil)))) [none, some 0]) (aNil))) (gNm 2)
def zdL : SF := sRet (eIf (tBl (eB (gCmp .Eq) (eVar 2) (eC (.int 0)))) (eU gNeg (eC (.int 1))) (eC (.int 1)))
def zcH : SF := sSeq zcw (sSeq zcv (sSeq zdM (sSeq zdL sPass)))
def zdy : GN := fnOf 3 zcH
def zcZ : SF := sSeq (sRet (eN gTup (aCons (eB (gBin .Sub) (eB (gBin .Mod) (eVar 0) (eC (.int 9))) (eC (.int 4))) (aCons (eB (gBin .Sub) (eB (gBin .Mod) (eB (gBin .FloorDiv) (eVar 0) (eC (.int 9))) (eC (.int 9))) (eC (.int 4))) (aCons (eB (gBin .Sub) (eB (gBin .Mod) (eB (gBin .FloorDiv) (eVar 0) (eC (.int 81))) (eC (.int 9))) (eC (.int 4))) (aNil)))))) (sPass)
def zbj : GN := fnOf 1 zcZ
def zbF : SF := sSeq (sIf (tBl (eB (gCmp .Eq) (eB (gBin .Mod) (eVar 1) (eC (.int 3))) (eC (.int 0)))) (sSeq (sRet (eVar 0)) (sPass)) (sPass)) (sSeq (sAsg (eB (gBin .Add) (eC (.int 1)) (eB (gBin .Mod) (eVar 1) (eB (gBin .LShift) (eC (.int 1)) (eC (.int 50))))) (gNm 2)) (sSeq (sRet (eN gTup (aCons (eB (gBin .Add) (eB (gBin .Mult) (eB gIx (eVar 0) (eC (.int 0))) (eVar 2)) (eB (gBin .Mod) (eVar 1) (eC (.int 1000003)))) (aCons (eB (gBin .Sub) (eB (gBin .Mult) (eB gIx (eVar 0) (eC (.int 1))) (eVar 2)) (eB (gBin .Mod) (eVar 1) (eC (.int 997)))) (aCons (eB (gBin .Add) (eB (gBin .Mult) (eB gIx (eVar 0) (eC (.int 2))) (eVar 2)) (eC (.int 5))) (aNil)))))) (sPass)))
def za1 : GN := fnOf 3 zbF
def zdE : SF := sSeq (sAsg (eC (.int 0)) (gNm 3)) (sSeq (sFor (iRg1 (aCons (eC (.int 3)) (aNil))) (gNm 4) (sSeq (sAsg (eB (gBin .Add) (eVar 3) (eB (gBin .Mult) (eB gIx (eVar 0) (eVar 4)) (eN (nArgs 4 zak) (aCons (eVar 1) (aCons (eVar 2) (aCons (eB (gBin .Mod) (eB (gBin .Add) (eVar 4) (eC (.int 1))) (eC (.int 3))) (aCons (eB (gBin .Mod) (eB (gBin .Add) (eVar 4) (eC (.int 2))) (eC (.int 3))) (aNil)))))))) (gNm 3)) (sPass))) (sSeq (sRet (eVar 3)) (sPass)))
def zdz : GN := fnOf 5 zdE
def zc2 : SF := sSeq (sRet (eN gLst (aCons (eN (nArgs 1 zbj) (aCons (eVar 0) (aNil))) (aCons (eN (nArgs 1 zbj) (aCons (eB (gBin .FloorDiv) (eVar 0) (eC (.int 729))) (aNil))) (aCons (eN (nArgs 1 zbj) (aCons (eB (gBin .FloorDiv) (eVar 0) (eC (.int 531441))) (aNil))) (aCons (eN (nArgs 1 zbj) (aCons (eB (gBin .FloorDiv) (eVar 0) (eC (.int 387420489))) (aNil))) (aNil))))))) (sPass)
def zcb : GN := fnOf 1 zc2
def zcC : SF := sSeq (sAsg (eVar 0) (gTp 4 (gsCons (gNm 1) (gsCons (gNm 2) (gsCons (gNm 3) (gsCons (gNm 4) (gsNil))))))) (sSeq (sRet (eN gLst (aCons (eN gTup (aCons (eVar 2) (aCons (eVar 3) (aCons (eVar 4) (aNil))))) (aCons (eN gTup (aCons (eVar 1) (aCons (eVar 4) (aCons (eVar 3) (aNil))))) (aCons (eN gTup (aCons (eVar 1) (aCons (eVar 2) (aCons (eVar 4) (aNil))))) (aCons (eN gTup (aCons (eVar 1) (aCons (eVar 3) (aCons (eVar 2) (aNil))))) (aNil))))))) (sPass))
def zbs : GN := fnOf 5 zcC
def zc0 : SF := sSeq (sAsg (eVar 0) (gTp 4 (gsCons (gNm 1) (gsCons (gNm 2) (gsCons (gNm 3) (gsCons (gNm 4) (gsNil))))))) (sSeq (sRet (eN (nArgs 3 zdz) (aCons (eN (nArgs 2 zba) (aCons (eVar 1) (aCons (eVar 2) (aNil)))) (aCons (eN (nArgs 2 zba) (aCons (eVar 1) (aCons (eVar 3) (aNil)))) (aCons (eN (nArgs 2 zba) (aCons (eVar 1) (aCons (eVar 4) (aNil)))) (aNil)))))) (sPass))
def zaR : GN := fnOf 5 zc0
def zcg : SF := sSeq (sAsg (eVar 1) (gTp 4 (gsCons (gNm 2) (gsCons (gNm 3) (gsCons (gNm 4) (gsCons (gNm 5) (gsNil))))))) (sSeq (sAsg (eN (nArgs 1 zaR) (aCons (eVar 1) (aNil))) (gNm 6)) (sSeq (sFor (iVal (eN gLst (aCons (eN gTup (aCons (eVar 0) (aCons (eVar 3) (aCons (eVar 4) (aCons (eVar 5) (aNil)))))) (aCons (eN gTup (aCons (eVar 2) (aCons (eVar 0) (aCons (eVar 4) (aCons (eVar 5) (aNil)))))) (aCons (eN gTup (aCons (eVar 2) (aCons (eVar 3) (aCons (eVar 0) (aCons (eVar 5) (aNil)))))) (aCons (eN gTup (aCons (eVar 2) (aCons (eVar 3) (aCons (eVar 4) (aCons (eVar 0) (aNil)))))) (aNil))))))) (gNm 7) (sSeq (sIf (tBl (eB (gCmp .LtE) (eB (gBin .Mult) (eN (nArgs 1 zaR) (aCons (eVar 7) (aNil))) (eVar 6)) (eC (.int 0)))) (sSeq (sRet (eC (.int 0))) (sPass)) (sPass)) (sPass))) (sSeq (sRet (eB (gBin .Sub) (eN gInt (aCons (eB (gCmp .Gt) (eVar 6) (eC (.int 0))) (aNil))) (eN gInt (aCons (eB (gCmp .Lt) (eVar 6) (eC (.int 0))) (aNil))))) (sPass))))
def zbf : GN := fnOf 8 zcg
def zc1 : SF := sSeq (sAsg (eB (gBin .Mod) (eVar 1) (eC (.int 4))) (gNm 2)) (sSeq (sAsg (eB (gBin .Mod) (eB (gBin .FloorDiv) (eVar 1) (eC (.int 4))) (eC (.int 4))) (gNm 3)) (sSeq (sAsg (eB (gBin .Mod) (eB (gBin .FloorDiv) (eVar 1) (eC (.int 16))) (eC (.int 3))) (gNm 4)) (sSeq (sAsg (eN gLst (aCons (eVar 2) (aCons (eVar 3) (aCons (eVar 4) (aCons (eB (gBin .Sub) (eB (gBin .Sub) (eB (gBin .Sub) (eC (.int 6)) (eVar 2)) (eVar 3)) (eVar 4)) (aNil)))))) (gNm 5)) (sSeq (sRet (eN gTuple (aCons (eLc (iRg1 (aCons (eC (.int 3)) (aNil))) (gNm 0) (tTru) (eB (gBin .FloorDiv) (eN gSum (aCons (eLc (iRg1 (aCons (eC (.int 4)) (aNil))) (gNm 0) (tTru) (eB (gBin .Mult) (eB gIx (eVar 3) (eVar 0)) (eB gIx (eB gIx (eVar 1) (eVar 0)) (eVar 2))) [none, some 1, some 0, some 2]) (aNil))) (eC (.int 6))) [none, some 0, some 5]) (aNil)))) (sPass)))))
def zcR : GN := fnOf 6 zc1
def zbl : SF := sSeq (sAsg (eN (nArgs 2 zbT) (aCons (eN (nArgs 2 zaK) (aCons (eVar 0) (aCons (eB (gBin .Add) (eVar 1) (eC (.int 1))) (aNil)))) (aCons (eVar 1) (aNil)))) (gNm 2)) (sSeq (sAsg (eB gIx (eN gLst (aCons (eC (.int 1)) (aCons (eC (.int 6)) (aCons (eC (.int 6)) (aNil))))) (eB (gBin .Mod) (eB (gBin .FloorDiv) (eVar 2) (eC (.int 282429536481))) (eC (.int 3)))) (gNm 3)) (sSeq (sAsg (eLc (iVal (eN (nArgs 1 zcb) (aCons (eVar 2) (aNil)))) (gNm 0) (tTru) (eN gTuple (aCons (eLc (iVal (eVar 0)) (gNm 0) (tTru) (eB (gBin .Mult) (eVar 1) (eVar 0)) [none, some 1]) (aNil))) [none, some 3]) (gNm 4)) (sSeq (sRet (eLc (iVal (eVar 4)) (gNm 0) (tTru) (eN (nArgs 2 za1) (aCons (eVar 0) (aCons (eN (nArgs 2 zaK) (aCons (eVar 1) (aCons (eC (.int 0)) (aNil)))) (aNil)))) [none, some 0])) (sPass))))
def za2 : GN := fnOf 5 zbl
def zey : SF := sAsg (eLc (iRg1 (aCons (eB (gBin .Add) (eC (.int 1)) (eB (gBin .Mod) (eN (nArgs 2 zaK) (aCons (eVar 0) (aCons (eC (.int 3)) (aNil)))) (eC (.int 2)))) (aNil))) (gNm 0) (tTru) (eN (nArgs 2 za2) (aCons (eVar 1) (aCons (eVar 0) (aNil)))) [none, some 0]) (gNm 2)
def zcX : SF := sAsg (eN gLst (aNil)) (gNm 3)
def zcN : SF := sAsg (eB (gBin .Add) (eVar 3) (eN (nArgs 1 zbs) (aCons (eVar 4) (aNil)))) (gNm 3)
def zcz : SF := sSeq zcN sPass
def zex : SF := sFor (iVal (eVar 2)) (gNm 4) zcz
def zb3 : SF := sAsg (eN (nArgs 2 zbT) (aCons (eN (nArgs 2 zaK) (aCons (eVar 0) (aCons (eB (gBin .Add) (eVar 1) (eC (.int 4))) (aNil)))) (aCons (eVar 1) (aNil)))) (gNm 5)
def zb2 : SF := sAsg (eN (nArgs 2 zcR) (aCons (eB gIx (eVar 2) (eB (gBin .Mod) (eVar 5) (eN gLen (aCons (eVar 2) (aNil))))) (aCons (eB (gBin .FloorDiv) (eVar 5) (eC (.int 2))) (aNil)))) (gNm 6)
def zb1 : SF := sAsg (eC (.int 0)) (gNm 7)
def zb0 : SF := sIf (tNotF (tVal (eN gAny (aCons (eLc (iVal (eVar 3)) (gNm 0) (tTru) (eN (nArgs 3 zaE) (aCons (eVar 1) (aCons (eC (.int 1)) (aCons (eVar 0) (aNil))))) [none, some 6]) (aNil))))) (sSeq (sAsg (eB gIx (eN gLst (aCons (eB (gBin .Sub) (eC (.int 0)) (eC (.int 1))) (aCons (eC (.int 1)) (aNil)))) (eN gInt (aCons (eB (gCmp .NotEq) (eN gSum (aCons (eLc (iVal (eVar 2)) (gNm 0) (tTru) (eN (nArgs 2 zbf) (aCons (eVar 1) (aCons (eVar 0) (aNil)))) [none, some 6]) (aNil))) (eC (.int 0))) (aNil)))) (gNm 7)) (sPass)) (sPass)
def zbZ : SF := sAsg (eN (nArgs 2 zdy) (aCons (eVar 6) (aCons (eVar 3) (aNil)))) (gNm 8)
def zbY : SF := sIf (tOrF (tBl (eB (gCmp .NotEq) (eVar 8) (eVar 7))) (tNotF (tVal (eN (nArgs 1 zcq) (aCons (eVar 8) (aNil)))))) (sSeq (sRet (eC (.bl false))) (sPass)) (sPass)
def zbU : SF := sSeq zb3 (sSeq zb2 (sSeq zb1 (sSeq zb0 (sSeq zbZ (sSeq zbY sPass)))))
def zew : SF := sFor (iRg1 (aCons (eC (.int 3)) (aNil))) (gNm 1) zbU
def zev : SF := sRet (eC (.bl true))
def zdi : SF := sSeq zey (sSeq zcX (sSeq zex (sSeq zew (sSeq zev sPass))))
end MX.P
end
section
set_option autoImplicit false
namespace MX
open PySem L2
theorem zcc {p : Prop} {i : Decidable p} (h : p) : @decide p i = true := decide_eq_true h
theorem za7 {p : Prop} {i : Decidable p} (h : ¬ p) : @decide p i = false := decide_eq_false h
section
variable {σ σ1 : Sg} {S S1 S2 : So} {x y z d : D} {xs ds : List D} {fa fb fe fo : EF} {aa : AF}
theorem zan {g : G2} {r : Option (D × So)} (h1 : fa σ S = some (x, S1)) (h2 : fb σ S1 = some (y, S2)) (h3 : g x y S2 = r) : eB g fa fb σ S = r := by
 unfold eB; rw [h1]; simp only [Option.bind_some]; rw [h2]; simp only [Option.bind_some]; exact h3
theorem znf {g : D → So → Option (D × So)} {r : Option (D × So)} (h1 : fa σ S = some (x, S1)) (h3 : g x S1 = r) : eU g fa σ S = r := by
 unfold eU; rw [h1]; simp only [Option.bind_some]; exact h3
theorem zar {g : GN} {r : Option (D × So)} (h1 : aa σ S = some (ds, S1)) (h2 : g ds S1 = r) : eN g aa σ S = r := by
 unfold eN; rw [h1]; simp only [Option.bind_some]; exact h2
theorem zab {fr : AF} (h1 : fa σ S = some (x, S1)) (h2 : fr σ S1 = some (xs, S2)) : aCons fa fr σ S = some (x :: xs, S2) := by
 unfold aCons; rw [h1]; simp only [Option.bind_some]; rw [h2]; rfl
theorem zag : aNil σ S = some ([], S) := rfl
theorem zaH : eC d σ S = some (d, S) := rfl
theorem zaa {i : Nat} (h : σ[i]? = some (some d)) : eVar i σ S = some (d, S) := by unfold eVar; rw [h]
theorem zah {n : Nat} {φ : GN} {r : Option (D × So)} (h1 : ds.length = n) (h2 : φ ds S = r) : nArgs n φ ds S = r := by unfold nArgs; rw [if_pos h1]; exact h2
def iteK {α : Type} (b : Bool) (x y : α) : α := if b = true then x else y
theorem za4 {α : Type} {b : Bool} {x y r : α} (h : b = true) (hx : x = r) : iteK b x y = r := by unfold iteK; rw [if_pos h]; exact hx
theorem zaO {α : Type} {b : Bool} {x y r : α} (h : b = false) (hx : y = r) : iteK b x y = r := by unfold iteK; rw [if_neg (by rw [h]; exact Bool.false_ne_true)]; exact hx
theorem zic {t : TF} {b : Bool} {r : Option (D × So)} (h1 : t σ S = some (b, S1)) (h2 : iteK b (fa σ S1) (fb σ S1) = r) : eIf t fa fb σ S = r := by
 unfold eIf; rw [h1]; simp only [Option.bind_some]; exact h2
theorem zlm {b : Bool} (h1 : fa σ S = some (.bl b, S1)) : eNot fa σ S = some (.bl (!b), S1) := by unfold eNot; rw [h1]; rfl
theorem zln {b : Bool} {r : Option (D × So)} (h1 : fa σ S = some (.bl b, S1)) (h2 : iteK b (fb σ S1) (some (.bl false, S1)) = r) : eAnd fa fb σ S = r := by
 unfold eAnd; rw [h1]; simp only [Option.bind_some]; cases b <;> exact h2
theorem zfJ {b : Bool} {r : Option (D × So)} (h1 : fa σ S = some (.bl b, S1)) (h2 : iteK b (some (.bl true, S1)) (fb σ S1) = r) : eOr fa fb σ S = r := by
 unfold eOr; rw [h1]; simp only [Option.bind_some]; cases b <;> exact h2
theorem zcM {b : Bool} (h1 : fa σ S = some (.bl b, S1)) : tBl fa σ S = some (b, S1) := by unfold tBl; rw [h1]; rfl
theorem zek {b : Bool} (h1 : fa σ S = some (x, S1)) (h2 : truD x S1 = some b) : tVal fa σ S = some (b, S1) := by unfold tVal; rw [h1]; simp only [Option.bind_some]; rw [h2]; rfl
theorem zfj {t : TF} {b : Bool} (h1 : t σ S = some (b, S1)) : tNotF t σ S = some (!b, S1) := by unfold tNotF; rw [h1]; rfl
theorem zlj {t u : TF} {b : Bool} {r : Option (Bool × So)} (h1 : t σ S = some (b, S1)) (h2 : iteK b (u σ S1) (some (false, S1)) = r) : tAndF t u σ S = r := by
 unfold tAndF; rw [h1]; simp only [Option.bind_some]; exact h2
theorem zci {t u : TF} {b : Bool} {r : Option (Bool × So)} (h1 : t σ S = some (b, S1)) (h2 : iteK b (some (true, S1)) (u σ S1) = r) : tOrF t u σ S = r := by
 unfold tOrF; rw [h1]; simp only [Option.bind_some]; exact h2
theorem zas : tTru σ S = some (true, S) := rfl
abbrev SR := Option (Fl × Sg × So)
def seqK (fl : Fl) (g : SF) (σ : Sg) (S : So) : SR := match fl with
 | .nx => g σ S
 | fl => some (fl, σ, S)
theorem zaf {g : SF} {r : SR} (h : g σ S = r) : seqK .nx g σ S = r := h
theorem zaj {g : SF} : seqK (.rt z) g σ S = some (.rt z, σ, S) := rfl
theorem zkj {g : SF} : seqK .bk g σ S = some (.bk, σ, S) := rfl
theorem zki {g : SF} : seqK .ct g σ S = some (.ct, σ, S) := rfl
theorem zac {f g : SF} {fl : Fl} {r : SR} (h1 : f σ S = some (fl, σ1, S1)) (h2 : seqK fl g σ1 S1 = r) : sSeq f g σ S = r := by
 unfold sSeq; rw [h1]; simp only [Option.bind_some]; cases fl <;> exact h2
theorem zaA : sPass σ S = some (.nx, σ, S) := rfl
theorem zlk : sCnt σ S = some (.ct, σ, S) := rfl
theorem zll : sBrk σ S = some (.bk, σ, S) := rfl
theorem zjr : sRetN σ S = some (.rt .non, σ, S) := rfl
theorem zaB (h : fe σ S = some (x, S1)) : sRet fe σ S = some (.rt x, σ, S1) := by unfold sRet; rw [h]; rfl
theorem zjs (h : fe σ S = some (x, S1)) : sDrop fe σ S = some (.nx, σ, S1) := by unfold sDrop; rw [h]; rfl
theorem zai {g : GF} (h1 : fe σ S = some (x, S1)) (h2 : g x σ S1 = some (σ1, S2)) : sAsg fe g σ S = some (.nx, σ1, S2) := by unfold sAsg; rw [h1]; simp only [Option.bind_some]; rw [h2]; rfl
theorem zaW {t : TF} {f g : SF} {b : Bool} {r : SR} (h1 : t σ S = some (b, S1)) (h2 : iteK b (f σ S1) (g σ S1) = r) : sIf t f g σ S = r := by
 unfold sIf; rw [h1]; simp only [Option.bind_some]; exact h2
theorem zne {i : Nat} (h : σ.set i (some d) = σ1) : gNm i d σ S = some (σ1, S) := by unfold gNm; rw [h]
theorem znc {n : Nat} {fr : GFs} {r : Option (Sg × So)} (h1 : ds.length = n) (h2 : fr ds σ S = r) : gTp n fr (.tup ds) σ S = r := by unfold gTp; simp only; rw [if_pos h1]; exact h2
theorem zjv : gsNil [] σ S = some (σ, S) := rfl
theorem zh9 {f : GF} {fr : GFs} {r : Option (Sg × So)} (h1 : f d σ S = some (σ1, S1)) (h2 : fr ds σ1 S1 = r) : gsCons f fr (d :: ds) σ S = r := by unfold gsCons; simp only; rw [h1]; exact h2
theorem znd {fi : EF} (h1 : fo σ S = some (x, S1)) (h2 : fi σ S1 = some (y, S2)) {S3 : So} (h3 : gSet x y d S2 = some S3) : gSt fo fi d σ S = some (σ, S3) := by
 unfold gSt; rw [h1]; simp only [Option.bind_some]; rw [h2]; simp only [Option.bind_some]; rw [h3]; rfl
theorem zb6 {i j : Int} : gBin .Add (.int i) (.int j) S = some (.int (i + j), S) := rfl
theorem zlo {n m : Nat} {xs ys : List D} (h1 : S[n]? = some (.lst xs)) (h2 : S[m]? = some (.lst ys)) (h : xs.length + ys.length ≤ sizeLine) : gBin .Add (.ref n) (.ref m) S = some (.ref S.length, S ++ [.lst (xs ++ ys)]) := by
 unfold gBin gAdd; simp only; rw [h1, h2]; simp only; rw [if_pos h]
theorem zeU {i j : Int} : gBin .Sub (.int i) (.int j) S = some (.int (i - j), S) := rfl
theorem zbb {i j : Int} (h : mulOk i j = true) : gBin .Mult (.int i) (.int j) S = some (.int (i * j), S) := by
 unfold gBin gMul; simp only; rw [if_pos h]
theorem zct {i j : Int} (h : divOk j = true) : gBin .FloorDiv (.int i) (.int j) S = some (.int (i.fdiv j), S) := by
 unfold gBin gDiv; simp only; rw [if_pos h]
theorem zbw {i j : Int} (h : j ≠ 0) : gBin .Mod (.int i) (.int j) S = some (.int (i.fmod j), S) := by
 unfold gBin gMod; simp only; rw [if_pos h]
theorem zgd {i j : Int} : gCmp .Lt (.int i) (.int j) S = some (.bl (decide (i < j)), S) := rfl
theorem zg6 {i j : Int} : gCmp .LtE (.int i) (.int j) S = some (.bl (decide (i ≤ j)), S) := rfl
theorem zge {i j : Int} : gCmp .Gt (.int i) (.int j) S = some (.bl (decide (j < i)), S) := rfl
theorem zia {i j : Int} : gCmp .GtE (.int i) (.int j) S = some (.bl (decide (j ≤ i)), S) := rfl
theorem zfI {i j : Int} : gCmp .Eq (.int i) (.int j) S = some (.bl (decide (i = j)), S) := rfl
theorem zgb {i j : Int} : gCmp .NotEq (.int i) (.int j) S = some (.bl (!decide (i = j)), S) := rfl
theorem zh7 : gCmp .Is x .non S = some (.bl (isNon x), S) := by cases x <;> rfl
theorem zdg : gCmp .IsNot x .non S = some (.bl (!isNon x), S) := by cases x <;> rfl
theorem zeV {i : Int} : gNeg (.int i) S = some (.int (-i), S) := rfl
theorem za5 {i : Int} (h : atI xs i = some z) : gIx (.tup xs) (.int i) S = some (z, S) := by unfold gIx; simp only; rw [h]; rfl
theorem zbx {n : Nat} {i : Int} (h1 : S[n]? = some (.lst xs)) (h : atI xs i = some z) : gIx (.ref n) (.int i) S = some (z, S) := by unfold gIx; simp only; rw [h1]; simp only; rw [h]; rfl
theorem zeW {n : Nat} {i : Int} (h1 : S[n]? = some (.frz xs)) (h : atI xs i = some z) : gIx (.ref n) (.int i) S = some (z, S) := by unfold gIx; simp only; rw [h1]; simp only; rw [h]; rfl
theorem zeT (h : ds.length ≤ sizeLine) : gTup ds S = some (.tup ds, S) := by unfold gTup; rw [if_pos h]
theorem zen (h : ds.length ≤ sizeLine) : gLst ds S = some (.ref S.length, S ++ [.lst ds]) := by unfold gLst; rw [if_pos h]
theorem zeo : gLen [.tup xs] S = some (.int xs.length, S) := rfl
theorem zcs {n : Nat} (h1 : S[n]? = some (.lst xs)) : gLen [.ref n] S = some (.int xs.length, S) := by unfold gLen; simp only; rw [h1]
theorem zcS {n : Nat} (h1 : S[n]? = some (.frz xs)) : gLen [.ref n] S = some (.int xs.length, S) := by unfold gLen; simp only; rw [h1]
theorem zbL {n : Nat} (h1 : S[n]? = some (.lst xs)) : gTuple [.ref n] S = some (.tup xs, S) := by unfold gTuple; simp only; rw [h1]
theorem zdf {n : Nat} (h1 : S[n]? = some (.lst xs)) : gList [.ref n] S = some (.ref S.length, S ++ [.lst xs]) := by unfold gList; simp only; rw [h1]
theorem zde : gList [.tup xs] S = some (.ref S.length, S ++ [.lst xs]) := rfl
theorem zel {i j : Int} : gMin' [.int i, .int j] S = some (.int (if j < i then j else i), S) := rfl
theorem zem {i j : Int} : gMax' [.int i, .int j] S = some (.int (if j > i then j else i), S) := rfl
theorem zeY {i : Int} : gAbs [.int i] S = some (.int (if i < 0 then -i else i), S) := rfl
theorem zgc {n : Nat} {ns : List Int} {m : Int} (h1 : S[n]? = some (.lst (ns.map .int))) (h : minI ns = some m) : gMin' [.ref n] S = some (.int m, S) := by unfold gMin' gMin; simp only; rw [h1]; simp only; rw [zfE]; simp only [Option.bind_some]; rw [h]; rfl
theorem zh6 {n : Nat} {ns : List Int} {m : Int} (h1 : S[n]? = some (.lst (ns.map .int))) (h : maxI ns = some m) : gMax' [.ref n] S = some (.int m, S) := by unfold gMax' gMax; simp only; rw [h1]; simp only; rw [zfE]; simp only [Option.bind_some]; rw [h]; rfl
theorem zcW {n : Nat} {bs : List Bool} (h1 : S[n]? = some (.lst xs)) (h2 : boolsD xs = some bs) : gAll [.ref n] S = some (.bl (bs.all id), S) := by unfold gAll; simp only; rw [h1]; simp only; rw [h2]; rfl
theorem zda {n : Nat} {ns : List Int} {m : Int} (h1 : S[n]? = some (.lst xs)) (h2 : intsD xs = some ns) (h : minI ns = some m) : gMin' [.ref n] S = some (.int m, S) := by unfold gMin' gMin; simp only; rw [h1]; simp only; rw [h2]; simp only [Option.bind_some]; rw [h]; rfl
theorem zdd {n : Nat} {ns : List Int} {m : Int} (h1 : S[n]? = some (.lst xs)) (h2 : intsD xs = some ns) (h : maxI ns = some m) : gMax' [.ref n] S = some (.int m, S) := by unfold gMax' gMax; simp only; rw [h1]; simp only; rw [h2]; simp only [Option.bind_some]; rw [h]; rfl
theorem zc9 {ns : List Int} {m : Int} (h2 : intsD xs = some ns) (h : minI ns = some m) : gMin' [.tup xs] S = some (.int m, S) := by unfold gMin'; simp only; rw [h2]; simp only [Option.bind_some]; rw [h]; rfl
theorem zdc {ns : List Int} {m : Int} (h2 : intsD xs = some ns) (h : maxI ns = some m) : gMax' [.tup xs] S = some (.int m, S) := by unfold gMax'; simp only; rw [h2]; simp only [Option.bind_some]; rw [h]; rfl
theorem zc8 {i j : Int} : gMin' [.tup [.int i, .int j]] S = some (.int (if j < i then j else i), S) := rfl
theorem zdb {i j : Int} : gMax' [.tup [.int i, .int j]] S = some (.int (if j > i then j else i), S) := rfl
theorem zng {fl fh : PF} {l h : Option Int} {S3 : So} {r : Option (D × So)} (h1 : fe σ S = some (x, S1)) (h2 : fl σ S1 = some (l, S2)) (h3 : fh σ S2 = some (h, S3)) (h4 : gSl x l h S3 = r) : eSl fe fl fh σ S = r := by
 unfold eSl; rw [h1]; simp only [Option.bind_some]; rw [h2]; simp only [Option.bind_some]; rw [h3]; exact h4
theorem zju : pNone σ S = some (none, S) := rfl
theorem zjt {i : Int} (h : fe σ S = some (.int i, S1)) : pSome fe σ S = some (some i, S1) := by unfold pSome; rw [h]; rfl
theorem zna {l h : Option Int} {ys : List D} (hc : ¬ (HT.sIx xs.length 0 l = 0 ∧ HT.sIx xs.length xs.length h = xs.length)) (e : cutD xs l h = ys) : gSl (.tup xs) l h S = some (.tup ys, S) := by
 unfold gSl; simp only; rw [if_pos hc, e]
theorem znb {n : Nat} {l h : Option Int} {ys : List D} (h1 : S[n]? = some (.lst xs)) (e : cutD xs l h = ys) : gSl (.ref n) l h S = some (.ref S.length, S ++ [.lst ys]) := by
 unfold gSl; simp only; rw [h1]; simp only; rw [e]
theorem zgD : cutD (x :: xs) (some 1) none = xs := by
 unfold cutD
 have h1 : HT.sIx (x :: xs).length 0 (some 1) = 1 := by
   unfold HT.sIx
   simp
   try omega
 have h2 : HT.sIx (x :: xs).length (x :: xs).length none = (x :: xs).length := rfl
 rw [h1, h2]
 simp
theorem zgF : cutD (x :: xs) none (some 1) = [x] := by
 unfold cutD
 have h1 : HT.sIx (x :: xs).length (x :: xs).length (some 1) = 1 := by
   unfold HT.sIx
   simp
   try omega
 have h2 : HT.sIx (x :: xs).length 0 none = 0 := rfl
 rw [h1, h2]
 simp
theorem zcU {j : Int} (h1 : aa σ S = some ([.int j], S1)) (hb : -(2 ^ 62) ≤ j ∧ j < 2 ^ 62) : iRg1 aa σ S = some (.fix (rangeD 0 j.toNat), S1) := by
 unfold iRg1; rw [h1]; simp only [Option.bind_some]; rw [if_pos hb]
theorem zgB (h1 : fe σ S = some (.tup xs, S1)) : iVal fe σ S = some (.fix xs, S1) := by unfold iVal; rw [h1]; rfl
theorem za3 {n : Nat} (h1 : fe σ S = some (.ref n, S1)) (h2 : S1[n]? = some (.lst xs)) : iVal fe σ S = some (.lst n, S1) := by unfold iVal; rw [h1]; simp only [Option.bind_some]; rw [h2]
theorem zcT {fi : IF} {g : GF} {t : TF} {src : List (Option Nat)} {j : ItD} {n : Nat} {ys : List D} (h1 : fi σ S = some (j, S1)) (h2 : cntD j S1 = some n) (hn : n ≤ sizeLine) (hτ : srcD src σ = σ1) (h3 : lcN (nxD j) g t fe n 0 σ1 S1 [] = some (ys, S2)) : eLc fi g t fe src σ S = some (.ref S2.length, S2 ++ [.lst ys]) := by
 subst hτ; unfold eLc lcD; rw [h1]; simp only [Option.bind_some]; rw [h2]; simp only [Option.bind_some]; rw [if_pos hn, h3]; rfl
theorem zcj {nx : Nat → So → Option (Option D)} {g : GF} {t : TF} {i : Nat} {acc : List D} (h : nx i S = some none) : lcN nx g t fe 0 i σ S acc = some (acc, S) := by unfold lcN; rw [h]
theorem zaF {nx : Nat → So → Option (Option D)} {g : GF} {t : TF} {k i : Nat} {acc acc' : List D} {r : Option (List D × So)} {S3 : So} (h : nx i S = some (some d)) (h1 : g d σ S = some (σ1, S1)) (h2 : t σ1 S1 = some (true, S2)) (h3 : fe σ1 S2 = some (x, S3)) (ha : acc ++ [x] = acc')
   (h4 : lcN nx g t fe k (i + 1) σ1 S3 acc' = r) : lcN nx g t fe (k + 1) i σ S acc = r := by
 unfold lcN; rw [h]; simp only; rw [h1]; simp only [Option.bind_some]; rw [h2]; simp only [Option.bind_some, if_true]; rw [h3]; rw [← ha] at h4; exact h4
theorem zbc {fi : IF} {g : GF} {f : SF} {j : ItD} {n : Nat} {r : SR} (h1 : fi σ S = some (j, S1)) (h2 : cntD j S1 = some n) (h3 : forN (nxD j) g f n 0 σ S1 = r) : sFor fi g f σ S = r := by
 unfold sFor; rw [h1]; simp only [Option.bind_some]; rw [h2]; exact h3
theorem zcV {nx : Nat → So → Option (Option D)} {g : GF} {f : SF} {i : Nat} (h : nx i S = some none) : forN nx g f 0 i σ S = some (.nx, σ, S) := by unfold forN; rw [h]
def forK (fl : Fl) (nx : Nat → So → Option (Option D)) (g : GF) (f : SF) (k i : Nat) (σ : Sg) (S : So) : SR := match fl with
 | .nx => forN nx g f k i σ S
 | .ct => forN nx g f k i σ S
 | .bk => some (.nx, σ, S)
 | .rt d => some (.rt d, σ, S)
theorem zal {nx : Nat → So → Option (Option D)} {g : GF} {f : SF} {k i : Nat} {fl : Fl} {σ2 : Sg} {r : SR} (h : nx i S = some (some d)) (h1 : g d σ S = some (σ1, S1)) (h2 : f σ1 S1 = some (fl, σ2, S2)) (h3 : forK fl nx g f k (i + 1) σ2 S2 = r) : forN nx g f (k + 1) i σ S = r := by
 unfold forN; rw [h]; simp only; rw [h1]; simp only [Option.bind_some]; rw [h2]; simp only [Option.bind_some]; cases fl <;> exact h3
theorem zat {nx : Nat → So → Option (Option D)} {g : GF} {f : SF} {k i : Nat} {r : SR} (h : forN nx g f k i σ S = r) : forK .nx nx g f k i σ S = r := h
theorem zlf {nx : Nat → So → Option (Option D)} {g : GF} {f : SF} {k i : Nat} {r : SR} (h : forN nx g f k i σ S = r) : forK .ct nx g f k i σ S = r := h
theorem zbJ {nx : Nat → So → Option (Option D)} {g : GF} {f : SF} {k i : Nat} : forK (.rt z) nx g f k i σ S = some (.rt z, σ, S) := rfl
theorem zlg {nx : Nat → So → Option (Option D)} {g : GF} {f : SF} {k i : Nat} : forK .bk nx g f k i σ S = some (.nx, σ, S) := rfl
theorem zgw {i : Nat} (h : xs[i]? = some d) : nxD (.fix xs) i S = some (some d) := by show some xs[i]? = _; rw [h]
theorem zaz {n i : Nat} (h1 : S[n]? = some (.lst xs)) (h : xs[i]? = some d) : nxD (.lst n) i S = some (some d) := by unfold nxD; simp only; rw [h1]; simp only; rw [h]
theorem zc5 {n i : Nat} {lo : Int} {z : Int} (h : i < n) (hz : lo + (i : Nat) = z) : nxD (.fix (rangeD lo n)) i S = some (some (.int z)) := by
 unfold nxD; simp only; rw [zdt, if_pos h, hz]
theorem zau {o : O} : (S ++ [o])[S.length]? = some o := by simp
theorem zaV {o p : O} {n : Nat} (h : S[n]? = some o) : (S ++ [p])[n]? = some o := by
 rw [List.getElem?_append_left (List.getElem?_eq_some_iff.mp h).1]; exact h
end
end MX
end
section
set_option autoImplicit false
namespace MX
open PySem L2
def pln : Nat → D → Bool
 | _, .non => true
 | _, .int _ => true
 | _, .str x => PyData.strOk x
 | n + 1, .tup xs => xs.all (pln n)
 | _, _ => false
def pyD : Nat → D → PyData
 | _, .int i => .int i
 | _, .str x => .str x
 | n + 1, .tup xs => .tuple (xs.map (pyD n))
 | _, _ => .none
theorem ze2 {f : D → Option PyData} {g : D → PyData} : ∀ {xs : List D}, (∀ d ∈ xs, f d = some (g d)) → toPl f xs = some (xs.map g)
 | [], _ => rfl
 | d :: r, h => by
   unfold toPl
   rw [h d List.mem_cons_self, ze2 (xs := r) fun e he => h e (List.mem_cons_of_mem _ he)]
   rfl
theorem zdZ {S : So} : ∀ {n : Nat} {d : D}, pln n d = true → toP S (n + 1) d = some (pyD n d)
 | n, .non, _ => by simp [toP]; cases n <;> rfl
 | n, .int i, _ => by simp [toP]; cases n <;> rfl
 | n, .str x, _ => by simp [toP]; cases n <;> rfl
 | n + 1, .tup xs, h => by
   unfold pln at h
   rw [List.all_eq_true] at h
   unfold toP
   rw [ze2 fun d hd => zdZ (h d hd)]
   rfl
 | 0, .tup xs, h => by simp [pln] at h
 | _, .bl _, h => by simp [pln] at h
 | _, .ref _, h => by simp [pln] at h
 | _, .ty _, h => by simp [pln] at h
 | _, .adr _, h => by simp [pln] at h
theorem zc3 {S : So} : ∀ {n m : Nat} {d : D} {p : PyData}, toP S n d = some p → n ≤ m → toP S m d = some p
 | 0, _, _, _, h, _ => by simp [toP] at h
 | n + 1, 0, _, _, _, hm => by omega
 | n + 1, m + 1, d, p, h, hm => by
   have aux : ∀ {xs : List D} {ps : List PyData}, toPl (toP S n) xs = some ps → toPl (toP S m) xs = some ps := fun {xs} => by
     induction xs with
     | nil => intro ps e; exact e
     | cons x r ih =>
       intro ps e
       simp only [toPl, Option.bind_eq_some_iff, Option.map_eq_some_iff] at e ⊢
       obtain ⟨q, e1, qs, e2, e3⟩ := e
       exact ⟨q, zc3 e1 (by omega), qs, ih e2, e3⟩
   cases d with
   | tup xs =>
     simp only [toP, Option.map_eq_some_iff] at h ⊢
     obtain ⟨ps, e1, e2⟩ := h
     exact ⟨ps, aux e1, e2⟩
   | ref k =>
     simp only [toP] at h ⊢
     split at h
     · rename_i q
       simp only [Option.map_eq_some_iff] at h ⊢
       obtain ⟨ps, e1, e2⟩ := h
       exact ⟨ps, aux e1, e2⟩
     · rename_i q
       simp only [Option.map_eq_some_iff] at h ⊢
       obtain ⟨ps, e1, e2⟩ := h
       exact ⟨ps, aux e1, e2⟩
     · cases h
   | non => simpa [toP] using h
   | bl b => simpa [toP] using h
   | int i => simpa [toP] using h
   | str x => simpa [toP] using h
   | ty x => simp [toP] at h
   | adr x => simp [toP] at h
theorem canAll {ps : List PyData} (h : ∀ p ∈ ps, PyData.canLay0 p = true) : PyData.canLayAll0 ps = true := by
 induction ps with
 | nil => rfl
 | cons p r ih => unfold PyData.canLayAll0; rw [h p List.mem_cons_self, ih fun q hq => h q (List.mem_cons_of_mem _ hq)]; rfl
theorem depAll {ps : List PyData} {n : Nat} (h : ∀ p ∈ ps, PyData.depth p ≤ n) : PyData.depthAll ps ≤ n := by
 induction ps with
 | nil => exact Nat.zero_le _
 | cons p r ih => unfold PyData.depthAll; exact Nat.max_le.mpr ⟨h p List.mem_cons_self, ih fun q hq => h q (List.mem_cons_of_mem _ hq)⟩
theorem zfx : ∀ {n : Nat} {d : D}, pln n d = true → PyData.canLay0 (pyD n d) = true ∧ PyData.depth (pyD n d) ≤ n
 | n, .non, _ => by cases n <;> exact ⟨rfl, Nat.zero_le _⟩
 | n, .int i, _ => by cases n <;> exact ⟨rfl, Nat.zero_le _⟩
 | n, .str x, h => by
   have h' : PyData.strOk x = true := by cases n <;> simpa [pln] using h
   cases n <;> exact ⟨h', Nat.zero_le _⟩
 | n + 1, .tup xs, h => by
   unfold pln at h
   rw [List.all_eq_true] at h
   constructor
   · show PyData.canLayAll0 (xs.map (pyD n)) = true
     refine canAll fun p hp => ?_
     obtain ⟨d, hd, rfl⟩ := List.mem_map.mp hp
     exact (zfx (h d hd)).1
   · show PyData.depthAll (xs.map (pyD n)) + 1 ≤ n + 1
     refine Nat.succ_le_succ (depAll fun p hp => ?_)
     obtain ⟨d, hd, rfl⟩ := List.mem_map.mp hp
     exact (zfx (h d hd)).2
 | 0, .tup xs, h => by simp [pln] at h
 | _, .bl _, h => by simp [pln] at h
 | _, .ref _, h => by simp [pln] at h
 | _, .ty _, h => by simp [pln] at h
 | _, .adr _, h => by simp [pln] at h
theorem zeL {n : Nat} {d : D} (h : pln n d = true) (hn : n ≤ 64) : SeqAt.shaped (pyD n d) = true := by
 unfold SeqAt.shaped
 obtain ⟨a, b⟩ := zfx h
 rw [a, Bool.true_and]
 exact decide_eq_true (by omega)
theorem zif {f : D → PyData} {xs : List D} : ∀ {ys : List D}, (∀ x ∈ xs, ∀ y ∈ ys, (PyData.eqv (f x) (f y) = true ↔ x = y)) → (PyData.eqvAll (xs.map f) (ys.map f) = true ↔ xs = ys) := by
 induction xs with
 | nil => intro ys h; cases ys <;> simp [PyData.eqvAll]
 | cons x r ih =>
   intro ys h
   cases ys with
   | nil => simp [PyData.eqvAll]
   | cons y s =>
     simp only [List.map_cons, PyData.eqvAll, Bool.and_eq_true, List.cons.injEq]
     rw [h x List.mem_cons_self y List.mem_cons_self, ih fun a ha b hb => h a (List.mem_cons_of_mem _ ha) b (List.mem_cons_of_mem _ hb)]
theorem zie : ∀ {n : Nat} {x y : D}, pln n x = true → pln n y = true → (PyData.eqv (pyD n x) (pyD n y) = true ↔ x = y) := by
 intro n
 induction n with
 | zero =>
   intro x y hx hy
   cases x <;> cases y <;> simp_all [pln, pyD, PyData.eqv]
 | succ n ih =>
   intro x y hx hy
   cases x <;> cases y <;> simp_all [pln, pyD, PyData.eqv]
   exact zif fun a ha b hb => ih (hx a ha) (hy b hb)
open Classical in
theorem zig {S : So} {x y : D} (n : Nat) (hx : pln n x = true) (hy : pln n y = true) (hn : n ≤ 23 := by decide) : eqD S x y = some (decide (x = y)) := by
 unfold eqD
 rw [zc3 (zdZ hx) (by omega), zc3 (zdZ hy) (by omega)]
 simp only [Option.bind_some]
 rw [if_pos ⟨zeL hx (by omega), zeL hy (by omega)⟩]
 congr 1
 rw [Bool.eq_iff_iff, zie hx hy, decide_eq_true_eq]
open Classical in
theorem zlp {S : So} {n m : Nat} {xs ys : List D} (k : Nat) (h1 : S[n]? = some (.lst xs) ∨ S[n]? = some (.frz xs)) (h2 : S[m]? = some (.lst ys) ∨ S[m]? = some (.frz ys)) (hx : ∀ x ∈ xs, pln k x = true) (hy : ∀ y ∈ ys, pln k y = true) (hk : k ≤ 20 := by decide) :
   eqD S (.ref n) (.ref m) = some (decide (xs = ys)) := by
 have e1 : toP S (k + 2) (.ref n) = some (.list (xs.map (pyD k))) := by
   unfold toP
   rcases h1 with h1 | h1 <;> (rw [h1]; simp only; rw [ze2 fun d hd => zdZ (hx d hd)]; rfl)
 have e2 : toP S (k + 2) (.ref m) = some (.list (ys.map (pyD k))) := by
   unfold toP
   rcases h2 with h2 | h2 <;> (rw [h2]; simp only; rw [ze2 fun d hd => zdZ (hy d hd)]; rfl)
 have sh : ∀ zs : List D, (∀ z ∈ zs, pln k z = true) → SeqAt.shaped (.list (zs.map (pyD k))) = true := fun zs hz => by
   unfold SeqAt.shaped
   rw [Bool.and_eq_true]
   constructor
   · show PyData.canLayAll0 _ = true
     refine canAll fun p hp => ?_
     obtain ⟨d, hd, rfl⟩ := List.mem_map.mp hp
     exact (zfx (hz d hd)).1
   · refine decide_eq_true ?_
     show PyData.depthAll _ + 1 ≤ 64
     have : PyData.depthAll (zs.map (pyD k)) ≤ k := depAll fun p hp => by
       obtain ⟨d, hd, rfl⟩ := List.mem_map.mp hp
       exact (zfx (hz d hd)).2
     omega
 unfold eqD
 rw [zc3 e1 (by omega), zc3 e2 (by omega)]
 simp only [Option.bind_some]
 rw [if_pos ⟨sh xs hx, sh ys hy⟩]
 congr 1
 rw [Bool.eq_iff_iff, decide_eq_true_eq]
 show PyData.eqvAll _ _ = true ↔ _
 exact zif fun a ha b hb => zie (hx a ha) (hy b hb)
section
variable {S : So} {x y : D}
def nInt : D → D → Bool
 | .int _, .int _ => false
 | _, _ => true
open Classical in
theorem zeX (h : nInt x y = true) (n : Nat) (hx : pln n x = true) (hy : pln n y = true) (hn : n ≤ 23) : gCmp .Eq x y S = some (.bl (decide (x = y)), S) := by
 have e : gCmp .Eq x y S = (eqD S x y).map fun b => (.bl b, S) := by cases x <;> cases y <;> first | rfl | cases h
 rw [e, zig n hx hy hn]; rfl
open Classical in
theorem zfH (h : nInt x y = true) (n : Nat) (hx : pln n x = true) (hy : pln n y = true) (hn : n ≤ 23) : gCmp .NotEq x y S = some (.bl (!decide (x = y)), S) := by
 have e : gCmp .NotEq x y S = (eqD S x y).map fun b => (.bl (!b), S) := by cases x <;> cases y <;> first | rfl | cases h
 rw [e, zig n hx hy hn]; rfl
open Classical in
theorem zib {n m : Nat} {xs ys : List D} (k : Nat) (h1 : S[n]? = some (.lst xs) ∨ S[n]? = some (.frz xs)) (h2 : S[m]? = some (.lst ys) ∨ S[m]? = some (.frz ys)) (hx : ∀ x ∈ xs, pln k x = true) (hy : ∀ y ∈ ys, pln k y = true) (hk : k ≤ 20) :
   gCmp .Eq (.ref n) (.ref m) S = some (.bl (decide (xs = ys)), S) := by
 show (eqD S (.ref n) (.ref m)).map _ = _
 rw [zlp k h1 h2 hx hy hk]; rfl
end
end MX
end
section
set_option autoImplicit false
namespace MX
open PySem L2
open Builtin.Int (intBits)
def Bd (k : Nat) (x : Int) : Prop := x.natAbs < 2 ^ k
theorem Bd.le {k l : Nat} {x : Int} (h : Bd k x) (hl : k ≤ l) : Bd l x := Nat.lt_of_lt_of_le h (Nat.pow_le_pow_right (by decide) hl)
theorem Bd.add {k l : Nat} {x y : Int} (h : Bd k x) (g : Bd l y) : Bd (max k l + 1) (x + y) := by
 have h1 := h.le (Nat.le_max_left k l)
 have h2 := g.le (Nat.le_max_right k l)
 unfold Bd at *
 rw [Nat.pow_succ]
 have := Int.natAbs_add_le x y
 omega
theorem Bd.neg {k : Nat} {x : Int} (h : Bd k x) : Bd k (-x) := by unfold Bd at *; rw [Int.natAbs_neg]; exact h
theorem Bd.sub {k l : Nat} {x y : Int} (h : Bd k x) (g : Bd l y) : Bd (max k l + 1) (x - y) := by
 rw [Int.sub_eq_add_neg]; exact h.add g.neg
theorem Bd.mul {k l : Nat} {x y : Int} (h : Bd k x) (g : Bd l y) : Bd (k + l) (x * y) := by
 unfold Bd at *
 rw [Int.natAbs_mul, Nat.pow_add]
 exact Nat.mul_lt_mul'' h g
theorem Bd.lit (x : Int) : Bd (intBits x) x := by
 unfold Bd intBits
 split
 · rename_i h
   have : x = 0 := by simpa using h
   subst this; decide
 · exact Nat.lt_log2_self
theorem Bd.fmod {m x : Int} (h : 0 < m) : Bd (intBits m) (x.fmod m) := by
 have h1 := Int.fmod_nonneg_of_pos x h
 have h2 := Int.fmod_lt_of_pos x h
 have h3 := Bd.lit m
 unfold Bd at *
 omega
theorem zjq {x y : Int} (hy : 0 < y) : (x.fdiv y).natAbs ≤ x.natAbs := by
 rw [Int.fdiv_eq_ediv_of_nonneg _ (by omega)]
 exact Int.natAbs_ediv_le_natAbs x y
theorem Bd.fdiv {k : Nat} {x y : Int} (h : Bd k x) (hy : 0 < y) : Bd k (x.fdiv y) := Nat.lt_of_le_of_lt (zjq hy) h
theorem zfG {i j : Int} {S : So} (h : 0 ≤ j ∧ j ≤ 1000000 ∧ i.natAbs < 2 ^ 64) : gBin .LShift (.int i) (.int j) S = some (.int (i * 2 ^ j.toNat), S) := by
 unfold gBin gShl; simp only; rw [if_pos h]
theorem Bd.bits {k : Nat} {x : Int} (h : Bd k x) : intBits x ≤ k := by
 unfold Bd at h
 unfold intBits
 split
 · exact Nat.zero_le _
 · rename_i hn
   have hx : x.natAbs ≠ 0 := fun e => hn (by have := Int.natAbs_eq_zero.mp e; subst this; rfl)
   exact (Nat.log2_lt hx).mpr h
theorem za8 {k l : Nat} {x y : Int} (h : Bd k x) (g : Bd l y) (hl : k + l ≤ 134217728) : mulOk x y = true := by
 unfold mulOk
 have h1 := h.bits
 have h2 := g.bits
 rw [Bool.or_eq_true]
 exact .inr (decide_eq_true (by omega))
theorem zhJ {x y : Int} (h : intBits y ≤ 64) : mulOk x y = true := by
 unfold mulOk
 rw [Bool.or_eq_true, Bool.or_eq_true]
 exact .inl (.inr (decide_eq_true h))
theorem zk5 {x y : Int} (h : intBits x ≤ 64) : mulOk x y = true := by
 unfold mulOk
 rw [Bool.or_eq_true, Bool.or_eq_true]
 exact .inl (.inl (decide_eq_true h))
theorem zgC {k : Nat} {y : Int} (h : Bd k y) (h0 : y ≠ 0) (hl : k ≤ 8000) : divOk y = true := by
 unfold divOk
 have := h.bits
 rw [Bool.and_eq_true]
 exact ⟨decide_eq_true h0, decide_eq_true (by omega)⟩
abbrev P3 (x y z : Int) : D := .tup [.int x, .int y, .int z]
abbrev R2 (x y : Int) : D := .tup [.int x, .int y]
end MX
namespace MX
open PySem L2
theorem D.lo_mono : ∀ {d : D} {n m : Nat}, n ≤ m → D.lo n d = true → D.lo m d = true := by
 have key : ∀ (k : Nat) (d : D) (n m : Nat), sizeOf d ≤ k → n ≤ m → D.lo n d = true → D.lo m d = true := by
   intro k
   induction k with
   | zero => intro d n m hk; cases d <;> simp at hk
   | succ k ih =>
     intro d n m hk hm h
     cases d with
     | tup xs =>
       rw [D.lo] at h ⊢
       have aux : ∀ ys : List D, sizeOf ys ≤ k → los n ys = true → los m ys = true := by
         intro ys
         induction ys with
         | nil => intro _ _; simp [los]
         | cons y r ihr =>
           intro hs hl
           rw [los, Bool.and_eq_true] at hl ⊢
           simp at hs
           exact ⟨ih y n m (by omega) hm hl.1, ihr (by omega) hl.2⟩
       exact aux xs (by simp at hk; omega) h
     | ref j => rw [D.lo] at h ⊢; exact decide_eq_true (Nat.lt_of_lt_of_le (of_decide_eq_true h) hm)
     | _ => simp [D.lo]
 exact fun {d n m} hm h => key (sizeOf d) d n m (Nat.le_refl _) hm h
theorem zbI {n : Nat} : ∀ {xs : List D}, los n xs = true ↔ ∀ x ∈ xs, D.lo n x = true
 | [] => by simp [los]
 | x :: r => by rw [los, Bool.and_eq_true, zbI (xs := r)]; simp
theorem zfe {n m : Nat} {xs : List D} (hm : n ≤ m) (h : los n xs = true) : los m xs = true := zbI.mpr fun x hx => D.lo_mono hm (zbI.mp h x hx)
theorem O.lo_mono {n m : Nat} {o : O} (hm : n ≤ m) (h : O.lo n o = true) : O.lo m o = true := by
 cases o with
 | lst xs => exact zfe hm h
 | frz xs => exact zfe hm h
 | ins C fs => exact zfe hm h
 | dct xs => rfl
theorem WF.snoc {S : So} {o : O} (h : WF S) (ho : O.lo S.length o = true) : WF (S ++ [o]) := fun p hp => by
 rw [List.length_append, List.length_singleton]
 rcases List.mem_append.mp hp with hp | hp
 · exact O.lo_mono (Nat.le_succ _) (h p hp)
 · rw [List.mem_singleton.mp hp]; exact O.lo_mono (Nat.le_succ _) ho
theorem zf7 (n : Nat) (ns : List Int) : O.lo n (.lst (ns.map .int)) = true := zbI.mpr fun x hx => by
 obtain ⟨i, _, rfl⟩ := List.mem_map.mp hx
 simp [D.lo]
def Gr (S S' : So) : Prop := (∃ G, S' = S ++ G) ∧ WF S'
theorem Gr.refl {S : So} (h : WF S) : Gr S S := ⟨⟨[], by simp⟩, h⟩
theorem Gr.trans {S S1 S2 : So} (a : Gr S S1) (b : Gr S1 S2) : Gr S S2 := by
 obtain ⟨⟨G, rfl⟩, _⟩ := a
 obtain ⟨⟨G', rfl⟩, h⟩ := b
 exact ⟨⟨G ++ G', by simp⟩, h⟩
theorem Gr.snoc {S S1 : So} {o : O} (a : Gr S S1) (ho : O.lo S1.length o = true) : Gr S (S1 ++ [o]) := by
 obtain ⟨⟨G, rfl⟩, h⟩ := a
 exact ⟨⟨G ++ [o], by simp⟩, h.snoc ho⟩
theorem Gr.old {S S1 : So} (a : Gr S S1) {n : Nat} {o : O} (h : S[n]? = some o) : S1[n]? = some o := by
 obtain ⟨⟨G, rfl⟩, _⟩ := a
 rw [List.getElem?_append_left (List.getElem?_eq_some_iff.mp h).1]; exact h
theorem Gr.take {S S1 : So} (a : Gr S S1) : S1.take S.length = S := by
 obtain ⟨⟨G, rfl⟩, _⟩ := a
 simp
end MX
namespace MX.P
open PySem L2 MX
abbrev Pt := Int × Int × Int
abbrev pD (p : Pt) : D := P3 p.1 p.2.1 p.2.2
end MX.P
end
open MX
local macro_rules | `(tactic| wtm_at "mx dec") => `(tactic| first | rfl | assumption | exact zcc (by first | assumption | rfl | omega) | exact za7 (by first | assumption | omega) | (simp only [Bool.not_eq_true', Bool.not_eq_false', Bool.not_true, Bool.not_false, decide_eq_true_eq, decide_eq_false_iff_not, isNon]; first | assumption | omega))
local macro_rules | `(tactic| wtm_at "mx so") => `(tactic| first | assumption | exact zau | (apply zaV; wtm_at "mx so"))
local macro_rules | `(tactic| wtm_at "mx bdr") => `(tactic| first | assumption | ((with_reducible apply Bd.mul); (focus wtm_at "mx bdr"); (focus wtm_at "mx bdr")) | ((with_reducible apply Bd.add); (focus wtm_at "mx bdr"); (focus wtm_at "mx bdr")) | ((with_reducible apply Bd.sub); (focus wtm_at "mx bdr"); (focus wtm_at "mx bdr")) | ((with_reducible apply Bd.neg); wtm_at "mx bdr") | ((with_reducible apply Bd.fmod); decide) | ((with_reducible apply Bd.fmodV); (focus first | assumption | decide); (focus wtm_at "mx bdr")) | ((with_reducible apply Bd.fdiv); (focus wtm_at "mx bdr"); (focus first | decide | assumption | omega)) | exact Bd.lit _)
local macro_rules | `(tactic| wtm_at "mx bd") => `(tactic| (apply Bd.le; (focus wtm_at "mx bdr"); (focus first | decide | (simp only [Nat.reduceAdd, Nat.reduceMax, Nat.max_self]; omega))))
local macro_rules | `(tactic| wtm_at "mx side") => `(tactic| first | assumption | rfl | wtm_at "mx so" | (refine zhJ (by decide)) | (refine zk5 (by decide)) | (apply za8; (focus wtm_at "mx bdr"); (focus wtm_at "mx bdr"); (focus first | decide | omega)) | wtm_at "mx bd" | decide | omega)
local macro_rules | `(tactic| wtm_at "mx wf") => `(tactic| first | assumption | ((with_reducible apply WF.snoc); (focus wtm_at "mx wf"); (focus first | exact zf7 _ _ | assumption | rfl)))
local macro_rules | `(tactic| wtm_at "mx op") => `(tactic| first
 | (with_reducible exact zb6) | (with_reducible exact zeU) | (with_reducible exact zgd) | (with_reducible exact zg6) | (with_reducible exact zge) | (with_reducible exact zia) | (with_reducible exact zfI) | (with_reducible exact zgb) | (with_reducible exact zh7) | (with_reducible exact zdg) | (with_reducible exact zeV)
 | ((with_reducible apply zbb); wtm_at "mx side") | ((with_reducible apply zbw); wtm_at "mx side") | ((with_reducible apply zct); first | decide | wtm_at "mx side") | ((with_reducible apply zfG); decide)
 | ((with_reducible apply za5); first | (with_reducible assumption) | rfl) | ((with_reducible apply zbx); (focus wtm_at "mx so"); (focus first | (with_reducible assumption) | rfl)) | ((with_reducible apply zeW); (focus wtm_at "mx so"); (focus first | (with_reducible assumption) | rfl))
 | (refine zeX ?_ 8 ?_ ?_ ?_ <;> first | decide +kernel | rfl | decide) | (refine zfH ?_ 8 ?_ ?_ ?_ <;> first | decide +kernel | rfl | decide))
local macro_rules | `(tactic| wtm_at "mx fn") => `(tactic| first
 | ((with_reducible apply zeT); exact Nat.le_of_ble_eq_true rfl) | ((with_reducible apply zen); exact Nat.le_of_ble_eq_true rfl) | (with_reducible exact zeo) | (with_reducible exact zc8) | (with_reducible exact zdb) | (with_reducible exact zel) | (with_reducible exact zem) | (with_reducible exact zeY) | (with_reducible exact zde)
 | ((with_reducible apply zcs); wtm_at "mx so") | ((with_reducible apply zcS); wtm_at "mx so") | ((with_reducible apply zbL); wtm_at "mx so") | ((with_reducible apply zdf); wtm_at "mx so")
 | ((with_reducible apply zcW); (focus wtm_at "mx so"); (focus rfl)) | ((with_reducible apply zda); (focus wtm_at "mx so"); (focus rfl); (focus rfl)) | ((with_reducible apply zdd); (focus wtm_at "mx so"); (focus rfl); (focus rfl)) | ((with_reducible apply zc9); (focus rfl); (focus rfl)) | ((with_reducible apply zdc); (focus rfl); (focus rfl))
 | ((with_reducible apply zah); (focus rfl); (focus wtm_at "mx call")))
local macro_rules | `(tactic| wtm_at "mx decq") => `(tactic| first | rfl | (with_reducible assumption) | exact zcc (by with_reducible assumption) | exact za7 (by with_reducible assumption) | exact zcc rfl)
local macro_rules | `(tactic| wtm_at "mx ite") => `(tactic| first | (apply za4; (focus wtm_at "mx decq"); wtm_at "mx ev") | (apply zaO; (focus wtm_at "mx decq"); wtm_at "mx ev") | (apply za4; (focus wtm_at "mx dec"); wtm_at "mx ev") | (apply zaO; (focus wtm_at "mx dec"); wtm_at "mx ev"))
local macro_rules | `(tactic| wtm_at "mx set") => `(tactic| first | (simp only [List.set_cons_zero, List.set_cons_succ, List.set]; done) | (simp only [List.set_cons_zero, List.set_cons_succ, List.set]; rfl) | rfl)
local macro_rules | `(tactic| wtm_at "mx tg") => `(tactic| first
 | ((with_reducible apply zne); wtm_at "mx set")
 | ((with_reducible apply znc); (focus rfl); (focus wtm_at "mx tg"))
 | ((with_reducible apply zh9); (focus wtm_at "mx tg"); (focus wtm_at "mx tg"))
 | (with_reducible exact zjv))
local macro_rules | `(tactic| wtm_at "mx ev") => `(tactic| first
 | (with_reducible exact zaH) | ((with_reducible apply zaa); rfl)
 | ((with_reducible apply zan); (focus wtm_at "mx ev"); (focus wtm_at "mx ev"); (focus wtm_at "mx op"))
 | ((with_reducible apply zar); (focus wtm_at "mx ev"); (focus wtm_at "mx fn"))
 | ((with_reducible apply zab); (focus wtm_at "mx ev"); (focus wtm_at "mx ev")) | (with_reducible exact zag)
 | ((with_reducible apply zac); (focus wtm_at "mx ev"); (focus wtm_at "mx seq"))
 | ((with_reducible apply zaB); wtm_at "mx ev") | (with_reducible exact zaA) | (with_reducible exact zjr) | (with_reducible exact zlk) | (with_reducible exact zll)
 | ((with_reducible apply zai); (focus wtm_at "mx ev"); (focus wtm_at "mx tg"))
 | ((with_reducible apply zaW); (focus wtm_at "mx ev"); (focus wtm_at "mx ite"))
 | ((with_reducible apply zjs); wtm_at "mx ev")
 | ((with_reducible apply zcM); wtm_at "mx ev") | ((with_reducible apply zfj); wtm_at "mx ev")
 | ((with_reducible apply zlj); (focus wtm_at "mx ev"); (focus wtm_at "mx ite")) | ((with_reducible apply zci); (focus wtm_at "mx ev"); (focus wtm_at "mx ite"))
 | ((with_reducible apply zek); (focus wtm_at "mx ev"); (focus rfl))
 | ((with_reducible apply znf); (focus wtm_at "mx ev"); (focus wtm_at "mx op"))
 | ((with_reducible apply zlm); wtm_at "mx ev")
 | ((with_reducible apply zln); (focus wtm_at "mx ev"); (focus wtm_at "mx ite")) | ((with_reducible apply zfJ); (focus wtm_at "mx ev"); (focus wtm_at "mx ite"))
 | ((with_reducible apply zic); (focus wtm_at "mx ev"); (focus wtm_at "mx ite"))
 | ((with_reducible apply zng); (focus wtm_at "mx ev"); (focus wtm_at "mx ev"); (focus wtm_at "mx ev"); (focus wtm_at "mx sl")) | (with_reducible exact zju) | ((with_reducible apply zjt); wtm_at "mx ev")
 | ((with_reducible apply zcT); (focus wtm_at "mx it"); (focus rfl); (focus exact Nat.le_of_ble_eq_true rfl); (focus simp only [srcD, List.map_cons, List.map_nil, Option.bind_some, Option.bind_none, List.getElem?_cons_zero, List.getElem?_cons_succ, Option.join_some]; rfl); (focus wtm_at "mx lc"))
 | ((with_reducible apply zbc); (focus wtm_at "mx it"); (focus rfl); (focus wtm_at "mx for"))
 | (with_reducible exact zas)
 | exact rfl)
local macro_rules | `(tactic| wtm_at "mx it") => `(tactic| first | ((with_reducible apply zcU); (focus wtm_at "mx ev"); (focus decide)) | ((with_reducible apply zgB); wtm_at "mx ev") | ((with_reducible apply ev_iZip); (focus wtm_at "mx ev"); (focus exact ⟨Nat.le_of_ble_eq_true rfl, Nat.le_of_ble_eq_true rfl⟩); (focus rfl)) | ((with_reducible apply za3); (focus wtm_at "mx ev"); (focus wtm_at "mx so")))
local macro_rules | `(tactic| wtm_at "mx lc") => `(tactic| first | (apply zaF; (focus wtm_at "mx nx"); (focus wtm_at "mx tg"); (focus wtm_at "mx ev"); (focus wtm_at "mx ev"); (focus simp only [List.nil_append, List.cons_append]; rfl); (focus wtm_at "mx lc")) | (apply zcj; rfl))
local macro_rules | `(tactic| wtm_at "mx ge") => `(tactic| first | (simp only [List.getElem?_cons_zero, List.getElem?_cons_succ]; done) | (simp only [List.getElem?_cons_zero, List.getElem?_cons_succ]; rfl) | rfl)
local macro_rules | `(tactic| wtm_at "mx nx") => `(tactic| first | ((with_reducible apply zc5); (focus decide); (focus first | (simp; rfl) | rfl)) | ((with_reducible apply zgw); wtm_at "mx ge") | ((with_reducible apply zaz); (focus wtm_at "mx so"); (focus wtm_at "mx ge")) | rfl)
local macro_rules | `(tactic| wtm_at "mx for") => `(tactic| first | (apply zal; (focus wtm_at "mx nx"); (focus wtm_at "mx tg"); (focus wtm_at "mx ev"); (focus wtm_at "mx fork")) | (apply zcV; rfl))
local macro_rules | `(tactic| wtm_at "mx fork") => `(tactic| first | (with_reducible exact zbJ) | (with_reducible exact zlg) | ((with_reducible apply zat); wtm_at "mx for") | ((with_reducible apply zlf); wtm_at "mx for"))
local macro_rules | `(tactic| wtm_at "mx sl") => `(tactic| first | ((with_reducible apply zna); (focus exact of_decide_eq_false rfl); (focus first | exact zgD | exact zgF)) | ((with_reducible apply znb); (focus wtm_at "mx so"); (focus first | exact zgD | exact zgF | rfl)))
local macro_rules | `(tactic| wtm_at "mx seq") => `(tactic| first | exact zaj | ((with_reducible apply zaf); wtm_at "mx ev") | (with_reducible exact zkj) | (with_reducible exact zki))
local macro_rules | `(tactic| wtm_at "mx st") => `(tactic| simp only [stD, List.map_cons, List.map_nil, List.length_cons, List.length_nil, Nat.reduceAdd, Nat.reduceSub, Nat.zero_add, Nat.sub_self, List.replicate, List.cons_append, List.nil_append, List.append_nil])
local macro_rules | `(tactic| wtm_at "mx take") => `(tactic| first | exact List.take_length | simp [List.take_append])
local macro_rules | `(tactic| wtm_at "mx gr") => `(tactic| first | assumption | (apply Gr.refl; wtm_at "mx wf") | ((with_reducible apply Gr.snoc); (focus wtm_at "mx gr"); (focus first | exact zf7 _ _ | exact MX.P.lo_pts _ _ | rfl | assumption)))
section
set_option autoImplicit false
namespace MX.P
open PySem L2 MX
theorem zeC (a b c d e f : Int) (S : So) : zad [P3 a b c, P3 d e f] S = some (P3 (d - a) (e - b) (f - c), S) := by
 refine zae (σ' := [some (P3 a b c), some (P3 d e f)]) (S' := S) ?_ (by simp) rfl
 show zbE [some (P3 a b c), some (P3 d e f)] S = _
 unfold zbE
 wtm_at "mx ev"
theorem zlZ {k l : Nat} {a b c d e f : Int} (ha : Bd k a) (hb : Bd k b) (hc : Bd k c) (hd : Bd l d) (he : Bd l e) (hf : Bd l f) (hk : k + l ≤ 134217728) (S : So) : za6 [P3 a b c, P3 d e f] S = some (.int (a * d + b * e + c * f), S) := by
 refine zae (σ' := [some (P3 a b c), some (P3 d e f)]) (S' := S) ?_ (by simp) rfl
 show zjG [some (P3 a b c), some (P3 d e f)] S = _
 unfold zjG
 wtm_at "mx ev"
theorem ziK {k l : Nat} {a b c d e f : Int} (ha : Bd k a) (hb : Bd k b) (hc : Bd k c) (hd : Bd l d) (he : Bd l e) (hf : Bd l f) (hk : k + l ≤ 134217728) (S : So) : zaG [P3 a b c, P3 d e f] S = some (P3 (b * f - c * e) (c * d - a * f) (a * e - b * d), S) := by
 refine zae (σ' := [some (P3 a b c), some (P3 d e f)]) (S' := S) ?_ (by simp) rfl
 show zfn [some (P3 a b c), some (P3 d e f)] S = _
 unfold zfn
 wtm_at "mx ev"
theorem sp_is_less {k l : Nat} {a b c d : Int} (ha : Bd k a) (hb : Bd k b) (hc : Bd l c) (hd : Bd l d) (hk : k + l ≤ 134217728) (S : So) : zej [R2 a b, R2 c d] S = some (.bl (decide (a * d < c * b)), S) := by
 refine zae (σ' := [some (R2 a b), some (R2 c d)]) (S' := S) ?_ (by simp) rfl
 show zdj [some (R2 a b), some (R2 c d)] S = _
 unfold zdj
 wtm_at "mx ev"
def drawnI (c k : Int) : Int := (((c * 6364136223846793005 + (k + 1) * 1442695040888963407).fmod 340282366920938463463374607431768211507) * ((c * 6364136223846793005 + (k + 1) * 1442695040888963407).fmod 340282366920938463463374607431768211507)).fmod 340282366920938463463374607431768211297
theorem sp_drawn (c k : Int) (S : So) : zbT [.int c, .int k] S = some (.int (drawnI c k), S) := by
 refine zae (σ' := [some (.int c), some (.int k), some (.int ((c * 6364136223846793005 + (k + 1) * 1442695040888963407).fmod 340282366920938463463374607431768211507))]) (S' := S) ?_ (by simp) rfl
 show zbV [some (.int c), some (.int k), none] S = _
 unfold zbV
 wtm_at "mx ev"
end MX.P
end
section
set_option autoImplicit false
local macro_rules | `(tactic| wtm_at "mx call") => `(tactic| exact MX.P.sp_drawn _ _ _)
namespace MX.P
open PySem L2 MX
def cellI (ns : List Int) (k : Int) : Int := if ns = [] then k * 7919 else (ns[(k.fmod ns.length).toNat]?.getD 0) + k.fdiv ns.length * 104729
theorem plnInts (k : Nat) (ns : List Int) : ∀ x ∈ ns.map D.int, pln k x = true := fun x hx => by
 obtain ⟨n, _, rfl⟩ := List.mem_map.mp hx
 cases k <;> rfl
theorem ze6 {ns : List Int} (hn : ns.length ≤ 63) (k : Int) {S : So} (h : S[0]? = some (.frz (ns.map .int))) : zaK [.ref 0, .int k] S = some (.int (cellI ns k), S) := by
 have e1 : tBl (eB (gCmp .Eq) (eVar 0) (eN gLst (aNil))) [some (.ref 0), some (.int k)] S = some (decide (ns.map D.int = []), S ++ [.lst []]) := by
   apply zcM
   apply zan
   · wtm_at "mx ev"
   · wtm_at "mx ev"
   · rw [zib 0 (.inr (zaV h)) (.inl zau) (plnInts 0 ns) (by simp) (by decide)]
 by_cases hz : ns = []
 · apply zae
   · wtm_at "mx st"
     unfold zch
     apply zac
     · apply zaW
       · exact e1
       · apply za4
         · simp [hz]
         · wtm_at "mx ev"
     · have : cellI ns k = k * 7919 := by unfold cellI; rw [if_pos hz]
       rw [this]
       wtm_at "mx seq"
   · simp
   · rfl
 · have hl : 0 < ns.length := List.length_pos_iff.mpr hz
   have hl' : (0 : Int) < ((ns.map D.int).length : Int) := by simp; omega
   have h1 := Int.fmod_nonneg_of_pos k hl'
   have h2 := Int.fmod_lt_of_pos k hl'
   have hb : Bd 7 ((ns.map D.int).length : Int) := by unfold Bd; simp; omega
   have e2 : atI (ns.map D.int) (k.fmod ((ns.map D.int).length : Int)) = some (.int (ns[(k.fmod ns.length).toNat]?.getD 0)) := by
     unfold atI ixN
     rw [if_pos h1, if_pos h2]
     simp only [List.length_map] at h2 h1 ⊢
     simp only [Option.bind_some, List.getElem?_map]
     have : (k.fmod (ns.length : Int)).toNat < ns.length := by omega
     rw [List.getElem?_eq_getElem this]
     rfl
   apply zae
   · wtm_at "mx st"
     unfold zch
     apply zac
     · apply zaW
       · exact e1
       · apply zaO
         · simp [hz]
         · wtm_at "mx ev"
     · apply zaf
       apply zac
       · apply zaB
         apply zan
         · apply zan
           · wtm_at "mx ev"
           · apply zan
             · wtm_at "mx ev"
             · apply zar
               · wtm_at "mx ev"
               · exact zcS (zaV h)
             · exact zbw (by omega)
           · exact zeW (zaV h) e2
         · apply zan
           · apply zan
             · wtm_at "mx ev"
             · apply zar
               · wtm_at "mx ev"
               · exact zcS (zaV h)
             · exact zct (zgC hb (by omega) (by decide))
           · wtm_at "mx ev"
           · exact zbb (zhJ (by decide))
         · exact zb6
       · have : cellI ns k = (ns[(k.fmod ns.length).toNat]?.getD 0) + k.fdiv ((ns.map D.int).length : Int) * 104729 := by unfold cellI; rw [if_neg hz, List.length_map]
         rw [this]
         exact zaj
   · simp
   · rfl
end MX.P
end
section
set_option autoImplicit false
namespace MX.P
open PySem L2 MX
def co (k : Int) (p : Pt) : Int := if k = 0 then p.1 else if k = 1 then p.2.1 else p.2.2
theorem ziv {k : Int} (h0 : 0 ≤ k) (h2 : k ≤ 2) (p : Pt) : atI [D.int p.1, .int p.2.1, .int p.2.2] k = some (.int (co k p)) := by
 have : k = 0 ∨ k = 1 ∨ k = 2 := by omega
 rcases this with rfl | rfl | rfl <;> rfl
end MX.P
local macro_rules | `(tactic| wtm_at "mx call") => `(tactic| (apply MX.P.sp_numbers_at; (focus wtm_at "mx wf"); (focus wtm_at "mx so"); (focus assumption); (focus decide); (focus decide)))
local macro_rules | `(tactic| wtm_at "mx fn") => `(tactic| first | ((with_reducible apply zgc); (focus wtm_at "mx so"); (focus assumption)) | ((with_reducible apply zh6); (focus wtm_at "mx so"); (focus assumption)))
namespace MX.P
end MX.P
local macro_rules | `(tactic| wtm_at "mx call") => `(tactic| exact MX.P.sp_are_in_order)
namespace MX.P
end MX.P
end
section
set_option autoImplicit false
local macro_rules | `(tactic| wtm_at "mx call") => `(tactic| (with_reducible assumption))
namespace MX.P
open PySem L2 MX
def redQ (a b : Int) : Int × Int := ((Rat.divInt a b).num, ((Rat.divInt a b).den : Int))
theorem zfb {a b : Int} (hb : 0 < b) : redQ a b = (a / ((Nat.gcd a.natAbs b.natAbs : Nat) : Int), b / ((Nat.gcd a.natAbs b.natAbs : Nat) : Int)) := by
 unfold redQ
 rw [Rat.num_divInt, Rat.den_divInt, if_neg (by omega), Int.sign_eq_one_of_pos hb, Int.one_mul, Int.gcd_eq_natAbs_gcd_natAbs, Nat.gcd_comm]
 congr 1
 have : (b.natAbs : Int) = b := by omega
 rw [Int.natCast_ediv, this]
theorem zle {a b : Int} (hb : b ≠ 0) : 0 < Nat.gcd a.natAbs b.natAbs := Nat.gcd_pos_of_pos_right _ (by omega)
theorem zdG (a b : Int) : 0 < (redQ a b).2 := by
 unfold redQ
 have := (Rat.divInt a b).den_pos
 simp only
 omega
theorem zgU {a b : Int} (hb : b ≠ 0) : (redQ a b).1 * b = a * (redQ a b).2 := by
 unfold redQ
 have h := (Rat.divInt a b).num_divInt_den
 have := (Rat.divInt_eq_divInt_iff (by have := (Rat.divInt a b).den_pos; omega) hb).mp h
 exact this
theorem zec (a b : Int) : redQ (redQ a b).1 (redQ a b).2 = redQ a b := by
 unfold redQ
 simp only [Rat.num_divInt_den]
theorem zed {a b : Int} (ha : 0 ≤ a) (hb : 0 < b) : 0 ≤ (redQ a b).1 := by
 rw [zfb hb]
 exact Int.ediv_nonneg ha (by omega)
theorem Bd.of_le {k : Nat} {x y : Int} (h : Bd k y) (hx : x.natAbs ≤ y.natAbs) : Bd k x := Nat.lt_of_le_of_lt hx h
theorem zko {k : Nat} {a b : Int} (ha : Bd k a) (hb : Bd k b) (h : 0 < b) : Bd k (redQ a b).1 ∧ Bd k (redQ a b).2 := by
 rw [zfb h]
 exact ⟨Bd.of_le ha (Int.natAbs_ediv_le_natAbs _ _), Bd.of_le hb (Int.natAbs_ediv_le_natAbs _ _)⟩
theorem zm8 {k : Nat} {a b : Int} (hb : Bd k b) (h : b ≠ 0) : Bd k ((Nat.gcd a.natAbs b.natAbs : Nat) : Int) := by
 refine Bd.of_le hb ?_
 show Nat.gcd a.natAbs b.natAbs ≤ b.natAbs
 exact Nat.le_of_dvd (by omega) (Nat.gcd_dvd_right _ _)
theorem zlB : ∀ (N : Nat) (m n : Nat) (r : Option D) (S : So), n ≤ N → ∃ r', sWh (tBl (eB (gCmp .NotEq) (eVar 1) (eC (.int 0)))) (sSeq (sAsg (eB (gBin .Mod) (eVar 0) (eVar 1)) (gNm 2)) (sSeq (sAsg (eVar 1) (gNm 0)) (sSeq (sAsg (eVar 2) (gNm 1)) (sPass))))
   [some (.int (m : Nat)), some (.int (n : Nat)), r] S = some (.nx, [some (.int (Nat.gcd m n : Nat)), some (.int 0), r'], S)
 | N, m, 0, r, S, _ => by
   refine ⟨r, ?_⟩
   rw [Nat.gcd_zero_right]
   apply zkn
   apply zcM
   apply zan
   · wtm_at "mx ev"
   · wtm_at "mx ev"
   · rfl
 | 0, _, n + 1, _, _, h => by omega
 | N + 1, m, n + 1, r, S, h => by
   obtain ⟨r', e⟩ := zlB N (n + 1) (m % (n + 1)) (some (.int ((m % (n + 1) : Nat) : Int))) S (by have := Nat.mod_lt m (show 0 < n + 1 by omega); omega)
   refine ⟨r', ?_⟩
   have hg : Nat.gcd m (n + 1) = Nat.gcd (n + 1) (m % (n + 1)) := by rw [Nat.gcd_comm m, Nat.gcd_rec, Nat.gcd_comm]
   rw [hg]
   have hm : ((m : Nat) : Int).fmod ((n + 1 : Nat) : Int) = ((m % (n + 1) : Nat) : Int) := by
     rw [Int.fmod_eq_emod_of_nonneg _ (by omega)]; rfl
   refine ziU (σ1 := []) (fl := .nx) (S1 := S) (S2 := S) ?_ ?_ (.inl rfl) e
   · apply zcM
     have : D.bl true = .bl (!decide (((n + 1 : Nat) : Int) = 0)) := by
       rw [za7 (by omega)]; rfl
     rw [this]
     apply zan
     · wtm_at "mx ev"
     · wtm_at "mx ev"
     · wtm_at "mx op"
   · rw [← hm]
     have h0 : ((n + 1 : Nat) : Int) ≠ 0 := by omega
     wtm_at "mx ev"
theorem zdr (m n : Nat) (S : So) : za9 [.int (m : Nat), .int (n : Nat)] S = some (.int (Nat.gcd m n : Nat), S) := by
 obtain ⟨r', e⟩ := zlB n m n none S (Nat.le_refl _)
 apply zae
 · wtm_at "mx st"
   unfold zbv
   apply zac
   · exact e
   · apply zaf
     apply zac
     · apply zaB
       apply zar
       · wtm_at "mx ev"
       · exact zeY
     · have : (if ((Nat.gcd m n : Nat) : Int) < 0 then -((Nat.gcd m n : Nat) : Int) else ((Nat.gcd m n : Nat) : Int)) = ((Nat.gcd m n : Nat) : Int) := if_neg (by omega)
       rw [this]
       exact zaj
 · wtm_at "mx take"
 · rfl
abbrev rD (p : Int × Int) : D := R2 p.1 p.2
theorem zbe {k : Nat} {a b : Int} (ha : 0 ≤ a) (hb : 0 < b) (hk : Bd k b) (h8 : k ≤ 8000) (S : So) : zaJ [R2 a b] S = some (rD (redQ a b), S) := by
 have e : za9 [.int a, .int b] S = some (.int ((Nat.gcd a.natAbs b.natAbs : Nat) : Int), S) := by
   have := zdr a.natAbs b.natAbs S
   have h1 : (a.natAbs : Int) = a := by omega
   have h2 : (b.natAbs : Int) = b := by omega
   rw [h1, h2] at this
   exact this
 have hg := zle (a := a) (show b ≠ 0 by omega)
 have hd : divOk ((Nat.gcd a.natAbs b.natAbs : Nat) : Int) = true := zgC (zm8 hk (by omega)) (by omega) h8
 apply zae
 · wtm_at "mx st"
   unfold zbX
   rw [zfb hb]
   rw [← Int.fdiv_eq_ediv_of_nonneg a (show (0 : Int) ≤ ((Nat.gcd a.natAbs b.natAbs : Nat) : Int) by omega), ← Int.fdiv_eq_ediv_of_nonneg b (show (0 : Int) ≤ ((Nat.gcd a.natAbs b.natAbs : Nat) : Int) by omega)]
   wtm_at "mx ev"
 · wtm_at "mx take"
 · rfl
end MX.P
end
section
set_option autoImplicit false
local macro_rules | `(tactic| wtm_at "mx call") => `(tactic| first | (with_reducible assumption) | ((with_reducible apply MX.P.sp_is_less); (focus with_reducible assumption); (focus with_reducible assumption); (focus with_reducible assumption); (focus with_reducible assumption); (focus omega)))
namespace MX.P
open PySem L2 MX
def lessQ (a b : Int × Int) : Prop := a.1 * b.2 < b.1 * a.2
instance (a b : Int × Int) : Decidable (lessQ a b) := by unfold lessQ; infer_instance
end MX.P
end
section
set_option autoImplicit false
local macro_rules | `(tactic| wtm_at "mx call") => `(tactic| first | (with_reducible assumption) | ((with_reducible apply MX.P.sp_is_less); (focus with_reducible assumption); (focus with_reducible assumption); (focus with_reducible assumption); (focus with_reducible assumption); (focus omega)))
namespace MX.P
open PySem L2 MX
def BdP (k : Nat) (p : Pt) : Prop := Bd k p.1 ∧ Bd k p.2.1 ∧ Bd k p.2.2
theorem BdP.le {k l : Nat} {p : Pt} (h : BdP k p) (hl : k ≤ l) : BdP l p := ⟨h.1.le hl, h.2.1.le hl, h.2.2.le hl⟩
end MX.P
end
section
set_option autoImplicit false
local macro_rules | `(tactic| wtm_at "mx call") => `(tactic| (with_reducible assumption))
namespace MX.P
open PySem L2 MX
def leQ (a b : Int × Int) : Prop := a.1 * b.2 ≤ b.1 * a.2
end MX.P
end
section
set_option autoImplicit false
namespace MX.P
open PySem L2 MX
end MX.P
local macro_rules | `(tactic| wtm_at "mx call") => `(tactic| first | (with_reducible exact MX.P.sp_drawn _ _ _) | (with_reducible exact MX.P.sp_pt _ _ _) | (with_reducible assumption))
namespace MX.P
open PySem L2 MX
theorem zlt {k : Nat} {p : Pt} (h : BdP k p) (j : Int) : Bd k (co j p) := by unfold co; split; exact h.1; split; exact h.2.1; exact h.2.2
theorem co0 (p : Pt) : co 0 p = p.1 := rfl
theorem co1 (p : Pt) : co 1 p = p.2.1 := rfl
theorem co2 (p : Pt) : co 2 p = p.2.2 := rfl
end MX.P
local macro_rules | `(tactic| wtm_at "mx call") => `(tactic| ((with_reducible apply MX.P.sp_near); (focus assumption); (focus assumption); (focus decide); (focus decide)))
namespace MX.P
end MX.P
end
section
set_option autoImplicit false
namespace MX.P
open PySem L2 MX
theorem zm2 : isiT "tuple" "tuple" = some true := by kernel_rfl
theorem zm3 : isiT "int" "int" = some true := by kernel_rfl
theorem zm4 : isiT "int" "bool" = some false := by kernel_rfl
theorem ev_isi_tup {xs : List D} {S : So} : gIsi [.tup xs, .ty "tuple"] S = some (.bl true, S) := by
 show ((some "tuple").bind fun t => (isiT t "tuple").map fun b => (D.bl b, S)) = _
 simp only [Option.bind_some, zm2, Option.map_some]
theorem ev_isi_int {i : Int} {S : So} : gIsi [.int i, .ty "int"] S = some (.bl true, S) := by
 show ((some "int").bind fun t => (isiT t "int").map fun b => (D.bl b, S)) = _
 simp only [Option.bind_some, zm3, Option.map_some]
theorem ev_isi_bool {i : Int} {S : So} : gIsi [.int i, .ty "bool"] S = some (.bl false, S) := by
 show ((some "int").bind fun t => (isiT t "bool").map fun b => (D.bl b, S)) = _
 simp only [Option.bind_some, zm4, Option.map_some]
end MX.P
local macro_rules | `(tactic| wtm_at "mx call") => `(tactic| (with_reducible assumption))
local macro_rules | `(tactic| wtm_at "mx fn") => `(tactic| first | (with_reducible exact MX.P.ev_isi_tup) | (with_reducible exact MX.P.ev_isi_int) | (with_reducible exact MX.P.ev_isi_bool))
namespace MX.P
theorem ziF (i : Int) (S : So) : zcq [.int i] S = some (.bl true, S) := by
 apply zae
 · wtm_at "mx st"
   unfold zcA
   wtm_at "mx ev"
 · wtm_at "mx take"
 · rfl
end MX.P
end
section
set_option autoImplicit false
namespace MX.P
open PySem L2 MX
def wb (a b : Pt) : Pt := (b.1 - a.1, b.2.1 - a.2.1, b.2.2 - a.2.2)
def vdot (a b : Pt) : Int := a.1 * b.1 + a.2.1 * b.2.1 + a.2.2 * b.2.2
def vcross (a b : Pt) : Pt := (a.2.1 * b.2.2 - a.2.2 * b.2.1, a.2.2 * b.1 - a.1 * b.2.2, a.1 * b.2.1 - a.2.1 * b.1)
theorem BdP.wb {k l : Nat} {a b : Pt} (ha : BdP k a) (hb : BdP l b) : BdP (max k l + 1) (wb a b) :=
 ⟨(hb.1.sub ha.1).le (by omega), (hb.2.1.sub ha.2.1).le (by omega), (hb.2.2.sub ha.2.2).le (by omega)⟩
theorem BdP.cross {k l : Nat} {a b : Pt} (ha : BdP k a) (hb : BdP l b) : BdP (k + l + 1) (vcross a b) :=
 ⟨((ha.2.1.mul hb.2.2).sub (ha.2.2.mul hb.2.1)).le (by omega), ((ha.2.2.mul hb.1).sub (ha.1.mul hb.2.2)).le (by omega), ((ha.1.mul hb.2.1).sub (ha.2.1.mul hb.1)).le (by omega)⟩
theorem BdP.dot {k l : Nat} {a b : Pt} (ha : BdP k a) (hb : BdP l b) : Bd (k + l + 2) (vdot a b) :=
 (((ha.1.mul hb.1).add (ha.2.1.mul hb.2.1)).add (ha.2.2.mul hb.2.2)).le (by omega)
theorem sp_wb (a b : Pt) (S : So) : zad [pD a, pD b] S = some (pD (wb a b), S) := zeC _ _ _ _ _ _ _
theorem sp_vdot {k l : Nat} {a b : Pt} (ha : BdP k a) (hb : BdP l b) (h : k + l ≤ 134217728) (S : So) : za6 [pD a, pD b] S = some (.int (vdot a b), S) := zlZ ha.1 ha.2.1 ha.2.2 hb.1 hb.2.1 hb.2.2 h S
theorem sp_vcross {k l : Nat} {a b : Pt} (ha : BdP k a) (hb : BdP l b) (h : k + l ≤ 134217728) (S : So) : zaG [pD a, pD b] S = some (pD (vcross a b), S) := ziK ha.1 ha.2.1 ha.2.2 hb.1 hb.2.1 hb.2.2 h S
theorem znU {a b : Pt} : pD a = pD b ↔ a = b := by
 constructor
 · intro h
   simp only [D.tup.injEq, List.cons.injEq, D.int.injEq, and_true] at h
   exact Prod.ext h.1 (Prod.ext h.2.1 h.2.2)
 · intro h; rw [h]
theorem zdu {a : Pt} : pD a = P3 0 0 0 ↔ a = (0, 0, 0) := znU (b := (0, 0, 0))
def maxZ (a b : Int) : Int := if b > a then b else a
def minZ (a b : Int) : Int := if b < a then b else a
abbrev Tq := Option (Int × Int)
def tqD : Tq → D
 | none => .non
 | some p => rD (redQ p.1 p.2)
def alongM (o d a b : Pt) : Tq :=
 if vcross (wb o a) d = (0, 0, 0) then
   if maxZ (vdot (wb o a) d) (vdot (wb o b) d) < 0 then none else some (maxZ (minZ (vdot (wb o a) d) (vdot (wb o b) d)) 0, vdot d d)
 else none
def segM (o d a b : Pt) : Tq :=
 if vcross d (wb a b) = (0, 0, 0) then alongM o d a b
 else if vdot (wb o a) (vcross d (wb a b)) = 0 then
   if vdot (vcross (wb o a) (wb a b)) (vcross d (wb a b)) < 0 ∨ vdot (vcross (wb o a) d) (vcross d (wb a b)) < 0 ∨ vdot (vcross d (wb a b)) (vcross d (wb a b)) < vdot (vcross (wb o a) d) (vcross d (wb a b)) then none
   else some (vdot (vcross (wb o a) (wb a b)) (vcross d (wb a b)), vdot (vcross d (wb a b)) (vcross d (wb a b)))
 else none
theorem zcm (x : Int) : 0 ≤ x * x := by
 by_cases h : 0 ≤ x
 · exact Int.mul_nonneg h h
 · have := Int.mul_nonneg (show 0 ≤ -x by omega) (show 0 ≤ -x by omega)
   rwa [Int.neg_mul_neg] at this
theorem zhn {x : Int} (h : x ≠ 0) : 0 < x * x := by
 have h1 := zcm x
 have : x * x ≠ 0 := fun e => by rcases Int.mul_eq_zero.mp e with e | e <;> exact h e
 omega
theorem zaP {a : Pt} (h : a ≠ (0, 0, 0)) : 0 < vdot a a := by
 unfold vdot
 have h1 := zcm a.1
 have h2 := zcm a.2.1
 have h3 := zcm a.2.2
 by_cases q1 : a.1 = 0
 · by_cases q2 : a.2.1 = 0
   · have q3 : a.2.2 ≠ 0 := fun q3 => h (by show (a.1, a.2.1, a.2.2) = _; rw [q1, q2, q3])
     have := zhn q3
     omega
   · have := zhn q2
     omega
 · have := zhn q1
   omega
end MX.P
local macro_rules | `(tactic| wtm_at "mx call") => `(tactic| first | (with_reducible exact MX.P.sp_wb _ _ _) | ((with_reducible apply MX.P.sp_vdot); (focus with_reducible assumption); (focus with_reducible assumption); (focus omega)) | ((with_reducible apply MX.P.sp_vcross); (focus with_reducible assumption); (focus with_reducible assumption); (focus omega)) | (with_reducible assumption))
namespace MX.P
open PySem L2 MX
theorem zeD {k : Nat} {o d a b : Pt} (ho : BdP k o) (hd : BdP k d) (ha : BdP k a) (hb : BdP k b) (h0 : d ≠ (0, 0, 0)) (hk : k ≤ 1500) (S : So) :
   zb9 [.tup [pD o, pD d], pD a, pD b] S = some (tqD (alongM o d a b), S) := by
 have w1 := (ho.wb ha).le (show max k k + 1 ≤ k + 1 by omega)
 have w2 := (ho.wb hb).le (show max k k + 1 ≤ k + 1 by omega)
 have hdd := hd.dot hd
 have hpos := zaP h0
 unfold alongM
 by_cases hc : vcross (wb o a) d = (0, 0, 0)
 · rw [if_pos hc]
   have hc' : pD (vcross (wb o a) d) = P3 0 0 0 := zdu.mpr hc
   by_cases hm : maxZ (vdot (wb o a) d) (vdot (wb o b) d) < 0
   · rw [if_pos hm]
     unfold maxZ at hm
     apply zae
     · wtm_at "mx st"
       unfold zbh
       wtm_at "mx ev"
     · wtm_at "mx take"
     · rfl
   · rw [if_neg hm]
     have hnn : 0 ≤ maxZ (minZ (vdot (wb o a) d) (vdot (wb o b) d)) 0 := by unfold maxZ; split <;> omega
     have hl := zbe hnn hpos hdd (show k + k + 2 ≤ 8000 by omega) S
     unfold maxZ minZ at hl
     unfold maxZ at hm
     apply zae
     · wtm_at "mx st"
       unfold zbh
       wtm_at "mx ev"
     · wtm_at "mx take"
     · rfl
 · rw [if_neg hc]
   have hc' : ¬ pD (vcross (wb o a) d) = P3 0 0 0 := fun e => hc (zdu.mp e)
   apply zae
   · wtm_at "mx st"
     unfold zbh
     wtm_at "mx ev"
   · wtm_at "mx take"
   · rfl
end MX.P
end
section
set_option autoImplicit false
local macro_rules | `(tactic| wtm_at "mx call") => `(tactic| first | (with_reducible exact MX.P.sp_wb _ _ _) | ((with_reducible apply MX.P.sp_vdot); (focus with_reducible assumption); (focus with_reducible assumption); (focus omega)) | ((with_reducible apply MX.P.sp_vcross); (focus with_reducible assumption); (focus with_reducible assumption); (focus omega)) | (with_reducible assumption))
namespace MX.P
open PySem L2 MX
theorem zdR {k : Nat} {o d a b : Pt} (ho : BdP k o) (hd : BdP k d) (ha : BdP k a) (hb : BdP k b) (h0 : d ≠ (0, 0, 0)) (hk : k ≤ 1500) (S : So) :
   zbK [.tup [pD o, pD d], pD a, pD b] S = some (tqD (segM o d a b), S) := by
 have w1 := (ho.wb ha).le (show max k k + 1 ≤ k + 1 by omega)
 have w2 := (ha.wb hb).le (show max k k + 1 ≤ k + 1 by omega)
 have w3 := hd.cross w2
 have w4 := w1.cross w2
 have w5 := w1.cross hd
 have hdd := w3.dot w3
 have hal := zeD ho hd ha hb h0 hk S
 unfold segM
 by_cases hc : vcross d (wb a b) = (0, 0, 0)
 · rw [if_pos hc]
   have hc' : pD (vcross d (wb a b)) = P3 0 0 0 := zdu.mpr hc
   apply zae
   · wtm_at "mx st"
     unfold zaC
     wtm_at "mx ev"
   · wtm_at "mx take"
   · cases alongM o d a b <;> rfl
 · rw [if_neg hc]
   have hpos := zaP hc
   have hc' : ¬ pD (vcross d (wb a b)) = P3 0 0 0 := fun e => hc (zdu.mp e)
   by_cases hq : vdot (wb o a) (vcross d (wb a b)) = 0
   · rw [if_pos hq]
     by_cases p1 : vdot (vcross (wb o a) (wb a b)) (vcross d (wb a b)) < 0
     · rw [if_pos (.inl p1)]
       apply zae
       · wtm_at "mx st"
         unfold zaC
         wtm_at "mx ev"
       · wtm_at "mx take"
       · rfl
     · by_cases p2 : vdot (vcross (wb o a) d) (vcross d (wb a b)) < 0
       · rw [if_pos (.inr (.inl p2))]
         apply zae
         · wtm_at "mx st"
           unfold zaC
           wtm_at "mx ev"
         · wtm_at "mx take"
         · rfl
       · by_cases p3 : vdot (vcross d (wb a b)) (vcross d (wb a b)) < vdot (vcross (wb o a) d) (vcross d (wb a b))
         · rw [if_pos (.inr (.inr p3))]
           apply zae
           · wtm_at "mx st"
             unfold zaC
             wtm_at "mx ev"
           · wtm_at "mx take"
           · rfl
         · rw [if_neg (by rintro (q | q | q); exact p1 q; exact p2 q; exact p3 q)]
           have hl := zbe (show 0 ≤ vdot (vcross (wb o a) (wb a b)) (vcross d (wb a b)) by omega) hpos hdd (show k + (k + 1) + 1 + (k + (k + 1) + 1) + 2 ≤ 8000 by omega) S
           apply zae
           · wtm_at "mx st"
             unfold zaC
             wtm_at "mx ev"
           · wtm_at "mx take"
           · rfl
   · rw [if_neg hq]
     apply zae
     · wtm_at "mx st"
       unfold zaC
       wtm_at "mx ev"
     · wtm_at "mx take"
     · rfl
def tqB (k : Nat) (t : Tq) : Prop := ∀ p, t = some p → 0 ≤ p.1 ∧ 0 < p.2 ∧ Bd k p.1 ∧ Bd k p.2
theorem zf0 {k : Nat} {o d a b : Pt} (ho : BdP k o) (hd : BdP k d) (ha : BdP k a) (hb : BdP k b) (h0 : d ≠ (0, 0, 0)) : tqB (4 * k + 10) (segM o d a b) := by
 have w1 := (ho.wb ha).le (show max k k + 1 ≤ k + 1 by omega)
 have w0 := (ho.wb hb).le (show max k k + 1 ≤ k + 1 by omega)
 have w2 := (ha.wb hb).le (show max k k + 1 ≤ k + 1 by omega)
 have w3 := hd.cross w2
 have w4 := w1.cross w2
 have hdd := w3.dot w3
 have h1 := zaP h0
 intro p hp
 unfold segM at hp
 split at hp
 · unfold alongM at hp
   split at hp
   · split at hp
     · cases hp
     · cases hp
       have a1 := w1.dot hd
       have a2 := w0.dot hd
       refine ⟨?_, h1, ?_, (hd.dot hd).le (by omega)⟩
       · simp only; unfold maxZ; split <;> omega
       · simp only
         have hz : Bd (4 * k + 10) 0 := (Bd.lit 0).le (Nat.zero_le _)
         have e1 := a1.le (show k + 1 + k + 2 ≤ 4 * k + 10 by omega)
         have e2 := a2.le (show k + 1 + k + 2 ≤ 4 * k + 10 by omega)
         unfold maxZ minZ
         split <;> split <;> assumption
   · cases hp
 · rename_i hc
   have hpos := zaP hc
   split at hp
   · split at hp
     · cases hp
     · rename_i hn
       cases hp
       refine ⟨?_, hpos, (w4.dot w3).le (by omega), hdd.le (by omega)⟩
       simp only
       exact Int.not_lt.mp fun q => hn (.inl q)
   · cases hp
def redT (t : Tq) : Tq := t.map fun p => redQ p.1 p.2
def tD (t : Tq) : D := match t with
 | none => .non
 | some p => rD p
theorem zlN (t : Tq) : tqD t = tD (redT t) := by cases t <;> rfl
def pick (best new : Tq) : Tq := match new with
 | none => best
 | some t => match best with
   | none => some t
   | some b => if lessQ t b then some t else some b
def edgesM (o d a b c : Pt) : Tq := pick (pick (pick none (redT (segM o d a b))) (redT (segM o d b c))) (redT (segM o d c a))
theorem zf1 {k : Nat} {t : Tq} (h : tqB k t) : tqB k (redT t) := fun p hp => by
 unfold redT at hp
 cases t with
 | none => cases hp
 | some q =>
   cases hp
   obtain ⟨h1, h2, h3, h4⟩ := h q rfl
   obtain ⟨b1, b2⟩ := zko h3 h4 h2
   exact ⟨zed h1 h2, zdG _ _, b1, b2⟩
theorem zhA {k : Nat} {s t : Tq} (h : tqB k s) (g : tqB k t) : tqB k (pick s t) := by
 unfold pick
 split
 · exact h
 · split
   · exact g
   · split
     · exact g
     · exact h
abbrev eL (a b c : Pt) : O := .lst [.tup [pD a, pD b], .tup [pD b, pD c], .tup [pD c, pD a]]
theorem zbM {n : Nat} {xs : List D} {S : So} (h : S[n]? = some (.lst xs)) : cntD (.lst n) S = some xs.length := by
 show (match S[n]? with | some (.lst xs) => some xs.length | some (.frz xs) => some xs.length | _ => none) = _
 rw [h]
theorem zcP {n i : Nat} {xs : List D} {S : So} (h : S[n]? = some (.lst xs)) (hi : xs[i]? = none) : nxD (.lst n) i S = some none := by unfold nxD; simp only; rw [h]; simp only; rw [hi]
theorem zd2 {a b c : Pt} {S : So} (hS : WF S) : zaY [.tup [pD a, pD b, pD c]] S = some (.ref S.length, S ++ [eL a b c]) := by
 apply zeh
 · wtm_at "mx st"
   unfold zcI
   wtm_at "mx ev"
 · intro h; simp [D.lo] at h
 · simp
 · simp [D.lo]
 · exact hS.snoc rfl
theorem zdF {a b c : Pt} {n : Nat} {S : So} (hS : WF S) (hn : S[n]? = some (.lst [pD a, pD b, pD c])) : zaY [.ref n] S = some (.ref S.length, S ++ [eL a b c]) := by
 apply zeh
 · wtm_at "mx st"
   unfold zcI
   wtm_at "mx ev"
 · intro h; simp [D.lo] at h
 · simp
 · simp [D.lo]
 · exact hS.snoc rfl
theorem zep {k : Nat} {o d p q : Pt} {tr : D} {best : Tq} {x5 : Option D} (ho : BdP k o) (hd : BdP k d) (hp : BdP k p) (hq : BdP k q) (h0 : d ≠ (0, 0, 0)) (hk : k ≤ 1500)
   (hb : tqB (4 * k + 10) best) (S : So) :
   ∃ y, zbu [some (.tup [pD o, pD d]), some tr, some (tD best), some (pD p), some (pD q), x5] S = some (.nx, [some (.tup [pD o, pD d]), some tr, some (tD (pick best (redT (segM o d p q)))), some (pD p), some (pD q), y], S) := by
 have hs := zdR ho hd hp hq h0 hk S
 rw [zlN] at hs
 have hb' := zf1 (zf0 ho hd hp hq h0)
 generalize redT (segM o d p q) = t at *
 have s1 : zbg [some (.tup [pD o, pD d]), some tr, some (tD best), some (pD p), some (pD q), x5] S = some (.nx, [some (.tup [pD o, pD d]), some tr, some (tD best), some (pD p), some (pD q), some (tD t)], S) := by
   unfold zbg
   wtm_at "mx ev"
 refine ⟨some (tD t), ?_⟩
 unfold zbu
 refine zac s1 (zaf (zac ?_ (zaf zaA)))
 unfold pick
 cases t with
 | none =>
   show zap [some (.tup [pD o, pD d]), some tr, some (tD best), some (pD p), some (pD q), some .non] S = some (_, [some (.tup [pD o, pD d]), some tr, some (tD best), some (pD p), some (pD q), some .non], _)
   unfold zap
   wtm_at "mx ev"
 | some t =>
   obtain ⟨t1, t2⟩ := t
   obtain ⟨_, _, b1, b2⟩ := hb' _ rfl
   cases best with
   | none =>
     show zap [some (.tup [pD o, pD d]), some tr, some .non, some (pD p), some (pD q), some (R2 t1 t2)] S = some (_, [some (.tup [pD o, pD d]), some tr, some (R2 t1 t2), some (pD p), some (pD q), some (R2 t1 t2)], _)
     unfold zap
     wtm_at "mx ev"
   | some m =>
     obtain ⟨m1, m2⟩ := m
     obtain ⟨_, _, c1, c2⟩ := hb _ rfl
     have hless := sp_is_less b1 b2 c1 c2 (show 4 * k + 10 + (4 * k + 10) ≤ 134217728 by omega) S
     simp only at hless
     by_cases hc : t1 * m2 < m1 * t2
     · simp only
       rw [if_pos (show lessQ (t1, t2) (m1, m2) from hc)]
       show zap [some (.tup [pD o, pD d]), some tr, some (R2 m1 m2), some (pD p), some (pD q), some (R2 t1 t2)] S = some (_, [some (.tup [pD o, pD d]), some tr, some (R2 t1 t2), some (pD p), some (pD q), some (R2 t1 t2)], _)
       unfold zap
       wtm_at "mx ev"
     · simp only
       rw [if_neg (show ¬ lessQ (t1, t2) (m1, m2) from hc)]
       show zap [some (.tup [pD o, pD d]), some tr, some (R2 m1 m2), some (pD p), some (pD q), some (R2 t1 t2)] S = some (_, [some (.tup [pD o, pD d]), some tr, some (R2 m1 m2), some (pD p), some (pD q), some (R2 t1 t2)], _)
       unfold zap
       wtm_at "mx ev"
end MX.P
end
section
set_option autoImplicit false
local macro_rules | `(tactic| wtm_at "mx call") => `(tactic| first | (with_reducible exact MX.P.sp_wb _ _ _) | ((with_reducible apply MX.P.sp_vdot); (focus with_reducible assumption); (focus with_reducible assumption); (focus omega)) | ((with_reducible apply MX.P.sp_vcross); (focus with_reducible assumption); (focus with_reducible assumption); (focus omega)) | (with_reducible assumption))
namespace MX.P
open PySem L2 MX
theorem zcK {k : Nat} {o d a b c : Pt} (ho : BdP k o) (hd : BdP k d) (ha : BdP k a) (hb : BdP k b) (hc : BdP k c) (h0 : d ≠ (0, 0, 0)) (hk : k ≤ 1500) (S : So) (hS : WF S) :
   za0 [.tup [pD o, pD d], .tup [pD a, pD b, pD c]] S = some (tD (edgesM o d a b c), S) := by
 have n0 : tqB (4 * k + 10) none := fun p hp => by cases hp
 have n1 := zhA n0 (zf1 (zf0 ho hd ha hb h0))
 have n2 := zhA n1 (zf1 (zf0 ho hd hb hc h0))
 obtain ⟨y1, e1⟩ := zep (tr := .tup [pD a, pD b, pD c]) (x5 := none) ho hd ha hb h0 hk n0 (S ++ [eL a b c])
 obtain ⟨y2, e2⟩ := zep (tr := .tup [pD a, pD b, pD c]) (x5 := y1) ho hd hb hc h0 hk n1 (S ++ [eL a b c])
 obtain ⟨y3, e3⟩ := zep (tr := .tup [pD a, pD b, pD c]) (x5 := y2) ho hd hc ha h0 hk n2 (S ++ [eL a b c])
 have hz : D.lo S.length (tD (edgesM o d a b c)) = true := by cases edgesM o d a b c <;> rfl
 have hn : (S ++ [eL a b c])[S.length]? = some (eL a b c) := zau
 have ed := zd2 (a := a) (b := b) (c := c) hS
 have it : iVal (eN (nArgs 1 zaY) (aCons (eVar 1) (aNil))) [some (.tup [pD o, pD d]), some (.tup [pD a, pD b, pD c]), some .non, none, none, none] S = some (.lst S.length, S ++ [eL a b c]) := by
   wtm_at "mx it"
 have s2 : zbN [some (.tup [pD o, pD d]), some (.tup [pD a, pD b, pD c]), some .non, none, none, none] S = some (.nx, [some (.tup [pD o, pD d]), some (.tup [pD a, pD b, pD c]), some (tD (edgesM o d a b c)), some (pD c), some (pD a), y3], S ++ [eL a b c]) := by
   unfold zbN
   refine zbc it (n := 3) (zbM hn) ?_
   exact zal (d := .tup [pD a, pD b]) (zaz hn rfl) rfl e1 (zat (zal (d := .tup [pD b, pD c]) (zaz hn rfl) rfl e2 (zat (zal (d := .tup [pD c, pD a]) (zaz hn rfl) rfl e3 (zat (zcV (zcP hn rfl)))))))
 refine zae (σ' := [some (.tup [pD o, pD d]), some (.tup [pD a, pD b, pD c]), some (tD (edgesM o d a b c)), some (pD c), some (pD a), y3]) (S' := S ++ [eL a b c]) ?_ (by simp) hz
 wtm_at "mx st"
 unfold zce zcy zcx
 exact zac (zai zaH rfl) (zaf (zac s2 (zaf (zac (zaB (zaa rfl)) zaj))))
def sideM (o w p q : Pt) : Int := vdot w (vcross (wb o p) (wb o q))
def goesM (o w a b c : Pt) : Bool := (decide (0 ≤ sideM o w a b) && decide (0 ≤ sideM o w b c) && decide (0 ≤ sideM o w c a)) || (decide (sideM o w a b ≤ 0) && decide (sideM o w b c ≤ 0) && decide (sideM o w c a ≤ 0))
theorem zcn {k l : Nat} {o w a b c : Pt} (ho : BdP k o) (hw : BdP l w) (ha : BdP k a) (hb : BdP k b) (hc : BdP k c) (hk : k ≤ 10000) (hl : l ≤ 30000) (S : So) (hS : WF S) :
   zav [pD o, pD w, .tup [pD a, pD b, pD c]] S = some (.bl (goesM o w a b c), S) := by
 have w1 := (ho.wb ha).le (show max k k + 1 ≤ k + 1 by omega)
 have w2 := (ho.wb hb).le (show max k k + 1 ≤ k + 1 by omega)
 have w3 := (ho.wb hc).le (show max k k + 1 ≤ k + 1 by omega)
 have c1 := w1.cross w2
 have c2 := w2.cross w3
 have c3 := w3.cross w1
 have em : minI [sideM o w a b, sideM o w b c, sideM o w c a] = some (if sideM o w c a < (if sideM o w b c < sideM o w a b then sideM o w b c else sideM o w a b) then sideM o w c a else (if sideM o w b c < sideM o w a b then sideM o w b c else sideM o w a b)) := rfl
 have eM : maxI [sideM o w a b, sideM o w b c, sideM o w c a] = some (if sideM o w c a > (if sideM o w b c > sideM o w a b then sideM o w b c else sideM o w a b) then sideM o w c a else (if sideM o w b c > sideM o w a b then sideM o w b c else sideM o w a b)) := rfl
 generalize hx : (if sideM o w c a < (if sideM o w b c < sideM o w a b then sideM o w b c else sideM o w a b) then sideM o w c a else (if sideM o w b c < sideM o w a b then sideM o w b c else sideM o w a b)) = x at em
 generalize hy : (if sideM o w c a > (if sideM o w b c > sideM o w a b then sideM o w b c else sideM o w a b) then sideM o w c a else (if sideM o w b c > sideM o w a b then sideM o w b c else sideM o w a b)) = y at eM
 have e1 : goesM o w a b c = (decide (0 ≤ x) || decide (y ≤ 0)) := by
   unfold goesM
   rw [Bool.eq_iff_iff]
   simp only [Bool.or_eq_true, Bool.and_eq_true, decide_eq_true_eq]
   subst hx hy
   split <;> split <;> split <;> split <;> omega
 unfold sideM at em eM
 have gone : ∃ S1, eLc (iVal (eVar 2)) (gNm 0) (tTru) (eN (nArgs 2 zad) (aCons (eVar 1) (aCons (eVar 0) (aNil)))) [none, some 0] [some (pD o), some (pD w), some (.tup [pD a, pD b, pD c]), none, none] S = some (.ref S.length, S1) ∧ S1 = S ++ [.lst [pD (wb o a), pD (wb o b), pD (wb o c)]] := by
   refine ⟨_, ?_, rfl⟩
   wtm_at "mx ev"
 obtain ⟨S1, g1, g2⟩ := gone
 have hS1 : S1[S.length]? = some (.lst [pD (wb o a), pD (wb o b), pD (wb o c)]) := by rw [g2]; exact zau
 have hW1 : WF S1 := by rw [g2]; exact hS.snoc rfl
 have ed := zdF hW1 hS1
 have hn2 : (S1 ++ [eL (wb o a) (wb o b) (wb o c)])[S1.length]? = some (eL (wb o a) (wb o b) (wb o c)) := zau
 have sides : eLc (iVal (eN (nArgs 1 zaY) (aCons (eVar 3) (aNil)))) (gTp 2 (gsCons (gNm 0) (gsCons (gNm 1) (gsNil)))) (tTru) (eN (nArgs 2 za6) (aCons (eVar 2) (aCons (eN (nArgs 2 zaG) (aCons (eVar 0) (aCons (eVar 1) (aNil)))) (aNil)))) [none, none, some 1]
     [some (pD o), some (pD w), some (.tup [pD a, pD b, pD c]), some (.ref S.length), none] S1 = some (.ref (S1 ++ [eL (wb o a) (wb o b) (wb o c)]).length, S1 ++ [eL (wb o a) (wb o b) (wb o c)] ++ [.lst ([vdot w (vcross (wb o a) (wb o b)), vdot w (vcross (wb o b) (wb o c)), vdot w (vcross (wb o c) (wb o a))].map D.int)]) := by
   refine zcT (j := .lst S1.length) (n := 3) (S1 := S1 ++ [eL (wb o a) (wb o b) (wb o c)]) ?_ (zbM hn2) (Nat.le_of_ble_eq_true rfl) rfl ?_
   · exact za3 (zar (zab (zaa rfl) zag) (zah rfl ed)) hn2
   · have one : ∀ (x y : Pt), BdP (k + 1) x → BdP (k + 1) y → eN (nArgs 2 za6) (aCons (eVar 2) (aCons (eN (nArgs 2 zaG) (aCons (eVar 0) (aCons (eVar 1) (aNil)))) (aNil))) [some (pD x), some (pD y), some (pD w)] (S1 ++ [eL (wb o a) (wb o b) (wb o c)]) = some (.int (vdot w (vcross x y)), S1 ++ [eL (wb o a) (wb o b) (wb o c)]) := fun x y hx hy => by
       have hxy := hx.cross hy
       wtm_at "mx ev"
     refine zaF (zaz hn2 rfl) rfl zas (one _ _ w1 w2) rfl ?_
     refine zaF (zaz hn2 rfl) rfl zas (one _ _ w2 w3) rfl ?_
     refine zaF (zaz hn2 rfl) rfl zas (one _ _ w3 w1) rfl ?_
     exact zcj (zcP hn2 rfl)
 rw [e1]
 have htake : ∀ o1 o2 : O, (S1 ++ [o1] ++ [o2]).take S.length = S := fun o1 o2 => by rw [g2]; simp
 by_cases hxx : 0 ≤ x
 · rw [zcc hxx, Bool.true_or]
   apply zae
   · wtm_at "mx st"
     unfold zbp
     apply zac
     · exact zai g1 rfl
     · apply zaf
       apply zac
       · exact zai sides rfl
       · apply zaf
         apply zac
         · apply zaB
           apply zfJ
           · apply zan
             · apply zar
               · wtm_at "mx ev"
               · exact zgc zau em
             · wtm_at "mx ev"
             · wtm_at "mx op"
           · apply za4
             · exact zcc hxx
             · rfl
         · exact zaj
   · exact htake _ _
   · rfl
 · rw [za7 hxx, Bool.false_or]
   apply zae
   · wtm_at "mx st"
     unfold zbp
     apply zac
     · exact zai g1 rfl
     · apply zaf
       apply zac
       · exact zai sides rfl
       · apply zaf
         apply zac
         · apply zaB
           apply zfJ
           · apply zan
             · apply zar
               · wtm_at "mx ev"
               · exact zgc zau em
             · wtm_at "mx ev"
             · wtm_at "mx op"
           · apply zaO
             · exact za7 hxx
             · apply zan
               · apply zar
                 · wtm_at "mx ev"
                 · exact zh6 zau eM
               · wtm_at "mx ev"
               · wtm_at "mx op"
         · exact zaj
   · exact htake _ _
   · rfl
end MX.P
end
section
set_option autoImplicit false
local macro_rules | `(tactic| wtm_at "mx call") => `(tactic| first | (with_reducible exact MX.P.sp_wb _ _ _) | ((with_reducible apply MX.P.sp_vdot); (focus with_reducible assumption); (focus with_reducible assumption); (focus omega)) | ((with_reducible apply MX.P.sp_vcross); (focus with_reducible assumption); (focus with_reducible assumption); (focus omega)) | (with_reducible assumption))
namespace MX.P
open PySem L2 MX
def withinM (o d a b c up : Pt) : Tq := if goesM o up a b c = true then some (0, 1) else edgesM o d a b c
theorem ziw {o d t up : D} {S : So} (hg : zav [o, up, t] S = some (.bl true, S)) : zax [.tup [o, d], t, up] S = some (R2 0 1, S) := by
 apply zae
 · wtm_at "mx st"
   unfold zaL
   wtm_at "mx ev"
 · wtm_at "mx take"
 · rfl
theorem zix {o d t up r : D} {S : So} (hg : zav [o, up, t] S = some (.bl false, S)) (he : za0 [.tup [o, d], t] S = some (r, S)) (hr : D.lo S.length r = true) : zax [.tup [o, d], t, up] S = some (r, S) := by
 apply zae
 · wtm_at "mx st"
   unfold zaL
   apply zac
   · apply zaW
     · wtm_at "mx ev"
     · apply zaO
       · rfl
       · wtm_at "mx ev"
   · apply zaf
     apply zac
     · wtm_at "mx ev"
     · wtm_at "mx seq"
 · wtm_at "mx take"
 · exact hr
theorem zhO (n : Nat) (t : Tq) : D.lo n (tD t) = true := by cases t <;> rfl
theorem zd1 {k l : Nat} {o d a b c up : Pt} (ho : BdP k o) (hd : BdP k d) (ha : BdP k a) (hb : BdP k b) (hc : BdP k c) (hu : BdP l up) (h0 : d ≠ (0, 0, 0)) (hk : k ≤ 1500) (hl : l ≤ 30000) (S : So) (hS : WF S) :
   zax [.tup [pD o, pD d], .tup [pD a, pD b, pD c], pD up] S = some (tD (withinM o d a b c up), S) := by
 have hg := zcn ho hu ha hb hc (by omega) hl S hS
 have he := zcK ho hd ha hb hc h0 hk S hS
 unfold withinM
 by_cases q : goesM o up a b c = true
 · rw [if_pos q]
   rw [q] at hg
   exact ziw hg
 · rw [if_neg q]
   have q' : goesM o up a b c = false := by simpa using q
   rw [q'] at hg
   exact zix hg he (zhO _ _)
def triM (o d a b c : Pt) : Tq :=
 if vcross (wb a b) (wb a c) = (0, 0, 0) then edgesM o d a b c
 else if vdot d (vcross (wb a b) (wb a c)) = 0 then
   if vdot (wb o a) (vcross (wb a b) (wb a c)) = 0 then withinM o d a b c (vcross (wb a b) (wb a c)) else none
 else if vdot d (vcross (wb a b) (wb a c)) < 0 then
   if -vdot (wb o a) (vcross (wb a b) (wb a c)) < 0 ∨ goesM o d a b c = false then none else some (redQ (-vdot (wb o a) (vcross (wb a b) (wb a c))) (-vdot d (vcross (wb a b) (wb a c))))
 else if vdot (wb o a) (vcross (wb a b) (wb a c)) < 0 ∨ goesM o d a b c = false then none else some (redQ (vdot (wb o a) (vcross (wb a b) (wb a c))) (vdot d (vcross (wb a b) (wb a c))))
theorem ziA {o d a b c up : Pt} {r : D} {S : So} (hup : up = vcross (wb a b) (wb a c)) (hz : up = (0, 0, 0)) {k : Nat} (w1 : BdP k (wb a b)) (w2 : BdP k (wb a c)) (hk : k ≤ 10000) (he : za0 [.tup [pD o, pD d], .tup [pD a, pD b, pD c]] S = some (r, S)) (hr : D.lo S.length r = true) :
   zam [.tup [pD o, pD d], .tup [pD a, pD b, pD c]] S = some (r, S) := by
 have hz' : pD (vcross (wb a b) (wb a c)) = P3 0 0 0 := zdu.mpr (hup ▸ hz)
 apply zae
 · wtm_at "mx st"
   unfold zao
   wtm_at "mx ev"
 · wtm_at "mx take"
 · exact hr
end MX.P
end
section
set_option autoImplicit false
local macro_rules | `(tactic| wtm_at "mx call") => `(tactic| first | (with_reducible assumption))
namespace MX.P
open PySem L2 MX
section
variable {o d a b c e1 e2 q r : D} {u : Pt} {U V : Int} {S : So}
theorem zlL (h1 : zad [a, b] S = some (e1, S)) (h2 : zad [a, c] S = some (e2, S)) (h3 : zaG [e1, e2] S = some (pD u, S)) (hu : ¬ pD u = P3 0 0 0) (h4 : zad [o, a] S = some (q, S)) (h5 : za6 [q, pD u] S = some (.int U, S)) (h6 : za6 [d, pD u] S = some (.int V, S))
   (hV : V = 0) (hU : U = 0) (hr : zax [.tup [o, d], .tup [a, b, c], pD u] S = some (r, S)) (hl : D.lo S.length r = true) : zam [.tup [o, d], .tup [a, b, c]] S = some (r, S) := by
 apply zae
 · wtm_at "mx st"
   unfold zao
   wtm_at "mx ev"
 · wtm_at "mx take"
 · exact hl
theorem zjY (h1 : zad [a, b] S = some (e1, S)) (h2 : zad [a, c] S = some (e2, S)) (h3 : zaG [e1, e2] S = some (pD u, S)) (hu : ¬ pD u = P3 0 0 0) (h4 : zad [o, a] S = some (q, S)) (h5 : za6 [q, pD u] S = some (.int U, S)) (h6 : za6 [d, pD u] S = some (.int V, S))
   (hV : V = 0) (hU : ¬ U = 0) : zam [.tup [o, d], .tup [a, b, c]] S = some (.non, S) := by
 apply zae
 · wtm_at "mx st"
   unfold zao
   wtm_at "mx ev"
 · wtm_at "mx take"
 · rfl
theorem zlK (h1 : zad [a, b] S = some (e1, S)) (h2 : zad [a, c] S = some (e2, S)) (h3 : zaG [e1, e2] S = some (pD u, S)) (hu : ¬ pD u = P3 0 0 0) (h4 : zad [o, a] S = some (q, S)) (h5 : za6 [q, pD u] S = some (.int U, S)) (h6 : za6 [d, pD u] S = some (.int V, S))
   (hV0 : ¬ V = 0) (hV : V < 0) (hU : -U < 0) : zam [.tup [o, d], .tup [a, b, c]] S = some (.non, S) := by
 apply zae
 · wtm_at "mx st"
   unfold zao
   wtm_at "mx ev"
 · wtm_at "mx take"
 · rfl
theorem zlI (h1 : zad [a, b] S = some (e1, S)) (h2 : zad [a, c] S = some (e2, S)) (h3 : zaG [e1, e2] S = some (pD u, S)) (hu : ¬ pD u = P3 0 0 0) (h4 : zad [o, a] S = some (q, S)) (h5 : za6 [q, pD u] S = some (.int U, S)) (h6 : za6 [d, pD u] S = some (.int V, S))
   (hV0 : ¬ V = 0) (hV : V < 0) (hU : ¬ -U < 0) (hg : zav [o, d, .tup [a, b, c]] S = some (.bl false, S)) : zam [.tup [o, d], .tup [a, b, c]] S = some (.non, S) := by
 apply zae
 · wtm_at "mx st"
   unfold zao
   wtm_at "mx ev"
 · wtm_at "mx take"
 · rfl
theorem zlJ (h1 : zad [a, b] S = some (e1, S)) (h2 : zad [a, c] S = some (e2, S)) (h3 : zaG [e1, e2] S = some (pD u, S)) (hu : ¬ pD u = P3 0 0 0) (h4 : zad [o, a] S = some (q, S)) (h5 : za6 [q, pD u] S = some (.int U, S)) (h6 : za6 [d, pD u] S = some (.int V, S))
   (hV0 : ¬ V = 0) (hV : V < 0) (hU : ¬ -U < 0) (hg : zav [o, d, .tup [a, b, c]] S = some (.bl true, S)) (hq : zaJ [.tup [.int (-U), .int (-V)]] S = some (r, S)) (hl : D.lo S.length r = true) : zam [.tup [o, d], .tup [a, b, c]] S = some (r, S) := by
 apply zae
 · wtm_at "mx st"
   unfold zao
   wtm_at "mx ev"
 · wtm_at "mx take"
 · exact hl
theorem zlH (h1 : zad [a, b] S = some (e1, S)) (h2 : zad [a, c] S = some (e2, S)) (h3 : zaG [e1, e2] S = some (pD u, S)) (hu : ¬ pD u = P3 0 0 0) (h4 : zad [o, a] S = some (q, S)) (h5 : za6 [q, pD u] S = some (.int U, S)) (h6 : za6 [d, pD u] S = some (.int V, S))
   (hV0 : ¬ V = 0) (hV : ¬ V < 0) (hU : U < 0) : zam [.tup [o, d], .tup [a, b, c]] S = some (.non, S) := by
 apply zae
 · wtm_at "mx st"
   unfold zao
   wtm_at "mx ev"
 · wtm_at "mx take"
 · rfl
theorem zlF (h1 : zad [a, b] S = some (e1, S)) (h2 : zad [a, c] S = some (e2, S)) (h3 : zaG [e1, e2] S = some (pD u, S)) (hu : ¬ pD u = P3 0 0 0) (h4 : zad [o, a] S = some (q, S)) (h5 : za6 [q, pD u] S = some (.int U, S)) (h6 : za6 [d, pD u] S = some (.int V, S))
   (hV0 : ¬ V = 0) (hV : ¬ V < 0) (hU : ¬ U < 0) (hg : zav [o, d, .tup [a, b, c]] S = some (.bl false, S)) : zam [.tup [o, d], .tup [a, b, c]] S = some (.non, S) := by
 apply zae
 · wtm_at "mx st"
   unfold zao
   wtm_at "mx ev"
 · wtm_at "mx take"
 · rfl
theorem zlG (h1 : zad [a, b] S = some (e1, S)) (h2 : zad [a, c] S = some (e2, S)) (h3 : zaG [e1, e2] S = some (pD u, S)) (hu : ¬ pD u = P3 0 0 0) (h4 : zad [o, a] S = some (q, S)) (h5 : za6 [q, pD u] S = some (.int U, S)) (h6 : za6 [d, pD u] S = some (.int V, S))
   (hV0 : ¬ V = 0) (hV : ¬ V < 0) (hU : ¬ U < 0) (hg : zav [o, d, .tup [a, b, c]] S = some (.bl true, S)) (hq : zaJ [.tup [.int U, .int V]] S = some (r, S)) (hl : D.lo S.length r = true) : zam [.tup [o, d], .tup [a, b, c]] S = some (r, S) := by
 apply zae
 · wtm_at "mx st"
   unfold zao
   wtm_at "mx ev"
 · wtm_at "mx take"
 · exact hl
end
end MX.P
end
section
set_option autoImplicit false
namespace MX.P
open PySem L2 MX
theorem zdq {k : Nat} {o d a b c : Pt} (ho : BdP k o) (hd : BdP k d) (ha : BdP k a) (hb : BdP k b) (hc : BdP k c) (h0 : d ≠ (0, 0, 0)) (hk : k ≤ 1500) (S : So) (hS : WF S) :
   zam [.tup [pD o, pD d], .tup [pD a, pD b, pD c]] S = some (tD (triM o d a b c), S) := by
 have w1 := ha.wb hb
 have w2 := ha.wb hc
 have w3 := ho.wb ha
 have wu := w1.cross w2
 have bU := w3.dot wu
 have bV := hd.dot wu
 have h1 := sp_wb a b S
 have h2 := sp_wb a c S
 have h3 := sp_vcross w1 w2 (by omega) S
 have h4 := sp_wb o a S
 have h5 := sp_vdot w3 wu (by omega) S
 have h6 := sp_vdot hd wu (by omega) S
 have hg := zcn ho hd ha hb hc (by omega) (by omega) S hS
 have he := zcK ho hd ha hb hc h0 hk S hS
 have hw := zd1 ho hd ha hb hc wu h0 hk (by omega) S hS
 unfold triM
 generalize hu : vcross (wb a b) (wb a c) = u at *
 by_cases q0 : u = (0, 0, 0)
 · rw [if_pos q0]
   exact ziA hu.symm q0 w1 w2 (by omega) he (zhO _ _)
 · rw [if_neg q0]
   have hne : ¬ pD u = P3 0 0 0 := fun h => q0 (zdu.mp h)
   generalize vdot (wb o a) u = U at *
   generalize vdot d u = V at *
   by_cases v0 : V = 0
   · rw [if_pos v0]
     by_cases u0 : U = 0
     · rw [if_pos u0]
       exact zlL h1 h2 h3 hne h4 h5 h6 v0 u0 hw (zhO _ _)
     · rw [if_neg u0]
       exact zjY h1 h2 h3 hne h4 h5 h6 v0 u0
   · rw [if_neg v0]
     by_cases vn : V < 0
     · rw [if_pos vn]
       by_cases un : -U < 0
       · rw [if_pos (Or.inl un)]
         exact zlK h1 h2 h3 hne h4 h5 h6 v0 vn un
       · by_cases gg : goesM o d a b c = false
         · rw [if_pos (Or.inr gg)]
           rw [gg] at hg
           exact zlI h1 h2 h3 hne h4 h5 h6 v0 vn un hg
         · rw [if_neg (fun h => h.elim un gg)]
           have gg' : goesM o d a b c = true := by simpa using gg
           rw [gg'] at hg
           exact zlJ h1 h2 h3 hne h4 h5 h6 v0 vn un hg (zbe (by omega) (by omega) bV.neg (by omega) S) (zhO S.length (some (redQ (-U) (-V))))
     · rw [if_neg vn]
       by_cases un : U < 0
       · rw [if_pos (Or.inl un)]
         exact zlH h1 h2 h3 hne h4 h5 h6 v0 vn un
       · by_cases gg : goesM o d a b c = false
         · rw [if_pos (Or.inr gg)]
           rw [gg] at hg
           exact zlF h1 h2 h3 hne h4 h5 h6 v0 vn un hg
         · rw [if_neg (fun h => h.elim un gg)]
           have gg' : goesM o d a b c = true := by simpa using gg
           rw [gg'] at hg
           exact zlG h1 h2 h3 hne h4 h5 h6 v0 vn un hg (zbe (by omega) (by omega) bV (by omega) S) (zhO S.length (some (redQ U V)))
end MX.P
end
section
set_option autoImplicit false
namespace MX.P
def Comb (k : Int) (d : Pt) (q u v w : Int) (A B C : Pt) : Prop := k * d.1 = q * (u * A.1 + v * B.1 + w * C.1) ∧ k * d.2.1 = q * (u * A.2.1 + v * B.2.1 + w * C.2.1) ∧ k * d.2.2 = q * (u * A.2.2 + v * B.2.2 + w * C.2.2)
def inT (d A B C : Pt) (t : Int × Int) : Prop := ∃ u v w : Int, 0 ≤ u ∧ 0 ≤ v ∧ 0 ≤ w ∧ 0 < u + v + w ∧ Comb ((u + v + w) * t.1) d t.2 u v w A B C
def inS (d A B : Pt) (t : Int × Int) : Prop := ∃ u v : Int, 0 ≤ u ∧ 0 ≤ v ∧ 0 < u + v ∧ Comb ((u + v) * t.1) d t.2 u v 0 A B A
theorem Comb.dot {k q u v w : Int} {d A B C : Pt} (h : Comb k d q u v w A B C) (n : Pt) : k * vdot d n = q * (u * vdot A n + v * vdot B n + w * vdot C n) := by
 obtain ⟨h1, h2, h3⟩ := h
 have e : k * vdot d n = (k * d.1) * n.1 + (k * d.2.1) * n.2.1 + (k * d.2.2) * n.2.2 := by unfold vdot; grind
 rw [e, h1, h2, h3]
 unfold vdot
 grind
theorem cancel {k x y : Int} (hk : 0 < k) (h : k * x = k * y) : x = y := Int.eq_of_mul_eq_mul_left (by omega) h
theorem cancel0 {k x : Int} (hk : 0 < k) (h : 0 = k * x) : x = 0 := by
 rcases Int.mul_eq_zero.mp h.symm with e | e
 · omega
 · exact e
def Inv (X : Int × Int → Prop) : Prop := ∀ t r : Int × Int, 0 < t.2 → 0 < r.2 → t.1 * r.2 = r.1 * t.2 → X t → X r
theorem zgI {s q u v w : Int} {d A B C : Pt} {t r : Int × Int} (ht : 0 < t.2) (e : t.1 * r.2 = r.1 * t.2) (h : Comb (s * t.1) d t.2 u v w A B C) : Comb (s * r.1) d r.2 u v w A B C := by
 obtain ⟨h1, h2, h3⟩ := h
 have f : ∀ x y : Int, s * t.1 * x = t.2 * y → s * r.1 * x = r.2 * y := fun x y h => by
   refine cancel ht ?_
   have e1 : t.2 * (s * r.1 * x) = s * x * (r.1 * t.2) := by grind
   have e2 : t.2 * (r.2 * y) = r.2 * (t.2 * y) := by grind
   rw [e1, e2, ← e, ← h]
   grind
 exact ⟨f _ _ h1, f _ _ h2, f _ _ h3⟩
theorem zhZ (d A B C : Pt) : Inv (inT d A B C) := fun t r ht _ e ⟨u, v, w, h1, h2, h3, h4, h⟩ => ⟨u, v, w, h1, h2, h3, h4, zgI (q := 0) ht e h⟩
theorem zga (d A B : Pt) : Inv (inS d A B) := fun t r ht _ e ⟨u, v, h1, h2, h4, h⟩ => ⟨u, v, h1, h2, h4, zgI (q := 0) ht e h⟩
theorem zm7 {d A B C : Pt} {t : Int × Int} (h : inS d A B t) : inT d A B C t := by
 obtain ⟨u, v, h1, h2, h4, c1, c2, c3⟩ := h
 refine ⟨u, v, 0, h1, h2, by omega, by omega, ?_, ?_, ?_⟩ <;> grind
theorem zm6 {d A B C : Pt} {t : Int × Int} (h : inS d B C t) : inT d A B C t := by
 obtain ⟨u, v, h1, h2, h4, c1, c2, c3⟩ := h
 refine ⟨0, u, v, by omega, h1, h2, by omega, ?_, ?_, ?_⟩ <;> grind
theorem zm5 {d A B C : Pt} {t : Int × Int} (h : inS d C A t) : inT d A B C t := by
 obtain ⟨u, v, h1, h2, h4, c1, c2, c3⟩ := h
 refine ⟨v, 0, u, h2, by omega, h1, by omega, ?_, ?_, ?_⟩ <;> grind
def IsF (m : Tq) (X : Int × Int → Prop) : Prop := match m with
 | none => ∀ t : Int × Int, 0 ≤ t.1 → 0 < t.2 → ¬ X t
 | some r => 0 ≤ r.1 ∧ 0 < r.2 ∧ X r ∧ ∀ t : Int × Int, 0 ≤ t.1 → 0 < t.2 → X t → leQ r t
theorem IsF.congr {m : Tq} {X Y : Int × Int → Prop} (h : IsF m X) (e : ∀ t : Int × Int, 0 ≤ t.1 → 0 < t.2 → (X t ↔ Y t)) : IsF m Y := by
 unfold IsF at *
 cases m with
 | none => exact fun t h1 h2 hy => h t h1 h2 ((e t h1 h2).mpr hy)
 | some r => exact ⟨h.1, h.2.1, (e r h.1 h.2.1).mp h.2.2.1, fun t h1 h2 hy => h.2.2.2 t h1 h2 ((e t h1 h2).mpr hy)⟩
theorem zgy {a b c : Int × Int} (ha : 0 < a.2) (hb : 0 < b.2) (hc : 0 < c.2) (h1 : leQ a b) (h2 : leQ b c) : leQ a c := by
 unfold leQ at *
 have h3 := Int.mul_le_mul_of_nonneg_right h1 (show 0 ≤ c.2 by omega)
 have h4 := Int.mul_le_mul_of_nonneg_right h2 (show 0 ≤ a.2 by omega)
 have e1 : a.1 * b.2 * c.2 = b.2 * (a.1 * c.2) := by grind
 have e2 : c.1 * b.2 * a.2 = b.2 * (c.1 * a.2) := by grind
 have e3 : b.1 * a.2 * c.2 = b.1 * c.2 * a.2 := by grind
 refine Int.le_of_mul_le_mul_left (a := b.2) ?_ hb
 omega
theorem IsF.pick {m n : Tq} {X Y : Int × Int → Prop} (hm : IsF m X) (hn : IsF n Y) : IsF (pick m n) (fun t => X t ∨ Y t) := by
 unfold MX.P.pick
 cases n with
 | none =>
   refine hm.congr fun t h1 h2 => ⟨.inl, fun h => h.elim id fun h => absurd h (hn t h1 h2)⟩
 | some t =>
   cases m with
   | none =>
     refine hn.congr fun t h1 h2 => ⟨.inr, fun h => h.elim (fun h => absurd h (hm t h1 h2)) id⟩
   | some b =>
     simp only
     split
     · rename_i hl
       refine ⟨hn.1, hn.2.1, .inr hn.2.2.1, fun s h1 h2 h => h.elim (fun h => ?_) (hn.2.2.2 s h1 h2)⟩
       refine zgy hn.2.1 hm.2.1 h2 ?_ (hm.2.2.2 s h1 h2 h)
       unfold lessQ at hl; unfold leQ; omega
     · rename_i hl
       refine ⟨hm.1, hm.2.1, .inl hm.2.2.1, fun s h1 h2 h => h.elim (hm.2.2.2 s h1 h2) (fun h => ?_)⟩
       refine zgy hm.2.1 hn.2.1 h2 ?_ (hn.2.2.2 s h1 h2 h)
       unfold lessQ at hl; unfold leQ; omega
theorem IsF.red {m : Tq} {X : Int × Int → Prop} (hi : Inv X) (hm : IsF m X) : IsF (redT m) X := by
 cases m with
 | none => exact hm
 | some r =>
   obtain ⟨h1, h2, h3, h4⟩ := hm
   have hp := zdG r.1 r.2
   have hc := zgU (a := r.1) (b := r.2) (by omega)
   refine ⟨zed h1 h2, hp, hi r _ h2 hp hc.symm h3, fun t g1 g2 g3 => zgy hp h2 g2 ?_ (h4 t g1 g2 g3)⟩
   unfold leQ
   show (redQ r.1 r.2).1 * r.2 ≤ r.1 * (redQ r.1 r.2).2
   omega
def isRed (m : Tq) : Prop := ∀ r, m = some r → redQ r.1 r.2 = r
theorem ze9 (m : Tq) : isRed (redT m) := fun r hr => by
 cases m with
 | none => cases hr
 | some p => cases hr; exact zec _ _
theorem zfa {m n : Tq} (hm : isRed m) (hn : isRed n) : isRed (pick m n) := by
 unfold pick
 split
 · exact hm
 · split
   · exact hn
   · split
     · exact hn
     · exact hm
theorem zdp {a b : Pt} (h1 : a.1 = b.1) (h2 : a.2.1 = b.2.1) (h3 : a.2.2 = b.2.2) : a = b := Prod.ext h1 (Prod.ext h2 h3)
theorem lag (x d e : Pt) : vdot (vcross d e) (vcross d e) * x.1 = vdot (vcross x e) (vcross d e) * d.1 - vdot (vcross x d) (vcross d e) * e.1 + vdot x (vcross d e) * (vcross d e).1
   ∧ vdot (vcross d e) (vcross d e) * x.2.1 = vdot (vcross x e) (vcross d e) * d.2.1 - vdot (vcross x d) (vcross d e) * e.2.1 + vdot x (vcross d e) * (vcross d e).2.1
   ∧ vdot (vcross d e) (vcross d e) * x.2.2 = vdot (vcross x e) (vcross d e) * d.2.2 - vdot (vcross x d) (vcross d e) * e.2.2 + vdot x (vcross d e) * (vcross d e).2.2 := by
 simp only [vdot, vcross]
 refine ⟨?_, ?_, ?_⟩ <;> grind
theorem znw (o a b : Pt) : wb a b = ((wb o b).1 - (wb o a).1, (wb o b).2.1 - (wb o a).2.1, (wb o b).2.2 - (wb o a).2.2) := by
 refine zdp ?_ ?_ ?_ <;> simp only [wb] <;> omega
def vsub (b a : Pt) : Pt := (b.1 - a.1, b.2.1 - a.2.1, b.2.2 - a.2.2)
theorem zfo (o a b : Pt) : wb a b = vsub (wb o b) (wb o a) := znw o a b
theorem zea {d A B : Pt} {t : Int × Int} (hq : 0 < t.2) (h : inS d A B t) :
   vdot A (vcross d (vsub B A)) = 0 ∧ ∃ u v : Int, 0 ≤ u ∧ 0 ≤ v ∧ 0 < u + v ∧ t.1 * vdot (vcross d (vsub B A)) (vcross d (vsub B A)) = t.2 * vdot (vcross A (vsub B A)) (vcross d (vsub B A))
     ∧ (u + v) * vdot (vcross A d) (vcross d (vsub B A)) = v * vdot (vcross d (vsub B A)) (vcross d (vsub B A)) := by
 obtain ⟨u, v, h1, h2, h3, c⟩ := h
 have c1 := c.dot (vcross d (vsub B A))
 have c2 := c.dot (vcross (vsub B A) (vcross d (vsub B A)))
 have c3 := c.dot (vcross d (vcross d (vsub B A)))
 have z1 : vdot d (vcross d (vsub B A)) = 0 := by simp only [vdot, vcross, vsub]; grind
 have z2 : vdot B (vcross d (vsub B A)) = vdot A (vcross d (vsub B A)) := by simp only [vdot, vcross, vsub]; grind
 have y1 : vdot d (vcross (vsub B A) (vcross d (vsub B A))) = vdot (vcross d (vsub B A)) (vcross d (vsub B A)) := by simp only [vdot, vcross, vsub]; grind
 have y2 : vdot A (vcross (vsub B A) (vcross d (vsub B A))) = vdot (vcross A (vsub B A)) (vcross d (vsub B A)) := by simp only [vdot, vcross, vsub]; grind
 have y3 : vdot B (vcross (vsub B A) (vcross d (vsub B A))) = vdot (vcross A (vsub B A)) (vcross d (vsub B A)) := by simp only [vdot, vcross, vsub]; grind
 have x1 : vdot d (vcross d (vcross d (vsub B A))) = 0 := by simp only [vdot, vcross, vsub]; grind
 have x2 : vdot A (vcross d (vcross d (vsub B A))) = vdot (vcross A d) (vcross d (vsub B A)) := by simp only [vdot, vcross, vsub]; grind
 have x3 : vdot B (vcross d (vcross d (vsub B A))) = vdot (vcross A d) (vcross d (vsub B A)) - vdot (vcross d (vsub B A)) (vcross d (vsub B A)) := by simp only [vdot, vcross, vsub]; grind
 rw [z1, z2] at c1
 rw [y1, y2, y3] at c2
 rw [x1, x2, x3] at c3
 generalize vdot (vcross d (vsub B A)) (vcross d (vsub B A)) = N at *
 generalize vdot (vcross A (vsub B A)) (vcross d (vsub B A)) = T at *
 generalize vdot (vcross A d) (vcross d (vsub B A)) = Sh at *
 generalize vdot A (vcross d (vsub B A)) = Z at *
 refine ⟨?_, u, v, h1, h2, h3, ?_, ?_⟩
 · have : 0 = t.2 * ((u + v) * Z) := by grind
   exact cancel0 h3 (cancel0 hq this).symm
 · refine cancel h3 ?_
   grind
 · have : 0 = t.2 * ((u + v) * Sh - v * N) := by grind
   have := cancel0 hq this
   omega
theorem zl5 {d A B : Pt} (hz : vdot A (vcross d (vsub B A)) = 0) (h1 : 0 ≤ vdot (vcross A d) (vcross d (vsub B A))) (h2 : vdot (vcross A d) (vcross d (vsub B A)) ≤ vdot (vcross d (vsub B A)) (vcross d (vsub B A))) (h3 : 0 < vdot (vcross d (vsub B A)) (vcross d (vsub B A))) :
   inS d A B (vdot (vcross A (vsub B A)) (vcross d (vsub B A)), vdot (vcross d (vsub B A)) (vcross d (vsub B A))) := by
 obtain ⟨l1, l2, l3⟩ := lag A d (vsub B A)
 rw [hz] at l1 l2 l3
 generalize vdot (vcross d (vsub B A)) (vcross d (vsub B A)) = N at *
 generalize vdot (vcross A (vsub B A)) (vcross d (vsub B A)) = T at *
 generalize vdot (vcross A d) (vcross d (vsub B A)) = Sh at *
 refine ⟨N - Sh, Sh, by omega, h1, by omega, ?_, ?_, ?_⟩ <;> simp only [vsub] at * <;> grind
theorem zet {d A B : Pt} {t : Int × Int} (hq : 0 < t.2) (hp : vcross d (vsub B A) = (0, 0, 0)) (h : inS d A B t) : vcross A d = (0, 0, 0) ∧ ∃ u v : Int, 0 ≤ u ∧ 0 ≤ v ∧ 0 < u + v ∧ (u + v) * t.1 * vdot d d = t.2 * (u * vdot A d + v * vdot B d) := by
 obtain ⟨u, v, h1, h2, h3, c⟩ := h
 have p1 : (vcross d (vsub B A)).1 = 0 := by rw [hp]
 have p2 : (vcross d (vsub B A)).2.1 = 0 := by rw [hp]
 have p3 : (vcross d (vsub B A)).2.2 = 0 := by rw [hp]
 have f : ∀ E : Pt, vdot (vcross A d) E = 0 := fun E => by
   have c1 := c.dot (vcross d E)
   have z1 : vdot d (vcross d E) = 0 := by simp only [vdot, vcross]; grind
   have z2 : vdot A (vcross d E) = vdot (vcross A d) E := by simp only [vdot, vcross]; grind
   have z3 : vdot B (vcross d E) = vdot (vcross A d) E := by simp only [vdot, vcross, vsub] at *; grind
   rw [z1, z2, z3] at c1
   generalize vdot (vcross A d) E = Z at *
   have : 0 = t.2 * ((u + v) * Z) := by grind
   exact cancel0 h3 (cancel0 hq this).symm
 refine ⟨zdp ?_ ?_ ?_, u, v, h1, h2, h3, ?_⟩
 · have := f (1, 0, 0); simp only [vdot] at this; show _ = (0 : Int); omega
 · have := f (0, 1, 0); simp only [vdot] at this; show _ = (0 : Int); omega
 · have := f (0, 0, 1); simp only [vdot] at this; show _ = (0 : Int); omega
 · have := c.dot d
   grind
theorem zhF {d x : Pt} (h : vcross x d = (0, 0, 0)) : vdot d d * x.1 = vdot x d * d.1 ∧ vdot d d * x.2.1 = vdot x d * d.2.1 ∧ vdot d d * x.2.2 = vdot x d * d.2.2 := by
 have p1 : (vcross x d).1 = 0 := by rw [h]
 have p2 : (vcross x d).2.1 = 0 := by rw [h]
 have p3 : (vcross x d).2.2 = 0 := by rw [h]
 simp only [vcross, vdot] at *
 refine ⟨?_, ?_, ?_⟩ <;> grind
theorem zlr {d A B : Pt} (hp : vcross d (vsub B A) = (0, 0, 0)) (h : vcross A d = (0, 0, 0)) : vcross B d = (0, 0, 0) := by
 have p1 : (vcross d (vsub B A)).1 = 0 := by rw [hp]
 have p2 : (vcross d (vsub B A)).2.1 = 0 := by rw [hp]
 have p3 : (vcross d (vsub B A)).2.2 = 0 := by rw [hp]
 have q1 : (vcross A d).1 = 0 := by rw [h]
 have q2 : (vcross A d).2.1 = 0 := by rw [h]
 have q3 : (vcross A d).2.2 = 0 := by rw [h]
 simp only [vcross, vsub] at *
 refine zdp ?_ ?_ ?_ <;> grind
theorem zd9 {o d a b : Pt} (h0 : d ≠ (0, 0, 0)) : IsF (segM o d a b) (inS d (wb o a) (wb o b)) := by
 have hD := zaP h0
 unfold segM alongM
 rw [zfo o a b]
 generalize wb o a = A
 generalize wb o b = B
 split
 · rename_i hp
   split
   · rename_i hc
     have la := zhF hc
     have lb := zhF (zlr hp hc)
     have key : ∀ t : Int × Int, 0 < t.2 → inS d A B t → ∃ u v : Int, 0 ≤ u ∧ 0 ≤ v ∧ 0 < u + v ∧ (u + v) * t.1 * vdot d d = t.2 * (u * vdot A d + v * vdot B d) := fun t hq h => (zet hq hp h).2
     generalize vdot d d = N at *
     generalize vdot A d = x at *
     generalize vdot B d = y at *
     split
     · rename_i hm
       intro t h1 h2 h
       obtain ⟨u, v, u0, v0, uv, e⟩ := key t h2 h
       have hx : x < 0 ∧ y < 0 := by unfold maxZ at hm; split at hm <;> omega
       have e1 : 0 ≤ (u + v) * t.1 * N := Int.mul_nonneg (Int.mul_nonneg (by omega) h1) (by omega)
       have e2 : u * x + v * y < 0 := by
         rcases Int.lt_or_eq_of_le u0 with q | q
         · have := Int.mul_neg_of_pos_of_neg q hx.1
           have := Int.mul_nonpos_of_nonneg_of_nonpos v0 (show y ≤ 0 by omega)
           omega
         · subst q
           have := Int.mul_neg_of_pos_of_neg (show 0 < v by omega) hx.2
           omega
       have := Int.mul_neg_of_pos_of_neg h2 e2
       omega
     · rename_i hm
       have hm' : 0 ≤ x ∨ 0 ≤ y := by unfold maxZ at hm; split at hm <;> omega
       have hmn : (maxZ (minZ x y) 0 = x ∧ 0 ≤ x ∧ x ≤ y) ∨ (maxZ (minZ x y) 0 = y ∧ 0 ≤ y ∧ y ≤ x) ∨ (maxZ (minZ x y) 0 = 0 ∧ x < 0 ∧ 0 ≤ y) ∨ (maxZ (minZ x y) 0 = 0 ∧ y < 0 ∧ 0 ≤ x) := by
         unfold maxZ minZ
         split <;> split <;> omega
       have hge : 0 ≤ maxZ (minZ x y) 0 := by rcases hmn with h | h | h | h <;> omega
       refine ⟨hge, hD, ?_, fun t h1 h2 h => ?_⟩
       · obtain ⟨a1, a2, a3⟩ := la
         obtain ⟨b1, b2, b3⟩ := lb
         rcases hmn with ⟨e, _⟩ | ⟨e, _⟩ | ⟨e, _⟩ | ⟨e, _⟩ <;> rw [e]
         · exact ⟨1, 0, by omega, by omega, by omega, by simp only; grind, by simp only; grind, by simp only; grind⟩
         · exact ⟨0, 1, by omega, by omega, by omega, by simp only; grind, by simp only; grind, by simp only; grind⟩
         · exact ⟨y, -x, by omega, by omega, by omega, by simp only; grind, by simp only; grind, by simp only; grind⟩
         · exact ⟨-y, x, by omega, by omega, by omega, by simp only; grind, by simp only; grind, by simp only; grind⟩
       · obtain ⟨u, v, u0, v0, uv, e⟩ := key t h2 h
         unfold leQ
         simp only
         have low : ∀ m : Int, m ≤ x → m ≤ y → m * t.2 ≤ t.1 * N := fun m m1 m2 => by
           refine Int.le_of_mul_le_mul_left (a := u + v) ?_ uv
           have g1 := Int.mul_le_mul_of_nonneg_left m1 u0
           have g2 := Int.mul_le_mul_of_nonneg_left m2 v0
           have g3 := Int.mul_le_mul_of_nonneg_left (show u * m + v * m ≤ u * x + v * y by omega) (show 0 ≤ t.2 by omega)
           have e1 : (u + v) * (m * t.2) = t.2 * (u * m + v * m) := by grind
           have e2 : (u + v) * (t.1 * N) = (u + v) * t.1 * N := by grind
           omega
         rcases hmn with ⟨e, _⟩ | ⟨e, _⟩ | ⟨e, _⟩ | ⟨e, _⟩ <;> rw [e]
         · exact low _ (by omega) (by omega)
         · exact low _ (by omega) (by omega)
         · have := Int.mul_nonneg h1 (show 0 ≤ N by omega); omega
         · have := Int.mul_nonneg h1 (show 0 ≤ N by omega); omega
   · rename_i hc
     exact fun t h1 h2 h => hc (zet h2 hp h).1
 · rename_i hp
   have hN := zaP hp
   split
   · rename_i hz
     split
     · rename_i hb
       intro t h1 h2 h
       obtain ⟨_, u, v, u0, v0, uv, e1, e2⟩ := zea h2 h
       generalize vdot (vcross d (vsub B A)) (vcross d (vsub B A)) = N at *
       generalize vdot (vcross A (vsub B A)) (vcross d (vsub B A)) = T at *
       generalize vdot (vcross A d) (vcross d (vsub B A)) = Sh at *
       rcases hb with q | q | q
       · have := Int.mul_neg_of_pos_of_neg h2 q
         have := Int.mul_nonneg h1 (show 0 ≤ N by omega)
         omega
       · have := Int.mul_neg_of_pos_of_neg uv q
         have := Int.mul_nonneg v0 (show 0 ≤ N by omega)
         omega
       · have g1 := Int.mul_lt_mul_of_pos_left q uv
         have g2 := Int.mul_nonneg u0 (show 0 ≤ N by omega)
         have g3 : (u + v) * N = u * N + v * N := by grind
         omega
     · rename_i hb
       refine ⟨Int.not_lt.mp fun q => hb (.inl q), hN, zl5 hz (Int.not_lt.mp fun q => hb (.inr (.inl q))) (Int.not_lt.mp fun q => hb (.inr (.inr q))) hN, fun t h1 h2 h => ?_⟩
       obtain ⟨_, u, v, u0, v0, uv, e1, e2⟩ := zea h2 h
       unfold leQ
       simp only
       rw [Int.mul_comm, ← e1]
       omega
   · rename_i hz
     exact fun t h1 h2 h => hz (zea h2 h).1
end MX.P
end
section
set_option autoImplicit false
namespace MX.P
theorem zgg {o d a b c : Pt} (h0 : d ≠ (0, 0, 0)) : IsF (edgesM o d a b c) (fun t => inS d (wb o a) (wb o b) t ∨ inS d (wb o b) (wb o c) t ∨ inS d (wb o c) (wb o a) t) := by
 have n0 : IsF none (fun _ => False) := fun _ _ _ h => h
 have h1 := (zd9 (o := o) (a := a) (b := b) h0).red (zga _ _ _)
 have h2 := (zd9 (o := o) (a := b) (b := c) h0).red (zga _ _ _)
 have h3 := (zd9 (o := o) (a := c) (b := a) h0).red (zga _ _ _)
 unfold edgesM
 refine (((n0.pick h1).pick h2).pick h3).congr fun t _ _ => ?_
 constructor
 · rintro (((h | h) | h) | h)
   · exact h.elim
   · exact .inl h
   · exact .inr (.inl h)
   · exact .inr (.inr h)
 · rintro (h | h | h)
   · exact .inl (.inl (.inr h))
   · exact .inl (.inr h)
   · exact .inr h
theorem zfK (o d a b c : Pt) : isRed (edgesM o d a b c) := zfa (zfa (zfa (fun _ h => by cases h) (ze9 _)) (ze9 _)) (ze9 _)
theorem zgh {d A B C : Pt} {t : Int × Int} (h : inS d A B t ∨ inS d B C t ∨ inS d C A t) : inT d A B C t := by
 rcases h with h | h | h
 · exact zm7 h
 · exact zm6 h
 · exact zm5 h
def Mid (A B C : Pt) : Prop := ∃ i j : Int, 0 ≤ i ∧ 0 ≤ j ∧ 0 < i + j ∧ (i + j) * C.1 = i * A.1 + j * B.1 ∧ (i + j) * C.2.1 = i * A.2.1 + j * B.2.1 ∧ (i + j) * C.2.2 = i * A.2.2 + j * B.2.2
theorem zhL {d A B C : Pt} {t : Int × Int} (m : Mid A B C) (h : inT d A B C t) : inS d A B t := by
 obtain ⟨i, j, i0, j0, ij, m1, m2, m3⟩ := m
 obtain ⟨u, v, w, u0, v0, w0, uvw, c1, c2, c3⟩ := h
 have g1 := Int.mul_nonneg (show 0 ≤ i + j by omega) u0
 have g2 := Int.mul_nonneg (show 0 ≤ i + j by omega) v0
 have g3 := Int.mul_nonneg i0 w0
 have g4 := Int.mul_nonneg j0 w0
 have g5 := Int.mul_pos ij uvw
 have f : ∀ x a b c : Int, (i + j) * c = i * a + j * b → (u + v + w) * t.1 * x = t.2 * (u * a + v * b + w * c) → ((i + j) * u + i * w + ((i + j) * v + j * w)) * t.1 * x = t.2 * (((i + j) * u + i * w) * a + ((i + j) * v + j * w) * b + 0 * a) := fun x a b c e1 e2 => by
   have e3 : ((i + j) * u + i * w + ((i + j) * v + j * w)) * t.1 * x = (i + j) * ((u + v + w) * t.1 * x) := by grind
   rw [e3, e2]
   have e4 : (i + j) * (t.2 * (u * a + v * b + w * c)) = t.2 * ((i + j) * u * a + (i + j) * v * b + w * ((i + j) * c)) := by grind
   rw [e4, e1]
   grind
 refine ⟨(i + j) * u + i * w, (i + j) * v + j * w, by omega, by omega, ?_, f _ _ _ _ m1 c1, f _ _ _ _ m2 c2, f _ _ _ _ m3 c3⟩
 have : (i + j) * u + i * w + ((i + j) * v + j * w) = (i + j) * (u + v + w) := by grind
 omega
theorem zf6 {A B C : Pt} (x y z : Int) (hne : ¬ (x = y ∧ y = z)) (e1 : (y - x) * C.1 + (z - y) * A.1 + (x - z) * B.1 = 0) (e2 : (y - x) * C.2.1 + (z - y) * A.2.1 + (x - z) * B.2.1 = 0) (e3 : (y - x) * C.2.2 + (z - y) * A.2.2 + (x - z) * B.2.2 = 0) : Mid A B C ∨ Mid B C A ∨ Mid C A B := by
 by_cases h1 : x ≤ z ∧ z ≤ y
 · exact .inl ⟨y - z, z - x, by omega, by omega, by omega, by grind, by grind, by grind⟩
 · by_cases h2 : y ≤ z ∧ z ≤ x
   · exact .inl ⟨z - y, x - z, by omega, by omega, by omega, by grind, by grind, by grind⟩
   · by_cases h3 : y ≤ x ∧ x ≤ z
     · exact .inr (.inl ⟨z - x, x - y, by omega, by omega, by omega, by grind, by grind, by grind⟩)
     · by_cases h4 : z ≤ x ∧ x ≤ y
       · exact .inr (.inl ⟨x - z, y - x, by omega, by omega, by omega, by grind, by grind, by grind⟩)
       · by_cases h5 : z ≤ y ∧ y ≤ x
         · exact .inr (.inr ⟨x - y, y - z, by omega, by omega, by omega, by grind, by grind, by grind⟩)
         · exact .inr (.inr ⟨y - x, z - y, by omega, by omega, by omega, by grind, by grind, by grind⟩)
theorem zjp {A B C : Pt} (h : vcross (vsub B A) (vsub C A) = (0, 0, 0)) : Mid A B C ∨ Mid B C A ∨ Mid C A B := by
 have p1 : (vcross (vsub B A) (vsub C A)).1 = 0 := by rw [h]
 have p2 : (vcross (vsub B A) (vsub C A)).2.1 = 0 := by rw [h]
 have p3 : (vcross (vsub B A) (vsub C A)).2.2 = 0 := by rw [h]
 simp only [vcross, vsub] at p1 p2 p3
 by_cases h1 : A.1 = B.1 ∧ B.1 = C.1
 · by_cases h2 : A.2.1 = B.2.1 ∧ B.2.1 = C.2.1
   · by_cases h3 : A.2.2 = B.2.2 ∧ B.2.2 = C.2.2
     · exact .inl ⟨1, 0, by omega, by omega, by omega, by omega, by omega, by omega⟩
     · exact zf6 A.2.2 B.2.2 C.2.2 h3 (by grind) (by grind) (by grind)
   · exact zf6 A.2.1 B.2.1 C.2.1 h2 (by grind) (by grind) (by grind)
 · exact zf6 A.1 B.1 C.1 h1 (by grind) (by grind) (by grind)
theorem zf9 {d A B C : Pt} {t : Int × Int} (h : inT d A B C t) : inT d B C A t := by
 obtain ⟨u, v, w, h1, h2, h3, h4, c1, c2, c3⟩ := h
 refine ⟨v, w, u, h2, h3, h1, by omega, ?_, ?_, ?_⟩ <;> grind
theorem zfF {d A B C : Pt} {t : Int × Int} (hf : vcross (vsub B A) (vsub C A) = (0, 0, 0)) (h : inT d A B C t) : inS d A B t ∨ inS d B C t ∨ inS d C A t := by
 rcases zjp hf with m | m | m
 · exact .inl (zhL m h)
 · exact .inr (.inl (zhL m (zf9 h)))
 · exact .inr (.inr (zhL m (zf9 (zf9 h))))
def aff (f : Int × Int) (t : Int × Int) : Int := f.1 * t.2 + f.2 * t.1
theorem zeu {f r s t : Int × Int} (hr : 0 < r.2) (hs : 0 < s.2) (ht : 0 < t.2) (h1 : leQ r s) (h2 : leQ s t) (f1 : 0 ≤ aff f r) (f2 : 0 ≤ aff f t) : 0 ≤ aff f s := by
 unfold leQ aff at *
 by_cases hb : 0 ≤ f.2
 · have g1 := Int.mul_nonneg f1 (show 0 ≤ s.2 by omega)
   have g2 := Int.mul_le_mul_of_nonneg_left h1 hb
   have e : (f.1 * r.2 + f.2 * r.1) * s.2 = r.2 * (f.1 * s.2) + f.2 * (r.1 * s.2) := by grind
   have e2 : r.2 * (f.1 * s.2 + f.2 * s.1) = r.2 * (f.1 * s.2) + f.2 * (s.1 * r.2) := by grind
   refine Int.le_of_mul_le_mul_left (a := r.2) ?_ hr
   omega
 · have g1 := Int.mul_nonneg f2 (show 0 ≤ s.2 by omega)
   have g2 := Int.mul_le_mul_of_nonpos_left (show f.2 ≤ 0 by omega) h2
   have e : (f.1 * t.2 + f.2 * t.1) * s.2 = t.2 * (f.1 * s.2) + f.2 * (t.1 * s.2) := by grind
   have e2 : t.2 * (f.1 * s.2 + f.2 * s.1) = t.2 * (f.1 * s.2) + f.2 * (s.1 * t.2) := by grind
   refine Int.le_of_mul_le_mul_left (a := t.2) ?_ ht
   omega
theorem zeS {t : Int × Int} (ht0 : 0 ≤ t.1) (ht : 0 < t.2) : ∀ L : List (Int × Int), (∀ f ∈ L, 0 ≤ aff f t) → (∃ f ∈ L, f.1 < 0) → ∃ r : Int × Int, 0 ≤ r.1 ∧ 0 < r.2 ∧ leQ r t ∧ (∀ f ∈ L, 0 ≤ aff f r) ∧ ∃ f ∈ L, f.1 < 0 ∧ aff f r = 0
 | [], _, h => by obtain ⟨_, h, _⟩ := h; cases h
 | f :: L, ha, hn => by
   have hf := ha f (List.mem_cons_self ..)
   have hL : ∀ g ∈ L, 0 ≤ aff g t := fun g hg => ha g (List.mem_cons_of_mem _ hg)
   by_cases hneg : ∃ g ∈ L, g.1 < 0
   · obtain ⟨r, r0, r1, r2, r3, g, g1, g2, g3⟩ := zeS ht0 ht L hL hneg
     by_cases hr : 0 ≤ aff f r
     · exact ⟨r, r0, r1, r2, fun x hx => by rcases List.mem_cons.mp hx with e | e; exact e ▸ hr; exact r3 x e, g, List.mem_cons_of_mem _ g1, g2, g3⟩
     · have hb : 0 < f.2 := by
         refine Int.not_le.mp fun q => hr ?_
         unfold aff leQ at *
         have g1 := Int.mul_nonneg hf (show 0 ≤ r.2 by omega)
         have g2 := Int.mul_le_mul_of_nonpos_left q r2
         refine Int.le_of_mul_le_mul_left (a := t.2) ?_ ht
         have e : (f.1 * t.2 + f.2 * t.1) * r.2 = t.2 * (f.1 * r.2) + f.2 * (t.1 * r.2) := by grind
         have e2 : t.2 * (f.1 * r.2 + f.2 * r.1) = t.2 * (f.1 * r.2) + f.2 * (r.1 * t.2) := by grind
         omega
       have hfr : f.1 * r.2 < 0 := by
         unfold aff at hr
         have := Int.mul_nonneg (show 0 ≤ f.2 by omega) r0
         omega
       have hf0 : f.1 < 0 := by
         refine Int.not_le.mp fun q => ?_
         have := Int.mul_nonneg q (show 0 ≤ r.2 by omega)
         omega
       have l1 : leQ r (-f.1, f.2) := by
         unfold leQ aff at *
         simp only
         have e1 : r.1 * f.2 = f.2 * r.1 := by grind
         have e2 : -f.1 * r.2 = -(f.1 * r.2) := by grind
         omega
       have l2 : leQ (-f.1, f.2) t := by
         unfold leQ aff at *
         simp only
         have e1 : t.1 * f.2 = f.2 * t.1 := by grind
         have e2 : -f.1 * t.2 = -(f.1 * t.2) := by grind
         omega
       have z : aff f (-f.1, f.2) = 0 := by unfold aff; simp only; grind
       refine ⟨(-f.1, f.2), by simp only; omega, hb, l2, fun x hx => ?_, f, List.mem_cons_self .., hf0, z⟩
       rcases List.mem_cons.mp hx with e | e
       · rw [e, z]; omega
       · exact zeu r1 hb ht l1 l2 (r3 x e) (hL x e)
   · have hf0 : f.1 < 0 := by
       obtain ⟨g, g1, g2⟩ := hn
       rcases List.mem_cons.mp g1 with e | e
       · exact e ▸ g2
       · exact absurd ⟨g, e, g2⟩ hneg
     have hft : f.1 * t.2 < 0 := Int.mul_neg_of_neg_of_pos hf0 ht
     have hb : 0 < f.2 := by
       refine Int.not_le.mp fun q => ?_
       have := Int.mul_nonpos_of_nonpos_of_nonneg q ht0
       unfold aff at hf
       omega
     have l2 : leQ (-f.1, f.2) t := by
       unfold leQ aff at *
       simp only
       have e1 : t.1 * f.2 = f.2 * t.1 := by grind
       have e2 : -f.1 * t.2 = -(f.1 * t.2) := by grind
       omega
     have l1 : leQ (0, 1) (-f.1, f.2) := by unfold leQ; simp only; omega
     have z : aff f (-f.1, f.2) = 0 := by unfold aff; simp only; grind
     refine ⟨(-f.1, f.2), by simp only; omega, hb, l2, fun x hx => ?_, f, List.mem_cons_self .., hf0, z⟩
     rcases List.mem_cons.mp hx with e | e
     · rw [e, z]; omega
     · refine zeu (r := (0, 1)) (by decide) hb ht l1 l2 ?_ (hL x e)
       have : ¬ x.1 < 0 := fun q => hneg ⟨x, e, q⟩
       unfold aff; simp only; omega
end MX.P
end
section
set_option autoImplicit false
namespace MX.P
theorem IsF.widen {m : Tq} {X Y : Int × Int → Prop} (h : IsF m X) (sub : ∀ t, X t → Y t) (dom : ∀ t : Int × Int, 0 ≤ t.1 → 0 < t.2 → Y t → ∃ r : Int × Int, 0 ≤ r.1 ∧ 0 < r.2 ∧ X r ∧ leQ r t) : IsF m Y := by
 cases m with
 | none =>
   intro t h1 h2 hy
   obtain ⟨r, r1, r2, r3, _⟩ := dom t h1 h2 hy
   exact h r r1 r2 r3
 | some s =>
   obtain ⟨a1, a2, a3, a4⟩ := h
   refine ⟨a1, a2, sub _ a3, fun t h1 h2 hy => ?_⟩
   obtain ⟨r, r1, r2, r3, r4⟩ := dom t h1 h2 hy
   exact zgy a2 r2 h2 (a4 r r1 r2 r3) r4
theorem zb8 (d A B C : Pt) : vdot d (vcross A B) + vdot d (vcross B C) + vdot d (vcross C A) = vdot d (vcross (vsub B A) (vsub C A)) := by
 simp only [vdot, vcross, vsub]; grind
theorem zd8 (n A B C : Pt) : vdot n (vcross B C) * A.1 + vdot n (vcross C A) * B.1 + vdot n (vcross A B) * C.1 = vdot A (vcross (vsub B A) (vsub C A)) * n.1
   ∧ vdot n (vcross B C) * A.2.1 + vdot n (vcross C A) * B.2.1 + vdot n (vcross A B) * C.2.1 = vdot A (vcross (vsub B A) (vsub C A)) * n.2.1
   ∧ vdot n (vcross B C) * A.2.2 + vdot n (vcross C A) * B.2.2 + vdot n (vcross A B) * C.2.2 = vdot A (vcross (vsub B A) (vsub C A)) * n.2.2 := by
 simp only [vdot, vcross, vsub]
 refine ⟨?_, ?_, ?_⟩ <;> grind
theorem zdY {d A B C : Pt} {t : Int × Int} (hq : 0 < t.2) (h : inT d A B C t) : ∃ u v w : Int, 0 ≤ u ∧ 0 ≤ v ∧ 0 ≤ w ∧ 0 < u + v + w
   ∧ t.1 * vdot d (vcross (vsub B A) (vsub C A)) = t.2 * vdot A (vcross (vsub B A) (vsub C A))
   ∧ (u + v + w) * vdot d (vcross B C) = u * vdot d (vcross (vsub B A) (vsub C A))
   ∧ (u + v + w) * vdot d (vcross C A) = v * vdot d (vcross (vsub B A) (vsub C A))
   ∧ (u + v + w) * vdot d (vcross A B) = w * vdot d (vcross (vsub B A) (vsub C A)) := by
 obtain ⟨u, v, w, u0, v0, w0, hs, c⟩ := h
 refine ⟨u, v, w, u0, v0, w0, hs, ?_⟩
 have c0 := c.dot (vcross (vsub B A) (vsub C A))
 have b0 : vdot B (vcross (vsub B A) (vsub C A)) = vdot A (vcross (vsub B A) (vsub C A)) := by simp only [vdot, vcross, vsub]; grind
 have d0 : vdot C (vcross (vsub B A) (vsub C A)) = vdot A (vcross (vsub B A) (vsub C A)) := by simp only [vdot, vcross, vsub]; grind
 rw [b0, d0] at c0
 have cA := c.dot (vcross A d)
 have cB := c.dot (vcross B d)
 have cC := c.dot (vcross C d)
 have z : ∀ X : Pt, vdot d (vcross X d) = 0 := fun X => by simp only [vdot, vcross]; grind
 have y : ∀ X : Pt, vdot X (vcross X d) = 0 := fun X => by simp only [vdot, vcross]; grind
 have x : ∀ X Y : Pt, vdot X (vcross Y d) = vdot d (vcross X Y) := fun X Y => by simp only [vdot, vcross]; grind
 have s : ∀ X Y : Pt, vdot d (vcross X Y) = - vdot d (vcross Y X) := fun X Y => by simp only [vdot, vcross]; grind
 rw [z, y, x B A, x C A, s B A] at cA
 rw [z, y, x A B, x C B, s C B] at cB
 rw [z, y, x A C, x B C, s A C] at cC
 have e := zb8 d A B C
 generalize vdot d (vcross (vsub B A) (vsub C A)) = V at *
 generalize vdot A (vcross (vsub B A) (vsub C A)) = U at *
 generalize vdot d (vcross A B) = s1 at *
 generalize vdot d (vcross B C) = s2 at *
 generalize vdot d (vcross C A) = s3 at *
 have kA : w * s3 - v * s1 = 0 := cancel0 hq (by grind)
 have kB : u * s1 - w * s2 = 0 := cancel0 hq (by grind)
 have kC : v * s2 - u * s3 = 0 := cancel0 hq (by grind)
 refine ⟨?_, ?_, ?_, ?_⟩
 · refine cancel hs ?_
   grind
 · subst e; grind
 · subst e; grind
 · subst e; grind
theorem zlM {d A B C : Pt} (h1 : 0 ≤ vdot d (vcross A B)) (h2 : 0 ≤ vdot d (vcross B C)) (h3 : 0 ≤ vdot d (vcross C A)) (hV : 0 < vdot d (vcross (vsub B A) (vsub C A))) : inT d A B C (vdot A (vcross (vsub B A) (vsub C A)), vdot d (vcross (vsub B A) (vsub C A))) := by
 obtain ⟨m1, m2, m3⟩ := zd8 d A B C
 have e := zb8 d A B C
 generalize vdot d (vcross (vsub B A) (vsub C A)) = V at *
 generalize vdot A (vcross (vsub B A) (vsub C A)) = U at *
 generalize vdot d (vcross A B) = s1 at *
 generalize vdot d (vcross B C) = s2 at *
 generalize vdot d (vcross C A) = s3 at *
 refine ⟨s2, s3, s1, h2, h3, h1, by omega, ?_, ?_, ?_⟩ <;> simp only <;> grind
theorem zjZ {d A B C : Pt} (h1 : vdot d (vcross A B) ≤ 0) (h2 : vdot d (vcross B C) ≤ 0) (h3 : vdot d (vcross C A) ≤ 0) (hV : vdot d (vcross (vsub B A) (vsub C A)) < 0) : inT d A B C (-vdot A (vcross (vsub B A) (vsub C A)), -vdot d (vcross (vsub B A) (vsub C A))) := by
 obtain ⟨m1, m2, m3⟩ := zd8 d A B C
 have e := zb8 d A B C
 generalize vdot d (vcross (vsub B A) (vsub C A)) = V at *
 generalize vdot A (vcross (vsub B A) (vsub C A)) = U at *
 generalize vdot d (vcross A B) = s1 at *
 generalize vdot d (vcross B C) = s2 at *
 generalize vdot d (vcross C A) = s3 at *
 refine ⟨-s2, -s3, -s1, by omega, by omega, by omega, by omega, ?_, ?_, ?_⟩ <;> simp only <;> grind
section
variable {d A B C : Pt}
abbrev nrm (A B C : Pt) : Pt := vcross (vsub B A) (vsub C A)
def f1 (d A B C : Pt) : Int × Int := (vdot (nrm A B C) (vcross A B), vdot (nrm A B C) (vcross (vsub B A) d))
def f2 (d A B C : Pt) : Int × Int := (vdot (nrm A B C) (vcross B C), vdot (nrm A B C) (vcross (vsub C B) d))
def f3 (d A B C : Pt) : Int × Int := (vdot (nrm A B C) (vcross C A), vdot (nrm A B C) (vcross (vsub A C) d))
theorem zn5 (d A B C : Pt) : (f1 d A B C).1 + (f2 d A B C).1 + (f3 d A B C).1 = vdot (nrm A B C) (nrm A B C) ∧ (f1 d A B C).2 + (f2 d A B C).2 + (f3 d A B C).2 = 0 := by
 refine ⟨zb8 (nrm A B C) A B C, ?_⟩
 simp only [f1, f2, f3]
 generalize nrm A B C = n
 simp only [vdot, vcross, vsub]
 grind
theorem zee {n d X Y Z : Pt} {N u v w p q : Int} (c : Comb ((u + v + w) * p) d q u v w X Y Z) (hN : vdot n (vcross X Y) + vdot n (vcross Y Z) + vdot n (vcross Z X) = N) :
   (u + v + w) * (vdot n (vcross Y Z) * q + vdot n (vcross (vsub Z Y) d) * p) = q * u * N := by
 have c0 := c.dot (vcross (vsub Z Y) n)
 have b0 : vdot d (vcross (vsub Z Y) n) = - vdot n (vcross (vsub Z Y) d) := by simp only [vdot, vcross, vsub]; grind
 have b1 : vdot X (vcross (vsub Z Y) n) = - vdot n (vcross Z X) - vdot n (vcross X Y) := by simp only [vdot, vcross, vsub]; grind
 have b2 : vdot Y (vcross (vsub Z Y) n) = vdot n (vcross Y Z) := by simp only [vdot, vcross, vsub]; grind
 have b3 : vdot Z (vcross (vsub Z Y) n) = vdot n (vcross Y Z) := by simp only [vdot, vcross, vsub]; grind
 rw [b0, b1, b2, b3] at c0
 generalize vdot n (vcross X Y) = s1 at *
 generalize vdot n (vcross Y Z) = s2 at *
 generalize vdot n (vcross Z X) = s3 at *
 generalize vdot n (vcross (vsub Z Y) d) = s4 at *
 subst hN
 grind
theorem zgH {k q u v w : Int} {d A B C : Pt} (c : Comb k d q u v w A B C) : Comb k d q v w u B C A := by
 obtain ⟨c1, c2, c3⟩ := c
 refine ⟨?_, ?_, ?_⟩ <;> grind
theorem zbq {s x y : Int} (hs : 0 < s) (h : s * x = y) (hy : 0 ≤ y) : 0 ≤ x := by
 refine Int.le_of_mul_le_mul_left (a := s) ?_ hs
 omega
theorem zi0 {t : Int × Int} (hN : 0 < vdot (nrm A B C) (nrm A B C)) (hq : 0 < t.2) (h : inT d A B C t) : 0 ≤ aff (f1 d A B C) t ∧ 0 ≤ aff (f2 d A B C) t ∧ 0 ≤ aff (f3 d A B C) t := by
 obtain ⟨u, v, w, u0, v0, w0, hs, c⟩ := h
 have e : vdot (nrm A B C) (vcross A B) + vdot (nrm A B C) (vcross B C) + vdot (nrm A B C) (vcross C A) = vdot (nrm A B C) (nrm A B C) := zb8 (nrm A B C) A B C
 have c' := zgH c
 have c'' := zgH c'
 rw [show u + v + w = v + w + u by omega] at c'
 rw [show u + v + w = w + u + v by omega] at c''
 have p2 := zee c e
 have p3 := zee c' (N := vdot (nrm A B C) (nrm A B C)) (n := nrm A B C) (by omega)
 have p1 := zee c'' (N := vdot (nrm A B C) (nrm A B C)) (n := nrm A B C) (by omega)
 have g : ∀ x : Int, 0 ≤ x → 0 ≤ t.2 * x * vdot (nrm A B C) (nrm A B C) := fun x hx => Int.mul_nonneg (Int.mul_nonneg (by omega) hx) (by omega)
 exact ⟨zbq (by omega) p1 (g w w0), zbq (by omega) p2 (g u u0), zbq (by omega) p3 (g v v0)⟩
theorem zgv {t : Int × Int} (hN : 0 < vdot (nrm A B C) (nrm A B C)) (hV : vdot d (nrm A B C) = 0) (hU : vdot A (nrm A B C) = 0) (hq : 0 < t.2) :
   Comb ((aff (f2 d A B C) t + aff (f3 d A B C) t + aff (f1 d A B C) t) * t.1) d t.2 (aff (f2 d A B C) t) (aff (f3 d A B C) t) (aff (f1 d A B C) t) A B C ∧ 0 < aff (f2 d A B C) t + aff (f3 d A B C) t + aff (f1 d A B C) t := by
 obtain ⟨m1, m2, m3⟩ := zd8 (nrm A B C) A B C
 obtain ⟨l1, l2, l3⟩ := lag d (vsub B A) (vsub C A)
 obtain ⟨s1, s2⟩ := zn5 d A B C
 have sum : aff (f2 d A B C) t + aff (f3 d A B C) t + aff (f1 d A B C) t = vdot (nrm A B C) (nrm A B C) * t.2 := by
   unfold aff
   rw [← s1]
   have : ((f1 d A B C).2 + (f2 d A B C).2 + (f3 d A B C).2) * t.1 = 0 := by rw [s2]; grind
   grind
 rw [hU] at m1 m2 m3
 rw [hV] at l1 l2 l3
 have k1 : vdot (vcross d (vsub C A)) (nrm A B C) = (f3 d A B C).2 := by
   simp only [f3]; generalize nrm A B C = n; simp only [vdot, vcross, vsub]; grind
 have k2 : - vdot (vcross d (vsub B A)) (nrm A B C) = (f1 d A B C).2 := by
   simp only [f1]; generalize nrm A B C = n; simp only [vdot, vcross, vsub]; grind
 rw [k1] at l1 l2 l3
 have k2' : vdot (vcross d (vsub B A)) (nrm A B C) = -(f1 d A B C).2 := by omega
 rw [k2'] at l1 l2 l3
 refine ⟨?_, by rw [sum]; exact Int.mul_pos hN hq⟩
 rw [sum]
 have j1 : vdot (nrm A B C) (vcross B C) = (f2 d A B C).1 := rfl
 have j2 : vdot (nrm A B C) (vcross C A) = (f3 d A B C).1 := rfl
 have j3 : vdot (nrm A B C) (vcross A B) = (f1 d A B C).1 := rfl
 rw [j1, j2, j3] at m1 m2 m3
 unfold aff
 generalize vdot (nrm A B C) (nrm A B C) = N at *
 generalize f1 d A B C = g1 at *
 generalize f2 d A B C = g2 at *
 generalize f3 d A B C = g3 at *
 obtain ⟨x1, y1⟩ := g1
 obtain ⟨x2, y2⟩ := g2
 obtain ⟨x3, y3⟩ := g3
 simp only [vsub] at *
 have hy : y2 = - y1 - y3 := by omega
 subst hy
 have gen : ∀ D a b c n1 n2 : Int, x2 * a + x3 * b + x1 * c = 0 * n1 → N * D = y3 * (b - a) - -y1 * (c - a) + 0 * n2 → N * t.2 * t.1 * D = t.2 * ((x2 * t.2 + (-y1 - y3) * t.1) * a + (x3 * t.2 + y3 * t.1) * b + (x1 * t.2 + y1 * t.1) * c) := fun D a b c n1 n2 e1 e2 => by
   have e3 : N * t.2 * t.1 * D = t.2 * t.1 * (N * D) := by grind
   rw [e3, e2]
   have e4 : t.2 * ((x2 * t.2 + (-y1 - y3) * t.1) * a + (x3 * t.2 + y3 * t.1) * b + (x1 * t.2 + y1 * t.1) * c) = t.2 * (t.2 * (x2 * a + x3 * b + x1 * c) + t.1 * ((-y1 - y3) * a + y3 * b + y1 * c)) := by grind
   rw [e4, e1]
   grind
 exact ⟨gen _ _ _ _ _ _ m1 l1, gen _ _ _ _ _ _ m2 l2, gen _ _ _ _ _ _ m3 l3⟩
end
theorem zgV {d A B C : Pt} {t : Int × Int} (hN : 0 < vdot (nrm A B C) (nrm A B C)) (hV : vdot d (nrm A B C) = 0) (hU : vdot A (nrm A B C) = 0)
   (hout : vdot (nrm A B C) (vcross A B) < 0 ∨ vdot (nrm A B C) (vcross B C) < 0 ∨ vdot (nrm A B C) (vcross C A) < 0) (hp : 0 ≤ t.1) (hq : 0 < t.2) (h : inT d A B C t) :
   ∃ r : Int × Int, 0 ≤ r.1 ∧ 0 < r.2 ∧ (inS d A B r ∨ inS d B C r ∨ inS d C A r) ∧ leQ r t := by
 obtain ⟨a1, a2, a3⟩ := zi0 hN hq h
 obtain ⟨r, r0, r1, r2, r3, f, hf, _, hz⟩ := zeS hp hq [f1 d A B C, f2 d A B C, f3 d A B C] (by
     intro f hf
     simp only [List.mem_cons, List.mem_nil_iff, or_false] at hf
     rcases hf with e | e | e <;> subst e <;> assumption) (by
     rcases hout with q | q | q
     · exact ⟨f1 d A B C, by simp, q⟩
     · exact ⟨f2 d A B C, by simp, q⟩
     · exact ⟨f3 d A B C, by simp, q⟩)
 refine ⟨r, r0, r1, ?_, r2⟩
 have n1 := r3 (f1 d A B C) (by simp)
 have n2 := r3 (f2 d A B C) (by simp)
 have n3 := r3 (f3 d A B C) (by simp)
 obtain ⟨⟨c1, c2, c3⟩, hs⟩ := zgv (t := r) hN hV hU r1
 simp only [List.mem_cons, List.mem_nil_iff, or_false] at hf
 rcases hf with e | e | e <;> subst e
 · left
   rw [hz] at c1 c2 c3 hs
   generalize aff (f2 d A B C) r = x2 at *
   generalize aff (f3 d A B C) r = x3 at *
   refine ⟨x2, x3, n2, n3, by omega, ?_, ?_, ?_⟩ <;> grind
 · right; left
   rw [hz] at c1 c2 c3 hs
   generalize aff (f1 d A B C) r = x1 at *
   generalize aff (f3 d A B C) r = x3 at *
   refine ⟨x3, x1, n3, n1, by omega, ?_, ?_, ?_⟩ <;> grind
 · right; right
   rw [hz] at c1 c2 c3 hs
   generalize aff (f1 d A B C) r = x1 at *
   generalize aff (f2 d A B C) r = x2 at *
   refine ⟨x1, x2, n1, n2, by omega, ?_, ?_, ?_⟩ <;> grind
theorem zgz (o w a b c : Pt) : goesM o w a b c = true ↔ (0 ≤ sideM o w a b ∧ 0 ≤ sideM o w b c ∧ 0 ≤ sideM o w c a) ∨ (sideM o w a b ≤ 0 ∧ sideM o w b c ≤ 0 ∧ sideM o w c a ≤ 0) := by
 unfold goesM
 simp only [Bool.or_eq_true, Bool.and_eq_true, decide_eq_true_eq, and_assoc]
theorem zhj {o d a b c : Pt} (h0 : d ≠ (0, 0, 0)) : IsF (triM o d a b c) (inT d (wb o a) (wb o b) (wb o c)) := by
 have ef := zgg (o := o) (a := a) (b := b) (c := c) h0
 have gd := zgz o d a b c
 have gn := zgz o (nrm (wb o a) (wb o b) (wb o c)) a b c
 unfold triM withinM
 unfold sideM at gd gn
 rw [zfo o a b, zfo o a c]
 generalize wb o a = A at *
 generalize wb o b = B at *
 generalize wb o c = C at *
 split
 · rename_i hf
   exact ef.congr fun t h1 h2 => ⟨zgh, zfF hf⟩
 · rename_i hf
   have hN : 0 < vdot (nrm A B C) (nrm A B C) := zaP hf
   split
   · rename_i hV
     split
     · rename_i hU
       have sn : vdot (nrm A B C) (vcross A B) + vdot (nrm A B C) (vcross B C) + vdot (nrm A B C) (vcross C A) = vdot (nrm A B C) (nrm A B C) := zb8 (nrm A B C) A B C
       split
       · rename_i hg
         refine ⟨Int.le_refl _, by decide, ?_, fun t h1 h2 _ => by unfold leQ; simp only; omega⟩
         obtain ⟨c, hs⟩ := zgv (d := d) (t := (0, 1)) hN hV hU (by decide)
         have e1 : aff (f1 d A B C) (0, 1) = vdot (nrm A B C) (vcross A B) := by unfold aff f1; simp only; omega
         have e2 : aff (f2 d A B C) (0, 1) = vdot (nrm A B C) (vcross B C) := by unfold aff f2; simp only; omega
         have e3 : aff (f3 d A B C) (0, 1) = vdot (nrm A B C) (vcross C A) := by unfold aff f3; simp only; omega
         rcases gn.mp hg with g | g
         · exact ⟨_, _, _, by omega, by omega, by omega, hs, c⟩
         · omega
       · rename_i hg
         refine ef.widen (fun t => zgh) fun t h1 h2 h => zgV hN hV hU ?_ h1 h2 h
         refine Classical.byContradiction fun q => hg (gn.mpr (.inl ?_))
         omega
     · rename_i hU
       intro t h1 h2 h
       obtain ⟨_, _, _, _, _, _, _, e, _⟩ := zdY h2 h
       rw [hV] at e
       exact hU (cancel0 h2 (by omega))
   · rename_i hV
     have sn := zb8 d A B C
     split
     · rename_i hVn
       have key : ∀ t : Int × Int, 0 ≤ t.1 → 0 < t.2 → inT d A B C t → t.1 * vdot d (vcross (vsub B A) (vsub C A)) = t.2 * vdot A (vcross (vsub B A) (vsub C A)) ∧ goesM o d a b c = true := fun t h1 h2 h => by
         obtain ⟨u, v, w, u0, v0, w0, hs, e, e2, e3, e1⟩ := zdY h2 h
         refine ⟨e, gd.mpr (.inr ⟨?_, ?_, ?_⟩)⟩
         · have := Int.mul_nonpos_of_nonneg_of_nonpos w0 (show vdot d (vcross (vsub B A) (vsub C A)) ≤ 0 by omega)
           exact Int.le_of_mul_le_mul_left (a := u + v + w) (by omega) hs
         · have := Int.mul_nonpos_of_nonneg_of_nonpos u0 (show vdot d (vcross (vsub B A) (vsub C A)) ≤ 0 by omega)
           exact Int.le_of_mul_le_mul_left (a := u + v + w) (by omega) hs
         · have := Int.mul_nonpos_of_nonneg_of_nonpos v0 (show vdot d (vcross (vsub B A) (vsub C A)) ≤ 0 by omega)
           exact Int.le_of_mul_le_mul_left (a := u + v + w) (by omega) hs
       split
       · rename_i hb
         intro t h1 h2 h
         obtain ⟨e, g⟩ := key t h1 h2 h
         rcases hb with q | q
         · have g1 := Int.mul_nonpos_of_nonneg_of_nonpos h1 (show vdot d (vcross (vsub B A) (vsub C A)) ≤ 0 by omega)
           have g2 := Int.mul_pos h2 (show 0 < vdot A (vcross (vsub B A) (vsub C A)) by omega)
           omega
         · rw [q] at g; cases g
       · rename_i hb
         have hg : goesM o d a b c = true := by
           rcases Bool.eq_false_or_eq_true (goesM o d a b c) with q | q
           · exact q
           · exact absurd (.inr q) hb
         refine IsF.red (m := some (_, _)) (zhZ _ _ _ _) ⟨Int.not_lt.mp fun q => hb (.inl q), by simp only; omega, ?_, fun t h1 h2 h => ?_⟩
         · rcases gd.mp hg with g | g
           · omega
           · exact zjZ g.1 g.2.1 g.2.2 hVn
         · obtain ⟨e, _⟩ := key t h1 h2 h
           unfold leQ
           simp only
           rw [Int.mul_neg, Int.neg_mul]
           have := Int.mul_comm t.2 (vdot A (vcross (vsub B A) (vsub C A)))
           omega
     · rename_i hVn
       have hVp : 0 < vdot d (vcross (vsub B A) (vsub C A)) := by omega
       have key : ∀ t : Int × Int, 0 ≤ t.1 → 0 < t.2 → inT d A B C t → t.1 * vdot d (vcross (vsub B A) (vsub C A)) = t.2 * vdot A (vcross (vsub B A) (vsub C A)) ∧ goesM o d a b c = true := fun t h1 h2 h => by
         obtain ⟨u, v, w, u0, v0, w0, hs, e, e2, e3, e1⟩ := zdY h2 h
         refine ⟨e, gd.mpr (.inl ⟨?_, ?_, ?_⟩)⟩
         · exact zbq hs e1 (Int.mul_nonneg w0 (show 0 ≤ vdot d (vcross (vsub B A) (vsub C A)) by omega))
         · exact zbq hs e2 (Int.mul_nonneg u0 (show 0 ≤ vdot d (vcross (vsub B A) (vsub C A)) by omega))
         · exact zbq hs e3 (Int.mul_nonneg v0 (show 0 ≤ vdot d (vcross (vsub B A) (vsub C A)) by omega))
       split
       · rename_i hb
         intro t h1 h2 h
         obtain ⟨e, g⟩ := key t h1 h2 h
         rcases hb with q | q
         · have g1 := Int.mul_nonneg h1 (show 0 ≤ vdot d (vcross (vsub B A) (vsub C A)) by omega)
           have g2 := Int.mul_neg_of_pos_of_neg h2 q
           omega
         · rw [q] at g; cases g
       · rename_i hb
         have hg : goesM o d a b c = true := by
           rcases Bool.eq_false_or_eq_true (goesM o d a b c) with q | q
           · exact q
           · exact absurd (.inr q) hb
         refine IsF.red (m := some (_, _)) (zhZ _ _ _ _) ⟨Int.not_lt.mp fun q => hb (.inl q), hVp, ?_, fun t h1 h2 h => ?_⟩
         · rcases gd.mp hg with g | g
           · exact zlM g.1 g.2.1 g.2.2 hVp
           · omega
         · obtain ⟨e, _⟩ := key t h1 h2 h
           show vdot A (vcross (vsub B A) (vsub C A)) * t.2 ≤ t.1 * vdot d (vcross (vsub B A) (vsub C A))
           have := Int.mul_comm t.2 (vdot A (vcross (vsub B A) (vsub C A)))
           omega
theorem zjX (o d a b c : Pt) : isRed (triM o d a b c) := by
 unfold triM withinM
 intro r hr
 split at hr
 · exact zfK _ _ _ _ _ r hr
 · split at hr
   · split at hr
     · split at hr
       · cases hr; decide
       · exact zfK _ _ _ _ _ r hr
     · cases hr
   · split at hr
     · split at hr
       · cases hr
       · cases hr; exact zec _ _
     · split at hr
       · cases hr
       · cases hr; exact zec _ _
end MX.P
end
section
set_option autoImplicit false
namespace MX.P
def atP (o d : Pt) (t : Int × Int) : Pt := (o.1 * t.2 + d.1 * t.1, o.2.1 * t.2 + d.2.1 * t.1, o.2.2 * t.2 + d.2.2 * t.1)
def onBox (x a b q : Int) : Prop := minZ a b * q ≤ x ∧ x ≤ maxZ a b * q
def gapP (P a : Pt) (q : Int) : Pt := (P.1 - a.1 * q, P.2.1 - a.2.1 * q, P.2.2 - a.2.2 * q)
def onS (P : Pt) (q : Int) (a b : Pt) : Prop := (onBox P.1 a.1 b.1 q ∧ onBox P.2.1 a.2.1 b.2.1 q ∧ onBox P.2.2 a.2.2 b.2.2 q) ∧ vcross (gapP P a q) (wb a b) = (0, 0, 0)
theorem zf5 {u v p q o d a b : Int} (u0 : 0 ≤ u) (v0 : 0 ≤ v) (uv : 0 < u + v) (hq : 0 < q) (e : (u + v) * p * d = q * (u * (a - o) + v * (b - o) + 0 * (a - o))) : onBox (o * q + d * p) a b q := by
 unfold onBox
 have e1 : (u + v) * (o * q + d * p) = q * (u * a + v * b) := by grind
 have m1 : minZ a b ≤ a ∧ minZ a b ≤ b := by unfold minZ; split <;> omega
 have m2 : a ≤ maxZ a b ∧ b ≤ maxZ a b := by unfold maxZ; split <;> omega
 generalize minZ a b = m at *
 generalize maxZ a b = M at *
 have g1 := Int.mul_le_mul_of_nonneg_left m1.1 u0
 have g2 := Int.mul_le_mul_of_nonneg_left m1.2 v0
 have g3 := Int.mul_le_mul_of_nonneg_left m2.1 u0
 have g4 := Int.mul_le_mul_of_nonneg_left m2.2 v0
 have g5 := Int.mul_le_mul_of_nonneg_left (show u * m + v * m ≤ u * a + v * b by omega) (show 0 ≤ q by omega)
 have g6 := Int.mul_le_mul_of_nonneg_left (show u * a + v * b ≤ u * M + v * M by omega) (show 0 ≤ q by omega)
 constructor
 · refine Int.le_of_mul_le_mul_left (a := u + v) ?_ uv
   have : (u + v) * (m * q) = q * (u * m + v * m) := by grind
   omega
 · refine Int.le_of_mul_le_mul_left (a := u + v) ?_ uv
   have : (u + v) * (M * q) = q * (u * M + v * M) := by grind
   omega
theorem zh3 {u v p q o d a b : Int} (e : (u + v) * p * d = q * (u * (a - o) + v * (b - o) + 0 * (a - o))) : (u + v) * (o * q + d * p - a * q) = q * v * (b - a) := by grind
theorem znZ {o d a b : Pt} {t : Int × Int} (hq : 0 < t.2) (h : inS d (wb o a) (wb o b) t) : onS (atP o d t) t.2 a b := by
 obtain ⟨u, v, u0, v0, uv, c1, c2, c3⟩ := h
 simp only [wb] at c1 c2 c3
 refine ⟨⟨zf5 u0 v0 uv hq c1, zf5 u0 v0 uv hq c2, zf5 u0 v0 uv hq c3⟩, ?_⟩
 have e1 := zh3 c1
 have e2 := zh3 c2
 have e3 := zh3 c3
 simp only [atP, gapP, vcross, wb]
 have z : ∀ x y s r : Int, (u + v) * x = t.2 * v * s → (u + v) * y = t.2 * v * r → x * r - y * s = 0 := fun x y s r h1 h2 => by
   refine cancel0 uv ?_
   have : (u + v) * (x * r - y * s) = (u + v) * x * r - (u + v) * y * s := by grind
   rw [this, h1, h2]; grind
 refine zdp ?_ ?_ ?_
 · exact z _ _ _ _ e2 e3
 · exact z _ _ _ _ e3 e1
 · exact z _ _ _ _ e1 e2
theorem zhI {o d a b : Pt} {t : Int × Int} {x y : Int} (hq : 0 < t.2) (hy : y ≠ 0) (h0 : 0 ≤ x * y) (h1 : x * y ≤ t.2 * (y * y)) (e1 : y * (gapP (atP o d t) a t.2).1 = x * (wb a b).1) (e2 : y * (gapP (atP o d t) a t.2).2.1 = x * (wb a b).2.1) (e3 : y * (gapP (atP o d t) a t.2).2.2 = x * (wb a b).2.2) : inS d (wb o a) (wb o b) t := by
 have hyy : 0 < y * y := by
   have := zcm y
   have : y * y ≠ 0 := fun e => by rcases Int.mul_eq_zero.mp e with e | e <;> exact hy e
   omega
 have hqy := Int.mul_pos hq hyy
 simp only [gapP, atP, wb] at e1 e2 e3
 have f : ∀ (o d a b : Int), y * (o * t.2 + d * t.1 - a * t.2) = x * (b - a) → (t.2 * (y * y) - x * y + x * y) * t.1 * d = t.2 * ((t.2 * (y * y) - x * y) * (a - o) + x * y * (b - o) + 0 * (a - o)) := fun o d a b e => by
   have e' : y * (y * (o * t.2 + d * t.1 - a * t.2)) = y * (x * (b - a)) := by rw [e]
   grind
 exact ⟨t.2 * (y * y) - x * y, x * y, by omega, h0, by omega, f _ _ _ _ e1, f _ _ _ _ e2, f _ _ _ _ e3⟩
theorem zfm {x a b q : Int} (h : onBox x a b q) : 0 ≤ (x - a * q) * (b - a) ∧ (x - a * q) * (b - a) ≤ q * ((b - a) * (b - a)) := by
 obtain ⟨h1, h2⟩ := h
 by_cases hab : a ≤ b
 · have m1 : minZ a b = a := by unfold minZ; split <;> omega
   have m2 : maxZ a b = b := by unfold maxZ; split <;> omega
   rw [m1] at h1; rw [m2] at h2
   have g1 := Int.mul_nonneg (show 0 ≤ x - a * q by omega) (show 0 ≤ b - a by omega)
   have g2 := Int.mul_nonneg (show 0 ≤ b * q - x by omega) (show 0 ≤ b - a by omega)
   have : (b * q - x) * (b - a) = q * ((b - a) * (b - a)) - (x - a * q) * (b - a) := by grind
   omega
 · have m1 : minZ a b = b := by unfold minZ; split <;> omega
   have m2 : maxZ a b = a := by unfold maxZ; split <;> omega
   rw [m1] at h1; rw [m2] at h2
   have g1 := Int.mul_nonneg (show 0 ≤ a * q - x by omega) (show 0 ≤ a - b by omega)
   have g2 := Int.mul_nonneg (show 0 ≤ x - b * q by omega) (show 0 ≤ a - b by omega)
   have e1 : (a * q - x) * (a - b) = (x - a * q) * (b - a) := by grind
   have e2 : (x - b * q) * (a - b) = q * ((b - a) * (b - a)) - (x - a * q) * (b - a) := by grind
   omega
theorem zn0 {o d a b : Pt} {t : Int × Int} (hq : 0 < t.2) (h : onS (atP o d t) t.2 a b) : inS d (wb o a) (wb o b) t := by
 obtain ⟨⟨b1, b2, b3⟩, hc⟩ := h
 have p1 : (vcross (gapP (atP o d t) a t.2) (wb a b)).1 = 0 := by rw [hc]
 have p2 : (vcross (gapP (atP o d t) a t.2) (wb a b)).2.1 = 0 := by rw [hc]
 have p3 : (vcross (gapP (atP o d t) a t.2) (wb a b)).2.2 = 0 := by rw [hc]
 simp only [vcross] at p1 p2 p3
 by_cases h1 : (wb a b).1 = 0
 · by_cases h2 : (wb a b).2.1 = 0
   · by_cases h3 : (wb a b).2.2 = 0
     · -- one point
       simp only [wb] at h1 h2 h3
       have z : ∀ x a b : Int, b - a = 0 → onBox x a b t.2 → x = a * t.2 := fun x a b e hb => by
         have : b = a := by omega
         subst this
         obtain ⟨k1, k2⟩ := hb
         have m1 : minZ b b = b := by unfold minZ; split <;> omega
         have m2 : maxZ b b = b := by unfold maxZ; split <;> omega
         rw [m1] at k1; rw [m2] at k2
         omega
       have z1 := z _ _ _ h1 b1
       have z2 := z _ _ _ h2 b2
       have z3 := z _ _ _ h3 b3
       simp only [atP] at z1 z2 z3
       refine ⟨1, 0, by omega, by omega, by omega, ?_, ?_, ?_⟩ <;> simp only [wb] <;> grind
     · obtain ⟨s1, s2⟩ := zfm b3
       exact zhI (x := (gapP (atP o d t) a t.2).2.2) (y := (wb a b).2.2) hq h3 s1 s2 (by grind) (by grind) (by grind)
   · obtain ⟨s1, s2⟩ := zfm b2
     exact zhI (x := (gapP (atP o d t) a t.2).2.1) (y := (wb a b).2.1) hq h2 s1 s2 (by grind) (by grind) (by grind)
 · obtain ⟨s1, s2⟩ := zfm b1
   exact zhI (x := (gapP (atP o d t) a t.2).1) (y := (wb a b).1) hq h1 s1 s2 (by grind) (by grind) (by grind)
theorem zeN {o d a b : Pt} {t : Int × Int} (hq : 0 < t.2) : onS (atP o d t) t.2 a b ↔ inS d (wb o a) (wb o b) t := ⟨zn0 hq, znZ hq⟩
end MX.P
end
section
set_option autoImplicit false
namespace MX.P
def okK (R L g : Pt) (q W x y : Int) : Prop := 0 ≤ x ∧ 0 ≤ y ∧ x + y ≤ W * q ∧ x * R.1 + y * L.1 = g.1 * W ∧ x * R.2.1 + y * L.2.1 = g.2.1 * W ∧ x * R.2.2 + y * L.2.2 = g.2.2 * W
def signK (R L g : Pt) (q W x y : Int) : Prop := if W < 0 then okK R L g q (0 - W) (0 - x) (0 - y) else okK R L g q W x y
def inTriL (P : Pt) (q : Int) (a b c : Pt) : Prop :=
 if (vcross (wb a b) (wb a c)).2.2 ≠ 0 then signK (wb a b) (wb a c) (gapP P a q) q (vcross (wb a b) (wb a c)).2.2 (vcross (gapP P a q) (wb a c)).2.2 (vcross (wb a b) (gapP P a q)).2.2
 else if (vcross (wb a b) (wb a c)).1 ≠ 0 then signK (wb a b) (wb a c) (gapP P a q) q (vcross (wb a b) (wb a c)).1 (vcross (gapP P a q) (wb a c)).1 (vcross (wb a b) (gapP P a q)).1
 else if (vcross (wb a b) (wb a c)).2.1 ≠ 0 then signK (wb a b) (wb a c) (gapP P a q) q (vcross (wb a b) (wb a c)).2.1 (vcross (gapP P a q) (wb a c)).2.1 (vcross (wb a b) (gapP P a q)).2.1
 else onS P q a b ∨ onS P q b c ∨ onS P q c a
theorem zmR {o d a b c : Pt} {t : Int × Int} {W x y : Int} (hq : 0 < t.2) (hW : 0 < W) (h : okK (wb a b) (wb a c) (gapP (atP o d t) a t.2) t.2 W x y) : inT d (wb o a) (wb o b) (wb o c) t := by
 obtain ⟨h1, h2, h3, e1, e2, e3⟩ := h
 have hp := Int.mul_pos hW hq
 simp only [wb, gapP, atP] at e1 e2 e3
 refine ⟨W * t.2 - x - y, x, y, by omega, h1, h2, by omega, ?_, ?_, ?_⟩ <;> simp only [wb] <;> grind
theorem zfZ {o d a b c : Pt} {t : Int × Int} {W x y : Int} (hq : 0 < t.2) (hW : W ≠ 0) (h : signK (wb a b) (wb a c) (gapP (atP o d t) a t.2) t.2 W x y) : inT d (wb o a) (wb o b) (wb o c) t := by
 unfold signK at h
 split at h
 · exact zmR hq (by omega) h
 · exact zmR hq (by omega) h
theorem zmQ {R L g : Pt} {q W x y s v w : Int} (hs : 0 < s) (hq : 0 < q) (v0 : 0 ≤ v) (w0 : 0 ≤ w) (vw : v + w ≤ s) (hW : 0 < W) (ex : s * x = q * v * W) (ey : s * y = q * w * W)
   (g1 : s * g.1 = q * (v * R.1 + w * L.1)) (g2 : s * g.2.1 = q * (v * R.2.1 + w * L.2.1)) (g3 : s * g.2.2 = q * (v * R.2.2 + w * L.2.2)) : okK R L g q W x y := by
 have p1 := Int.mul_nonneg (Int.mul_nonneg (show 0 ≤ q by omega) v0) (show 0 ≤ W by omega)
 have p2 := Int.mul_nonneg (Int.mul_nonneg (show 0 ≤ q by omega) w0) (show 0 ≤ W by omega)
 have p3 := Int.mul_nonneg (Int.mul_nonneg (show 0 ≤ q by omega) (show 0 ≤ s - v - w by omega)) (show 0 ≤ W by omega)
 have f : ∀ r l k : Int, s * k = q * (v * r + w * l) → x * r + y * l = k * W := fun r l k e => by
   refine cancel hs ?_
   have e1 : s * (x * r + y * l) = (s * x) * r + (s * y) * l := by grind
   have e2 : s * (k * W) = (s * k) * W := by grind
   rw [e1, e2, ex, ey, e]; grind
 refine ⟨zbq hs ex p1, zbq hs ey p2, ?_, f _ _ _ g1, f _ _ _ g2, f _ _ _ g3⟩
 refine Int.le_of_mul_le_mul_left (a := s) ?_ hs
 have e1 : s * (x + y) = s * x + s * y := by grind
 have e2 : q * (s - v - w) * W = s * (W * q) - q * v * W - q * w * W := by grind
 rw [e1, ex, ey]; omega
theorem sign_of {R L g : Pt} {q W x y s v w : Int} (hs : 0 < s) (hq : 0 < q) (v0 : 0 ≤ v) (w0 : 0 ≤ w) (vw : v + w ≤ s) (hW : W ≠ 0) (ex : s * x = q * v * W) (ey : s * y = q * w * W)
   (g1 : s * g.1 = q * (v * R.1 + w * L.1)) (g2 : s * g.2.1 = q * (v * R.2.1 + w * L.2.1)) (g3 : s * g.2.2 = q * (v * R.2.2 + w * L.2.2)) : signK R L g q W x y := by
 unfold signK
 split
 · exact zmQ hs hq v0 w0 vw (by omega) (by grind) (by grind) g1 g2 g3
 · exact zmQ hs hq v0 w0 vw (by omega) ex ey g1 g2 g3
theorem gap3 {u v w p q o d a b c : Int} (e : (u + v + w) * p * d = q * (u * (a - o) + v * (b - o) + w * (c - o))) : (u + v + w) * (o * q + d * p - a * q) = q * (v * (b - a) + w * (c - a)) := by grind
theorem zhh {s q v w r1 r2 l1 l2 g1 g2 : Int} (e1 : s * g1 = q * (v * r1 + w * l1)) (e2 : s * g2 = q * (v * r2 + w * l2)) :
   s * (g1 * l2 - g2 * l1) = q * v * (r1 * l2 - r2 * l1) ∧ s * (r1 * g2 - r2 * g1) = q * w * (r1 * l2 - r2 * l1) := by
 constructor
 · have : s * (g1 * l2 - g2 * l1) = (s * g1) * l2 - (s * g2) * l1 := by grind
   rw [this, e1, e2]; grind
 · have : s * (r1 * g2 - r2 * g1) = (s * g2) * r1 - (s * g1) * r2 := by grind
   rw [this, e1, e2]; grind
theorem zhY {o d a b c : Pt} {t : Int × Int} (hq : 0 < t.2) : inTriL (atP o d t) t.2 a b c ↔ inT d (wb o a) (wb o b) (wb o c) t := by
 unfold inTriL
 constructor
 · intro h
   split at h
   · exact zfZ hq (by assumption) h
   · split at h
     · exact zfZ hq (by assumption) h
     · split at h
       · exact zfZ hq (by assumption) h
       · rw [zeN hq, zeN hq, zeN hq] at h
         exact zgh h
 · intro h
   obtain ⟨u, v, w, u0, v0, w0, hs, c1, c2, c3⟩ := id h
   simp only [wb] at c1 c2 c3
   have g1 := gap3 c1
   have g2 := gap3 c2
   have g3 := gap3 c3
   have t12 := zhh g1 g2
   have t23 := zhh g2 g3
   have t31 := zhh g3 g1
   split
   · exact sign_of hs hq v0 w0 (by omega) (by assumption) t12.1 t12.2 g1 g2 g3
   · split
     · exact sign_of hs hq v0 w0 (by omega) (by assumption) t23.1 t23.2 g1 g2 g3
     · split
       · exact sign_of hs hq v0 w0 (by omega) (by assumption) t31.1 t31.2 g1 g2 g3
       · rename_i n1 n2 n3
         rw [zeN hq, zeN hq, zeN hq]
         refine zfF ?_ h
         rw [← zfo, ← zfo]
         exact zdp (Decidable.not_not.mp n2) (Decidable.not_not.mp n3) (Decidable.not_not.mp n1)
end MX.P
end
section
set_option autoImplicit false
namespace MX.P
def det3 (a b c : Pt) : Int := vdot a (vcross b c)
def sal (v : Pt) : Int := if v.1 ≠ 0 then v.1.sign else if v.2.1 ≠ 0 then v.2.1.sign else v.2.2.sign
def goM (X Y Z : Pt) : Int := if sal (vcross X Y) = (det3 X Y Z).sign ∧ sal (vcross Y Z) = (det3 X Y Z).sign ∧ sal (vcross Z X) = (det3 X Y Z).sign then (det3 X Y Z).sign else 0
def sg : List Int := [-1, 0, 1]
def rl (a b c : Int) : Bool := (a == 0 && b == 0 && c == 0) || ((a == 1 || b == 1 || c == 1) && (a == -1 || b == -1 || c == -1))
def gs (t a b c : Int) : Int := if a == t && b == t && c == t then t else 0
def iz (a t u : Int) : Bool := a != 0 || (t == 0 && u == 0)
def fin (t1 t2 t3 t4 T : Int) : Bool :=
 if t1 == 1 && t2 == 1 && t3 == 1 && t4 == 1 then T == 1
 else if t1 == -1 && t2 == -1 && t3 == -1 && t4 == -1 then T == -1
 else if (t1 == 1 || t2 == 1 || t3 == 1 || t4 == 1) && (t1 == -1 || t2 == -1 || t3 == -1 || t4 == -1) then T == 0
 else true
def chk : Bool := sg.all fun t1 => sg.all fun t2 => sg.all fun t3 => sg.all fun a => !iz a t1 t3 || sg.all fun g => !iz g t1 t2 || sg.all fun d => !(iz d t2 t3 && rl (-(t2 * a)) (t3 * g) (-(t1 * d))) ||
 sg.all fun t4 => sg.all fun b => !iz b t1 t4 || sg.all fun e => !(iz e t3 t4 && rl (t4 * a) (-(t3 * b)) (-(t1 * e))) || sg.all fun z => !(iz z t2 t4 && rl (-(t4 * g)) (t2 * b) (-(t1 * z)) && rl (t4 * d) (t2 * e) (t3 * z) && rl (a * z) (g * e) (d * b)) ||
 fin t1 t2 t3 t4 (gs t1 a b g + gs t2 (-g) z (-d) + gs t3 d (-e) (-a) + gs t4 e (-z) (-b))
theorem zlw : chk = true := by decide +kernel
theorem zdv {p q : Bool} (h : (!p || q) = true) (hp : p = true) : q = true := by rw [hp] at h; simpa using h
theorem zcL (x : Int) : x.sign ∈ sg := by
 unfold sg
 rcases Int.lt_trichotomy x 0 with h | h | h
 · rw [Int.sign_eq_neg_one_of_neg h]; simp
 · rw [h]; simp
 · rw [Int.sign_eq_one_of_pos h]; simp
theorem znl {t1 t2 t3 t4 a b g d e z : Int} (m1 : t1 ∈ sg) (m2 : t2 ∈ sg) (m3 : t3 ∈ sg) (m4 : t4 ∈ sg) (m5 : a ∈ sg) (m6 : b ∈ sg) (m7 : g ∈ sg) (m8 : d ∈ sg) (m9 : e ∈ sg) (m10 : z ∈ sg)
   (ia : iz a t1 t3 = true) (ib : iz b t1 t4 = true) (ig : iz g t1 t2 = true) (id : iz d t2 t3 = true) (ie : iz e t3 t4 = true) (iz' : iz z t2 t4 = true)
   (r1 : rl (-(t2 * a)) (t3 * g) (-(t1 * d)) = true) (r2 : rl (t4 * a) (-(t3 * b)) (-(t1 * e)) = true) (r3 : rl (-(t4 * g)) (t2 * b) (-(t1 * z)) = true) (r4 : rl (t4 * d) (t2 * e) (t3 * z) = true) (r5 : rl (a * z) (g * e) (d * b) = true) :
   fin t1 t2 t3 t4 (gs t1 a b g + gs t2 (-g) z (-d) + gs t3 d (-e) (-a) + gs t4 e (-z) (-b)) = true := by
 have h := zlw
 unfold chk at h
 have h := List.all_eq_true.mp (List.all_eq_true.mp (List.all_eq_true.mp (List.all_eq_true.mp h t1 m1) t2 m2) t3 m3) a m5
 have h := List.all_eq_true.mp (zdv h ia) g m7
 have h := List.all_eq_true.mp (zdv h ig) d m8
 have h := List.all_eq_true.mp (zdv h (by rw [id, r1]; rfl)) t4 m4
 have h := List.all_eq_true.mp h b m6
 have h := List.all_eq_true.mp (zdv h ib) e m9
 have h := List.all_eq_true.mp (zdv h (by rw [ie, r2]; rfl)) z m10
 exact zdv h (by rw [iz', r3, r4, r5]; rfl)
theorem zhv {x y z : Int} (h : x + y + z = 0) : rl x.sign y.sign z.sign = true := by
 have f : ∀ x : Int, (x.sign = -1 ∧ x < 0) ∨ (x.sign = 0 ∧ x = 0) ∨ (x.sign = 1 ∧ 0 < x) := fun x => by
   rcases Int.lt_trichotomy x 0 with h | h | h
   · exact .inl ⟨Int.sign_eq_neg_one_of_neg h, h⟩
   · exact .inr (.inl ⟨by rw [h]; rfl, h⟩)
   · exact .inr (.inr ⟨Int.sign_eq_one_of_pos h, h⟩)
 rcases f x with ⟨a1, a2⟩ | ⟨a1, a2⟩ | ⟨a1, a2⟩ <;> rcases f y with ⟨b1, b2⟩ | ⟨b1, b2⟩ | ⟨b1, b2⟩ <;> rcases f z with ⟨c1, c2⟩ | ⟨c1, c2⟩ | ⟨c1, c2⟩ <;> rw [a1, b1, c1] <;> first
   | rfl
   | (exfalso; omega)
def bnd (v : Pt) : Int := 1 + v.1.natAbs + v.2.1.natAbs + v.2.2.natAbs
def way (N : Int) : Pt := (N * N, N, 1)
theorem zds {v : Pt} {N : Int} (h : bnd v ≤ N) : sal v = (vdot (way N) v).sign := by
 obtain ⟨x, y, z⟩ := v
 unfold bnd at h
 unfold sal vdot way
 simp only at h ⊢
 have hN : 0 < N := by omega
 have mul : ∀ a : Int, a ≤ N → 0 ≤ a → a ≤ N * a := fun a _ h0 => by
   have := Int.mul_le_mul_of_nonneg_right (show (1 : Int) ≤ N by omega) h0
   omega
 have hy : -(N * y.natAbs) ≤ N * y ∧ N * y ≤ N * y.natAbs := by
   constructor
   · have := Int.mul_le_mul_of_nonneg_left (show -(y.natAbs : Int) ≤ y by omega) (Int.le_of_lt hN)
     rw [Int.mul_neg] at this; exact this
   · exact Int.mul_le_mul_of_nonneg_left (show y ≤ (y.natAbs : Int) by omega) (Int.le_of_lt hN)
 have NN : N * (1 + y.natAbs + z.natAbs) ≤ N * N := Int.mul_le_mul_of_nonneg_left (by omega) (Int.le_of_lt hN)
 have hz := mul z.natAbs (by omega) (by omega)
 have ex : N * (1 + y.natAbs + z.natAbs) = N + N * y.natAbs + N * z.natAbs := by grind
 rw [ex] at NN
 by_cases hx : x = 0
 · subst hx
   simp only [ne_eq, not_true_eq_false, if_false, Int.mul_zero, Int.zero_add]
   by_cases h0 : y = 0
   · subst h0
     simp only [ne_eq, not_true_eq_false, if_false, Int.mul_zero, Int.zero_add, Int.one_mul]
   · rw [if_pos h0]
     rcases Int.lt_or_gt_of_ne h0 with hl | hg
     · have := Int.mul_le_mul_of_nonneg_left (show y ≤ -1 by omega) (Int.le_of_lt hN)
       rw [Int.sign_eq_neg_one_of_neg hl, Int.sign_eq_neg_one_of_neg (by omega)]
     · have := Int.mul_le_mul_of_nonneg_left (show 1 ≤ y by omega) (Int.le_of_lt hN)
       rw [Int.sign_eq_one_of_pos hg, Int.sign_eq_one_of_pos (by omega)]
 · rw [if_pos hx]
   have hNN : 0 ≤ N * N := Int.mul_nonneg (by omega) (by omega)
   rcases Int.lt_or_gt_of_ne hx with hl | hg
   · have := Int.mul_le_mul_of_nonneg_left (show x ≤ -1 by omega) hNN
     rw [Int.sign_eq_neg_one_of_neg hl, Int.sign_eq_neg_one_of_neg (by omega)]
   · have := Int.mul_le_mul_of_nonneg_left (show 1 ≤ x by omega) hNN
     rw [Int.sign_eq_one_of_pos hg, Int.sign_eq_one_of_pos (by omega)]
theorem zgs {v : Pt} (h : sal v = 0) : v = (0, 0, 0) := by
 obtain ⟨x, y, z⟩ := v
 unfold sal at h
 simp only at h
 by_cases hx : x = 0
 · by_cases hy : y = 0
   · subst hx; subst hy
     simp only [ne_eq, not_true_eq_false, if_false] at h
     rw [Int.sign_eq_zero_iff_zero.mp h]
   · rw [if_neg (by simpa using hx), if_pos hy] at h
     exact absurd (Int.sign_eq_zero_iff_zero.mp h) hy
 · rw [if_pos hx] at h
   exact absurd (Int.sign_eq_zero_iff_zero.mp h) hx
theorem zbt (X Y : Pt) : sal (vcross Y X) = -sal (vcross X Y) := by
 have e1 : (vcross Y X).1 = -(vcross X Y).1 := by unfold vcross; simp only; grind
 have e2 : (vcross Y X).2.1 = -(vcross X Y).2.1 := by unfold vcross; simp only; grind
 have e3 : (vcross Y X).2.2 = -(vcross X Y).2.2 := by unfold vcross; simp only; grind
 unfold sal
 rw [e1, e2, e3]
 simp only [ne_eq, Int.neg_eq_zero, Int.sign_neg]
 split
 · rfl
 · split <;> rfl
theorem znJ (w A B C E : Pt) : -(det3 A C E * vdot w (vcross A B)) + det3 A E B * vdot w (vcross C A) + -(det3 A B C * vdot w (vcross A E)) = 0 := by unfold det3 vdot vcross; simp only; grind
theorem znI (w A B C E : Pt) : det3 B E C * vdot w (vcross A B) + -(det3 A E B * vdot w (vcross B C)) + -(det3 A B C * vdot w (vcross B E)) = 0 := by unfold det3 vdot vcross; simp only; grind
theorem znH (w A B C E : Pt) : -(det3 B E C * vdot w (vcross C A)) + det3 A C E * vdot w (vcross B C) + -(det3 A B C * vdot w (vcross C E)) = 0 := by unfold det3 vdot vcross; simp only; grind
theorem znG (w A B C E : Pt) : det3 B E C * vdot w (vcross A E) + det3 A C E * vdot w (vcross B E) + det3 A E B * vdot w (vcross C E) = 0 := by unfold det3 vdot vcross; simp only; grind
theorem znF (w A B C E : Pt) : vdot w (vcross A B) * vdot w (vcross C E) + vdot w (vcross C A) * vdot w (vcross B E) + vdot w (vcross A E) * vdot w (vcross B C) = 0 := by unfold vdot vcross; simp only; grind
theorem dep4 (A B C E : Pt) : det3 B E C * A.1 + det3 A C E * B.1 + det3 A E B * C.1 + det3 A B C * E.1 = 0 ∧ det3 B E C * A.2.1 + det3 A C E * B.2.1 + det3 A E B * C.2.1 + det3 A B C * E.2.1 = 0
   ∧ det3 B E C * A.2.2 + det3 A C E * B.2.2 + det3 A E B * C.2.2 + det3 A B C * E.2.2 = 0 := by unfold det3 vdot vcross; simp only; refine ⟨?_, ?_, ?_⟩ <;> grind
theorem zaX (X Y Z : Pt) : det3 X Y Z = vdot Z (vcross X Y) ∧ det3 X Y Z = vdot X (vcross Y Z) ∧ det3 X Y Z = vdot Y (vcross Z X) := by unfold det3 vdot vcross; simp only; refine ⟨?_, ?_, ?_⟩ <;> grind
theorem zfp (Z : Pt) : vdot Z (0, 0, 0) = 0 := by unfold vdot; simp only; grind
theorem zjz (X Y Z : Pt) : det3 X Z Y = -det3 X Y Z := by unfold det3 vdot vcross; simp only; grind
theorem zg3 {X Y : Pt} {t u : Int} (h1 : sal (vcross X Y) = 0 → t = 0) (h2 : sal (vcross X Y) = 0 → u = 0) : iz (sal (vcross X Y)) t.sign u.sign = true := by
 unfold iz
 by_cases h : sal (vcross X Y) = 0
 · rw [h, h1 h, h2 h]; rfl
 · simp [h]
theorem zg5 (X Y Z : Pt) : goM X Y Z = gs (det3 X Y Z).sign (sal (vcross X Y)) (sal (vcross Y Z)) (sal (vcross Z X)) := by
 unfold goM gs
 by_cases h : sal (vcross X Y) = (det3 X Y Z).sign ∧ sal (vcross Y Z) = (det3 X Y Z).sign ∧ sal (vcross Z X) = (det3 X Y Z).sign
 · rw [if_pos h, if_pos (by simp only [Bool.and_eq_true, beq_iff_eq]; exact ⟨⟨h.1, h.2.1⟩, h.2.2⟩)]
 · rw [if_neg h, if_neg (by simp only [Bool.and_eq_true, beq_iff_eq]; exact fun q => h ⟨q.1.1, q.1.2, q.2⟩)]
theorem zfh (X Y Z : Pt) : goM X Z Y = -goM X Y Z := by
 rw [zg5, zg5, zjz X Y Z, zbt Z X, zbt Y Z, zbt X Y, Int.sign_neg]
 unfold gs
 generalize (det3 X Y Z).sign = t
 generalize sal (vcross X Y) = a
 generalize sal (vcross Y Z) = b
 generalize sal (vcross Z X) = c
 by_cases h : a = t ∧ b = t ∧ c = t
 · rw [if_pos (by simp only [Bool.and_eq_true, beq_iff_eq]; omega), if_pos (by simp only [Bool.and_eq_true, beq_iff_eq]; omega)]
 · rw [if_neg (by simp only [Bool.and_eq_true, beq_iff_eq]; omega), if_neg (by simp only [Bool.and_eq_true, beq_iff_eq]; omega)]; rfl
def tet (A B C E : Pt) : Int := goM A B C + goM A C E + goM A E B + goM B E C
theorem zhk (A B C E : Pt) : fin (det3 A B C).sign (det3 A C E).sign (det3 A E B).sign (det3 B E C).sign (tet A B C E) = true := by
 obtain ⟨N, hN⟩ : ∃ N : Int, N = bnd (vcross A B) + bnd (vcross B C) + bnd (vcross C A) + bnd (vcross A E) + bnd (vcross B E) + bnd (vcross C E) := ⟨_, rfl⟩
 have pos : ∀ v : Pt, 0 < bnd v := fun v => by unfold bnd; omega
 have p1 := pos (vcross A B)
 have p2 := pos (vcross B C)
 have p3 := pos (vcross C A)
 have p4 := pos (vcross A E)
 have p5 := pos (vcross B E)
 have p6 := pos (vcross C E)
 have s1 := zds (v := vcross A B) (N := N) (by omega)
 have s2 := zds (v := vcross B C) (N := N) (by omega)
 have s3 := zds (v := vcross C A) (N := N) (by omega)
 have s4 := zds (v := vcross A E) (N := N) (by omega)
 have s5 := zds (v := vcross B E) (N := N) (by omega)
 have s6 := zds (v := vcross C E) (N := N) (by omega)
 have r1 := zhv (znJ (way N) A B C E)
 have r2 := zhv (znI (way N) A B C E)
 have r3 := zhv (znH (way N) A B C E)
 have r4 := zhv (znG (way N) A B C E)
 have r5 := zhv (znF (way N) A B C E)
 simp only [Int.sign_neg, Int.sign_mul] at r1 r2 r3 r4 r5
 rw [← s1, ← s3, ← s4] at r1
 rw [← s1, ← s2, ← s5] at r2
 rw [← s3, ← s2, ← s6] at r3
 rw [← s4, ← s5, ← s6] at r4
 rw [← s1, ← s6, ← s3, ← s5, ← s4, ← s2] at r5
 have z : ∀ {X Y : Pt}, sal (vcross X Y) = 0 → ∀ Z, vdot Z (vcross X Y) = 0 := fun h Z => by rw [zgs h]; exact zfp Z
 have nz : ∀ {X Y : Pt}, sal (vcross X Y) = 0 → ∀ Z, vdot Z (vcross Y X) = 0 := fun {X Y} h Z => by
   have : sal (vcross Y X) = 0 := by rw [zbt, h]; rfl
   rw [zgs this]; exact zfp Z
 unfold tet
 rw [zg5, zg5, zg5, zg5, zbt C A, zbt A E, zbt B E, zbt A B, zbt C E, zbt B C]
 exact znl (zcL _) (zcL _) (zcL _) (zcL _) (by rw [s1]; exact zcL _) (by rw [s2]; exact zcL _) (by rw [s3]; exact zcL _) (by rw [s4]; exact zcL _) (by rw [s5]; exact zcL _) (by rw [s6]; exact zcL _)
   (zg3 (fun h => by rw [(zaX A B C).1]; exact z h _) (fun h => by rw [(zaX A E B).2.2]; exact nz (by rw [zbt, zbt] at *; simpa using h) _))
   (zg3 (fun h => by rw [(zaX A B C).2.1]; exact z h _) (fun h => by rw [(zaX B E C).2.2]; exact nz (by simpa using h) _))
   (zg3 (fun h => by rw [(zaX A B C).2.2]; exact z h _) (fun h => by rw [(zaX A C E).1]; exact nz h _))
   (zg3 (fun h => by rw [(zaX A C E).2.2]; exact nz h _) (fun h => by rw [(zaX A E B).1]; exact z h _))
   (zg3 (fun h => by rw [(zaX A E B).2.1]; exact nz h _) (fun h => by rw [(zaX B E C).1]; exact z h _))
   (zg3 (fun h => by rw [(zaX A C E).2.1]; exact z h _) (fun h => by rw [(zaX B E C).2.1]; exact nz h _)) r1 r2 r3 r4 r5
def onT (A B C : Pt) : Prop := ∃ u v w : Int, 0 ≤ u ∧ 0 ≤ v ∧ 0 ≤ w ∧ 0 < u + v + w ∧ u * A.1 + v * B.1 + w * C.1 = 0 ∧ u * A.2.1 + v * B.2.1 + w * C.2.1 = 0 ∧ u * A.2.2 + v * B.2.2 + w * C.2.2 = 0
theorem zbS {A B C : Pt} (h : onT A B C) : onT A C B := by
 obtain ⟨u, v, w, h1, h2, h3, h4, e1, e2, e3⟩ := h
 exact ⟨u, w, v, h1, h3, h2, by omega, by omega, by omega, by omega⟩
theorem zk0 {A B C : Pt} (E : Pt) {u v w : Int} (e1 : u * A.1 + v * B.1 + w * C.1 = 0) (e2 : u * A.2.1 + v * B.2.1 + w * C.2.1 = 0) (e3 : u * A.2.2 + v * B.2.2 + w * C.2.2 = 0) :
   u * det3 A C E = v * det3 B E C ∧ u * det3 A E B = w * det3 B E C ∧ v * det3 A E B = w * det3 A C E ∧ u * det3 A B C = 0 ∧ v * det3 A B C = 0 ∧ w * det3 A B C = 0 := by
 have d : ∀ n : Pt, u * vdot A n + v * vdot B n + w * vdot C n = 0 := fun n => by
   have : u * vdot A n + v * vdot B n + w * vdot C n = (u * A.1 + v * B.1 + w * C.1) * n.1 + (u * A.2.1 + v * B.2.1 + w * C.2.1) * n.2.1 + (u * A.2.2 + v * B.2.2 + w * C.2.2) * n.2.2 := by unfold vdot; grind
   rw [this, e1, e2, e3]; omega
 have q1 := d (vcross C E)
 have q2 := d (vcross E B)
 have q3 := d (vcross A E)
 have q4 := d (vcross B C)
 have q5 := d (vcross C A)
 have q6 := d (vcross A B)
 have f1 : vdot A (vcross C E) = det3 A C E ∧ vdot B (vcross C E) = -det3 B E C ∧ vdot C (vcross C E) = 0 := by unfold det3 vdot vcross; simp only; refine ⟨?_, ?_, ?_⟩ <;> grind
 have f2 : vdot A (vcross E B) = det3 A E B ∧ vdot B (vcross E B) = 0 ∧ vdot C (vcross E B) = -det3 B E C := by unfold det3 vdot vcross; simp only; refine ⟨?_, ?_, ?_⟩ <;> grind
 have f3 : vdot A (vcross A E) = 0 ∧ vdot B (vcross A E) = det3 A E B ∧ vdot C (vcross A E) = -det3 A C E := by unfold det3 vdot vcross; simp only; refine ⟨?_, ?_, ?_⟩ <;> grind
 have f4 : vdot A (vcross B C) = det3 A B C ∧ vdot B (vcross B C) = 0 ∧ vdot C (vcross B C) = 0 := by unfold det3 vdot vcross; simp only; refine ⟨?_, ?_, ?_⟩ <;> grind
 have f5 : vdot A (vcross C A) = 0 ∧ vdot B (vcross C A) = det3 A B C ∧ vdot C (vcross C A) = 0 := by unfold det3 vdot vcross; simp only; refine ⟨?_, ?_, ?_⟩ <;> grind
 have f6 : vdot A (vcross A B) = 0 ∧ vdot B (vcross A B) = 0 ∧ vdot C (vcross A B) = det3 A B C := by unfold det3 vdot vcross; simp only; refine ⟨?_, ?_, ?_⟩ <;> grind
 rw [f1.1, f1.2.1, f1.2.2] at q1
 rw [f2.1, f2.2.1, f2.2.2] at q2
 rw [f3.1, f3.2.1, f3.2.2] at q3
 rw [f4.1, f4.2.1, f4.2.2] at q4
 rw [f5.1, f5.2.1, f5.2.2] at q5
 rw [f6.1, f6.2.1, f6.2.2] at q6
 simp only [Int.mul_neg, Int.mul_zero] at *
 refine ⟨?_, ?_, ?_, ?_, ?_, ?_⟩ <;> omega
theorem zfc {A B C : Pt} (E : Pt) (h : onT A B C) : det3 A B C = 0 ∧ ∀ k : Int, 0 < k * (det3 A B C + det3 A C E + det3 A E B + det3 B E C) → 0 ≤ k * det3 A C E ∧ 0 ≤ k * det3 A E B ∧ 0 ≤ k * det3 B E C := by
 obtain ⟨u, v, w, h1, h2, h3, h4, e1, e2, e3⟩ := h
 obtain ⟨d1, d2, d3, d4, d5, d6⟩ := zk0 E e1 e2 e3
 have z : det3 A B C = 0 := by
   rcases Int.mul_eq_zero.mp d4 with a | a
   · rcases Int.mul_eq_zero.mp d5 with b | b
     · rcases Int.mul_eq_zero.mp d6 with c | c
       · omega
       · exact c
     · exact b
   · exact a
 refine ⟨z, fun k hk => ?_⟩
 rw [z] at hk
 generalize det3 A C E = t2 at *
 generalize det3 A E B = t3 at *
 generalize det3 B E C = t4 at *
 have s4 : (u + v + w) * (k * t4) = u * (k * (0 + t2 + t3 + t4)) := by grind
 have s2 : (u + v + w) * (k * t2) = v * (k * (0 + t2 + t3 + t4)) := by grind
 have s3 : (u + v + w) * (k * t3) = w * (k * (0 + t2 + t3 + t4)) := by grind
 have nn : ∀ {x y : Int}, 0 ≤ x → (u + v + w) * y = x * (k * (0 + t2 + t3 + t4)) → 0 ≤ y := fun {x y} hx e => by
   have := Int.mul_nonneg hx (Int.le_of_lt hk)
   rw [← e] at this
   exact Int.le_of_mul_le_mul_left (by rw [Int.mul_zero]; exact this) h4
 exact ⟨nn h2 s2, nn h3 s3, nn h1 s4⟩
theorem zfi {A B C E : Pt} {k : Int} (z : det3 A B C = 0) (h2 : 0 ≤ k * det3 A C E) (h3 : 0 ≤ k * det3 A E B) (h4 : 0 ≤ k * det3 B E C) (hs : 0 < k * (det3 A B C + det3 A C E + det3 A E B + det3 B E C)) : onT A B C := by
 obtain ⟨e1, e2, e3⟩ := dep4 A B C E
 rw [z] at e1 e2 e3 hs
 generalize det3 A C E = t2 at *
 generalize det3 A E B = t3 at *
 generalize det3 B E C = t4 at *
 refine ⟨k * t4, k * t2, k * t3, h4, h2, h3, by grind, ?_, ?_, ?_⟩
 · have : k * t4 * A.1 + k * t2 * B.1 + k * t3 * C.1 = k * (t4 * A.1 + t2 * B.1 + t3 * C.1 + 0 * E.1) := by grind
   rw [this, e1, Int.mul_zero]
 · have : k * t4 * A.2.1 + k * t2 * B.2.1 + k * t3 * C.2.1 = k * (t4 * A.2.1 + t2 * B.2.1 + t3 * C.2.1 + 0 * E.2.1) := by grind
   rw [this, e2, Int.mul_zero]
 · have : k * t4 * A.2.2 + k * t2 * B.2.2 + k * t3 * C.2.2 = k * (t4 * A.2.2 + t2 * B.2.2 + t3 * C.2.2 + 0 * E.2.2) := by grind
   rw [this, e3, Int.mul_zero]
theorem zfk (X Y Z : Pt) : det3 Y Z X = det3 X Y Z ∧ det3 Z X Y = det3 X Y Z := by unfold det3 vdot vcross; simp only; refine ⟨?_, ?_⟩ <;> grind
def anyOn (A B C E : Pt) : Prop := onT A B C ∨ onT A C E ∨ onT A E B ∨ onT B E C
theorem zjF {A B C E : Pt} {k : Int} (hs : 0 < k * (det3 A B C + det3 A C E + det3 A E B + det3 B E C)) :
   anyOn A B C E ↔ (0 ≤ k * det3 A B C ∧ 0 ≤ k * det3 A C E ∧ 0 ≤ k * det3 A E B ∧ 0 ≤ k * det3 B E C) ∧ (det3 A B C = 0 ∨ det3 A C E = 0 ∨ det3 A E B = 0 ∨ det3 B E C = 0) := by
 have r1 := zfk B E C
 have r2 := zfk A E B
 have r3 := zfk A C E
 have r4 := zfk A B C
 have z0 : k * 0 = 0 := Int.mul_zero k
 have u2 : 0 < k * (det3 A C E + det3 A E B + det3 A B C + det3 C B E) := by rw [r1.2]; have : det3 A C E + det3 A E B + det3 A B C + det3 B E C = det3 A B C + det3 A C E + det3 A E B + det3 B E C := by omega
                                                                             rw [this]; exact hs
 have u3 : 0 < k * (det3 A E B + det3 A B C + det3 A C E + det3 E C B) := by rw [r1.1]; have : det3 A E B + det3 A B C + det3 A C E + det3 B E C = det3 A B C + det3 A C E + det3 A E B + det3 B E C := by omega
                                                                             rw [this]; exact hs
 have u4 : 0 < k * (det3 B E C + det3 B C A + det3 B A E + det3 E A C) := by rw [r4.1, r2.2, r3.2]; have : det3 B E C + det3 A B C + det3 A E B + det3 A C E = det3 A B C + det3 A C E + det3 A E B + det3 B E C := by omega
                                                                             rw [this]; exact hs
 constructor
 · rintro (h | h | h | h)
   · obtain ⟨z, f⟩ := zfc E h
     obtain ⟨f1, f2, f3⟩ := f k hs
     exact ⟨⟨by rw [z]; omega, f1, f2, f3⟩, .inl z⟩
   · obtain ⟨z, f⟩ := zfc B h
     obtain ⟨f1, f2, f3⟩ := f k u2
     rw [r1.2] at f3
     exact ⟨⟨f2, by rw [z]; omega, f1, f3⟩, .inr (.inl z)⟩
   · obtain ⟨z, f⟩ := zfc C h
     obtain ⟨f1, f2, f3⟩ := f k u3
     rw [r1.1] at f3
     exact ⟨⟨f1, f2, by rw [z]; omega, f3⟩, .inr (.inr (.inl z))⟩
   · obtain ⟨z, f⟩ := zfc A h
     obtain ⟨f1, f2, f3⟩ := f k u4
     rw [r4.1] at f1
     rw [r2.2] at f2
     rw [r3.2] at f3
     exact ⟨⟨f1, f3, f2, by rw [z]; omega⟩, .inr (.inr (.inr z))⟩
 · rintro ⟨⟨h1, h2, h3, h4⟩, z | z | z | z⟩
   · exact .inl (zfi z h2 h3 h4 hs)
   · exact .inr (.inl (zfi z h3 h1 (by rw [r1.2]; exact h4) u2))
   · exact .inr (.inr (.inl (zfi z h1 h2 (by rw [r1.1]; exact h4) u3)))
   · exact .inr (.inr (.inr (zfi z (by rw [r4.1]; exact h1) (by rw [r2.2]; exact h3) (by rw [r3.2]; exact h2) u4)))
theorem zj0 {A B C E : Pt} (hn : det3 A B C < 0 ∨ det3 A C E < 0 ∨ det3 A E B < 0 ∨ det3 B E C < 0) (hp : 0 < det3 A B C ∨ 0 < det3 A C E ∨ 0 < det3 A E B ∨ 0 < det3 B E C) : tet A B C E = 0 := by
 have f := zhk A B C E
 unfold fin at f
 have sn : ∀ {x : Int}, x < 0 → x.sign = -1 := Int.sign_eq_neg_one_of_neg
 have sp : ∀ {x : Int}, 0 < x → x.sign = 1 := Int.sign_eq_one_of_pos
 rw [if_neg (by rcases hn with h | h | h | h <;> simp [sn h]), if_neg (by rcases hp with h | h | h | h <;> simp [sp h]), if_pos (by
   simp only [Bool.and_eq_true, Bool.or_eq_true, beq_iff_eq]
   constructor
   · rcases hp with h | h | h | h <;> simp [sp h]
   · rcases hn with h | h | h | h <;> simp [sn h])] at f
 simpa using f
theorem zhg (p a b c e : Pt) : det3 (wb p b) (wb p c) (wb p e) = -det3 (wb p b) (wb p e) (wb p c) ∧ det3 (wb a p) (wb a c) (wb a e) = -det3 (wb p a) (wb p c) (wb p e)
   ∧ det3 (wb a b) (wb a p) (wb a e) = -det3 (wb p a) (wb p e) (wb p b) ∧ det3 (wb a b) (wb a c) (wb a p) = -det3 (wb p a) (wb p b) (wb p c)
   ∧ det3 (wb a b) (wb a c) (wb a e) = -(det3 (wb p a) (wb p b) (wb p c) + det3 (wb p a) (wb p c) (wb p e) + det3 (wb p a) (wb p e) (wb p b) + det3 (wb p b) (wb p e) (wb p c)) := by
 unfold det3 vdot vcross wb; simp only; refine ⟨?_, ?_, ?_, ?_, ?_⟩ <;> grind
def vol (p q r s : Pt) : Int := det3 (wb p q) (wb p r) (wb p s)
end MX.P
end
section
set_option autoImplicit false
namespace MX.P
def pK (p : Pt) : List Int := [p.1, p.2.1, p.2.2]
def eK (e : Pt × Pt) : NK := [pK e.1, pK e.2]
theorem zjL {p q : Pt} (h : pK p = pK q) : p = q := by
 obtain ⟨a, b, c⟩ := p
 obtain ⟨d, e, f⟩ := q
 simp only [pK, List.cons.injEq, and_true] at h
 rw [h.1, h.2.1, h.2.2]
theorem znh {p q : Pt × Pt} (h : eK p = eK q) : p = q := by
 simp only [eK, List.cons.injEq, and_true] at h
 exact Prod.ext (zjL h.1) (zjL h.2)
def swp (e : Pt × Pt) : Pt × Pt := (e.2, e.1)
def bump (xs : List (NK × Int)) (k : NK) : List (NK × Int) := putN xs k ((getO xs k).getD 0 + 1)
def cntN (L : List NK) : List (NK × Int) := L.foldl bump []
theorem zb5 (x : NK × Int) (xs : List (NK × Int)) (j : NK) : getO (x :: xs) j = if x.1 = j then some x.2 else getO xs j := by
 unfold getO
 by_cases h : x.1 = j <;> simp [h]
theorem zh1 (xs : List (NK × Int)) (x : NK × Int) (j : NK) : getO (xs ++ [x]) j = (getO xs j).or (if x.1 = j then some x.2 else none) := by
 induction xs with
 | nil => rw [List.nil_append, zb5]; rfl
 | cons y r ih =>
   rw [List.cons_append, zb5, zb5, ih]
   by_cases h : y.1 = j
   · rw [if_pos h, if_pos h]; rfl
   · rw [if_neg h, if_neg h]
theorem zh2 (xs : List (NK × Int)) (k : NK) (i : Int) (j : NK) : getO (xs.map fun x => if x.1 = k then (x.1, i) else x) j = if j = k then (getO xs j).map (fun _ => i) else getO xs j := by
 induction xs with
 | nil => by_cases h : j = k <;> simp [getO, h]
 | cons y r ih =>
   rw [List.map_cons, zb5, zb5, ih]
   by_cases h : y.1 = k
   · rw [if_pos h]
     by_cases h2 : y.1 = j
     · rw [if_pos h2, if_pos h2, if_pos (h2 ▸ h)]; rfl
     · rw [if_neg h2, if_neg h2]
   · rw [if_neg h]
     by_cases h2 : y.1 = j
     · rw [if_pos h2, if_pos h2, if_neg (fun z => h (h2.trans z))]
     · rw [if_neg h2, if_neg h2]
theorem zjm (xs : List (NK × Int)) (k : NK) (i : Int) (j : NK) : getO (putN xs k i) j = if j = k then some i else getO xs j := by
 unfold putN
 cases hk : getO xs k with
 | none =>
   rw [if_neg (by simp), zh1]
   by_cases h : j = k
   · subst h; rw [hk]; simp
   · rw [if_neg (fun z => h z.symm), if_neg h, Option.or_none]
 | some v =>
   rw [if_pos (by simp), zh2]
   by_cases h : j = k
   · subst h; rw [if_pos rfl, if_pos rfl, hk]; rfl
   · rw [if_neg h, if_neg h]
theorem zjB (L : List NK) : ∀ (xs : List (NK × Int)) (j : NK), (getO (L.foldl bump xs) j).getD 0 = (getO xs j).getD 0 + L.count j := by
 induction L with
 | nil => intro xs j; simp
 | cons k r ih =>
   intro xs j
   rw [List.foldl_cons, ih, bump, zjm, List.count_cons]
   by_cases h : j = k
   · subst h
     rw [if_pos rfl, if_pos (by simp)]
     simp only [Option.getD_some]
     omega
   · rw [if_neg h, if_neg (by simpa using fun z => h z.symm)]
     omega
theorem zil (L : List NK) (j : NK) : (getO (cntN L) j).getD 0 = L.count j := by
 unfold cntN
 rw [zjB]
 simp [getO]
theorem zjg {xs : List (NK × Int)} {k : NK} {i : Int} (h : (xs.map (·.1)).Nodup) : ((putN xs k i).map (·.1)).Nodup := by
 unfold putN
 cases hk : getO xs k with
 | none =>
   rw [if_neg (by simp), List.map_append, List.nodup_append]
   refine ⟨h, by simp, fun a ha b hb z => ?_⟩
   have hb' : b = k := by simpa using hb
   subst hb'
   obtain ⟨y, hy, e⟩ := List.mem_map.mp ha
   unfold getO at hk
   simp only [Option.map_eq_none_iff, List.find?_eq_none, decide_eq_true_eq] at hk
   exact hk y hy (e.trans z)
 | some v =>
   rw [if_pos (by simp)]
   have e : (xs.map fun x => if x.1 = k then (x.1, i) else x).map (·.1) = xs.map (·.1) := by
     rw [List.map_map]
     refine List.map_congr_left fun x _ => ?_
     show (if x.1 = k then (x.1, i) else x).1 = x.1
     split <;> rfl
   rw [e]; exact h
theorem zjh (L : List NK) : ∀ {xs : List (NK × Int)}, (xs.map (·.1)).Nodup → ((L.foldl bump xs).map (·.1)).Nodup := by
 induction L with
 | nil => intro xs h; exact h
 | cons k r ih => intro xs h; exact ih (zjg h)
theorem zk6 {xs : List (NK × Int)} {k : NK} {i : Int} {x : NK × Int} (h : x ∈ putN xs k i) : x.1 = k ∨ x ∈ xs := by
 unfold putN at h
 split at h
 · obtain ⟨y, hy, rfl⟩ := List.mem_map.mp h
   split
   · rename_i e; exact .inl e
   · exact .inr hy
 · rcases List.mem_append.mp h with h | h
   · exact .inr h
   · exact .inl (by rw [List.mem_singleton.mp h])
theorem zk7 (L : List NK) : ∀ {xs : List (NK × Int)} {x : NK × Int}, x ∈ L.foldl bump xs → x.1 ∈ L ∨ x ∈ xs := by
 induction L with
 | nil => intro xs x h; exact .inr h
 | cons k r ih =>
   intro xs x h
   rcases ih (show x ∈ r.foldl bump (bump xs k) from h) with h | h
   · exact .inl (List.mem_cons_of_mem _ h)
   · rcases zk6 h with h | h
     · exact .inl (h ▸ List.mem_cons_self)
     · exact .inr h
theorem zmT {xs : List (NK × Int)} (h : (xs.map (·.1)).Nodup) {x : NK × Int} (hx : x ∈ xs) : getO xs x.1 = some x.2 := by
 induction xs with
 | nil => cases hx
 | cons y r ih =>
   rw [List.map_cons, List.nodup_cons] at h
   rw [zb5]
   rcases List.mem_cons.mp hx with rfl | hx
   · rw [if_pos rfl]
   · have : y.1 ≠ x.1 := fun z => h.1 (z ▸ List.mem_map.mpr ⟨x, hx, rfl⟩)
     rw [if_neg this]; exact ih h.2 hx
theorem zf8 (L : List NK) : ∀ {xs : List (NK × Int)}, (L.foldl bump xs).length ≤ xs.length + L.length := by
 induction L with
 | nil => intro xs; simp
 | cons k r ih =>
   intro xs
   have h1 : (bump xs k).length ≤ xs.length + 1 := by
     unfold bump putN
     split <;> simp
   have := ih (xs := bump xs k)
   rw [List.foldl_cons, List.length_cons]
   omega
theorem zgG (E : List (Pt × Pt)) (e : Pt × Pt) : (E.map eK).count (eK e) = E.count e := by
 induction E with
 | nil => rfl
 | cons x r ih =>
   rw [List.map_cons, List.count_cons, List.count_cons, ih]
   by_cases h : x = e
   · subst h; simp
   · rw [if_neg (by simpa using fun z => h (znh z)), if_neg (by simpa using h)]
def Closed (E : List (Pt × Pt)) : Prop := ∀ e, E.count e = E.count (swp e)
theorem zha {E : List (Pt × Pt)} (h : Closed E) {x : NK × Int} (hx : x ∈ cntN (E.map eK)) : ∃ e : Pt × Pt, x.1 = eK e ∧ x.2 = (getO (cntN (E.map eK)) (eK (swp e))).getD 0 := by
 rcases zk7 _ hx with hm | hm
 · obtain ⟨e, _, ee⟩ := List.mem_map.mp hm
   refine ⟨e, ee.symm, ?_⟩
   have g := zmT (zjh (E.map eK) (xs := []) List.nodup_nil) hx
   have g1 := zil (E.map eK) x.1
   have g2 : getO (cntN (E.map eK)) x.1 = some x.2 := g
   rw [g2, Option.getD_some] at g1
   rw [g1, zil, ← ee, zgG, zgG, h e]
 · cases hm
theorem zik (E : List (Pt × Pt)) (e : Pt × Pt) : (E.map swp).count e = E.count (swp e) := by
 induction E with
 | nil => rfl
 | cons x r ih =>
   rw [List.map_cons, List.count_cons, List.count_cons, ih]
   by_cases h : x = swp e
   · subst h; simp [swp]
   · rw [if_neg (by simpa using fun z => h (by rw [← z]; rfl)), if_neg (by simpa using h)]
abbrev Tr := Pt × Pt × Pt
def edE (t : Tr) : List (Pt × Pt) := [(t.1, t.2.1), (t.2.1, t.2.2), (t.2.2, t.1)]
def edL (ts : List Tr) : List (Pt × Pt) := ts.flatMap edE
theorem zg8 : Closed [] := fun _ => rfl
end MX.P
end
section
set_option autoImplicit false
namespace MX.P
def onB (p a b c : Pt) : Bool := decide (triM p (1, 0, 0) a b c = some (0, 1))
theorem zjR {d A B C : Pt} : inT d A B C (0, 1) ↔ onT A B C := by
 constructor
 · rintro ⟨u, v, w, h1, h2, h3, h4, e1, e2, e3⟩
   simp only [Int.mul_zero, Int.zero_mul, Int.one_mul] at e1 e2 e3
   exact ⟨u, v, w, h1, h2, h3, h4, e1.symm, e2.symm, e3.symm⟩
 · rintro ⟨u, v, w, h1, h2, h3, h4, e1, e2, e3⟩
   refine ⟨u, v, w, h1, h2, h3, h4, ?_, ?_, ?_⟩ <;> simp only [Int.mul_zero, Int.zero_mul, Int.one_mul]
   · exact e1.symm
   · exact e2.symm
   · exact e3.symm
theorem zhG (p a b c : Pt) : onB p a b c = true ↔ onT (wb p a) (wb p b) (wb p c) := by
 have h0 : ((1, 0, 0) : Pt) ≠ (0, 0, 0) := by decide
 have hF := zhj (o := p) (a := a) (b := b) (c := c) h0
 have hR := zjX p (1, 0, 0) a b c
 unfold onB
 rw [decide_eq_true_eq, ← zjR (d := (1, 0, 0))]
 generalize triM p (1, 0, 0) a b c = m at *
 constructor
 · intro e
   subst e
   exact hF.2.2.1
 · intro hX
   cases m with
   | none => exact absurd hX (hF (0, 1) (by decide) (by decide))
   | some r =>
     obtain ⟨g1, g2, _, g4⟩ := hF
     have g5 := g4 (0, 1) (by decide) (by decide) hX
     unfold leQ at g5
     simp only [Int.mul_one, Int.zero_mul] at g5
     have z : r.1 = 0 := by omega
     have e := hR r rfl
     unfold redQ at e
     rw [z, Rat.zero_divInt] at e
     rw [← e]; rfl
end MX.P
end
section
set_option autoImplicit false
namespace MX.P
theorem zfg {X Y Z : Pt} (h : det3 X Y Z = 0) : goM X Y Z = 0 := by
 unfold goM
 rw [h]
 split <;> rfl
def withM (p a b c e : Pt) : Int :=
 if vol p b c e * vol a b c e ≤ 0 then 0 else if vol a p c e * vol a b c e ≤ 0 then 0 else if vol a b p e * vol a b c e ≤ 0 then 0 else if vol a b c p * vol a b c e ≤ 0 then 0
 else (if decide (vol a b c e > 0) = true then 1 else 0) - (if decide (vol a b c e < 0) = true then 1 else 0)
theorem zfA {x W : Int} : ¬ x * W ≤ 0 ↔ (0 < x ∧ 0 < W) ∨ (x < 0 ∧ W < 0) := by
 constructor
 · intro h
   rcases Int.lt_trichotomy x 0 with a | a | a <;> rcases Int.lt_trichotomy W 0 with b | b | b
   · exact .inr ⟨a, b⟩
   · exact absurd (by rw [b, Int.mul_zero]; exact Int.le_refl _) h
   · exact absurd (Int.le_of_lt (Int.mul_neg_of_neg_of_pos a b)) h
   · exact absurd (by rw [a, Int.zero_mul]; exact Int.le_refl _) h
   · exact absurd (by rw [a, Int.zero_mul]; exact Int.le_refl _) h
   · exact absurd (by rw [a, Int.zero_mul]; exact Int.le_refl _) h
   · exact absurd (Int.le_of_lt (Int.mul_neg_of_pos_of_neg a b)) h
   · exact absurd (by rw [b, Int.mul_zero]; exact Int.le_refl _) h
   · exact .inl ⟨a, b⟩
 · rintro (⟨a, b⟩ | ⟨a, b⟩) h
   · have := Int.mul_pos a b; omega
   · have := Int.mul_pos_of_neg_of_neg a b; omega
theorem ziy {p a b c e : Pt} (hn : ¬ anyOn (wb p a) (wb p b) (wb p c) (wb p e)) : withM p a b c e = -tet (wb p a) (wb p b) (wb p c) (wb p e) := by
 obtain ⟨v1, v2, v3, v4, v5⟩ := zhg p a b c e
 unfold withM vol
 rw [v1, v2, v3, v4, v5]
 generalize wb p a = A at *
 generalize wb p b = B at *
 generalize wb p c = C at *
 generalize wb p e = E at *
 have to := @zj0 A B C E
 have tf := zhk A B C E
 have tz : det3 A B C = 0 → det3 A C E = 0 → det3 A E B = 0 → det3 B E C = 0 → tet A B C E = 0 := fun h1 h2 h3 h4 => by
   unfold tet; rw [zfg h1, zfg h2, zfg h3, zfg h4]; rfl
 have af := fun k => @zjF A B C E k
 generalize tet A B C E = T at *
 generalize det3 A B C = t1 at *
 generalize det3 A C E = t2 at *
 generalize det3 A E B = t3 at *
 generalize det3 B E C = t4 at *
 have m := fun x : Int => @zfA x (-(t1 + t2 + t3 + t4))
 have m4 := m (-t4)
 have m2 := m (-t2)
 have m3 := m (-t3)
 have m1 := m (-t1)
 generalize -t4 * -(t1 + t2 + t3 + t4) = y4 at *
 generalize -t2 * -(t1 + t2 + t3 + t4) = y2 at *
 generalize -t3 * -(t1 + t2 + t3 + t4) = y3 at *
 generalize -t1 * -(t1 + t2 + t3 + t4) = y1 at *
 by_cases hp : 0 < t1 ∧ 0 < t2 ∧ 0 < t3 ∧ 0 < t4
 · obtain ⟨p1, p2, p3, p4⟩ := hp
   have e : T = 1 := by
     rw [Int.sign_eq_one_of_pos p1, Int.sign_eq_one_of_pos p2, Int.sign_eq_one_of_pos p3, Int.sign_eq_one_of_pos p4] at tf
     simpa [fin] using tf
   rw [if_neg (m4.mpr (by omega)), if_neg (m2.mpr (by omega)), if_neg (m3.mpr (by omega)), if_neg (m1.mpr (by omega)), if_neg (by simp only [decide_eq_true_eq]; omega), if_pos (by simp only [decide_eq_true_eq]; omega), e]
   rfl
 · by_cases hq : t1 < 0 ∧ t2 < 0 ∧ t3 < 0 ∧ t4 < 0
   · obtain ⟨p1, p2, p3, p4⟩ := hq
     have e : T = -1 := by
       rw [Int.sign_eq_neg_one_of_neg p1, Int.sign_eq_neg_one_of_neg p2, Int.sign_eq_neg_one_of_neg p3, Int.sign_eq_neg_one_of_neg p4] at tf
       simpa [fin] using tf
     rw [if_neg (m4.mpr (by omega)), if_neg (m2.mpr (by omega)), if_neg (m3.mpr (by omega)), if_neg (m1.mpr (by omega)), if_pos (by simp only [decide_eq_true_eq]; omega), if_neg (by simp only [decide_eq_true_eq]; omega), e]
     rfl
   · have e : T = 0 := by
       by_cases h1 : t1 < 0 ∨ t2 < 0 ∨ t3 < 0 ∨ t4 < 0
       · by_cases h2 : 0 < t1 ∨ 0 < t2 ∨ 0 < t3 ∨ 0 < t4
         · exact to h1 h2
         · have hs : 0 < (-1 : Int) * (t1 + t2 + t3 + t4) := by omega
           exact absurd ((af (-1) hs).mpr ⟨by omega, by omega⟩) hn
       · by_cases h2 : 0 < t1 ∨ 0 < t2 ∨ 0 < t3 ∨ 0 < t4
         · have hs : 0 < (1 : Int) * (t1 + t2 + t3 + t4) := by omega
           exact absurd ((af 1 hs).mpr ⟨by omega, by omega⟩) hn
         · exact tz (by omega) (by omega) (by omega) (by omega)
     rw [e]
     have : y4 ≤ 0 ∨ y2 ≤ 0 ∨ y3 ≤ 0 ∨ y1 ≤ 0 := by omega
     split
     · rfl
     · split
       · rfl
       · split
         · rfl
         · split
           · rfl
           · omega
theorem zjk (p a b c : Pt) : inTriL p 1 a b c ↔ onT (wb p a) (wb p b) (wb p c) := by
 rw [← zjR (d := (1, 0, 0)), ← zhY (show 0 < ((0, 1) : Int × Int).2 by decide)]
 have e : atP p (1, 0, 0) (0, 1) = p := by
   unfold atP
   simp only [Int.mul_one, Int.mul_zero, Int.add_zero]
 rw [e]
end MX.P
end
section
set_option autoImplicit false
namespace MX.P
open PySem L2 MX
section
variable {σ σ1 : Sg} {S S1 S2 : So} {fo : EF} {aa : AF}
theorem zid {n : Nat} {xs ys : List (NK × Int)} {kd : D} {kk : NK} {i : Int} (h1 : fo σ S = some (.ref n, S1)) (h2 : S1[n]? = some (.dct xs)) (h3 : aa σ S1 = some ([kd, .int i], S2)) (h4 : S2[n]? = some (.dct ys)) (h5 : nkOf kd = some kk) : eDM gDGet fo aa σ S = some (.int ((getO ys kk).getD i), S2) := by
 unfold eDM
 rw [h1]; simp only [Option.bind_some]; rw [h2]; simp only; rw [h3]; simp only [Option.bind_some]
 unfold gDGet
 simp only; rw [h4]; simp only; rw [h5]; rfl
theorem zjw {n : Nat} {xs : List (NK × Int)} {ks : List D} {j : Int} {kk : NK} (h1 : S[n]? = some (.dct xs)) (h2 : xs.length < sizeLine) (h3 : nkRows ks = some kk) : gSet (.ref n) (.tup ks) (.int j) S = some (S.set n (.dct (putN xs kk j))) := by
 unfold gSet
 simp only; rw [h1]; simp only; rw [if_pos h2, h3]; rfl
theorem zh8 {n : Nat} {xs : List (NK × Int)} (h1 : fo σ S = some (.ref n, S1)) (h2 : S1[n]? = some (.dct xs)) : iItems fo σ S = some (.itm n xs.length, S1) := by
 unfold iItems; rw [h1]; simp only [Option.bind_some]; rw [h2]
theorem zlu {n : Nat} {xs : List (NK × Int)} (h : S[n]? = some (.dct xs)) : cntD (.itm n xs.length) S = some xs.length := by
 unfold cntD; simp only; rw [h]; simp only; rw [if_pos trivial]
theorem zmS {n : Nat} {xs : List (NK × Int)} (h : S[n]? = some (.dct xs)) (i : Nat) : nxD (.itm n xs.length) i S = some (xs.map fun x => D.tup [kD x.1, .int x.2])[i]? := by
 unfold nxD; simp only; rw [h]; simp only; rw [if_pos trivial, List.getElem?_map]
end
theorem _root_.MX.Gr.set {S T : So} (g : Gr S T) {m : Nat} (hm : S.length ≤ m) {o : O} (ho : O.lo T.length o = true) : Gr S (T.set m o) := by
 obtain ⟨⟨G, rfl⟩, h⟩ := g
 refine ⟨⟨G.set (m - S.length) o, by rw [List.set_append_right _ _ hm]⟩, fun p hp => ?_⟩
 rw [List.length_set]
 rcases List.mem_or_eq_of_mem_set hp with hp | rfl
 · exact h p hp
 · exact ho
def eD (e : Pt × Pt) : D := .tup [pD e.1, pD e.2]
theorem zn1 (e : Pt × Pt) : nkRows [pD e.1, pD e.2] = some (eK e) := rfl
theorem zn2 (e : Pt × Pt) : kD (eK e) = eD e := rfl
def trT (t : Tr) : D := .tup [pD t.1, pD t.2.1, pD t.2.2]
end MX.P
end
section
set_option autoImplicit false
local macro_rules | `(tactic| wtm_at "mx call") => `(tactic| first | (with_reducible assumption) | (with_reducible exact MX.P.sp_wb _ _ _) | ((with_reducible apply MX.P.sp_vdot); (focus with_reducible assumption); (focus with_reducible assumption); (focus omega)) | ((with_reducible apply MX.P.sp_vcross); (focus with_reducible assumption); (focus with_reducible assumption); (focus omega)))
namespace MX.P
open PySem L2 MX
theorem sp_sign_of (x : Int) (S : So) : zcp [.int x] S = some (.int x.sign, S) := by
 by_cases h : x = 0
 · subst h
   apply zae
   · wtm_at "mx st"
     unfold zcu
     wtm_at "mx ev"
   · wtm_at "mx take"
   · rfl
 · by_cases h2 : x > 0
   · rw [Int.sign_eq_one_of_pos h2]
     apply zae
     · wtm_at "mx st"
       unfold zcu
       wtm_at "mx ev"
     · wtm_at "mx take"
     · rfl
   · rw [Int.sign_eq_neg_one_of_neg (by omega)]
     apply zae
     · wtm_at "mx st"
       unfold zcu
       wtm_at "mx ev"
     · wtm_at "mx take"
     · rfl
theorem sp_sign_along (v : Pt) (S : So) : zbr [pD v] S = some (.int (sal v), S) := by
 obtain ⟨x, y, z⟩ := v
 have s1 := sp_sign_of x S
 have s2 := sp_sign_of y S
 have s3 := sp_sign_of z S
 unfold sal
 simp only
 by_cases hx : x = 0
 · rw [if_neg (by simpa using hx)]
   by_cases hy : y = 0
   · rw [if_neg (by simpa using hy)]
     by_cases hz : z = 0
     · subst hx hy hz
       apply zae
       · wtm_at "mx st"
         unfold zbd
         wtm_at "mx ev"
       · wtm_at "mx take"
       · rfl
     · subst hx hy
       apply zae
       · wtm_at "mx st"
         unfold zbd
         wtm_at "mx ev"
       · wtm_at "mx take"
       · rfl
   · rw [if_pos hy]
     subst hx
     apply zae
     · wtm_at "mx st"
       unfold zbd
       wtm_at "mx ev"
     · wtm_at "mx take"
     · rfl
 · rw [if_pos hx]
   apply zae
   · wtm_at "mx st"
     unfold zbd
     wtm_at "mx ev"
   · wtm_at "mx take"
   · rfl
theorem zd3 {k : Nat} {a b c : Pt} {n : Nat} {S : So} (hn : S[n]? = some (.lst [pD a, pD b, pD c])) (ha : BdP k a) (hb : BdP k b) (hc : BdP k c) (hk : k ≤ 10000) : zca [.ref n] S = some (.int (det3 a b c), S) := by
 have bc := hb.cross hc
 have h1 := sp_vcross hb hc (by omega) S
 have h2 := sp_vdot ha bc (by omega) S
 unfold det3
 apply zae
 · wtm_at "mx st"
   unfold zcf
   wtm_at "mx ev"
 · wtm_at "mx take"
 · rfl
end MX.P
end
section
set_option autoImplicit false
local macro_rules | `(tactic| wtm_at "mx call") => `(tactic| first | (with_reducible assumption))
namespace MX.P
open PySem L2 MX
theorem zc6 : 100000 ≤ sizeLine := by decide
theorem zjx {ts : List Tr} {i : Nat} {t : Tr} (h : ts[i]? = some t) : edL (ts.take (i + 1)) = edL (ts.take i) ++ edE t := by
 obtain ⟨h1, h2⟩ := List.getElem?_eq_some_iff.mp h
 have : ts.take (i + 1) = ts.take i ++ [t] := by rw [← h2]; simp
 rw [this]
 unfold edL
 rw [List.flatMap_append]
 simp
theorem zih (ts : List Tr) : (edL ts).length = 3 * ts.length := by
 induction ts with
 | nil => rfl
 | cons t r ih =>
   have : edL (t :: r) = edE t ++ edL r := rfl
   rw [this, List.length_append, ih, List.length_cons]
   show 3 + _ = _
   omega
theorem zim (L M : List NK) : cntN (L ++ M) = M.foldl bump (cntN L) := by unfold cntN; rw [List.foldl_append]
theorem zdA {x0 x1 : Option D} {m : Nat} {e : Pt × Pt} {xs : List (NK × Int)} {T : So} (h : T[m]? = some (.dct xs)) (hl : xs.length < 100000) :
   zbk [x0, some (.ref m), x1, some (eD e)] T = some (.nx, [x0, some (.ref m), x1, some (eD e)], T.set m (.dct (bump xs (eK e)))) := by
 unfold zbk zbO
 refine zac (zai (zan (zid (kd := eD e) (kk := eK e) (zaa rfl) h (zab (zaa rfl) (zab zaH zag)) h rfl) zaH zb6) (znd (zaa rfl) (zaa rfl) (zjw h (Nat.lt_of_lt_of_le hl zc6) (zn1 e)))) (zaf zaA)
theorem zg7 {n m : Nat} {x2 : Option D} {t : Tr} {xs : List (NK × Int)} {S T : So} (g : Gr S T) (hm : S.length ≤ m) (h : T[m]? = some (.dct xs)) (hl : xs.length + 3 < 100000) :
   ∃ T', zbo [some (.ref n), some (.ref m), some (trT t), x2] T = some (.nx, [some (.ref n), some (.ref m), some (trT t), some (eD (t.2.2, t.1))], T') ∧ Gr S T' ∧ T'[m]? = some (.dct (((edE t).map eK).foldl bump xs)) := by
 obtain ⟨a, b, c⟩ := t
 have ml : m < T.length := (List.getElem?_eq_some_iff.mp h).1
 have ed := zd2 (a := a) (b := b) (c := c) g.2
 have g0 : Gr S (T ++ [eL a b c]) := g.snoc rfl
 have h0 : (T ++ [eL a b c])[m]? = some (.dct xs) := zaV h
 have n0 : (T ++ [eL a b c])[T.length]? = some (eL a b c) := zau
 have l0 : (T ++ [eL a b c]).length = T.length + 1 := by simp
 generalize T ++ [eL a b c] = T0 at *
 have nx : ∀ (U : So) (o : O), U[T.length]? = some (eL a b c) → (U.set m o)[T.length]? = some (eL a b c) := fun U o q => by rw [List.getElem?_set_ne (Nat.ne_of_lt ml)]; exact q
 have at' : ∀ (U : So) (o : O), U.length = T.length + 1 → (U.set m o)[m]? = some o ∧ (U.set m o).length = T.length + 1 := fun U o q => ⟨List.getElem?_set_self (by omega), by rw [List.length_set]; exact q⟩
 have len : ∀ (ys : List (NK × Int)) (k : NK), (bump ys k).length ≤ ys.length + 1 := fun ys k => by
   have := zf8 [k] (xs := ys)
   simpa using this
 have b1 := zdA (x0 := some (.ref n)) (x1 := some (trT (a, b, c))) (e := (a, b)) h0 (by omega)
 obtain ⟨h1, l1⟩ := at' T0 (.dct (bump xs (eK (a, b)))) l0
 have n1 := nx T0 (.dct (bump xs (eK (a, b)))) n0
 have g1 := g0.set hm (o := .dct (bump xs (eK (a, b)))) rfl
 have k1 := len xs (eK (a, b))
 generalize T0.set m (.dct (bump xs (eK (a, b)))) = T1 at *
 have b2 := zdA (x0 := some (.ref n)) (x1 := some (trT (a, b, c))) (e := (b, c)) h1 (by omega)
 obtain ⟨h2, l2⟩ := at' T1 (.dct (bump (bump xs (eK (a, b))) (eK (b, c)))) l1
 have n2 := nx T1 (.dct (bump (bump xs (eK (a, b))) (eK (b, c)))) n1
 have g2 := g1.set hm (o := .dct (bump (bump xs (eK (a, b))) (eK (b, c)))) rfl
 have k2 := len (bump xs (eK (a, b))) (eK (b, c))
 generalize T1.set m (.dct (bump (bump xs (eK (a, b))) (eK (b, c)))) = T2 at *
 have b3 := zdA (x0 := some (.ref n)) (x1 := some (trT (a, b, c))) (e := (c, a)) h2 (by omega)
 obtain ⟨h3, l3⟩ := at' T2 (.dct (bump (bump (bump xs (eK (a, b))) (eK (b, c))) (eK (c, a)))) l2
 have n3 := nx T2 (.dct (bump (bump (bump xs (eK (a, b))) (eK (b, c))) (eK (c, a)))) n2
 have g3 := g2.set hm (o := .dct (bump (bump (bump xs (eK (a, b))) (eK (b, c))) (eK (c, a)))) rfl
 generalize T2.set m (.dct (bump (bump (bump xs (eK (a, b))) (eK (b, c))) (eK (c, a)))) = T3 at *
 refine ⟨T3, ?_, g3, h3⟩
 unfold zbo zck
 refine zac (zbc (j := .lst T.length) (n := 3) (S1 := T0) (za3 (zar (zab (zaa rfl) zag) (zah rfl ed)) n0) (zbM n0) ?_) (zaf zaA)
 exact zal (zaz n0 rfl) rfl b1 (zat (zal (zaz n1 rfl) rfl b2 (zat (zal (zaz n2 rfl) rfl b3 (zat (zcV (zcP n3 rfl)))))))
theorem zft {ts : List Tr} {n : Nat} {S : So} (hS : WF S) (hn : S[n]? = some (.lst (ts.map trT))) (hl : ts.length ≤ 1000) (hc : Closed (edL ts)) : zcQ [.ref n] S = some (.bl true, S) := by
 have g0 : Gr S (S ++ [.dct []]) := (Gr.refl hS).snoc rfl
 have d0 : (S ++ [O.dct []])[S.length]? = some (.dct []) := zau
 have n0 : (S ++ [O.dct []])[n]? = some (.lst (ts.map trT)) := zaV hn
 generalize hS1 : S ++ [O.dct []] = S1 at *
 obtain ⟨σ', T, e1, hP⟩ := zdU (nx := nxD (.lst n)) (g := gNm 2) (f := zbo) (xs := ts.map trT)
   (fun i σ T => (∃ x1 x2, σ = [some (.ref n), some (.ref S.length), x1, x2]) ∧ Gr S T ∧ T[S.length]? = some (.dct (cntN ((edL (ts.take i)).map eK))))
   (fun i σ T ⟨_, g, _⟩ => by unfold nxD; simp only [g.old hn])
   (fun i d σ T hd ⟨⟨x1, x2, hσ⟩, g, h⟩ => by
     subst hσ
     rw [List.getElem?_map] at hd
     obtain ⟨t, ht, rfl⟩ := Option.map_eq_some_iff.mp hd
     have hlen : (cntN ((edL (ts.take i)).map eK)).length + 3 < 100000 := by
       have := zf8 ((edL (ts.take i)).map eK) (xs := [])
       rw [List.length_map, zih, List.length_take] at this
       unfold cntN
       simp only [List.length_nil] at this
       omega
     obtain ⟨T', e, g', h'⟩ := zg7 (n := n) (x2 := x2) (t := t) g (Nat.le_refl _) h hlen
     refine ⟨_, T, .nx, _, T', rfl, e, .inl rfl, ⟨_, _, rfl⟩, g', ?_⟩
     rw [h', zjx ht, List.map_append, zim])
   (ts.map trT).length 0 [some (.ref n), some (.ref S.length), none, none] S1 ⟨⟨none, none, rfl⟩, g0, d0⟩ (by simp)
 obtain ⟨⟨x1, x2, rfl⟩, g, h⟩ := hP
 rw [List.length_map, List.take_length] at h
 have hx : ∀ x ∈ cntN ((edL ts).map eK), ∃ e : Pt × Pt, x.1 = eK e ∧ x.2 = (getO (cntN ((edL ts).map eK)) (eK (swp e))).getD 0 := fun x hx => zha hc hx
 have hlen : (cntN ((edL ts).map eK)).length ≤ 3000 := by
   have := zf8 ((edL ts).map eK) (xs := [])
   rw [List.length_map, zih] at this
   unfold cntN
   simp only [List.length_nil] at this
   omega
 generalize cntN ((edL ts).map eK) = cs at *
 have lc := zc7 (nx := nxD (.itm S.length cs.length)) (g := gTp 2 (gsCons (gNm 0) (gsCons (gNm 1) (gsNil)))) (t := tTru) (fe := eB (gCmp .Eq) (eVar 1) (eDM gDGet (eVar 2) (aCons (eN gTup (aCons (eB gIx (eVar 0) (eC (.int 1))) (aCons (eB gIx (eVar 0) (eC (.int 0))) (aNil)))) (aCons (eC (.int 0)) (aNil)))))
   (S := T) (xs := cs.map fun x => D.tup [kD x.1, .int x.2]) (fun τ => ∃ v u, τ = [v, u, some (.ref S.length)]) (fun _ => true) (fun _ => .bl true) (zmS h)
   (fun d hd τ hτ => by
     obtain ⟨v, u, rfl⟩ := hτ
     obtain ⟨x, hm, rfl⟩ := List.mem_map.mp hd
     obtain ⟨e, ek, ev⟩ := hx x hm
     refine ⟨[some (kD x.1), some (.int x.2), some (.ref S.length)], rfl, ⟨_, _, rfl⟩, rfl, fun _ => ?_⟩
     rw [ek, zn2]
     refine zan (zaa rfl) (zid (kd := eD (swp e)) (kk := eK (swp e)) (zaa rfl) h (zab (zar (zab (zan (zaa rfl) zaH (za5 rfl)) (zab (zan (zaa rfl) zaH (za5 rfl)) zag)) (zeT (Nat.le_of_ble_eq_true rfl))) (zab zaH zag)) h rfl) ?_
     rw [← ev, zfI]
     simp)
   (cs.map fun x => D.tup [kD x.1, .int x.2]).length 0 [none, none, some (.ref S.length)] [] ⟨_, _, rfl⟩ (by simp)
 have bs : boolsD (([] : List D) ++ (((cs.map fun x => D.tup [kD x.1, .int x.2]).drop 0).filter fun _ => true).map fun _ => D.bl true) = some (cs.map fun _ => true) := by
   rw [List.nil_append, List.drop_zero, List.filter_eq_self.mpr (fun _ _ => rfl), List.map_map]
   clear lc hx h hlen
   induction cs with
   | nil => rfl
   | cons x r ih =>
     have e : boolsD (D.bl true :: r.map ((fun _ => D.bl true) ∘ fun x => D.tup [kD x.1, .int x.2])) = (boolsD (r.map ((fun _ => D.bl true) ∘ fun x => D.tup [kD x.1, .int x.2]))).map fun l => true :: l := rfl
     show boolsD (D.bl true :: r.map ((fun _ => D.bl true) ∘ fun x => D.tup [kD x.1, .int x.2])) = _
     rw [e, ih]; rfl
 have all : (cs.map fun _ => true).all id = true := by simp
 refine zae (σ' := [some (.ref n), some (.ref S.length), x1, x2]) (S' := T ++ [.lst _]) ?_ ((g.snoc (o := .lst ([] ++ (((cs.map fun x => D.tup [kD x.1, .int x.2]).drop 0).filter fun _ => true).map fun _ => D.bl true)) ?_).take) rfl
 · wtm_at "mx st"
   unfold zcY zdm zdl zdk
   refine zac (zai (x := .ref S.length) (S1 := S1) (by rw [← hS1]; rfl) rfl) (zaf (zac (zbc (za3 (zaa rfl) n0) (zbM n0) e1) (zaf (zac (zaB (zar (zab (zcT (zh8 (zaa rfl) h) (zlu h) (Nat.le_trans hlen (Nat.le_trans (by decide) zc6)) rfl (by rw [List.length_map] at lc; exact lc)) zag) ?_)) zaj))))
   have := zcW (zau (S := T)) bs
   rw [all] at this
   exact this
 · exact zbI.mpr fun x hx => by
     have hx' : x ∈ ((((cs.map fun x => D.tup [kD x.1, .int x.2]).drop 0).filter fun _ => true).map fun _ => D.bl true) := hx
     obtain ⟨y, _, e⟩ := List.mem_map.mp hx'
     rw [← e]; simp [D.lo]
end MX.P
end
section
set_option autoImplicit false
local macro_rules | `(tactic| wtm_at "mx call") => `(tactic| first | (with_reducible assumption) | (with_reducible exact MX.P.sp_wb _ _ _) | ((with_reducible apply MX.P.sp_vcross); (focus with_reducible assumption); (focus with_reducible assumption); (focus omega)) | (with_reducible exact MX.P.sp_sign_of _ _) | (with_reducible exact MX.P.sp_sign_along _ _))
namespace MX.P
open PySem L2 MX
theorem zfS {k : Nat} {p a b c : Pt} (hp : BdP k p) (ha : BdP k a) (hb : BdP k b) (hc : BdP k c) (hk : k ≤ 3000) (S : So) (hS : WF S) :
   zcG [pD p, .tup [pD a, pD b, pD c]] S = some (.int (goM (wb p a) (wb p b) (wb p c)), S) := by
 have w1 := (hp.wb ha).le (show max k k + 1 ≤ k + 1 by omega)
 have w2 := (hp.wb hb).le (show max k k + 1 ≤ k + 1 by omega)
 have w3 := (hp.wb hc).le (show max k k + 1 ≤ k + 1 by omega)
 have gone : ∃ S1, eLc (iVal (eVar 1)) (gNm 0) (tTru) (eN (nArgs 2 zad) (aCons (eVar 1) (aCons (eVar 0) (aNil)))) [none, some 0] [some (pD p), some (.tup [pD a, pD b, pD c]), none, none, none] S = some (.ref S.length, S1) ∧ S1 = S ++ [.lst [pD (wb p a), pD (wb p b), pD (wb p c)]] := by
   refine ⟨_, ?_, rfl⟩
   wtm_at "mx ev"
 obtain ⟨S1, g1, g2⟩ := gone
 have hS1 : S1[S.length]? = some (.lst [pD (wb p a), pD (wb p b), pD (wb p c)]) := by rw [g2]; exact zau
 have hW1 : WF S1 := by rw [g2]; exact hS.snoc rfl
 have dt := zd3 hS1 w1 w2 w3 (by omega)
 have ed := zdF hW1 hS1
 generalize hA : wb p a = A at *
 generalize hB : wb p b = B at *
 generalize hC : wb p c = C at *
 have hn2 : (S1 ++ [eL A B C])[S1.length]? = some (eL A B C) := zau
 have sides : eLc (iVal (eN (nArgs 1 zaY) (aCons (eVar 2) (aNil)))) (gTp 2 (gsCons (gNm 0) (gsCons (gNm 1) (gsNil)))) (tTru) (eN (nArgs 1 zbr) (aCons (eN (nArgs 2 zaG) (aCons (eVar 0) (aCons (eVar 1) (aNil)))) (aNil))) [none, none]
     [some (pD p), some (.tup [pD a, pD b, pD c]), some (.ref S.length), some (.int (det3 A B C).sign), none] S1 = some (.ref (S1 ++ [eL A B C]).length, S1 ++ [eL A B C] ++ [.lst ([sal (vcross A B), sal (vcross B C), sal (vcross C A)].map D.int)]) := by
   refine zcT (j := .lst S1.length) (n := 3) (S1 := S1 ++ [eL A B C]) ?_ (zbM hn2) (Nat.le_of_ble_eq_true rfl) rfl ?_
   · exact za3 (zar (zab (zaa rfl) zag) (zah rfl ed)) hn2
   · have one : ∀ (x y : Pt), BdP (k + 1) x → BdP (k + 1) y → eN (nArgs 1 zbr) (aCons (eN (nArgs 2 zaG) (aCons (eVar 0) (aCons (eVar 1) (aNil)))) (aNil)) [some (pD x), some (pD y)] (S1 ++ [eL A B C]) = some (.int (sal (vcross x y)), S1 ++ [eL A B C]) := fun x y hx hy => by
       wtm_at "mx ev"
     refine zaF (zaz hn2 rfl) rfl zas (one _ _ w1 w2) rfl ?_
     refine zaF (zaz hn2 rfl) rfl zas (one _ _ w2 w3) rfl ?_
     refine zaF (zaz hn2 rfl) rfl zas (one _ _ w3 w1) rfl ?_
     exact zcj (zcP hn2 rfl)
 have hz3 : ∀ o1 o2 o3 : O, (S1 ++ [o1] ++ [o2] ++ [o3]).take S.length = S := fun o1 o2 o3 => by rw [g2]; simp
 unfold goM
 generalize sal (vcross A B) = s1 at *
 generalize sal (vcross B C) = s2 at *
 generalize sal (vcross C A) = s3 at *
 have ds : zcp [.int (det3 A B C)] S1 = some (.int (det3 A B C).sign, S1) := sp_sign_of _ _
 generalize (det3 A B C).sign = t at *
 generalize hT2 : S1 ++ [eL A B C] ++ [O.lst ([s1, s2, s3].map D.int)] = T2 at *
 have n2 : T2[(S1 ++ [eL A B C]).length]? = some (.lst ([s1, s2, s3].map D.int)) := by rw [← hT2]; exact zau
 have cmp : eB (gCmp .Eq) (eVar 4) (eN gLst (aCons (eVar 3) (aCons (eVar 3) (aCons (eVar 3) (aNil))))) [some (pD p), some (.tup [pD a, pD b, pD c]), some (.ref S.length), some (.int t), some (.ref (S1 ++ [eL A B C]).length)] T2
     = some (.bl (decide ([s1, s2, s3] = [t, t, t])), T2 ++ [.lst ([t, t, t].map D.int)]) := by
   refine zan (zaa rfl) (zar (zab (zaa rfl) (zab (zaa rfl) (zab (zaa rfl) zag))) (zen (Nat.le_of_ble_eq_true rfl))) ?_
   have q := zib (S := T2 ++ [O.lst ([t, t, t].map D.int)]) 1 (.inl (zaV n2)) (.inl zau) (by intro x hx; obtain ⟨i, _, rfl⟩ := List.mem_map.mp hx; rfl) (by intro x hx; obtain ⟨i, _, rfl⟩ := List.mem_map.mp hx; rfl) (by decide)
   refine Eq.trans q ?_
   congr 2
   rw [D.bl.injEq]
   by_cases h : [s1, s2, s3] = [t, t, t]
   · exact (zcc (by rw [h])).trans (zcc h).symm
   · exact (za7 (fun e => h (by simpa using e))).trans (za7 h).symm
 refine zae (σ' := [some (pD p), some (.tup [pD a, pD b, pD c]), some (.ref S.length), some (.int t), some (.ref (S1 ++ [eL A B C]).length)]) (S' := T2 ++ [.lst ([t, t, t].map D.int)]) ?_ (by rw [← hT2]; exact hz3 _ _ _) rfl
 wtm_at "mx st"
 unfold zdC zdQ zdP zdO zdN
 refine zac (zai g1 rfl) (zaf (zac (zai (zar (zab (zar (zab (zaa rfl) zag) (zah rfl dt)) zag) (zah rfl ds)) rfl) (zaf (zac (zai sides rfl) (zaf (zac (zaB (zic (zcM cmp) ?_)) zaj))))))
 by_cases h : s1 = t ∧ s2 = t ∧ s3 = t
 · rw [if_pos h]
   exact za4 (decide_eq_true (by rw [h.1, h.2.1, h.2.2])) (zaa rfl)
 · rw [if_neg h]
   exact zaO (decide_eq_false (fun e => h (by simpa using e))) zaH
theorem ziI {k : Nat} {p a b c : Pt} (hp : BdP k p) (ha : BdP k a) (hb : BdP k b) (hc : BdP k c) (h1 : 1 ≤ k) (hk : k ≤ 1500) (S : So) (hS : WF S) :
   zei [pD p, .tup [pD a, pD b, pD c]] S = some (.bl (onB p a b c), S) := by
 have bw : BdP k ((1, 0, 0) : Pt) := ⟨(Bd.lit 1).le h1, (Bd.lit 0).le (Nat.zero_le _), (Bd.lit 0).le (Nat.zero_le _)⟩
 have m := zdq hp bw ha hb hc (by decide) hk S hS
 unfold onB
 generalize triM p (1, 0, 0) a b c = v at *
 have hpl : pln 8 (tD v) = true := by cases v <;> rfl
 have hq : nInt (tD v) (R2 0 1) = true := by cases v <;> rfl
 have q := zeX (S := S) hq 8 hpl (by rfl) (by decide)
 have q' : gCmp .Eq (tD v) (R2 0 1) S = some (.bl (decide (v = some (0, 1))), S) := by
   refine Eq.trans q ?_
   congr 2
   rw [D.bl.injEq]
   by_cases h : v = some (0, 1)
   · exact (zcc (by rw [h]; rfl)).trans (zcc h).symm
   · refine (za7 (fun z => h ?_)).trans (za7 h).symm
     cases v with
     | none => cases z
     | some r =>
       obtain ⟨r1, r2⟩ := r
       have z' : R2 r1 r2 = R2 0 1 := z
       simp only [R2, D.tup.injEq, List.cons.injEq, D.int.injEq, and_true] at z'
       rw [z'.1, z'.2]
 apply zae
 · wtm_at "mx st"
   unfold zgm
   refine zac (zaB (zan (zar (zab (zar (ds := [pD p, pD (1, 0, 0)]) (S1 := S) rfl rfl) (zab (zaa rfl) zag)) (zah rfl m)) (zar (ds := [.int 0, .int 1]) (S1 := S) rfl rfl) q')) zaj
 · wtm_at "mx take"
 · rfl
end MX.P
end
section
set_option autoImplicit false
local macro_rules | `(tactic| wtm_at "mx call") => `(tactic| (with_reducible assumption))
namespace MX.P
open PySem L2 MX
theorem zjQ {φ : GN} {x : D} {n : Nat} {S : So} {ts : List Tr} (r : Tr → D) (hn : S[n]? = some (.lst (ts.map trT))) (hf : ∀ t ∈ ts, φ [x, trT t] S = some (r t, S)) (hl : ts.length ≤ 1000) (y : Option D) :
   eLc (iVal (eVar 1)) (gNm 0) tTru (eN (nArgs 2 φ) (aCons (eVar 1) (aCons (eVar 0) (aNil)))) [none, some 0] [some x, some (.ref n), y] S = some (.ref S.length, S ++ [.lst (ts.map r)]) := by
 have h := zc7 (nx := nxD (.lst n)) (g := gNm 0) (t := tTru) (fe := eN (nArgs 2 φ) (aCons (eVar 1) (aCons (eVar 0) (aNil)))) (S := S) (xs := ts.map trT) (fun τ => ∃ v, τ = [v, some x]) (fun _ => true)
   (fun d => ((φ [x, d] S).map (·.1)).getD .non) (fun i => by unfold nxD; simp only [hn])
   (fun d hd τ hτ => by
     obtain ⟨v, rfl⟩ := hτ
     obtain ⟨t, ht, rfl⟩ := List.mem_map.mp hd
     refine ⟨[some (trT t), some x], rfl, ⟨_, rfl⟩, rfl, fun _ => ?_⟩
     have q := hf t ht
     rw [q]
     exact zar (zab (zaa rfl) (zab (zaa rfl) zag)) (zah rfl q))
   ts.length 0 [none, some x] [] ⟨_, rfl⟩ (by simp)
 have e : ([] : List D) ++ (((ts.map trT).drop 0).filter fun _ => true).map (fun d => ((φ [x, d] S).map (·.1)).getD .non) = ts.map r := by
   rw [List.nil_append, List.drop_zero, List.filter_eq_self.mpr (fun _ _ => rfl), List.map_map]
   refine List.map_congr_left fun t ht => ?_
   show ((φ [x, trT t] S).map (·.1)).getD .non = r t
   rw [hf t ht]; rfl
 rw [e] at h
 refine zcT (j := .lst n) (n := ts.length) (za3 (zaa rfl) hn) ?_ (Nat.le_trans hl (Nat.le_trans (by decide) zc6)) rfl h
 have := zbM hn
 rw [List.length_map] at this
 exact this
theorem zes {α : Type} (f : α → Bool) : ∀ l : List α, boolsD (l.map fun x => D.bl (f x)) = some (l.map f)
 | [] => rfl
 | x :: r => by
   have e : boolsD (D.bl (f x) :: r.map fun x => D.bl (f x)) = (boolsD (r.map fun x => D.bl (f x))).map fun l => f x :: l := rfl
   show boolsD (D.bl (f x) :: r.map fun x => D.bl (f x)) = _
   rw [e, zes f r]; rfl
theorem zff {α : Type} (f : α → Int) : ∀ l : List α, intsD (l.map fun x => D.int (f x)) = some (l.map f)
 | [] => rfl
 | x :: r => by
   have e : intsD (D.int (f x) :: r.map fun x => D.int (f x)) = (intsD (r.map fun x => D.int (f x))).map fun l => f x :: l := rfl
   show intsD (D.int (f x) :: r.map fun x => D.int (f x)) = _
   rw [e, zff f r]; rfl
def placeM (p : Pt) (ts : List Tr) : Int := if ts.any (fun t => onB p t.1 t.2.1 t.2.2) = true then 0 else if (ts.map fun t => goM (wb p t.1) (wb p t.2.1) (wb p t.2.2)).sum = 0 then -1 else 1
theorem zfR {k : Nat} {p : Pt} {ts : List Tr} {n : Nat} {S : So} (hS : WF S) (hn : S[n]? = some (.lst (ts.map trT))) (hl : ts.length ≤ 1000) (hc : Closed (edL ts)) (hp : BdP k p) (ht : ∀ t ∈ ts, BdP k t.1 ∧ BdP k t.2.1 ∧ BdP k t.2.2) (h1 : 1 ≤ k) (hk : k ≤ 1500) :
   zdy [pD p, .ref n] S = some (.int (placeM p ts), S) := by
 have cl := zft hS hn hl hc
 have on := zjQ (φ := zei) (x := pD p) (fun t => .bl (onB p t.1 t.2.1 t.2.2)) hn (fun t m => ziI hp (ht t m).1 (ht t m).2.1 (ht t m).2.2 h1 hk S hS) hl none
 have g1 : Gr S (S ++ [.lst (ts.map fun t => D.bl (onB p t.1 t.2.1 t.2.2))]) := (Gr.refl hS).snoc (zbI.mpr fun x hx => by
   obtain ⟨t, _, rfl⟩ := List.mem_map.mp hx
   simp [D.lo])
 have m1 : (S ++ [O.lst (ts.map fun t => D.bl (onB p t.1 t.2.1 t.2.2))])[S.length]? = some (.lst (ts.map fun t => D.bl (onB p t.1 t.2.1 t.2.2))) := zau
 have n1 := g1.old hn
 generalize S ++ [O.lst (ts.map fun t => D.bl (onB p t.1 t.2.1 t.2.2))] = S1 at *
 have any : gAny [.ref S.length] S1 = some (.bl (ts.any fun t => onB p t.1 t.2.1 t.2.2), S1) := by
   unfold gAny
   simp only [m1]
   rw [zes (fun t : Tr => onB p t.1 t.2.1 t.2.2), Option.map_some, List.any_map]
   rfl
 have out := zjQ (φ := zcG) (x := pD p) (fun t => .int (goM (wb p t.1) (wb p t.2.1) (wb p t.2.2))) n1 (fun t m => zfS hp (ht t m).1 (ht t m).2.1 (ht t m).2.2 (by omega) S1 g1.2) hl none
 have g2 : Gr S (S1 ++ [.lst (ts.map fun t => D.int (goM (wb p t.1) (wb p t.2.1) (wb p t.2.2)))]) := g1.snoc (zbI.mpr fun x hx => by
   obtain ⟨t, _, rfl⟩ := List.mem_map.mp hx
   simp [D.lo])
 have m2 : (S1 ++ [O.lst (ts.map fun t => D.int (goM (wb p t.1) (wb p t.2.1) (wb p t.2.2)))])[S1.length]? = some (.lst (ts.map fun t => D.int (goM (wb p t.1) (wb p t.2.1) (wb p t.2.2)))) := zau
 generalize S1 ++ [O.lst (ts.map fun t => D.int (goM (wb p t.1) (wb p t.2.1) (wb p t.2.2)))] = S2 at *
 have sum : gSum [.ref S1.length] S2 = some (.int (ts.map fun t => goM (wb p t.1) (wb p t.2.1) (wb p t.2.2)).sum, S2) := by
   unfold gSum
   simp only [m2]
   rw [zff (fun t : Tr => goM (wb p t.1) (wb p t.2.1) (wb p t.2.2))]
   rfl
 have b1 : zcw [some (pD p), some (.ref n), none] S = some (.nx, [some (pD p), some (.ref n), none], S) := by
   unfold zcw
   exact zaW (b := false) (S1 := S) (zfj (b := true) (zek (zar (zab (zaa rfl) zag) (zah rfl cl)) rfl)) (zaO rfl zaA)
 unfold placeM
 generalize (ts.any fun t => onB p t.1 t.2.1 t.2.2) = q at *
 generalize (ts.map fun t => goM (wb p t.1) (wb p t.2.1) (wb p t.2.2)).sum = w at *
 have tv : tVal (eN gAny (aCons (eLc (iVal (eVar 1)) (gNm 0) (tTru) (eN (nArgs 2 zei) (aCons (eVar 1) (aCons (eVar 0) (aNil)))) [none, some 0]) (aNil))) [some (pD p), some (.ref n), none] S = some (q, S1) := zek (zar (zab on zag) any) rfl
 cases q with
 | true =>
   rw [if_pos rfl]
   refine zae (σ' := [some (pD p), some (.ref n), none]) (S' := S1) ?_ g1.take rfl
   wtm_at "mx st"
   unfold zcH zcv
   exact zac b1 (zaf (zac (zaW tv (za4 rfl (zac (zaB zaH) zaj))) zaj))
 | false =>
   rw [if_neg Bool.false_ne_true]
   refine zae (σ' := [some (pD p), some (.ref n), some (.int w)]) (S' := S2) ?_ g2.take rfl
   wtm_at "mx st"
   unfold zcH zcv zdM zdL
   refine zac b1 (zaf (zac (zaW tv (zaO rfl zaA)) (zaf (zac (zai (zar (zab out zag) sum) rfl) (zaf (zac (zaB (zic (zcM (zan (zaa rfl) zaH zfI)) ?_)) zaj))))))
   by_cases h : w = 0
   · rw [if_pos h]; exact za4 (zcc h) (znf zaH zeV)
   · rw [if_neg h]; exact zaO (za7 h) zaH
end MX.P
end
section
set_option autoImplicit false
local macro_rules | `(tactic| wtm_at "mx call") => `(tactic| first | (with_reducible assumption))
namespace MX.P
open PySem L2 MX
theorem sp_lway (a b : Pt) (S : So) : zba [pD a, pD b] S = some (pD (wb a b), S) := by
 apply zae
 · wtm_at "mx st"
   unfold zdD
   wtm_at "mx ev"
 · wtm_at "mx take"
 · rfl
theorem zcF {k l : Nat} {n : Nat} {gs ss : List D} {i j x y u v : Int} {S : So} (hn : S[n]? = some (.lst gs)) (e1 : atI gs i = some (.int x)) (e2 : atI gs j = some (.int y)) (e3 : atI ss i = some (.int u)) (e4 : atI ss j = some (.int v)) (bx : Bd k x) (by' : Bd k y) (bu : Bd l u) (bv : Bd l v) (hk : k + l ≤ 134217000) :
   zak [.ref n, .tup ss, .int i, .int j] S = some (.int (x * v - y * u), S) := by
 apply zae
 · wtm_at "mx st"
   unfold zbQ
   wtm_at "mx ev"
 · wtm_at "mx take"
 · rfl
theorem zf4 {k : Nat} {P a b : Pt} {q : Int} (hP : BdP k P) (ha : BdP k a) (hb : BdP k b) (hq : Bd k q) (hk : k ≤ 10000) (j : Int) (h0 : 0 ≤ j) (h2 : j ≤ 2) (x5 x6 : Option D) (S : So) :
   ∃ G, zcB [some (pD P), some (.int q), some (pD a), some (pD b), some (.int j), x5, x6] S = some ((if minZ (co j a) (co j b) * q ≤ co j P ∧ co j P ≤ maxZ (co j a) (co j b) * q then .nx else .rt (.bl false)), [some (pD P), some (.int q), some (pD a), some (pD b), some (.int j), x5, x6], S ++ G) := by
 have a1 := ziv h0 h2 P
 have a2 := ziv h0 h2 a
 have a3 := ziv h0 h2 b
 have c1 := zlt hP j
 have c2 := zlt ha j
 have c3 := zlt hb j
 generalize co j P = x at *
 generalize co j a = y at *
 generalize co j b = z at *
 have bmi : Bd k (minZ y z) := by unfold minZ; split <;> assumption
 have bma : Bd k (maxZ y z) := by unfold maxZ; split <;> assumption
 have emi : ∀ S : So, eN gMin' (aCons (eN gLst (aCons (eB gIx (eVar 2) (eVar 4)) (aCons (eB gIx (eVar 3) (eVar 4)) (aNil)))) (aNil)) [some (pD P), some (.int q), some (pD a), some (pD b), some (.int j), x5, x6] S = some (.int (minZ y z), S ++ [.lst [.int y, .int z]]) := fun S => by
   unfold minZ
   wtm_at "mx ev"
 have ema : ∀ S : So, eN gMax' (aCons (eN gLst (aCons (eB gIx (eVar 2) (eVar 4)) (aCons (eB gIx (eVar 3) (eVar 4)) (aNil)))) (aNil)) [some (pD P), some (.int q), some (pD a), some (pD b), some (.int j), x5, x6] S = some (.int (maxZ y z), S ++ [.lst [.int y, .int z]]) := fun S => by
   unfold maxZ
   wtm_at "mx ev"
 have t1 : tBl (eB (gCmp .Lt) (eB gIx (eVar 0) (eVar 4)) (eB (gBin .Mult) (eN gMin' (aCons (eN gLst (aCons (eB gIx (eVar 2) (eVar 4)) (aCons (eB gIx (eVar 3) (eVar 4)) (aNil)))) (aNil))) (eVar 1))) [some (pD P), some (.int q), some (pD a), some (pD b), some (.int j), x5, x6] S = some (decide (x < minZ y z * q), S ++ [.lst [.int y, .int z]]) :=
   zcM (zan (zan (zaa rfl) (zaa rfl) (za5 a1)) (zan (emi S) (zaa rfl) (zbb (za8 bmi hq (by omega)))) zgd)
 have t2 : tBl (eB (gCmp .Gt) (eB gIx (eVar 0) (eVar 4)) (eB (gBin .Mult) (eN gMax' (aCons (eN gLst (aCons (eB gIx (eVar 2) (eVar 4)) (aCons (eB gIx (eVar 3) (eVar 4)) (aNil)))) (aNil))) (eVar 1))) [some (pD P), some (.int q), some (pD a), some (pD b), some (.int j), x5, x6] (S ++ [.lst [.int y, .int z]]) = some (decide (x > maxZ y z * q), S ++ [.lst [.int y, .int z]] ++ [.lst [.int y, .int z]]) :=
   zcM (zan (zan (zaa rfl) (zaa rfl) (za5 a1)) (zan (ema _) (zaa rfl) (zbb (za8 bma hq (by omega)))) zge)
 unfold zcB zcO
 by_cases p1 : x < minZ y z * q
 · rw [if_neg (by omega)]
   refine ⟨[.lst [.int y, .int z]], zac (zaW (zci t1 (za4 (zcc p1) rfl)) (za4 rfl ?_)) zaj⟩
   wtm_at "mx ev"
 · by_cases p2 : x > maxZ y z * q
   · rw [if_neg (by omega)]
     refine ⟨[.lst [.int y, .int z]] ++ [.lst [.int y, .int z]], ?_⟩
     rw [← List.append_assoc]
     refine zac (zaW (zci t1 (zaO (za7 p1) t2)) (za4 (zcc p2) ?_)) zaj
     wtm_at "mx ev"
   · rw [if_pos (by omega)]
     refine ⟨[.lst [.int y, .int z]] ++ [.lst [.int y, .int z]], ?_⟩
     rw [← List.append_assoc]
     refine zac (zaW (zci t1 (zaO (za7 p1) t2)) (zaO (za7 p2) ?_)) (zaf zaA)
     wtm_at "mx ev"
end MX.P
end
section
set_option autoImplicit false
local macro_rules | `(tactic| wtm_at "mx call") => `(tactic| first | (with_reducible assumption))
namespace MX.P
open PySem L2 MX
instance (P : Pt) (q : Int) (a b : Pt) : Decidable (onS P q a b) := by unfold onS onBox; infer_instance
theorem zjS {k l : Nat} {P a : Pt} {q : Int} (hP : BdP k P) (ha : BdP l a) (hq : Bd l q) (hk : 2 * l ≤ k) : BdP (k + 1) (gapP P a q) := by
 obtain ⟨p1, p2, p3⟩ := hP
 obtain ⟨a1, a2, a3⟩ := ha
 exact ⟨(p1.sub (a1.mul hq)).le (by omega), (p2.sub (a2.mul hq)).le (by omega), (p3.sub (a3.mul hq)).le (by omega)⟩
theorem zkb {k : Nat} {P a b : Pt} {q : Int} (hP : BdP k P) (ha : BdP k a) (hb : BdP k b) (hq : Bd k q) (hk : k ≤ 3000) (S : So) :
   zcr [pD P, .int q, pD a, pD b] S = some (.bl (decide (onS P q a b)), S) := by
 have it : ∀ (S : So) (y : Option D), iRg1 (aCons (eC (.int 3)) (aNil)) [some (pD P), some (.int q), some (pD a), some (pD b), y, none, none] S = some (.fix (rangeD 0 3), S) := fun S y => rfl
 have sets : ∀ (S : So) (i : Int) (y : Option D), gNm 4 (.int i) [some (pD P), some (.int q), some (pD a), some (pD b), y, none, none] S = some ([some (pD P), some (.int q), some (pD a), some (pD b), some (.int i), none, none], S) := fun S i y => rfl
 obtain ⟨G0, q0⟩ := zf4 hP ha hb hq (by omega) 0 (by decide) (by decide) none none S
 obtain ⟨G1, q1⟩ := zf4 hP ha hb hq (by omega) 1 (by decide) (by decide) none none (S ++ G0)
 obtain ⟨G2, q2⟩ := zf4 hP ha hb hq (by omega) 2 (by decide) (by decide) none none (S ++ G0 ++ G1)
 have n0 : ∀ S : So, nxD (.fix (rangeD 0 3)) 0 S = some (some (.int 0)) := fun _ => rfl
 have n1 : ∀ S : So, nxD (.fix (rangeD 0 3)) (0 + 1) S = some (some (.int 1)) := fun _ => rfl
 have n2 : ∀ S : So, nxD (.fix (rangeD 0 3)) (0 + 1 + 1) S = some (some (.int 2)) := fun _ => rfl
 have n3 : ∀ S : So, nxD (.fix (rangeD 0 3)) (0 + 1 + 1 + 1) S = some none := fun _ => rfl
 by_cases h0 : onBox P.1 a.1 b.1 q
 · rw [if_pos (show minZ (co 0 a) (co 0 b) * q ≤ co 0 P ∧ co 0 P ≤ maxZ (co 0 a) (co 0 b) * q from h0)] at q0
   by_cases h1 : onBox P.2.1 a.2.1 b.2.1 q
   · rw [if_pos (show minZ (co 1 a) (co 1 b) * q ≤ co 1 P ∧ co 1 P ≤ maxZ (co 1 a) (co 1 b) * q from h1)] at q1
     by_cases h2 : onBox P.2.2 a.2.2 b.2.2 q
     · rw [if_pos (show minZ (co 2 a) (co 2 b) * q ≤ co 2 P ∧ co 2 P ≤ maxZ (co 2 a) (co 2 b) * q from h2)] at q2
       have hd : decide (onS P q a b) = decide (vcross (gapP P a q) (wb a b) = (0, 0, 0)) := by
         rw [Bool.eq_iff_iff, decide_eq_true_eq, decide_eq_true_eq]
         exact ⟨fun h => h.2, fun h => ⟨⟨h0, h1, h2⟩, h⟩⟩
       rw [hd]
       have hg := zjS (hP.le (show k ≤ 2 * k by omega)) ha hq (Nat.le_refl _)
       have hw := ha.wb hb
       obtain ⟨g1, g2, g3⟩ := hg
       obtain ⟨w1, w2, w3⟩ := hw
       generalize hS3 : S ++ G0 ++ G1 ++ G2 = S3 at *
       obtain ⟨p1, p2, p3⟩ := hP
       obtain ⟨a1, a2, a3⟩ := ha
       have gl : eLc (iRg1 (aCons (eC (.int 3)) (aNil))) (gNm 0) (tTru) (eB (gBin .Sub) (eB gIx (eVar 2) (eVar 0)) (eB (gBin .Mult) (eB gIx (eVar 1) (eVar 0)) (eVar 3))) [none, some 2, some 0, some 1]
           [some (pD P), some (.int q), some (pD a), some (pD b), some (.int 2), none, none] S3 = some (.ref S3.length, S3 ++ [.lst [.int (gapP P a q).1, .int (gapP P a q).2.1, .int (gapP P a q).2.2]]) := by
         unfold gapP
         wtm_at "mx ev"
       have hn : (S3 ++ [O.lst [.int (gapP P a q).1, .int (gapP P a q).2.1, .int (gapP P a q).2.2]])[S3.length]? = some (.lst [.int (gapP P a q).1, .int (gapP P a q).2.1, .int (gapP P a q).2.2]) := zau
       generalize hS4 : S3 ++ [O.lst [.int (gapP P a q).1, .int (gapP P a q).2.1, .int (gapP P a q).2.2]] = S4 at *
       have sway := sp_lway a b S4
       have f0 := zcF (i := 0) (j := 1) (ss := [.int (wb a b).1, .int (wb a b).2.1, .int (wb a b).2.2]) hn rfl rfl rfl rfl g1 g2 w1 w2 (by omega)
       have f1 := zcF (i := 1) (j := 2) (ss := [.int (wb a b).1, .int (wb a b).2.1, .int (wb a b).2.2]) hn rfl rfl rfl rfl g2 g3 w2 w3 (by omega)
       have f2 := zcF (i := 2) (j := 0) (ss := [.int (wb a b).1, .int (wb a b).2.1, .int (wb a b).2.2]) hn rfl rfl rfl rfl g3 g1 w3 w1 (by omega)
       have al : eLc (iRg1 (aCons (eC (.int 3)) (aNil))) (gNm 0) (tTru) (eB (gCmp .Eq) (eN (nArgs 4 zak) (aCons (eVar 1) (aCons (eVar 2) (aCons (eVar 0) (aCons (eB (gBin .Mod) (eB (gBin .Add) (eVar 0) (eC (.int 1))) (eC (.int 3))) (aNil)))))) (eC (.int 0))) [none, some 5, some 6]
           [some (pD P), some (.int q), some (pD a), some (pD b), some (.int 2), some (.ref S3.length), some (pD (wb a b))] S4
           = some (.ref S4.length, S4 ++ [.lst ([decide ((vcross (gapP P a q) (wb a b)).2.2 = 0), decide ((vcross (gapP P a q) (wb a b)).1 = 0), decide ((vcross (gapP P a q) (wb a b)).2.1 = 0)].map .bl)]) := by
         have one : ∀ (j i : Int) (x : Int), (∀ S : So, eB (gBin .Mod) (eB (gBin .Add) (eVar 0) (eC (.int 1))) (eC (.int 3)) [some (.int j), some (.ref S3.length), some (pD (wb a b))] S = some (.int i, S)) → zak [.ref S3.length, pD (wb a b), .int j, .int i] S4 = some (.int x, S4) →
             eB (gCmp .Eq) (eN (nArgs 4 zak) (aCons (eVar 1) (aCons (eVar 2) (aCons (eVar 0) (aCons (eB (gBin .Mod) (eB (gBin .Add) (eVar 0) (eC (.int 1))) (eC (.int 3))) (aNil)))))) (eC (.int 0)) [some (.int j), some (.ref S3.length), some (pD (wb a b))] S4 = some (.bl (decide (x = 0)), S4) := fun j i x hm hf =>
           zan (zar (zab (zaa rfl) (zab (zaa rfl) (zab (zaa rfl) (zab (hm _) zag)))) (zah rfl hf)) zaH zfI
         refine zcT (j := .fix (rangeD 0 3)) (n := 3) (S1 := S4) rfl rfl (Nat.le_of_ble_eq_true rfl) rfl ?_
         refine zaF (d := .int 0) rfl rfl zas (one 0 1 _ (fun _ => rfl) f0) rfl ?_
         refine zaF (d := .int 1) rfl rfl zas (one 1 2 _ (fun _ => rfl) f1) rfl ?_
         refine zaF (d := .int 2) rfl rfl zas (one 2 0 _ (fun _ => rfl) f2) rfl ?_
         exact zcj rfl
       have eb : decide (vcross (gapP P a q) (wb a b) = (0, 0, 0)) = [decide ((vcross (gapP P a q) (wb a b)).2.2 = 0), decide ((vcross (gapP P a q) (wb a b)).1 = 0), decide ((vcross (gapP P a q) (wb a b)).2.1 = 0)].all id := by
         generalize vcross (gapP P a q) (wb a b) = c
         rw [Bool.eq_iff_iff]
         simp only [List.all_cons, List.all_nil, id, Bool.and_true, Bool.and_eq_true, decide_eq_true_eq]
         exact ⟨fun h => by rw [h]; exact ⟨rfl, rfl, rfl⟩, fun ⟨x, y, z⟩ => zdp y z x⟩
       rw [eb]
       refine zae (σ' := [some (pD P), some (.int q), some (pD a), some (pD b), some (.int 2), some (.ref S3.length), some (pD (wb a b))]) (S' := S4 ++ [.lst ([decide ((vcross (gapP P a q) (wb a b)).2.2 = 0), decide ((vcross (gapP P a q) (wb a b)).1 = 0), decide ((vcross (gapP P a q) (wb a b)).2.1 = 0)].map .bl)]) ?_ (by rw [← hS4, ← hS3]; simp) rfl
       wtm_at "mx st"
       unfold zb7 zbP zeB zeA zez
       refine zac (zbc (it _ _) rfl (zal (n0 _) (sets _ _ _) q0 (zat (zal (n1 _) (sets _ _ _) q1 (zat (zal (n2 _) (sets _ _ _) q2 (zat (zcV (n3 _))))))))) (zaf ?_)
       refine zac (zai gl rfl) (zaf ?_)
       refine zac (zai (zar (zab (zaa rfl) (zab (zaa rfl) zag)) (zah rfl sway)) rfl) (zaf ?_)
       exact zac (zaB (zar (zab al zag) (zcW zau rfl))) zaj
     · rw [if_neg (show ¬ (minZ (co 2 a) (co 2 b) * q ≤ co 2 P ∧ co 2 P ≤ maxZ (co 2 a) (co 2 b) * q) from h2)] at q2
       rw [za7 (show ¬ onS P q a b from fun h => h2 h.1.2.2)]
       refine zae (σ' := [some (pD P), some (.int q), some (pD a), some (pD b), some (.int 2), none, none]) (S' := S ++ G0 ++ G1 ++ G2) ?_ (by simp) rfl
       wtm_at "mx st"
       unfold zb7 zbP
       exact zac (zbc (it _ _) rfl (zal (n0 _) (sets _ _ _) q0 (zat (zal (n1 _) (sets _ _ _) q1 (zat (zal (n2 _) (sets _ _ _) q2 zbJ)))))) zaj
   · rw [if_neg (show ¬ (minZ (co 1 a) (co 1 b) * q ≤ co 1 P ∧ co 1 P ≤ maxZ (co 1 a) (co 1 b) * q) from h1)] at q1
     rw [za7 (show ¬ onS P q a b from fun h => h1 h.1.2.1)]
     refine zae (σ' := [some (pD P), some (.int q), some (pD a), some (pD b), some (.int 1), none, none]) (S' := S ++ G0 ++ G1) ?_ (by simp) rfl
     wtm_at "mx st"
     unfold zb7 zbP
     exact zac (zbc (it _ _) rfl (zal (n0 _) (sets _ _ _) q0 (zat (zal (n1 _) (sets _ _ _) q1 zbJ)))) zaj
 · rw [if_neg (show ¬ (minZ (co 0 a) (co 0 b) * q ≤ co 0 P ∧ co 0 P ≤ maxZ (co 0 a) (co 0 b) * q) from h0)] at q0
   rw [za7 (show ¬ onS P q a b from fun h => h0 h.1.1)]
   refine zae (σ' := [some (pD P), some (.int q), some (pD a), some (pD b), some (.int 0), none, none]) (S' := S ++ G0) ?_ (by simp) rfl
   wtm_at "mx st"
   unfold zb7 zbP
   exact zac (zbc (it _ _) rfl (zal (n0 _) (sets _ _ _) q0 zbJ)) zaj
end MX.P
end
section
set_option autoImplicit false
local macro_rules | `(tactic| wtm_at "mx call") => `(tactic| first | (with_reducible assumption) | (with_reducible exact MX.P.sp_drawn _ _ _) | (with_reducible exact MX.P.sp_lway _ _ _) | (with_reducible exact MX.P.sp_time _ _ _))
namespace MX.P
open PySem L2 MX
instance (R L g : Pt) (q W x y : Int) : Decidable (okK R L g q W x y) := by unfold okK; infer_instance
instance (R L g : Pt) (q W x y : Int) : Decidable (signK R L g q W x y) := by unfold signK; infer_instance
instance (P : Pt) (q : Int) (a b c : Pt) : Decidable (inTriL P q a b c) := by unfold inTriL; infer_instance
theorem zcE {k l : Nat} {gs ss : List D} {i j x y u v : Int} {S : So} (e1 : atI gs i = some (.int x)) (e2 : atI gs j = some (.int y)) (e3 : atI ss i = some (.int u)) (e4 : atI ss j = some (.int v)) (bx : Bd k x) (by' : Bd k y) (bu : Bd l u) (bv : Bd l v) (hk : k + l ≤ 134217000) :
   zak [.tup gs, .tup ss, .int i, .int j] S = some (.int (x * v - y * u), S) := by
 apply zae
 · wtm_at "mx st"
   unfold zbQ
   wtm_at "mx ev"
 · wtm_at "mx take"
 · rfl
theorem ze5 {k l : Nat} {n : Nat} {gs ss : List D} {i j x y u v : Int} {S : So} (hn : S[n]? = some (.lst ss)) (e1 : atI gs i = some (.int x)) (e2 : atI gs j = some (.int y)) (e3 : atI ss i = some (.int u)) (e4 : atI ss j = some (.int v)) (bx : Bd k x) (by' : Bd k y) (bu : Bd l u) (bv : Bd l v) (hk : k + l ≤ 134217000) :
   zak [.tup gs, .ref n, .int i, .int j] S = some (.int (x * v - y * u), S) := by
 apply zae
 · wtm_at "mx st"
   unfold zbQ
   wtm_at "mx ev"
 · wtm_at "mx take"
 · rfl
def triTail : SF := (sSeq (sIf (tOrF (tBl (eB (gCmp .Lt) (eVar 12) (eC (.int 0)))) (tOrF (tBl (eB (gCmp .Lt) (eVar 13) (eC (.int 0)))) (tBl (eB (gCmp .Gt) (eB (gBin .Add) (eVar 12) (eVar 13)) (eB (gBin .Mult) (eVar 11) (eVar 1)))))) (sSeq (sRet (eC (.bl false))) (sPass)) (sPass)) (sSeq (sAsg (eLc (iRg1 (aCons (eC (.int 3)) (aNil))) (gNm 0) (tTru) (eB (gBin .Add) (eB (gBin .Mult) (eVar 2) (eB gIx (eVar 4) (eVar 0))) (eB (gBin .Mult) (eVar 3) (eB gIx (eVar 1) (eVar 0)))) [none, some 7, some 12, some 13, some 6]) (gNm 14)) (sSeq (sRet (eB (gCmp .Eq) (eVar 14) (eLc (iVal (eVar 8)) (gNm 0) (tTru) (eB (gBin .Mult) (eVar 0) (eVar 1)) [none, some 11]))) (sPass))))
theorem zjO {S : So} {n i : Nat} {xs : List D} (h : S[n]? = some (.lst xs)) (h2 : xs[i]? = none) : nxD (.lst n) i S = some none := by
 show (match S[n]? with | some (.lst xs) => some xs[i]? | some (.frz xs) => some xs[i]? | _ => none) = _
 rw [h]
 exact congrArg some h2
section
variable {k n : Nat} {R L g : Pt} {q W x y : Int} {p0 p2 p3 p4 p5 p9 p10 p14 : Option D} {S : So}
open Classical in
theorem zgo (hn : S[n]? = some (.lst [.int g.1, .int g.2.1, .int g.2.2])) (hR : BdP k R) (hL : BdP k L) (hg : BdP k g) (bq : Bd k q) (bW : Bd k W) (bx : Bd k x) (by' : Bd k y) (hk : k ≤ 60000000) :
   ∃ σ' G, triTail [p0, some (.int q), p2, p3, p4, p5, some (pD R), some (pD L), some (.ref n), p9, p10, some (.int W), some (.int x), some (.int y), p14] S = some (.rt (.bl (decide (okK R L g q W x y))), σ', S ++ G) := by
 obtain ⟨r1, r2, r3⟩ := hR
 obtain ⟨l1, l2, l3⟩ := hL
 obtain ⟨g1, g2, g3⟩ := hg
 have t1 : tBl (eB (gCmp .Lt) (eVar 12) (eC (.int 0))) [p0, some (.int q), p2, p3, p4, p5, some (pD R), some (pD L), some (.ref n), p9, p10, some (.int W), some (.int x), some (.int y), p14] S = some (decide (x < 0), S) := by wtm_at "mx ev"
 have t2 : tBl (eB (gCmp .Lt) (eVar 13) (eC (.int 0))) [p0, some (.int q), p2, p3, p4, p5, some (pD R), some (pD L), some (.ref n), p9, p10, some (.int W), some (.int x), some (.int y), p14] S = some (decide (y < 0), S) := by wtm_at "mx ev"
 have t3 : tBl (eB (gCmp .Gt) (eB (gBin .Add) (eVar 12) (eVar 13)) (eB (gBin .Mult) (eVar 11) (eVar 1))) [p0, some (.int q), p2, p3, p4, p5, some (pD R), some (pD L), some (.ref n), p9, p10, some (.int W), some (.int x), some (.int y), p14] S = some (decide (x + y > W * q), S) := by wtm_at "mx ev"
 unfold triTail
 by_cases q1 : x < 0
 · rw [za7 (show ¬ okK R L g q W x y from fun h => by have := h.1; omega)]
   exact ⟨_, [], by rw [List.append_nil]; exact zac (zaW (zci t1 (za4 (zcc q1) rfl)) (za4 rfl (zac (zaB zaH) zaj))) zaj⟩
 by_cases q2 : y < 0
 · rw [za7 (show ¬ okK R L g q W x y from fun h => by have := h.2.1; omega)]
   exact ⟨_, [], by rw [List.append_nil]; exact zac (zaW (zci t1 (zaO (za7 q1) (zci t2 (za4 (zcc q2) rfl)))) (za4 rfl (zac (zaB zaH) zaj))) zaj⟩
 by_cases q3 : x + y > W * q
 · rw [za7 (show ¬ okK R L g q W x y from fun h => by have := h.2.2.1; omega)]
   exact ⟨_, [], by rw [List.append_nil]; exact zac (zaW (zci t1 (zaO (za7 q1) (zci t2 (zaO (za7 q2) t3)))) (za4 (zcc q3) (zac (zaB zaH) zaj))) zaj⟩
 have e1 : eLc (iRg1 (aCons (eC (.int 3)) (aNil))) (gNm 0) (tTru) (eB (gBin .Add) (eB (gBin .Mult) (eVar 2) (eB gIx (eVar 4) (eVar 0))) (eB (gBin .Mult) (eVar 3) (eB gIx (eVar 1) (eVar 0)))) [none, some 7, some 12, some 13, some 6]
     [p0, some (.int q), p2, p3, p4, p5, some (pD R), some (pD L), some (.ref n), p9, p10, some (.int W), some (.int x), some (.int y), p14] S = some (.ref S.length, S ++ [.lst [.int (x * R.1 + y * L.1), .int (x * R.2.1 + y * L.2.1), .int (x * R.2.2 + y * L.2.2)]]) := by wtm_at "mx ev"
 have hn' : (S ++ [O.lst [.int (x * R.1 + y * L.1), .int (x * R.2.1 + y * L.2.1), .int (x * R.2.2 + y * L.2.2)]])[n]? = some (.lst [.int g.1, .int g.2.1, .int g.2.2]) := zaV hn
 have hm : (S ++ [O.lst [.int (x * R.1 + y * L.1), .int (x * R.2.1 + y * L.2.1), .int (x * R.2.2 + y * L.2.2)]])[S.length]? = some (.lst [.int (x * R.1 + y * L.1), .int (x * R.2.1 + y * L.2.1), .int (x * R.2.2 + y * L.2.2)]) := zau
 refine ⟨[p0, some (.int q), p2, p3, p4, p5, some (pD R), some (pD L), some (.ref n), p9, p10, some (.int W), some (.int x), some (.int y), some (.ref S.length)], [.lst [.int (x * R.1 + y * L.1), .int (x * R.2.1 + y * L.2.1), .int (x * R.2.2 + y * L.2.2)]] ++ [.lst [.int (g.1 * W), .int (g.2.1 * W), .int (g.2.2 * W)]], ?_⟩
 rw [← List.append_assoc]
 generalize hT : S ++ [O.lst [.int (x * R.1 + y * L.1), .int (x * R.2.1 + y * L.2.1), .int (x * R.2.2 + y * L.2.2)]] = T at *
 have e2 : eLc (iVal (eVar 8)) (gNm 0) (tTru) (eB (gBin .Mult) (eVar 0) (eVar 1)) [none, some 11]
     [p0, some (.int q), p2, p3, p4, p5, some (pD R), some (pD L), some (.ref n), p9, p10, some (.int W), some (.int x), some (.int y), some (.ref S.length)] T = some (.ref T.length, T ++ [.lst [.int (g.1 * W), .int (g.2.1 * W), .int (g.2.2 * W)]]) := by
   refine zcT (σ1 := [none, some (.int W)]) (j := .lst n) (n := 3) (S1 := T) (S2 := T) (za3 (zaa rfl) hn') ?_ (Nat.le_of_ble_eq_true rfl) rfl ?_
   · show (match T[n]? with | some (.lst xs) => some xs.length | some (.frz xs) => some xs.length | _ => none) = _
     rw [hn']; rfl
   · refine zaF (d := .int g.1) (zaz hn' rfl) rfl zas (zan (zaa rfl) (zaa rfl) (zbb (za8 g1 bW (by omega)))) rfl ?_
     refine zaF (d := .int g.2.1) (zaz hn' rfl) rfl zas (zan (zaa rfl) (zaa rfl) (zbb (za8 g2 bW (by omega)))) rfl ?_
     refine zaF (d := .int g.2.2) (zaz hn' rfl) rfl zas (zan (zaa rfl) (zaa rfl) (zbb (za8 g3 bW (by omega)))) rfl ?_
     exact zcj (zjO hn' rfl)
 have hb : decide (okK R L g q W x y) = decide ([D.int (x * R.1 + y * L.1), .int (x * R.2.1 + y * L.2.1), .int (x * R.2.2 + y * L.2.2)] = [D.int (g.1 * W), .int (g.2.1 * W), .int (g.2.2 * W)]) := by
   rw [Bool.eq_iff_iff, decide_eq_true_eq, decide_eq_true_eq]
   unfold okK
   simp only [List.cons.injEq, D.int.injEq, and_true]
   constructor
   · rintro ⟨_, _, _, a, b, c⟩; exact ⟨a, b, c⟩
   · rintro ⟨a, b, c⟩; exact ⟨by omega, by omega, by omega, a, b, c⟩
 rw [hb]
 refine zac (zaW (zci t1 (zaO (za7 q1) (zci t2 (zaO (za7 q2) t3)))) (zaO (za7 q3) zaA)) (zaf (zac (zai e1 rfl) (zaf (zac (zaB (zan (zaa rfl) e2 ?_)) zaj))))
 refine zib 1 (.inl (zaV hm)) (.inl zau) ?_ ?_ (by decide)
 · intro z hz
   simp only [List.mem_cons, List.mem_nil_iff, or_false] at hz
   rcases hz with e | e | e <;> subst e <;> rfl
 · intro z hz
   simp only [List.mem_cons, List.mem_nil_iff, or_false] at hz
   rcases hz with e | e | e <;> subst e <;> rfl
theorem zdX {i j : Int} {p11 p12 p13 : Option D} (hf : zak [pD R, pD L, .int i, .int j] S = some (.int 0, S)) :
   zaD [p0, some (.int q), p2, p3, p4, p5, some (pD R), some (pD L), some (.ref n), some (.int i), some (.int j), p11, p12, p13, p14] S
     = some (.nx, [p0, some (.int q), p2, p3, p4, p5, some (pD R), some (pD L), some (.ref n), some (.int i), some (.int j), some (.int 0), p12, p13, p14], S) := by
 unfold zaD zaT zaS
 refine zac (zai (zar (zab (zaa rfl) (zab (zaa rfl) (zab (zaa rfl) (zab (zaa rfl) zag)))) (zah rfl hf)) rfl) (zaf ?_)
 exact zac (zaW (b := false) (S1 := S) rfl (zaO rfl zaA)) (zaf zaA)
theorem zdW {i j : Int} {p11 p12 p13 : Option D} (hf : zak [pD R, pD L, .int i, .int j] S = some (.int W, S)) (hx : zak [.ref n, pD L, .int i, .int j] S = some (.int x, S)) (hy : zak [pD R, .ref n, .int i, .int j] S = some (.int y, S)) (h0 : W ≠ 0)
   (hn : S[n]? = some (.lst [.int g.1, .int g.2.1, .int g.2.2])) (hR : BdP k R) (hL : BdP k L) (hg : BdP k g) (bq : Bd k q) (bW : Bd k W) (bx : Bd k x) (by' : Bd k y) (hk : k ≤ 60000000) :
   ∃ σ' G, zaD [p0, some (.int q), p2, p3, p4, p5, some (pD R), some (pD L), some (.ref n), some (.int i), some (.int j), p11, p12, p13, p14] S
     = some (.rt (.bl (decide (signK R L g q W x y))), σ', S ++ G) := by
 have tne : ∀ p12 p13, tBl (eB (gCmp .NotEq) (eVar 11) (eC (.int 0))) [p0, some (.int q), p2, p3, p4, p5, some (pD R), some (pD L), some (.ref n), some (.int i), some (.int j), some (.int W), p12, p13, p14] S = some (true, S) := fun p12 p13 => by
   have : tBl (eB (gCmp .NotEq) (eVar 11) (eC (.int 0))) [p0, some (.int q), p2, p3, p4, p5, some (pD R), some (pD L), some (.ref n), some (.int i), some (.int j), some (.int W), p12, p13, p14] S = some (!decide (W = 0), S) := by wtm_at "mx ev"
   rw [this, za7 h0]; rfl
 have tlt : tBl (eB (gCmp .Lt) (eVar 11) (eC (.int 0))) [p0, some (.int q), p2, p3, p4, p5, some (pD R), some (pD L), some (.ref n), some (.int i), some (.int j), some (.int W), some (.int x), some (.int y), p14] S = some (decide (W < 0), S) := by wtm_at "mx ev"
 unfold zaD zaT zaS signK
 by_cases hw : W < 0
 · rw [show decide (if W < 0 then okK R L g q (0 - W) (0 - x) (0 - y) else okK R L g q W x y) = decide (okK R L g q (0 - W) (0 - x) (0 - y)) from by congr 1; rw [if_pos hw]]
   obtain ⟨σ', G, e⟩ := zgo (p0 := p0) (p2 := p2) (p3 := p3) (p4 := p4) (p5 := p5) (p9 := some (.int i)) (p10 := some (.int j)) (p14 := p14) (q := q) (W := 0 - W) (x := 0 - x) (y := 0 - y) hn hR hL hg bq (by rw [Int.zero_sub]; exact bW.neg) (by rw [Int.zero_sub]; exact bx.neg) (by rw [Int.zero_sub]; exact by'.neg) hk
   refine ⟨σ', G, ?_⟩
   refine zac (zai (zar (zab (zaa rfl) (zab (zaa rfl) (zab (zaa rfl) (zab (zaa rfl) zag)))) (zah rfl hf)) rfl) (zaf ?_)
   refine zac (zaW (tne _ _) (za4 rfl ?_)) zaj
   refine zac (zai (zar (zab (zaa rfl) (zab (zaa rfl) (zab (zaa rfl) (zab (zaa rfl) zag)))) (zah rfl hx)) rfl) (zaf ?_)
   refine zac (zai (zar (zab (zaa rfl) (zab (zaa rfl) (zab (zaa rfl) (zab (zaa rfl) zag)))) (zah rfl hy)) rfl) (zaf ?_)
   refine zac (zaW tlt (za4 (zcc hw) (zac (zai (zar (ds := [.int (0 - x), .int (0 - y), .int (0 - W)]) (S1 := S) rfl rfl) rfl) (zaf zaA)))) (zaf ?_)
   exact e
 · rw [show decide (if W < 0 then okK R L g q (0 - W) (0 - x) (0 - y) else okK R L g q W x y) = decide (okK R L g q W x y) from by congr 1; rw [if_neg hw]]
   obtain ⟨σ', G, e⟩ := zgo (p0 := p0) (p2 := p2) (p3 := p3) (p4 := p4) (p5 := p5) (p9 := some (.int i)) (p10 := some (.int j)) (p14 := p14) (q := q) (W := W) (x := x) (y := y) hn hR hL hg bq bW bx by' hk
   refine ⟨σ', G, ?_⟩
   refine zac (zai (zar (zab (zaa rfl) (zab (zaa rfl) (zab (zaa rfl) (zab (zaa rfl) zag)))) (zah rfl hf)) rfl) (zaf ?_)
   refine zac (zaW (tne _ _) (za4 rfl ?_)) zaj
   refine zac (zai (zar (zab (zaa rfl) (zab (zaa rfl) (zab (zaa rfl) (zab (zaa rfl) zag)))) (zah rfl hx)) rfl) (zaf ?_)
   refine zac (zai (zar (zab (zaa rfl) (zab (zaa rfl) (zab (zaa rfl) (zab (zaa rfl) zag)))) (zah rfl hy)) rfl) (zaf ?_)
   refine zac (zaW tlt (zaO (za7 hw) zaA)) (zaf ?_)
   exact e
end
theorem zeE {k : Nat} {P a b c : Pt} {q : Int} (hP : BdP k P) (ha : BdP k a) (hb : BdP k b) (hc : BdP k c) (hq : Bd k q) (hk : k ≤ 3000) (S : So) :
   zaE [pD P, .int q, .tup [pD a, pD b, pD c]] S = some (.bl (decide (inTriL P q a b c)), S) := by
 have bR := (ha.wb hb).le (show max k k + 1 ≤ 4 * k + 4 by omega)
 have bL := (ha.wb hc).le (show max k k + 1 ≤ 4 * k + 4 by omega)
 have bR' := (ha.wb hb).le (show max k k + 1 ≤ k + 1 by omega)
 have bL' := (ha.wb hc).le (show max k k + 1 ≤ k + 1 by omega)
 have bg' := zjS (hP.le (show k ≤ 2 * k by omega)) ha hq (Nat.le_refl _)
 have bg := bg'.le (show 2 * k + 1 ≤ 4 * k + 4 by omega)
 have bq := hq.le (show k ≤ 4 * k + 4 by omega)
 have gl : eLc (iRg1 (aCons (eC (.int 3)) (aNil))) (gNm 0) (tTru) (eB (gBin .Sub) (eB gIx (eVar 2) (eVar 0)) (eB (gBin .Mult) (eB gIx (eVar 1) (eVar 0)) (eVar 3))) [none, some 3, some 0, some 1]
     [some (pD P), some (.int q), some (.tup [pD a, pD b, pD c]), some (pD a), some (pD b), some (pD c), some (pD (wb a b)), some (pD (wb a c)), none, none, none, none, none, none, none] S = some (.ref S.length, S ++ [.lst [.int (gapP P a q).1, .int (gapP P a q).2.1, .int (gapP P a q).2.2]]) := by
   obtain ⟨p1, p2, p3⟩ := hP
   obtain ⟨a1, a2, a3⟩ := ha
   unfold gapP
   wtm_at "mx ev"
 have hn0 : (S ++ [O.lst [.int (gapP P a q).1, .int (gapP P a q).2.1, .int (gapP P a q).2.2]])[S.length]? = some (.lst [.int (gapP P a q).1, .int (gapP P a q).2.1, .int (gapP P a q).2.2]) := zau
 have hpre : S ++ [O.lst [.int (gapP P a q).1, .int (gapP P a q).2.1, .int (gapP P a q).2.2]] = S ++ ([O.lst [.int (gapP P a q).1, .int (gapP P a q).2.1, .int (gapP P a q).2.2]]) := rfl
 have hn : (S ++ [O.lst [.int (gapP P a q).1, .int (gapP P a q).2.1, .int (gapP P a q).2.2]] ++ [O.lst [R2 0 1, R2 1 2, R2 2 0]])[S.length]? = some (.lst [.int (gapP P a q).1, .int (gapP P a q).2.1, .int (gapP P a q).2.2]) := zaV hn0
 have hm : (S ++ [O.lst [.int (gapP P a q).1, .int (gapP P a q).2.1, .int (gapP P a q).2.2]] ++ [O.lst [R2 0 1, R2 1 2, R2 2 0]])[(S ++ [O.lst [.int (gapP P a q).1, .int (gapP P a q).2.1, .int (gapP P a q).2.2]]).length]? = some (.lst [R2 0 1, R2 1 2, R2 2 0]) := zau
 have it : ∀ (σ : Sg) (T : So), iVal (eN gLst (aCons (eN gTup (aCons (eC (.int 0)) (aCons (eC (.int 1)) (aNil)))) (aCons (eN gTup (aCons (eC (.int 1)) (aCons (eC (.int 2)) (aNil)))) (aCons (eN gTup (aCons (eC (.int 2)) (aCons (eC (.int 0)) (aNil)))) (aNil))))) σ T = some (.lst T.length, T ++ [O.lst [R2 0 1, R2 1 2, R2 2 0]]) := fun σ T => za3 (xs := [R2 0 1, R2 1 2, R2 2 0]) rfl zau
 have tk : ∀ G : So, (S ++ [O.lst [.int (gapP P a q).1, .int (gapP P a q).2.1, .int (gapP P a q).2.2]] ++ [O.lst [R2 0 1, R2 1 2, R2 2 0]] ++ G).take S.length = S := fun G => by rw [List.append_assoc, List.append_assoc]; simp
 have tk0 : (S ++ [O.lst [.int (gapP P a q).1, .int (gapP P a q).2.1, .int (gapP P a q).2.2]] ++ [O.lst [R2 0 1, R2 1 2, R2 2 0]]).take S.length = S := by rw [List.append_assoc]; simp
 generalize hT : S ++ [O.lst [.int (gapP P a q).1, .int (gapP P a q).2.1, .int (gapP P a q).2.2]] = T at *
 generalize hU : T ++ [O.lst [R2 0 1, R2 1 2, R2 2 0]] = U at *
 have it' : ∀ σ : Sg, iVal (eN gLst (aCons (eN gTup (aCons (eC (.int 0)) (aCons (eC (.int 1)) (aNil)))) (aCons (eN gTup (aCons (eC (.int 1)) (aCons (eC (.int 2)) (aNil)))) (aCons (eN gTup (aCons (eC (.int 2)) (aCons (eC (.int 0)) (aNil)))) (aNil))))) σ T = some (.lst T.length, U) := fun σ => by rw [← hU]; exact it σ T
 obtain ⟨r1, r2, r3⟩ := id bR'
 obtain ⟨l1, l2, l3⟩ := id bL'
 obtain ⟨g1, g2, g3⟩ := id bg'
 have cnt : cntD (.lst T.length) U = some 3 := by
   show (match U[T.length]? with | some (.lst xs) => some xs.length | some (.frz xs) => some xs.length | _ => none) = _
   rw [hm]; rfl
 have w01 := zcE (S := U) (i := 0) (j := 1) (gs := [.int (wb a b).1, .int (wb a b).2.1, .int (wb a b).2.2]) (ss := [.int (wb a c).1, .int (wb a c).2.1, .int (wb a c).2.2]) rfl rfl rfl rfl r1 r2 l1 l2 (by omega)
 have x01 := zcF (i := 0) (j := 1) (ss := [.int (wb a c).1, .int (wb a c).2.1, .int (wb a c).2.2]) hn rfl rfl rfl rfl g1 g2 l1 l2 (by omega)
 have y01 := ze5 (i := 0) (j := 1) (gs := [.int (wb a b).1, .int (wb a b).2.1, .int (wb a b).2.2]) hn rfl rfl rfl rfl r1 r2 g1 g2 (by omega)
 have w12 := zcE (S := U) (i := 1) (j := 2) (gs := [.int (wb a b).1, .int (wb a b).2.1, .int (wb a b).2.2]) (ss := [.int (wb a c).1, .int (wb a c).2.1, .int (wb a c).2.2]) rfl rfl rfl rfl r2 r3 l2 l3 (by omega)
 have x12 := zcF (i := 1) (j := 2) (ss := [.int (wb a c).1, .int (wb a c).2.1, .int (wb a c).2.2]) hn rfl rfl rfl rfl g2 g3 l2 l3 (by omega)
 have y12 := ze5 (i := 1) (j := 2) (gs := [.int (wb a b).1, .int (wb a b).2.1, .int (wb a b).2.2]) hn rfl rfl rfl rfl r2 r3 g2 g3 (by omega)
 have w20 := zcE (S := U) (i := 2) (j := 0) (gs := [.int (wb a b).1, .int (wb a b).2.1, .int (wb a b).2.2]) (ss := [.int (wb a c).1, .int (wb a c).2.1, .int (wb a c).2.2]) rfl rfl rfl rfl r3 r1 l3 l1 (by omega)
 have x20 := zcF (i := 2) (j := 0) (ss := [.int (wb a c).1, .int (wb a c).2.1, .int (wb a c).2.2]) hn rfl rfl rfl rfl g3 g1 l3 l1 (by omega)
 have y20 := ze5 (i := 2) (j := 0) (gs := [.int (wb a b).1, .int (wb a b).2.1, .int (wb a b).2.2]) hn rfl rfl rfl rfl r3 r1 g3 g1 (by omega)
 have bd : ∀ {k' l' : Nat} {x y u v : Int}, Bd k' x → Bd k' y → Bd l' u → Bd l' v → k' ≤ 2 * k + 1 → l' ≤ 2 * k + 1 → k' + l' ≤ 3 * k + 2 → Bd (4 * k + 4) (x * v - y * u) := fun hx hy hu hv h1 h2 h3 => ((hx.mul hv).sub (hy.mul hu)).le (by omega)
 have go : ∀ r σ' S', S'.take S.length = S →
     sSeq zbz (sSeq zby sPass) [some (pD P), some (.int q), some (.tup [pD a, pD b, pD c]), some (pD a), some (pD b), some (pD c), some (pD (wb a b)), some (pD (wb a c)), some (.ref S.length), none, none, none, none, none, none] T = some (.rt (.bl r), σ', S') →
     zaE [pD P, .int q, .tup [pD a, pD b, pD c]] S = some (.bl r, S) := fun r σ' S' ht e => by
   refine zae (σ' := σ') (S' := S') ?_ ht rfl
   wtm_at "mx st"
   unfold zbi zbD zbC zbB zbA
   refine zac (zai (zaa rfl) rfl) (zaf ?_)
   refine zac (zai (zar (zab (zaa rfl) (zab (zaa rfl) zag)) (zah rfl (sp_lway a b _))) rfl) (zaf ?_)
   refine zac (zai (zar (zab (zaa rfl) (zab (zaa rfl) zag)) (zah rfl (sp_lway a c _))) rfl) (zaf ?_)
   exact zac (zai gl rfl) (zaf e)
 unfold inTriL
 by_cases h0 : (vcross (wb a b) (wb a c)).2.2 = 0
 · rw [show ((wb a b).1 * (wb a c).2.1 - (wb a b).2.1 * (wb a c).1) = 0 from h0] at w01
   have q0 := zdX (p0 := some (pD P)) (p2 := some (.tup [pD a, pD b, pD c])) (p3 := some (pD a)) (p4 := some (pD b)) (p5 := some (pD c)) (p11 := none) (p12 := none) (p13 := none) (p14 := none) (n := S.length) (q := q) w01
   by_cases h1 : (vcross (wb a b) (wb a c)).1 = 0
   · rw [show ((wb a b).2.1 * (wb a c).2.2 - (wb a b).2.2 * (wb a c).2.1) = 0 from h1] at w12
     have q1 := zdX (p0 := some (pD P)) (p2 := some (.tup [pD a, pD b, pD c])) (p3 := some (pD a)) (p4 := some (pD b)) (p5 := some (pD c)) (p11 := some (.int 0)) (p12 := none) (p13 := none) (p14 := none) (n := S.length) (q := q) w12
     by_cases h2 : (vcross (wb a b) (wb a c)).2.1 = 0
     · rw [show ((wb a b).2.2 * (wb a c).1 - (wb a b).1 * (wb a c).2.2) = 0 from h2] at w20
       have q2 := zdX (p0 := some (pD P)) (p2 := some (.tup [pD a, pD b, pD c])) (p3 := some (pD a)) (p4 := some (pD b)) (p5 := some (pD c)) (p11 := some (.int 0)) (p12 := none) (p13 := none) (p14 := none) (n := S.length) (q := q) w20
       have o1 := zkb hP ha hb hq (by omega) U
       have o2 := zkb hP hb hc hq (by omega) U
       have o3 := zkb hP hc ha hq (by omega) U
       rw [show decide (if (vcross (wb a b) (wb a c)).2.2 ≠ 0 then signK (wb a b) (wb a c) (gapP P a q) q (vcross (wb a b) (wb a c)).2.2 (vcross (gapP P a q) (wb a c)).2.2 (vcross (wb a b) (gapP P a q)).2.2
         else if (vcross (wb a b) (wb a c)).1 ≠ 0 then signK (wb a b) (wb a c) (gapP P a q) q (vcross (wb a b) (wb a c)).1 (vcross (gapP P a q) (wb a c)).1 (vcross (wb a b) (gapP P a q)).1
         else if (vcross (wb a b) (wb a c)).2.1 ≠ 0 then signK (wb a b) (wb a c) (gapP P a q) q (vcross (wb a b) (wb a c)).2.1 (vcross (gapP P a q) (wb a c)).2.1 (vcross (wb a b) (gapP P a q)).2.1
         else onS P q a b ∨ onS P q b c ∨ onS P q c a) = (decide (onS P q a b) || (decide (onS P q b c) || decide (onS P q c a))) from by
           rw [Bool.eq_iff_iff]; simp [h0, h1, h2]]
       refine go _ _ U tk0 (zac (zbc (it' _) cnt (zal (zaz hm rfl) rfl q0 (zat (zal (zaz hm rfl) rfl q1 (zat (zal (zaz hm rfl) rfl q2 (zat (zcV (zjO hm rfl))))))))) (zaf (zac (zaB (zfJ (zar (zab (zaa rfl) (zab (zaa rfl) (zab (zaa rfl) (zab (zaa rfl) zag)))) (zah rfl o1)) ?_)) zaj)))
       by_cases c1 : onS P q a b
       · rw [zcc c1]; exact za4 rfl rfl
       · rw [za7 c1, Bool.false_or]
         refine zaO rfl (zfJ (zar (zab (zaa rfl) (zab (zaa rfl) (zab (zaa rfl) (zab (zaa rfl) zag)))) (zah rfl o2)) ?_)
         by_cases c2 : onS P q b c
         · rw [zcc c2]; exact za4 rfl rfl
         · rw [za7 c2, Bool.false_or]
           exact zaO rfl (zar (zab (zaa rfl) (zab (zaa rfl) (zab (zaa rfl) (zab (zaa rfl) zag)))) (zah rfl o3))
     · obtain ⟨σ', G, q2⟩ := zdW (p0 := some (pD P)) (p2 := some (.tup [pD a, pD b, pD c])) (p3 := some (pD a)) (p4 := some (pD b)) (p5 := some (pD c)) (p11 := some (.int 0)) (p12 := none) (p13 := none) (p14 := none) (q := q) w20 x20 y20 h2 hn bR bL bg bq (bd r3 r1 l3 l1 (by omega) (by omega) (by omega)) (bd g3 g1 l3 l1 (by omega) (by omega) (by omega)) (bd r3 r1 g3 g1 (by omega) (by omega) (by omega)) (by omega)
       rw [show decide (if (vcross (wb a b) (wb a c)).2.2 ≠ 0 then signK (wb a b) (wb a c) (gapP P a q) q (vcross (wb a b) (wb a c)).2.2 (vcross (gapP P a q) (wb a c)).2.2 (vcross (wb a b) (gapP P a q)).2.2
         else if (vcross (wb a b) (wb a c)).1 ≠ 0 then signK (wb a b) (wb a c) (gapP P a q) q (vcross (wb a b) (wb a c)).1 (vcross (gapP P a q) (wb a c)).1 (vcross (wb a b) (gapP P a q)).1
         else if (vcross (wb a b) (wb a c)).2.1 ≠ 0 then signK (wb a b) (wb a c) (gapP P a q) q (vcross (wb a b) (wb a c)).2.1 (vcross (gapP P a q) (wb a c)).2.1 (vcross (wb a b) (gapP P a q)).2.1
         else onS P q a b ∨ onS P q b c ∨ onS P q c a) = decide (signK (wb a b) (wb a c) (gapP P a q) q (vcross (wb a b) (wb a c)).2.1 (vcross (gapP P a q) (wb a c)).2.1 (vcross (wb a b) (gapP P a q)).2.1) from by
           rw [Bool.eq_iff_iff]; simp [h0, h1, h2]]
       exact go _ _ (U ++ G) (tk G) (zac (zbc (it' _) cnt (zal (zaz hm rfl) rfl q0 (zat (zal (zaz hm rfl) rfl q1 (zat (zal (zaz hm rfl) rfl q2 zbJ)))))) zaj)
   · obtain ⟨σ', G, q1⟩ := zdW (p0 := some (pD P)) (p2 := some (.tup [pD a, pD b, pD c])) (p3 := some (pD a)) (p4 := some (pD b)) (p5 := some (pD c)) (p11 := some (.int 0)) (p12 := none) (p13 := none) (p14 := none) (q := q) w12 x12 y12 h1 hn bR bL bg bq (bd r2 r3 l2 l3 (by omega) (by omega) (by omega)) (bd g2 g3 l2 l3 (by omega) (by omega) (by omega)) (bd r2 r3 g2 g3 (by omega) (by omega) (by omega)) (by omega)
     rw [show decide (if (vcross (wb a b) (wb a c)).2.2 ≠ 0 then signK (wb a b) (wb a c) (gapP P a q) q (vcross (wb a b) (wb a c)).2.2 (vcross (gapP P a q) (wb a c)).2.2 (vcross (wb a b) (gapP P a q)).2.2
       else if (vcross (wb a b) (wb a c)).1 ≠ 0 then signK (wb a b) (wb a c) (gapP P a q) q (vcross (wb a b) (wb a c)).1 (vcross (gapP P a q) (wb a c)).1 (vcross (wb a b) (gapP P a q)).1
       else if (vcross (wb a b) (wb a c)).2.1 ≠ 0 then signK (wb a b) (wb a c) (gapP P a q) q (vcross (wb a b) (wb a c)).2.1 (vcross (gapP P a q) (wb a c)).2.1 (vcross (wb a b) (gapP P a q)).2.1
       else onS P q a b ∨ onS P q b c ∨ onS P q c a) = decide (signK (wb a b) (wb a c) (gapP P a q) q (vcross (wb a b) (wb a c)).1 (vcross (gapP P a q) (wb a c)).1 (vcross (wb a b) (gapP P a q)).1) from by
         rw [Bool.eq_iff_iff]; simp [h0, h1]]
     exact go _ _ (U ++ G) (tk G) (zac (zbc (it' _) cnt (zal (zaz hm rfl) rfl q0 (zat (zal (zaz hm rfl) rfl q1 zbJ)))) zaj)
 · obtain ⟨σ', G, q0⟩ := zdW (p0 := some (pD P)) (p2 := some (.tup [pD a, pD b, pD c])) (p3 := some (pD a)) (p4 := some (pD b)) (p5 := some (pD c)) (p11 := none) (p12 := none) (p13 := none) (p14 := none) (q := q) w01 x01 y01 h0 hn bR bL bg bq (bd r1 r2 l1 l2 (by omega) (by omega) (by omega)) (bd g1 g2 l1 l2 (by omega) (by omega) (by omega)) (bd r1 r2 g1 g2 (by omega) (by omega) (by omega)) (by omega)
   rw [show decide (if (vcross (wb a b) (wb a c)).2.2 ≠ 0 then signK (wb a b) (wb a c) (gapP P a q) q (vcross (wb a b) (wb a c)).2.2 (vcross (gapP P a q) (wb a c)).2.2 (vcross (wb a b) (gapP P a q)).2.2
     else if (vcross (wb a b) (wb a c)).1 ≠ 0 then signK (wb a b) (wb a c) (gapP P a q) q (vcross (wb a b) (wb a c)).1 (vcross (gapP P a q) (wb a c)).1 (vcross (wb a b) (gapP P a q)).1
     else if (vcross (wb a b) (wb a c)).2.1 ≠ 0 then signK (wb a b) (wb a c) (gapP P a q) q (vcross (wb a b) (wb a c)).2.1 (vcross (gapP P a q) (wb a c)).2.1 (vcross (wb a b) (gapP P a q)).2.1
     else onS P q a b ∨ onS P q b c ∨ onS P q c a) = decide (signK (wb a b) (wb a c) (gapP P a q) q (vcross (wb a b) (wb a c)).2.2 (vcross (gapP P a q) (wb a c)).2.2 (vcross (wb a b) (gapP P a q)).2.2) from by
       rw [Bool.eq_iff_iff]; simp [h0]]
   exact go _ _ (U ++ G) (tk G) (zac (zbc (it' _) cnt (zal (zaz hm rfl) rfl q0 zbJ)) zaj)
end MX.P
end
section
set_option autoImplicit false
namespace MX.P
open PySem L2 MX
theorem ev_pow {i j z : Int} {S : So} (h : 0 ≤ j ∧ j ≤ 1000000 ∧ i.natAbs < 2 ^ 64) (e : i ^ j.toNat = z) : gBin .Pow (.int i) (.int j) S = some (.int z, S) := by
 show gPow (.int i) (.int j) S = _
 unfold gPow
 simp only
 rw [if_pos h, e]
theorem ev_int {b : Bool} {S : So} : gInt [.bl b] S = some (.int (if b then 1 else 0), S) := rfl
theorem zgf {n m : Nat} {fr : GFs} {r : Option (Sg × So)} {xs : List D} {σ : Sg} {S : So} (h0 : S[m]? = some (.lst xs)) (h1 : xs.length = n) (h2 : fr xs σ S = r) : gTp n fr (.ref m) σ S = r := by
 unfold gTp; simp only; rw [h0]; simp only; rw [if_pos h1]; exact h2
theorem addLL {fa fb : EF} {σ : Sg} {S S1 S2 : So} {n m : Nat} {xs ys : List D} (h1 : fa σ S = some (.ref n, S1)) (h2 : fb σ S1 = some (.ref m, S2)) (hn : S2[n]? = some (.lst xs)) (hm : S2[m]? = some (.lst ys)) (hl : xs.length + ys.length ≤ 1000) :
   eB (gBin .Add) fa fb σ S = some (.ref S2.length, S2 ++ [.lst (xs ++ ys)]) := zan h1 h2 (zlo hn hm (Nat.le_trans hl (Nat.le_trans (by decide) zc6)))
end MX.P
local macro_rules | `(tactic| wtm_at "mx op") => `(tactic| first
 | (with_reducible exact zb6) | ((with_reducible apply MX.P.ev_pow); (focus decide); (focus first | (simp only [Int.reduceToNat, Int.reducePow]; rfl) | rfl)) | (with_reducible exact zeU) | (with_reducible exact zgd) | (with_reducible exact zg6) | (with_reducible exact zge) | (with_reducible exact zia) | (with_reducible exact zfI) | (with_reducible exact zgb) | (with_reducible exact zh7) | (with_reducible exact zdg) | (with_reducible exact zeV)
 | ((with_reducible apply zbb); wtm_at "mx side") | ((with_reducible apply zbw); wtm_at "mx side") | ((with_reducible apply zct); first | decide | wtm_at "mx side") | ((with_reducible apply zfG); decide)
 | ((with_reducible apply za5); first | (with_reducible assumption) | rfl) | ((with_reducible apply zbx); (focus wtm_at "mx so"); (focus first | (with_reducible assumption) | rfl)) | ((with_reducible apply zeW); (focus wtm_at "mx so"); (focus first | (with_reducible assumption) | rfl))
 | (refine zeX ?_ 8 ?_ ?_ ?_ <;> first | decide +kernel | rfl | decide) | (refine zfH ?_ 8 ?_ ?_ ?_ <;> first | decide +kernel | rfl | decide))
local macro_rules | `(tactic| wtm_at "mx fn") => `(tactic| first
 | (with_reducible exact MX.P.ev_int) | ((with_reducible apply zeT); exact Nat.le_of_ble_eq_true rfl) | ((with_reducible apply zen); exact Nat.le_of_ble_eq_true rfl) | (with_reducible exact zeo) | (with_reducible exact zc8) | (with_reducible exact zdb) | (with_reducible exact zel) | (with_reducible exact zem) | (with_reducible exact zeY) | (with_reducible exact zde)
 | ((with_reducible apply zcs); wtm_at "mx so") | ((with_reducible apply zcS); wtm_at "mx so") | ((with_reducible apply zbL); wtm_at "mx so") | ((with_reducible apply zdf); wtm_at "mx so")
 | ((with_reducible apply zcW); (focus wtm_at "mx so"); (focus rfl)) | ((with_reducible apply zda); (focus wtm_at "mx so"); (focus rfl); (focus rfl)) | ((with_reducible apply zdd); (focus wtm_at "mx so"); (focus rfl); (focus rfl)) | ((with_reducible apply zc9); (focus rfl); (focus rfl)) | ((with_reducible apply zdc); (focus rfl); (focus rfl))
 | ((with_reducible apply zah); (focus rfl); (focus wtm_at "mx call")))
local macro_rules | `(tactic| wtm_at "mx call") => `(tactic| (with_reducible assumption))
namespace MX.P
open PySem L2 MX
def spotM (m : Int) : Pt := (m.fmod 9 - 4, (m.fdiv 9).fmod 9 - 4, (m.fdiv 81).fmod 9 - 4)
theorem ze3 (m : Int) : BdP 5 (spotM m) := by
 have f : ∀ x : Int, Bd 5 (x.fmod 9 - 4) := fun x => by
   have h1 := Int.fmod_nonneg_of_pos x (show (0 : Int) < 9 by decide)
   have h2 := Int.fmod_lt_of_pos x (show (0 : Int) < 9 by decide)
   unfold Bd; omega
 exact ⟨f _, f _, f _⟩
theorem sp_spot (m : Int) (S : So) : zbj [.int m] S = some (pD (spotM m), S) := by
 apply zae
 · wtm_at "mx st"
   unfold zcZ
   wtm_at "mx ev"
 · wtm_at "mx take"
 · rfl
theorem ze4 {p : Pt} (bp : BdP 10 p) (ce : Int) : ∃ q : Pt, BdP 70 q ∧ ∀ S, za1 [pD p, .int ce] S = some (pD q, S) := by
 obtain ⟨x, y, z⟩ := p
 obtain ⟨bx, by', bz⟩ := bp
 simp only at bx by' bz
 by_cases h3 : ce.fmod 3 = 0
 · refine ⟨(x, y, z), ⟨bx.le (by decide), by'.le (by decide), bz.le (by decide)⟩, fun S => ?_⟩
   apply zae
   · wtm_at "mx st"
     unfold zbF
     wtm_at "mx ev"
   · wtm_at "mx take"
   · rfl
 · have bs : Bd 53 (1 + ce.fmod (1 * 2 ^ (50 : Int).toNat)) := by
     have h1 := Int.fmod_nonneg_of_pos ce (show (0 : Int) < 1 * 2 ^ (50 : Int).toNat by decide)
     have h2 := Int.fmod_lt_of_pos ce (show (0 : Int) < 1 * 2 ^ (50 : Int).toNat by decide)
     have e : (1 : Int) * 2 ^ (50 : Int).toNat = 1125899906842624 := by decide
     rw [e] at h1 h2
     rw [e]
     unfold Bd; omega
   refine ⟨(x * (1 + ce.fmod (1 * 2 ^ (50 : Int).toNat)) + ce.fmod 1000003, y * (1 + ce.fmod (1 * 2 ^ (50 : Int).toNat)) - ce.fmod 997, z * (1 + ce.fmod (1 * 2 ^ (50 : Int).toNat)) + 5), ⟨?_, ?_, ?_⟩, fun S => ?_⟩
   · exact ((bx.mul bs).add (Bd.fmod (m := 1000003) (by decide))).le (by decide)
   · exact ((by'.mul bs).sub (Bd.fmod (m := 997) (by decide))).le (by decide)
   · exact ((bz.mul bs).add (Bd.lit 5)).le (by decide)
   · have e1 : eB (gBin .Add) (eC (.int 1)) (eB (gBin .Mod) (eVar 1) (eB (gBin .LShift) (eC (.int 1)) (eC (.int 50)))) [some (P3 x y z), some (.int ce), none] S = some (.int (1 + ce.fmod (1 * 2 ^ (50 : Int).toNat)), S) := by
       wtm_at "mx ev"
     generalize 1 + ce.fmod (1 * 2 ^ (50 : Int).toNat) = s at *
     have e2 : eN gTup (aCons (eB (gBin .Add) (eB (gBin .Mult) (eB gIx (eVar 0) (eC (.int 0))) (eVar 2)) (eB (gBin .Mod) (eVar 1) (eC (.int 1000003)))) (aCons (eB (gBin .Sub) (eB (gBin .Mult) (eB gIx (eVar 0) (eC (.int 1))) (eVar 2)) (eB (gBin .Mod) (eVar 1) (eC (.int 997)))) (aCons (eB (gBin .Add) (eB (gBin .Mult) (eB gIx (eVar 0) (eC (.int 2))) (eVar 2)) (eC (.int 5))) (aNil)))) [some (P3 x y z), some (.int ce), some (.int s)] S = some (P3 (x * s + ce.fmod 1000003) (y * s - ce.fmod 997) (z * s + 5), S) := by
       wtm_at "mx ev"
     refine zae (σ' := [some (P3 x y z), some (.int ce), some (.int s)]) (S' := S) ?_ List.take_length rfl
     wtm_at "mx st"
     unfold zbF
     have t : tBl (eB (gCmp .Eq) (eB (gBin .Mod) (eVar 1) (eC (.int 3))) (eC (.int 0))) [some (P3 x y z), some (.int ce), none] S = some (decide (ce.fmod 3 = 0), S) := by wtm_at "mx ev"
     rw [za7 h3] at t
     exact zac (zaW t (zaO rfl zaA)) (zaf (zac (zai e1 rfl) (zaf (zac (zaB e2) zaj))))
theorem zl0 {k : Nat} {a b c : Pt} (ha : BdP k a) (hb : BdP k b) (hc : BdP k c) (hk : k ≤ 10000) (S : So) : zdz [pD a, pD b, pD c] S = some (.int (det3 a b c), S) := by
 obtain ⟨a1, a2, a3⟩ := a
 obtain ⟨b1, b2, b3⟩ := b
 obtain ⟨c1, c2, c3⟩ := c
 obtain ⟨ba1, ba2, ba3⟩ := ha
 obtain ⟨bb1, bb2, bb3⟩ := hb
 obtain ⟨bc1, bc2, bc3⟩ := hc
 simp only at ba1 ba2 ba3 bb1 bb2 bb3 bc1 bc2 bc3
 have f1 : zak [P3 b1 b2 b3, P3 c1 c2 c3, .int 1, .int 2] S = some (.int (b2 * c3 - b3 * c2), S) := zcE (k := k) (l := k) rfl rfl rfl rfl bb2 bb3 bc2 bc3 (by omega)
 have f2 : zak [P3 b1 b2 b3, P3 c1 c2 c3, .int 2, .int 0] S = some (.int (b3 * c1 - b1 * c3), S) := zcE (k := k) (l := k) rfl rfl rfl rfl bb3 bb1 bc3 bc1 (by omega)
 have f3 : zak [P3 b1 b2 b3, P3 c1 c2 c3, .int 0, .int 1] S = some (.int (b1 * c2 - b2 * c1), S) := zcE (k := k) (l := k) rfl rfl rfl rfl bb1 bb2 bc1 bc2 (by omega)
 have e : det3 (a1, a2, a3) (b1, b2, b3) (c1, c2, c3) = 0 + a1 * (b2 * c3 - b3 * c2) + a2 * (b3 * c1 - b1 * c3) + a3 * (b1 * c2 - b2 * c1) := by unfold det3 vdot vcross; simp only; omega
 rw [e]
 have turn : ∀ {x y w : Int} {i j l : Int}, mulOk x y = true → atI [D.int a1, .int a2, .int a3] i = some (.int x) → (i + 1).fmod 3 = j → (i + 2).fmod 3 = l → zak [P3 b1 b2 b3, P3 c1 c2 c3, .int j, .int l] S = some (.int y, S) → sSeq (sAsg (eB (gBin .Add) (eVar 3) (eB (gBin .Mult) (eB gIx (eVar 0) (eVar 4)) (eN (nArgs 4 zak) (aCons (eVar 1) (aCons (eVar 2) (aCons (eB (gBin .Mod) (eB (gBin .Add) (eVar 4) (eC (.int 1))) (eC (.int 3))) (aCons (eB (gBin .Mod) (eB (gBin .Add) (eVar 4) (eC (.int 2))) (eC (.int 3))) (aNil)))))))) (gNm 3)) (sPass) [some (P3 a1 a2 a3), some (P3 b1 b2 b3), some (P3 c1 c2 c3), some (.int w), some (.int i)] S = some (.nx, [some (P3 a1 a2 a3), some (P3 b1 b2 b3), some (P3 c1 c2 c3), some (.int (w + x * y)), some (.int i)], S) := fun hm hx hj hl hf => by
   subst hj hl
   exact zac (zai (zan (zaa rfl) (zan (zan (zaa rfl) (zaa rfl) (za5 hx)) (zar (zab (zaa rfl) (zab (zaa rfl) (zab (zan (zan (zaa rfl) zaH zb6) zaH (zbw (by decide))) (zab (zan (zan (zaa rfl) zaH zb6) zaH (zbw (by decide))) zag)))) (zah rfl hf)) (zbb hm)) zb6) rfl) (zaf zaA)
 have m1 : Bd (2 * k + 2) (b2 * c3 - b3 * c2) := ((bb2.mul bc3).sub (bb3.mul bc2)).le (by omega)
 have m2 : Bd (2 * k + 2) (b3 * c1 - b1 * c3) := ((bb3.mul bc1).sub (bb1.mul bc3)).le (by omega)
 have m3 : Bd (2 * k + 2) (b1 * c2 - b2 * c1) := ((bb1.mul bc2).sub (bb2.mul bc1)).le (by omega)
 have t1 := turn (w := 0) (i := 0) (za8 ba1 m1 (by omega)) rfl rfl rfl f1
 have t2 := turn (w := 0 + a1 * (b2 * c3 - b3 * c2)) (i := 1) (za8 ba2 m2 (by omega)) rfl rfl rfl f2
 have t3 := turn (w := 0 + a1 * (b2 * c3 - b3 * c2) + a2 * (b3 * c1 - b1 * c3)) (i := 2) (za8 ba3 m3 (by omega)) rfl rfl rfl f3
 refine zae (σ' := [some (P3 a1 a2 a3), some (P3 b1 b2 b3), some (P3 c1 c2 c3), some (.int (0 + a1 * (b2 * c3 - b3 * c2) + a2 * (b3 * c1 - b1 * c3) + a3 * (b1 * c2 - b2 * c1))), some (.int 2)]) (S' := S) ?_ List.take_length rfl
 wtm_at "mx st"
 unfold zdE
 refine zac (zai zaH rfl) (zaf (zac (zbc (zcU (j := 3) (zab zaH zag) (by decide)) (n := 3) rfl (zal (zc5 (z := 0) (by decide) rfl) rfl t1 (zat (zal (zc5 (z := 1) (by decide) rfl) rfl t2 (zat (zal (zc5 (z := 2) (by decide) rfl) rfl t3 (zat (zcV rfl)))))))) (zaf (zac (zaB (zaa rfl)) zaj))))
theorem zho {k : Nat} {a b c e : Pt} {x : D} {S : So} (g : gTp 4 (gsCons (gNm 1) (gsCons (gNm 2) (gsCons (gNm 3) (gsCons (gNm 4) (gsNil))))) x [some x, none, none, none, none] S = some ([some x, some (pD a), some (pD b), some (pD c), some (pD e)], S)) (ha : BdP k a) (hb : BdP k b) (hc : BdP k c) (he : BdP k e) (hk : k ≤ 3000) : zaR [x] S = some (.int (vol a b c e), S) := by
 have w1 := sp_lway a b S
 have w2 := sp_lway a c S
 have w3 := sp_lway a e S
 have b1 := (ha.wb hb).le (show max k k + 1 ≤ k + 1 by omega)
 have b2 := (ha.wb hc).le (show max k k + 1 ≤ k + 1 by omega)
 have b3 := (ha.wb he).le (show max k k + 1 ≤ k + 1 by omega)
 have d := zl0 b1 b2 b3 (by omega) S
 refine zae (σ' := [some x, some (pD a), some (pD b), some (pD c), some (pD e)]) (S' := S) ?_ List.take_length rfl
 wtm_at "mx st"
 unfold zc0
 exact zac (zai (zaa rfl) g) (zaf (zac (zaB (zar (zab (zar (zab (zaa rfl) (zab (zaa rfl) zag)) (zah rfl w1)) (zab (zar (zab (zaa rfl) (zab (zaa rfl) zag)) (zah rfl w2)) (zab (zar (zab (zaa rfl) (zab (zaa rfl) zag)) (zah rfl w3)) zag))) (zah rfl d))) zaj))
theorem ziG {k : Nat} {a b c e : Pt} (ha : BdP k a) (hb : BdP k b) (hc : BdP k c) (he : BdP k e) (hk : k ≤ 3000) (S : So) : zaR [.tup [pD a, pD b, pD c, pD e]] S = some (.int (vol a b c e), S) := zho rfl ha hb hc he hk
theorem ziH {k : Nat} {a b c e : Pt} {n : Nat} {S : So} (hn : S[n]? = some (.lst [pD a, pD b, pD c, pD e])) (ha : BdP k a) (hb : BdP k b) (hc : BdP k c) (he : BdP k e) (hk : k ≤ 3000) : zaR [.ref n] S = some (.int (vol a b c e), S) := zho (zgf hn rfl rfl) ha hb hc he hk
def fcs (a b c e : Pt) : List Tr := [(b, c, e), (a, e, c), (a, b, e), (a, c, b)]
theorem ziJ {a b c e : Pt} {n : Nat} {S : So} (hS : WF S) (hn : S[n]? = some (.lst [pD a, pD b, pD c, pD e])) : zbs [.ref n] S = some (.ref S.length, S ++ [.lst ((fcs a b c e).map trT)]) := by
 refine zeh (S := S) (σ' := [some (.ref n), some (pD a), some (pD b), some (pD c), some (pD e)]) (S' := S ++ [.lst ((fcs a b c e).map trT)]) ?_ (fun z => ?_) (by simp) ?_ (hS.snoc rfl)
 · wtm_at "mx st"
   unfold zcC
   exact zac (zai (zaa rfl) (zgf hn rfl rfl)) (zaf (zac (zaB rfl) zaj))
 · have := z.2
   simp only [D.lo, decide_eq_true_eq] at this
   omega
 · simp [D.lo]
end MX.P
end
section
set_option autoImplicit false
local macro_rules | `(tactic| wtm_at "mx op") => `(tactic| first
 | (with_reducible exact zb6) | ((with_reducible apply MX.P.ev_pow); (focus decide); (focus first | (simp only [Int.reduceToNat, Int.reducePow]; rfl) | rfl)) | (with_reducible exact zeU) | (with_reducible exact zgd) | (with_reducible exact zg6) | (with_reducible exact zge) | (with_reducible exact zia) | (with_reducible exact zfI) | (with_reducible exact zgb) | (with_reducible exact zh7) | (with_reducible exact zdg) | (with_reducible exact zeV)
 | ((with_reducible apply zbb); wtm_at "mx side") | ((with_reducible apply zbw); wtm_at "mx side") | ((with_reducible apply zct); first | decide | wtm_at "mx side") | ((with_reducible apply zfG); decide)
 | ((with_reducible apply za5); first | (with_reducible assumption) | rfl) | ((with_reducible apply zbx); (focus wtm_at "mx so"); (focus first | (with_reducible assumption) | rfl)) | ((with_reducible apply zeW); (focus wtm_at "mx so"); (focus first | (with_reducible assumption) | rfl))
 | (refine zeX ?_ 8 ?_ ?_ ?_ <;> first | decide +kernel | rfl | decide) | (refine zfH ?_ 8 ?_ ?_ ?_ <;> first | decide +kernel | rfl | decide))
local macro_rules | `(tactic| wtm_at "mx fn") => `(tactic| first
 | (with_reducible exact MX.P.ev_int) | ((with_reducible apply zeT); exact Nat.le_of_ble_eq_true rfl) | ((with_reducible apply zen); exact Nat.le_of_ble_eq_true rfl) | (with_reducible exact zeo) | (with_reducible exact zc8) | (with_reducible exact zdb) | (with_reducible exact zel) | (with_reducible exact zem) | (with_reducible exact zeY) | (with_reducible exact zde)
 | ((with_reducible apply zcs); wtm_at "mx so") | ((with_reducible apply zcS); wtm_at "mx so") | ((with_reducible apply zbL); wtm_at "mx so") | ((with_reducible apply zdf); wtm_at "mx so")
 | ((with_reducible apply zcW); (focus wtm_at "mx so"); (focus rfl)) | ((with_reducible apply zda); (focus wtm_at "mx so"); (focus rfl); (focus rfl)) | ((with_reducible apply zdd); (focus wtm_at "mx so"); (focus rfl); (focus rfl)) | ((with_reducible apply zc9); (focus rfl); (focus rfl)) | ((with_reducible apply zdc); (focus rfl); (focus rfl))
 | ((with_reducible apply zah); (focus rfl); (focus wtm_at "mx call")))
local macro_rules | `(tactic| wtm_at "mx call") => `(tactic| first | (with_reducible assumption) | (with_reducible exact MX.P.sp_drawn _ _ _) | (with_reducible exact MX.P.sp_spot _ _))
namespace MX.P
open PySem L2 MX
theorem zjH {k : Nat} {p q r s : Pt} (hp : BdP k p) (hq : BdP k q) (hr : BdP k r) (hs : BdP k s) : Bd (3 * k + 8) (vol p q r s) := by
 have h1 := (hp.wb hq).le (show max k k + 1 ≤ k + 1 by omega)
 have h2 := (hp.wb hr).le (show max k k + 1 ≤ k + 1 by omega)
 have h3 := (hp.wb hs).le (show max k k + 1 ≤ k + 1 by omega)
 exact (h1.dot (h2.cross h3)).le (by omega)
theorem zhp {k : Nat} {p a b c e : Pt} {n : Nat} {S : So} (hS : WF S) (hn : S[n]? = some (.lst [pD a, pD b, pD c, pD e])) (hp : BdP k p) (ha : BdP k a) (hb : BdP k b) (hc : BdP k c) (he : BdP k e) (hk : k ≤ 3000) : zbf [pD p, .ref n] S = some (.int (withM p a b c e), S) := by
 have sw := ziH hn ha hb hc he hk
 have bw := zjH ha hb hc he
 unfold withM
 generalize hW : vol a b c e = W at *
 obtain ⟨L, hL⟩ : ∃ L, L = [D.tup [pD p, pD b, pD c, pD e], .tup [pD a, pD p, pD c, pD e], .tup [pD a, pD b, pD p, pD e], .tup [pD a, pD b, pD c, pD p]] := ⟨_, rfl⟩
 have n1 : (S ++ [O.lst L])[S.length]? = some (.lst L) := zau
 have tk : (S ++ [O.lst L]).take S.length = S := by simp
 have it : iVal (eN gLst (aCons (eN gTup (aCons (eVar 0) (aCons (eVar 3) (aCons (eVar 4) (aCons (eVar 5) (aNil)))))) (aCons (eN gTup (aCons (eVar 2) (aCons (eVar 0) (aCons (eVar 4) (aCons (eVar 5) (aNil)))))) (aCons (eN gTup (aCons (eVar 2) (aCons (eVar 3) (aCons (eVar 0) (aCons (eVar 5) (aNil)))))) (aCons (eN gTup (aCons (eVar 2) (aCons (eVar 3) (aCons (eVar 4) (aCons (eVar 0) (aNil)))))) (aNil)))))) [some (pD p), some (.ref n), some (pD a), some (pD b), some (pD c), some (pD e), some (.int W), none] S = some (.lst S.length, S ++ [.lst L]) := by
   rw [hL]; exact za3 rfl zau
 generalize S ++ [O.lst L] = S1 at *
 have body : ∀ {q1 q2 q3 q4 : Pt}, BdP k q1 → BdP k q2 → BdP k q3 → BdP k q4 → sSeq (sIf (tBl (eB (gCmp .LtE) (eB (gBin .Mult) (eN (nArgs 1 zaR) (aCons (eVar 7) (aNil))) (eVar 6)) (eC (.int 0)))) (sSeq (sRet (eC (.int 0))) (sPass)) (sPass)) (sPass) [some (pD p), some (.ref n), some (pD a), some (pD b), some (pD c), some (pD e), some (.int W), some (.tup [pD q1, pD q2, pD q3, pD q4])] S1
     = some ((if vol q1 q2 q3 q4 * W ≤ 0 then .rt (.int 0) else .nx), [some (pD p), some (.ref n), some (pD a), some (pD b), some (pD c), some (pD e), some (.int W), some (.tup [pD q1, pD q2, pD q3, pD q4])], S1) := fun {q1 q2 q3 q4} b1 b2 b3 b4 => by
   have s := ziG b1 b2 b3 b4 hk S1
   have bv := zjH b1 b2 b3 b4
   generalize vol q1 q2 q3 q4 = v at *
   have t : tBl (eB (gCmp .LtE) (eB (gBin .Mult) (eN (nArgs 1 zaR) (aCons (eVar 7) (aNil))) (eVar 6)) (eC (.int 0))) [some (pD p), some (.ref n), some (pD a), some (pD b), some (pD c), some (pD e), some (.int W), some (.tup [pD q1, pD q2, pD q3, pD q4])] S1 = some (decide (v * W ≤ 0), S1) := zcM (zan (zan (zar (zab (zaa rfl) zag) (zah rfl s)) (zaa rfl) (zbb (za8 bv bw (by omega)))) zaH zg6)
   by_cases h : v * W ≤ 0
   · rw [if_pos h]
     rw [zcc h] at t
     exact zac (zaW t (za4 rfl (zac (zaB zaH) zaj))) zaj
   · rw [if_neg h]
     rw [za7 h] at t
     exact zac (zaW t (zaO rfl zaA)) (zaf zaA)
 have t1 := body hp hb hc he
 have t2 := body ha hp hc he
 have t3 := body ha hb hp he
 have t4 := body ha hb hc hp
 have g : gTp 4 (gsCons (gNm 2) (gsCons (gNm 3) (gsCons (gNm 4) (gsCons (gNm 5) (gsNil))))) (.ref n) [some (pD p), some (.ref n), none, none, none, none, none, none] S = some ([some (pD p), some (.ref n), some (pD a), some (pD b), some (pD c), some (pD e), none, none], S) := zgf hn rfl rfl
 have x1 : nxD (.lst S.length) 0 S1 = some (some (D.tup [pD p, pD b, pD c, pD e])) := zaz n1 (by rw [hL]; rfl)
 have x2 : nxD (.lst S.length) 1 S1 = some (some (D.tup [pD a, pD p, pD c, pD e])) := zaz n1 (by rw [hL]; rfl)
 have x3 : nxD (.lst S.length) 2 S1 = some (some (D.tup [pD a, pD b, pD p, pD e])) := zaz n1 (by rw [hL]; rfl)
 have x4 : nxD (.lst S.length) 3 S1 = some (some (D.tup [pD a, pD b, pD c, pD p])) := zaz n1 (by rw [hL]; rfl)
 have x5 : nxD (.lst S.length) 4 S1 = some none := zcP n1 (by rw [hL]; rfl)
 have cn : cntD (.lst S.length) S1 = some 4 := by rw [zbM n1, hL]; rfl
 have pre : ∀ {r : D} {x : Option D}, sSeq (sFor (iVal (eN gLst (aCons (eN gTup (aCons (eVar 0) (aCons (eVar 3) (aCons (eVar 4) (aCons (eVar 5) (aNil)))))) (aCons (eN gTup (aCons (eVar 2) (aCons (eVar 0) (aCons (eVar 4) (aCons (eVar 5) (aNil)))))) (aCons (eN gTup (aCons (eVar 2) (aCons (eVar 3) (aCons (eVar 0) (aCons (eVar 5) (aNil)))))) (aCons (eN gTup (aCons (eVar 2) (aCons (eVar 3) (aCons (eVar 4) (aCons (eVar 0) (aNil)))))) (aNil))))))) (gNm 7) (sSeq (sIf (tBl (eB (gCmp .LtE) (eB (gBin .Mult) (eN (nArgs 1 zaR) (aCons (eVar 7) (aNil))) (eVar 6)) (eC (.int 0)))) (sSeq (sRet (eC (.int 0))) (sPass)) (sPass)) (sPass))) (sSeq (sRet (eB (gBin .Sub) (eN gInt (aCons (eB (gCmp .Gt) (eVar 6) (eC (.int 0))) (aNil))) (eN gInt (aCons (eB (gCmp .Lt) (eVar 6) (eC (.int 0))) (aNil))))) (sPass)) [some (pD p), some (.ref n), some (pD a), some (pD b), some (pD c), some (pD e), some (.int W), none] S = some (.rt r, [some (pD p), some (.ref n), some (pD a), some (pD b), some (pD c), some (pD e), some (.int W), x], S1) → D.lo S.length r = true → zbf [pD p, .ref n] S = some (r, S) := fun {r x} h hr => by
   refine zae (σ' := [some (pD p), some (.ref n), some (pD a), some (pD b), some (pD c), some (pD e), some (.int W), x]) (S' := S1) ?_ tk hr
   wtm_at "mx st"
   unfold zcg
   exact zac (zai (zaa rfl) g) (zaf (zac (zai (zar (zab (zaa rfl) zag) (zah rfl sw)) rfl) (zaf h)))
 by_cases h1 : vol p b c e * W ≤ 0
 · rw [if_pos h1] at t1 ⊢
   exact pre (zac (zbc it cn (zal x1 rfl t1 zbJ)) zaj) rfl
 rw [if_neg h1] at t1 ⊢
 by_cases h2 : vol a p c e * W ≤ 0
 · rw [if_pos h2] at t2 ⊢
   exact pre (zac (zbc it cn (zal x1 rfl t1 (zat (zal x2 rfl t2 zbJ)))) zaj) rfl
 rw [if_neg h2] at t2 ⊢
 by_cases h3 : vol a b p e * W ≤ 0
 · rw [if_pos h3] at t3 ⊢
   exact pre (zac (zbc it cn (zal x1 rfl t1 (zat (zal x2 rfl t2 (zat (zal x3 rfl t3 zbJ)))))) zaj) rfl
 rw [if_neg h3] at t3 ⊢
 by_cases h4 : vol a b c p * W ≤ 0
 · rw [if_pos h4] at t4 ⊢
   exact pre (zac (zbc it cn (zal x1 rfl t1 (zat (zal x2 rfl t2 (zat (zal x3 rfl t3 (zat (zal x4 rfl t4 zbJ)))))))) zaj) rfl
 rw [if_neg h4] at t4 ⊢
 exact pre (zac (zbc it cn (zal x1 rfl t1 (zat (zal x2 rfl t2 (zat (zal x3 rfl t3 (zat (zal x4 rfl t4 (zat (zcV x5)))))))))) (zaf (zac (zaB (zan (zar (zab (zan (zaa rfl) zaH zge) zag) ev_int) (zar (zab (zan (zaa rfl) zaH zgd) zag) ev_int) zeU)) zaj))) rfl
theorem zd0 {x0 x1 x2 x3 s0 s1 s2 s3 j : Int} {A B C E : D} {k : Nat} {n m : Nat} {T : So} (hn : T[n]? = some (.lst [A, B, C, E])) (hm : T[m]? = some (.lst [.int s0, .int s1, .int s2, .int s3])) (e0 : gIx A (.int j) T = some (.int x0, T)) (e1 : gIx B (.int j) T = some (.int x1, T)) (e2 : gIx C (.int j) T = some (.int x2, T)) (e3 : gIx E (.int j) T = some (.int x3, T))
   (m0 : mulOk s0 x0 = true) (m1 : mulOk s1 x1 = true) (m2 : mulOk s2 x2 = true) (m3 : mulOk s3 x3 = true) :
   eB (gBin .FloorDiv) (eN gSum (aCons (eLc (iRg1 (aCons (eC (.int 4)) (aNil))) (gNm 0) (tTru) (eB (gBin .Mult) (eB gIx (eVar 3) (eVar 0)) (eB gIx (eB gIx (eVar 1) (eVar 0)) (eVar 2))) [none, some 1, some 0, some 2]) (aNil))) (eC (.int 6)) [some (.int j), some (.ref n), some (.ref m)] T = some (.int ((s0 * x0 + (s1 * x1 + (s2 * x2 + (s3 * x3 + 0)))).fdiv 6), T ++ [.lst [.int (s0 * x0), .int (s1 * x1), .int (s2 * x2), .int (s3 * x3)]]) := by
 have lc : eLc (iRg1 (aCons (eC (.int 4)) (aNil))) (gNm 0) (tTru) (eB (gBin .Mult) (eB gIx (eVar 3) (eVar 0)) (eB gIx (eB gIx (eVar 1) (eVar 0)) (eVar 2))) [none, some 1, some 0, some 2] [some (.int j), some (.ref n), some (.ref m)] T = some (.ref T.length, T ++ [.lst [.int (s0 * x0), .int (s1 * x1), .int (s2 * x2), .int (s3 * x3)]]) := by
   refine zcT (j := .fix (rangeD 0 4)) (n := 4) (S1 := T) (zcU (j := 4) (zab zaH zag) (by decide)) rfl (by decide) rfl ?_
   refine zaF (zc5 (z := 0) (by decide) rfl) rfl zas (zan (zan (zaa rfl) (zaa rfl) (zbx hm rfl)) (zan (zan (zaa rfl) (zaa rfl) (zbx hn rfl)) (zaa rfl) e0) (zbb m0)) rfl ?_
   refine zaF (zc5 (z := 1) (by decide) rfl) rfl zas (zan (zan (zaa rfl) (zaa rfl) (zbx hm rfl)) (zan (zan (zaa rfl) (zaa rfl) (zbx hn rfl)) (zaa rfl) e1) (zbb m1)) rfl ?_
   refine zaF (zc5 (z := 2) (by decide) rfl) rfl zas (zan (zan (zaa rfl) (zaa rfl) (zbx hm rfl)) (zan (zan (zaa rfl) (zaa rfl) (zbx hn rfl)) (zaa rfl) e2) (zbb m2)) rfl ?_
   refine zaF (zc5 (z := 3) (by decide) rfl) rfl zas (zan (zan (zaa rfl) (zaa rfl) (zbx hm rfl)) (zan (zan (zaa rfl) (zaa rfl) (zbx hn rfl)) (zaa rfl) e3) (zbb m3)) rfl ?_
   exact zcj rfl
 refine zan (zar (zab lc zag) ?_) zaH (zct (by decide))
 unfold gSum
 simp only [zau]
 rfl
theorem zkd {a b c e : Pt} (ha : BdP 70 a) (hb : BdP 70 b) (hc : BdP 70 c) (he : BdP 70 e) (h : Int) : ∃ q : Pt, BdP 90 q ∧ ∀ (n : Nat) (S : So), S[n]? = some (.lst [pD a, pD b, pD c, pD e]) → zcR [.ref n, .int h] S = some (pD q, S) := by
 have r1 : Bd 4 (h.fmod 4) := (Bd.fmod (by decide)).le (by decide)
 have r2 : Bd 4 ((h.fdiv 4).fmod 4) := (Bd.fmod (by decide)).le (by decide)
 have r3 : Bd 4 ((h.fdiv 16).fmod 3) := (Bd.fmod (by decide)).le (by decide)
 have r4 : Bd 8 (6 - h.fmod 4 - (h.fdiv 4).fmod 4 - (h.fdiv 16).fmod 3) := ((((Bd.lit 6).sub r1).sub r2).sub r3).le (by decide)
 have s0 : ∀ (n : Nat) (S : So), eN gLst (aCons (eVar 2) (aCons (eVar 3) (aCons (eVar 4) (aCons (eB (gBin .Sub) (eB (gBin .Sub) (eB (gBin .Sub) (eC (.int 6)) (eVar 2)) (eVar 3)) (eVar 4)) (aNil))))) [some (.ref n), some (.int h), some (.int (h.fmod 4)), some (.int ((h.fdiv 4).fmod 4)), some (.int ((h.fdiv 16).fmod 3)), none] S = some (.ref S.length, S ++ [.lst [.int (h.fmod 4), .int ((h.fdiv 4).fmod 4), .int ((h.fdiv 16).fmod 3), .int (6 - h.fmod 4 - (h.fdiv 4).fmod 4 - (h.fdiv 16).fmod 3)]]) := fun n S => rfl
 have q0 : ∀ (n : Nat) (S : So), eB (gBin .Mod) (eVar 1) (eC (.int 4)) [some (.ref n), some (.int h), none, none, none, none] S = some (.int (h.fmod 4), S) := fun n S => zan (zaa rfl) zaH (zbw (by decide))
 have q1 : ∀ (n : Nat) (x : D) (S : So), eB (gBin .Mod) (eB (gBin .FloorDiv) (eVar 1) (eC (.int 4))) (eC (.int 4)) [some (.ref n), some (.int h), some x, none, none, none] S = some (.int ((h.fdiv 4).fmod 4), S) := fun n x S => zan (zan (zaa rfl) zaH (zct (by decide))) zaH (zbw (by decide))
 have q2 : ∀ (n : Nat) (x y : D) (S : So), eB (gBin .Mod) (eB (gBin .FloorDiv) (eVar 1) (eC (.int 16))) (eC (.int 3)) [some (.ref n), some (.int h), some x, some y, none, none] S = some (.int ((h.fdiv 16).fmod 3), S) := fun n x y S => zan (zan (zaa rfl) zaH (zct (by decide))) zaH (zbw (by decide))
 generalize h.fmod 4 = i at *
 generalize (h.fdiv 4).fmod 4 = j at *
 generalize (h.fdiv 16).fmod 3 = l at *
 generalize 6 - i - j - l = o at *
 have bd : ∀ {x y z w : Int}, Bd 70 x → Bd 70 y → Bd 70 z → Bd 70 w → Bd 90 ((i * x + (j * y + (l * z + (o * w + 0)))).fdiv 6) := fun hx hy hz hw => ((((r1.mul hx).add ((r2.mul hy).add ((r3.mul hz).add ((r4.mul hw).add (Bd.lit 0)))))).fdiv (by decide)).le (by decide)
 refine ⟨((i * a.1 + (j * b.1 + (l * c.1 + (o * e.1 + 0)))).fdiv 6, (i * a.2.1 + (j * b.2.1 + (l * c.2.1 + (o * e.2.1 + 0)))).fdiv 6, (i * a.2.2 + (j * b.2.2 + (l * c.2.2 + (o * e.2.2 + 0)))).fdiv 6), ⟨bd ha.1 hb.1 hc.1 he.1, bd ha.2.1 hb.2.1 hc.2.1 he.2.1, bd ha.2.2 hb.2.2 hc.2.2 he.2.2⟩, fun n S hn => ?_⟩
 obtain ⟨a1, a2, a3⟩ := a
 obtain ⟨b1, b2, b3⟩ := b
 obtain ⟨c1, c2, c3⟩ := c
 obtain ⟨e1, e2, e3⟩ := e
 obtain ⟨ha1, ha2, ha3⟩ := ha
 obtain ⟨hb1, hb2, hb3⟩ := hb
 obtain ⟨hc1, hc2, hc3⟩ := hc
 obtain ⟨he1, he2, he3⟩ := he
 simp only at *
 have mk : ∀ {x y : Int} {u : Nat}, Bd u x → u ≤ 8 → Bd 70 y → mulOk x y = true := fun hx hu hy => za8 hx hy (by omega)
 have n1 : (S ++ [O.lst [.int i, .int j, .int l, .int o]])[n]? = some (.lst [pD (a1, a2, a3), pD (b1, b2, b3), pD (c1, c2, c3), pD (e1, e2, e3)]) := zaV hn
 have m1 : (S ++ [O.lst [.int i, .int j, .int l, .int o]])[S.length]? = some (.lst [.int i, .int j, .int l, .int o]) := zau
 have s0' := s0 n S
 have tk : ∀ o1 o2 o3 o4 : O, (S ++ [O.lst [.int i, .int j, .int l, .int o]] ++ [o1] ++ [o2] ++ [o3] ++ [o4]).take S.length = S := fun o1 o2 o3 o4 => by simp
 generalize S ++ [O.lst [.int i, .int j, .int l, .int o]] = S1 at *
 have i1 := zd0 (j := 0) (k := 0) n1 m1 (za5 rfl) (za5 rfl) (za5 rfl) (za5 rfl) (mk r1 (by decide) ha1) (mk r2 (by decide) hb1) (mk r3 (by decide) hc1) (mk r4 (by decide) he1)
 have i2 := zd0 (j := 1) (k := 0) (T := S1 ++ [.lst [.int (i * a1), .int (j * b1), .int (l * c1), .int (o * e1)]]) (zaV n1) (zaV m1) (za5 rfl) (za5 rfl) (za5 rfl) (za5 rfl) (mk r1 (by decide) ha2) (mk r2 (by decide) hb2) (mk r3 (by decide) hc2) (mk r4 (by decide) he2)
 have i3 := zd0 (j := 2) (k := 0) (T := S1 ++ [.lst [.int (i * a1), .int (j * b1), .int (l * c1), .int (o * e1)]] ++ [.lst [.int (i * a2), .int (j * b2), .int (l * c2), .int (o * e2)]]) (zaV (zaV n1)) (zaV (zaV m1)) (za5 rfl) (za5 rfl) (za5 rfl) (za5 rfl) (mk r1 (by decide) ha3) (mk r2 (by decide) hb3) (mk r3 (by decide) hc3) (mk r4 (by decide) he3)
 refine zae (σ' := [some (.ref n), some (.int h), some (.int i), some (.int j), some (.int l), some (.ref S.length)]) (S' := S1 ++ [.lst [.int (i * a1), .int (j * b1), .int (l * c1), .int (o * e1)]] ++ [.lst [.int (i * a2), .int (j * b2), .int (l * c2), .int (o * e2)]] ++ [.lst [.int (i * a3), .int (j * b3), .int (l * c3), .int (o * e3)]] ++ [.lst [.int ((i * a1 + (j * b1 + (l * c1 + (o * e1 + 0)))).fdiv 6), .int ((i * a2 + (j * b2 + (l * c2 + (o * e2 + 0)))).fdiv 6), .int ((i * a3 + (j * b3 + (l * c3 + (o * e3 + 0)))).fdiv 6)]]) ?_ (tk _ _ _ _) rfl
 wtm_at "mx st"
 unfold zc1
 refine zac (zai (q0 n S) rfl) (zaf (zac (zai (q1 n _ S) rfl) (zaf (zac (zai (q2 n _ _ S) rfl) (zaf (zac (zai s0' rfl) (zaf (zac (zaB (zar (zab (zcT (j := .fix (rangeD 0 3)) (n := 3) (S1 := S1) (zcU (j := 3) (zab zaH zag) (by decide)) rfl (by decide) rfl (zaF (zc5 (z := 0) (by decide) rfl) rfl zas i1 rfl (zaF (zc5 (z := 1) (by decide) rfl) rfl zas i2 rfl (zaF (zc5 (z := 2) (by decide) rfl) rfl zas i3 rfl (zcj rfl))))) zag) (zbL zau))) zaj))))))))
end MX.P
end
section
set_option autoImplicit false
local macro_rules | `(tactic| wtm_at "mx op") => `(tactic| first
 | (with_reducible exact zb6) | ((with_reducible apply MX.P.ev_pow); (focus decide); (focus first | (simp only [Int.reduceToNat, Int.reducePow]; rfl) | rfl)) | (with_reducible exact zeU) | (with_reducible exact zgd) | (with_reducible exact zg6) | (with_reducible exact zge) | (with_reducible exact zia) | (with_reducible exact zfI) | (with_reducible exact zgb) | (with_reducible exact zh7) | (with_reducible exact zdg) | (with_reducible exact zeV)
 | ((with_reducible apply zbb); wtm_at "mx side") | ((with_reducible apply zbw); wtm_at "mx side") | ((with_reducible apply zct); first | decide | wtm_at "mx side") | ((with_reducible apply zfG); decide)
 | ((with_reducible apply za5); first | (with_reducible assumption) | rfl) | ((with_reducible apply zbx); (focus wtm_at "mx so"); (focus first | (with_reducible assumption) | rfl)) | ((with_reducible apply zeW); (focus wtm_at "mx so"); (focus first | (with_reducible assumption) | rfl))
 | (refine zeX ?_ 8 ?_ ?_ ?_ <;> first | decide +kernel | rfl | decide) | (refine zfH ?_ 8 ?_ ?_ ?_ <;> first | decide +kernel | rfl | decide))
local macro_rules | `(tactic| wtm_at "mx fn") => `(tactic| first
 | (with_reducible exact MX.P.ev_int) | ((with_reducible apply zeT); exact Nat.le_of_ble_eq_true rfl) | ((with_reducible apply zen); exact Nat.le_of_ble_eq_true rfl) | (with_reducible exact zeo) | (with_reducible exact zc8) | (with_reducible exact zdb) | (with_reducible exact zel) | (with_reducible exact zem) | (with_reducible exact zeY) | (with_reducible exact zde)
 | ((with_reducible apply zcs); wtm_at "mx so") | ((with_reducible apply zcS); wtm_at "mx so") | ((with_reducible apply zbL); wtm_at "mx so") | ((with_reducible apply zdf); wtm_at "mx so")
 | ((with_reducible apply zcW); (focus wtm_at "mx so"); (focus rfl)) | ((with_reducible apply zda); (focus wtm_at "mx so"); (focus rfl); (focus rfl)) | ((with_reducible apply zdd); (focus wtm_at "mx so"); (focus rfl); (focus rfl)) | ((with_reducible apply zc9); (focus rfl); (focus rfl)) | ((with_reducible apply zdc); (focus rfl); (focus rfl))
 | ((with_reducible apply zah); (focus rfl); (focus wtm_at "mx call")))
local macro_rules | `(tactic| wtm_at "mx call") => `(tactic| first | (with_reducible assumption) | (with_reducible exact MX.P.sp_drawn _ _ _) | (with_reducible exact MX.P.sp_spot _ _))
namespace MX.P
open PySem L2 MX
theorem zke {d : Int} {S : So} (hS : WF S) : zcb [.int d] S = some (.ref S.length, S ++ [.lst [pD (spotM d), pD (spotM (d.fdiv 729)), pD (spotM (d.fdiv 531441)), pD (spotM (d.fdiv 387420489))]]) := by
 refine zeh (S := S) (σ' := [some (.int d)]) (S' := S ++ [.lst [pD (spotM d), pD (spotM (d.fdiv 729)), pD (spotM (d.fdiv 531441)), pD (spotM (d.fdiv 387420489))]]) ?_ (fun z => ?_) (by simp) ?_ (hS.snoc rfl)
 · wtm_at "mx st"
   unfold zc2
   wtm_at "mx ev"
 · have := z.2
   simp only [D.lo, decide_eq_true_eq] at this
   omega
 · simp [D.lo]
def scl (t : Int) (p : Pt) : Pt := (t * p.1, t * p.2.1, t * p.2.2)
theorem zgr {t : Int} {p : Pt} (ht : Bd 4 t) (hp : BdP 5 p) : BdP 10 (scl t p) := ⟨(ht.mul hp.1).le (by decide), (ht.mul hp.2.1).le (by decide), (ht.mul hp.2.2).le (by decide)⟩
theorem zdT {t : Int} {p : Pt} (ht : Bd 4 t) (hp : BdP 5 p) (T : So) : eN gTuple (aCons (eLc (iVal (eVar 0)) (gNm 0) (tTru) (eB (gBin .Mult) (eVar 1) (eVar 0)) [none, some 1]) (aNil)) [some (pD p), some (.int t)] T = some (pD (scl t p), T ++ [.lst [.int (t * p.1), .int (t * p.2.1), .int (t * p.2.2)]]) := by
 have m : ∀ {x : Int}, Bd 5 x → mulOk t x = true := fun hx => za8 ht hx (by decide)
 refine zar (zab (zcT (j := .fix [.int p.1, .int p.2.1, .int p.2.2]) (n := 3) (S1 := T) (zgB (zaa rfl)) rfl (by decide) rfl (zaF (zgw rfl) rfl zas (zan (zaa rfl) (zaa rfl) (zbb (m hp.1))) rfl (zaF (zgw rfl) rfl zas (zan (zaa rfl) (zaa rfl) (zbb (m hp.2.1))) rfl (zaF (zgw rfl) rfl zas (zan (zaa rfl) (zaa rfl) (zbb (m hp.2.2))) rfl (zcj rfl))))) zag) (zbL zau)
theorem zd4 {ns : List Int} (hns : ns.length ≤ 63) (k : Int) : ∃ a b c e : Pt, BdP 70 a ∧ BdP 70 b ∧ BdP 70 c ∧ BdP 70 e ∧ ∀ S, WF S → S[0]? = some (.frz (ns.map .int)) → ∃ n T, Gr S T ∧ T[n]? = some (.lst [pD a, pD b, pD c, pD e]) ∧ za2 [.ref 0, .int k] S = some (.ref n, T) := by
 generalize hd : drawnI (cellI ns (k + 1)) k = d
 obtain ⟨tm, bt, et⟩ : ∃ t : Int, Bd 4 t ∧ atI [D.int 1, .int 6, .int 6] ((d.fdiv 282429536481).fmod 3) = some (.int t) := by
   have q0 := Int.fmod_nonneg_of_pos (d.fdiv 282429536481) (show (0 : Int) < 3 by decide)
   have q1 := Int.fmod_lt_of_pos (d.fdiv 282429536481) (show (0 : Int) < 3 by decide)
   generalize (d.fdiv 282429536481).fmod 3 = i at q0 q1
   have : i = 0 ∨ i = 1 ∨ i = 2 := by omega
   rcases this with rfl | rfl | rfl
   · exact ⟨1, (Bd.lit 1).le (by decide), rfl⟩
   · exact ⟨6, (Bd.lit 6).le (by decide), rfl⟩
   · exact ⟨6, (Bd.lit 6).le (by decide), rfl⟩
 have b1 := ze3 d
 have b2 := ze3 (d.fdiv 729)
 have b3 := ze3 (d.fdiv 531441)
 have b4 := ze3 (d.fdiv 387420489)
 obtain ⟨a, ba, fa⟩ := ze4 (zgr bt b1) (cellI ns 0)
 obtain ⟨b, bb, fb⟩ := ze4 (zgr bt b2) (cellI ns 0)
 obtain ⟨c, bc, fc⟩ := ze4 (zgr bt b3) (cellI ns 0)
 obtain ⟨e, be, fe⟩ := ze4 (zgr bt b4) (cellI ns 0)
 refine ⟨a, b, c, e, ba, bb, bc, be, fun S hS h0 => ?_⟩
 have c1 := ze6 hns (k + 1) h0
 have dr := sp_drawn (cellI ns (k + 1)) k S
 rw [hd] at dr
 have g1 : Gr S (S ++ [.lst [.int 1, .int 6, .int 6]]) := (Gr.refl hS).snoc rfl
 have n1 : (S ++ [O.lst [.int 1, .int 6, .int 6]])[S.length]? = some (.lst [.int 1, .int 6, .int 6]) := zau
 have s2 : eB gIx (eN gLst (aCons (eC (.int 1)) (aCons (eC (.int 6)) (aCons (eC (.int 6)) (aNil))))) (eB (gBin .Mod) (eB (gBin .FloorDiv) (eVar 2) (eC (.int 282429536481))) (eC (.int 3))) [some (.ref 0), some (.int k), some (.int d), none, none] S = some (.int tm, S ++ [.lst [.int 1, .int 6, .int 6]]) := zan (zar (ds := [.int 1, .int 6, .int 6]) (S1 := S) rfl (zen (by decide))) (zan (zan (zaa rfl) zaH (zct (by decide))) zaH (zbw (by decide))) (zbx n1 et)
 generalize S ++ [O.lst [.int 1, .int 6, .int 6]] = S1 at *
 have f4 := zke (d := d) g1.2
 generalize spotM d = p1 at *
 generalize spotM (d.fdiv 729) = p2 at *
 generalize spotM (d.fdiv 531441) = p3 at *
 generalize spotM (d.fdiv 387420489) = p4 at *
 have g2 : Gr S (S1 ++ [.lst [pD p1, pD p2, pD p3, pD p4]]) := g1.snoc rfl
 have n2 : (S1 ++ [O.lst [pD p1, pD p2, pD p3, pD p4]])[S1.length]? = some (.lst [pD p1, pD p2, pD p3, pD p4]) := zau
 generalize S1 ++ [O.lst [pD p1, pD p2, pD p3, pD p4]] = S2 at *
 have k1 := zdT bt b1 S2
 have g3 := g2.snoc (o := .lst [.int (tm * p1.1), .int (tm * p1.2.1), .int (tm * p1.2.2)]) rfl
 have n3 : (S2 ++ [O.lst [.int (tm * p1.1), .int (tm * p1.2.1), .int (tm * p1.2.2)]])[S1.length]? = some (.lst [pD p1, pD p2, pD p3, pD p4]) := zaV n2
 generalize S2 ++ [O.lst [.int (tm * p1.1), .int (tm * p1.2.1), .int (tm * p1.2.2)]] = S3 at *
 have k2 := zdT bt b2 S3
 have g4 := g3.snoc (o := .lst [.int (tm * p2.1), .int (tm * p2.2.1), .int (tm * p2.2.2)]) rfl
 have n4 : (S3 ++ [O.lst [.int (tm * p2.1), .int (tm * p2.2.1), .int (tm * p2.2.2)]])[S1.length]? = some (.lst [pD p1, pD p2, pD p3, pD p4]) := zaV n3
 generalize S3 ++ [O.lst [.int (tm * p2.1), .int (tm * p2.2.1), .int (tm * p2.2.2)]] = S4 at *
 have k3 := zdT bt b3 S4
 have g5 := g4.snoc (o := .lst [.int (tm * p3.1), .int (tm * p3.2.1), .int (tm * p3.2.2)]) rfl
 have n5 : (S4 ++ [O.lst [.int (tm * p3.1), .int (tm * p3.2.1), .int (tm * p3.2.2)]])[S1.length]? = some (.lst [pD p1, pD p2, pD p3, pD p4]) := zaV n4
 generalize S4 ++ [O.lst [.int (tm * p3.1), .int (tm * p3.2.1), .int (tm * p3.2.2)]] = S5 at *
 have k4 := zdT bt b4 S5
 have g6 := g5.snoc (o := .lst [.int (tm * p4.1), .int (tm * p4.2.1), .int (tm * p4.2.2)]) rfl
 have n6 : (S5 ++ [O.lst [.int (tm * p4.1), .int (tm * p4.2.1), .int (tm * p4.2.2)]])[S1.length]? = some (.lst [pD p1, pD p2, pD p3, pD p4]) := zaV n5
 generalize S5 ++ [O.lst [.int (tm * p4.1), .int (tm * p4.2.1), .int (tm * p4.2.2)]] = S6 at *
 have s3 : eLc (iVal (eN (nArgs 1 zcb) (aCons (eVar 2) (aNil)))) (gNm 0) (tTru) (eN gTuple (aCons (eLc (iVal (eVar 0)) (gNm 0) (tTru) (eB (gBin .Mult) (eVar 1) (eVar 0)) [none, some 1]) (aNil))) [none, some 3] [some (.ref 0), some (.int k), some (.int d), some (.int tm), none] S1 = some (.ref S6.length, S6 ++ [.lst [pD (scl tm p1), pD (scl tm p2), pD (scl tm p3), pD (scl tm p4)]]) := by
   refine zcT (j := .lst S1.length) (n := 4) (S1 := S2) (za3 (zar (zab (zaa rfl) zag) (zah rfl f4)) n2) (zbM n2) (by decide) rfl ?_
   exact zaF (zaz n2 rfl) rfl zas k1 rfl (zaF (zaz n3 rfl) rfl zas k2 rfl (zaF (zaz n4 rfl) rfl zas k3 rfl (zaF (zaz n5 rfl) rfl zas k4 rfl (zcj (zcP n6 rfl)))))
 generalize scl tm p1 = q1 at *
 generalize scl tm p2 = q2 at *
 generalize scl tm p3 = q3 at *
 generalize scl tm p4 = q4 at *
 have g7 : Gr S (S6 ++ [.lst [pD q1, pD q2, pD q3, pD q4]]) := g6.snoc rfl
 have n7 : (S6 ++ [O.lst [pD q1, pD q2, pD q3, pD q4]])[S6.length]? = some (.lst [pD q1, pD q2, pD q3, pD q4]) := zau
 generalize S6 ++ [O.lst [pD q1, pD q2, pD q3, pD q4]] = S7 at *
 have c0 := ze6 hns 0 (g7.old h0)
 have one : ∀ {x y : Pt}, za1 [pD x, .int (cellI ns 0)] S7 = some (pD y, S7) → eN (nArgs 2 za1) (aCons (eVar 0) (aCons (eN (nArgs 2 zaK) (aCons (eVar 1) (aCons (eC (.int 0)) (aNil)))) (aNil))) [some (pD x), some (.ref 0)] S7 = some (pD y, S7) := fun h => zar (zab (zaa rfl) (zab (zar (zab (zaa rfl) (zab zaH zag)) (zah rfl c0)) zag)) (zah rfl h)
 have s4 : eLc (iVal (eVar 4)) (gNm 0) (tTru) (eN (nArgs 2 za1) (aCons (eVar 0) (aCons (eN (nArgs 2 zaK) (aCons (eVar 1) (aCons (eC (.int 0)) (aNil)))) (aNil)))) [none, some 0] [some (.ref 0), some (.int k), some (.int d), some (.int tm), some (.ref S6.length)] S7 = some (.ref S7.length, S7 ++ [.lst [pD a, pD b, pD c, pD e]]) := by
   refine zcT (j := .lst S6.length) (n := 4) (S1 := S7) (za3 (zaa rfl) n7) (zbM n7) (by decide) rfl ?_
   exact zaF (zaz n7 rfl) rfl zas (one (fa S7)) rfl (zaF (zaz n7 rfl) rfl zas (one (fb S7)) rfl (zaF (zaz n7 rfl) rfl zas (one (fc S7)) rfl (zaF (zaz n7 rfl) rfl zas (one (fe S7)) rfl (zcj (zcP n7 rfl)))))
 have g8 : Gr S (S7 ++ [.lst [pD a, pD b, pD c, pD e]]) := g7.snoc rfl
 have l7 : S.length ≤ S7.length := by
   obtain ⟨⟨G, hG⟩, _⟩ := g7
   rw [hG]; simp
 refine ⟨S7.length, S7 ++ [.lst [pD a, pD b, pD c, pD e]], g8, zau, ?_⟩
 refine zeh (S := S) (σ' := [some (.ref 0), some (.int k), some (.int d), some (.int tm), some (.ref S6.length)]) (S' := S7 ++ [.lst [pD a, pD b, pD c, pD e]]) ?_ (fun z => ?_) (by simp; omega) ?_ g8.2
 · wtm_at "mx st"
   unfold zbl
   exact zac (zai (zar (zab (zar (zab (zaa rfl) (zab (zan (zaa rfl) zaH zb6) zag)) (zah rfl c1)) (zab (zaa rfl) zag)) (zah rfl dr)) rfl) (zaf (zac (zai s2 rfl) (zaf (zac (zai s3 rfl) (zaf (zac (zaB s4) zaj))))))
 · have := z.2
   simp only [D.lo, decide_eq_true_eq] at this
   omega
 · simp [D.lo]
end MX.P
end
section
set_option autoImplicit false
local macro_rules | `(tactic| wtm_at "mx op") => `(tactic| first
 | (with_reducible exact zb6) | ((with_reducible apply MX.P.ev_pow); (focus decide); (focus first | (simp only [Int.reduceToNat, Int.reducePow]; rfl) | rfl)) | (with_reducible exact zeU) | (with_reducible exact zgd) | (with_reducible exact zg6) | (with_reducible exact zge) | (with_reducible exact zia) | (with_reducible exact zfI) | (with_reducible exact zgb) | (with_reducible exact zh7) | (with_reducible exact zdg) | (with_reducible exact zeV)
 | ((with_reducible apply zbb); wtm_at "mx side") | ((with_reducible apply zbw); wtm_at "mx side") | ((with_reducible apply zct); first | decide | wtm_at "mx side") | ((with_reducible apply zfG); decide)
 | ((with_reducible apply za5); first | (with_reducible assumption) | rfl) | ((with_reducible apply zbx); (focus wtm_at "mx so"); (focus first | (with_reducible assumption) | rfl)) | ((with_reducible apply zeW); (focus wtm_at "mx so"); (focus first | (with_reducible assumption) | rfl))
 | (refine zeX ?_ 8 ?_ ?_ ?_ <;> first | decide +kernel | rfl | decide) | (refine zfH ?_ 8 ?_ ?_ ?_ <;> first | decide +kernel | rfl | decide))
local macro_rules | `(tactic| wtm_at "mx fn") => `(tactic| first
 | (with_reducible exact MX.P.ev_int) | ((with_reducible apply zeT); exact Nat.le_of_ble_eq_true rfl) | ((with_reducible apply zen); exact Nat.le_of_ble_eq_true rfl) | (with_reducible exact zeo) | (with_reducible exact zc8) | (with_reducible exact zdb) | (with_reducible exact zel) | (with_reducible exact zem) | (with_reducible exact zeY) | (with_reducible exact zde)
 | ((with_reducible apply zcs); wtm_at "mx so") | ((with_reducible apply zcS); wtm_at "mx so") | ((with_reducible apply zbL); wtm_at "mx so") | ((with_reducible apply zdf); wtm_at "mx so")
 | ((with_reducible apply zcW); (focus wtm_at "mx so"); (focus rfl)) | ((with_reducible apply zda); (focus wtm_at "mx so"); (focus rfl); (focus rfl)) | ((with_reducible apply zdd); (focus wtm_at "mx so"); (focus rfl); (focus rfl)) | ((with_reducible apply zc9); (focus rfl); (focus rfl)) | ((with_reducible apply zdc); (focus rfl); (focus rfl))
 | ((with_reducible apply zah); (focus rfl); (focus wtm_at "mx call")))
local macro_rules | `(tactic| wtm_at "mx call") => `(tactic| first | (with_reducible assumption) | (with_reducible exact MX.P.sp_drawn _ _ _))
namespace MX.K23
open PySem L2 MX MX.P
abbrev Qd := Nat × Pt × Pt × Pt × Pt
def fcQ (x : Qd) : List Tr := fcs x.2.1 x.2.2.1 x.2.2.2.1 x.2.2.2.2
def four (x : Qd) : O := .lst [pD x.2.1, pD x.2.2.1, pD x.2.2.2.1, pD x.2.2.2.2]
def QB (x : Qd) : Prop := BdP 70 x.2.1 ∧ BdP 70 x.2.2.1 ∧ BdP 70 x.2.2.2.1 ∧ BdP 70 x.2.2.2.2
def wQ (p : Pt) (x : Qd) : Int := withM p x.2.1 x.2.2.1 x.2.2.2.1 x.2.2.2.2
def goT (p : Pt) (t : Tr) : Int := goM (wb p t.1) (wb p t.2.1) (wb p t.2.2)
def onR (p : Pt) (t : Tr) : Bool := onB p t.1 t.2.1 t.2.2
theorem zhb {E F : List (Pt × Pt)} (h : Closed E) (g : Closed F) : Closed (E ++ F) := fun e => by rw [List.count_append, List.count_append, h e, g e]
theorem zg9 (a b c e : Pt) : Closed (edL (fcs a b c e)) := fun x => by
 rw [← zik]
 simp only [fcs, edL, edE, List.flatMap_cons, List.flatMap_nil, List.cons_append, List.nil_append, List.append_nil, List.map_cons, List.map_nil, swp, List.count_cons, List.count_nil]
 omega
theorem ze0 : ∀ qs : List Qd, Closed (edL (qs.flatMap fcQ))
 | [] => zg8
 | x :: r => by
   have e : edL ((x :: r).flatMap fcQ) = edL (fcQ x) ++ edL (r.flatMap fcQ) := by unfold edL; rw [List.flatMap_cons, List.flatMap_append]
   rw [e]; exact zhb (zg9 _ _ _ _) (ze0 r)
theorem zmP (p a b c e : Pt) : (fcs a b c e).any (onR p) = true ↔ anyOn (wb p a) (wb p b) (wb p c) (wb p e) := by
 simp only [fcs, List.any_cons, List.any_nil, Bool.or_eq_true, onR, zhG, Bool.false_eq_true, or_false]
 constructor
 · rintro (h | h | h | h)
   · exact .inr (.inr (.inr (zbS h)))
   · exact .inr (.inl (zbS h))
   · exact .inr (.inr (.inl (zbS h)))
   · exact .inl (zbS h)
 · rintro (h | h | h | h)
   · exact .inr (.inr (.inr (zbS h)))
   · exact .inr (.inl (zbS h))
   · exact .inr (.inr (.inl (zbS h)))
   · exact .inl (zbS h)
theorem zj2 (p a b c e : Pt) : ((fcs a b c e).map (goT p)).sum = -tet (wb p a) (wb p b) (wb p c) (wb p e) := by
 simp only [fcs, List.map_cons, List.map_nil, List.sum_cons, List.sum_nil, goT, tet]
 rw [zfh (wb p a) (wb p b) (wb p c), zfh (wb p a) (wb p c) (wb p e), zfh (wb p a) (wb p e) (wb p b), zfh (wb p b) (wb p e) (wb p c)]
 omega
theorem zhl (p : Pt) : ∀ qs : List Qd, (qs.flatMap fcQ).any (onR p) = false → ((qs.flatMap fcQ).map (goT p)).sum = (qs.map (wQ p)).sum
 | [], _ => rfl
 | x :: r, h => by
   rw [List.flatMap_cons, List.any_append, Bool.or_eq_false_iff] at h
   rw [List.flatMap_cons, List.map_append, List.sum_append, List.map_cons, List.sum_cons, zhl p r h.2]
   congr 1
   have hn : ¬ anyOn (wb p x.2.1) (wb p x.2.2.1) (wb p x.2.2.2.1) (wb p x.2.2.2.2) := fun q => by
     have := (zmP p _ _ _ _).mpr q
     have h1 := h.1
     unfold fcQ at h1
     rw [this] at h1; cases h1
   unfold fcQ wQ
   rw [zj2, ziy hn]
def triB (p : Pt) (t : Tr) : Bool := decide (inTriL p 1 t.1 t.2.1 t.2.2)
def dueQ (p : Pt) (qs : List Qd) : Int := if (qs.flatMap fcQ).any (triB p) = true then 0 else if (qs.map (wQ p)).sum = 0 then -1 else 1
theorem zjM (p : Pt) : onR p = triB p := funext fun t => by
 unfold onR triB
 rw [Bool.eq_iff_iff, zhG, decide_eq_true_eq, zjk]
theorem zhz (p : Pt) (qs : List Qd) : placeM p (qs.flatMap fcQ) = dueQ p qs := by
 unfold placeM dueQ
 have e1 : (qs.flatMap fcQ).any (fun t => onB p t.1 t.2.1 t.2.2) = (qs.flatMap fcQ).any (triB p) := by rw [← zjM]; rfl
 rw [e1]
 cases h : (qs.flatMap fcQ).any (triB p) with
 | true => rfl
 | false =>
   have e2 : ((qs.flatMap fcQ).map fun t => goM (wb p t.1) (wb p t.2.1) (wb p t.2.2)).sum = (qs.map (wQ p)).sum := zhl p qs (by rw [zjM]; exact h)
   rw [e2]
theorem zjP {β : Type} {iv : Nat} {fe : EF} {src : List (Option Nat)} {σ : Sg} {x : D} {r : Nat} {S : So} {l : List β} (enc res : β → D) (hr : S[r]? = some (.lst (l.map enc))) (hi : σ[iv]? = some (some (.ref r))) (hs : srcD src σ = [none, some x]) (hf : ∀ b ∈ l, fe [some (enc b), some x] S = some (res b, S)) (hl : l.length ≤ 1000) :
   eLc (iVal (eVar iv)) (gNm 0) tTru fe src σ S = some (.ref S.length, S ++ [.lst (l.map res)]) := by
 have h := zc7 (nx := nxD (.lst r)) (g := gNm 0) (t := tTru) (fe := fe) (S := S) (xs := l.map enc) (fun τ => ∃ v, τ = [v, some x]) (fun _ => true)
   (fun d => ((fe [some d, some x] S).map (·.1)).getD .non) (fun i => by unfold nxD; simp only [hr])
   (fun d hd τ hτ => by
     obtain ⟨v, rfl⟩ := hτ
     obtain ⟨b, hb, rfl⟩ := List.mem_map.mp hd
     refine ⟨[some (enc b), some x], rfl, ⟨_, rfl⟩, rfl, fun _ => ?_⟩
     rw [hf b hb]; rfl)
   l.length 0 [none, some x] [] ⟨_, rfl⟩ (by simp)
 have e : ([] : List D) ++ (((l.map enc).drop 0).filter fun _ => true).map (fun d => ((fe [some d, some x] S).map (·.1)).getD .non) = l.map res := by
   rw [List.nil_append, List.drop_zero, List.filter_eq_self.mpr (fun _ _ => rfl), List.map_map]
   refine List.map_congr_left fun b hb => ?_
   show ((fe [some (enc b), some x] S).map (·.1)).getD .non = res b
   rw [hf b hb]; rfl
 rw [e] at h
 refine zcT (j := .lst r) (n := l.length) (za3 (zaa hi) hr) ?_ (Nat.le_trans hl (Nat.le_trans (by decide) zc6)) hs h
 have := zbM hr
 rw [List.length_map] at this
 exact this
theorem zli {qs : List Qd} (h : ∀ x ∈ qs, QB x) : ∀ t ∈ qs.flatMap fcQ, BdP 90 t.1 ∧ BdP 90 t.2.1 ∧ BdP 90 t.2.2 := fun t ht => by
 obtain ⟨x, hx, hm⟩ := List.mem_flatMap.mp ht
 obtain ⟨b1, b2, b3, b4⟩ := h x hx
 have w : ∀ {p : Pt}, BdP 70 p → BdP 90 p := fun h => h.le (by decide)
 simp only [fcQ, fcs, List.mem_cons, List.mem_nil_iff, or_false] at hm
 rcases hm with rfl | rfl | rfl | rfl
 · exact ⟨w b2, w b3, w b4⟩
 · exact ⟨w b1, w b4, w b3⟩
 · exact ⟨w b1, w b2, w b4⟩
 · exact ⟨w b1, w b3, w b2⟩
theorem zgA (qs : List Qd) : (qs.flatMap fcQ).length = 4 * qs.length := by
 induction qs with
 | nil => rfl
 | cons x r ih =>
   rw [List.flatMap_cons, List.length_append, ih, List.length_cons]
   show 4 + _ = _
   omega
theorem zmu {qs : List Qd} {f : Nat} {U : So} {d : Int} {x0 x1 x3 x4 x6 x7 x8 : Option D} (hf : U[f]? = some (.lst (qs.map fun x => D.ref x.1))) (h1 : 1 ≤ qs.length) (h2 : qs.length ≤ 2) : ∃ q ∈ qs, eB gIx (eVar 2) (eB (gBin .Mod) (eVar 5) (eN gLen (aCons (eVar 2) (aNil)))) [x0, x1, some (.ref f), x3, x4, some (.int d), x6, x7, x8] U = some (.ref q.1, U) := by
 have go : ∀ (n i : Int) (y : D), gLen [.ref f] U = some (.int n, U) → gBin .Mod (.int d) (.int n) U = some (.int i, U) → atI (qs.map fun x => D.ref x.1) i = some y → eB gIx (eVar 2) (eB (gBin .Mod) (eVar 5) (eN gLen (aCons (eVar 2) (aNil)))) [x0, x1, some (.ref f), x3, x4, some (.int d), x6, x7, x8] U = some (y, U) := fun _ _ _ a b c => zan (zaa rfl) (zan (zaa rfl) (zar (zab (zaa rfl) zag) a) b) (zbx hf c)
 cases qs with
 | nil => simp at h1
 | cons x r =>
   cases r with
   | nil =>
     have e : d.fmod 1 = 0 := by simp
     exact ⟨x, List.mem_cons_self, go 1 0 _ (by rw [zcs hf]; rfl) (by rw [zbw (by decide), e]) rfl⟩
   | cons y r =>
     cases r with
     | nil =>
       have q0 := Int.fmod_nonneg_of_pos d (show (0 : Int) < 2 by decide)
       have q1 := Int.fmod_lt_of_pos d (show (0 : Int) < 2 by decide)
       have : d.fmod 2 = 0 ∨ d.fmod 2 = 1 := by omega
       rcases this with e | e
       · exact ⟨x, List.mem_cons_self, go 2 0 _ (by rw [zcs hf]; rfl) (by rw [zbw (by decide), e]) rfl⟩
       · exact ⟨y, by simp, go 2 1 _ (by rw [zcs hf]; rfl) (by rw [zbw (by decide), e]) rfl⟩
     | cons z r => simp only [List.length_cons] at h2; omega
theorem zjV {ns : List Int} (hns : ns.length ≤ 63) {qs : List Qd} {f r : Nat} {U : So} (hU : WF U) (h0 : U[0]? = some (.frz (ns.map .int))) (hf : U[f]? = some (.lst (qs.map fun x => D.ref x.1))) (hr : U[r]? = some (.lst ((qs.flatMap fcQ).map trT))) (hq : ∀ x ∈ qs, U[x.1]? = some (four x)) (hb : ∀ x ∈ qs, QB x) (l1 : 1 ≤ qs.length) (l2 : qs.length ≤ 2) (k : Int) (x4 x5 x6 x7 x8 : Option D) :
   ∃ y5 y6 y7 y8 U', zbU [some (.ref 0), some (.int k), some (.ref f), some (.ref r), x4, x5, x6, x7, x8] U = some (.nx, [some (.ref 0), some (.int k), some (.ref f), some (.ref r), x4, y5, y6, y7, y8], U') ∧ Gr U U' := by
 have c1 := ze6 hns (k + 4) h0
 have dr := sp_drawn (cellI ns (k + 4)) k U
 generalize drawnI (cellI ns (k + 4)) k = d at dr
 have s1 : zb3 [some (.ref 0), some (.int k), some (.ref f), some (.ref r), x4, x5, x6, x7, x8] U = some (.nx, [some (.ref 0), some (.int k), some (.ref f), some (.ref r), x4, some (.int d), x6, x7, x8], U) := by
   unfold zb3
   exact zai (zar (zab (zar (zab (zaa rfl) (zab (zan (zaa rfl) zaH zb6) zag)) (zah rfl c1)) (zab (zaa rfl) zag)) (zah rfl dr)) rfl
 obtain ⟨q, hqm, ei⟩ := zmu (x0 := some (.ref 0)) (x1 := some (.int k)) (x3 := some (.ref r)) (x4 := x4) (x6 := x6) (x7 := x7) (x8 := x8) (d := d) hf l1 l2
 obtain ⟨b1, b2, b3, b4⟩ := hb q hqm
 obtain ⟨p, bp, fm⟩ := zkd b1 b2 b3 b4 (d.fdiv 2)
 have s2 : zb2 [some (.ref 0), some (.int k), some (.ref f), some (.ref r), x4, some (.int d), x6, x7, x8] U = some (.nx, [some (.ref 0), some (.int k), some (.ref f), some (.ref r), x4, some (.int d), some (pD p), x7, x8], U) := by
   unfold zb2
   exact zai (zar (zab ei (zab (zan (zaa rfl) zaH (zct (by decide))) zag)) (zah rfl (fm _ _ (hq q hqm)))) rfl
 have s3 : zb1 [some (.ref 0), some (.int k), some (.ref f), some (.ref r), x4, some (.int d), some (pD p), x7, x8] U = some (.nx, [some (.ref 0), some (.int k), some (.ref f), some (.ref r), x4, some (.int d), some (pD p), some (.int 0), x8], U) := by
   unfold zb1; rfl
 have fb := zli hb
 have fl := zgA qs
 have in1 := zjP (iv := 3) (src := [none, some 6]) (σ := [some (.ref 0), some (.int k), some (.ref f), some (.ref r), x4, some (.int d), some (pD p), some (.int 0), x8]) (x := pD p) (fe := eN (nArgs 3 zaE) (aCons (eVar 1) (aCons (eC (.int 1)) (aCons (eVar 0) (aNil))))) trT (fun t => .bl (triB p t)) hr rfl rfl
   (fun t ht => zar (zab (zaa rfl) (zab zaH (zab (zaa rfl) zag))) (zah rfl (zeE bp (fb t ht).1 (fb t ht).2.1 (fb t ht).2.2 ((Bd.lit 1).le (by decide)) (by decide) U))) (by omega)
 have g1 : Gr U (U ++ [.lst ((qs.flatMap fcQ).map fun t => D.bl (triB p t))]) := (Gr.refl hU).snoc (zbI.mpr fun x hx => by
   obtain ⟨t, _, rfl⟩ := List.mem_map.mp hx
   simp [D.lo])
 have n1 : (U ++ [O.lst ((qs.flatMap fcQ).map fun t => D.bl (triB p t))])[U.length]? = some (.lst ((qs.flatMap fcQ).map fun t => D.bl (triB p t))) := zau
 generalize U ++ [O.lst ((qs.flatMap fcQ).map fun t => D.bl (triB p t))] = U1 at *
 have any : gAny [.ref U.length] U1 = some (.bl ((qs.flatMap fcQ).any (triB p)), U1) := by
   unfold gAny
   simp only [n1]
   rw [zes (triB p), Option.map_some, List.any_map]
   rfl
 have tv : tNotF (tVal (eN gAny (aCons (eLc (iVal (eVar 3)) (gNm 0) (tTru) (eN (nArgs 3 zaE) (aCons (eVar 1) (aCons (eC (.int 1)) (aCons (eVar 0) (aNil))))) [none, some 6]) (aNil)))) [some (.ref 0), some (.int k), some (.ref f), some (.ref r), x4, some (.int d), some (pD p), some (.int 0), x8] U = some (!((qs.flatMap fcQ).any (triB p)), U1) := zfj (zek (zar (zab in1 zag) any) rfl)
 have key : ∃ U2, Gr U U2 ∧ zb0 [some (.ref 0), some (.int k), some (.ref f), some (.ref r), x4, some (.int d), some (pD p), some (.int 0), x8] U = some (.nx, [some (.ref 0), some (.int k), some (.ref f), some (.ref r), x4, some (.int d), some (pD p), some (.int (dueQ p qs)), x8], U2) := by
   unfold zb0 dueQ
   cases hA : (qs.flatMap fcQ).any (triB p) with
   | true =>
     rw [hA] at tv
     exact ⟨U1, g1, zaW tv (zaO rfl zaA)⟩
   | false =>
     rw [hA] at tv
     have g2 : Gr U (U1 ++ [.lst [.int (0 - 1), .int 1]]) := g1.snoc rfl
     have n2 : (U1 ++ [O.lst [.int (0 - 1), .int 1]])[U1.length]? = some (.lst [.int (0 - 1), .int 1]) := zau
     have e2 : eN gLst (aCons (eB (gBin .Sub) (eC (.int 0)) (eC (.int 1))) (aCons (eC (.int 1)) (aNil))) [some (.ref 0), some (.int k), some (.ref f), some (.ref r), x4, some (.int d), some (pD p), some (.int 0), x8] U1 = some (.ref U1.length, U1 ++ [.lst [.int (0 - 1), .int 1]]) := rfl
     generalize U1 ++ [O.lst [.int (0 - 1), .int 1]] = U2 at *
     have wi := zjP (iv := 2) (src := [none, some 6]) (σ := [some (.ref 0), some (.int k), some (.ref f), some (.ref r), x4, some (.int d), some (pD p), some (.int 0), x8]) (x := pD p) (fe := eN (nArgs 2 zbf) (aCons (eVar 1) (aCons (eVar 0) (aNil)))) (fun x : Qd => D.ref x.1) (fun x => .int (wQ p x)) (g2.old hf) rfl rfl
       (fun x hx => by
         obtain ⟨c1, c2, c3, c4⟩ := hb x hx
         have w : ∀ {p : Pt}, BdP 70 p → BdP 90 p := fun h => h.le (by decide)
         exact zar (zab (zaa rfl) (zab (zaa rfl) zag)) (zah rfl (zhp g2.2 (g2.old (hq x hx)) bp (w c1) (w c2) (w c3) (w c4) (by decide)))) (by omega)
     have g3 : Gr U (U2 ++ [.lst (qs.map fun x => D.int (wQ p x))]) := g2.snoc (zbI.mpr fun x hx => by
       obtain ⟨t, _, rfl⟩ := List.mem_map.mp hx
       simp [D.lo])
     have n3 : (U2 ++ [O.lst (qs.map fun x => D.int (wQ p x))])[U2.length]? = some (.lst (qs.map fun x => D.int (wQ p x))) := zau
     have m3 : (U2 ++ [O.lst (qs.map fun x => D.int (wQ p x))])[U1.length]? = some (.lst [.int (0 - 1), .int 1]) := zaV n2
     generalize U2 ++ [O.lst (qs.map fun x => D.int (wQ p x))] = U3 at *
     have sm : gSum [.ref U2.length] U3 = some (.int (qs.map (wQ p)).sum, U3) := by
       unfold gSum
       simp only [n3]
       rw [zff (wQ p)]
       rfl
     generalize (qs.map (wQ p)).sum = w at *
     have ix : atI [D.int (0 - 1), .int 1] (if (!decide (w = 0)) = true then 1 else 0) = some (.int (if w = 0 then -1 else 1)) := by
       by_cases hw : w = 0
       · subst hw; rfl
       · rw [za7 hw, if_neg hw]; rfl
     rw [if_neg Bool.false_ne_true]
     generalize (if w = 0 then (-1 : Int) else 1) = v at ix ⊢
     have e3 := zan (fa := eN gLst (aCons (eB (gBin .Sub) (eC (.int 0)) (eC (.int 1))) (aCons (eC (.int 1)) (aNil)))) e2 (zar (zab (zan (zar (zab wi zag) sm) (fb := eC (.int 0)) zaH zgb) zag) ev_int) (zbx m3 ix)
     exact ⟨U3, g3, zaW tv (za4 rfl (zac (zai e3 rfl) (zaf zaA)))⟩
 obtain ⟨U2, g2, s4⟩ := key
 have pl := zfR g2.2 (g2.old hr) (by omega) (ze0 qs) bp fb (by decide) (by decide)
 rw [zhz] at pl
 generalize dueQ p qs = due at *
 have s5 : zbZ [some (.ref 0), some (.int k), some (.ref f), some (.ref r), x4, some (.int d), some (pD p), some (.int due), x8] U2 = some (.nx, [some (.ref 0), some (.int k), some (.ref f), some (.ref r), x4, some (.int d), some (pD p), some (.int due), some (.int due)], U2) := by
   unfold zbZ
   exact zai (zar (zab (zaa rfl) (zab (zaa rfl) zag)) (zah rfl pl)) rfl
 have s6 : zbY [some (.ref 0), some (.int k), some (.ref f), some (.ref r), x4, some (.int d), some (pD p), some (.int due), some (.int due)] U2 = some (.nx, [some (.ref 0), some (.int k), some (.ref f), some (.ref r), x4, some (.int d), some (pD p), some (.int due), some (.int due)], U2) := by
   unfold zbY
   have wh := ziF due U2
   refine zaW (b := false) (S1 := U2) (zci (b := false) (S1 := U2) (zcM (zan (zaa rfl) (zaa rfl) ?_)) (zaO rfl (zfj (b := true) (zek (zar (zab (zaa rfl) zag) (zah rfl wh)) rfl)))) (zaO rfl zaA)
   rw [zgb]; simp
 refine ⟨some (.int d), some (pD p), some (.int due), some (.int due), U2, ?_, g2⟩
 unfold zbU
 exact zac s1 (zaf (zac s2 (zaf (zac s3 (zaf (zac s4 (zaf (zac s5 (zaf (zac s6 (zaf zaA)))))))))))
theorem zjo {ns : List Int} (hns : ns.length ≤ 63) {S : So} (hS : WF S) (h0 : S[0]? = some (.frz (ns.map .int))) (js : List (Option D)) :
   ∃ (qs : List Qd) (T : So), 1 ≤ qs.length ∧ qs.length ≤ 2 ∧ Gr S T ∧ (∀ x ∈ qs, T[x.1]? = some (four x)) ∧ (∀ x ∈ qs, QB x) ∧ eLc (iRg1 (aCons (eB (gBin .Add) (eC (.int 1)) (eB (gBin .Mod) (eN (nArgs 2 zaK) (aCons (eVar 0) (aCons (eC (.int 3)) (aNil)))) (eC (.int 2)))) (aNil))) (gNm 0) (tTru) (eN (nArgs 2 za2) (aCons (eVar 1) (aCons (eVar 0) (aNil)))) [none, some 0] (some (.ref 0) :: js) S = some (.ref T.length, T ++ [.lst (qs.map fun x => D.ref x.1)]) := by
 have c3 := ze6 hns 3 h0
 generalize cellI ns 3 = z at c3
 have ar : aCons (eB (gBin .Add) (eC (.int 1)) (eB (gBin .Mod) (eN (nArgs 2 zaK) (aCons (eVar 0) (aCons (eC (.int 3)) (aNil)))) (eC (.int 2)))) (aNil) (some (.ref 0) :: js) S = some ([.int (1 + z.fmod 2)], S) := zab (zan zaH (zan (zar (zab (zaa rfl) (zab zaH zag)) (zah rfl c3)) zaH (zbw (by decide))) zb6) zag
 obtain ⟨a1, b1, c1, e1, ba1, bb1, bc1, be1, f1⟩ := zd4 hns 0
 obtain ⟨n1, T1, g1, m1, r1⟩ := f1 S hS h0
 obtain ⟨a2, b2, c2, e2, ba2, bb2, bc2, be2, f2⟩ := zd4 hns 1
 obtain ⟨n2, T2, g2, m2, r2⟩ := f2 T1 g1.2 (g1.old h0)
 have q0 := Int.fmod_nonneg_of_pos z (show (0 : Int) < 2 by decide)
 have q1 := Int.fmod_lt_of_pos z (show (0 : Int) < 2 by decide)
 have hz : z.fmod 2 = 0 ∨ z.fmod 2 = 1 := by omega
 rcases hz with hz | hz
 · rw [hz] at ar
   refine ⟨[(n1, a1, b1, c1, e1)], T1, by show 1 ≤ 1; decide, by show 1 ≤ 2; decide, g1, fun x hx => ?_, fun x hx => ?_, ?_⟩
   · rw [List.mem_singleton.mp hx]; exact m1
   · rw [List.mem_singleton.mp hx]; exact ⟨ba1, bb1, bc1, be1⟩
   · refine zcT (j := .fix (rangeD 0 1)) (n := 1) (S1 := S) (zcU (j := 1) ar (by decide)) rfl (by decide) rfl ?_
     exact zaF (zc5 (z := 0) (by decide) rfl) rfl zas (zar (zab (zaa rfl) (zab (zaa rfl) zag)) (zah rfl r1)) rfl (zcj rfl)
 · rw [hz] at ar
   refine ⟨[(n1, a1, b1, c1, e1), (n2, a2, b2, c2, e2)], T2, by show 1 ≤ 2; decide, Nat.le_refl _, g1.trans g2, fun x hx => ?_, fun x hx => ?_, ?_⟩
   · simp only [List.mem_cons, List.mem_nil_iff, or_false] at hx
     rcases hx with rfl | rfl
     · exact g2.old m1
     · exact m2
   · simp only [List.mem_cons, List.mem_nil_iff, or_false] at hx
     rcases hx with rfl | rfl
     · exact ⟨ba1, bb1, bc1, be1⟩
     · exact ⟨ba2, bb2, bc2, be2⟩
   · refine zcT (j := .fix (rangeD 0 2)) (n := 2) (S1 := S) (zcU (j := 2) ar (by decide)) rfl (by decide) rfl ?_
     exact zaF (zc5 (z := 0) (by decide) rfl) rfl zas (zar (zab (zaa rfl) (zab (zaa rfl) zag)) (zah rfl r1)) rfl (zaF (zc5 (z := 1) (by decide) rfl) rfl zas (zar (zab (zaa rfl) (zab (zaa rfl) zag)) (zah rfl r2)) rfl (zcj rfl))
theorem zjc : ∀ ns : List Int, ns.length ≤ 63 → ∃ σ' S'', zdi (stD 9 [.ref 0]) [.frz (ns.map D.int)] = some (.rt (.bl true), σ', S'') := fun ns hns => by
 have h0 : ([O.frz (ns.map D.int)] : So)[0]? = some (.frz (ns.map .int)) := rfl
 have w0 : WF [O.frz (ns.map D.int)] := fun o ho => by
   rw [List.mem_singleton.mp ho]
   exact zf7 _ _
 generalize ([O.frz (ns.map D.int)] : So) = S at h0 w0
 obtain ⟨qs, T, l1, l2, g1, hq, hb, e1⟩ := zjo hns w0 h0 [none, none, none, none, none, none, none, none]
 have g2 : Gr S (T ++ [.lst (qs.map fun x => D.ref x.1)]) := g1.snoc (zbI.mpr fun x hx => by
   obtain ⟨y, hy, rfl⟩ := List.mem_map.mp hx
   simp only [D.lo, decide_eq_true_eq]
   exact (List.getElem?_eq_some_iff.mp (hq y hy)).1)
 have f2 : (T ++ [O.lst (qs.map fun x => D.ref x.1)])[T.length]? = some (.lst (qs.map fun x => D.ref x.1)) := zau
 have q2 : ∀ x ∈ qs, (T ++ [O.lst (qs.map fun x => D.ref x.1)])[x.1]? = some (four x) := fun x hx => zaV (hq x hx)
 generalize T ++ [O.lst (qs.map fun x => D.ref x.1)] = S2 at *
 generalize T.length = f at *
 have g3 : Gr S (S2 ++ [.lst []]) := g2.snoc rfl
 have g23 : Gr S2 (S2 ++ [.lst []]) := (Gr.refl g2.2).snoc rfl
 have r3 : (S2 ++ [O.lst []])[S2.length]? = some (.lst []) := zau
 have s2 : zcX [some (.ref 0), none, some (.ref f), none, none, none, none, none, none] S2 = some (.nx, [some (.ref 0), none, some (.ref f), some (.ref S2.length), none, none, none, none, none], S2 ++ [.lst []]) := by
   unfold zcX; rfl
 generalize S2 ++ [O.lst []] = S3 at *
 obtain ⟨σ3, S4, e3, hP3⟩ := zdU (nx := nxD (.lst f)) (g := gNm 4) (f := zcz) (xs := qs.map fun x => D.ref x.1)
   (fun i σ U => (∃ r x4, σ = [some (.ref 0), none, some (.ref f), some (.ref r), x4, none, none, none, none] ∧ U[r]? = some (.lst (((qs.take i).flatMap fcQ).map trT))) ∧ Gr S2 U)
   (fun i σ U ⟨_, g⟩ => by unfold nxD; simp only [g.old f2])
   (fun i d σ U hd ⟨⟨r, x4, hσ, hr⟩, g⟩ => by
     subst hσ
     rw [List.getElem?_map] at hd
     obtain ⟨x, hx, rfl⟩ := Option.map_eq_some_iff.mp hd
     have hxm : x ∈ qs := List.mem_of_getElem? hx
     have fa := ziJ g.2 (g.old (q2 x hxm))
     have ga : Gr S2 (U ++ [.lst ((fcQ x).map trT)]) := g.snoc rfl
     have ra : (U ++ [O.lst ((fcQ x).map trT)])[r]? = some (.lst (((qs.take i).flatMap fcQ).map trT)) := zaV hr
     have na : (U ++ [O.lst ((fcQ x).map trT)])[U.length]? = some (.lst ((fcQ x).map trT)) := zau
     have fa' : zbs [.ref x.1] U = some (.ref U.length, U ++ [.lst ((fcQ x).map trT)]) := fa
     generalize U ++ [O.lst ((fcQ x).map trT)] = U1 at *
     have hlen : (((qs.take i).flatMap fcQ).map trT).length + ((fcQ x).map trT).length ≤ 1000 := by
       rw [List.length_map, List.length_map, zgA, List.length_take]
       show _ + 4 ≤ 1000
       omega
     have ad := addLL (σ := [some (.ref 0), none, some (.ref f), some (.ref r), some (.ref x.1), none, none, none, none]) (fa := eVar 3) (fb := eN (nArgs 1 zbs) (aCons (eVar 4) (aNil))) (S1 := U) (zaa rfl) (zar (zab (zaa rfl) zag) (zah rfl fa')) ra na hlen
     have el : ((qs.take i).flatMap fcQ).map trT ++ (fcQ x).map trT = ((qs.take (i + 1)).flatMap fcQ).map trT := by
       have : qs.take (i + 1) = qs.take i ++ [x] := by
         obtain ⟨k1, k2⟩ := List.getElem?_eq_some_iff.mp hx
         rw [← k2]; simp
       rw [this, List.flatMap_append, List.map_append]
       simp
     rw [el] at ad
     refine ⟨[some (.ref 0), none, some (.ref f), some (.ref r), some (.ref x.1), none, none, none, none], U, .nx, [some (.ref 0), none, some (.ref f), some (.ref U1.length), some (.ref x.1), none, none, none, none], U1 ++ [.lst (((qs.take (i + 1)).flatMap fcQ).map trT)], rfl, ?_, .inl rfl, ⟨U1.length, some (.ref x.1), rfl, zau⟩, ga.snoc ?_⟩
     · unfold zcz zcN
       exact zac (zai ad rfl) (zaf zaA)
     · refine zbI.mpr fun y hy => ?_
       obtain ⟨t, _, rfl⟩ := List.mem_map.mp hy
       rfl)
   (qs.map fun x => D.ref x.1).length 0 [some (.ref 0), none, some (.ref f), some (.ref S2.length), none, none, none, none, none] S3 ⟨⟨S2.length, none, rfl, r3⟩, g23⟩ (by simp)
 obtain ⟨⟨r, x4, rfl, hr⟩, g4⟩ := hP3
 rw [List.length_map, List.take_length] at hr
 have h2 := g2.old h0
 obtain ⟨σ4, S5, e4, hP4⟩ := zdU (nx := nxD (.fix (rangeD 0 3))) (g := gNm 1) (f := zbU) (xs := rangeD 0 3)
   (fun i σ U => (∃ y1 y5 y6 y7 y8, σ = [some (.ref 0), y1, some (.ref f), some (.ref r), x4, y5, y6, y7, y8]) ∧ Gr S4 U)
   (fun i σ U _ => rfl)
   (fun i d σ U hd ⟨⟨y1, y5, y6, y7, y8, hσ⟩, g⟩ => by
     subst hσ
     rw [zdt] at hd
     split at hd
     · cases hd
       obtain ⟨z5, z6, z7, z8, U', q1, q4⟩ := zjV hns (qs := qs) (f := f) (r := r) g.2 (g.old (g4.old h2)) (g.old (g4.old f2)) (g.old hr) (fun x hx => g.old (g4.old (q2 x hx))) hb l1 l2 (0 + (i : Nat)) x4 y5 y6 y7 y8
       exact ⟨_, U, .nx, _, U', rfl, q1, .inl rfl, ⟨_, _, _, _, _, rfl⟩, g.trans q4⟩
     · cases hd) (rangeD 0 3).length 0 [some (.ref 0), none, some (.ref f), some (.ref r), x4, none, none, none, none] S4 ⟨⟨_, _, _, _, _, rfl⟩, Gr.refl g4.2⟩ (by simp)
 refine ⟨σ4, S5, ?_⟩
 show zdi [some (.ref 0), none, none, none, none, none, none, none, none] S = _
 unfold zdi zey zex zew zev
 exact zac (zai e1 rfl) (zaf (zac s2 (zaf (zac (zbc (za3 (zaa rfl) (g23.old f2)) (zbM (g23.old f2)) e3) (zaf (zac (zbc (zcU (j := 3) (zab zaH zag) (by decide)) rfl e4) (zaf (zac (zaB zaH) zaj))))))))
end MX.K23
end
section
set_option autoImplicit false
local macro_rules | `(tactic| wtm_at "sc") => `(tactic| exact ⟨rfl, rfl, rfl, by decide +kernel, by kernel_rfl, by decide +kernel, by decide +kernel⟩)
namespace MX.K23
open PySem PySem.Spec PySem.W PyProof.Rows L2 MX MX.P
abbrev F0 : List (Str × Nat × GN) := []
abbrev F1 : List (Str × Nat × GN) := ("common_divisor", 2, za9) :: F0
abbrev F2 : List (Str × Nat × GN) := ("lowest_terms", 1, zaJ) :: F1
abbrev F3 : List (Str × Nat × GN) := ("is_less", 2, zej) :: F2
abbrev F4 : List (Str × Nat × GN) := ("way_between", 2, zad) :: F3
abbrev F5 : List (Str × Nat × GN) := ("dot", 2, za6) :: F4
abbrev F6 : List (Str × Nat × GN) := ("cross", 2, zaG) :: F5
abbrev F7 : List (Str × Nat × GN) := ("edges_of", 1, zaY) :: F6
abbrev F8 : List (Str × Nat × GN) := ("meets_along", 3, zb9) :: F7
abbrev F9 : List (Str × Nat × GN) := ("meets_segment", 3, zbK) :: F8
abbrev F10 : List (Str × Nat × GN) := ("meets_edges", 2, za0) :: F9
abbrev F11 : List (Str × Nat × GN) := ("goes_through", 3, zav) :: F10
abbrev F12 : List (Str × Nat × GN) := ("meets_within_plane", 3, zax) :: F11
abbrev F13 : List (Str × Nat × GN) := ("meets_triangle", 2, zam) :: F12
abbrev F14 : List (Str × Nat × GN) := ("is_closed", 1, zcQ) :: F13
abbrev F15 : List (Str × Nat × GN) := ("determinant", 1, zca) :: F14
abbrev F16 : List (Str × Nat × GN) := ("sign_of", 1, zcp) :: F15
abbrev F17 : List (Str × Nat × GN) := ("sign_along", 1, zbr) :: F16
abbrev F18 : List (Str × Nat × GN) := ("goes_out", 2, zcG) :: F17
abbrev F19 : List (Str × Nat × GN) := ("is_on", 2, zei) :: F18
abbrev F20 : List (Str × Nat × GN) := ("place_of", 2, zdy) :: F19
abbrev F21 : List (Str × Nat × GN) := ("_law_cell", 2, zaK) :: F20
abbrev F22 : List (Str × Nat × GN) := ("_law_drawn", 2, zbT) :: F21
abbrev F23 : List (Str × Nat × GN) := ("_law_whole", 1, zcq) :: F22
abbrev F24 : List (Str × Nat × GN) := ("_law_spot", 1, zbj) :: F23
abbrev F25 : List (Str × Nat × GN) := ("_law_put", 2, za1) :: F24
abbrev F26 : List (Str × Nat × GN) := ("_law_way", 2, zba) :: F25
abbrev F27 : List (Str × Nat × GN) := ("_law_flat", 4, zak) :: F26
abbrev F28 : List (Str × Nat × GN) := ("_law_on", 4, zcr) :: F27
abbrev F29 : List (Str × Nat × GN) := ("_law_in_triangle", 3, zaE) :: F28
abbrev F30 : List (Str × Nat × GN) := ("_law_det", 3, zdz) :: F29
abbrev F31 : List (Str × Nat × GN) := ("_law_four", 1, zcb) :: F30
abbrev F32 : List (Str × Nat × GN) := ("_law_faces", 1, zbs) :: F31
abbrev F33 : List (Str × Nat × GN) := ("_law_span", 1, zaR) :: F32
abbrev F34 : List (Str × Nat × GN) := ("_law_within", 2, zbf) :: F33
abbrev F35 : List (Str × Nat × GN) := ("_law_mean", 2, zcR) :: F34
abbrev F36 : List (Str × Nat × GN) := ("_law_corners", 2, za2) :: F35
theorem call : WalkO seen [] (fun _ _ => True) (topHook defs blt).says PySem.Challenge.rw_firsthit_k23_whole_place_in_corners.row.toRowW lawRec [] fun f vs => PySem.call f vs := by
 refine zhf (k := 37) (x := "_law_script") rfl rfl ⟨rfl, by decide, by decide⟩ ?F
 case F =>
   intro w mg fa h K KX G hmg hD hB
   have H : ∀ i (h : i < defs.length), DefK K (defs[i]).1 (defs[i]).2 := fun i h => hD _ (List.getElem_mem h)
   have hb := zjE KX G hB
   have hs : ∀ base : Heap, FnsOk PG w K mg base 36 F36 := by
     intro base
     have h0 : FnsOk PG w K mg base 0 F0 := FnsOk.nil
     have h1 : FnsOk PG w K mg base 1 F1 := zaq (x := "common_divisor") (st := top 4) (ps := ["one", "other"]) (n := 3) (fb := zbv) (m := 40) h0 KX G hb (H 0 (by decide)) (bind2 fun _ _ _ _ _ _ _ _ => rfl) (by wtm_at "sc") (by decide +kernel) (by kernel_rfl) (by kernel_rfl)
     have h2 : FnsOk PG w K mg base 2 F2 := zaq (x := "lowest_terms") (st := top 5) (ps := ["ratio"]) (n := 2) (fb := zbX) (m := 40) h1 KX G hb (H 1 (by decide)) (bind1 fun _ _ _ _ _ _ _ => rfl) (by wtm_at "sc") (by decide +kernel) (by kernel_rfl) (by kernel_rfl)
     have h3 : FnsOk PG w K mg base 3 F3 := zaq (x := "is_less") (st := top 6) (ps := ["one", "other"]) (n := 2) (fb := zdj) (m := 40) h2 KX G hb (H 2 (by decide)) (bind2 fun _ _ _ _ _ _ _ _ => rfl) (by wtm_at "sc") (by decide +kernel) (by kernel_rfl) (by kernel_rfl)
     have h4 : FnsOk PG w K mg base 4 F4 := zaq (x := "way_between") (st := top 7) (ps := ["one", "other"]) (n := 2) (fb := zbE) (m := 40) h3 KX G hb (H 3 (by decide)) (bind2 fun _ _ _ _ _ _ _ _ => rfl) (by wtm_at "sc") (by decide +kernel) (by kernel_rfl) (by kernel_rfl)
     have h5 : FnsOk PG w K mg base 5 F5 := zaq (x := "dot") (st := top 8) (ps := ["one", "other"]) (n := 2) (fb := zjG) (m := 40) h4 KX G hb (H 4 (by decide)) (bind2 fun _ _ _ _ _ _ _ _ => rfl) (by wtm_at "sc") (by decide +kernel) (by kernel_rfl) (by kernel_rfl)
     have h6 : FnsOk PG w K mg base 6 F6 := zaq (x := "cross") (st := top 9) (ps := ["one", "other"]) (n := 2) (fb := zfn) (m := 40) h5 KX G hb (H 5 (by decide)) (bind2 fun _ _ _ _ _ _ _ _ => rfl) (by wtm_at "sc") (by decide +kernel) (by kernel_rfl) (by kernel_rfl)
     have h7 : FnsOk PG w K mg base 7 F7 := zaq (x := "edges_of") (st := top 11) (ps := ["triangle"]) (n := 1) (fb := zcI) (m := 40) h6 KX G hb (H 6 (by decide)) (bind1 fun _ _ _ _ _ _ _ => rfl) (by wtm_at "sc") (by decide +kernel) (by kernel_rfl) (by kernel_rfl)
     have h8 : FnsOk PG w K mg base 8 F8 := zaq (x := "meets_along") (st := top 12) (ps := ["ray", "one", "other"]) (n := 6) (fb := zbh) (m := 40) h7 KX G hb (H 7 (by decide)) (bind3 fun _ _ _ _ _ _ _ _ _ => rfl) (by wtm_at "sc") (by decide +kernel) (by kernel_rfl) (by kernel_rfl)
     have h9 : FnsOk PG w K mg base 9 F9 := zaq (x := "meets_segment") (st := top 13) (ps := ["ray", "one", "other"]) (n := 10) (fb := zaC) (m := 40) h8 KX G hb (H 8 (by decide)) (bind3 fun _ _ _ _ _ _ _ _ _ => rfl) (by wtm_at "sc") (by decide +kernel) (by kernel_rfl) (by kernel_rfl)
     have h10 : FnsOk PG w K mg base 10 F10 := zaq (x := "meets_edges") (st := top 14) (ps := ["ray", "triangle"]) (n := 6) (fb := zce) (m := 40) h9 KX G hb (H 9 (by decide)) (bind2 fun _ _ _ _ _ _ _ _ => rfl) (by wtm_at "sc") (by decide +kernel) (by kernel_rfl) (by kernel_rfl)
     have h11 : FnsOk PG w K mg base 11 F11 := zaq (x := "goes_through") (st := top 15) (ps := ["start", "way", "triangle"]) (n := 5) (fb := zbp) (m := 40) h10 KX G hb (H 10 (by decide)) (bind3 fun _ _ _ _ _ _ _ _ _ => rfl) (by wtm_at "sc") (by decide +kernel) (by kernel_rfl) (by kernel_rfl)
     have h12 : FnsOk PG w K mg base 12 F12 := zaq (x := "meets_within_plane") (st := top 16) (ps := ["ray", "triangle", "upright"]) (n := 3) (fb := zaL) (m := 40) h11 KX G hb (H 11 (by decide)) (bind3 fun _ _ _ _ _ _ _ _ _ => rfl) (by wtm_at "sc") (by decide +kernel) (by kernel_rfl) (by kernel_rfl)
     have h13 : FnsOk PG w K mg base 13 F13 := zaq (x := "meets_triangle") (st := top 17) (ps := ["ray", "triangle"]) (n := 5) (fb := zao) (m := 40) h12 KX G hb (H 12 (by decide)) (bind2 fun _ _ _ _ _ _ _ _ => rfl) (by wtm_at "sc") (by decide +kernel) (by kernel_rfl) (by kernel_rfl)
     have h14 : FnsOk PG w K mg base 14 F14 := zaq (x := "is_closed") (st := top 19) (ps := ["triangles"]) (n := 4) (fb := zcY) (m := 40) h13 KX G hb (H 13 (by decide)) (bind1 fun _ _ _ _ _ _ _ => rfl) (by wtm_at "sc") (by decide +kernel) (by kernel_rfl) (by kernel_rfl)
     have h15 : FnsOk PG w K mg base 15 F15 := zaq (x := "determinant") (st := top 20) (ps := ["rows"]) (n := 1) (fb := zcf) (m := 40) h14 KX G hb (H 14 (by decide)) (bind1 fun _ _ _ _ _ _ _ => rfl) (by wtm_at "sc") (by decide +kernel) (by kernel_rfl) (by kernel_rfl)
     have h16 : FnsOk PG w K mg base 16 F16 := zaq (x := "sign_of") (st := top 21) (ps := ["number"]) (n := 1) (fb := zcu) (m := 40) h15 KX G hb (H 15 (by decide)) (bind1 fun _ _ _ _ _ _ _ => rfl) (by wtm_at "sc") (by decide +kernel) (by kernel_rfl) (by kernel_rfl)
     have h17 : FnsOk PG w K mg base 17 F17 := zaq (x := "sign_along") (st := top 22) (ps := ["upright"]) (n := 2) (fb := zbd) (m := 40) h16 KX G hb (H 16 (by decide)) (bind1 fun _ _ _ _ _ _ _ => rfl) (by wtm_at "sc") (by decide +kernel) (by kernel_rfl) (by kernel_rfl)
     have h18 : FnsOk PG w K mg base 18 F18 := zaq (x := "goes_out") (st := top 23) (ps := ["point", "triangle"]) (n := 5) (fb := zdC) (m := 40) h17 KX G hb (H 17 (by decide)) (bind2 fun _ _ _ _ _ _ _ _ => rfl) (by wtm_at "sc") (by decide +kernel) (by kernel_rfl) (by kernel_rfl)
     have h19 : FnsOk PG w K mg base 19 F19 := zaq (x := "is_on") (st := top 24) (ps := ["point", "triangle"]) (n := 2) (fb := zgm) (m := 40) h18 KX G hb (H 18 (by decide)) (bind2 fun _ _ _ _ _ _ _ _ => rfl) (by wtm_at "sc") (by decide +kernel) (by kernel_rfl) (by kernel_rfl)
     have h20 : FnsOk PG w K mg base 20 F20 := zaq (x := "place_of") (st := top 25) (ps := ["point", "triangles"]) (n := 3) (fb := zcH) (m := 40) h19 KX G hb (H 19 (by decide)) (bind2 fun _ _ _ _ _ _ _ _ => rfl) (by wtm_at "sc") (by decide +kernel) (by kernel_rfl) (by kernel_rfl)
     have h21 : FnsOk PG w K mg base 21 F21 := zaq (x := "_law_cell") (st := top 27) (ps := ["_law_script", "_law_k"]) (n := 2) (fb := zch) (m := 40) h20 KX G hb (H 20 (by decide)) (bind2 fun _ _ _ _ _ _ _ _ => rfl) (by wtm_at "sc") (by decide +kernel) (by kernel_rfl) (by kernel_rfl)
     have h22 : FnsOk PG w K mg base 22 F22 := zaq (x := "_law_drawn") (st := top 28) (ps := ["_law_cell_here", "_law_k"]) (n := 3) (fb := zbV) (m := 40) h21 KX G hb (H 21 (by decide)) (bind2 fun _ _ _ _ _ _ _ _ => rfl) (by wtm_at "sc") (by decide +kernel) (by kernel_rfl) (by kernel_rfl)
     have h23 : FnsOk PG w K mg base 23 F23 := zaq (x := "_law_whole") (st := top 29) (ps := ["_law_thing"]) (n := 1) (fb := zcA) (m := 40) h22 KX G hb (H 22 (by decide)) (bind1 fun _ _ _ _ _ _ _ => rfl) (by wtm_at "sc") (by decide +kernel) (by kernel_rfl) (by kernel_rfl)
     have h24 : FnsOk PG w K mg base 24 F24 := zaq (x := "_law_spot") (st := top 30) (ps := ["_law_more"]) (n := 1) (fb := zcZ) (m := 40) h23 KX G hb (H 23 (by decide)) (bind1 fun _ _ _ _ _ _ _ => rfl) (by wtm_at "sc") (by decide +kernel) (by kernel_rfl) (by kernel_rfl)
     have h25 : FnsOk PG w K mg base 25 F25 := zaq (x := "_law_put") (st := top 31) (ps := ["_law_point", "_law_cell_here"]) (n := 3) (fb := zbF) (m := 40) h24 KX G hb (H 24 (by decide)) (bind2 fun _ _ _ _ _ _ _ _ => rfl) (by wtm_at "sc") (by decide +kernel) (by kernel_rfl) (by kernel_rfl)
     have h26 : FnsOk PG w K mg base 26 F26 := zaq (x := "_law_way") (st := top 32) (ps := ["_law_one", "_law_other"]) (n := 2) (fb := zdD) (m := 40) h25 KX G hb (H 25 (by decide)) (bind2 fun _ _ _ _ _ _ _ _ => rfl) (by wtm_at "sc") (by decide +kernel) (by kernel_rfl) (by kernel_rfl)
     have h27 : FnsOk PG w K mg base 27 F27 := zaq (x := "_law_flat") (st := top 33) (ps := ["_law_one", "_law_other", "_law_i", "_law_j"]) (n := 4) (fb := zbQ) (m := 40) h26 KX G hb (H 26 (by decide)) (bind4 fun _ _ _ _ _ _ _ _ _ _ => rfl) (by wtm_at "sc") (by decide +kernel) (by kernel_rfl) (by kernel_rfl)
     have h28 : FnsOk PG w K mg base 28 F28 := zaq (x := "_law_on") (st := top 34) (ps := ["_law_point", "_law_under", "_law_one", "_law_other"]) (n := 7) (fb := zb7) (m := 40) h27 KX G hb (H 27 (by decide)) (bind4 fun _ _ _ _ _ _ _ _ _ _ => rfl) (by wtm_at "sc") (by decide +kernel) (by kernel_rfl) (by kernel_rfl)
     have h29 : FnsOk PG w K mg base 29 F29 := zaq (x := "_law_in_triangle") (st := top 35) (ps := ["_law_point", "_law_under", "_law_corners_here"]) (n := 15) (fb := zbi) (m := 40) h28 KX G hb (H 28 (by decide)) (bind3 fun _ _ _ _ _ _ _ _ _ => rfl) (by wtm_at "sc") (by decide +kernel) (by kernel_rfl) (by kernel_rfl)
     have h30 : FnsOk PG w K mg base 30 F30 := zaq (x := "_law_det") (st := top 36) (ps := ["_law_one", "_law_other", "_law_third"]) (n := 5) (fb := zdE) (m := 40) h29 KX G hb (H 29 (by decide)) (bind3 fun _ _ _ _ _ _ _ _ _ => rfl) (by wtm_at "sc") (by decide +kernel) (by kernel_rfl) (by kernel_rfl)
     have h31 : FnsOk PG w K mg base 31 F31 := zaq (x := "_law_four") (st := top 37) (ps := ["_law_more"]) (n := 1) (fb := zc2) (m := 40) h30 KX G hb (H 30 (by decide)) (bind1 fun _ _ _ _ _ _ _ => rfl) (by wtm_at "sc") (by decide +kernel) (by kernel_rfl) (by kernel_rfl)
     have h32 : FnsOk PG w K mg base 32 F32 := zaq (x := "_law_faces") (st := top 38) (ps := ["_law_four_here"]) (n := 5) (fb := zcC) (m := 40) h31 KX G hb (H 31 (by decide)) (bind1 fun _ _ _ _ _ _ _ => rfl) (by wtm_at "sc") (by decide +kernel) (by kernel_rfl) (by kernel_rfl)
     have h33 : FnsOk PG w K mg base 33 F33 := zaq (x := "_law_span") (st := top 39) (ps := ["_law_four_here"]) (n := 5) (fb := zc0) (m := 40) h32 KX G hb (H 32 (by decide)) (bind1 fun _ _ _ _ _ _ _ => rfl) (by wtm_at "sc") (by decide +kernel) (by kernel_rfl) (by kernel_rfl)
     have h34 : FnsOk PG w K mg base 34 F34 := zaq (x := "_law_within") (st := top 40) (ps := ["_law_point", "_law_four_here"]) (n := 8) (fb := zcg) (m := 40) h33 KX G hb (H 33 (by decide)) (bind2 fun _ _ _ _ _ _ _ _ => rfl) (by wtm_at "sc") (by decide +kernel) (by kernel_rfl) (by kernel_rfl)
     have h35 : FnsOk PG w K mg base 35 F35 := zaq (x := "_law_mean") (st := top 41) (ps := ["_law_four_here", "_law_here"]) (n := 6) (fb := zc1) (m := 40) h34 KX G hb (H 34 (by decide)) (bind2 fun _ _ _ _ _ _ _ _ => rfl) (by wtm_at "sc") (by decide +kernel) (by kernel_rfl) (by kernel_rfl)
     have h36 : FnsOk PG w K mg base 36 F36 := zaq (x := "_law_corners") (st := top 42) (ps := ["_law_script", "_law_k"]) (n := 5) (fb := zbl) (m := 40) h35 KX G hb (H 35 (by decide)) (bind2 fun _ _ _ _ _ _ _ _ => rfl) (by wtm_at "sc") (by decide +kernel) (by kernel_rfl) (by kernel_rfl)
     exact h36
   exact zjf (m := 40) (n := 9) (fb := zdi) (fns := F36) KX G hb hmg (H 36 (by decide)) (show BindK "law" (top 43) ["_law_script"] from bind1 fun _ _ _ _ _ _ _ => rfl) (by wtm_at "sc") (by decide +kernel) (by kernel_rfl) (by kernel_rfl) (fun base _ _ => hs base) zjc
end MX.K23
theorem PySem.Challenge.cw_firsthit_k23_whole_place_in_corners_holds : PySem.Challenge.rw_firsthit_k23_whole_place_in_corners.Holds := by
 exact MX.zlc (H := MX.topHook MX.K23.defs MX.K23.blt) (q := MX.K23.seen) (d := MX.K23.lawRec) (by kernel_rfl) MX.K23.left (by kernel_rfl) (by kernel_rfl) (by kernel_rfl) (by kernel_rfl) ⟨rfl, rfl, rfl, rfl, rfl, by decide +kernel⟩ (by w_witness2) MX.K23.call
#print axioms PySem.Challenge.cw_firsthit_k23_whole_place_in_corners_holds
end
