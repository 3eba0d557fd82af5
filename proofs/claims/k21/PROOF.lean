import PyProof.Rows.All
import Wide.All
import OpenK.AllK
import Wide.FinOn
import PyProof.EqAt
import PyProof.EqKinds
import PyProof.TupleCall
import PyProof.DictRoadsH
import PyProof.DictItems
import PySem.Challenge.RW_firsthit_k21_closed_and_volume
noncomputable section
set_option Elab.async false
set_option linter.all false
set_option maxRecDepth 100000
set_option maxHeartbeats 0
section
set_option autoImplicit false
namespace MX
open PySem PySem.Spec PySem.W PyProof.Rows
def keepO (a : Addr) (o : Obj) : Bool := match o.data with
 | .freed => false
 | _ => match o.cls with
   | .none => Nat.beq a 3
   | _ => true
def fragFrom : List Obj → Addr → PySem.W.Frag
 | [], _ => []
 | o :: r, a => bif keepO a o then (a, o) :: fragFrom r (Nat.succ a) else fragFrom r (Nat.succ a)
def fragAt (h : Heap) : PySem.W.Frag := fragFrom h.objs.toList 0
def seenDef (K : PySem.W.Frag) (x : Str) : Option (Arguments × List Stmt × Scope × Bool) := match nsIn K mainGlobals x with
 | some (some (.ref f)) => match K.lookup f with
   | some ⟨_, _, .func ⟨n, q, ps, .stmts b, sc, g, [], .none, _, _, _, _, cd, _, bn⟩, _⟩ => some (ps, b, sc, n == x && (q == x && (Nat.beq g mainGlobals && (Nat.beq bn builtinsNs && (codeIn K cd x && keepIn K (.ref f))))))
   | _ => none
 | _ => none
def seenCode (K : PySem.W.Frag) (h : Heap) (x : Str) : Option Obj × Bool := match nsIn K mainGlobals x with
 | some (some (.ref f)) => match K.lookup f with
   | some ⟨_, _, .func F, _⟩ => match F.code with
     | .ref c => match K.lookup c with
       | some ⟨_, _, .fields vs, _⟩ => match (vs[11]? : Option Value) with
         | some (.ref P) => (h.get? P, codeHdIn K c P && (K.lookup P).isNone)
         | _ => (none, false)
       | _ => (none, false)
     | _ => (none, false)
   | _ => (none, false)
 | _ => (none, false)
def dA (s : Stmt) : Arguments := match s with
 | .FunctionDef _ a _ _ _ _ _ _ _ _ => a
 | _ => { posonlyargs := [], args := [], vararg := none, kwonlyargs := [], kw_defaults := [], kwarg := none, defaults := [] }
def dB (s : Stmt) : List Stmt := match s with
 | .FunctionDef _ _ b _ _ _ _ _ _ _ => b
 | _ => []
def dS (s : Stmt) : Scope := match s with
 | .FunctionDef _ _ _ _ _ _ c _ _ _ => c
 | _ => { kind := .function, names := [], isGenerator := false, isCoroutine := false }
def defPos (s : Stmt) : Pos := match s with
 | .FunctionDef _ _ _ _ _ _ _ _ _ p => p
 | _ => ⟨0, 0, 0, 0⟩
def obsP (ds : List (Str × Stmt)) (blt : List Str) (s : Shared) : List (Option (Arguments × List Stmt × Scope × Bool)) × List (Option (Option Value)) := (ds.map fun y => seenDef (fragAt s.heap) y.1, blt.map fun y => nsIn (fragAt s.heap) mainGlobals y)
def valP (ds : List (Str × Stmt)) (blt : List Str) : List (Option (Arguments × List Stmt × Scope × Bool)) × List (Option (Option Value)) := (ds.map fun y => some (dA y.2, dB y.2, dS y.2, true), blt.map fun _ => some none)
def obsT (ds : List (Str × Stmt)) (blt : List Str) (x : Str) (s : Shared) : (List (Option (Arguments × List Stmt × Scope × Bool)) × List (Option (Option Value))) × Option (Arguments × List Stmt × Scope × Bool) × (Option Obj × Bool) := (obsP ds blt s, seenDef (fragAt s.heap) x, seenCode (fragAt s.heap) s.heap x)
def valT (ds : List (Str × Stmt)) (blt : List Str) (st : Stmt) : (List (Option (Arguments × List Stmt × Scope × Bool)) × List (Option (Option Value))) × Option (Arguments × List Stmt × Scope × Bool) × (Option Obj × Bool) := (valP ds blt, some (dA st, dB st, dS st, true), (some (tabObj #[]), true))
end MX
end
section
set_option autoImplicit false
namespace MX.K21
open PySem PySem.Spec PySem.W PyProof.Rows MX
abbrev PP : Program := PySem.Challenge.pw_firsthit_k21_closed_and_volume
abbrev PG : Program := PySem.Challenge.rw_firsthit_k21_closed_and_volume.prog
def top (i : Nat) : Stmt := PP.main.body.getD i (.Pass ⟨0, 0, 0, 0⟩)
def blt : List Str := ["len", "abs", "min", "max", "isinstance", "all", "any", "sum", "sorted", "tuple", "list", "range", "zip", "int", "bool", "str"]
def nm (s : Stmt) : Str := match s with
 | .FunctionDef n _ _ _ _ _ _ _ _ _ => n
 | _ => ""
def ixs : List Nat := [1, 2, 4, 6, 7, 8, 10, 11, 12, 13, 14, 15, 16, 17, 18, 19, 20, 21, 22, 23, 24, 25]
def defs : List (Str × Stmt) := ixs.map fun i => (nm (top i), top i)
def seen : Program := view PP [1, 2, 4, 6, 7, 8, 10, 11, 12, 13, 14, 15, 16, 17, 18, 19, 20, 21, 22, 23, 24, 25]
def lawRec : DefRec := ⟨"law", dA (top 25), dB (top 25), dS (top 25), defPos (top 25)⟩
theorem left : LeftO PP seen [] (fun _ => true) (obsP defs blt) (fun _ => valP defs blt) 2496 := by
 intro w
 kernel_rfl
end MX.K21
end
section
namespace L2
open PySem PySem.Spec PyProof.Rows
abbrev Key := Sum Int Str
def keyIs : Key → Value → Bool
 | .inl k, v => Value.isInt k v
 | .inr x, v => Value.isStrOf x v
def keyH (w : World) : Key → Int
 | .inl k => hashInt k
 | .inr x => hashStr w x
theorem zaw : ∀ {k : Key} {v : Value}, keyIs k v = true → (∃ i t, k = Sum.inl i ∧ v = Value.int i t) ∨ (∃ x t, k = Sum.inr x ∧ v = Value.str x t)
 | .inl i, v, h => by
   obtain ⟨t, e⟩ := Value.isInt_shape (k := i) (v := v) h
   exact .inl ⟨i, t, rfl, e⟩
 | .inr x, v, h => by
   obtain ⟨t, e⟩ := Value.isStrOf_shape (x := x) (v := v) h
   exact .inr ⟨x, t, rfl, e⟩
theorem zkS (a b : Int) : decide ((Sum.inl a : Key) = Sum.inl b) = (a == b) := by
 by_cases e : a = b
 · subst e; simp
 · have h : ¬ (Sum.inl a : Key) = Sum.inl b := fun q => e (Sum.inl.inj q)
   rw [decide_eq_false h]
   exact (beq_eq_false_iff_ne.mpr e).symm
theorem zkP (a b : Str) : decide ((Sum.inr a : Key) = Sum.inr b) = decide (a = b) := by
 by_cases e : a = b
 · subst e; simp
 · have h : ¬ (Sum.inr a : Key) = Sum.inr b := fun q => e (Sum.inr.inj q)
   rw [decide_eq_false h, decide_eq_false e]
theorem zkR (a : Int) (b : Str) : decide ((Sum.inl a : Key) = Sum.inr b) = false := decide_eq_false (fun q => nomatch q)
theorem zkQ (a : Str) (b : Int) : decide ((Sum.inr a : Key) = Sum.inl b) = false := decide_eq_false (fun q => nomatch q)
def mixKind (prog : Program) (w : World) : PySem.KeyKind prog w Key where
 is := keyIs
 hash := keyH w
 inj := fun v a b ha hb => by
   rcases zaw ha with ⟨i, t, rfl, rfl⟩ | ⟨x, t, rfl, rfl⟩
   · rcases zaw hb with ⟨j, u, rfl, e⟩ | ⟨y, u, rfl, e⟩
     · injection e with e1 _; rw [e1]
     · exact nomatch e
   · rcases zaw hb with ⟨j, u, rfl, e⟩ | ⟨y, u, rfl, e⟩
     · exact nomatch e
     · injection e with e1 _; rw [e1]
 byValue := fun k v h => by
   rcases zaw h with ⟨i, t, rfl, rfl⟩ | ⟨x, t, rfl, rfl⟩ <;> rfl
 pyHash := fun hv h => by
   rcases zaw hv with ⟨i, t, rfl, rfl⟩ | ⟨x, t, rfl, rfl⟩
   · exact wpAny_pyHash_int h
   · exact wpAny_pyHash_str h
 eqBool := fun hu hv h => by
   rcases zaw hu with ⟨i, t, rfl, rfl⟩ | ⟨x, t, rfl, rfl⟩
   · rcases zaw hv with ⟨j, u, rfl, rfl⟩ | ⟨y, u, rfl, rfl⟩
     · rw [zkS] at h; exact wpAny_eqBool_int h
     · rw [zkR] at h; exact SeqAt.EqAt.int_str i t y u _ _ _ _ h
   · rcases zaw hv with ⟨j, u, rfl, rfl⟩ | ⟨y, u, rfl, rfl⟩
     · rw [zkQ] at h; exact SeqAt.EqAt.str_int x t j u _ _ _ _ h
     · rw [zkP] at h; exact wpAny_eqBool_str h
 «strs» := fun k x t v h => by
   rcases zaw h with ⟨i, u, rfl, e⟩ | ⟨y, u, rfl, e⟩
   · exact nomatch e
   · injection e with e1 _
     subst e1
     cases v <;> rfl
end L2
namespace L2
open PySem PySem.Spec PyProof.Rows
inductive V where
 | non | bl (b : Bool) | int (i : Int) | str (x : Str) | byt (b : Array UInt8) | flt (b : UInt64) | ref (a : Addr) | ty (n : String)
 deriving DecidableEq
def RelV : V → Value → Prop
 | .non, u => u = Value.none
 | .bl b, u => u = Value.bool b
 | .int i, u => ∃ t, u = Value.int i t
 | .str x, u => ∃ t, u = Value.str x t
 | .byt b, u => ∃ t, u = Value.bytes b t
 | .flt b, u => ∃ t, u = Value.float b t
 | .ref a, u => u = Value.ref a
 | .ty n, u => u = Value.type n
abbrev Vals : List V → List Value → Prop := Paired RelV
theorem Vals.length {xs : List V} {us : List Value} (r : Vals xs us) : xs.length = us.length := Paired.length r
theorem Vals.get : ∀ {xs : List V} {us : List Value} {i : Nat} {x : V}, Vals xs us → xs[i]? = some x → ∃ u, us[i]? = some u ∧ RelV x u
 | _, _, _, _, .nil, e => by simp at e
 | _, _, 0, _, .cons r _, e => by simp at e; subst e; exact ⟨_, rfl, r⟩
 | _, _, i + 1, x, .cons _ t, e => by
   obtain ⟨u, h1, h2⟩ := Vals.get (i := i) (x := x) t (by simpa using e)
   exact ⟨u, by simpa using h1, h2⟩
theorem Vals.set {x : V} {u : Value} (r : RelV x u) : ∀ {xs : List V} {us : List Value} (i : Nat), Vals xs us → Vals (xs.set i x) (us.set i u)
 | _, _, _, .nil => .nil
 | _, _, 0, .cons _ t => .cons r t
 | _, _, i + 1, .cons q t => .cons q (Vals.set r i t)
theorem Vals.append : ∀ {xs ys : List V} {us ws : List Value}, Vals xs us → Vals ys ws → Vals (xs ++ ys) (us ++ ws)
 | _, _, _, _, .nil, s => s
 | _, _, _, _, .cons r t, s => .cons r (Vals.append t s)
theorem Vals.take : ∀ {xs : List V} {us : List Value} (n : Nat), Vals xs us → Vals (xs.take n) (us.take n)
 | _, _, 0, _ => .nil
 | _, _, _ + 1, .nil => .nil
 | _, _, n + 1, .cons r t => .cons r (Vals.take n t)
theorem Vals.drop : ∀ {xs : List V} {us : List Value} (n : Nat), Vals xs us → Vals (xs.drop n) (us.drop n)
 | _, _, 0, r => r
 | _, _, _ + 1, .nil => .nil
 | _, _, n + 1, .cons _ t => Vals.drop n t
def RelO : Option V → Option Value → Prop
 | some v, some u => RelV v u
 | none, none => True
 | _, _ => False
def KV {κ : Type} : List (κ × V) → List (κ × Value) → Prop := Paired fun (p : κ × V) (q : κ × Value) => p.1 = q.1 ∧ RelV p.2 q.2
def kV : Key → V
 | .inl i => .int i
 | .inr x => .str x
inductive HO where
 | lst (xs : List V)
 | tup (xs : List V)
 | dK (kvs : List (Key × V)) | dT (kvs : List (List Key × V))
 | set (S : Int → Bool) (n : Nat)
 | ins (C dx : Addr) (fs : List (Str × V))
 | own (x : Addr)
 | xd (fs : List (Str × V))
 | met (f x : Addr)
 | rng (lo hi : Int)
 | frz (o : Obj) (u : HO)
 | tbl (ps : Array Value)
 | ext (φ : Heap → Prop)
abbrev Hp := Addr → Option HO
def upd (H : Hp) (a : Addr) (o : HO) : Hp := fun b => if b = a then some o else H b
theorem zaj {H : Hp} {a : Addr} {o : HO} : upd H a o a = some o := by unfold upd; rw [if_pos rfl]
theorem zan {H : Hp} {a b : Addr} {o : HO} (h : b ≠ a) : upd H a o b = H b := by unfold upd; rw [if_neg h]
theorem zi9 {H : Hp} {a b : Addr} {o u : HO} (h : H a = some o) (h' : H b = some u) (d : o ≠ u) : a ≠ b := by
 intro e; subst e; rw [h] at h'; exact d (Option.some.inj h')
theorem zam {H : Hp} {a b : Addr} {o : HO} (h : H a = some o) (h' : H b = none) : a ≠ b := by
 intro e; subst e; rw [h] at h'; cases h'
section
variable (P : Program) (w : World)
def ObjOk (H : Hp) (h : Heap) (a : Addr) : HO → Prop
 | .lst xs => xs.length ≤ sizeLine ∧ ∃ (its : List Value) (n : Nat), Vals xs its ∧ h.get? a = some { cls := .type "list", data := .seq its.toArray n }
 | .tup xs => xs.length ≤ sizeLine ∧ ∃ its : List Value, Vals xs its ∧ IsTup h a its.toArray
 | .dK kvs => kvs.length ≤ sizeLine ∧ (a == sysModules) = false ∧ ∃ vs, KV kvs vs ∧ h.DictOf (mixKind P w) a vs
 | .dT kvs => kvs.length ≤ sizeLine ∧ (a == sysModules) = false ∧ ∃ xs : List (List Key × Addr × Value),
     Paired (fun (p : List Key × V) (q : List Key × Addr × Value) => p.1 = q.1 ∧ H q.2.1 = some (.tup (p.1.map kV)) ∧ RelV p.2 q.2.2) kvs xs ∧
     ∃ o es ep, h.get? a = some o ∧ o.ExactDict ∧ o.data = .dict es ep ∧ es.toList = xs.map (entryOfKey (tupleKind (mixKind P w))) ∧ (xs.map (·.1)).Nodup
 | .set S n => h.SetOf (intKind P w) a S n
 | .ins C dx fs => H dx = some (.own a) ∧ fs.length ≤ 1000 ∧ dx ≠ a ∧ h.get? a = some (PySem.W.instObj C dx) ∧
     ∃ mA, h.Ns1 dx mA ∧ (∀ f, RelO (fs.lookup f) (mA f)) ∧ PySem.Within mA (fs.map (·.1))
 | .own _ => ∃ o, h.get? a = some o
 | .xd fs => ∃ mA, h.Ns1 a mA ∧ ∀ f, RelO (fs.lookup f) (mA f)
 | .rng lo hi => ∃ t u v, h.get? a = some { cls := .type "range", data := .fields #[.int lo t, .int hi u, .int 1 v] }
 | .frz o u => h.get? a = some o ∧ ObjOk H h a u
 | .tbl ps => h.get? a = some { cls := .none, data := .fields ps } ∧ TriplesOk ps.toList ∧ ∀ pos cv, codeAmong pos ps.toList = some cv → ∃ c q oc vs t, cv = Value.ref c ∧ H c = some (.own a) ∧ h.get? c = some oc ∧ oc.data = .fields vs ∧ vs[1]? = some (.str q t)
 | .met f x => h.get? a = some (PySem.W.methodObj (.ref f) (.ref x))
 | .ext φ => φ h ∧ (∃ o, h.get? a = some o) ∧ ∀ h1 h2 : Heap, φ h1 → (∀ o, h1.get? a = some o → h2.get? a = some o) → φ h2
def HOk (H : Hp) (h : Heap) : Prop := ∀ a o, H a = some o → ObjOk P w H h a o
end
section
variable {P : Program} {w : World} {H H' : Hp} {h h' : Heap} {a : Addr} {o : HO}
theorem ObjOk.lt (x : ObjOk P w H h a o) : a < h.objs.size := by
 cases o with
 | lst xs => obtain ⟨_, _, _, _, e⟩ := x; exact Heap.lt_size e
 | tup xs => obtain ⟨_, _, _, p⟩ := x; exact p.lt
 | dK kvs => obtain ⟨_, _, _, _, o, _, _, e, _⟩ := x; exact Heap.lt_size e
 | dT kvs => obtain ⟨_, _, _, _, o, _, _, e, _⟩ := x; exact Heap.lt_size e
 | set S n => obtain ⟨o, _, _, _, e, _⟩ := x; exact Heap.lt_size e
 | ins C dx fs => obtain ⟨_, _, _, e, _⟩ := x; exact Heap.lt_size e
 | own y => obtain ⟨_, e⟩ := x; exact Heap.lt_size e
 | xd fs => obtain ⟨_, ⟨_, _, _, e, _⟩, _⟩ := x; exact Heap.lt_size e
 | rng lo hi => obtain ⟨_, _, _, e⟩ := x; exact Heap.lt_size e
 | frz ob u => obtain ⟨e, _⟩ := x; exact Heap.lt_size e
 | tbl ps => exact Heap.lt_size x.1
 | met f y => exact Heap.lt_size (show h.get? a = some _ from x)
 | ext φ => obtain ⟨_, ⟨_, e⟩, _⟩ := x; exact Heap.lt_size e
theorem Paired.mapP {α β : Type} {F G : α → β → Prop} : ∀ {l₁ : List α} {l₂ : List β}, Paired F l₁ l₂ → (∀ a b, F a b → G a b) → Paired G l₁ l₂
 | _, _, .nil, _ => .nil
 | _, _, .cons r t, f => .cons (f _ _ r) (Paired.mapP t f)
theorem ObjOk.stay (x : ObjOk P w H h a o) (k : ∀ b u, (b = a ∨ H b = some (.own a)) → h.get? b = some u → h'.get? b = some u)
   (ho : ∀ b, H b = some (.own a) → H' b = some (.own a)) (ht : ∀ b xs, H b = some (.tup xs) → H' b = some (.tup xs)) : ObjOk P w H' h' a o := by
 induction o with
 | lst xs => obtain ⟨z, its, n, r, e⟩ := x; exact ⟨z, its, n, r, k _ _ (.inl rfl) e⟩
 | tup xs => obtain ⟨z, its, r, ob, e, c⟩ := x; exact ⟨z, its, r, ob, k _ _ (.inl rfl) e, c⟩
 | dK kvs => obtain ⟨z, y, vs, r, ob, es, ep, e, c⟩ := x; exact ⟨z, y, vs, r, ob, es, ep, k _ _ (.inl rfl) e, c⟩
 | dT kvs =>
   obtain ⟨z, y, xs, r, ob, es, ep, e, c⟩ := x
   exact ⟨z, y, xs, Paired.mapP r fun p q z => ⟨z.1, ht _ _ z.2.1, z.2.2⟩, ob, es, ep, k _ _ (.inl rfl) e, c⟩
 | set S n => obtain ⟨ob, es, ep, t, e, c⟩ := x; exact ⟨ob, es, ep, t, k _ _ (.inl rfl) e, c⟩
 | ins C dx fs =>
   obtain ⟨d, z, ne, e, mA, ⟨od, es, ep, e2, c⟩, r⟩ := x
   exact ⟨ho _ d, z, ne, k _ _ (.inl rfl) e, mA, ⟨od, es, ep, k _ _ (.inr d) e2, c⟩, r⟩
 | own y => obtain ⟨ob, e⟩ := x; exact ⟨ob, k _ _ (.inl rfl) e⟩
 | xd fs => obtain ⟨mA, ⟨od, es, ep, e, c⟩, r⟩ := x; exact ⟨mA, ⟨od, es, ep, k _ _ (.inl rfl) e, c⟩, r⟩
 | rng lo hi => obtain ⟨t, u, v, e⟩ := x; exact ⟨t, u, v, k _ _ (.inl rfl) e⟩
 | frz ob u ih => obtain ⟨e, q⟩ := x; exact ⟨k _ _ (.inl rfl) e, ih q⟩
 | tbl ps =>
   obtain ⟨e, h1, h2⟩ := x
   refine ⟨k a _ (.inl rfl) e, h1, fun pos cv q => ?_⟩
   obtain ⟨c, q, oc, vs, t, e1, e2, e3, e4⟩ := h2 pos cv q
   exact ⟨c, q, oc, vs, t, e1, ho _ e2, k _ _ (.inr e2) e3, e4⟩
 | met f y =>
   have e : h.get? a = some (PySem.W.methodObj (.ref f) (.ref y)) := x
   show h'.get? a = some (PySem.W.methodObj (.ref f) (.ref y))
   exact k a _ (.inl rfl) e
 | ext φ => obtain ⟨p, ⟨o, e⟩, st⟩ := x; exact ⟨st _ _ p fun o q => k _ _ (.inl rfl) q, ⟨o, k _ _ (.inl rfl) e⟩, st⟩
theorem HOk.lt (x : HOk P w H h) (e : H a = some o) : a < h.objs.size := (x a o e).lt
theorem HOk.fresh (x : HOk P w H h) (e : h.objs.size ≤ a) : H a = none := by
 cases q : H a with
 | none => rfl
 | some u => exact absurd (Nat.lt_of_lt_of_le (x.lt q) e) (Nat.lt_irrefl _)
theorem HOk.kept (x : HOk P w H h) (k : ∀ b u, h.get? b = some u → h'.get? b = some u) : HOk P w H h' := fun a o e =>
 (x a o e).stay (fun b u _ q => k b u q) (fun _ q => q) fun _ _ q => q
theorem HOk.laid (x : HOk P w H h) (k : ∀ b u, h.get? b = some u → h'.get? b = some u) (hp : h.objs.size ≤ a) (new : ObjOk P w (upd H a o) h' a o) : HOk P w (upd H a o) h' := fun b u e => by
 have hn := x.fresh hp
 by_cases hb : b = a
 · subst hb; rw [zaj] at e; cases e; exact new
 · rw [zan hb] at e
   exact (x b u e).stay (fun c v _ q => k c v q) (fun c q => by rw [zan (zam q hn)]; exact q) fun c xs q => by rw [zan (zam q hn)]; exact q
end
def Rd (H : Hp) (a : Addr) (u : HO) : Prop := H a = some u ∨ ∃ o, H a = some (.frz o u)
theorem Rd.ok {P : Program} {w : World} {H : Hp} {h : Heap} {a : Addr} {u : HO} (r : Rd H a u) (x : HOk P w H h) : ObjOk P w H h a u := by
 rcases r with r | ⟨o, r⟩
 · exact x a u r
 · obtain ⟨_, q⟩ := x a _ r
   exact q
def Mut : Option HO → Prop
 | some (.lst _) => True
 | some (.dK _) => True
 | some (.dT _) => True
 | some (.set _ _) => True
 | some (.ins _ _ _) => True
 | some (.ext _) => True
 | _ => False
section
variable {P : Program} {w : World} {H : Hp} {h h' : Heap} {x e : Addr} {o' : HO}
theorem HOk.write (ok : HOk P w H h) (mu : Mut (H x)) (he : e = x ∨ H e = some (.own x)) (k : ∀ b u, b ≠ e → h.get? b = some u → h'.get? b = some u) (heo : ∃ u, h'.get? e = some u)
   (new : ObjOk P w (upd H x o') h' x o') : HOk P w (upd H x o') h' := fun b u q => by
 have nown : ∀ c y, H c = some (.own y) → c ≠ x := fun c y r z => by subst z; rw [r] at mu; exact mu
 have ntup : ∀ c xs, H c = some (.tup xs) → c ≠ x := fun c xs r z => by subst z; rw [r] at mu; exact mu
 by_cases hb : b = x
 · subst hb; rw [zaj] at q; cases q; exact new
 · rw [zan hb] at q
   by_cases hbe : b = e
   · have q' : H b = some (.own x) := by
       rcases he with z | z
       · exact absurd (hbe.trans z) hb
       · rw [hbe]; exact z
     rw [q] at q'; cases q'
     obtain ⟨v, hv⟩ := heo
     exact ⟨v, by rw [hbe]; exact hv⟩
   · refine (ok b u q).stay (fun c v hc r => k c v ?_ r) (fun c r => by rw [zan (nown c b r)]; exact r) fun c xs r => by rw [zan (ntup c xs r)]; exact r
     rcases hc with rfl | hc
     · exact hbe
     · rintro rfl
       rcases he with z | z
       · exact nown c b hc z
       · rw [hc] at z; cases z; exact hb rfl
end
structure Un (fs ex : List Addr) (H H' : Hp) (h h' : Heap) : Prop where
 keep : ∀ b o, h.get? b = some o → H b = none → b ∉ fs → b ∉ ex → h'.get? b = some o
 slot : ∀ b o, h.get? b = some o → H b = none → b ∈ fs → b ∉ ex → ∃ sl, h'.get? b = some { o with slots := sl }
 free : ∀ b o, h.get? b = some o → H b = none → b ∉ ex → H' b = none
 there : ∀ b o, h.get? b = some o → b ∉ ex → ∃ o', h'.get? b = some o'
 tups : ∀ b xs, H b = some (.tup xs) → H' b = some (.tup xs)
 frzs : ∀ b o u, H b = some (.frz o u) → H' b = some (.frz o u)
 tbls : ∀ b ps, H b = some (.tbl ps) → ∃ more, H' b = some (.tbl (ps ++ more))
section
variable {fs fs' ex ex' : List Addr} {H H1 H2 : Hp} {h h1 h2 h' : Heap} {a x e : Addr} {o : HO}
theorem Un.any (u : Un fs ex H H1 h h1) {b : Addr} {ob : Obj} (q : h.get? b = some ob) (n : H b = none) (hx : b ∉ ex) : ∃ sl, h1.get? b = some { ob with slots := sl } := by
 by_cases hb : b ∈ fs
 · exact u.slot b ob q n hb hx
 · exact ⟨ob.slots, u.keep b ob q n hb hx⟩
theorem Un.kept (k : ∀ b u, h.get? b = some u → h'.get? b = some u) : Un fs ex H H h h' :=
 ⟨fun b ob q _ _ _ => k b ob q, fun b ob q _ _ _ => ⟨ob.slots, k b ob q⟩, fun _ _ _ n _ => n, fun b ob q _ => ⟨ob, k b ob q⟩, fun _ _ q => q, fun _ _ _ q => q, fun _ ps q => ⟨#[], by rw [q]; simp⟩⟩
theorem Un.refl : Un fs ex H H h h := Un.kept fun _ _ q => q
theorem Un.laid (k : ∀ b u, h.get? b = some u → h'.get? b = some u) (hp : h.objs.size ≤ a) (hn : H a = none) : Un fs ex H (upd H a o) h h' where
 keep := fun b u q _ _ _ => k b u q
 slot := fun b u q _ _ _ => ⟨u.slots, k b u q⟩
 free := fun b u q n _ => by rw [zan (Nat.ne_of_lt (Nat.lt_of_lt_of_le (Heap.lt_size q) hp))]; exact n
 there := fun b u q _ => ⟨u, k b u q⟩
 tups := fun b xs q => by rw [zan (zam q hn)]; exact q
 frzs := fun b u xs q => by rw [zan (zam q hn)]; exact q
 tbls := fun b ps q => ⟨#[], by rw [zan (zam q hn), q]; simp⟩
theorem Un.write (mu : Mut (H x)) (he : e = x ∨ H e = some (.own x)) (k : ∀ b u, b ≠ e → h.get? b = some u → h'.get? b = some u) (heo : ∃ u, h'.get? e = some u) : Un fs ex H (upd H x o) h h' := by
 have hx : ∀ b, H b = none → b ≠ x := fun b n z => by subst z; rw [n] at mu; exact mu
 have hb : ∀ b, H b = none → b ≠ e := fun b n z => by
   subst z
   rcases he with r | r
   · exact hx b n r
   · rw [n] at r; cases r
 have hm : ∀ b u, H b = some u → ¬ Mut (some u) → b ≠ x := fun b u q nm z => by subst z; rw [q] at mu; exact nm mu
 refine ⟨fun b u q n _ _ => k b u (hb b n) q, fun b u q n _ _ => ⟨u.slots, k b u (hb b n) q⟩, fun b u q n _ => by rw [zan (hx b n)]; exact n, fun b u q _ => ?_,
   fun b xs q => by rw [zan (hm b _ q fun z => z)]; exact q, fun b u xs q => by rw [zan (hm b _ q fun z => z)]; exact q, fun b ps q => ⟨#[], by rw [zan (hm b _ q fun z => z), q]; simp⟩⟩
 by_cases hbe : b = e
 · subst hbe; exact heo
 · exact ⟨u, k b u hbe q⟩
end
def trk (h : Heap) (H : Hp) : List Addr := (List.range h.objs.size).filter fun a => (H a).isSome
def hidT (h : Heap) (H : Hp) : Heap := PySem.W.hideAll h (trk h H)
theorem zgx (h : Heap) (H : Hp) : (hidT h H).objs.size = h.objs.size := PySem.W.hideAll_size _ _
theorem zhH {h : Heap} {H : Hp} {b : Addr} {o : Obj} (e : h.get? b = some o) (n : H b = none) : (hidT h H).get? b = some o :=
 PySem.W.hideAll_get _ e fun hm => by
   have q : (H b).isSome = true := (List.mem_filter.mp hm).2
   rw [n] at q; simp at q
theorem zi6 {h : Heap} {H : Hp} {b : Addr} {o : Obj} (e : (hidT h H).get? b = some o) : h.get? b = some o ∧ H b = none := by
 have e' : h.get? b = some o := PySem.W.of_hideAll (trk h H) e
 refine ⟨e', ?_⟩
 cases q : H b with
 | none => rfl
 | some x =>
   have hm : b ∈ trk h H := List.mem_filter.mpr ⟨List.mem_range.mpr (Heap.lt_size e'), by simp [q]⟩
   have z : (hidT h H).get? b = none := PySem.W.hideAll_none (trk h H) hm
   rw [z] at e; cases e
end L2
namespace L2
open PySem PySem.Spec PyProof.Rows
structure Mod (K : PySem.W.Frag) (mg : Str → Option Value) (base : Heap) : Prop where
 kin : K.In base
 glob : base.Ns mainGlobals mg
 blt : ∃ mb, base.Ns builtinsNs mb ∧ ∀ x : Str, x ≠ "__name__" → mb x = bootBuiltins x
 nolimit : base.NoLimit
structure Cx where
 prog : Program
 w : World
 K : PySem.W.Frag
 mg : Str → Option Value
 base : Heap
 A : Around
 N : List Str
 s₀ : Shared
 H₀ : Hp
 env : Env
 outer : List Env
 stack : List Env
 ex : List Addr
 fn : Str → Bool
 calm : Bool
 pn : List (Addr × Obj)
 xe : Value → Shared → Prop
def frs (l : List Env) : List Addr := l.filterMap (·.frame)
abbrev Cx.fs (X : Cx) : List Addr := frs X.outer
def Vis (sc : Scope) (x : Str) : Prop := sc.names.lookup x = some .local ∨ sc.names.lookup x = some .cell ∨ sc.names.lookup x = some .free
def Loc (sc : Scope) (x : Str) : Prop := sc.names.lookup x = some .local ∨ sc.names.lookup x = some .cell
def Look (env : Env) (h : Heap) (m : Str → Option Value) (x : Str) (u : Value) : Prop :=
 (env.kindOf x = some .local ∧ m x = some u) ∨ ((env.kindOf x = some .cell ∨ env.kindOf x = some .free) ∧ ∃ c, env.cells.lookup x = some c ∧ h.IsCell c (some u))
structure Cx.Ok (X : Cx) : Prop where
 mod : Mod X.K X.mg X.base
 kind : X.env.scope.kind = .function
 glob : X.env.globals = mainGlobals
 blt : X.env.builtins = builtinsNs
 above : X.s₀.heap.objs.size ≤ X.env.locals
 inj : ∀ x y c, X.env.cells.lookup x = some c → X.env.cells.lookup y = some c → x = y
 has : ∀ x, (X.env.kindOf x = some .cell ∨ X.env.kindOf x = some .free) → ∃ c, X.env.cells.lookup x = some c
 cab : ∀ x c, X.fn x = true → X.env.cells.lookup x = some c → X.s₀.heap.objs.size ≤ c
 hd : X.calm = true → X.A.handled = none
 frames : X.A.frames = some X.stack
 stk : X.stack = X.outer ∨ (X.stack = X.env :: X.outer ∧ X.env.frame = some X.env.locals)
 exf : ∀ b ∈ X.ex, b ≠ X.env.locals ∧ ∀ x c, X.env.cells.lookup x = some c → c ≠ b
 bs : ∀ b o, X.base.get? b = some o → X.s₀.heap.get? b = some o ∧ X.H₀ b = none
 bsz : X.base.objs.size ≤ X.s₀.heap.objs.size
 noex : ∀ b o, X.base.get? b = some o → b ∉ X.ex
 exfs : ∀ b ∈ X.ex, b ∉ X.fs
 funs : X.s₀.heap.FunFrames X.base X.outer
 frf : ∀ b ∈ X.fs, X.H₀ b = none
structure Inv (X : Cx) (pins : List (Addr × Obj)) (σ : List (Option V)) (H : Hp) (s : Shared) : Prop where
 ok : X.Ok
 os : s.os = X.s₀.os
 bare : AllBare s.gens
 base : Un X.fs X.ex X.H₀ H X.s₀.heap s.heap
 loc : ∃ m, s.heap.Ns X.env.locals m ∧ ∀ (i : Nat) (x : Str) (v : V), X.N[i]? = some x → σ[i]? = some (some v) → Vis X.env.scope x → ∃ u, RelV v u ∧ Look X.env s.heap m x u
 cell : ∀ x c, X.env.cells.lookup x = some c → ∃ v, s.heap.IsCell c v
 free : H X.env.locals = none
 freeC : ∀ x c, X.env.cells.lookup x = some c → H c = none
 pin : ∀ p ∈ X.pn ++ pins, s.heap.get? p.1 = some p.2 ∧ H p.1 = none ∧ p.1 ≠ X.env.locals ∧ p.1 ∉ X.fs ∧ ∀ v, p.2.data ≠ .cell v
 hok : HOk X.prog X.w H s.heap
 len : σ.length = X.N.length
section
variable {X : Cx} {pins : List (Addr × Obj)} {σ : List (Option V)} {H H' : Hp} {s : Shared} {h' : Heap}
theorem Cx.Ok.nofr (ok : X.Ok) {b : Addr} {o : Obj} (e : X.base.get? b = some o) : b ∉ X.fs := fun hb => by
 have := (ok.funs.mem hb).1
 rw [e] at this; cases this
theorem Inv.bs (I : Inv X pins σ H s) : ∀ b o, X.base.get? b = some o → s.heap.get? b = some o ∧ H b = none := fun b o e =>
 ⟨I.base.keep b o (I.ok.bs b o e).1 (I.ok.bs b o e).2 (I.ok.nofr e) (I.ok.noex b o e), I.base.free b o (I.ok.bs b o e).1 (I.ok.bs b o e).2 (I.ok.noex b o e)⟩
theorem Inv.bk (I : Inv X pins σ H s) : ∀ b o, X.base.get? b = some o → s.heap.get? b = some o := fun b o e => (I.bs b o e).1
theorem Inv.mod (I : Inv X pins σ H s) : Mod X.K X.mg X.base := I.ok.mod
theorem Inv.kIn (I : Inv X pins σ H s) : X.K.In s.heap := I.ok.mod.kin.keeps I.bk
theorem Inv.lt (I : Inv X pins σ H s) : X.env.locals < s.heap.objs.size := let ⟨_, hn, _⟩ := I.loc; hn.lt
theorem Inv.sz (I : Inv X pins σ H s) : X.s₀.heap.objs.size ≤ s.heap.objs.size := Nat.le_trans I.ok.above (Nat.le_of_lt I.lt)
theorem Inv.nofs (I : Inv X pins σ H s) {a : Addr} (h : s.heap.objs.size ≤ a) : a ∉ X.fs := fun hb => by
 obtain ⟨_, o, ho, _⟩ := I.ok.funs.mem hb
 exact absurd (Nat.lt_of_lt_of_le (Heap.lt_size ho) (Nat.le_trans I.sz h)) (Nat.lt_irrefl _)
theorem Inv.cne (I : Inv X pins σ H s) : ∀ x c, X.env.cells.lookup x = some c → c ≠ X.env.locals := fun x c e z => by
 obtain ⟨v, o, ho, hd⟩ := I.cell x c e
 obtain ⟨m, ⟨o', es, ep, ho', hd', _⟩, _⟩ := I.loc
 rw [z, ho'] at ho; cases ho; rw [hd'] at hd; cases hd
theorem Inv.funs (I : Inv X pins σ H s) : s.heap.FunFrames X.base X.outer := by
 have all : ∀ (l : List Env), (∀ b ∈ frs l, b ∈ X.fs) → X.s₀.heap.FunFrames X.base l → s.heap.FunFrames X.base l := by
   intro l
   induction l with
   | nil => intro _ _; trivial
   | cons env r ih =>
     intro hs hl
     obtain ⟨hk, ⟨L, o, hf, hn, ho, hd⟩, hr⟩ := hl
     have hL : L ∈ X.fs := hs L (by unfold frs; rw [List.filterMap_cons, hf]; exact List.mem_cons_self)
     obtain ⟨sl, e⟩ := I.base.slot L o ho (I.ok.frf L hL) hL fun z => I.ok.exfs L z hL
     exact ⟨hk, ⟨L, _, hf, hn, e, hd⟩, ih (fun b hb => hs b (by unfold frs; rw [List.filterMap_cons, hf]; exact List.mem_cons_of_mem _ hb)) hr⟩
 exact all X.outer (fun _ hb => hb) I.ok.funs
theorem Inv.stack (I : Inv X pins σ H s) : s.heap.FunFrames X.base X.stack := by
 rcases I.ok.stk with e | ⟨e, hf⟩
 · rw [e]; exact I.funs
 · rw [e]
   obtain ⟨m, hn, _⟩ := I.loc
   refine .cons (by rw [I.ok.kind]; decide) hf hn ?_ I.funs
   exact Heap.get?_none_of_le (Nat.le_trans I.ok.bsz I.ok.above)
theorem Inv.stkSub (I : Inv X pins σ H s) : ∀ b ∈ frs X.stack, b ∈ X.env.locals :: X.fs := fun b hb => by
 rcases I.ok.stk with e | ⟨e, hf⟩
 · rw [e] at hb; exact List.mem_cons_of_mem _ hb
 · rw [e] at hb
   unfold frs at hb
   rw [List.filterMap_cons, hf] at hb
   exact hb
theorem Inv.stkFree (I : Inv X pins σ H s) : ∀ b ∈ frs X.stack, H b = none := fun b hb => by
 rcases List.mem_cons.mp (I.stkSub b hb) with e | hb
 · rw [e]; exact I.free
 · obtain ⟨_, o, ho, _⟩ := I.ok.funs.mem hb
   exact I.base.free b o ho (I.ok.frf b hb) fun z => I.ok.exfs b z hb
theorem Inv.step {g' : Array GenState} {t' : Nat} {d' : Drawn} {ch : List Addr} (I : Inv X pins σ H s)
   (hch : ∀ b ∈ ch, (b ∈ X.ex ∨ X.s₀.heap.objs.size ≤ b) ∧ b ≠ X.env.locals ∧ (∀ x c, X.env.cells.lookup x = some c → c ≠ b) ∧ ∀ p ∈ X.pn ++ pins, p.1 ≠ b)
   (keep : ∀ b o, b ≠ X.env.locals → b ∉ X.fs → b ∉ ch → s.heap.get? b = some o → H b = none → h'.get? b = some o)
   (slot : ∀ b o, b ≠ X.env.locals → b ∈ X.fs → b ∉ ch → s.heap.get? b = some o → H b = none → ∃ sl, h'.get? b = some { o with slots := sl }) (free : ∀ b o, b ∉ ch → s.heap.get? b = some o → H b = none → H' b = none)
   (there : ∀ b o, b ∉ ch → s.heap.get? b = some o → ∃ o', h'.get? b = some o')
   (tups : ∀ b xs, H b = some (.tup xs) → H' b = some (.tup xs)) (frzs : ∀ b o u, H b = some (.frz o u) → H' b = some (.frz o u)) (tbls : ∀ b ps, H b = some (.tbl ps) → ∃ more, H' b = some (.tbl (ps ++ more)))
   (ns : ∀ m, s.heap.Ns X.env.locals m → h'.Ns X.env.locals m) (hok : HOk X.prog X.w H' h') (hg : AllBare g') :
   Inv X pins σ H' { s with heap := h', gens := g', drawn := d', toks := t' } := by
 have neL : ∀ b o, X.s₀.heap.get? b = some o → b ≠ X.env.locals := fun b o e => Nat.ne_of_lt (Nat.lt_of_lt_of_le (Heap.lt_size e) I.ok.above)
 have neC : ∀ b o, X.s₀.heap.get? b = some o → b ∉ X.ex → b ∉ ch := fun b o e hx hb => by
   rcases (hch b hb).1 with z | z
   · exact hx z
   · exact absurd (Nat.lt_of_lt_of_le (Heap.lt_size e) z) (Nat.lt_irrefl _)
 have cellK : ∀ x c, X.env.cells.lookup x = some c → ∀ v, s.heap.IsCell c v → h'.IsCell c v := fun x c e v ⟨o, ho, hd⟩ => by
   have nch : c ∉ ch := fun z => (hch c z).2.2.1 x c e rfl
   by_cases hc : c ∈ X.fs
   · obtain ⟨sl, q⟩ := slot c o (I.cne x c e) hc nch ho (I.freeC x c e)
     exact ⟨_, q, hd⟩
   · exact ⟨o, keep c o (I.cne x c e) hc nch ho (I.freeC x c e), hd⟩
 refine ⟨I.ok, I.os, hg, ⟨fun b o e n hb hx => ?_, fun b o e n hb hx => ?_, fun b o e n hx => ?_, fun b o e hx => ?_, fun b xs e => tups b xs (I.base.tups b xs e), fun b o xs e => frzs b o xs (I.base.frzs b o xs e), fun b ps e => ?_⟩, ?_, fun x c e => ?_, ?_, fun x c e => ?_, fun p hp => ?_, hok, I.len⟩
 · exact keep b o (neL b o e) hb (neC b o e hx) (I.base.keep b o e n hb hx) (I.base.free b o e n hx)
 · obtain ⟨sl, e1⟩ := I.base.slot b o e n hb hx
   obtain ⟨sl', e2⟩ := slot b _ (neL b o e) hb (neC b o e hx) e1 (I.base.free b o e n hx)
   exact ⟨sl', e2⟩
 · obtain ⟨o', e1⟩ := I.base.there b o e hx
   exact free b o' (neC b o e hx) e1 (I.base.free b o e n hx)
 · obtain ⟨o', e1⟩ := I.base.there b o e hx
   exact there b o' (neC b o e hx) e1
 · obtain ⟨m1, e1⟩ := I.base.tbls b ps e
   obtain ⟨m2, e2⟩ := tbls b _ e1
   exact ⟨m1 ++ m2, by rw [e2, Array.append_assoc]⟩
 · obtain ⟨m, hn, hl⟩ := I.loc
   refine ⟨m, ns m hn, fun i x v e1 e2 e3 => ?_⟩
   obtain ⟨u, r, l⟩ := hl i x v e1 e2 e3
   refine ⟨u, r, ?_⟩
   rcases l with l | ⟨k, c, e, z⟩
   · exact .inl l
   · exact .inr ⟨k, c, e, cellK x c e _ z⟩
 · obtain ⟨v, z⟩ := I.cell x c e
   exact ⟨v, cellK x c e v z⟩
 · obtain ⟨m, ⟨o, _, _, ho, _⟩, _⟩ := I.loc
   exact free _ o (fun z => (hch _ z).2.1 rfl) ho I.free
 · obtain ⟨v, o, ho, hd⟩ := I.cell x c e
   exact free c o (fun z => (hch c z).2.2.1 x c e rfl) ho (I.freeC x c e)
 · obtain ⟨e, n, ne, nf, d⟩ := I.pin p hp
   have nch : p.1 ∉ ch := fun z => (hch p.1 z).2.2.2 p hp rfl
   exact ⟨keep p.1 p.2 ne nf nch e n, free p.1 p.2 nch e n, ne, nf, d⟩
theorem Inv.un {t' : Nat} (I : Inv X pins σ H s) (u : Un X.fs [] H H' s.heap h') (hok : HOk X.prog X.w H' h') : Inv X pins σ H' { s with heap := h', toks := t' } := by
 obtain ⟨m, ⟨o, es, ep, ho, r⟩, _⟩ := id I.loc
 obtain ⟨sl, hL⟩ := u.any ho I.free (by simp)
 exact I.step (g' := s.gens) (d' := s.drawn) (ch := []) (fun _ z => nomatch z) (fun b o _ hb _ e n => u.keep b o e n hb (by simp)) (fun b o _ hb _ e n => u.slot b o e n hb (by simp)) (fun b o _ e n => u.free b o e n (by simp)) (fun b o _ e => u.there b o e (by simp)) u.tups u.frzs u.tbls (fun m' hm => by
   obtain ⟨o', es', ep', ho', r'⟩ := hm
   rw [ho] at ho'; cases ho'
   exact ⟨_, es', ep', hL, r'⟩) hok I.bare
theorem Inv.call {g' : Array GenState} {t' : Nat} {d' : Drawn} {ch : List Addr} (I : Inv X pins σ H s) (u : Un (frs X.stack) ch H H' s.heap h') (hok : HOk X.prog X.w H' h') (hg : AllBare g')
   (hch : ∀ b ∈ ch, (b ∈ X.ex ∨ X.s₀.heap.objs.size ≤ b) ∧ b ≠ X.env.locals ∧ (∀ x c, X.env.cells.lookup x = some c → c ≠ b) ∧ ∀ p ∈ X.pn ++ pins, p.1 ≠ b) :
   Inv X pins σ H' { s with heap := h', gens := g', drawn := d', toks := t' } := by
 obtain ⟨m, ⟨o, es, ep, ho, r⟩, _⟩ := id I.loc
 obtain ⟨sl, hL⟩ := u.any ho I.free fun z => (hch _ z).2.1 rfl
 exact I.step (ch := ch) hch (fun b o hL hb hc e n => u.keep b o e n (fun z => (List.mem_cons.mp (I.stkSub b z)).elim hL hb) hc) (fun b o _ _ hc e n => u.any e n hc) (fun b o hc e n => u.free b o e n hc) (fun b o hc e => u.there b o e hc) u.tups u.frzs u.tbls (fun m' hm => by
   obtain ⟨o', es', ep', ho', r'⟩ := hm
   rw [ho] at ho'; cases ho'
   exact ⟨_, es', ep', hL, r'⟩) hok hg
theorem Inv.turned {t' : Nat} {it : Addr} (I : Inv X pins σ H s) (k : ∀ b o, b ≠ it → s.heap.get? b = some o → h'.get? b = some o) (hn : H it = none) (hL : it ≠ X.env.locals)
   (h1 : it ∈ X.ex ∨ X.s₀.heap.objs.size ≤ it) (h2 : ∀ x c, X.env.cells.lookup x = some c → c ≠ it) (h3 : ∀ p ∈ X.pn ++ pins, p.1 ≠ it) : Inv X pins σ H { s with heap := h', toks := t' } := by
 have nit : ∀ b u, H b = some u → b ≠ it := fun b u e z => by rw [z, hn] at e; cases e
 refine I.step (g' := s.gens) (d' := s.drawn) (ch := [it]) (fun b hb => ?_) (fun b o _ _ hc e _ => k b o (fun z => hc (by simp [z])) e) (fun b o _ _ hc e _ => ⟨o.slots, k b o (fun z => hc (by simp [z])) e⟩) (fun _ _ _ _ n => n)
   (fun b o hc e => ⟨o, k b o (fun z => hc (by simp [z])) e⟩) (fun _ _ e => e) (fun _ _ _ e => e) (fun b ps e => ⟨#[], by rw [e]; simp⟩) (fun m hm => ?_) (fun b u e => ?_) I.bare
 · have e : b = it := by simpa using hb
   subst e
   exact ⟨h1, hL, h2, h3⟩
 · obtain ⟨o, es, ep, ho, r⟩ := hm
   exact ⟨o, es, ep, k _ o (Ne.symm hL) ho, r⟩
 · refine (I.hok b u e).stay (fun c v hc q => k c v ?_ q) (fun _ q => q) fun _ _ q => q
   rcases hc with z | z
   · rw [z]; exact nit b u e
   · exact nit c _ z
theorem Inv.tok (I : Inv X pins σ H s) (t : Nat) : Inv X pins σ H { s with toks := t } := I.un (h' := s.heap) (t' := t) Un.refl I.hok
theorem Inv.kept {t' : Nat} (I : Inv X pins σ H s) (k : ∀ b u, s.heap.get? b = some u → h'.get? b = some u) : Inv X pins σ H { s with heap := h', toks := t' } := I.un (Un.kept k) (I.hok.kept k)
theorem Inv.laid {a : Addr} {o : HO} {t' : Nat} (I : Inv X pins σ H s) (k : ∀ b u, s.heap.get? b = some u → h'.get? b = some u) (hp : s.heap.objs.size ≤ a) (new : ObjOk X.prog X.w (upd H a o) h' a o) :
   Inv X pins σ (upd H a o) { s with heap := h', toks := t' } := I.un (Un.laid k hp (I.hok.fresh hp)) (I.hok.laid k hp new)
theorem Inv.write {x e : Addr} {o : HO} {t' : Nat} (I : Inv X pins σ H s) (mu : Mut (H x)) (he : e = x ∨ H e = some (.own x)) (k : ∀ b u, b ≠ e → s.heap.get? b = some u → h'.get? b = some u) (heo : ∃ u, h'.get? e = some u)
   (new : ObjOk X.prog X.w (upd H x o) h' x o) : Inv X pins σ (upd H x o) { s with heap := h', toks := t' } := I.un (Un.write mu he k heo) (I.hok.write mu he k heo new)
theorem Inv.pins_of {pins' : List (Addr × Obj)} (I : Inv X pins σ H s) (h : ∀ p ∈ pins', s.heap.get? p.1 = some p.2 ∧ H p.1 = none ∧ p.1 ≠ X.env.locals ∧ p.1 ∉ X.fs ∧ ∀ v, p.2.data ≠ .cell v) : Inv X pins' σ H s :=
 ⟨I.ok, I.os, I.bare, I.base, I.loc, I.cell, I.free, I.freeC, fun p hp => (List.mem_append.mp hp).elim (fun z => I.pin p (List.mem_append_left _ z)) (h p), I.hok, I.len⟩
theorem zfi {N : List Str} (hN : N.Nodup) {i j : Nat} {x : Str} (a : N[i]? = some x) (b : N[j]? = some x) : i = j := by
 obtain ⟨h1, e1⟩ := List.getElem?_eq_some_iff.mp a
 obtain ⟨h2, e2⟩ := List.getElem?_eq_some_iff.mp b
 exact (List.getElem_inj hN).mp (e1.trans e2.symm)
theorem zfV {M : Model} {A : Around} {E : Value → Shared → Prop} {i : Nat} {x : Str} {v : V} {u : Value} {Q : Unit → Shared → Prop} (I : Inv X pins σ H s) (hN : X.N.Nodup) (hi : X.N[i]? = some x) (hx : Loc X.env.scope x) (r : RelV v u)
   (h : ∀ s', Inv X pins (σ.set i (some v)) H s' → (∃ a, Heap.SameBut a s.heap s'.heap ∧ (a = X.env.locals ∨ X.env.cells.lookup x = some a)) → Q () s') (hf : X.fn x = true ∨ X.env.scope.names.lookup x = some .local := by first | exact .inl rfl | exact .inr rfl | assumption) : wpAny M A (storeName X.env x u) Q E s := by
 obtain ⟨m, hn, hl⟩ := id I.loc
 have hcls : (X.env.scope.kind == .class || (X.env.scope.kind == .module && X.env.locals != X.env.globals)) = false := by rw [I.ok.kind]; rfl
 have hiσ : i < σ.length := by rw [I.len]; exact (List.getElem?_eq_some_iff.mp hi).1
 have cne := I.cne
 have tracked : ∀ {a : Addr} {h' : Heap}, (∃ o, s.heap.get? a = some o ∧ H a = none) → Heap.SameBut a s.heap h' → HOk X.prog X.w H h' := fun {a h'} ha hs b ob e => by
   obtain ⟨_, _, hfree⟩ := ha
   refine (I.hok b ob e).stay (fun c w' hc q => (hs.2 c ?_).trans q) (fun _ q => q) fun _ _ q => q
   rintro rfl
   rcases hc with rfl | hc
   · rw [hfree] at e; cases e
   · rw [hfree] at hc; cases hc
 rcases hx with hk | hk
 · refine wpAny_storeName_local hk hn (fun h' hn' hs => ?_) hcls
   obtain ⟨oL, _, _, hoL, _⟩ := id hn
   refine h _ ⟨I.ok, I.os, I.bare, ⟨fun b o e n hb hx => ?_, fun b o e n hb hx => ?_, I.base.free, fun b o e hx => ?_, I.base.tups, I.base.frzs, I.base.tbls⟩, ⟨_, hn', fun j y v' e1 e2 e3 => ?_⟩, fun y c e => ?_, I.free, I.freeC, fun p hp => ?_, tracked ⟨oL, hoL, I.free⟩ hs, by simpa using I.len⟩ ⟨_, hs, .inl rfl⟩
   · exact (hs.2 b (Nat.ne_of_lt (Nat.lt_of_lt_of_le (Heap.lt_size e) I.ok.above))).trans (I.base.keep b o e n hb hx)
   · obtain ⟨sl, e1⟩ := I.base.slot b o e n hb hx
     exact ⟨sl, (hs.2 b (Nat.ne_of_lt (Nat.lt_of_lt_of_le (Heap.lt_size e) I.ok.above))).trans e1⟩
   · obtain ⟨o', e1⟩ := I.base.there b o e hx
     exact ⟨o', (hs.2 b (Nat.ne_of_lt (Nat.lt_of_lt_of_le (Heap.lt_size e) I.ok.above))).trans e1⟩
   · by_cases hj : j = i
     · subst hj
       rw [hi] at e1; cases e1
       rw [List.getElem?_set_self hiσ] at e2
       cases e2
       exact ⟨u, r, .inl ⟨hk, by simp⟩⟩
     · rw [List.getElem?_set_ne (Ne.symm hj)] at e2
       obtain ⟨u', r', q⟩ := hl j y v' e1 e2 e3
       refine ⟨u', r', ?_⟩
       rcases q with ⟨k, e⟩ | ⟨k, c, e, z⟩
       · refine .inl ⟨k, ?_⟩
         have : y ≠ x := fun e => hj (zfi hN e1 (e ▸ hi))
         simp [this, e]
       · exact .inr ⟨k, c, e, z.sameBut hs (cne y c e)⟩
   · obtain ⟨w', z⟩ := I.cell y c e
     exact ⟨w', z.sameBut hs (cne y c e)⟩
   · obtain ⟨e, n, ne, nf, d⟩ := I.pin p hp
     exact ⟨(hs.2 p.1 ne).trans e, n, ne, nf, d⟩
 · have hfn : X.fn x = true := by
     rcases hf with z | z
     · exact z
     · rw [z] at hk; cases hk
   obtain ⟨c, hc⟩ := I.ok.has x (.inl hk)
   obtain ⟨w', z⟩ := I.cell x c hc
   refine wpAny_storeName_cell I.ok.kind hk hc z (fun h' hc' hs => ?_)
   obtain ⟨oc, hoc, hocd⟩ := id z
   refine h { s with heap := h' } ⟨I.ok, I.os, I.bare, ⟨fun b o e n hb hx => ?_, fun b o e n hb hx => ?_, I.base.free, fun b o e hx => ?_, I.base.tups, I.base.frzs, I.base.tbls⟩, ⟨m, hn.sameBut hs (Ne.symm (cne x c hc)), fun j y v' e1 e2 e3 => ?_⟩, fun y c' e => ?_, I.free, I.freeC, fun p hp => ?_, tracked ⟨oc, hoc, I.freeC x c hc⟩ hs, by simpa using I.len⟩ ⟨c, hs, .inr hc⟩
   · exact (hs.2 b (Nat.ne_of_lt (Nat.lt_of_lt_of_le (Heap.lt_size e) (I.ok.cab x c hfn hc)))).trans (I.base.keep b o e n hb hx)
   · obtain ⟨sl, e1⟩ := I.base.slot b o e n hb hx
     exact ⟨sl, (hs.2 b (Nat.ne_of_lt (Nat.lt_of_lt_of_le (Heap.lt_size e) (I.ok.cab x c hfn hc)))).trans e1⟩
   · obtain ⟨o', e1⟩ := I.base.there b o e hx
     exact ⟨o', (hs.2 b (Nat.ne_of_lt (Nat.lt_of_lt_of_le (Heap.lt_size e) (I.ok.cab x c hfn hc)))).trans e1⟩
   · by_cases hj : j = i
     · subst hj
       rw [hi] at e1; cases e1
       rw [List.getElem?_set_self hiσ] at e2
       cases e2
       exact ⟨u, r, .inr ⟨.inl hk, c, hc, hc'⟩⟩
     · rw [List.getElem?_set_ne (Ne.symm hj)] at e2
       obtain ⟨u', r', q⟩ := hl j y v' e1 e2 e3
       refine ⟨u', r', ?_⟩
       rcases q with q | ⟨k, c', e, z'⟩
       · exact .inl q
       · refine .inr ⟨k, c', e, z'.sameBut hs ?_⟩
         rintro rfl
         exact hj (zfi hN e1 (I.ok.inj _ _ _ e hc ▸ hi))
   · by_cases hcc : c' = c
     · subst hcc; exact ⟨_, hc'⟩
     · obtain ⟨w2, z2⟩ := I.cell y c' e
       exact ⟨w2, z2.sameBut hs hcc⟩
   · obtain ⟨e, n, ne, nf, d⟩ := I.pin p hp
     refine ⟨(hs.2 p.1 ?_).trans e, n, ne, nf, d⟩
     intro q
     rw [q, hoc] at e
     have q' : oc = p.2 := Option.some.inj e
     exact d w' (by rw [← q']; exact hocd)
theorem zcA {M : Model} {A : Around} {E : Value → Shared → Prop} {i : Nat} {x : Str} {v : V} {u : Value} {Q : Unit → Shared → Prop} (I : Inv X pins σ H s) (hN : X.N.Nodup) (hi : X.N[i]? = some x) (hx : Loc X.env.scope x) (r : RelV v u)
   (h : ∀ s', Inv X pins (σ.set i (some v)) H s' → Q () s') (hf : X.fn x = true ∨ X.env.scope.names.lookup x = some .local := by first | exact .inl rfl | exact .inr rfl | assumption) : wpAny M A (storeName X.env x u) Q E s :=
 zfV I hN hi hx r (fun s' I' _ => h s' I') hf
theorem Inv.call' {s' : Shared} {ch : List Addr} (I : Inv X pins σ H s) (ho : s'.os = s.os) (u : Un (frs X.stack) ch H H' s.heap s'.heap) (hok : HOk X.prog X.w H' s'.heap) (hg : AllBare s'.gens)
   (hch : ∀ b ∈ ch, (b ∈ X.ex ∨ X.s₀.heap.objs.size ≤ b) ∧ b ≠ X.env.locals ∧ (∀ x c, X.env.cells.lookup x = some c → c ≠ b) ∧ ∀ p ∈ X.pn ++ pins, p.1 ≠ b) : Inv X pins σ H' s' := by
 obtain ⟨h', g', d', t', o'⟩ := s'
 have e : o' = s.os := ho
 subst e
 exact I.call (g' := g') (t' := t') (d' := d') u hok hg hch
end
abbrev XK := Value → Option Addr → Hp → Prop
abbrev St := List (Option V)
abbrev VK := V → Hp → Prop
abbrev TE := St → Hp → VK → Prop
abbrev TT := St → Hp → (Bool → Hp → Prop) → Prop
abbrev TA := St → Hp → (List V → Hp → Prop) → Prop
structure Ends where
 nx : St → Hp → Prop
 rt : VK
 bk : St → Hp → Prop := fun _ _ => False
 ct : St → Hp → Prop := fun _ _ => False
abbrev TS := Ends → St → Hp → Prop
def EP (X : Cx) (pins : List (Addr × Obj)) (σ : St) (Q : VK) (u : Value) (s' : Shared) : Prop := ∃ v H', Inv X pins σ H' s' ∧ RelV v u ∧ Q v H'
def TP (X : Cx) (pins : List (Addr × Obj)) (σ : St) (Q : Bool → Hp → Prop) (b : Bool) (s' : Shared) : Prop := ∃ H', Inv X pins σ H' s' ∧ Q b H'
def AP (X : Cx) (pins : List (Addr × Obj)) (σ : St) (Q : List V → Hp → Prop) (us : List Value) (s' : Shared) : Prop := ∃ vs H', Inv X pins σ H' s' ∧ Vals vs us ∧ Q vs H'
def SP (X : Cx) (pins : List (Addr × Obj)) (D : Ends) (f : Flow) (s' : Shared) : Prop :=
 match f with
 | .next => ∃ σ' H', Inv X pins σ' H' s' ∧ D.nx σ' H'
 | .brk => ∃ σ' H', Inv X pins σ' H' s' ∧ D.bk σ' H'
 | .cont => ∃ σ' H', Inv X pins σ' H' s' ∧ D.ct σ' H'
 | .ret u => ∃ v σ' H', Inv X pins σ' H' s' ∧ RelV v u ∧ D.rt v H'
def PE (X : Cx) (e : Expr) (t : TE) : Prop :=
 ∀ (pins : List (Addr × Obj)) (s : Shared) (σ : St) (H : Hp) (Q : VK), Inv X pins σ H s → t σ H Q → wpAny (model X.prog X.w) X.A (eval e X.env) (EP X pins σ Q) X.xe s
def PT (X : Cx) (e : Expr) (t : TT) : Prop :=
 ∀ (pins : List (Addr × Obj)) (s : Shared) (σ : St) (H : Hp) (Q : Bool → Hp → Prop), Inv X pins σ H s → t σ H Q → wpAny (model X.prog X.w) X.A (isTrue e X.env (eval e X.env)) (TP X pins σ Q) X.xe s
def PW (X : Cx) (e : Expr) (t : TT) : Prop :=
 ∀ (whole : Sem Value) (pins : List (Addr × Obj)) (s : Shared) (σ : St) (H : Hp) (Q : Bool → Hp → Prop), Inv X pins σ H s → t σ H Q → wpAny (model X.prog X.w) X.A (isTrue e X.env whole) (TP X pins σ Q) X.xe s
theorem PW.pt {X : Cx} {e : Expr} {t : TT} (h : PW X e t) : PT X e t := h _
def PA (X : Cx) (es : List Expr) (t : TA) : Prop :=
 ∀ (pos : Pos) (pins : List (Addr × Obj)) (s : Shared) (σ : St) (H : Hp) (Q : List V → Hp → Prop), Inv X pins σ H s → t σ H Q → wpAny (model X.prog X.w) X.A (spliced (backTo pos (starEach es X.env))) (AP X pins σ Q) X.xe s
def PS (X : Cx) (st : Stmt) (t : TS) : Prop :=
 ∀ (pins : List (Addr × Obj)) (s : Shared) (σ : St) (H : Hp) (D : Ends), Inv X pins σ H s → t D σ H → wpAny (model X.prog X.w) X.A (exec st X.env) (SP X pins D) X.xe s
def PSs (X : Cx) (st : List Stmt) (t : TS) : Prop :=
 ∀ (pins : List (Addr × Obj)) (s : Shared) (σ : St) (H : Hp) (D : Ends), Inv X pins σ H s → t D σ H → wpAny (model X.prog X.w) X.A (execs st X.env) (SP X pins D) X.xe s
theorem thn {α : Type} {t : Sem α} {Q Q' : α → Shared → Prop} {M : Model} {A : Around} {E : Value → Shared → Prop} {s : Shared} (h : wpAny M A t Q E s) (hQ : ∀ a s, Q a s → Q' a s) : wpAny M A t Q' E s := wpAny_mono h hQ fun _ _ x => x
end L2
namespace L2
open PySem PySem.Spec PyProof.Rows
section
variable {X : Cx}
def tVar (i : Nat) : TE := fun σ H Q => ∃ v, σ[i]? = some (some v) ∧ Q v H
def tC (v : V) : TE := fun _ H Q => Q v H
theorem zkq {i : Nat} {x : Str} {pos : Pos} (hN : X.N[i]? = some x) (hv : Vis X.env.scope x) (hd : (x == ("__debug__" : Str)) = false := by decide) (hcd : (x == ("__classdict__" : Str)) = false := by decide) : PE X (.Name x pos) (tVar i) := by
 intro pins s σ H Q I h
 obtain ⟨v, e, h⟩ := h
 obtain ⟨m, hn, hl⟩ := I.loc
 obtain ⟨u, r, l⟩ := hl i x v hN e hv
 have fin : EP X pins σ Q u s := ⟨v, H, I, r, h⟩
 rcases l with ⟨hk, hm⟩ | ⟨hk, c, hc, hcell⟩
 · exact wpAny_Name (wpAny_loadName_local I.ok.kind hk hn hm fin) hd
 · rcases hk with hk | hk
   · exact wpAny_Name (wpAny_loadName_cell I.ok.kind hk hc hcell fin) hd
   · exact wpAny_Name (wpAny_loadName_free I.ok.kind hk hc hcell fin hcd) hd
theorem zkx {i j pos} : PE X (.Constant (.int i) j pos) (tC (.int i)) := fun _ _ _ H _ I h => wpAny_Constant_int ⟨.int i, H, I.tok _, ⟨_, rfl⟩, h⟩
theorem zlF {b j pos} : PE X (.Constant (.bool b) j pos) (tC (.bl b)) := fun _ _ _ H _ I h => Constant_bool ⟨.bl b, H, I, rfl, h⟩
theorem zkv {j pos} : PE X (.Constant .none j pos) (tC .non) := fun _ _ _ H _ I h => Constant_none ⟨.non, H, I, rfl, h⟩
theorem zks {x j pos} : PE X (.Constant (.str x) j pos) (tC (.str x)) := fun _ _ _ H _ I h => Calls.Constant_str ⟨.str x, H, I.tok _, ⟨_, rfl⟩, h⟩
def Gl (X : Cx) (x : Str) : Prop := X.env.kindOf x = some .globalImplicit
theorem zjd {E : Value → Shared → Prop} {pins : List (Addr × Obj)} {s : Shared} {σ : St} {H : Hp} {x : Str} {u : Value} {pos : Pos} {Q : Value → Shared → Prop} (I : Inv X pins σ H s) (hg : Gl X x) (hm : X.mg x = some u) (h : Q u s)
   (hd : (x == ("__debug__" : Str)) = false := by decide) : wpAny (model X.prog X.w) X.A (eval (.Name x pos) X.env) Q E s :=
 Calls.Name_function_global I.ok.kind hg (Calls.loadGlobal_global (by rw [I.ok.glob]; exact I.mod.glob.keeps I.bk) hm h) hd
theorem zew {E : Value → Shared → Prop} {pins : List (Addr × Obj)} {s : Shared} {σ : St} {H : Hp} {x : Str} {u : Value} {pos : Pos} {Q : Value → Shared → Prop} (I : Inv X pins σ H s) (hg : Gl X x) (hm : X.mg x = none) (hv : bootBuiltins x = some u) (h : Q u s)
   (hn : x ≠ "__name__" := by decide) (hd : (x == ("__debug__" : Str)) = false := by decide) : wpAny (model X.prog X.w) X.A (eval (.Name x pos) X.env) Q E s := by
 obtain ⟨mb, h1, h2⟩ := I.mod.blt
 exact Calls.Name_function_global I.ok.kind hg (Calls.loadGlobal_builtin (by rw [I.ok.glob]; exact I.mod.glob.keeps I.bk) hm (by rw [I.ok.blt]; exact h1.keeps I.bk) ((h2 x hn).trans hv) h) hd
theorem ziM {x : Str} {v : V} {u : Value} {pos : Pos} (hg : Gl X x) (hm : X.mg x = none) (hv : bootBuiltins x = some u) (r : RelV v u) (hn : x ≠ "__name__" := by decide) (hd : (x == ("__debug__" : Str)) = false := by decide) : PE X (.Name x pos) (tC v) :=
 fun _ _ _ H _ I h => zew I hg hm hv ⟨v, H, I, r, h⟩ hn hd
variable {a b : Expr} {ta tb : TE} {pos : Pos}
variable {tA tB' : TT} {rest : List Expr}
def tAnd (t u : TT) : TT := fun σ H Q => t σ H fun c H1 => if c = true then u σ H1 Q else Q false H1
def tOr (t u : TT) : TT := fun σ H Q => t σ H fun c H1 => if c = true then Q true H1 else u σ H1 Q
def tNot (t : TT) : TT := fun σ H Q => t σ H fun c H1 => Q (!c) H1
theorem ziv (ha : PT X a tA) : PW X (.BoolOp .And [a] pos) tA := by
 intro wh pins s σ H Q I h
 refine isTrue_and (thn (ha pins s σ H Q I h) fun c s1 e => ?_)
 cases c with
 | true => exact isTrue_and_nil e
 | false => exact e
theorem zkf (ha : PT X a tA) : PW X (.BoolOp .Or [a] pos) tA := by
 intro wh pins s σ H Q I h
 refine isTrue_or (thn (ha pins s σ H Q I h) fun c s1 e => ?_)
 cases c with
 | false => exact isTrue_or_nil e
 | true => exact e
theorem zkg (ha : PT X a tA) (hb : PW X (.BoolOp .And (b :: rest) pos) tB') : PW X (.BoolOp .And (a :: b :: rest) pos) (tAnd tA tB') := by
 intro wh pins s σ H Q I h
 refine isTrue_and (thn (ha pins s σ H _ I h) fun c s1 ⟨H1, I1, q1⟩ => ?_)
 cases c with
 | true => exact hb wh pins s1 σ H1 Q I1 q1
 | false => exact ⟨H1, I1, q1⟩
theorem zlw (ha : PT X a tA) (hb : PW X (.BoolOp .Or (b :: rest) pos) tB') : PW X (.BoolOp .Or (a :: b :: rest) pos) (tOr tA tB') := by
 intro wh pins s σ H Q I h
 refine isTrue_or (thn (ha pins s σ H _ I h) fun c s1 ⟨H1, I1, q1⟩ => ?_)
 cases c with
 | true => exact ⟨H1, I1, q1⟩
 | false => exact hb wh pins s1 σ H1 Q I1 q1
theorem zkh (ha : PT X a tA) : PT X (.UnaryOp .Not a pos) (tNot tA) := by
 intro pins s σ H Q I h
 exact isTrue_not (ha pins s σ H (fun c H1 => Q (!c) H1) I h)
def tAndV (ta tb : TE) : TE := fun σ H Q => ta σ H fun x H1 => ∃ c, x = .bl c ∧ if c = true then tb σ H1 Q else Q (.bl false) H1
def tOrV (ta tb : TE) : TE := fun σ H Q => ta σ H fun x H1 => ∃ c, x = .bl c ∧ if c = true then Q (.bl true) H1 else tb σ H1 Q
def tNotV (ta : TE) : TE := fun σ H Q => ta σ H fun x H1 => ∃ c, x = .bl c ∧ Q (.bl (!c)) H1
theorem zkt {op} {t : TE} (h : PE X a t) : PE X (.BoolOp op [a] pos) t := fun pins s σ H Q I hw => BoolOp_one (h pins s σ H Q I hw)
theorem zkz (ha : PE X a ta) (hb : PE X (.BoolOp .And (b :: rest) pos) tb) : PE X (.BoolOp .And (a :: b :: rest) pos) (tAndV ta tb) := by
 intro pins s σ H Q I h
 refine BoolOp_and (thn (ha pins s σ H _ I h) fun v s1 ⟨x, H1, I1, r1, q1⟩ => ?_)
 obtain ⟨c, rfl, q1⟩ := q1
 cases r1
 refine wpAny_truthy_bool ?_
 cases c with
 | true => exact hb pins s1 σ H1 Q I1 q1
 | false => exact ⟨.bl false, H1, I1, rfl, q1⟩
theorem zlz (ha : PE X a ta) (hb : PE X (.BoolOp .Or (b :: rest) pos) tb) : PE X (.BoolOp .Or (a :: b :: rest) pos) (tOrV ta tb) := by
 intro pins s σ H Q I h
 refine BoolOp_or (thn (ha pins s σ H _ I h) fun v s1 ⟨x, H1, I1, r1, q1⟩ => ?_)
 obtain ⟨c, rfl, q1⟩ := q1
 cases r1
 refine wpAny_truthy_bool ?_
 cases c with
 | false => exact hb pins s1 σ H1 Q I1 q1
 | true => exact ⟨.bl true, H1, I1, rfl, q1⟩
theorem zku (ha : PE X a ta) : PE X (.UnaryOp .Not a pos) (tNotV ta) := by
 intro pins s σ H Q I h
 refine UnaryOp_ (thn (ha pins s σ H _ I h) fun v s1 ⟨x, H1, I1, r1, q1⟩ => ?_)
 obtain ⟨c, rfl, q1⟩ := q1
 cases r1
 exact not_of (wpAny_truthy_bool ⟨.bl (!c), H1, I1, rfl, q1⟩)
def tIf (t : TT) (ta tb : TE) : TE := fun σ H Q => t σ H fun c H1 => if c = true then ta σ H1 Q else tb σ H1 Q
theorem zhp {c : Expr} (hc : PT X c tA) (ha : PE X a ta) (hb : PE X b tb) : PE X (.IfExp c a b pos) (tIf tA ta tb) := by
 intro pins s σ H Q I h
 refine wpAny_IfExp (thn (hc pins s σ H _ I h) fun d s1 ⟨H1, I1, q1⟩ => ?_)
 cases d with
 | true => exact ha pins s1 σ H1 Q I1 q1
 | false => exact hb pins s1 σ H1 Q I1 q1
end
end L2
namespace L2
open PySem PySem.Spec PyProof.Rows
def SqL (K : PySem.W.Frag) (H : Hp) (a : Addr) (xs : List V) : Prop :=
 Rd H a (.lst xs) ∨
   ∃ (o : Obj) (its : Array Value) (n : Nat), K.lookup a = some o ∧ o.cls = .type "list" ∧ o.dict = none ∧ o.data = .seq its n ∧ its.size ≤ sizeLine ∧ Vals xs its.toList
def SqT (K : PySem.W.Frag) (H : Hp) (a : Addr) (xs : List V) : Prop :=
 Rd H a (.tup xs) ∨
   ∃ (o : Obj) (its : Array Value) (n : Nat), K.lookup a = some o ∧ o.cls = .type "tuple" ∧ o.data = .seq its n ∧ its.size ≤ sizeLine ∧ Vals xs its.toList
def absV : Value → Option V
 | .none => some .non
 | .bool b => some (.bl b)
 | .int i _ => some (.int i)
 | .str x _ => some (.str x)
 | .bytes b _ => some (.byt b)
 | .float b _ => some (.flt b)
 | .ref a => some (.ref a)
 | .type n => some (.ty n)
 | _ => none
theorem RelV.abs {x : V} {u : Value} (r : RelV x u) : absV u = some x := by
 cases x with
 | non => cases r; rfl
 | bl _ => cases r; rfl
 | int _ => obtain ⟨t, rfl⟩ := r; rfl
 | str _ => obtain ⟨t, rfl⟩ := r; rfl
 | byt _ => obtain ⟨t, rfl⟩ := r; rfl
 | flt _ => obtain ⟨t, rfl⟩ := r; rfl
 | ref _ => cases r; rfl
 | ty _ => cases r; rfl
theorem RelV.inj {x y : V} {u : Value} (r : RelV x u) (q : RelV y u) : x = y := Option.some.inj (r.abs.symm.trans q.abs)
theorem Vals.inj : ∀ {xs ys : List V} {us : List Value}, Vals xs us → Vals ys us → xs = ys
 | _, _, _, .nil, .nil => rfl
 | _, _, _, .cons r t, .cons r' t' => by rw [r.inj r', Vals.inj t t']
section
variable {X : Cx} {pins : List (Addr × Obj)} {σ : St} {H : Hp} {s : Shared} {a : Addr} {xs ys : List V}
theorem SqL.of {K : PySem.W.Frag} (h : H a = some (.lst xs)) : SqL K H a xs := .inl (.inl h)
theorem SqT.of {K : PySem.W.Frag} (h : H a = some (.tup xs)) : SqT K H a xs := .inl (.inl h)
theorem Inv.list (I : Inv X pins σ H s) (h : SqL X.K H a xs) : ∃ its : List Value, Vals xs its ∧ PlainL s.heap a its.toArray ∧ xs.length ≤ sizeLine := by
 rcases h with h | ⟨o, its, n, hk, hc, hd, hs, hz, r⟩
 · obtain ⟨z, its, n, r, e⟩ := h.ok I.hok
   exact ⟨its, r, ⟨_, n, e, rfl, rfl, rfl⟩, z⟩
 · refine ⟨its.toList, r, ⟨o, n, I.kIn a o hk, hc, hd, by simpa using hs⟩, ?_⟩
   have e := r.length
   simp only [Array.length_toList] at e
   omega
theorem Inv.tuple (I : Inv X pins σ H s) (h : SqT X.K H a xs) : ∃ its : List Value, Vals xs its ∧ IsTup s.heap a its.toArray ∧ xs.length ≤ sizeLine := by
 rcases h with h | ⟨o, its, n, hk, hc, hs, hz, r⟩
 · obtain ⟨z, its, r, p⟩ := h.ok I.hok
   exact ⟨its, r, p, z⟩
 · refine ⟨its.toList, r, ⟨o, I.kIn a o hk, hc, n, by simpa using hs⟩, ?_⟩
   have e := r.length
   simp only [Array.length_toList] at e
   omega
theorem Inv.list_inj (I : Inv X pins σ H s) (h : SqL X.K H a xs) (h' : SqL X.K H a ys) : xs = ys := by
 obtain ⟨its, r, ⟨o, n, e, _, _, d⟩, _⟩ := I.list h
 obtain ⟨its', r', ⟨o', n', e', _, _, d'⟩, _⟩ := I.list h'
 rw [e] at e'; cases e'
 rw [d] at d'
 injection d' with d1 _
 have : its = its' := by simpa using congrArg Array.toList d1
 subst this
 exact r.inj r'
theorem Inv.tuple_inj (I : Inv X pins σ H s) (h : SqT X.K H a xs) (h' : SqT X.K H a ys) : xs = ys := by
 obtain ⟨its, r, ⟨o, e, _, n, d⟩, _⟩ := I.tuple h
 obtain ⟨its', r', ⟨o', e', _, n', d'⟩, _⟩ := I.tuple h'
 rw [e] at e'; cases e'
 rw [d] at d'
 injection d' with d1 _
 have : its = its' := by simpa using congrArg Array.toList d1
 subst this
 exact r.inj r'
end
abbrev Cx.wish (X : Cx) (E : Value → Shared → Prop) : Cx := { X with xe := E }
abbrev Cx.nox (X : Cx) : Cx := X.wish fun _ _ => False
theorem Cx.Ok.wish {X : Cx} (ok : X.Ok) (E : Value → Shared → Prop) : (X.wish E).Ok :=
 ⟨ok.mod, ok.kind, ok.glob, ok.blt, ok.above, ok.inj, ok.has, ok.cab, ok.hd, ok.frames, ok.stk, ok.exf, ok.bs, ok.bsz, ok.noex, ok.exfs, ok.funs, ok.frf⟩
theorem Cx.Ok.unwish {X : Cx} {E : Value → Shared → Prop} (ok : (X.wish E).Ok) : X.Ok :=
 ⟨ok.mod, ok.kind, ok.glob, ok.blt, ok.above, ok.inj, ok.has, ok.cab, ok.hd, ok.frames, ok.stk, ok.exf, ok.bs, ok.bsz, ok.noex, ok.exfs, ok.funs, ok.frf⟩
section
variable {X : Cx} {pins : List (Addr × Obj)} {σ : St} {H : Hp} {s : Shared} {E : Value → Shared → Prop}
theorem Inv.wish (I : Inv X pins σ H s) (E : Value → Shared → Prop) : Inv (X.wish E) pins σ H s := ⟨I.ok.wish E, I.os, I.bare, I.base, I.loc, I.cell, I.free, I.freeC, I.pin, I.hok, I.len⟩
theorem Inv.unwish (I : Inv (X.wish E) pins σ H s) : Inv X pins σ H s := ⟨I.ok.unwish, I.os, I.bare, I.base, I.loc, I.cell, I.free, I.freeC, I.pin, I.hok, I.len⟩
theorem SP.unwish {D : Ends} {f : Flow} {s' : Shared} (h : SP (X.wish E) pins D f s') : SP X pins D f s' := by
 cases f with
 | next => obtain ⟨σ', H', I, q⟩ := h; exact ⟨σ', H', I.unwish, q⟩
 | brk => obtain ⟨σ', H', I, q⟩ := h; exact ⟨σ', H', I.unwish, q⟩
 | cont => obtain ⟨σ', H', I, q⟩ := h; exact ⟨σ', H', I.unwish, q⟩
 | ret u => obtain ⟨v, σ', H', I, r, q⟩ := h; exact ⟨v, σ', H', I.unwish, r, q⟩
theorem PSs.nox {st : List Stmt} {t : TS} (h : PSs X.nox st t) : PSs X st t := fun pins s σ H D I hw =>
 wpAny_mono (h pins s σ H D (I.wish _) hw) (fun _ _ q => q.unwish) fun _ _ z => False.elim z
end
section
variable {X : Cx} {st : Stmt} {rest : List Stmt} {t u : TS} {e : Expr} {te : TE} {pos : Pos}
def tNext : TS := fun D σ H => D.nx σ H
def tSeq (t u : TS) : TS := fun D σ H => t { D with nx := u D } σ H
theorem ziz : PSs X [] tNext := fun _ _ σ H _ I h => wpAny_execs_nil ⟨σ, H, I, h⟩
theorem zhh (h1 : PS X st t) (h2 : PSs X rest u) : PSs X (st :: rest) (tSeq t u) := by
 intro pins s σ H D I h
 refine wpAny_execs_cons (thn (h1 pins s σ H { D with nx := u D } I h) fun f s1 q => ?_)
 cases f with
 | next =>
   obtain ⟨σ', H', I', q⟩ := q
   exact h2 pins s1 σ' H' D I' q
 | ret v => exact q
 | brk => exact q
 | cont => exact q
def tBreak : TS := fun D σ H => D.bk σ H
def tCont : TS := fun D σ H => D.ct σ H
theorem ziB : PS X (.Pass pos) tNext := fun _ _ σ H _ I h => wpAny_Pass ⟨σ, H, I, h⟩
theorem zhk : PS X (.Break pos) tBreak := fun _ _ σ H _ I h => wpAny_Break ⟨σ, H, I, h⟩
theorem zeY : PS X (.Continue pos) tCont := fun _ _ σ H _ I h => wpAny_Continue ⟨σ, H, I, h⟩
theorem Inv.quiet {pins : List (Addr × Obj)} {σ : St} {H : Hp} {s : Shared} (I : Inv X pins σ H s) : interactive X.env = false := by simp [interactive, I.ok.kind]
theorem zkl {x j pos pos'} : PS X (.Expr (.Constant (.str x) j pos) pos') tNext := fun _ s σ H _ I h => wpAny_Expr (Calls.Constant_str (show SP X _ _ .next { s with toks := s.toks + 1 } from ⟨σ, H, I.tok _, h⟩)) I.quiet
def tDrop (te : TE) : TS := fun D σ H => te σ H fun _ H1 => D.nx σ H1
theorem ziD (he : PE X e te) (hs : swapsWith e none pos.line X.env = pure false := by rfl) : PS X (.Expr e pos) (tDrop te) := by
 intro pins s σ H D I h
 exact wpAny_Expr_any (thn (he pins s σ H _ I h) fun v s1 ⟨x, H1, I1, r1, q1⟩ => ⟨σ, H1, I1, q1⟩) I.quiet hs
def tRet (te : TE) : TS := fun D σ H => te σ H D.rt
theorem zkj (he : PE X e te) : PS X (.Return (some e) pos) (tRet te) := by
 intro pins s σ H D I h
 exact wpAny_Return_some (thn (he pins s σ H _ I h) fun v s1 ⟨x, H1, I1, r1, q1⟩ => ⟨x, σ, H1, I1, r1, q1⟩)
def tRetN : TS := fun D _ H => D.rt .non H
theorem ziA : PS X (.Return none pos) tRetN := fun _ _ σ H _ I h => wpAny_Return_none ⟨.non, σ, H, I, rfl, h⟩
def tIfS (c : TT) (t u : TS) : TS := fun D σ H => c σ H fun b H1 => if b = true then t D σ H1 else u D σ H1
theorem zlx {c : Expr} {a b : List Stmt} {tc : TT} (hc : PT X c tc) (ha : PSs X a t) (hb : PSs X b u) : PS X (.If c a b pos) (tIfS tc t u) := by
 intro pins s σ H D I h
 refine wpAny_If (thn (hc pins s σ H _ I h) fun d s1 ⟨H1, I1, q1⟩ => ?_)
 cases d with
 | true => exact ha pins s1 σ H1 D I1 q1
 | false => exact hb pins s1 σ H1 D I1 q1
end
abbrev TG := V → St → Hp → (St → Hp → Prop) → Prop
abbrev TGs := List V → St → Hp → (St → Hp → Prop) → Prop
def PG (X : Cx) (target : Expr) (t : TG) : Prop :=
 ∀ (pins : List (Addr × Obj)) (s : Shared) (σ : St) (H : Hp) (v : V) (u : Value) (Q : St → Hp → Prop), Inv X pins σ H s → RelV v u → t v σ H Q →
   wpAny (model X.prog X.w) X.A (assign target X.env u) (fun _ s' => ∃ σ' H', Inv X pins σ' H' s' ∧ Q σ' H') X.xe s
def PGs (X : Cx) (ts : List Expr) (t : TGs) : Prop :=
 ∀ (pins : List (Addr × Obj)) (s : Shared) (σ : St) (H : Hp) (vs : List V) (us : List Value) (Q : St → Hp → Prop), Inv X pins σ H s → Vals vs us → t vs σ H Q →
   wpAny (model X.prog X.w) X.A (assignInOrder ((assignEach ts X.env).map (·.2)) us) (fun _ s' => ∃ σ' H', Inv X pins σ' H' s' ∧ Q σ' H') X.xe s
abbrev TSet := V → V → V → Hp → (Hp → Prop) → Prop
def PSet (X : Cx) (t : TSet) : Prop :=
 ∀ (pins : List (Addr × Obj)) (s : Shared) (σ : St) (H : Hp) (o i v : V) (ov iv u : Value) (Q : Hp → Prop), Inv X pins σ H s → RelV o ov → RelV i iv → RelV v u → t o i v H Q →
   wpAny (model X.prog X.w) X.A (setItem ov iv u) (fun _ s' => ∃ H', Inv X pins σ H' s' ∧ Q H') X.xe s
section
variable {X : Cx} {pos : Pos}
def gName (i : Nat) : TG := fun v σ H Q => Q (σ.set i (some v)) H
theorem ziJ {i : Nat} {x : Str} (hN : X.N.Nodup) (hi : X.N[i]? = some x) (hx : Loc X.env.scope x) (hf : X.fn x = true ∨ X.env.scope.names.lookup x = some .local := by first | exact .inl rfl | exact .inr rfl | assumption) : PG X (.Name x pos) (gName i) := by
 intro pins s σ H v u Q I r h
 exact wpAny_assign_Name (zcA I hN hi hx r (fun s' I' => ⟨_, H, I', h⟩) hf)
def gNil : TGs := fun vs σ H Q => vs = [] ∧ Q σ H
def gCons (t : TG) (u : TGs) : TGs := fun vs σ H Q => ∃ v r, vs = v :: r ∧ t v σ H fun σ' H' => u r σ' H' Q
theorem ziH : PGs X [] gNil := by
 intro pins s σ H vs us Q I r h
 obtain ⟨e, h⟩ := h
 subst e
 cases r
 exact assignInOrder_nil ⟨σ, H, I, h⟩
theorem zhn {e : Expr} {es : List Expr} {t : TG} {u : TGs} (h1 : PG X e t) (h2 : PGs X es u)
   (hs : (assignEach (e :: es) X.env).map (·.2) = assign e X.env :: (assignEach es X.env).map (·.2) := by rfl) : PGs X (e :: es) (gCons t u) := by
 intro pins s σ H vs us Q I r h
 obtain ⟨v, vr, e1, h⟩ := h
 subst e1
 cases r with
 | cons r rr =>
   rw [hs]
   refine assignInOrder_cons (thn (h1 pins s σ H _ _ _ I r h) fun _ s1 ⟨σ1, H1, I1, q1⟩ => ?_)
   exact h2 pins s1 σ1 H1 _ _ Q I1 rr q1
def gTup (K : PySem.W.Frag) (n : Nat) (t : TGs) : TG := fun v σ H Q => ∃ a xs, v = .ref a ∧ SqT K H a xs ∧ xs.length = n ∧ t xs σ H Q
theorem zko {es : List Expr} {k : Nat} {t : TGs} {n : Nat} (hc : X.calm = true) (h : PGs X es t)
   (hn : (assignEach es X.env).length = n := by rfl) (hst : (assignEach es X.env).findIdx? (·.1) = none := by rfl) : PG X (.Tuple es k pos) (gTup X.K n t) := by
 intro pins s σ H v u Q I r hw
 obtain ⟨a, xs, e1, hq, hl, hw⟩ := hw
 subst e1
 cases r
 obtain ⟨its, rv, ht, hz⟩ := I.tuple hq
 refine assign_Tuple_tuple (I.ok.hd hc) ht (by simp [hn, ← hl, rv.length]) hst fun h' hx => ?_
 have I1 : Inv X pins σ H { s with heap := h' } := I.kept (t' := s.toks) fun b o e => hx b o (Nat.ne_of_lt (Heap.lt_size e)) e
 exact h pins _ σ H xs _ Q I1 (by simpa using rv) hw
def gSub (to ti : TE) (t : TSet) : TG := fun v σ H Q => to σ H fun o H1 => ti σ H1 fun i H2 => t o i v H2 fun H3 => Q σ H3
theorem zkp {o i : Expr} {to ti : TE} {t : TSet} (ho : PE X o to) (hi : PE X i ti) (hs : PSet X t)
   (ha : ∀ v, assign (.Subscript o i pos) X.env v = (do
     let ov ← holding [v] (eval o X.env)
     let iv ← holding [v, ov] (eval i X.env)
     standAt pos
     holding [v, ov, iv] (setItem ov iv v)
     release [v, ov, iv] []) := by intro _; rfl) : PG X (.Subscript o i pos) (gSub to ti t) := by
 intro pins s σ H v u Q I r h
 rw [ha]
 refine wpAny_bind (wpAny_holding (thn (ho pins s σ H _ I h) fun ov s1 ⟨x, H1, I1, r1, q1⟩ => ?_))
 refine wpAny_bind (wpAny_holding (thn (hi pins s1 σ H1 _ I1 q1) fun iv s2 ⟨y, H2, I2, r2, q2⟩ => ?_))
 refine wpAny_bind (wpAny_standAt (wpAny_bind (wpAny_holding (thn (hs pins s2 σ H2 x y v ov iv u _ I2 r1 r2 r q2) fun _ s3 ⟨H3, I3, q3⟩ => ?_))))
 exact wpAny_release ⟨σ, H3, I3, q3⟩
def tAsg (te : TE) (g : TG) : TS := fun D σ H => te σ H fun x H1 => g x σ H1 D.nx
theorem zkm {tg e : Expr} {te : TE} {g : TG} (he : PE X e te) (hg : PG X tg g) (hs : swapsWithSole [tg] e pos.line X.env = pure false := by rfl) (hw : swappedStores [tg] e X.env = pure none := by rfl)
   (h1 : (assignEach [tg] X.env).map (·.2) = [assign tg X.env] := by rfl) : PS X (.Assign [tg] e pos) (tAsg te g) := by
 intro pins s σ H D I h
 refine wpAny_Assign_stores (thn (he pins s σ H _ I h) fun v s1 ⟨x, H1, I1, r1, q1⟩ => ?_) hs hw
 rw [h1]
 exact thn (hg pins s1 σ H1 x v _ I1 r1 q1) fun _ s2 q => q
theorem zki {i : Nat} {x : Str} {e : Expr} {te : TE} {pos' : Pos} (hN : X.N.Nodup) (hi : X.N[i]? = some x) (hx : Loc X.env.scope x) (he : PE X e te) (hs : swapsWith e (some (.Name x pos')) pos.line X.env = pure false := by rfl) (hf : X.fn x = true ∨ X.env.scope.names.lookup x = some .local := by first | exact .inl rfl | exact .inr rfl | assumption) :
   PS X (.Assign [.Name x pos'] e pos) (tAsg te (gName i)) := by
 intro pins s σ H D I h
 refine wpAny_Assign_Name (thn (he pins s σ H _ I h) fun v s1 ⟨y, H1, I1, r1, q1⟩ => ?_) hs
 exact zcA I1 hN hi hx r1 (fun s2 I2 => ⟨_, H1, I2, q1⟩) hf
end
section
variable {X : Cx} {pos : Pos}
def tWhile (c : TT) (tb : TS) : TS := fun D σ H => ∃ W : Nat → St → Hp → Prop, (∃ m, W m σ H) ∧ ∀ m σ H, W m σ H →
 c σ H fun b H1 => if b = true then ∃ N : St → Hp → Prop, (∀ σ' H', N σ' H' → ∃ m', m' < m ∧ W m' σ' H') ∧ tb { D with nx := N, ct := N, bk := D.nx } σ H1 else D.nx σ H1
theorem zhi {c : Expr} {body : List Stmt} {tc : TT} {tb : TS} (hp : PassesOwn (model X.prog X.w) X.A X.env X.xe) (hc : PT X c tc) (hb : PSs X body tb) : PS X (.While c body [] pos) (tWhile tc tb) := by
 intro pins s σ H D I h
 obtain ⟨W, ⟨m0, w0⟩, turn⟩ := h
 refine wpAny_While (codeAny_whileLoop (fun n s' => ∃ σ' H', Inv X pins σ' H' s' ∧ W n σ' H') ?_ m0 ⟨σ, H, I, w0⟩)
 rintro n s1 ⟨σ1, H1, I1, w1⟩
 refine wpAny_passesOwn hp (thn (hc pins s1 σ1 H1 _ I1 (turn n σ1 H1 w1)) fun b s2 ⟨H2, I2, q2⟩ => ?_)
 cases b with
 | true =>
   obtain ⟨N, hN, q2⟩ := q2
   rw [if_pos rfl]
   refine wpAny_passesOwn hp (thn (hb pins s2 σ1 H2 _ I2 q2) fun f s3 q3 => ?_)
   cases f with
   | next =>
     obtain ⟨σ3, H3, I3, n3⟩ := q3
     obtain ⟨m', hm, w3⟩ := hN σ3 H3 n3
     exact ⟨m', hm, σ3, H3, I3, w3⟩
   | cont =>
     obtain ⟨σ3, H3, I3, n3⟩ := q3
     obtain ⟨m', hm, w3⟩ := hN σ3 H3 n3
     exact ⟨m', hm, σ3, H3, I3, w3⟩
   | brk => exact q3
   | ret v => exact q3
 | false =>
   rw [if_neg Bool.false_ne_true]
   exact wpAny_execs_nil ⟨σ1, H2, I2, q2⟩
end
structure It where
 go : Nat → Hp → Prop
 yld : Nat → Hp → V → Hp → Prop
 stop : Nat → Hp → Prop
def FpOk (X : Cx) (pins : List (Addr × Obj)) (H : Hp) (b : Addr) : Prop :=
 H b = none ∧ b ≠ X.env.locals ∧ b ∉ X.fs ∧ (b ∈ X.ex ∨ X.s₀.heap.objs.size ≤ b) ∧ (∀ x c, X.env.cells.lookup x = some c → c ≠ b) ∧ ∀ p ∈ X.pn ++ pins, p.1 ≠ b
theorem Inv.fpOk {X : Cx} {pins : List (Addr × Obj)} {σ : St} {H H' : Hp} {s : Shared} {b : Addr} (I : Inv X pins σ H s) (hb : s.heap.objs.size ≤ b) (hn : H' b = none) : FpOk X pins H' b := by
 refine ⟨hn, Nat.ne_of_gt (Nat.lt_of_lt_of_le I.lt hb), I.nofs hb, .inr (Nat.le_trans I.sz hb), fun x c e z => ?_, fun p hp z => ?_⟩
 · obtain ⟨v, q⟩ := I.cell x c e
   exact absurd (Nat.lt_of_lt_of_le q.lt (by rw [z]; exact hb)) (Nat.lt_irrefl _)
 · exact absurd (Nat.lt_of_lt_of_le (Heap.lt_size (I.pin p hp).1) (by rw [z]; exact hb)) (Nat.lt_irrefl _)
structure Turn (P : Program) (w : World) (K : PySem.W.Frag) (tg : Expr) (J : It) (fp : List Addr) (it : Addr) (tn : Nat → Heap → Prop) : Prop where
 mem : it ∈ fp
 obj : ∀ i h, tn i h → ∀ b ∈ fp, ∃ o, h.get? b = some o ∧ ∀ v, o.data ≠ .cell v
 keep : ∀ i h h', tn i h → (∀ b ∈ fp, ∀ o, h.get? b = some o → h'.get? b = some o) → tn i h'
 item : ∀ (X : Cx), X.prog = P → X.w = w → X.K = K → X.calm = true → ∀ (i : Nat) (pins : List (Addr × Obj)) (s : Shared) (σ : St) (H : Hp) (E : Value → Shared → Prop), Inv X pins σ H s → (∀ b ∈ fp, FpOk X pins H b) → tn i s.heap → J.go i H →
   wpAny (model P w) X.A (pyNext (.ref it)) (fun r s1 => ∃ u, r = some u ∧
     wpAny (model P w) X.A (letOwnedTupleGo tg (.ref it) u) (fun _ s2 => ∃ x H', Inv X pins σ H' s2 ∧ RelV x u ∧ J.yld i H x H' ∧ tn (i + 1) s2.heap ∧ ∀ b ∈ fp, H' b = none) E s1) E s
 done : ∀ (X : Cx), X.prog = P → X.w = w → X.K = K → X.calm = true → ∀ (i : Nat) (pins : List (Addr × Obj)) (s : Shared) (σ : St) (H : Hp) (E : Value → Shared → Prop), Inv X pins σ H s → (∀ b ∈ fp, FpOk X pins H b) → tn i s.heap → J.stop i H →
   wpAny (model P w) X.A (pyNext (.ref it)) (fun r s1 => r = none ∧ Inv X pins σ H s1) E s
 self : ∀ (A : Around) (i : Nat) (s : Shared) (Q : Value → Shared → Prop) (E : Value → Shared → Prop), tn i s.heap → Q (.ref it) s → wpAny (model P w) A (pyIter (.ref it)) Q E s
abbrev TI := St → Hp → (It → Hp → Prop) → Prop
def PIE (X : Cx) (pins : List (Addr × Obj)) (σ : St) (tg : Expr) (R : It → Hp → Prop) (itv : Value) (s2 : Shared) : Prop :=
 ∃ (it : Addr) (fp : List Addr) (tn : Nat → Heap → Prop) (J : It) (H' : Hp), itv = .ref it ∧ Inv X pins σ H' s2 ∧ Turn X.prog X.w X.K tg J fp it tn ∧ tn 0 s2.heap ∧ (∀ b ∈ fp, FpOk X pins H' b) ∧ R J H'
def PI (X : Cx) (tg iter : Expr) (wi : TI) : Prop :=
 ∀ (pins : List (Addr × Obj)) (s : Shared) (σ : St) (H : Hp) (R : It → Hp → Prop), Inv X pins σ H s → wi σ H R →
   wpAny (model X.prog X.w) X.A (eval iter X.env) (fun v s1 => wpAny (model X.prog X.w) X.A (pyIter v) (PIE X pins σ tg R) X.xe s1) X.xe s
theorem zji {M : Model} {A : Around} {E : Value → Shared → Prop} {s : Shared} {tg : Expr} {it : Addr} {u : Value} {o : Obj} {n : String} {vs : Array Value} {Q : Unit → Shared → Prop} (ho : s.heap.get? it = some o) (hc : o.cls = .type n) (hd : o.data = .fields vs)
   (hn : ["enumerate", "zip", "dict_itemiterator", "dict_reverseitemiterator", "odict_iterator", "itertools.zip_longest", "itertools.pairwise"].contains n = false) (hQ : Q () s) : wpAny M A (letOwnedTupleGo tg (.ref it) u) Q E s := by
 unfold letOwnedTupleGo
 cases tg <;> first
   | exact wpAny_pure hQ
   | (cases u <;> first
       | exact wpAny_pure hQ
       | (refine wpAny_bind (wpAny_load ho ?_)
          rw [hc, hd]
          show wpAny M A (if (["enumerate", "zip", "dict_itemiterator", "dict_reverseitemiterator", "odict_iterator", "itertools.zip_longest", "itertools.pairwise"].contains n && vs[0]? == some (rawInt _)) = true then _ else _) Q E s
          rw [if_neg (by intro h; rw [hn, Bool.false_and] at h; cases h)]
          exact wpAny_pure hQ))
def Itl (K : PySem.W.Frag) (a : Addr) : It :=
 ⟨fun i H => ∃ xs x, SqL K H a xs ∧ xs[i]? = some x, fun i H x H' => H' = H ∧ ∀ xs, SqL K H a xs → xs[i]? = some x, fun i H => ∃ xs, SqL K H a xs ∧ xs.length ≤ i⟩
def Itt (K : PySem.W.Frag) (a : Addr) : It :=
 ⟨fun i H => ∃ xs x, SqT K H a xs ∧ xs[i]? = some x, fun i H x H' => H' = H ∧ ∀ xs, SqT K H a xs → xs[i]? = some x, fun i H => ∃ xs, SqT K H a xs ∧ xs.length ≤ i⟩
def Itr (lo : Int) (n : Nat) : It := ⟨fun i _ => i < n, fun i H x H' => H' = H ∧ x = .int (lo + i), fun i _ => n ≤ i⟩
theorem zfT {P : Program} {w : World} {K : PySem.W.Frag} {tg : Expr} (a it : Addr) : Turn P w K tg (Itl K a) [it] it (fun i h => h.IsListIter it a i) where
 mem := by simp
 obj := fun i h st b hb => by
   have e : b = it := by simpa using hb
   subst e
   obtain ⟨o, e, c, d⟩ := st
   exact ⟨o, e, fun v z => by rw [d] at z; cases z⟩
 keep := fun i h h' st k => st.at fun o e => k it (by simp) o e
 item := by
   intro X hP hw hK hc i pins s σ H E I hf st hg
   subst hP hw hK
   obtain ⟨xs, x, hq, hx⟩ := hg
   obtain ⟨its, rv, p, hz⟩ := I.list hq
   obtain ⟨u, hu, ru⟩ := rv.get hx
   obtain ⟨f0, f1, f2, f3, f4, f5⟩ := hf it (by simp)
   refine wpAny_pyNext_list_item st p.isList (x := u) (by simpa using hu) fun h' st' sb => ?_
   have I1 : Inv X pins σ H { s with heap := h' } := I.turned (t' := s.toks) (fun b o hb e => (sb.2 b hb).trans e) f0 f1 f3 f4 f5
   obtain ⟨o, e, c, d⟩ := id st'
   exact ⟨u, rfl, zji (s := { s with heap := h' }) e c d (by decide) ⟨x, H, I1, ru, ⟨rfl, fun ys hy => by rw [I.list_inj hy hq]; exact hx⟩, st', fun b hb => (hf b hb).1⟩⟩
 done := by
   intro X hP hw hK hc i pins s σ H E I hf st hg
   subst hP hw hK
   obtain ⟨xs, hq, hx⟩ := hg
   obtain ⟨its, rv, p, hz⟩ := I.list hq
   obtain ⟨f0, f1, f2, f3, f4, f5⟩ := hf it (by simp)
   have hl := rv.length
   exact wpAny_pyNext_list_end (I.ok.hd hc) st p.isList (by simp; omega) fun h' eb => ⟨rfl, I.turned (t' := s.toks) (fun b o hb e => eb b o hb e) f0 f1 f3 f4 f5⟩
 self := fun _ _ _ _ _ st h => wpAny_pyIter_listiter st h
theorem zft {P : Program} {w : World} {K : PySem.W.Frag} {tg : Expr} (a it : Addr) : Turn P w K tg (Itt K a) [it] it (fun i h => h.IsTupleIter it a i) where
 mem := by simp
 obj := fun i h st b hb => by
   have e : b = it := by simpa using hb
   subst e
   obtain ⟨o, e, c, d⟩ := st
   exact ⟨o, e, fun v z => by rw [d] at z; cases z⟩
 keep := fun i h h' st k => st.at fun o e => k it (by simp) o e
 item := by
   intro X hP hw hK hc i pins s σ H E I hf st hg
   subst hP hw hK
   obtain ⟨xs, x, hq, hx⟩ := hg
   obtain ⟨its, rv, p, hz⟩ := I.tuple hq
   obtain ⟨u, hu, ru⟩ := rv.get hx
   obtain ⟨f0, f1, f2, f3, f4, f5⟩ := hf it (by simp)
   refine wpAny_pyNext_tuple_item st (show s.heap.IsTuple a its.toArray from p) (x := u) (by simpa using hu) fun h' st' sb => ?_
   have I1 : Inv X pins σ H { s with heap := h' } := I.turned (t' := s.toks) (fun b o hb e => (sb.2 b hb).trans e) f0 f1 f3 f4 f5
   obtain ⟨o, e, c, d⟩ := id st'
   exact ⟨u, rfl, zji (s := { s with heap := h' }) e c d (by decide) ⟨x, H, I1, ru, ⟨rfl, fun ys hy => by rw [I.tuple_inj hy hq]; exact hx⟩, st', fun b hb => (hf b hb).1⟩⟩
 done := by
   intro X hP hw hK hc i pins s σ H E I hf st hg
   subst hP hw hK
   obtain ⟨xs, hq, hx⟩ := hg
   obtain ⟨its, rv, p, hz⟩ := I.tuple hq
   obtain ⟨f0, f1, f2, f3, f4, f5⟩ := hf it (by simp)
   have hl := rv.length
   exact wpAny_pyNext_tuple_end (I.ok.hd hc) st (show s.heap.IsTuple a its.toArray from p) (by simp; omega) fun h' eb => ⟨rfl, I.turned (t' := s.toks) (fun b o hb e => eb b o hb e) f0 f1 f3 f4 f5⟩
 self := fun _ _ _ _ _ st h => wpAny_pyIter_tupleiter st h
theorem zfu {P : Program} {w : World} {K : PySem.W.Frag} {tg : Expr} (it : Addr) (lo : Int) (n : Nat) : Turn P w K tg (Itr lo n) [it] it (fun i h => IsRangeIter h it (lo + (i : Nat) * 1) ((n : Int) - (i : Nat)) 1) where
 mem := by simp
 obj := fun i h st b hb => by
   have e : b = it := by simpa using hb
   subst e
   exact ⟨_, st, fun v z => by
     have z' : Data.fields _ = Data.cell v := z
     cases z'⟩
 keep := fun i h h' st k => k it (by simp) _ st
 item := by
   intro X hP hw hK hc i pins s σ H E I hf st hg
   subst hP hw hK
   obtain ⟨f0, f1, f2, f3, f4, f5⟩ := hf it (by simp)
   have W := Walks.range (prog := X.prog) (w := X.w) (I.ok.hd hc) it lo 1 n
   refine W.item i s _ _ hg st fun v h' tk hv st' kk => ?_
   obtain ⟨t, rfl⟩ := hv
   have I1 : Inv X pins σ H { s with heap := h', toks := tk } := I.turned (fun b o hb e => kk b o (by simpa using hb) e) f0 f1 f3 f4 f5
   refine ⟨_, rfl, zji (s := { s with heap := h', toks := tk }) (n := "range_iterator") st' rfl rfl (by decide) ⟨.int (lo + i), H, I1, ⟨t, ?_⟩, ⟨rfl, rfl⟩, st', fun b hb => (hf b hb).1⟩⟩
   rw [Int.mul_one]
 done := by
   intro X hP hw hK hc i pins s σ H E I hf st hg
   subst hP hw hK
   obtain ⟨f0, f1, f2, f3, f4, f5⟩ := hf it (by simp)
   exact wpAny_pyNext_range_end (I.ok.hd hc) st (by have : n ≤ i := hg; omega) fun h' eb => ⟨rfl, I.turned (t' := s.toks) (fun b o hb e => eb b o hb e) f0 f1 f3 f4 f5⟩
 self := fun _ _ _ _ _ st h => wpAny_pyIter_rangeiter st h
end L2
namespace L2
open PySem PySem.Spec PyProof.Rows
section
variable {X : Cx} {tg : Expr}
def iList (K : PySem.W.Frag) (tl : TE) : TI := fun σ H R => tl σ H fun x H1 => ∃ a, x = .ref a ∧ (∃ xs, SqL K H1 a xs) ∧ R (Itl K a) H1
def iTup (K : PySem.W.Frag) (tl : TE) : TI := fun σ H R => tl σ H fun x H1 => ∃ a, x = .ref a ∧ (∃ xs, SqT K H1 a xs) ∧ R (Itt K a) H1
theorem ziG {l : Expr} {tl : TE} (hl : PE X l tl) : PI X tg l (iList X.K tl) := by
 intro pins s σ H R I h
 refine thn (hl pins s σ H _ I h) fun v s1 ⟨x, H1, I1, r1, q1⟩ => ?_
 obtain ⟨a, e, ⟨xs, hq⟩, q⟩ := q1
 subst e
 cases r1
 obtain ⟨its, rv, p, hz⟩ := I1.list hq
 refine wpAny_pyIter_list p.isList ?_
 refine ⟨s1.heap.objs.size, [s1.heap.objs.size], _, _, H1, rfl, I1.kept (t' := s1.toks) fun b o e => Heap.get?_push_of_some _ e, zfT a _, ⟨_, Heap.get?_push_size _ rfl, rfl, rfl⟩, fun b hb => ?_, q⟩
 have e : b = s1.heap.objs.size := by simpa using hb
 subst e
 exact I1.fpOk (Nat.le_refl _) (I1.hok.fresh (Nat.le_refl _))
theorem zkn {l : Expr} {tl : TE} (hl : PE X l tl) : PI X tg l (iTup X.K tl) := by
 intro pins s σ H R I h
 refine thn (hl pins s σ H _ I h) fun v s1 ⟨x, H1, I1, r1, q1⟩ => ?_
 obtain ⟨a, e, ⟨xs, hq⟩, q⟩ := q1
 subst e
 cases r1
 obtain ⟨its, rv, p, hz⟩ := I1.tuple hq
 refine wpAny_pyIter_tuple (show s1.heap.IsTuple a its.toArray from p) ?_
 refine ⟨s1.heap.objs.size, [s1.heap.objs.size], _, _, H1, rfl, I1.kept (t' := s1.toks) fun b o e => Heap.get?_push_of_some _ e, zft a _, ⟨_, Heap.get?_push_size _ rfl, rfl, rfl⟩, fun b hb => ?_, q⟩
 have e : b = s1.heap.objs.size := by simpa using hb
 subst e
 exact I1.fpOk (Nat.le_refl _) (I1.hok.fresh (Nat.le_refl _))
theorem zfg {pins : List (Addr × Obj)} {σ : St} {H : Hp} {s : Shared} {R : It → Hp → Prop} {E : Value → Shared → Prop} {lo hi : Int} {t u v : Tok} {tk : Nat} (I : Inv X pins σ H s) (h1 : -(2 ^ 62) ≤ lo) (h2 : lo < 2 ^ 62) (h3 : -(2 ^ 62) ≤ hi) (h4 : hi < 2 ^ 62)
   (q : R (Itr lo (hi - lo).toNat) H) : wpAny (model X.prog X.w) X.A (pyIter (.ref s.heap.objs.size)) (PIE X pins σ tg R) E { s with heap := s.heap.push { cls := .type "range", data := .fields #[.int lo t, .int hi u, .int 1 v] }, toks := tk } := by
 refine wpAny_pyIter_range (IsRange.new ..) (small_one h1 h2 h3 h4) ?_
 have I1 : Inv X pins σ H { s with heap := s.heap.push { cls := .type "range", data := .fields #[.int lo t, .int hi u, .int 1 v] }, toks := tk } := I.kept fun b o e => Heap.get?_push_of_some _ e
 refine ⟨(s.heap.push { cls := .type "range", data := .fields #[.int lo t, .int hi u, .int 1 v] }).objs.size, [(s.heap.push { cls := .type "range", data := .fields #[.int lo t, .int hi u, .int 1 v] }).objs.size], _, _, H, rfl,
   I1.kept (t' := tk) fun b o e => Heap.get?_push_of_some _ e, zfu _ lo (hi - lo).toNat, ?_, fun b hb => ?_, q⟩
 · have e1 : lo + ((0 : Nat) : Int) * 1 = lo := by simp
   have e2 : (((hi - lo).toNat : Nat) : Int) - ((0 : Nat) : Int) = Builtin.Range.rangeSize lo hi 1 := by rw [rangeSize_one]; split <;> omega
   show IsRangeIter _ _ (lo + ((0 : Nat) : Int) * 1) ((((hi - lo).toNat : Nat) : Int) - ((0 : Nat) : Int)) 1
   rw [e1, e2]
   exact Heap.get?_push_size _ rfl
 · have e : b = (s.heap.push { cls := .type "range", data := .fields #[.int lo t, .int hi u, .int 1 v] }).objs.size := by simpa using hb
   subst e
   exact I1.fpOk (Nat.le_refl _) (I1.hok.fresh (Nat.le_refl _))
def iRng1 (ta : TA) : TI := fun σ H R => ta σ H fun vs H1 => ∃ j : Int, vs = [.int j] ∧ -(2 ^ 62) ≤ j ∧ j < 2 ^ 62 ∧ R (Itr 0 j.toNat) H1
def iRng2 (ta : TA) : TI := fun σ H R => ta σ H fun vs H1 => ∃ i j : Int, vs = [.int i, .int j] ∧ (-(2 ^ 62) ≤ i ∧ i < 2 ^ 62 ∧ -(2 ^ 62) ≤ j ∧ j < 2 ^ 62) ∧ R (Itr i (j - i).toNat) H1
theorem zf8 {a : Expr} {ta : TA} {p pos : Pos} (hg : Gl X "range") (hm : X.mg "range" = none) (ha : PA X [a] ta) (hs : starEach [a] X.env = [(false, eval a X.env)] := by rfl) : PI X tg (.Call (.Name "range" p) [a] [] pos) (iRng1 ta) := by
 intro pins s σ H R I h
 refine Call_ (zew I hg hm boot_range (PyProof.Rows.callWith_type1 (thn (ha pos pins s σ H _ I h) fun us s1 ⟨vs, H1, I1, r1, q1⟩ => ?_) hs rfl))
 obtain ⟨j, e, q1, q2, q⟩ := q1
 subst e
 cases r1 with
 | cons r rr =>
   cases rr
   obtain ⟨t, rfl⟩ := r
   exact call_range_1 (zfg I1 (by omega) (by omega) q1 q2 (by simpa using q))
theorem zf7 {a b : Expr} {ta : TA} {p pos : Pos} (hg : Gl X "range") (hm : X.mg "range" = none) (ha : PA X [a, b] ta) (hs : starEach [a, b] X.env = [(false, eval a X.env), (false, eval b X.env)] := by rfl) (hs2 : starEach [b] X.env = [(false, eval b X.env)] := by rfl) :
   PI X tg (.Call (.Name "range" p) [a, b] [] pos) (iRng2 ta) := by
 intro pins s σ H R I h
 refine Call_ (zew I hg hm boot_range (PyProof.Rows.callWith_type1 (thn (ha pos pins s σ H _ I h) fun us s1 ⟨vs, H1, I1, r1, q1⟩ => ?_) (by rw [hs, hs2]) (by rw [hs2]; rfl)))
 obtain ⟨i, j, e, ⟨q1, q2, q3, q4⟩, q⟩ := q1
 subst e
 cases r1 with
 | cons r rr =>
   cases rr with
   | cons r' rr =>
     cases rr
     obtain ⟨t, rfl⟩ := r
     obtain ⟨t', rfl⟩ := r'
     exact call_range_2 (zfg I1 q1 q2 q3 q4 q)
def tFor (wi : TI) (g : TG) (tb : TS) : TS := fun D σ H => wi σ H fun J H1 => ∃ W : Nat → Nat → St → Hp → Prop, (∃ m, W 0 m σ H1) ∧ ∀ i m σ H, W i m σ H →
 (J.stop i H ∧ D.nx σ H) ∨ (J.go i H ∧ ∃ N : St → Hp → Prop, (∀ σ' H', N σ' H' → ∃ m', m' < m ∧ W (i + 1) m' σ' H') ∧ ∀ x H', J.yld i H x H' → g x σ H' fun σ2 H2 => tb { D with nx := N, ct := N, bk := D.nx } σ2 H2)
def pinsAt (fp : List Addr) (h : Heap) : List (Addr × Obj) := fp.filterMap fun b => (h.get? b).map fun o => (b, o)
theorem zc9 {fp : List Addr} {h : Heap} {b : Addr} {o : Obj} (hb : b ∈ fp) (e : h.get? b = some o) : (b, o) ∈ pinsAt fp h := List.mem_filterMap.mpr ⟨b, hb, by rw [e]; rfl⟩
theorem zgb {fp : List Addr} {h : Heap} {p : Addr × Obj} (hp : p ∈ pinsAt fp h) : p.1 ∈ fp ∧ h.get? p.1 = some p.2 := by
 obtain ⟨b, hb, e⟩ := List.mem_filterMap.mp hp
 cases q : h.get? b with
 | none => rw [q] at e; cases e
 | some o =>
   rw [q] at e
   have e' : (b, o) = p := Option.some.inj e
   subst e'
   exact ⟨hb, q⟩
theorem Inv.pinned {pins : List (Addr × Obj)} {σ : St} {H : Hp} {s : Shared} {fp : List Addr} (I : Inv X pins σ H s) (hf : ∀ b ∈ fp, FpOk X pins H b) (ho : ∀ b ∈ fp, ∃ o, s.heap.get? b = some o ∧ ∀ v, o.data ≠ .cell v) : Inv X (pins ++ pinsAt fp s.heap) σ H s :=
 I.pins_of fun p hp => (List.mem_append.mp hp).elim (fun z => I.pin p (List.mem_append_right _ z)) fun z => by
   obtain ⟨hb, e⟩ := zgb z
   obtain ⟨f0, f1, f2, _⟩ := hf p.1 hb
   obtain ⟨o, e', d⟩ := ho p.1 hb
   rw [e] at e'; cases e'
   exact ⟨e, f0, f1, f2, d⟩
theorem Inv.unpinned {pins pl : List (Addr × Obj)} {σ : St} {H : Hp} {s : Shared} (I : Inv X (pins ++ pl) σ H s) : Inv X pins σ H s := I.pins_of fun p hp => I.pin p (List.mem_append_right _ (List.mem_append_left _ hp))
theorem zkk {iter : Expr} {body : List Stmt} {wi : TI} {g : TG} {tb : TS} {pos : Pos} (hp : PassesOwn (model X.prog X.w) X.A X.env X.xe) (hc : X.calm = true) (hi : PI X tg iter wi) (hg : PG X tg g) (hb : PSs X body tb)
   (hs : ∀ x, foldedSetIterable iter X.env x = pure x := by intro _; rfl) : PS X (.For tg iter body [] pos) (tFor wi g tb) := by
 intro pins s σ H D I h
 refine wpAny_For (thn (hi pins s σ H _ I h) fun v s1 h1 => thn h1 fun itv s2 h2 => ?_) hs
 obtain ⟨it, fp, tn, J, H2, e, I2, T, st2, f2, W, ⟨m0, w0⟩, turn⟩ := h2
 subst e
 have stat : ∀ {H' : Hp}, (∀ b ∈ fp, H' b = none) → ∀ b ∈ fp, FpOk X pins H' b := fun hn b hb => ⟨hn b hb, (f2 b hb).2⟩
 refine codeAny_forLoop_any (fun n s' => ∃ i σ' H', Inv X pins σ' H' s' ∧ tn i s'.heap ∧ (∀ b ∈ fp, H' b = none) ∧ W i n σ' H') ?_ m0 ⟨0, σ, H2, I2, st2, fun b hb => (f2 b hb).1, w0⟩
 rintro n s3 ⟨i, σ3, H3, I3, st3, fr3, w3⟩
 rcases turn i n σ3 H3 w3 with ⟨stop, qn⟩ | ⟨go, N, hN, step⟩
 · refine wpAny_passesOwn hp (thn (T.done X rfl rfl rfl hc i pins s3 σ3 H3 X.xe I3 (stat fr3) st3 stop) fun r s4 ⟨hr, I4⟩ => ?_)
   subst hr
   exact wpAny_execs_nil ⟨σ3, H3, I4, qn⟩
 · refine wpAny_passesOwn hp (thn (T.item X rfl rfl rfl hc i pins s3 σ3 H3 X.xe I3 (stat fr3) st3 go) fun r s4 ⟨u, hr, h4⟩ => ?_)
   subst hr
   refine wpAny_passesOwn hp (thn h4 fun _ s5 ⟨x, H5, I5, r5, y5, st5, fr5⟩ => ?_)
   have I5' := I5.pinned (stat fr5) (T.obj _ _ st5)
   refine wpAny_passesOwn hp (thn (hg _ s5 σ3 H5 x u _ I5' r5 (step x H5 y5)) fun _ s6 ⟨σ6, H6, I6, q6⟩ => ?_)
   refine wpAny_passesOwn hp (thn (hb _ s6 σ6 H6 _ I6 q6) fun f s7 q7 => ?_)
   have again : ∀ {σ7 : St} {H7 : Hp}, Inv X (pins ++ pinsAt fp s5.heap) σ7 H7 s7 → N σ7 H7 → ∃ m, m < n ∧ ∃ i σ' H', Inv X pins σ' H' s7 ∧ tn i s7.heap ∧ (∀ b ∈ fp, H' b = none) ∧ W i m σ' H' := fun {σ7 H7} I7 n7 => by
     obtain ⟨m', hm, w7⟩ := hN σ7 H7 n7
     refine ⟨m', hm, i + 1, σ7, H7, I7.unpinned, T.keep _ _ _ st5 fun b hb o e => (I7.pin (b, o) (List.mem_append_right _ (List.mem_append_right _ (zc9 hb e)))).1, fun b hb => ?_, w7⟩
     obtain ⟨o, e, d⟩ := T.obj _ _ st5 b hb
     exact (I7.pin (b, o) (List.mem_append_right _ (List.mem_append_right _ (zc9 hb e)))).2.1
   cases f with
   | next => obtain ⟨σ7, H7, I7, n7⟩ := q7; exact again I7 n7
   | cont => obtain ⟨σ7, H7, I7, n7⟩ := q7; exact again I7 n7
   | brk => obtain ⟨σ7, H7, I7, q7⟩ := q7; exact ⟨σ7, H7, I7.unpinned, q7⟩
   | ret v => obtain ⟨x7, σ7, H7, I7, r7, q7⟩ := q7; exact ⟨x7, σ7, H7, I7.unpinned, r7, q7⟩
end
end L2
namespace L2
open PySem PySem.Spec PyProof.Rows
abbrev R2 := V → V → Hp → VK → Prop
def OpR (X : Cx) (f : Value → Value → Sem Value) (r : R2) : Prop :=
 ∀ (pins : List (Addr × Obj)) (s : Shared) (σ : St) (H : Hp) (x y : V) (v u : Value) (Q : VK), Inv X pins σ H s → RelV x v → RelV y u → r x y H Q →
   wpAny (model X.prog X.w) X.A (f v u) (EP X pins σ Q) X.xe s
def UnR (X : Cx) (f : Value → Sem Value) (r : V → Hp → VK → Prop) : Prop :=
 ∀ (pins : List (Addr × Obj)) (s : Shared) (σ : St) (H : Hp) (x : V) (v : Value) (Q : VK), Inv X pins σ H s → RelV x v → r x H Q →
   wpAny (model X.prog X.w) X.A (f v) (EP X pins σ Q) X.xe s
def CallR (X : Cx) (f : Value) (r : List V → Hp → VK → Prop) : Prop :=
 ∀ (pins : List (Addr × Obj)) (s : Shared) (σ : St) (H : Hp) (xs : List V) (us : List Value) (Q : VK), Inv X pins σ H s → Vals xs us → r xs H Q →
   wpAny (model X.prog X.w) X.A (call f us) (EP X pins σ Q) X.xe s
def TruR (X : Cx) (r : V → Hp → (Bool → Hp → Prop) → Prop) : Prop :=
 ∀ (pins : List (Addr × Obj)) (s : Shared) (σ : St) (H : Hp) (x : V) (v : Value) (Q : Bool → Hp → Prop), Inv X pins σ H s → RelV x v → r x H Q →
   wpAny (model X.prog X.w) X.A (truthy v) (TP X pins σ Q) X.xe s
def tOp (r : R2) (ta tb : TE) : TE := fun σ H Q => ta σ H fun x H1 => tb σ H1 fun y H2 => r x y H2 Q
def tUn (r : V → Hp → VK → Prop) (ta : TE) : TE := fun σ H Q => ta σ H fun x H1 => r x H1 Q
def rI (C : Int → Int → Prop) (g : Int → Int → V) : R2 := fun x y H Q => ∃ i j, x = .int i ∧ y = .int j ∧ C i j ∧ Q (g i j) H
def rI0 (g : Int → Int → V) : R2 := fun x y H Q => ∃ i j, x = .int i ∧ y = .int j ∧ Q (g i j) H
def rU (g : Int → V) : V → Hp → VK → Prop := fun x H Q => ∃ i, x = .int i ∧ Q (g i) H
section
variable {X : Cx} {a b c : Expr} {ta tb tc : TE} {pos : Pos}
theorem binT (ha : PE X a ta) (hb : PE X b tb) {pins : List (Addr × Obj)} {s : Shared} {σ : St} {H : Hp} {R : V → V → Hp → Prop} (I : Inv X pins σ H s)
   (h : ta σ H fun x H1 => tb σ H1 fun y H2 => R x y H2) {Q : Value → Shared → Prop} {f : Value → Value → Sem Value}
   (hf : ∀ v u s2 x y H2, Inv X pins σ H2 s2 → RelV x v → RelV y u → R x y H2 → wpAny (model X.prog X.w) X.A (f v u) Q X.xe s2) :
   wpAny (model X.prog X.w) X.A (eval a X.env) (fun v s₁ => wpAny (model X.prog X.w) X.A (eval b X.env) (fun u s₂ => wpAny (model X.prog X.w) X.A (f v u) Q X.xe s₂) X.xe s₁) X.xe s := by
 refine thn (ha pins s σ H _ I h) fun v s1 ⟨x, H1, I1, r1, q1⟩ => ?_
 refine thn (hb pins s1 σ H1 _ I1 q1) fun u s2 ⟨y, H2, I2, r2, q2⟩ => ?_
 exact hf v u s2 x y H2 I2 r1 r2 q2
theorem zlA {op : Operator} {r : R2} (ho : OpR X (binaryOp op) r) (ha : PE X a ta) (hb : PE X b tb) : PE X (.BinOp a op b pos) (tOp r ta tb) := by
 intro pins s σ H Q I h
 exact wpAny_BinOp (binT ha hb I h fun v u s2 x y H2 I2 rx ry q => ho pins s2 σ H2 x y v u Q I2 rx ry q)
theorem zly {op : UnaryOp} {r : V → Hp → VK → Prop} (ho : UnR X (unaryOp op) r) (ha : PE X a ta) : PE X (.UnaryOp op a pos) (tUn r ta) := by
 intro pins s σ H Q I h
 exact UnaryOp_ (thn (ha pins s σ H _ I h) fun v s1 ⟨x, H1, I1, r1, q1⟩ => ho pins s1 σ H1 x v Q I1 r1 q1)
theorem opI {f : Value → Value → Sem Value} {C : Int → Int → Prop} {g : Int → Int → Int}
   (rule : ∀ (i j : Int) (t u : Tok) (s : Shared) (Q : Value → Shared → Prop) (E : Value → Shared → Prop), C i j → Q (.int (g i j) s.toks) { s with toks := s.toks + 1 } → wpAny (model X.prog X.w) X.A (f (.int i t) (.int j u)) Q E s) :
   OpR X f (rI C fun i j => .int (g i j)) := by
 intro pins s σ H x y v u Q I rx ry h
 obtain ⟨i, j, rfl, rfl, hc, q⟩ := h
 obtain ⟨t, rfl⟩ := rx
 obtain ⟨t', rfl⟩ := ry
 exact rule i j t t' s _ _ hc ⟨.int (g i j), H, I.tok _, ⟨_, rfl⟩, q⟩
theorem opI0 {f : Value → Value → Sem Value} {g : Int → Int → Int}
   (rule : ∀ (i j : Int) (t u : Tok) (s : Shared) (Q : Value → Shared → Prop) (E : Value → Shared → Prop), Q (.int (g i j) s.toks) { s with toks := s.toks + 1 } → wpAny (model X.prog X.w) X.A (f (.int i t) (.int j u)) Q E s) :
   OpR X f (rI0 fun i j => .int (g i j)) := by
 intro pins s σ H x y v u Q I rx ry h
 obtain ⟨i, j, rfl, rfl, q⟩ := h
 obtain ⟨t, rfl⟩ := rx
 obtain ⟨t', rfl⟩ := ry
 exact rule i j t t' s _ _ ⟨.int (g i j), H, I.tok _, ⟨_, rfl⟩, q⟩
theorem opB0 {f : Value → Value → Sem Value} {g : Int → Int → Bool}
   (rule : ∀ (i j : Int) (t u : Tok) (s : Shared) (Q : Value → Shared → Prop) (E : Value → Shared → Prop), Q (.bool (g i j)) s → wpAny (model X.prog X.w) X.A (f (.int i t) (.int j u)) Q E s) :
   OpR X f (rI0 fun i j => .bl (g i j)) := by
 intro pins s σ H x y v u Q I rx ry h
 obtain ⟨i, j, rfl, rfl, q⟩ := h
 obtain ⟨t, rfl⟩ := rx
 obtain ⟨t', rfl⟩ := ry
 exact rule i j t t' s _ _ ⟨.bl (g i j), H, I, rfl, q⟩
def CPow (i j : Int) : Prop := 0 ≤ j ∧ j ≤ 1000000 ∧ i.natAbs < 2 ^ 64
theorem zkG : OpR X (binaryOp .Add) (rI0 fun i j => .int (i + j)) := opI0 fun _ _ _ _ _ _ _ q => add_int q
theorem zkB : OpR X (binaryOp .Sub) (rI0 fun i j => .int (i - j)) := opI0 fun _ _ _ _ _ _ _ q => sub_int q
theorem zi3 : OpR X (binaryOp .Mod) (rI (fun _ j => j ≠ 0) fun i j => .int (i.fmod j)) := opI fun _ _ _ _ _ _ _ hc q => mod_int' hc q
theorem zkD : OpR X (binaryOp .Pow) (rI CPow fun i j => .int (i ^ j.toNat)) := opI fun _ _ _ _ _ _ _ hc q => pow_int_small hc.1 hc.2.1 hc.2.2 q
theorem zkC : OpR X (binaryOp .LShift) (rI CPow fun i j => .int (i * 2 ^ j.toNat)) := opI fun _ _ _ _ _ _ _ hc q => lshift_int_small hc.1 hc.2.1 hc.2.2 q
theorem unI {f : Value → Sem Value} {g : Int → Int}
   (rule : ∀ (i : Int) (t : Tok) (s : Shared) (Q : Value → Shared → Prop) (E : Value → Shared → Prop), Q (.int (g i) s.toks) { s with toks := s.toks + 1 } → wpAny (model X.prog X.w) X.A (f (.int i t)) Q E s) :
   UnR X f (rU fun i => .int (g i)) := by
 intro pins s σ H x v Q I rx h
 obtain ⟨i, rfl, q⟩ := h
 obtain ⟨t, rfl⟩ := rx
 exact rule i t s _ _ ⟨.int (g i), H, I.tok _, ⟨_, rfl⟩, q⟩
theorem zjH : UnR X (unaryOp .USub) (rU fun i => .int (-i)) := unI fun _ _ _ _ _ q => neg_int q
end
section
variable {X : Cx} {a b c : Expr} {ta tb tc : TE} {pos : Pos}
theorem zfj {pins : List (Addr × Obj)} {σ : St} {H : Hp} {s : Shared} {Q : VK} {k k' : Bool} (I : Inv X pins σ H s) (q : Q (.bl k) H) (e : k = k') : EP X pins σ Q (.bool k') s := by
 subst e
 exact ⟨.bl k, H, I, rfl, q⟩
theorem zlG : OpR X (compareOp .Lt) (rI0 fun i j => .bl (decide (i < j))) := opB0 fun _ _ _ _ _ _ _ q => lt_int q
theorem zlH : OpR X (compareOp .LtE) (rI0 fun i j => .bl (decide (i ≤ j))) := opB0 fun _ _ _ _ _ _ _ q => le_int q
theorem zlI : OpR X (compareOp .Gt) (rI0 fun i j => .bl (decide (j < i))) := opB0 fun _ _ _ _ _ _ _ q => gt_int q
theorem zlJ : OpR X (compareOp .GtE) (rI0 fun i j => .bl (decide (j ≤ i))) := opB0 fun _ _ _ _ _ _ _ q => ge_int q
theorem zkE : OpR X (compareOp .Is) (fun x y H Q => y = .non ∧ Q (.bl (decide (x = .non))) H) := by
 intro pins s σ H x y v u Q I rx ry h
 obtain ⟨rfl, q⟩ := h
 cases ry
 refine is_none_gen (zfj I q ?_)
 cases x <;> first
   | (cases rx; rfl)
   | (obtain ⟨t, rfl⟩ := rx; rfl)
theorem zi1 : OpR X (compareOp .IsNot) (fun x y H Q => y = .non ∧ Q (.bl (!decide (x = .non))) H) := by
 intro pins s σ H x y v u Q I rx ry h
 obtain ⟨rfl, q⟩ := h
 cases ry
 refine isnot_none_gen (zfj I q ?_)
 cases x <;> first
   | (cases rx; rfl)
   | (obtain ⟨t, rfl⟩ := rx; rfl)
theorem nomark (b : Expr) {op : CmpOp} (h : op ≠ .In := by decide) (h2 : op ≠ .NotIn := by decide) : behindInMarks op b = false := by
 have e1 : (op == CmpOp.In) = false := by cases op <;> first | rfl | exact absurd rfl h
 have e2 : (op == CmpOp.NotIn) = false := by cases op <;> first | rfl | exact absurd rfl h2
 cases b <;> simp [behindInMarks, e1, e2]
theorem ziK {op : CmpOp} {r : R2} (ho : OpR X (compareOp op) r) (ha : PE X a ta) (hb : PE X b tb) (hm : behindInMarks op b = false) : PE X (.Compare a [op] [b] pos) (tOp r ta tb) := by
 intro pins s σ H Q I h
 exact wpAny_Compare1 (binT ha hb I h fun v u s2 x y H2 I2 rx ry q => ho pins s2 σ H2 x y v u Q I2 rx ry q) hm
def tTest (t : TE) : TT := fun σ H Q => t σ H fun x H' => ∃ k, x = .bl k ∧ Q k H'
theorem ziy {op : CmpOp} {r : R2} (ho : OpR X (compareOp op) r) (ha : PE X a ta) (hb : PE X b tb) (hm : behindInMarks op b = false) : PT X (.Compare a [op] [b] pos) (tTest (tOp r ta tb)) := by
 intro pins s σ H Q I h
 refine wpAny_isTrue_Compare1 (thn (ha pins s σ H _ I h) fun v s1 ⟨x, H1, I1, r1, q1⟩ => thn (hb pins s1 σ H1 _ I1 q1) fun u s2 ⟨y, H2, I2, r2, q2⟩ =>
   thn (ho pins s2 σ H2 x y v u _ I2 r1 r2 q2) fun c s3 ⟨z, H3, I3, r3, k, e, q3⟩ => ?_) hm
 subst e
 cases r3
 exact wpAny_truthy_bool ⟨H3, I3, q3⟩
def TruV (K : PySem.W.Frag) (x : V) (H : Hp) (k : Bool) : Prop :=
 match x with
 | .non => k = false
 | .bl b => k = b
 | .int i => k = (i != 0)
 | .str y => y.length ≤ sizeLine ∧ k = ((y.length : Int) != 0)
 | .byt y => y.size ≤ sizeLine ∧ k = ((y.size : Int) != 0)
 | .ref p => (∃ xs, SqL K H p xs ∧ k = !xs.isEmpty) ∨ (∃ xs, SqT K H p xs ∧ k = !xs.isEmpty) ∨ ∃ kvs, H p = some (.dK kvs) ∧ k = !kvs.isEmpty
 | _ => False
theorem zfL {κ : Type} {kvs : List (κ × V)} {vs : List (κ × Value)} (r : KV kvs vs) : (!vs.isEmpty) = !kvs.isEmpty := by
 cases r <;> rfl
theorem zd3 {xs : List V} {its : List Value} (r : Vals xs its) : (!its.toArray.isEmpty) = !xs.isEmpty := by
 cases r <;> simp
theorem line63 : (sizeLine : Nat) < 2 ^ 63 := by rw [sizeLine_eq]; decide
theorem zjJ : TruR X (fun x H Q => ∃ k, TruV X.K x H k ∧ Q k H) := by
 intro pins s σ H x v Q I rx h
 obtain ⟨k, e, q⟩ := h
 have hl := line63
 have hs : sizeLine = 16777216 := sizeLine_eq
 cases x with
 | non =>
   cases rx
   have e' : k = false := e
   subst e'
   exact truthy_none ⟨H, I, q⟩
 | bl b =>
   cases rx
   have e' : k = b := e
   subst e'
   exact wpAny_truthy_bool ⟨H, I, q⟩
 | int i =>
   obtain ⟨t, rfl⟩ := rx
   have e' : k = (i != 0) := e
   subst e'
   exact PySem.P.truthy_int ⟨H, I, q⟩
 | str y =>
   obtain ⟨t, rfl⟩ := rx
   obtain ⟨hy, e'⟩ : y.length ≤ sizeLine ∧ k = ((y.length : Int) != 0) := e
   subst e'
   exact PySem.P.truthy_str (by omega) ⟨H, I.tok _, q⟩
 | byt y =>
   obtain ⟨t, rfl⟩ := rx
   obtain ⟨hy, e'⟩ : y.size ≤ sizeLine ∧ k = ((y.size : Int) != 0) := e
   subst e'
   exact PySem.W.truthy_bytes (by omega) ⟨H, I.tok _, q⟩
 | ref p =>
   cases rx
   have e' : (∃ xs, SqL X.K H p xs ∧ k = !xs.isEmpty) ∨ (∃ xs, SqT X.K H p xs ∧ k = !xs.isEmpty) ∨ ∃ kvs, H p = some (.dK kvs) ∧ k = !kvs.isEmpty := e
   rcases e' with ⟨xs, hx, e'⟩ | ⟨xs, hx, e'⟩ | ⟨kvs, hx, e'⟩
   · subst e'
     obtain ⟨its, r, pl, hz⟩ := I.list hx
     have hlen := r.length
     exact wpAny_truthy_list pl.isList (by simp only [List.size_toArray]; omega) ⟨H, I.tok _, by rw [zd3 r]; exact q⟩
   · subst e'
     obtain ⟨its, r, pl, hz⟩ := I.tuple hx
     have hlen := r.length
     exact truthy_tuple pl (by simp only [List.size_toArray]; omega) ⟨H, I.tok _, by rw [zd3 r]; exact q⟩
   · subst e'
     obtain ⟨hz, hS, vs, r, m⟩ : kvs.length ≤ sizeLine ∧ (p == sysModules) = false ∧ ∃ vs, KV kvs vs ∧ s.heap.DictOf (mixKind X.prog X.w) p vs := I.hok p _ hx
     have hlen : kvs.length = vs.length := Paired.length r
     exact wpAny_truthy_dict hS m (by omega) ⟨H, I.tok _, by rw [zfL r]; exact q⟩
 | _ => exact (show False from e).elim
theorem zhg (ha : PE X a ta) (he : ∀ whole, isTrue a X.env whole = (do let v ← whole; standAt a.pos; holding [v] (truthy v))) :
   PT X a (fun σ H Q => ta σ H fun x H' => ∃ k, TruV X.K x H' k ∧ Q k H') := by
 intro pins s σ H Q I h
 exact isTrue_plain (thn (ha pins s σ H _ I h) fun v s1 ⟨x, H1, I1, r1, q1⟩ => zjJ pins s1 σ H1 x v Q I1 r1 q1) (he _)
theorem zfE : OpR X (binaryOp .Add) (fun x y H Q => ∃ i j, x = .str i ∧ y = .str j ∧ i.length + j.length ≤ sizeLine ∧ Q (.str (i ++ j)) H) := by
 intro pins s σ H x y v u Q I rx ry h
 obtain ⟨i, j, rfl, rfl, hz, q⟩ := h
 obtain ⟨t, rfl⟩ := rx
 obtain ⟨t', rfl⟩ := ry
 exact add_str (fun t' tk => ⟨.str (i ++ j), H, I.tok _, ⟨_, rfl⟩, q⟩) hz
theorem vals1 {x : V} {us : List Value} (r : Vals [x] us) : ∃ u, us = [u] ∧ RelV x u := by
 cases r with
 | cons r1 r2 => cases r2; exact ⟨_, rfl, r1⟩
theorem vals2 {x y : V} {us : List Value} (r : Vals [x, y] us) : ∃ u w', us = [u, w'] ∧ RelV x u ∧ RelV y w' := by
 cases r with
 | cons r1 r2 =>
   cases r2 with
   | cons r3 r4 => cases r4; exact ⟨_, _, rfl, r1, r3⟩
theorem zgT (hc : X.calm = true) : CallR X (.builtin "max") (fun xs H Q => ∃ i j, xs = [.int i, .int j] ∧ Q (.int (if j > i then j else i)) H) := by
 intro pins s σ H xs us Q I r h
 obtain ⟨i, j, rfl, q⟩ := h
 obtain ⟨u, w', rfl, ⟨t, rfl⟩, ⟨t', rfl⟩⟩ := vals2 r
 refine max_two_ints (I.ok.hd hc) fun h' tk k => ⟨_, H, I.kept k, ?_, q⟩
 by_cases hj : j > i
 · rw [if_pos hj, if_pos hj]; exact ⟨_, rfl⟩
 · rw [if_neg hj, if_neg hj]; exact ⟨_, rfl⟩
theorem zgS (hc : X.calm = true) : CallR X (.builtin "min") (fun xs H Q => ∃ i j, xs = [.int i, .int j] ∧ Q (.int (if j < i then j else i)) H) := by
 intro pins s σ H xs us Q I r h
 obtain ⟨i, j, rfl, q⟩ := h
 obtain ⟨u, w', rfl, ⟨t, rfl⟩, ⟨t', rfl⟩⟩ := vals2 r
 refine min_two_ints (I.ok.hd hc) fun h' tk k => ⟨_, H, I.kept k, ?_, q⟩
 by_cases hj : j < i
 · rw [if_pos hj, if_pos hj]; exact ⟨_, rfl⟩
 · rw [if_neg hj, if_neg hj]; exact ⟨_, rfl⟩
theorem zgU : CallR X (.type "int") (fun xs H Q => (∃ i, xs = [.int i] ∧ Q (.int i) H) ∨ ∃ k, xs = [.bl k] ∧ Q (.int (if k then 1 else 0)) H) := by
 intro pins s σ H xs us Q I r h
 rcases h with ⟨i, rfl, q⟩ | ⟨k, rfl, q⟩
 · obtain ⟨u, rfl, t, rfl⟩ := vals1 r
   exact call_int_int ⟨.int i, H, I, ⟨_, rfl⟩, q⟩
 · obtain ⟨u, rfl, r1⟩ := vals1 r
   cases r1
   exact call_int_bool ⟨.int (if k then 1 else 0), H, I.tok _, ⟨_, rfl⟩, q⟩
end
end L2
namespace L2
open PySem PySem.Spec PyProof.Rows
structure ObjM (h : Heap) (x dx C : Addr) (mA : Str → Option Value) : Prop where
 obj : h.get? x = some (PySem.W.instObj C dx)
 ns : h.Ns1 dx mA
 ne : dx ≠ x
theorem zgm {h : Heap} {dx : Addr} {mA : Str → Option Value} (n : h.Ns1 dx mA) : ∃ od, h.get? dx = some od ∧ ∀ name, PySem.W.lookIn name od = some (mA name) := by
 obtain ⟨o, es, ep, ho, hd, hk, _, hm⟩ := n
 refine ⟨o, ho, fun name => ?_⟩
 have e := hm name
 unfold nsFind findBy at e
 rw [← Array.find?_toList] at e
 unfold PySem.W.lookIn
 rw [hd]
 dsimp only
 split
 · rename_i y q
   rw [q] at e
   exact congrArg some e
 · rename_i q
   rw [q] at e
   have a : es.toList.any (·.refKey) = false := by
     rw [List.any_eq_false]
     intro y hy
     obtain ⟨z, t, hkey⟩ := hk y (Array.mem_toList_iff.mp hy)
     simp [DictEntry.refKey, hkey]
   have a' : ¬ es.toList.any (·.refKey) = true := by rw [a]; exact Bool.false_ne_true
   rw [if_neg a']
   exact congrArg some e
theorem ObjM.look {h : Heap} {x dx C : Addr} {mA : Str → Option Value} (I : ObjM h x dx C mA) : ∃ od, PySem.W.InstAt h x (PySem.W.instObj C dx) C (some od) ∧ ∀ name, PySem.W.lookIn name od = some (mA name) :=
 let ⟨od, ho, hl⟩ := zgm I.ns
 ⟨od, ⟨I.obj, rfl, rfl, ho⟩, hl⟩
section
variable {prog : Program} {w : World} {A : Around} {E : Value → Shared → Prop} {s : Shared} {K : PySem.W.Frag} {x dx C f : Addr} {mA : Str → Option Value} {name : Str} {v : Value}
end
section
variable {P : Program} {w : World} {H H' : Hp} {h h' : Heap} {a C dx : Addr} {fs fs' : List (Str × V)}
theorem zjg (hok : HOk P w H h) (e : H a = some (.ins C dx fs)) : ∃ mA, ObjM h a dx C mA ∧ (∀ f, RelO (fs.lookup f) (mA f)) ∧ PySem.Within mA (fs.map (·.1)) ∧ fs.length ≤ 1000 ∧ H dx = some (.own a) := by
 obtain ⟨d, z, ne, ob, mA, n, r, q⟩ := (show ObjOk P w H h a (.ins C dx fs) from hok a _ e)
 exact ⟨mA, ⟨ob, n, ne⟩, r, q, z, d⟩
end
structure Cls (K : PySem.W.Frag) (C : Addr) : Prop where
 pg : PySem.W.plainGet K C Str.empty = true
 hd : PySem.W.hasDictIn K C = true
 po : PySem.W.plainOver K C = true
 sa : PySem.W.findIn K (.ref C) "__setattr__" = some (some (.builtin "object.__setattr__"))
theorem Cls.get {K : PySem.W.Frag} {C : Addr} (c : Cls K C) (f : Str) : PySem.W.plainGet K C f = true := c.pg
structure Meth (K : PySem.W.Frag) (C : Addr) (m : Str) (f : Addr) : Prop where
 at_ : PySem.W.findIn K (.ref C) m = some (some (.ref f))
 fn : PySem.W.isFn K (.ref f) = true
 kp : PySem.W.keepIn K (.ref f) = true
section
variable {X : Cx} {pins : List (Addr × Obj)} {σ : St} {H : Hp} {s : Shared} {a C dx : Addr} {fs : List (Str × V)} {f : Str} {v : V} {A : Around} {E : Value → Shared → Prop}
end
section
variable {X : Cx} {o e value : Expr} {f : Str} {pos pos' tpos : Pos} {ta tv : TE}
end
section
variable {X : Cx} {pins : List (Addr × Obj)} {σ : St} {H : Hp} {s : Shared} {A : Around} {E : Value → Shared → Prop} {Q : Value → Shared → Prop} {c : Value} {b : Bool}
inductive TyOf (K : PySem.W.Frag) (H : Hp) : V → Value → Prop where
 | non : TyOf K H .non (.type "NoneType")
 | bl (x : Bool) : TyOf K H (.bl x) (.type "bool")
 | int (i : Int) : TyOf K H (.int i) (.type "int")
 | str (x : Str) : TyOf K H (.str x) (.type "str")
 | flt (x : UInt64) : TyOf K H (.flt x) (.type "float")
 | lst {a : Addr} {xs : List V} (e : H a = some (.lst xs)) : TyOf K H (.ref a) (.type "list")
 | frz {a : Addr} {o : Obj} {xs : List V} (e : H a = some (.frz o (.lst xs))) : TyOf K H (.ref a) (.type "list")
 | tup {a : Addr} {xs : List V} (e : H a = some (.tup xs)) : TyOf K H (.ref a) (.type "tuple")
 | dK {a : Addr} {kvs : List (Key × V)} (e : H a = some (.dK kvs)) : TyOf K H (.ref a) (.type "dict")
 | dT {a : Addr} {kvs : List (List Key × V)} (e : H a = some (.dT kvs)) : TyOf K H (.ref a) (.type "dict")
 | ins {a C dx : Addr} {fs : List (Str × V)} (e : H a = some (.ins C dx fs)) (cl : Cls K C) (ha : PySem.W.findIn K (.ref C) "__class__" = some (some (.builtin "object.__class__")))
     (hn : PySem.W.specialIn K (.builtin "object.__class__") "__get__" = some (some (.builtin "getset_descriptor.__get__"))) (htk : PySem.W.takesIn K (.builtin "object.__class__") = some true)
     (hm : PySem.W.mroIn K C (.type "object") = some true) : TyOf K H (.ref a) (.ref C)
theorem zgt {x : V} {u t : Value} (I : Inv X pins σ H s) (rx : RelV x u) (ty : TyOf X.K H x t) (e : PySem.W.kitOne X.K t c = some b) (h : ∀ tk, Q (.bool b) { s with toks := tk }) :
   wpAny (model X.prog X.w) A (call (.builtin "isinstance") [u, c]) Q E s := by
 cases ty with
 | non => cases (show u = Value.none from rx); exact PySem.W.kia_one PySem.W.kitx_none I.kIn True.intro e (fun z => nomatch z) h
 | bl y => cases (show u = Value.bool y from rx); exact PySem.W.kia_one PySem.W.kitx_bool I.kIn True.intro e (fun z => nomatch z) h
 | int i => obtain ⟨t, q⟩ := (show ∃ t, u = Value.int i t from rx); cases q; exact PySem.W.kia_one PySem.W.kitx_int I.kIn True.intro e (fun z => nomatch z) h
 | str y => obtain ⟨t, q⟩ := (show ∃ t, u = Value.str y t from rx); cases q; exact PySem.W.kia_one PySem.W.kitx_str I.kIn True.intro e (fun z => nomatch z) h
 | flt y => obtain ⟨t, q⟩ := (show ∃ t, u = Value.float y t from rx); cases q; exact PySem.W.kia_one PySem.W.kitx_float I.kIn True.intro e (fun z => nomatch z) h
 | @lst a xs ea =>
   cases (show u = Value.ref a from rx)
   obtain ⟨_, _, n, _, h1⟩ := (show ObjOk X.prog X.w H s.heap a (.lst xs) from I.hok a _ ea)
   exact PySem.W.kia_one PySem.W.kitx_list I.kIn ⟨_, h1, rfl⟩ e (fun z => nomatch z) h
 | @frz a ob xs ea =>
   cases (show u = Value.ref a from rx)
   obtain ⟨_, _, _, n, _, h1⟩ := (show ObjOk X.prog X.w H s.heap a (.frz ob (.lst xs)) from I.hok a _ ea)
   exact PySem.W.kia_one PySem.W.kitx_list I.kIn ⟨_, h1, rfl⟩ e (fun z => nomatch z) h
 | @tup a xs ea =>
   cases (show u = Value.ref a from rx)
   obtain ⟨_, _, _, p⟩ := (show ObjOk X.prog X.w H s.heap a (.tup xs) from I.hok a _ ea)
   obtain ⟨o, h1, h2, _⟩ := p
   exact PySem.W.kia_one PySem.W.kitx_tuple I.kIn ⟨o, h1, h2⟩ e (fun z => nomatch z) h
 | @dK a kvs ea =>
   cases (show u = Value.ref a from rx)
   obtain ⟨_, _, vs, _, p⟩ := (show ObjOk X.prog X.w H s.heap a (.dK kvs) from I.hok a _ ea)
   obtain ⟨o, es, ep, h1, h2, _⟩ := p
   exact PySem.W.kia_one PySem.W.kitx_dict I.kIn ⟨o, h1, h2.1⟩ e (fun z => nomatch z) h
 | @dT a kvs ea =>
   cases (show u = Value.ref a from rx)
   obtain ⟨_, _, xs, _, o, es, ep, h1, h2, _⟩ := (show ObjOk X.prog X.w H s.heap a (.dT kvs) from I.hok a _ ea)
   exact PySem.W.kia_one PySem.W.kitx_dict I.kIn ⟨o, h1, h2.1⟩ e (fun z => nomatch z) h
 | @ins a C dx fs ea cl ha hn htk hm =>
   cases (show u = Value.ref a from rx)
   obtain ⟨mA, O, _⟩ := zjg I.hok ea
   obtain ⟨od, J, _⟩ := O.look
   exact PySem.W.kia_one (PySem.W.kitx_own (cl.get _) cl.hd ha hn htk hm) I.kIn J e (fun z => nomatch z) h
end
end L2
namespace L2
open PySem PySem.Spec PyProof.Rows
structure Room (k : Nat) (A : Around) : Prop where
 hd : A.handled = none
 dp : A.depth + 3 * k + 5 < recursionLimit
 un : A.units + 16 * k + 200 < cLine
theorem Room.mono {j k : Nat} {A : Around} (r : Room k A) (h : j ≤ k) : Room j A := ⟨r.hd, by have := r.dp; omega, by have := r.un; omega⟩
theorem Room.deeper {k : Nat} {A : Around} (r : Room (k + 1) A) (env : Env) : Room k (A.deeper env) :=
 ⟨r.hd, by have := r.dp; show A.depth + 1 + 3 * k + 5 < _; omega, by have := r.un; show A.units + 3 + 16 * k + 200 < _; omega⟩
theorem Room.depth {k : Nat} {A : Around} (r : Room k A) : A.depth < recursionLimit := by have := r.dp; omega
theorem Room.units {k : Nat} {A : Around} (r : Room k A) : A.units + 64 < cLine := by have := r.un; omega
def tNil : TA := fun _ H Q => Q [] H
def tCons (ta : TE) (tr : TA) : TA := fun σ H Q => ta σ H fun x H1 => tr σ H1 fun xs H2 => Q (x :: xs) H2
section
variable {X : Cx} {e : Expr} {es : List Expr} {te : TE} {t : TA} {pos : Pos}
theorem zkA : PA X [] tNil := fun _ _ _ _ H Q I h => Calls.spliced_nil ⟨[], H, I, .nil, h⟩
theorem ziN (ha : PE X e te) (hr : PA X es t) (hs : starEach (e :: es) X.env = (false, eval e X.env) :: starEach es X.env := by rfl) : PA X (e :: es) (tCons te t) := by
 intro pos pins s σ H Q I h
 rw [hs]
 show wpAny _ _ (spliced ((false, eval e X.env) :: backTo pos (starEach es X.env))) _ _ s
 refine Calls.spliced_cons (thn (ha pins s σ H _ I h) fun u s1 ⟨x, H1, I1, r1, q1⟩ => ?_)
 exact thn (hr pos pins s1 σ H1 _ I1 q1) fun us s2 ⟨xs, H2, I2, r2, q2⟩ => ⟨x :: xs, H2, I2, .cons r1 r2, q2⟩
def tTup (t : TA) : TE := fun σ H Q => t σ H fun xs H1 => xs.length ≤ sizeLine ∧ ∀ p, H1 p = none → Q (.ref p) (upd H1 p (.tup xs))
def tLst (t : TA) : TE := fun σ H Q => t σ H fun xs H1 => xs.length ≤ sizeLine ∧ ∀ p, H1 p = none → Q (.ref p) (upd H1 p (.lst xs))
theorem zkr {x1} (h : PA X es t) : PE X (.Tuple es x1 pos) (tTup t) := by
 intro pins s σ H Q I hq
 refine wpAny_Tuple_spliced (thn (h pos pins s σ H _ I hq) fun us s1 ⟨xs, H1, I1, r, z, q⟩ => ⟨by rw [← r.length]; exact z, ?_⟩)
 have hf : H1 s1.heap.objs.size = none := I1.hok.fresh (Nat.le_refl _)
 refine ⟨.ref s1.heap.objs.size, upd H1 s1.heap.objs.size (.tup xs), I1.laid (t' := s1.toks) (fun b u e => Heap.get?_push_of_some _ e) (Nat.le_refl _) ?_, rfl, q _ hf⟩
 exact ⟨z, us, r, ⟨_, Heap.get?_push_size _ rfl, rfl, _, rfl⟩⟩
theorem zkw (h : PA X es t) : PE X (.List es pos) (tLst t) := by
 intro pins s σ H Q I hq
 refine wpAny_List_spliced (thn (h pos pins s σ H _ I hq) fun us s1 ⟨xs, H1, I1, r, z, q⟩ => ⟨by rw [← r.length]; exact z, ?_⟩)
 have hf : H1 s1.heap.objs.size = none := I1.hok.fresh (Nat.le_refl _)
 refine ⟨.ref s1.heap.objs.size, upd H1 s1.heap.objs.size (.lst xs), I1.laid (t' := s1.toks) (fun b u e => Heap.get?_push_of_some _ e) (Nat.le_refl _) ?_, rfl, q _ hf⟩
 exact ⟨z, us, 0, r, Heap.get?_push_size _ rfl⟩
end
abbrev Sp := List V → Hp → VK → XK → Prop
abbrev CXT := List Env → Hp → Shared → XK → Value → Shared → Prop
structure Env0 (P : Program) (w : World) (K : PySem.W.Frag) (mg : Str → Option Value) (base : Heap) (A : Around) (outer : List Env) (s : Shared) (H : Hp) : Prop where
 frames : A.frames = some outer
 mod : Mod K mg base
 bs : ∀ b o, base.get? b = some o → s.heap.get? b = some o ∧ H b = none
 bsz : base.objs.size ≤ s.heap.objs.size
 funs : s.heap.FunFrames base outer
 frf : ∀ b ∈ frs outer, H b = none
 hok : HOk P w H s.heap
 bare : AllBare s.gens
def CE (outer : List Env) (P : Program) (w : World) (H : Hp) (s : Shared) (Q : VK) (u : Value) (s' : Shared) : Prop :=
 ∃ v H', s'.os = s.os ∧ AllBare s'.gens ∧ Un (frs outer) [] H H' s.heap s'.heap ∧ HOk P w H' s'.heap ∧ RelV v u ∧ Q v H'
def CR (CX : CXT) (outer : List Env) (P : Program) (w : World) (H : Hp) (s : Shared) (Q : VK) (E : XK) (r : Result) (s' : Shared) : Prop :=
 match r with
 | .ok (.ret u) => CE outer P w H s Q u s'
 | .ok _ => False
 | .error e => CX outer H s E e s'
structure FnOk (P : Program) (w : World) (K : PySem.W.Frag) (mg : Str → Option Value) (base : Heap) (CX : CXT) (k : Nat) (f : Addr) (fd : FuncData) (ps : List Str) (sp : Sp) : Prop where
 len : ∀ vs H Q E, sp vs H Q E → vs.length = ps.length
 run : ∀ (A : Around) (outer : List Env) (s : Shared) (H : Hp) (args : Args) (us : List Value) (vs : List V) (Q : VK) (E : XK), Room k A → Env0 P w K mg base A outer s H → BindsTo s fd args (ps.zip us) → Vals vs us → sp vs H Q E →
   codeAny (model P w) A (.call (.ref f) args) (CR CX outer P w H s Q E) s
theorem FnOk.mono {P : Program} {w : World} {K : PySem.W.Frag} {mg : Str → Option Value} {base : Heap} {CX : CXT} {j k : Nat} {f : Addr} {fd : FuncData} {ps : List Str} {sp : Sp} (F : FnOk P w K mg base CX j f fd ps sp) (h : j ≤ k) :
   FnOk P w K mg base CX k f fd ps sp := ⟨F.len, fun A outer s H args us vs Q E hr => F.run A outer s H args us vs Q E (hr.mono h)⟩
section
variable {X : Cx} {pins : List (Addr × Obj)} {σ : St} {H : Hp} {s s' : Shared}
theorem Inv.env0 (I : Inv X pins σ H s) : Env0 X.prog X.w X.K X.mg X.base X.A X.stack s H :=
 ⟨I.ok.frames, I.ok.mod, I.bs, Nat.le_trans I.ok.bsz I.sz, I.stack, I.stkFree, I.hok, I.bare⟩
theorem Inv.after {Q : VK} {u : Value} (I : Inv X pins σ H s) (h : CE X.stack X.prog X.w H s Q u s') : EP X pins σ Q u s' := by
 obtain ⟨v, H', os, bare, un, hok, r, q⟩ := h
 obtain ⟨hh, g, d, t, os'⟩ := s'
 obtain rfl : os' = s.os := os
 exact ⟨v, H', I.call (h' := hh) (g' := g) (d' := d) (t' := t) (ch := []) un hok bare (fun b z => absurd z (by simp)), r, q⟩
end
def tCall (sp : Sp) (dvs : List V) (E : XK) (t : TA) : TE := fun σ H Q => t σ H fun vs H1 => sp (vs ++ dvs) H1 Q E
def Binds (K : PySem.W.Frag) (fd : FuncData) (ps : List Str) (ds : List Value) : Prop :=
 ∀ (s : Shared) (us : List Value), K.In s.heap → (us ++ ds).length = ps.length → BindsTo s fd ⟨us, []⟩ (ps.zip (us ++ ds))
theorem Binds.all {K : PySem.W.Frag} {fd : FuncData} {ps : List Str} (h : ∀ us : List Value, us.length = ps.length → bindArgs fd ⟨us, []⟩ = pure (ps.zip us)) : Binds K fd ps [] := fun s us _ hl => by
 rw [List.append_nil] at hl ⊢
 exact .of_eq (h us hl)
def Passes (CX : CXT) (X : Cx) (E : XK) : Prop := ∀ (pins : List (Addr × Obj)) (σ : St) (H : Hp) (s : Shared) (e : Value) (s' : Shared), Inv X pins σ H s → CX X.stack H s E e s' → X.xe e s'
section
variable {X : Cx} {CX : CXT} {k : Nat} {f C : Addr} {fd : FuncData} {ps : List Str} {sp : Sp} {dvs : List V} {ds : List Value} {E : XK} {x m : Str} {p pos apos : Pos} {e o : Expr} {es : List Expr} {ta : TE} {t : TA}
theorem zke {pins : List (Addr × Obj)} {σ : St} {H : Hp} {s : Shared} {Q : VK} {us : List Value} {vs : List V} (F : FnOk X.prog X.w X.K X.mg X.base CX k f fd ps sp) (hr : Room k X.A) (hb : Binds X.K fd ps ds) (hd : Vals dvs ds) (hx : Passes CX X E)
   (I : Inv X pins σ H s) (r : Vals vs us) (h : sp (vs ++ dvs) H Q E) : wpAny (model X.prog X.w) X.A (call (.ref f) us) (EP X pins σ Q) X.xe s := by
 have r2 : Vals (vs ++ dvs) (us ++ ds) := r.append hd
 have hl : (us ++ ds).length = ps.length := by rw [← r2.length]; exact F.len _ _ _ _ h
 refine wpAny_call (codeAny_mono (F.run X.A X.stack s H ⟨us, []⟩ (us ++ ds) (vs ++ dvs) Q E hr I.env0 (hb s us I.kIn hl) r2 h) fun r s' hq => ?_)
 cases r with
 | error e => exact hx pins σ H s e s' I hq
 | ok fl =>
   cases fl with
   | ret u => exact I.after hq
   | next => exact False.elim hq
   | brk => exact False.elim hq
   | cont => exact False.elim hq
theorem ziL (F : FnOk X.prog X.w X.K X.mg X.base CX k f fd ps sp) (hr : Room k X.A) (hg : Gl X x) (hm : X.mg x = some (.ref f)) (hk : PySem.W.keepIn X.K (.ref f) = true) (hb : Binds X.K fd ps ds) (hd : Vals dvs ds) (hx : Passes CX X E)
   (ha : PA X (e :: es) t) (hdb : (x == ("__debug__" : Str)) = false := by decide) (he : starEach (e :: es) X.env = (false, eval e X.env) :: starEach es X.env := by rfl) (hpl : (backTo pos (starEach es X.env)).any (·.1) = false := by rfl) :
   PE X (.Call (.Name x p) (e :: es) [] pos) (tCall sp dvs E t) := by
 intro pins s σ H Q I h
 refine wpAny_Call_Name_kw (zjd I hg hm ?_ hdb)
 refine PySem.W.callWith_K (h₀ := X.base) I.ok.mod.kin hk (thn (ha pos pins s σ H _ I h) fun us s1 ⟨vs, H1, I1, r, q⟩ => ⟨I1.kIn, ?_⟩) he hpl
 exact zke F hr hb hd hx I1 r q
structure Mk (K : PySem.W.Frag) (C f : Addr) : Prop where
 makes : PySem.W.makesIn K C = true
 init : PySem.W.findIn K (.ref C) "__init__" = some (some (.ref f))
 fn : PySem.W.isFn K (.ref f) = true
 kp : PySem.W.keepIn K (.ref C) = true
end
section
variable {X : Cx} {CX : CXT} {k : Nat} {f C : Addr} {fd : FuncData} {ps ks : List Str} {sp : Sp} {E : XK} {x m : Str} {p pos apos kpos : Pos} {e o : Expr} {es : List Expr} {kws : List Keyword} {te ta : TE} {t tk : TA} {nm : Option Str}
variable {g : List Value → List Value → List Value} {gV : List V → List V → List V}
end
structure FnScope (N P : List Str) (sc : Scope) : Prop where
 kind : sc.kind = .function
 co : sc.isCoroutine = false
 gen : sc.isGenerator = false
 nd : N.Nodup
 pre : N.take P.length = P
 par : ∀ x ∈ P, sc.names.lookup x = some .local ∨ sc.names.lookup x = some .cell
 nofree : ∀ y ∈ sc.names, y.2 ≠ .free
theorem zeL {kindOf : Str → Option NameKind} {x : Str} : ∀ {binds : List (Str × Value)} {m : Str → Option Value}, (∀ v, (x, v) ∉ binds) → bindL kindOf binds m x = m x
 | [], _, _ => rfl
 | (n, v) :: r, m, h => by
   unfold bindL
   rw [zeL fun w hw => h w (List.mem_cons_of_mem _ hw)]
   split
   · have : x ≠ n := by rintro rfl; exact h v List.mem_cons_self
     simp [this]
   · rfl
theorem zeN {kindOf : Str → Option NameKind} {x : Str} : ∀ {binds : List (Str × Value)} {m : Str → Option Value}, (∀ v, (x, v) ∉ binds) → bindC kindOf binds m x = m x
 | [], _, _ => rfl
 | (n, v) :: r, m, h => by
   unfold bindC
   rw [zeN fun w hw => h w (List.mem_cons_of_mem _ hw)]
   split
   · rfl
   · have : x ≠ n := by rintro rfl; exact h v List.mem_cons_self
     simp [this]
theorem zeM {kindOf : Str → Option NameKind} {x : Str} {v : Value} : ∀ {P : List Str} {vs : List Value} {i : Nat} {m : Str → Option Value}, P.Nodup → P[i]? = some x → vs[i]? = some v → kindOf x = some .local →
   bindL kindOf (P.zip vs) m x = some v
 | [], _, _, _, _, h, _, _ => by simp at h
 | _ :: _, [], _, _, _, _, h, _ => by simp at h
 | p :: P, w :: vs, 0, m, nd, h1, h2, hk => by
   simp at h1 h2; subst h1; subst h2
   show bindL kindOf ((p, w) :: P.zip vs) m p = _
   unfold bindL
   rw [zeL fun v hv => (List.nodup_cons.mp nd).1 (List.of_mem_zip hv).1, if_pos hk]
   simp
 | p :: P, w :: vs, i + 1, m, nd, h1, h2, hk => by
   show bindL kindOf ((p, w) :: P.zip vs) m x = _
   unfold bindL
   exact zeM (i := i) (List.nodup_cons.mp nd).2 (by simpa using h1) (by simpa using h2) hk
theorem zeO {kindOf : Str → Option NameKind} {x : Str} {v : Value} : ∀ {P : List Str} {vs : List Value} {i : Nat} {m : Str → Option Value}, P.Nodup → P[i]? = some x → vs[i]? = some v → kindOf x ≠ some .local →
   bindC kindOf (P.zip vs) m x = some v
 | [], _, _, _, _, h, _, _ => by simp at h
 | _ :: _, [], _, _, _, _, h, _ => by simp at h
 | p :: P, w :: vs, 0, m, nd, h1, h2, hk => by
   simp at h1 h2; subst h1; subst h2
   show bindC kindOf ((p, w) :: P.zip vs) m p = _
   unfold bindC
   rw [zeN fun v hv => (List.nodup_cons.mp nd).1 (List.of_mem_zip hv).1, if_neg hk]
   simp
 | p :: P, w :: vs, i + 1, m, nd, h1, h2, hk => by
   show bindC kindOf ((p, w) :: P.zip vs) m x = _
   unfold bindC
   exact zeO (i := i) (List.nodup_cons.mp nd).2 (by simpa using h1) (by simpa using h2) hk
def start (N : List Str) (vs : List V) : St := vs.map some ++ List.replicate (N.length - vs.length) none
def cxOf (CX : CXT) (P : Program) (w : World) (K : PySem.W.Frag) (mg : Str → Option Value) (base : Heap) (N : List Str) (qual : Str) (scope : Scope) (f : Addr) (cd : Value) (A : Around) (outer : List Env) (s : Shared) (H : Hp) (E : XK) : Cx where
 prog := P
 w := w
 K := K
 mg := mg
 base := base
 A := A.deeper (envOfC qual scope s.heap.objs.size f cd)
 N := N
 s₀ := s
 H₀ := H
 env := envOfC qual scope s.heap.objs.size f cd
 outer := outer
 stack := envOfC qual scope s.heap.objs.size f cd :: outer
 ex := []
 calm := true
 fn := fun _ => true
 pn := []
 xe := fun e s' => wpAny (model P w) (A.deeper (envOfC qual scope s.heap.objs.size f cd)) (leaving (envOfC qual scope s.heap.objs.size f cd) e) (fun _ s'' => CX outer H s E e s'') (fun e' s'' => CX outer H s E e' s'') s'
theorem zfr {sc : Scope} {n : Nat} {x : Str} (h : sc.names.lookup x = some .cell) : ∃ c, (cellsFrom n sc.names []).lookup x = some c := by
 have q := PySem.W.cellsFrom_some sc.names n [] (.inl h)
 exact Option.isSome_iff_exists.mp q
theorem zgw {CX : CXT} {P : Program} {w : World} {K : PySem.W.Frag} {mg : Str → Option Value} {base : Heap} {N ps : List Str} {qual : Str} {scope : Scope} {f : Addr} {cd : Value} {A : Around} {outer : List Env} {s s1 : Shared} {H : Hp} {E : XK} {us : List Value} {vs : List V}
   (S : FnScope N ps scope) (hd : A.handled = none) (e0 : Env0 P w K mg base A outer s H) (hl : vs.length = ps.length) (r : Vals vs us)
   (x : InCallC s s.heap.objs.size (bindL (envOfC qual scope s.heap.objs.size f cd).kindOf (ps.zip us) fun _ => none) (cellsFrom (s.heap.objs.size + 1) scope.names []) (bindC (envOfC qual scope s.heap.objs.size f cd).kindOf (ps.zip us) fun _ => none) s1) :
   Inv (cxOf CX P w K mg base N qual scope f cd A outer s H E) [] (start N vs) H s1 := by
 have hpl : ps.length ≤ N.length := by have := congrArg List.length S.pre; rw [List.length_take] at this; omega
 obtain ⟨h1, tk, rfl, hk⟩ := x.done
 have noA : ∀ b : Addr, b ∉ (cxOf CX P w K mg base N qual scope f cd A outer s H E).ex := fun b z => absurd (show b ∈ ([] : List Addr) from z) (by simp)
 refine ⟨⟨e0.mod, S.kind, rfl, rfl, Nat.le_refl _, fun y z c h1 h2 => ?_, fun y hy => ?_, fun y c _ h => ?_, fun _ => hd, Around.frames_deeper e0.frames, .inr ⟨rfl, rfl⟩, fun b z => absurd z (noA b), e0.bs, e0.bsz, fun b _ _ => noA b, fun b z => absurd z (noA b), e0.funs, e0.frf⟩,
   rfl, e0.bare, Un.kept hk, ⟨_, x.toInCall.ns, fun i y v h1 h2 h3 => ?_⟩, fun y c h => ⟨_, x.cell y c h⟩, e0.hok.fresh (Nat.le_refl _), fun y c h => ?_, fun p hp => absurd (show p ∈ ([] : List (Addr × Obj)) from hp) (by simp), e0.hok.kept hk, ?_⟩
 · exact name_of_addr x.apart (PySem.mem_of_lookup h1) (PySem.mem_of_lookup h2)
 · have hy : scope.names.lookup y = some .cell ∨ scope.names.lookup y = some .free := hy
   rcases hy with hy | hy
   · exact zfr hy
   · exact absurd rfl (S.nofree _ (PySem.mem_of_lookup hy))
 · exact Nat.le_of_lt (x.above y c (PySem.mem_of_lookup h))
 · have hi : i < vs.length := by
     unfold start at h2
     by_cases hi : i < vs.length
     · exact hi
     · rw [List.getElem?_append_right (by simpa using hi)] at h2
       rw [List.getElem?_replicate] at h2
       split at h2 <;> cases h2
   have ha : vs[i]? = some v := by
     unfold start at h2
     rw [List.getElem?_append_left (by simpa using hi), List.getElem?_map] at h2
     cases e : vs[i]? with
     | none => rw [e] at h2; cases h2
     | some a => rw [e] at h2; cases h2; rfl
   obtain ⟨u, hu, rv⟩ := r.get ha
   have hp : ps[i]? = some y := by
     rw [← S.pre, List.getElem?_take_of_lt (by omega)]; exact h1
   have ndP : ps.Nodup := by rw [← S.pre]; exact S.nd.sublist (List.take_sublist _ _)
   refine ⟨u, rv, ?_⟩
   rcases S.par y (List.mem_of_getElem? hp) with k | k
   · exact .inl ⟨k, zeM ndP hp hu k⟩
   · obtain ⟨c, e⟩ := zfr (n := s.heap.objs.size + 1) k
     refine .inr ⟨.inl k, c, e, ?_⟩
     have q := x.cell y c e
     rw [zeO ndP hp hu (by show scope.names.lookup y ≠ _; rw [k]; decide)] at q
     exact q
 · exact e0.hok.fresh (Nat.le_of_lt (x.above y c (PySem.mem_of_lookup h)))
 · unfold start
   show _ = N.length
   rw [List.length_append, List.length_map, List.length_replicate]
   omega
theorem zlM {CX : CXT} {P : Program} {w : World} {K : PySem.W.Frag} {mg : Str → Option Value} {base : Heap} {k : Nat} {f : Addr} {name qual : Str} {params : Arguments} {body : List Stmt} {scope : Scope} {dV kV doc pm cdv ct oc : Value} {an od : Option Addr}
   {osl : Array (Option Value)} {N ps : List Str} {sp : Sp} (lk : K.lookup f = some ⟨oc, od, .func (PySem.W.fnOf name qual params body scope dV kV doc pm an cdv ct), osl⟩) (hcd : PySem.W.codeIn K cdv qual = true) (S : FnScope N ps scope)
   (len : ∀ vs H Q E, sp vs H Q E → vs.length = ps.length)
   (hbody : ∀ (A : Around) (outer : List Env) (s : Shared) (H : Hp) (vs : List V) (Q : VK) (E : XK), Room k (A.deeper (envOfC qual scope s.heap.objs.size f cdv)) → sp vs H Q E →
     ∃ t, PSs (cxOf CX P w K mg base N qual scope f cdv A outer s H E) body t ∧ t { nx := fun _ H' => Q .non H', rt := Q } (start N vs) H) :
   FnOk P w K mg base CX (k + 1) f (PySem.W.fnOf name qual params body scope dV kV doc pm an cdv ct) ps sp := by
 refine ⟨len, fun A outer s H args us vs Q E hr e0 hb r hsp => ?_⟩
 have hl := len _ _ _ _ hsp
 have KX : K.In s.heap := e0.mod.kin.keeps fun b o e => (e0.bs b o e).1
 have lim : s.heap.NoLimit := e0.mod.nolimit.keeps fun b o e => (e0.bs b o e).1
 have hkind : ∀ y ∈ ps.zip us, scope.names.lookup y.1 = some .local ∨ (scope.names.lookup y.1 = some .cell ∧ ((cellsFrom (s.heap.objs.size + 1) scope.names []).lookup y.1).isSome = true) := fun ⟨n, v⟩ hy => by
   rcases S.par n (List.of_mem_zip hy).1 with q | q
   · exact .inl q
   · exact .inr ⟨q, PySem.W.cellsFrom_some _ _ _ (.inl q)⟩
 refine codeAny_call_function hr.depth (KX _ _ lk) rfl S.co S.gen rfl (PySem.W.codeRec_of KX hcd) (hb _ _ _ _ ?_)
 refine wpAny_newFunctionEnv_cells S.kind hkind fun env he s1 x => ?_
 subst he
 refine ⟨lim.keeps x.toInCall.keep, codeAny_func ?_⟩
 obtain ⟨t, ht, hq⟩ := hbody A outer s H vs Q E (hr.deeper _) hsp
 have I : Inv (cxOf CX P w K mg base N qual scope f cdv A outer s H E) [] (start N vs) H s1 := zgw S hr.hd e0 hl r x
 refine wpAny_mono (ht [] s1 (start N vs) H _ I hq) (fun fl s' hs => ?_) fun e s' hs => hs
 have fin : ∀ {σ' : St} {H' : Hp} {v : V} {u : Value}, Inv (cxOf CX P w K mg base N qual scope f cdv A outer s H E) [] σ' H' s' → RelV v u → Q v H' → CE outer P w H s Q u s' :=
   fun {σ' H' v u} J rv q => ⟨v, H', J.os, J.bare, J.base, J.hok, rv, q⟩
 cases fl with
 | ret u =>
   obtain ⟨v, σ', H', J, rv, q⟩ := hs
   exact fin J rv q
 | next =>
   obtain ⟨σ', H', J, q⟩ := hs
   exact fin (v := V.non) (u := Value.none) J rfl q
 | brk =>
   obtain ⟨_, _, _, q⟩ := hs
   exact False.elim q
 | cont =>
   obtain ⟨_, _, _, q⟩ := hs
   exact False.elim q
end L2
namespace L2
open PySem PySem.Spec PyProof.Rows
section
variable {X : Cx} {x : Str} {p pos : Pos} {e : Expr} {es : List Expr} {t : TA} {id T : String} {r : List V → Hp → VK → Prop}
def tCB (r : List V → Hp → VK → Prop) (t : TA) : TE := fun σ H Q => t σ H fun vs H1 => r vs H1 Q
theorem zhr (hc : CallR X (.builtin id) r) (hg : Gl X x) (hm : X.mg x = none) (hv : bootBuiltins x = some (.builtin id)) (ha : PA X (e :: es) t) (hn : x ≠ "__name__" := by decide) (hdb : (x == ("__debug__" : Str)) = false := by decide)
   (he : starEach (e :: es) X.env = (false, eval e X.env) :: starEach es X.env := by rfl) (hpl : (backTo pos (starEach es X.env)).any (·.1) = false := by rfl) : PE X (.Call (.Name x p) (e :: es) [] pos) (tCB r t) := by
 intro pins s σ H Q I h
 refine wpAny_Call_Name_kw (zew I hg hm hv ?_ hn hdb)
 exact PyProof.Rows.callWith_builtin1 (thn (ha pos pins s σ H _ I h) fun us s1 ⟨vs, H1, I1, r1, q1⟩ => hc pins s1 σ H1 vs us Q I1 r1 q1) he hpl
theorem zf9 (hc : CallR X (.type T) r) (hg : Gl X x) (hm : X.mg x = none) (hv : bootBuiltins x = some (.type T)) (ha : PA X (e :: es) t) (hn : x ≠ "__name__" := by decide) (hdb : (x == ("__debug__" : Str)) = false := by decide)
   (he : starEach (e :: es) X.env = (false, eval e X.env) :: starEach es X.env := by rfl) (hpl : (backTo pos (starEach es X.env)).any (·.1) = false := by rfl) : PE X (.Call (.Name x p) (e :: es) [] pos) (tCB r t) := by
 intro pins s σ H Q I h
 refine wpAny_Call_Name_kw (zew I hg hm hv ?_ hn hdb)
 exact PyProof.Rows.callWith_type1 (thn (ha pos pins s σ H _ I h) fun us s1 ⟨vs, H1, I1, r1, q1⟩ => hc pins s1 σ H1 vs us Q I1 r1 q1) he hpl
end
end L2
namespace HT
open PySem PyProof.Rows
section
open PySem.SeqAt
open PySem.AutoSeq1 (wpAny_loadPart')
open PySem.MeetsSeq PySem.MeetsSeq2 PySem.MeetsSeq3
end
section
variable {prog : Program} {w : World} {A : Around} {E : Value → Shared → Prop} {s : Shared}
theorem zjA {t b : Addr} {vs ws : List Value} {Q : Value → Shared → Prop} (ht : IsTup s.heap t vs.toArray) (hb : IsTup s.heap b ws.toArray) (hv : vs ≠ [])
   (h1 : ws = [] → Q (.ref t) s) (h2 : ws ≠ [] → Q (.ref s.heap.objs.size) { s with heap := s.heap.push { cls := .type "tuple", data := .seq (vs ++ ws).toArray } })
   (hsz : vs.length + ws.length ≤ sizeLine) : wpAny (model prog w) A (binaryOp .Add (.ref t) (.ref b)) Q E s := by
 obtain ⟨⟨cls, dd, data, sl⟩, ho, hc, n, hd⟩ := id ht
 obtain ⟨⟨cls2, dd2, data2, sl2⟩, ho2, hc2, n2, hd2⟩ := id hb
 simp only at hc hd hc2 hd2
 subst hc hd hc2 hd2
 have e : vs.toArray ++ ws.toArray = (vs ++ ws).toArray := by simp
 by_cases hw : ws = []
 · exact concat_meets ⟨_, ho, rfl⟩ ⟨_, ho2, rfl⟩ noFill_tuple_add seq_tuple_add PySem.F.slot_tuple_add PySem.F.entry_tuple_add (PySem.F.args_tuple_add_2 _ _)
     (tuple_addW1 t b vs.toArray ws.toArray n n2 dd dd2 sl sl2 (by simpa using hv) (by simp [hw])) ⟨ho, ho2, h1 hw⟩
 · refine concat_meets ⟨_, ho, rfl⟩ ⟨_, ho2, rfl⟩ noFill_tuple_add seq_tuple_add PySem.F.slot_tuple_add PySem.F.entry_tuple_add (PySem.F.args_tuple_add_2 _ _)
     (tuple_addW2 t b vs.toArray ws.toArray n n2 dd dd2 sl sl2 (by simpa using hv) (by simpa using hw) (by rw [List.size_toArray, List.size_toArray]; exact hsz)) ⟨ho, ho2, ?_⟩
   rw [e]
   exact h2 hw
def sIx (n d : Nat) : Option Int → Nat
 | none => d
 | some v => if v < 0 then (v + (n : Int)).toNat else min v.toNat n
theorem zkd (n d : Nat) (hd : d ≤ n) (o : Option Int) : sIx n d o ≤ n := by
 cases o with
 | none => exact hd
 | some v =>
   show (if v < 0 then (v + (n : Int)).toNat else min v.toNat n) ≤ n
   by_cases hv : v < 0
   · rw [if_pos hv]; omega
   · rw [if_neg hv]; exact Nat.min_le_right _ _
theorem zgR (v : Int) (n d : Nat) : (if v < 0 then max (v + (n : Int)) 0 else min v (n : Int)) = ((sIx n d (some v) : Nat) : Int) := by
 show (if v < 0 then max (v + (n : Int)) 0 else min v (n : Int)) = (((if v < 0 then (v + (n : Int)).toNat else min v.toNat n) : Nat) : Int)
 by_cases hv : v < 0
 · simp only [if_pos hv]; omega
 · simp only [if_neg hv]; omega
theorem zfR (lo hi : Option Int) (n : Nat) : Builtin.Slice.sliceAdjust lo hi 1 (n : Int) = (((sIx n 0 lo : Nat) : Int), ((sIx n n hi : Nat) : Int)) := by
 have h1 : ¬ ((1 : Int) < 0) := by omega
 unfold Builtin.Slice.sliceAdjust
 simp only [h1, if_false]
 refine Prod.ext ?_ ?_
 · cases lo with
   | none => rfl
   | some v => exact zgR v n 0
 · cases hi with
   | none => rfl
   | some v => exact zgR v n n
theorem zfD (i j : Nat) : Builtin.Slice.slicePlaces (i : Int) (j : Int) 1 = j - i := by
 unfold Builtin.Slice.slicePlaces
 have h1 : (1 : Int) > 0 := by omega
 simp only [h1, if_true, Int.ediv_one]
 split <;> omega
theorem zdZ {v : Value} {o : Option Int} {Q : Option Int → Shared → Prop} (p : IsPart v o) (h : Q o s) : wpAny (model prog w) A (Builtin.Slice.slicePartIndex v) Q E s := by
 cases p with
 | none => exact slicePart_none h
 | int i t => exact slicePart_int h
theorem zdr {sl : Addr} {vl vu : Value} {lo hi : Option Int} {n : Nat} {Q : Int × Int × Nat → Shared → Prop} (hs : s.heap.IsSliceOf sl vl vu .none) (pl : IsPart vl lo) (pu : IsPart vu hi)
   (h : Q (((sIx n 0 lo : Nat) : Int), 1, sIx n n hi - sIx n 0 lo) s) : wpAny (model prog w) A (Builtin.Slice.sliceApplied (.ref sl) (pure (n : Int))) Q E s := by
 obtain ⟨os, hos, hcs, hds⟩ := id hs
 unfold Builtin.Slice.sliceApplied Builtin.Slice.sliceFields
 refine wpAny_bind (wpAny_bind (wpAny_field hos hds (x := vl) rfl (wpAny_bind (wpAny_field hos hds (x := vu) rfl (wpAny_bind (wpAny_field hos hds (x := .none) rfl (wpAny_pure ?_)))))))
 refine wpAny_bind (slicePart_none ?_)
 show wpAny _ _ (if ((1 : Int) == 0) = true then _ else _) _ _ s
 rw [if_neg (by decide)]
 refine wpAny_bind (zdZ pl (wpAny_bind (zdZ pu (wpAny_bind (wpAny_pure ?_)))))
 show wpAny _ _ (match Builtin.Slice.sliceAdjust lo hi 1 (n : Int) with | (lo, hi) => pure (lo, (1 : Int), Builtin.Slice.slicePlaces lo hi 1)) _ _ s
 rw [zfR lo hi n]
 show wpAny _ _ (pure (((sIx n 0 lo : Nat) : Int), (1 : Int), Builtin.Slice.slicePlaces ((sIx n 0 lo : Nat) : Int) ((sIx n n hi : Nat) : Int) 1)) _ _ s
 rw [zfD]
 exact wpAny_pure h
theorem zhl (xs : Array Value) (i k : Nat) : ((List.range k).filterMap fun (m : Nat) => xs[((i : Int) + (m : Int) * 1).toNat]?).toArray = ((xs.toList.drop i).take k).toArray := by
 have e : (fun (m : Nat) => xs[((i : Int) + (m : Int) * 1).toNat]?) = fun m => xs[i + m]? := by
   funext m
   have : ((i : Int) + (m : Int) * 1).toNat = i + m := by omega
   rw [this]
 rw [e]
 have := pick_run xs i k
 rw [List.filterMap_map] at this
 have e2 : ((fun x => xs[x]?) ∘ fun x => i + x) = fun m => xs[i + m]? := rfl
 rw [e2] at this
 rw [this]
theorem zdb {t sl : Addr} {items : Array Value} {vl vu : Value} {lo hi : Option Int} {Q : Value → Shared → Prop} (ht : IsTup s.heap t items) (hs : s.heap.IsSliceOf sl vl vu .none) (pl : IsPart vl lo) (pu : IsPart vu hi)
   (hw : ¬ (sIx items.size 0 lo = 0 ∧ sIx items.size items.size hi = items.size))
   (h : Q (.ref s.heap.objs.size) { s with heap := s.heap.push { cls := .type "tuple", data := .seq ((items.toList.drop (sIx items.size 0 lo)).take (sIx items.size items.size hi - sIx items.size 0 lo)).toArray } })
   (hsz : items.size ≤ sizeLine) : wpAny (model prog w) A (getItem (.ref t) (.ref sl)) Q E s := by
 have htake : sizeOk (.seq ((items.toList.drop (sIx items.size 0 lo)).take (sIx items.size items.size hi - sIx items.size 0 lo)).toArray) := by
   show ((items.toList.drop (sIx items.size 0 lo)).take (sIx items.size items.size hi - sIx items.size 0 lo)).toArray.size ≤ sizeLine
   rw [List.size_toArray, List.length_take, List.length_drop, Array.length_toList]
   omega
 have hj : sIx items.size items.size hi ≤ items.size := zkd _ _ (Nat.le_refl _) hi
 obtain ⟨os, hos, hcs, hds⟩ := id hs
 have hTs : s.TypeIs (.ref sl) "slice" := ⟨os, hos, hcs⟩
 unfold getItem
 try with_reducible refine wpAny_holding ?_
 first | refine wpAny_bind (wpAny_pure ?_) | skip
 refine wpAny_bind (wpAny_sequenceKey ht.typeIs (by decide) ?_)
 refine wpAny_bind (wpAny_callSpecial?_slot (name := Str.ofString "__getitem__") ht.typeIs PyProof.Rows.slot_tuple_getitem
   (wpAny_call_entry PyProof.Rows.slot_tuple_getitem ht.typeIs entry_tuple_getitem ?_ (args_tuple_getitem _ _)))
 show wpAny _ _ (Builtin.Tuple.tupleItemsOf (.ref t) >>= _) _ _ s
 refine wpAny_bind (tupleItemsOf_ ht ?_)
 refine wpAny_bind (wpAny_typeOf hTs ?_)
 rw [if_pos (by decide)]
 refine wpAny_bind (zdr hs pl pu ?_)
 have hno : ¬ ((((sIx items.size 0 lo : Nat) : Int) == 0 && (1 : Int) == 1 && (sIx items.size items.size hi - sIx items.size 0 lo) == items.size) = true) := by
   intro q
   rw [Bool.and_eq_true, Bool.and_eq_true] at q
   have q1 : ((sIx items.size 0 lo : Nat) : Int) = 0 := eq_of_beq q.1.1
   have q2 : sIx items.size items.size hi - sIx items.size 0 lo = items.size := eq_of_beq q.2
   exact hw ⟨by omega, by omega⟩
 show wpAny _ _ (if (((sIx items.size 0 lo : Nat) : Int) == 0 && (1 : Int) == 1 && (sIx items.size items.size hi - sIx items.size 0 lo) == items.size) = true then _ else _) _ _ s
 rw [if_neg hno, zhl]
 first
   | exact wpAny_bind (m := Builtin.Tuple.tupleExact _) (wpAny_newObj_type (wpAny_pure ⟨_, rfl, wpAny_pure h⟩) htake)
   | exact wpAny_bind (m := Builtin.Tuple.tupleExact _) (wpAny_newObj_type (wpAny_bind (wpAny_pure (wpAny_pure ⟨_, rfl, wpAny_pure h⟩))) htake)
   | exact wpAny_bind (wpAny_bind (m := Builtin.Tuple.tupleExact _) (wpAny_newObj_type (wpAny_pure (wpAny_pure ⟨_, rfl, wpAny_pure h⟩)) htake))
   | exact wpAny_bind (wpAny_bind (m := Builtin.Tuple.tupleExact _) (wpAny_newObj_type (wpAny_pure ⟨_, rfl, wpAny_pure h⟩) htake))
end
end HT
namespace L2
open PySem PySem.Spec PyProof.Rows
abbrev TO := St → Hp → (Option Int → Hp → Prop) → Prop
def PO (X : Cx) (e : Option Expr) (t : TO) : Prop :=
 ∀ (pins : List (Addr × Obj)) (s : Shared) (σ : St) (H : Hp) (Q : Option Int → Hp → Prop), Inv X pins σ H s → t σ H Q →
   wpAny (model X.prog X.w) X.A (evalPart e X.env) (fun u s' => ∃ o H', Inv X pins σ H' s' ∧ IsPart u o ∧ Q o H') X.xe s
def tNoPart : TO := fun _ H Q => Q none H
def tPart (t : TE) : TO := fun σ H Q => t σ H fun x H1 => ∃ i, x = .int i ∧ Q (some i) H1
section
variable {X : Cx} {e : Expr} {te : TE} {lo hi : Option Expr} {tl th : TO} {pos p2 : Pos}
theorem ziF : PO X none tNoPart := by
 intro pins s σ H Q I h
 rw [evalPart_none]
 exact wpAny_pure ⟨none, H, I, .none, h⟩
theorem ziE (h : PE X e te) : PO X (some e) (tPart te) := by
 intro pins s σ H Q I hw
 rw [evalPart_some]
 refine thn (h pins s σ H _ I hw) fun u s1 ⟨x, H1, I1, r1, q1⟩ => ?_
 obtain ⟨i, rfl, q⟩ := q1
 obtain ⟨t, rfl⟩ := r1
 exact ⟨some i, H1, I1, .int i t, q⟩
def SlR (X : Cx) (r : V → Option Int → Option Int → Hp → VK → Prop) : Prop :=
 ∀ (pins : List (Addr × Obj)) (s : Shared) (σ : St) (H : Hp) (x : V) (v vl vu : Value) (lo hi : Option Int) (sl : Addr) (Q : VK), Inv X pins σ H s → RelV x v → s.heap.IsSliceOf sl vl vu .none → IsPart vl lo → IsPart vu hi → r x lo hi H Q →
   ∃ T id, typeLookup (.type T) "__getitem__" = pure (some (.builtin id)) ∧ s.TypeIs v T ∧ wpAny (model X.prog X.w) X.A (getItem v (.ref sl)) (EP X pins σ Q) X.xe s
theorem SlR.or {r r' : V → Option Int → Option Int → Hp → VK → Prop} (h : SlR X r) (h' : SlR X r') : SlR X (fun x lo hi H Q => r x lo hi H Q ∨ r' x lo hi H Q) := by
 intro pins s σ H x v vl vu lo hi sl Q I rx hs pl pu q
 rcases q with q | q
 · exact h pins s σ H x v vl vu lo hi sl Q I rx hs pl pu q
 · exact h' pins s σ H x v vl vu lo hi sl Q I rx hs pl pu q
def tSl (r : V → Option Int → Option Int → Hp → VK → Prop) (te : TE) (tl th : TO) : TE := fun σ H Q => te σ H fun x H1 => tl σ H1 fun l H2 => th σ H2 fun u H3 => r x l u H3 Q
theorem zho {r : V → Option Int → Option Int → Hp → VK → Prop} (hr : SlR X r) (he : PE X e te) (hl : PO X lo tl) (hu : PO X hi th) : PE X (.Subscript e (.Slice lo hi none p2) pos) (tSl r te tl th) := by
 intro pins s σ H Q I h
 refine Subscript_ (thn (he pins s σ H _ I h) fun v s1 ⟨x, H1, I1, r1, q1⟩ => ?_)
 refine wpAny_Slice (thn (hl pins s1 σ H1 _ I1 q1) fun vl s2 ⟨l, H2, I2, pl, q2⟩ => thn (hu pins s2 σ H2 _ I2 q2) fun vu s3 ⟨u, H3, I3, pu, q3⟩ => ?_)
 rw [evalPart_none]
 refine wpAny_pure ?_
 have I4 : Inv X pins σ H3 { s3 with heap := s3.heap.push { cls := .type "slice", data := .fields #[vl, vu, .none] } } := I3.kept (t' := s3.toks) fun b ob q => Heap.get?_push_of_some _ q
 obtain ⟨T, id, hT, ht, hg⟩ := hr pins { s3 with heap := s3.heap.push { cls := .type "slice", data := .fields #[vl, vu, .none] } } σ H3 x v vl vu l u s3.heap.objs.size Q I4 r1 (Heap.IsSliceOf.new ..) pl pu q3
 show wpAny (model X.prog X.w) X.A (subscriptTail e (.Slice lo hi none p2) v (.ref s3.heap.objs.size)) (EP X pins σ Q) X.xe { s3 with heap := s3.heap.push { cls := .type "slice", data := .fields #[vl, vu, .none] } }
 exact tail_any (ops := [.ref s3.heap.objs.size, v]) ht hT hg (by with_unfolding_all rfl)
def cutV (xs : List V) (lo hi : Option Int) : List V := (xs.drop (HT.sIx xs.length 0 lo)).take (HT.sIx xs.length xs.length hi - HT.sIx xs.length 0 lo)
theorem zdN (xs : List V) (lo hi : Option Int) : (cutV xs lo hi).length ≤ xs.length := by
 unfold cutV
 rw [List.length_take, List.length_drop]
 omega
def rSlT (K : PySem.W.Frag) : V → Option Int → Option Int → Hp → VK → Prop := fun x lo hi H Q => ∃ a xs, x = .ref a ∧ SqT K H a xs ∧
 ¬ (HT.sIx xs.length 0 lo = 0 ∧ HT.sIx xs.length xs.length hi = xs.length) ∧ ∀ p, H p = none → Q (.ref p) (upd H p (.tup (cutV xs lo hi)))
theorem zjW : SlR X (rSlT X.K) := by
 intro pins s σ H x v vl vu lo hi sl Q I rx hs pl pu h
 obtain ⟨a, xs, rfl, hx, hw, q⟩ := h
 cases rx
 obtain ⟨its, r, ht, hz⟩ := I.tuple hx
 have hlen : its.toArray.size = xs.length := by rw [List.size_toArray]; exact r.length.symm
 refine ⟨"tuple", _, PyProof.Rows.slot_tuple_getitem.lookup, ht.typeIs, ?_⟩
 refine HT.zdb ht hs pl pu (by rw [hlen]; exact hw) ?_ (by rw [hlen]; exact hz)
 rw [hlen]
 refine ⟨.ref s.heap.objs.size, _, I.laid (t' := s.toks) (o := .tup (cutV xs lo hi)) (fun b ob q => Heap.get?_push_of_some _ q) (Nat.le_refl _) ?_, rfl, q _ (I.hok.fresh (Nat.le_refl _))⟩
 exact ⟨Nat.le_trans (zdN xs lo hi) hz, _, (r.drop (HT.sIx xs.length 0 lo)).take (HT.sIx xs.length xs.length hi - HT.sIx xs.length 0 lo), IsTup.new _ _⟩
def rCatT (K : PySem.W.Frag) : R2 := fun x y H Q => ∃ a b xs ys, x = .ref a ∧ y = .ref b ∧ SqT K H a xs ∧ SqT K H b ys ∧ xs ≠ [] ∧ xs.length + ys.length ≤ sizeLine ∧
 (ys = [] → Q (.ref a) H) ∧ (ys ≠ [] → ∀ p, H p = none → Q (.ref p) (upd H p (.tup (xs ++ ys))))
theorem Vals.nil_iff {xs : List V} {us : List Value} (r : Vals xs us) : us = [] ↔ xs = [] := by
 cases r with
 | nil => simp
 | cons _ _ => simp
theorem zi5 : OpR X (binaryOp .Add) (rCatT X.K) := by
 intro pins s σ H x y v u Q I rx ry h
 obtain ⟨a, b, xs, ys, rfl, rfl, ha, hb, hx, hz, q1, q2⟩ := h
 cases rx
 cases ry
 obtain ⟨its, r1, p1, _⟩ := I.tuple ha
 obtain ⟨its2, r2, p2, _⟩ := I.tuple hb
 refine HT.zjA p1 p2 (fun z => hx (r1.nil_iff.mp z)) (fun z => ⟨.ref a, H, I, rfl, q1 (r2.nil_iff.mp z)⟩) (fun z => ?_) (by rw [← r1.length, ← r2.length]; exact hz)
 refine ⟨.ref s.heap.objs.size, _, I.laid (t' := s.toks) (o := .tup (xs ++ ys)) (fun b ob q => Heap.get?_push_of_some _ q) (Nat.le_refl _) ?_, rfl, q2 (fun w => z (r2.nil_iff.mpr w)) _ (I.hok.fresh (Nat.le_refl _))⟩
 exact ⟨by rw [List.length_append]; exact hz, _, r1.append r2, IsTup.new _ _⟩
end
end L2
namespace L2
open PySem PySem.Spec PyProof.Rows
def ixN (n : Nat) (i : Int) : Option Nat := if 0 ≤ i then (if i < n then some i.toNat else none) else if -(n : Int) ≤ i then some (i + n).toNat else none
def atI {α : Type} (xs : List α) (i : Int) : Option α := (ixN xs.length i).bind fun j => xs[j]?
theorem zgr {n : Nat} {i : Int} {j : Nat} (h : ixN n i = some j) : seqIndex? i n = some j ∧ j < n ∧ -(n : Int) ≤ i ∧ i < n := by
 unfold ixN at h
 by_cases h0 : 0 ≤ i
 · rw [if_pos h0] at h
   by_cases h1 : i < n
   · rw [if_pos h1] at h
     have e : i.toNat = j := Option.some.inj h
     exact ⟨by rw [seqIndex_of h0 h1, e], by omega, by omega, h1⟩
   · rw [if_neg h1] at h; cases h
 · rw [if_neg h0] at h
   by_cases h1 : -(n : Int) ≤ i
   · rw [if_pos h1] at h
     have e : (i + n).toNat = j := Option.some.inj h
     exact ⟨by rw [seqIndex_neg (by omega) h1, e], by omega, h1, by omega⟩
   · rw [if_neg h1] at h; cases h
theorem zfa {α : Type} {xs : List α} {i : Int} {v : α} (h : atI xs i = some v) : ∃ j, seqIndex? i xs.length = some j ∧ xs[j]? = some v ∧ j < xs.length ∧ -(xs.length : Int) ≤ i ∧ i < xs.length := by
 unfold atI at h
 cases e : ixN xs.length i with
 | none => rw [e] at h; cases h
 | some j =>
   rw [e] at h
   obtain ⟨h1, h2, h3, h4⟩ := zgr e
   exact ⟨j, h1, h, h2, h3, h4⟩
def PlainIx (b : Expr) : Prop := ∀ o i, subscripted b false o i = operate [o, i] (getItem o i)
def IxR (X : Cx) (r : R2) : Prop :=
 ∀ (value slice : Expr) (pins : List (Addr × Obj)) (s : Shared) (σ : St) (H : Hp) (x y : V) (v u : Value) (Q : VK), Inv X pins σ H s → RelV x v → RelV y u → r x y H Q →
   subscripted slice false v u = operate [v, u] (getItem v u) → wpAny (model X.prog X.w) X.A (subscriptTail value slice v u) (EP X pins σ Q) X.xe s
def MtR (X : Cx) (id : String) (r : V → List V → Hp → VK → Prop) : Prop :=
 ∀ (pins : List (Addr × Obj)) (s : Shared) (σ : St) (H : Hp) (x : V) (xs : List V) (v : Value) (us : List Value) (Q : VK), Inv X pins σ H s → RelV x v → Vals xs us → r x xs H Q →
   wpAny (model X.prog X.w) X.A (call (.builtin id) (v :: us)) (EP X pins σ Q) X.xe s
section
variable {X : Cx} {a b : Expr} {ta tb : TE} {pos : Pos}
theorem zlC {r : R2} (hr : IxR X r) (ha : PE X a ta) (hb : PE X b tb) (hs : PlainIx b) : PE X (.Subscript a b pos) (tOp r ta tb) := by
 intro pins s σ H Q I h
 exact Subscript_ (binT ha hb I h fun v u s2 x y H2 I2 rx ry q => hr a b pins s2 σ H2 x y v u Q I2 rx ry q (hs _ _))
def rIxL (K : PySem.W.Frag) : R2 := fun x y H Q => ∃ p xs i v, x = .ref p ∧ y = .int i ∧ SqL K H p xs ∧ atI xs i = some v ∧ Q v H
def rIxT (K : PySem.W.Frag) : R2 := fun x y H Q => ∃ p xs i v, x = .ref p ∧ y = .int i ∧ SqT K H p xs ∧ atI xs i = some v ∧ Q v H
def rIxS : R2 := fun x y H Q => ∃ z i c, x = .str z ∧ y = .int i ∧ z.length ≤ sizeLine ∧ atI z.cps.toList i = some c ∧ Q (.str ⟨#[c]⟩) H
theorem zgq : IxR X (rIxL X.K) := by
 intro value slice pins s σ H x y v u Q I rx ry h hs
 obtain ⟨p, xs, i, z, rfl, rfl, hq, he, q⟩ := h
 cases rx
 obtain ⟨t, rfl⟩ := ry
 obtain ⟨its, r, pl, hz⟩ := I.list hq
 obtain ⟨j, h1, h2, h3, h4, h5⟩ := zfa he
 obtain ⟨w, ew, rw'⟩ := r.get h2
 have hl := r.length
 have hn := line63
 have fin : EP X pins σ Q w s := ⟨z, H, I, rw', q⟩
 by_cases h0 : 0 ≤ i
 · have hj : i.toNat = j := by
     rw [seqIndex_of h0 h5] at h1
     exact Option.some.inj h1
   exact item_listR pl.isList h0 (by omega) (by rw [hj]; simpa using ew) fin hs
 · have hj : (i + (its.toArray.size : Int)).toNat = j := by
     rw [seqIndex_neg (by omega) h4] at h1
     rw [List.size_toArray, ← hl]
     exact Option.some.inj h1
   exact subscriptTail_builtinR (x := w) pl.isList.typeIs slot_list_getitem.lookup
     (wpAny_getItem_list_neg (Q := fun r s' => r = w ∧ EP X pins σ Q r s') pl.isList (by omega) (by rw [List.size_toArray] <;> omega) (by omega) (by rw [hj]; simpa using ew) ⟨rfl, fin⟩) hs
theorem zkT : IxR X (rIxT X.K) := by
 intro value slice pins s σ H x y v u Q I rx ry h hs
 obtain ⟨p, xs, i, z, rfl, rfl, hq, he, q⟩ := h
 cases rx
 obtain ⟨t, rfl⟩ := ry
 obtain ⟨its, r, pl, hz⟩ := I.tuple hq
 obtain ⟨j, h1, h2, h3, h4, h5⟩ := zfa he
 obtain ⟨w, ew, rw'⟩ := r.get h2
 have hl := r.length
 have hn := line63
 have fin : EP X pins σ Q w s := ⟨z, H, I, rw', q⟩
 exact subscriptTail_builtinR (x := w) pl.typeIs slot_tuple_getitem.lookup
   (getItem_tuple (j := j) (Q := fun r s' => r = w ∧ EP X pins σ Q r s') pl (by omega) (by omega) (by rw [List.size_toArray, ← hl]; exact h1) (by simpa using ew) ⟨rfl, fin⟩) hs
theorem zkU : IxR X rIxS := by
 intro value slice pins s σ H x y v u Q I rx ry h hs
 obtain ⟨z, i, c, rfl, rfl, hz, he, q⟩ := h
 obtain ⟨t, rfl⟩ := rx
 obtain ⟨t', rfl⟩ := ry
 obtain ⟨j, h1, h2, h3, h4, h5⟩ := zfa he
 have hl : z.cps.toList.length = z.length := by simp [Str.length]
 rw [hl] at h1 h4 h5
 have hn := line63
 exact tail_any (typeIs_str s z t) slot_str_getitem.lookup (getItem_str (c := c) (by
   have e1 : decide (i < -(2 ^ 63 : Int)) = false := decide_eq_false (by omega)
   have e2 : decide (i ≥ 2 ^ 63) = false := decide_eq_false (by omega)
   rw [e1, e2, Bool.or_false]) (by rw [h1]; simpa using h2) ⟨.str ⟨#[c]⟩, H, I.tok _, ⟨_, rfl⟩, q⟩) hs
theorem zfK (its : List Value) (n j : Nat) (u : Value) : Obj.mapSeq (·.setIfInBounds j u) { cls := .type "list", data := .seq its.toArray n } = { cls := .type "list", data := .seq (its.set j u).toArray n } := by
 simp [Obj.mapSeq]
theorem Inv.lst {pins : List (Addr × Obj)} {σ : St} {H : Hp} {s : Shared} {p : Addr} {xs : List V} (I : Inv X pins σ H s) (h : H p = some (.lst xs)) :
   ∃ (its : List Value) (n : Nat), Vals xs its ∧ s.heap.get? p = some { cls := .type "list", data := .seq its.toArray n } ∧ xs.length ≤ sizeLine := by
 obtain ⟨z, its, n, r, e⟩ := I.hok p _ h
 exact ⟨its, n, r, e, z⟩
theorem Inv.lstUpd {pins : List (Addr × Obj)} {σ : St} {H : Hp} {s : Shared} {p : Addr} {xs ys : List V} {its its' : List Value} {n n' : Nat} {f : Obj → Obj} (I : Inv X pins σ H s) (h : H p = some (.lst xs))
   (ho : s.heap.get? p = some { cls := .type "list", data := .seq its.toArray n }) (hf : f { cls := .type "list", data := .seq its.toArray n } = { cls := .type "list", data := .seq its'.toArray n' }) (r : Vals ys its') (hz : ys.length ≤ sizeLine) (t : Nat) :
   Inv X pins σ (upd H p (.lst ys)) { s with heap := s.heap.update p f, toks := t } := by
 have e : (s.heap.update p f).get? p = some { cls := .type "list", data := .seq its'.toArray n' } := by
   rw [Heap.get?_update_self f ho (by rw [hf] <;> rfl), hf]
 refine I.write (x := p) (e := p) (by rw [h]; trivial) (.inl rfl) (fun b u hb q => (Heap.get?_update_other _ _ (Ne.symm hb)).trans q) ⟨_, e⟩ ?_
 exact ⟨hz, its', n', r, e⟩
def rSetL : V → V → V → Hp → (Hp → Prop) → Prop := fun o i v H Q => ∃ p xs k j, o = .ref p ∧ i = .int k ∧ H p = some (.lst xs) ∧ ixN xs.length k = some j ∧ Q (upd H p (.lst (xs.set j v)))
theorem zg9 : PSet X rSetL := by
 intro pins s σ H o i v ov iv u Q I ro ri rv h
 obtain ⟨p, xs, k, j, rfl, rfl, hp, hj, q⟩ := h
 cases ro
 obtain ⟨t, rfl⟩ := ri
 obtain ⟨its, n, r, ho, hz⟩ := I.lst hp
 obtain ⟨h1, h2, h3, h4⟩ := zgr hj
 have hl := r.length
 have hn := line63
 have I' : Inv X pins σ (upd H p (.lst (xs.set j v))) { s with heap := s.heap.update p (Obj.mapSeq (·.setIfInBounds j u)) } :=
   I.lstUpd hp ho (zfK its n j u) (r.set rv j) (by rw [List.length_set]; exact hz) s.toks
 by_cases h0 : 0 ≤ k
 · have hk : k.toNat = j := by
     rw [seqIndex_of h0 h4] at h1
     exact Option.some.inj h1
   exact PySem.W.ki_setAt ho h0 (by omega) (by rw [List.size_toArray, ← hl]; exact h4) (by rw [hk]; exact ⟨_, I', q⟩)
 · have hk : (k + (its.toArray.size : Int)).toNat = j := by
     rw [seqIndex_neg (by omega) h3] at h1
     rw [List.size_toArray, ← hl]
     exact Option.some.inj h1
   exact PySem.W.ki_setBack ho (by omega) (by rw [List.size_toArray, ← hl]; exact h3) (by omega) (by rw [hk]; exact ⟨_, I', q⟩)
theorem zer (lo hi : Option Int) (n : Nat) : (sliceBounds lo hi none n).1 = ((HT.sIx n 0 lo : Nat) : Int) ∧ (sliceBounds lo hi none n).2.1 = ((HT.sIx n n hi : Nat) : Int) ∧ (sliceBounds lo hi none n).2.2 = 1 := by
 refine ⟨?_, ?_, rfl⟩
 · cases lo with
   | none => simp [sliceBounds, HT.sIx]
   | some i =>
     simp only [sliceBounds, HT.sIx, Option.getD_none, show (1 : Int) > 0 by decide, if_true]
     by_cases h : i < 0
     · simp only [h, if_true] <;> omega
     · simp only [h, if_false] <;> omega
 · cases hi with
   | none => simp [sliceBounds, HT.sIx]
   | some i =>
     simp only [sliceBounds, HT.sIx, Option.getD_none, show (1 : Int) > 0 by decide, if_true]
     by_cases h : i < 0
     · simp only [h, if_true] <;> omega
     · simp only [h, if_false] <;> omega
theorem zed (its : List Value) (lo hi : Option Int) : slicePick its.toArray lo hi none = ((its.drop (HT.sIx its.length 0 lo)).take (HT.sIx its.length its.length hi - HT.sIx its.length 0 lo)).toArray := by
 obtain ⟨h1, h2, h3⟩ := zer lo hi its.toArray.size
 unfold slicePick
 rw [h1, h2, h3]
 simp only [sliceRange_one, pick_run, List.size_toArray] <;> rfl
def rSlL (K : PySem.W.Frag) : V → Option Int → Option Int → Hp → VK → Prop := fun x lo hi H Q => ∃ a xs, x = .ref a ∧ SqL K H a xs ∧ ∀ p, H p = none → Q (.ref p) (upd H p (.lst (cutV xs lo hi)))
theorem zik : SlR X (rSlL X.K) := by
 intro pins s σ H x v vl vu lo hi sl Q I rx hs pl pu h
 obtain ⟨a, xs, rfl, hx, q⟩ := h
 cases rx
 obtain ⟨its, r, ht, hz⟩ := I.list hx
 have hlen := r.length
 refine ⟨"list", _, slot_list_getitem.lookup, ht.isList.typeIs, ?_⟩
 refine wpAny_getItem_list_slice ht.isList hs pl pu .none (by simp) ?_ (by rw [List.size_toArray] <;> omega)
 rw [zed, ← hlen]
 refine ⟨.ref s.heap.objs.size, _, I.laid (t' := s.toks) (o := .lst (cutV xs lo hi)) (fun b ob q => Heap.get?_push_of_some _ q) (Nat.le_refl _) ?_, rfl, q _ (I.hok.fresh (Nat.le_refl _))⟩
 exact ⟨Nat.le_trans (zdN xs lo hi) hz, _, 0, (r.drop (HT.sIx xs.length 0 lo)).take (HT.sIx xs.length xs.length hi - HT.sIx xs.length 0 lo), Heap.get?_push_size _ rfl⟩
theorem zdq : CallR X (.builtin "len") (fun xs H Q => ∃ p ys, xs = [.ref p] ∧ (SqL X.K H p ys ∨ SqT X.K H p ys) ∧ Q (.int ys.length) H) := by
 intro pins s σ H xs us Q I r h
 obtain ⟨p, ys, rfl, hq, q⟩ := h
 obtain ⟨u, rfl, rx⟩ := vals1 r
 cases rx
 have hn := line63
 rcases hq with hq | hq
 · obtain ⟨its, r', pl, hz⟩ := I.list hq
   have hlen := r'.length
   exact Calls.call_len_list pl.isList (by simp only [List.size_toArray] <;> omega) ⟨.int ys.length, H, I.tok _, ⟨s.toks + 1, by rw [List.size_toArray, hlen]⟩, q⟩
 · obtain ⟨its, r', pl, hz⟩ := I.tuple hq
   have hlen := r'.length
   exact len_tuple pl (by simp only [List.size_toArray] <;> omega) ⟨.int ys.length, H, I.tok _, ⟨s.toks + 1, by rw [List.size_toArray, hlen]⟩, q⟩
theorem zeK : CallR X (.builtin "len") (fun xs H Q => ∃ z, xs = [.str z] ∧ z.length ≤ sizeLine ∧ Q (.int z.length) H) := by
 intro pins s σ H xs us Q I r h
 obtain ⟨z, rfl, hz, q⟩ := h
 obtain ⟨u, rfl, t, rfl⟩ := vals1 r
 have hn := line63
 exact len_str (by omega) ⟨.int z.length, H, I.tok _, ⟨_, rfl⟩, q⟩
theorem zdp : CallR X (.type "list") (fun xs H Q => ∃ p ys, xs = [.ref p] ∧ (SqL X.K H p ys ∨ SqT X.K H p ys) ∧ ∀ l, H l = none → Q (.ref l) (upd H l (.lst ys))) := by
 intro pins s σ H xs us Q I r h
 obtain ⟨p, ys, rfl, hq, q⟩ := h
 obtain ⟨u, rfl, rx⟩ := vals1 r
 cases rx
 have fin : ∀ (its : List Value), Vals ys its → ys.length ≤ sizeLine → ∀ (h' : Heap) (c' : Nat), (∀ b o', s.heap.get? b = some o' → h'.get? b = some o') →
     h'.get? s.heap.objs.size = some { cls := .type "list", dict := none, data := .seq its.toArray c', slots := #[] } → EP X pins σ Q (.ref s.heap.objs.size) { s with heap := h' } := fun its r' hz h' c' kp e =>
   ⟨.ref s.heap.objs.size, _, I.laid (t' := s.toks) kp (Nat.le_refl _) (show ObjOk X.prog X.w _ h' _ (.lst ys) from ⟨hz, its, c', r', e⟩), rfl, q _ (I.hok.fresh (Nat.le_refl _))⟩
 rcases hq with hq | hq
 · obtain ⟨its, r', pl, hz⟩ := I.list hq
   have hlen := r'.length
   obtain ⟨o, ho, hc, n, hd⟩ := pl.isList
   exact call_list_seq p (.inl rfl) ho hc hd (fun h' c' kp e => fin its r' hz h' c' kp e) (by simp only [List.size_toArray] <;> omega)
 · obtain ⟨its, r', pl, hz⟩ := I.tuple hq
   have hlen := r'.length
   obtain ⟨o, ho, hc, n, hd⟩ := pl
   exact call_list_seq p (.inr rfl) ho hc hd (fun h' c' kp e => fin its r' hz h' c' kp e) (by simp only [List.size_toArray] <;> omega)
theorem zcZ : CallR X (.type "tuple") (fun xs H Q => ∃ p ys, xs = [.ref p] ∧ ((SqL X.K H p ys ∧ ∀ l, H l = none → Q (.ref l) (upd H l (.tup ys))) ∨ (SqT X.K H p ys ∧ Q (.ref p) H))) := by
 intro pins s σ H xs us Q I r h
 obtain ⟨p, ys, rfl, h⟩ := h
 obtain ⟨u, rfl, rx⟩ := vals1 r
 cases rx
 rcases h with ⟨hq, q⟩ | ⟨hq, q⟩
 · obtain ⟨its, r', pl, hz⟩ := I.list hq
   have hlen := r'.length
   refine call_tuple_list pl.isList (fun h' kp => ?_) (by simp only [List.size_toArray] <;> omega)
   have I1 : Inv X pins σ H { s with heap := h' } := I.kept (t' := s.toks) kp
   have I2 : Inv X pins σ (upd H h'.objs.size (.tup ys)) { s with heap := h'.push { cls := .type "tuple", data := .seq its.toArray } } :=
     I1.laid (t' := s.toks) (fun b o e => Heap.get?_push_of_some _ e) (Nat.le_refl _) (show ObjOk X.prog X.w _ _ _ (.tup ys) from ⟨hz, its, r', IsTup.new _ _⟩)
   exact ⟨.ref h'.objs.size, _, I2, rfl, q _ (I1.hok.fresh (Nat.le_refl _))⟩
 · obtain ⟨its, r', pl, hz⟩ := I.tuple hq
   exact call_tuple_same pl ⟨.ref p, H, I, rfl, q⟩
def tyV (K : PySem.W.Frag) (T : String) (x : V) (H : Hp) : Prop := match x with
 | .str _ => T = "str"
 | .int _ => T = "int"
 | .ref p => (T = "list" ∧ ∃ xs, SqL K H p xs) ∨ (T = "tuple" ∧ ∃ o, K.lookup p = some o ∧ o.cls = .type "tuple" ∧ o.dict = none) ∨
     (T = "dict" ∧ ((∃ kvs, H p = some (.dK kvs)) ∨ ∃ kvs, H p = some (.dT kvs))) ∨ (T = "set" ∧ ∃ S n, H p = some (.set S n))
 | _ => False
theorem zhY {pins : List (Addr × Obj)} {σ : St} {H : Hp} {s : Shared} {T : String} {x : V} {v : Value} (I : Inv X pins σ H s) (r : RelV x v) (ty : tyV X.K T x H) :
   s.TypeIs v T ∧ ∀ a, v = .ref a → ∃ ob, s.heap.get? a = some ob ∧ ob.dict = none := by
 cases x with
 | str z =>
   obtain ⟨t, rfl⟩ := r
   cases (show T = "str" from ty)
   exact ⟨typeIs_str s z t, fun _ e => nomatch e⟩
 | int i =>
   obtain ⟨t, rfl⟩ := r
   cases (show T = "int" from ty)
   exact ⟨typeIs_int s i t, fun _ e => nomatch e⟩
 | ref p =>
   cases r
   rcases ty with ⟨rfl, xs, hq⟩ | ⟨rfl, o, hk, hc, hd⟩ | ⟨rfl, hk⟩ | ⟨rfl, S, n, hk⟩
   · obtain ⟨its, _, pl, _⟩ := I.list hq
     refine ⟨pl.isList.typeIs, fun a e => ?_⟩
     cases e
     obtain ⟨o, n, e, c, hd, _⟩ := pl
     exact ⟨o, e, hd⟩
   · refine ⟨⟨o, I.kIn p o hk, hc⟩, fun a e => ?_⟩
     cases e
     exact ⟨o, I.kIn _ o hk, hd⟩
   · have z : ∃ o, s.heap.get? p = some o ∧ o.ExactDict := by
       rcases hk with ⟨kvs, hk⟩ | ⟨kvs, hk⟩
       · obtain ⟨_, _, _, _, o, _, _, e, ex, _⟩ := I.hok p _ hk
         exact ⟨o, e, ex⟩
       · obtain ⟨_, _, _, _, o, _, _, e, ex, _⟩ := I.hok p _ hk
         exact ⟨o, e, ex⟩
     obtain ⟨o, e, ex⟩ := z
     refine ⟨⟨o, e, ex.1⟩, fun a e2 => ?_⟩
     cases e2
     exact ⟨o, e, ex.2.1⟩
   · obtain ⟨o, _, _, _, e, ex, _⟩ := I.hok p _ hk
     refine ⟨⟨o, e, ex.1⟩, fun a e2 => ?_⟩
     cases e2
     exact ⟨o, e, ex.2.1⟩
 | _ => exact False.elim ty
def tBM0 (K : PySem.W.Frag) (T : String) (r : V → List V → Hp → VK → Prop) (to : TE) : TE := fun σ H Q => to σ H fun x H1 => tyV K T x H1 ∧ r x [] H1 Q
def tBM (K : PySem.W.Frag) (T : String) (r : V → List V → Hp → VK → Prop) (to : TE) (t : TA) : TE := fun σ H Q => to σ H fun x H1 => tyV K T x H1 ∧ t σ H1 fun xs H2 => r x xs H2 Q
variable {o e : Expr} {es : List Expr} {to : TE} {t : TA} {name : Str} {apos cpos : Pos} {T id : String} {r : V → List V → Hp → VK → Prop}
theorem zky (pa : PlainAttrs T) (slot : Slot T name id) (hty : typeOf (.builtin id) = pure (.type "method_descriptor")) (hm : MtR X id r) (ho : PE X o to)
   (hbase : attributeBase o name X.env (eval o X.env) = eval o X.env := by rfl) (hline : (apos.endLine == cpos.line) = true := by rfl) : PE X (.Call (.Attribute o name apos) [] [] cpos) (tBM0 X.K T r to) := by
 intro pins s σ H Q I h
 refine wpAny_Call_method0_late hbase hline (thn (ho pins s σ H _ I h) fun v s1 ⟨x, H1, I1, r1, ty, q1⟩ => ?_)
 obtain ⟨h1, h2⟩ := zhY I1 r1 ty
 exact ⟨T, id, pa, slot, hty, h1, h2, Calls.callWith_builtin rfl (PySem.evalArgs_none (hm pins s1 σ H1 x [] v [] Q I1 r1 .nil q1))⟩
theorem zlE (pa : PlainAttrs T) (slot : Slot T name id) (hty : typeOf (.builtin id) = pure (.type "method_descriptor")) (hm : MtR X id r) (ho : PE X o to) (ha : PA X (e :: es) t)
   (hbase : attributeBase o name X.env (eval o X.env) = eval o X.env := by rfl)
   (hfew : ((backTo cpos (starEach (e :: es) X.env)).all (fun x => !x.1) && (backToKw cpos (keywordEach [] X.env)).all (fun x => x.1.isSome)
     && decide ((e :: es).length + ([] : List Keyword).length + (if ([] : List Keyword).isEmpty then 0 else 1) < 30)) = true := by rfl)
   (hline : (apos.endLine == cpos.line) = true := by rfl) (hs : starEach (e :: es) X.env = (false, eval e X.env) :: starEach es X.env := by rfl) (hplain : (backTo cpos (starEach es X.env)).any (·.1) = false := by rfl) :
   PE X (.Call (.Attribute o name apos) (e :: es) [] cpos) (tBM X.K T r to t) := by
 intro pins s σ H Q I h
 refine wpAny_Call_method_late hbase hfew hline rfl (thn (ho pins s σ H _ I h) fun v s1 ⟨x, H1, I1, r1, ty, q1⟩ => ?_)
 obtain ⟨h1, h2⟩ := zhY I1 r1 ty
 refine ⟨T, id, pa, slot, hty, h1, h2, ?_⟩
 have hA := ha cpos pins s1 σ H1 _ I1 q1
 rw [hs] at hA ⊢
 refine Calls.callWith_builtin (by show (false || (backTo cpos (starEach es X.env)).any (·.1)) = false; rw [hplain] <;> rfl) (Calls.evalArgs_plain ?_)
 exact thn hA fun us s2 ⟨vs, H2, I2, r2, q2⟩ => hm pins s2 σ H2 x vs v us Q I2 r1 r2 q2
end
end L2
namespace L2
open PySem PySem.Spec PyProof.Rows
def MtM (X : Cx) (id : String) (r : V → List V → Hp → VK → Prop) : Prop :=
 ∀ (pins : List (Addr × Obj)) (s : Shared) (σ : St) (H : Hp) (x : V) (xs : List V) (v : Value) (us : List Value) (Q : VK), Inv X pins σ H s → RelV x v → Vals xs us → r x xs H Q →
   wpAny (model X.prog X.w) X.A (call (.builtin id) (v :: us)) (EP X pins σ Q) X.xe s
theorem Vals.one : ∀ {x : V} {us : List Value}, Vals [x] us → ∃ u, us = [u] ∧ RelV x u
 | _, _, .cons r .nil => ⟨_, rfl, r⟩
theorem Vals.zero : ∀ {us : List Value}, Vals [] us → us = []
 | _, .nil => rfl
theorem Vals.dropLast {xs : List V} {us : List Value} (h : Vals xs us) : Vals xs.dropLast us.dropLast := by
 induction h with
 | nil => exact .nil
 | cons r t ih =>
   cases t with
   | nil => exact .nil
   | cons q t' => exact .cons r ih
theorem Vals.eraseIdx : ∀ {xs : List V} {us : List Value} (i : Nat), Vals xs us → Vals (xs.eraseIdx i) (us.eraseIdx i)
 | _, _, _, .nil => .nil
 | _, _, 0, .cons _ t => t
 | _, _, i + 1, .cons r t => .cons r (Vals.eraseIdx i t)
theorem Vals.reverse {xs : List V} {us : List Value} (h : Vals xs us) : Vals xs.reverse us.reverse := by
 induction h with
 | nil => exact .nil
 | cons r t ih => rw [List.reverse_cons, List.reverse_cons]; exact Vals.append ih (.cons r .nil)
theorem zfM {α : Type} (l : List α) : l.eraseIdx (l.length - 1) = l.dropLast := by
 induction l with
 | nil => rfl
 | cons a r ih =>
   cases r with
   | nil => rfl
   | cons b r =>
     have e : (a :: b :: r).length - 1 = ((b :: r).length - 1) + 1 := by
       have h1 : (a :: b :: r).length = r.length + 2 := rfl
       have h2 : (b :: r).length = r.length + 1 := rfl
       omega
     rw [e, List.eraseIdx_cons_succ, ih]
     all_goals rfl
theorem zev {α : Type} : ∀ (l : List α) (i : Nat), (l.eraseIdx i).length ≤ l.length
 | [], _ => Nat.le_refl _
 | _ :: _, 0 => Nat.le_succ _
 | _ :: r, i + 1 => Nat.succ_le_succ (zev r i)
section
variable {X : Cx} {pins : List (Addr × Obj)} {σ : St} {H : Hp} {s : Shared} {l b : Addr} {xs ys zs : List V}
theorem Inv.lset {its its' : List Value} {n : Nat} {f : Array Value → Array Value} {t' : Nat} (I : Inv X pins σ H s) (hH : H l = some (.lst xs))
   (e : s.heap.get? l = some { cls := .type "list", data := .seq its.toArray n }) (hf : f its.toArray = its'.toArray) (hv : Vals ys its') (hz : ys.length ≤ sizeLine) :
   Inv X pins σ (upd H l (.lst ys)) { s with heap := s.heap.update l (Obj.mapSeq f), toks := t' } := by
 have q := PySem.IsL.update e f
 rw [hf] at q
 refine I.write (x := l) (e := l) (by rw [hH]; exact trivial) (.inl rfl) (fun b' u hb hu => (Heap.get?_update_other s.heap (Obj.mapSeq f) (Ne.symm hb)).trans hu) ⟨_, q⟩ ?_
 exact ⟨hz, its', _, hv, q⟩
theorem Inv.lnew {its : List Value} {t' : Nat} (I : Inv X pins σ H s) (hv : Vals ys its) (hz : ys.length ≤ sizeLine) :
   Inv X pins σ (upd H s.heap.objs.size (.lst ys)) { s with heap := s.heap.push { cls := .type "list", data := .seq its.toArray }, toks := t' } :=
 I.laid (fun _ _ q => Heap.get?_push_of_some _ q) (Nat.le_refl _) ⟨hz, its, 0, hv, Heap.get?_push_size _ rfl⟩
theorem Inv.fresh (I : Inv X pins σ H s) : H s.heap.objs.size = none := I.hok.fresh (Nat.le_refl _)
theorem Inv.lstM (I : Inv X pins σ H s) (hH : H l = some (.lst xs)) : xs.length ≤ sizeLine ∧ ∃ (its : List Value) (n : Nat), Vals xs its ∧ xs.length = its.length ∧ s.heap.get? l = some { cls := .type "list", data := .seq its.toArray n } := by
 obtain ⟨z, its, n, r, e⟩ := I.hok l _ hH
 exact ⟨z, its, n, r, r.length, e⟩
end
section
variable {X : Cx}
def rAppend : V → List V → Hp → VK → Prop := fun x vs H Q => ∃ l xs y, x = .ref l ∧ vs = [y] ∧ H l = some (.lst xs) ∧ xs.length < sizeLine ∧ Q .non (upd H l (.lst (xs ++ [y])))
theorem zgh : MtM X "list.append" rAppend := by
 intro pins s σ H x vs v us Q I rx rv h
 obtain ⟨l, xs, y, rfl, rfl, hH, hz, q⟩ := h
 cases rx
 obtain ⟨u, rfl, ru⟩ := rv.one
 obtain ⟨z, its, n, r, hl, e⟩ := I.lstM hH
 refine call_meets F.slot_list_append ⟨_, e, rfl⟩ F.entry_list_append (F.args_list_append_2 _ _) (PySem.list_append l its.toArray n u (by rw [List.size_toArray]; omega)) ⟨e, ?_⟩
 refine ⟨.non, _, I.lset (its' := its ++ [u]) hH e (by simp) (r.append (.cons ru .nil)) ?_, rfl, q⟩
 rw [List.length_append, List.length_singleton]
 omega
def rPop : V → List V → Hp → VK → Prop := fun x vs H Q => ∃ l xs y, x = .ref l ∧ vs = [] ∧ H l = some (.lst xs) ∧ xs[xs.length - 1]? = some y ∧ Q y (upd H l (.lst xs.dropLast))
theorem zkL : MtM X "list.pop" rPop := by
 intro pins s σ H x vs v us Q I rx rv h
 obtain ⟨l, xs, y, rfl, rfl, hH, hy, q⟩ := h
 cases rx
 have hus := rv.zero
 subst hus
 obtain ⟨z, its, n, r, hl, e⟩ := I.lstM hH
 obtain ⟨u, hu, ru⟩ := r.get hy
 have hy' : its.toArray[its.toArray.size - 1]? = some u := by
   show its.toArray[its.length - 1]? = some u
   rw [← Array.getElem?_toList, ← hl]
   exact hu
 refine call_meets F.slot_list_pop ⟨_, e, rfl⟩ F.entry_list_pop (F.args_list_pop_1 _) (MeetsSeq.list_pop_last l its.toArray n u hy' (by rw [List.size_toArray]; omega)) ⟨e, ?_⟩
 refine ⟨y, _, I.lset (its' := its.dropLast) hH e ?_ r.dropLast ?_, ru, q⟩
 · show its.toArray.eraseIdxIfInBounds (its.toArray.size - 1) = its.dropLast.toArray
   rw [List.size_toArray, List.eraseIdxIfInBounds_toArray, zfM]
 · rw [List.length_dropLast]
   omega
def rPopAt : V → List V → Hp → VK → Prop := fun x vs H Q => ∃ l xs i k y, x = .ref l ∧ vs = [.int i] ∧ H l = some (.lst xs) ∧ -(2 ^ 63) ≤ i ∧ i < 2 ^ 63 ∧ seqIndex? i xs.length = some k ∧ xs[k]? = some y ∧ Q y (upd H l (.lst (xs.eraseIdx k)))
theorem zhu : MtM X "list.pop" rPopAt := by
 intro pins s σ H x vs v us Q I rx rv h
 obtain ⟨l, xs, i, k, y, rfl, rfl, hH, h1, h2, hk, hy, q⟩ := h
 cases rx
 obtain ⟨u, rfl, ru⟩ := rv.one
 obtain ⟨t, rfl⟩ := ru
 obtain ⟨z, its, n, r, hl, e⟩ := I.lstM hH
 obtain ⟨w, hw, rw'⟩ := r.get hy
 refine call_meets F.slot_list_pop ⟨_, e, rfl⟩ F.entry_list_pop (F.args_list_pop_2 _ _)
   (MeetsSeq.list_pop_at l its.toArray n i t k w (fitsIndex_both h1 h2) (by rw [List.size_toArray, ← hl]; exact hk) (by rw [← Array.getElem?_toList]; exact hw) (by rw [List.size_toArray]; omega)) ⟨e, ?_⟩
 refine ⟨y, _, I.lset (its' := its.eraseIdx k) hH e ?_ (r.eraseIdx k) ?_, rw', q⟩
 · show its.toArray.eraseIdxIfInBounds k = (its.eraseIdx k).toArray
   rw [List.eraseIdxIfInBounds_toArray]
 · have := zev xs k
   omega
def rReverse : V → List V → Hp → VK → Prop := fun x vs H Q => ∃ l xs, x = .ref l ∧ vs = [] ∧ H l = some (.lst xs) ∧ Q .non (upd H l (.lst xs.reverse))
theorem zfG : MtM X "list.reverse" rReverse := by
 intro pins s σ H x vs v us Q I rx rv h
 obtain ⟨l, xs, rfl, rfl, hH, q⟩ := h
 cases rx
 have hus := rv.zero
 subst hus
 obtain ⟨z, its, n, r, hl, e⟩ := I.lstM hH
 refine call_meets F.slot_list_reverse ⟨_, e, rfl⟩ F.entry_list_reverse (F.args_list_reverse_1 _) (AutoSeq1.list_reverse_list_0 l its.toArray n (by rw [List.size_toArray]; omega)) ⟨e, ?_⟩
 refine ⟨.non, _, I.lset (its' := its.reverse) hH e (by simp) r.reverse ?_, rfl, q⟩
 rw [List.length_reverse]
 omega
def rCat : R2 := fun x y H Q => ∃ l b xs zs, x = .ref l ∧ y = .ref b ∧ H l = some (.lst xs) ∧ H b = some (.lst zs) ∧ xs.length + zs.length ≤ sizeLine ∧ ∀ p, H p = none → Q (.ref p) (upd H p (.lst (xs ++ zs)))
theorem zkF : OpR X (binaryOp .Add) rCat := by
 intro pins s σ H x y v u Q I rx ry h
 obtain ⟨l, b, xs, zs, rfl, rfl, hH, hB, hz, q⟩ := h
 cases rx
 cases ry
 obtain ⟨z, its, n, r, hl, e⟩ := I.lstM hH
 obtain ⟨z2, its2, n2, r2, hl2, e2⟩ := I.lstM hB
 refine PySem.P.add_list e e2 ?_ (by rw [List.size_toArray, List.size_toArray]; omega)
 have ea : its.toArray ++ its2.toArray = (its ++ its2).toArray := by simp
 rw [ea]
 exact ⟨.ref _, _, I.lnew (t' := s.toks) (r.append r2) (by rw [List.length_append]; omega), rfl, q _ I.fresh⟩
end
section
variable {prog : Program} {w : World} {A : Around} {E : Value → Shared → Prop} {s : Shared}
end
section
variable {X : Cx}
end
end L2
namespace Att
open PySem PySem.W PySem.Calls PyProof.Rows
theorem zdI {P : Params} {h : Heap} : ∀ (ns : List Int) (vs : List Value), WellAll P h vs (ns.map WData.int) → IntsAre vs ns := by
 intro ns
 induction ns with
 | nil =>
   intro vs w
   rw [List.map_nil] at w
   cases w
   exact .nil
 | cons n ns ih =>
   intro vs w
   rw [List.map_cons] at w
   cases w with
   | cons a b =>
     cases a
     exact .cons _ _ (ih _ b)
theorem zf3 {l : OpenLaw} {n : Nat} (hn : l.most = some n) {P : Params} {h : Heap} {args : List WData} {vals : List Value}
   (hpre : l.row.toRowW.claim.pre args = true) (hwl : WellAll P h vals args) :
   ∃ a vs ns, vals = [Value.ref a] ∧ args = [WData.list (ns.map WData.int)] ∧ h.get? a = some { cls := .type "list", data := .seq vs.toArray } ∧ IntsAre vs ns ∧ ns.length ≤ n := by
 have hsh : WShape.hasAll [] args [.list .int] = true := (pre_splitW hpre).1
 have hc : l.pre.holds [] { args := args } = true := (pre_splitW hpre).2
 obtain ⟨d, r, rfl, h1, h2⟩ := hasAllW_cons hsh
 obtain rfl := hasAllW_nil h2
 obtain ⟨xs, rfl, h3⟩ := hasW_list h1
 obtain ⟨ns, rfl⟩ := items_int h3
 have hlen : ns.length ≤ n := by
   unfold OpenLaw.pre at hc
   have h4 : (WTm.not (.lt (.lit (.int (n : Int))) (.len (.arg 0)))).holds [] { args := [.list (ns.map .int)] } = true := by
     have h4 := (holds_andW hc).1
     rw [hn] at h4
     exact h4
   have h5 := condW_of h4 (w_not (w_lt w_lit (w_len_list (w_arg rfl))))
   rw [List.length_map] at h5
   refine Nat.le_of_not_lt fun q => ?_
   have q' : (n : Int) < ((ns.length : Nat) : Int) := by omega
   first
     | (rw [decide_eq_true q'] at h5; exact absurd h5 (by decide))
     | (simp at h5; omega)
 cases hwl with
 | cons w1 w2 =>
   cases w2
   cases w1 with
   | list ho hall => exact ⟨_, _, ns, rfl, rfl, ho, zdI ns _ hall, hlen⟩
theorem zf5 (l : OpenLaw) (args : List WData) : l.row.toRowW.claim.post args (.bool true) args = true :=
 postW_of (r := l.row.toRowW) (X := (true == true))
   (show WShape.has [] (.bool true) .bool = true by first | rfl | decide | simp [WShape.has, WShape.arms, WShape.armsAll])
   (show (WTm.eq .res (.lit (.bool true))).value [] { args := args, res := some (.bool true), after := args } = some (.bool (true == true)) from w_eq_bool (w_res rfl) w_lit) rfl
theorem ze8 {l : OpenLaw} {n : Nat} {q : Program} {loose : List Str} {XP : (Str → Option Value) → Heap → Prop} {YP : World → Heap → Prop} {d : DefRec}
   (hn : l.most = some n) (hdf : d.params.defaults = [])
   (call : ∀ (w : World) (s₀ s₁ : Shared) (mg mb : Str → Option Value) (fa : Addr) (o : Obj) (pm cd doc : Value) (a : Addr) (vs : List Value) (ns : List Int),
     Ground q loose [] XP w s₀ mg mb s₁.heap → YP w s₁.heap →
     s₁.heap.get? fa = some o → o.data = .func (docDef d.name d.params d.body d.scope pm cd doc) → s₁.heap.CodeRec cd d.name → mg d.name = some (.ref fa) →
     s₁.heap.get? a = some { cls := .type "list", data := .seq vs.toArray } → IntsAre vs ns → ns.length ≤ n → s₁.gens = #[] →
     codeAny (model l.prog w) callerA (.call (.ref fa) ⟨[.ref a], []⟩) (fun r s' => r = .ok (.ret (.bool true)) ∧ OldK s₁.heap s'.heap ∧ s'.os = s₁.os ∧ AllBare s'.gens) s₁) :
   WalkO q loose XP YP l.row.toRowW d [] (fun f vs => PySem.call f vs) := by
 intro w s₀ s₁ mg mb G Y fa o pm cd doc dV kV ho hd hcd hD hmg hg args vals as hpre hlay hrd hwl hlo
 obtain rfl : dV = .none := Dflts.none hD hdf
 obtain rfl : kV = .none := Dflts.noKw hD
 obtain ⟨a, vs, ns, rfl, rfl, hobj, hints, hlen⟩ := zf3 hn hpre hwl
 refine enter_call (codeAny_mono (call w s₀ s₁ mg mb fa o pm cd doc a vs ns G Y ho (fd_plain hd) hcd hmg hobj hints hlen hg) fun r s' hq => ?_)
 obtain ⟨rfl, h2, h3, h4⟩ := hq
 exact ⟨.inl ⟨.bool true, .bool true, [], rfl, fun _ => rfl, .bool true, zf5 l _, fun _ => ⟨List.Pairwise.nil, fun _ hm => (nomatch hm)⟩⟩, h2, h3, h4⟩
section
variable {prog : Program} {w : World} {A : Around} {E : Value → Shared → Prop} {s : Shared} {K : Frag}
end
end Att
namespace L2
open PySem PySem.Spec PyProof.Rows
theorem zeo : ∀ {vs : List Value} {ns : List Int}, IntsAre vs ns → Vals (ns.map V.int) vs
 | _, _, .nil => .nil
 | _, _, .cons n t h => .cons ⟨t, rfl⟩ (zeo h)
def Only (H : Hp) : Prop := ∀ b, H b = none ∨ ∃ o xs, H b = some (.frz o (.lst xs))
theorem zhB {P : Program} {w : World} {K : PySem.W.Frag} {mg mb : Str → Option Value} {CX : CXT} {k : Nat} {fa a : Addr} {fd : FuncData} {x : Str} {sp : Sp} {s₁ : Shared} {vs : List Value} {ns : List Int}
   (KX : K.In s₁.heap) (hns : s₁.heap.Ns mainGlobals mg) (hb : s₁.heap.Ns builtinsNs mb) (hbb : ∀ x : Str, x ≠ "__name__" → mb x = bootBuiltins x) (hlim : s₁.heap.NoLimit) (hg : s₁.gens = #[])
   (ha : s₁.heap.get? a = some { cls := .type "list", data := .seq vs.toArray }) (hi : IntsAre vs ns) (hl : ns.length ≤ sizeLine) (hr : Room k callerA)
   (F : ∀ base : Heap, K.In base → base.Ns mainGlobals mg → FnOk P w K mg base CX k fa fd [x] sp) (hbind : ∀ (s : Shared) (u : Value), BindsTo s fd ⟨[u], []⟩ [(x, u)])
   (hsp : ∀ H : Hp, Only H → SqL K H a (ns.map V.int) → sp [.ref a] H (fun v _ => v = .bl true) fun _ _ _ => False)
   (hCX : ∀ H e s', CX [] H s₁ (fun _ _ _ => False) e s' → False) :
   codeAny (model P w) callerA (.call (.ref fa) ⟨[.ref a], []⟩) (fun r s' => r = .ok (.ret (.bool true)) ∧ OldK s₁.heap s'.heap ∧ s'.os = s₁.os ∧ AllBare s'.gens) s₁ := by
 have rv := zeo hi
 have lenV := hi.length
 have core : ∀ H : Hp, Only H → SqL K H a (ns.map V.int) → HOk P w H s₁.heap → (∀ b, H b ≠ none → b = a) → (H a ≠ none → K.lookup a = none) →
     codeAny (model P w) callerA (.call (.ref fa) ⟨[.ref a], []⟩) (fun r s' => r = .ok (.ret (.bool true)) ∧ OldK s₁.heap s'.heap ∧ s'.os = s₁.os ∧ AllBare s'.gens) s₁ := by
   intro H hO hS hok hA hK
   have base_of : ∀ {b : Addr} {o : Obj}, s₁.heap.get? b = some o → H b = none → (hidT s₁.heap H).get? b = some o := fun e n => zhH e n
   have noA : ∀ {b : Addr} {o : Obj} {es : Array DictEntry} {ep : Nat}, s₁.heap.get? b = some o → o.data = .dict es ep → H b = none := fun {b o es ep} e d => by
     cases q : H b with
     | none => rfl
     | some u =>
       have e' : b = a := hA b (by rw [q]; simp)
       subst e'
       rw [ha] at e; cases e
       have d' : Data.seq vs.toArray _ = Data.dict es ep := d
       cases d'
   have nsK : ∀ {b : Addr} {m : Str → Option Value}, s₁.heap.Ns b m → (hidT s₁.heap H).Ns b m := fun {b m} ⟨o, es, ep, e, d, r⟩ => ⟨o, es, ep, base_of e (noA e d), d, r⟩
   have hKb : K.In (hidT s₁.heap H) := fun b o e => base_of (KX b o e) (by
     cases q : H b with
     | none => rfl
     | some u =>
       have e' : b = a := hA b (by rw [q]; simp)
       subst e'
       rw [hK (by rw [q]; simp)] at e; cases e)
   have hM : Mod K mg (hidT s₁.heap H) := ⟨hKb, nsK hns, ⟨mb, nsK hb, hbb⟩, let ⟨mc, h1, h2⟩ := hlim; ⟨mc, nsK h1, h2⟩⟩
   have e0 : Env0 P w K mg (hidT s₁.heap H) callerA [] s₁ H := ⟨rfl, hM, fun b o e => zi6 e, Nat.le_of_eq (zgx _ _), trivial, fun b hb => absurd (show b ∈ ([] : List Addr) from hb) (by simp), hok, .of_eq hg⟩
   refine codeAny_mono ((F _ hKb (nsK hns)).run callerA [] s₁ H ⟨[.ref a], []⟩ [.ref a] [.ref a] _ _ hr e0 (hbind s₁ (.ref a)) (.cons rfl .nil) (hsp H hO hS)) fun r s' h => ?_
   cases r with
   | error e => exact (hCX H e s' h).elim
   | ok fl =>
     cases fl with
     | next => exact False.elim h
     | brk => exact False.elim h
     | cont => exact False.elim h
     | ret u =>
       obtain ⟨v, H', os, bare, un, hok', r', q⟩ := h
       have q' : v = .bl true := q
       subst q'
       obtain rfl : u = Value.bool true := r'
       refine ⟨rfl, OldK.of_keep fun b o e => ?_, os, bare⟩
       cases q : H b with
       | none => exact un.keep b o e q (by intro z; exact absurd (show b ∈ ([] : List Addr) from z) (by simp)) (by simp)
       | some u =>
         rcases hO b with z | ⟨ob, xs, z⟩
         · rw [q] at z; cases z
         · have z2 := un.frzs b ob _ z
           obtain ⟨e1, _⟩ := hok b _ z
           obtain ⟨e2, _⟩ := hok' b _ z2
           rw [e] at e1; cases e1
           exact e2
 cases hk : K.lookup a with
 | some o =>
   have e := KX a o hk
   rw [ha] at e
   cases e
   refine core (fun _ => none) (fun _ => .inl rfl) (.inr ⟨_, vs.toArray, _, hk, rfl, rfl, rfl, by rw [List.size_toArray, lenV]; exact hl, by simpa using rv⟩) (fun b u z => by have z' : (none : Option HO) = some u := z; cases z') (fun b z => absurd rfl z) fun z => absurd rfl z
 | none =>
   refine core (fun b => if b = a then some (.frz { cls := .type "list", data := .seq vs.toArray } (.lst (ns.map V.int))) else none) (fun b => ?_) (.inl (.inr ⟨{ cls := .type "list", data := .seq vs.toArray }, if_pos rfl⟩)) (fun b u z => ?_) (fun b z => ?_) fun _ => hk
   · by_cases hb : b = a
     · exact .inr ⟨_, _, if_pos hb⟩
     · exact .inl (if_neg hb)
   · by_cases hb : b = a
     · have z' := (if_pos hb).symm.trans z
       cases z'
       subst hb
       exact ⟨ha, by rw [List.length_map]; exact hl, vs, _, rv, ha⟩
     · have z' := (if_neg hb).symm.trans z
       cases z'
   · by_cases hb : b = a
     · exact hb
     · exact absurd (if_neg hb) z
end L2
namespace L2
open PySem PySem.Spec PyProof.Rows
end L2
namespace L2
open PySem PySem.Spec PyProof.Rows
def defArgs (s : Stmt) : Arguments := match s with
 | .FunctionDef _ a _ _ _ _ _ _ _ _ => a
 | _ => { posonlyargs := [], args := [], vararg := none, kwonlyargs := [], kw_defaults := [], kwarg := none, defaults := [] }
def defBody (s : Stmt) : List Stmt := match s with
 | .FunctionDef _ _ b _ _ _ _ _ _ _ => b
 | _ => []
def defScope (s : Stmt) : Scope := match s with
 | .FunctionDef _ _ _ _ _ _ sc _ _ _ => sc
 | _ => { kind := .function, names := [], isGenerator := false, isCoroutine := false }
abbrev CX0 : CXT := fun _ _ _ _ _ _ => False
abbrev E0 : XK := fun _ _ _ => False
theorem pass0 {X : Cx} : Passes CX0 X E0 := fun _ _ _ _ _ _ _ h => h.elim
structure Fun (K : PySem.W.Frag) (x qual : Str) (st : Stmt) (f : Addr) (fd : FuncData) : Prop where
 ex : ∃ (oc : Value) (od : Option Addr) (kV doc pm : Value) (an : Option Addr) (cdv ct : Value) (osl : Array (Option Value)),
   fd = PySem.W.fnOf x qual (defArgs st) (defBody st) (defScope st) .none kV doc pm an cdv ct ∧ K.lookup f = some ⟨oc, od, .func fd, osl⟩ ∧ PySem.W.codeIn K cdv qual = true
 kp : PySem.W.keepIn K (.ref f) = true
section
variable {P : Program} {w : World} {K : PySem.W.Frag} {mg : Str → Option Value} {base : Heap}
theorem Fun.ok {x qual : Str} {st : Stmt} {f : Addr} {fd : FuncData} {N ps : List Str} {k : Nat} {sp : Sp} (F : Fun K x qual st f fd) (S : FnScope N ps (defScope st)) (len : ∀ vs H Q E, sp vs H Q E → vs.length = ps.length)
   (hbody : ∀ (cdv : Value) (A : Around) (outer : List Env) (s : Shared) (H : Hp) (vs : List V) (Q : VK) (E : XK), Room k (A.deeper (envOfC qual (defScope st) s.heap.objs.size f cdv)) → sp vs H Q E →
     ∃ t, PSs (cxOf CX0 P w K mg base N qual (defScope st) f cdv A outer s H E).nox (defBody st) t ∧ t { nx := fun _ H' => Q .non H', rt := Q } (start N vs) H) : FnOk P w K mg base CX0 (k + 1) f fd ps sp := by
 obtain ⟨oc, od, kV, doc, pm, an, cdv, ct, osl, rfl, lk, hcd⟩ := F.ex
 refine zlM lk hcd S len fun A outer s H vs Q E hr hsp => ?_
 obtain ⟨t, h, q⟩ := hbody cdv A outer s H vs Q E hr hsp
 exact ⟨t, h.nox, q⟩
theorem Fun.binds {x qual : Str} {st : Stmt} {f : Addr} {fd : FuncData} {ps : List Str} (F : Fun K x qual st f fd)
   (h : ∀ (kV doc pm : Value) (an : Option Addr) (cdv ct : Value) (us : List Value), us.length = ps.length → bindArgs (PySem.W.fnOf x qual (defArgs st) (defBody st) (defScope st) .none kV doc pm an cdv ct) ⟨us, []⟩ = pure (ps.zip us)) : Binds K fd ps [] := by
 obtain ⟨oc, od, kV, doc, pm, an, cdv, ct, osl, rfl, lk, hcd⟩ := F.ex
 exact .all (h kV doc pm an cdv ct)
theorem zkZ {x qual : Str} {st : Stmt} {f : Addr} {oc : Value} {od an : Option Addr} {osl : Array (Option Value)} {kV doc pm cdv ct : Value} (l : K.lookup f = some ⟨oc, od, .func (PySem.W.fnOf x qual (defArgs st) (defBody st) (defScope st) .none kV doc pm an cdv ct), osl⟩)
   (c : PySem.W.codeIn K cdv qual = true) (k : PySem.W.keepIn K (.ref f) = true) : Fun K x qual st f (PySem.W.fnOf x qual (defArgs st) (defBody st) (defScope st) .none kV doc pm an cdv ct) := ⟨⟨oc, od, kV, doc, pm, an, cdv, ct, osl, rfl, l, c⟩, k⟩
end
section
variable {X : Cx}
end
def Same (H H' : Hp) : Prop := ∀ b o, H b = some o → H' b = some o
theorem Same.refl (H : Hp) : Same H H := fun _ _ h => h
theorem Same.seq {K : PySem.W.Frag} {H H' : Hp} {a : Addr} {xs : List V} (e : Same H H') (h : SqL K H a xs) : SqL K H' a xs := by
 rcases h with (h | ⟨o, h⟩) | h
 · exact .inl (.inl (e _ _ h))
 · exact .inl (.inr ⟨o, e _ _ h⟩)
 · exact .inr h
end L2
end
section
set_option autoImplicit false
namespace PySem
open Sem (wp)
section
variable {prog : Program} {w : World} {K : Type} [DecidableEq K] (knd : KeyKind prog w K)
inductive NItems (h : Heap) : List (List K) → List Value → Prop
 | nil : NItems h [] []
 | cons {k : List K} {b : Addr} {ks : List (List K)} {vs : List Value} : IsTupleKey knd h k b → NItems h ks vs → NItems h (k :: ks) (.ref b :: vs)
def IsNestKey (h : Heap) (ks : List (List K)) (a : Addr) : Prop := ∃ o items n, h.get? a = some o ∧ o.cls = .type "tuple" ∧ o.data = .seq items n ∧ NItems knd h ks items.toList
variable {knd}
theorem NItems.inj {h : Heap} {x y : List (List K)} {vs : List Value} (hx : NItems knd h x vs) (hy : NItems knd h y vs) : x = y := by
 induction hx generalizing y with
 | nil => cases hy; rfl
 | cons h1 _ ih =>
   cases hy with
   | cons h2 t2 => rw [h1.inj h2, ih t2]
theorem IsNestKey.typeIs {s : Shared} {ks : List (List K)} {a : Addr} (x : IsNestKey knd s.heap ks a) : s.TypeIs (.ref a) "tuple" := let ⟨o, _, _, ho, hc, _⟩ := x; ⟨o, ho, hc⟩
theorem IsNestKey.inj {h : Heap} {a : Addr} {x y : List (List K)} (hx : IsNestKey knd h x a) (hy : IsNestKey knd h y a) : x = y := by
 obtain ⟨o, items, n, ho, _, hd, hi⟩ := hx
 obtain ⟨o', items', n', ho', _, hd', hi'⟩ := hy
 obtain rfl : o = o' := Option.some.inj (ho.symm.trans ho')
 rw [hd] at hd'
 injection hd' with h1 _
 subst h1
 exact hi.inj hi'
theorem NItems.keeps {h h' : Heap} {d : Addr} {o : Obj} {es ep} (ho : h.get? d = some o) (hd : o.data = .dict es ep) (hs : Heap.SameBut d h h') {ks : List (List K)} {vs : List Value} (x : NItems knd h ks vs) : NItems knd h' ks vs := by
 induction x with
 | nil => exact .nil
 | cons h1 _ ih => exact .cons (h1.keeps ho hd hs) ih
theorem IsNestKey.keeps {h h' : Heap} {ks : List (List K)} {a d : Addr} {o : Obj} {es ep} (x : IsNestKey knd h ks a) (ho : h.get? d = some o) (hd : o.data = .dict es ep) (hs : Heap.SameBut d h h') : IsNestKey knd h' ks a := by
 obtain ⟨o', items, n, ho', hc, hd', hi⟩ := x
 have hne : a ≠ d := by
   rintro rfl
   obtain rfl : o' = o := Option.some.inj (ho'.symm.trans ho)
   rw [hd] at hd'; exact nomatch hd'
 exact ⟨o', items, n, (hs.2 a hne).trans ho', hc, hd', hi.keeps ho hd hs⟩
def nestDraws (ks : List (List K)) : Nat := (ks.map fun k => k.length + 1).sum
def nestHash (knd : KeyKind prog w K) (ks : List (List K)) : Int := reduceHash (Builtin.Tuple.tupleHashOf (ks.map (tupleKeyHash knd)))
variable {A : Around} {E : Value → Shared → Prop} {s : Shared}
theorem zc6 {ks : List (List K)} {a : Addr} {Q : Int → Shared → Prop} (hu : A.units + 1 < cLine) (hk : IsNestKey knd s.heap ks a) (h : Q (nestHash knd ks) { s with toks := s.toks + (nestDraws ks + 1) }) :
   wpAny (model prog w) A (pyHash (.ref a)) Q E s := by
 have hT := hk.typeIs
 obtain ⟨o, items, n, ho, _, hd, hi⟩ := hk
 unfold pyHash
 first | unfold pyHashByItsType | skip
 first | refine wpAny_bind (wpAny_cRoomFor_or (.inr (Nat.lt_of_le_of_lt (Nat.le_succ _) hu)) ?_) | skip
 refine wpAny_bind (wpAny_specialOf hT F.slot_tuple_hash.lookup ?_)
 show wpAny _ _ (if (some (Value.builtin "tuple.__hash__") == some Value.none) = true then _ else _) Q E s
 rw [if_neg (by rw [beq_builtin_none]; exact Bool.false_ne_true)]
 refine wpAny_bind (wpAny_specialOf hT F.slot_tuple_hash.lookup ?_)
 show wpAny _ _ (callSpecialIfBoundUnlessNone? (.ref a) "__hash__" _ >>= _) Q E s
 refine wpAny_bind (wpAny_callSpecialIfBoundUnlessNone?_slot hT F.slot_tuple_hash (wpAny_call_entry F.slot_tuple_hash hT F.entry_tuple_hash ?_ (F.args_tuple_hash_1 _)))
 show wpAny _ _ (Builtin.Tuple.tupleItemsOf (.ref a) >>= _) _ _ s
 refine wpAny_bind (wpAny_tupleItemsOf ho hd ?_)
 refine wpAny_bind ?_
 rw [← Array.forIn_toList]
 refine wpAny_forIn_list _
   (fun rest (b : Array Int) s' => ∃ done left, ks = done ++ left ∧ NItems knd s.heap left rest ∧ b.toList = done.map (tupleKeyHash knd) ∧ s' = { s with toks := s.toks + nestDraws done })
   _ ?_ ?_ _ _ ⟨[], ks, rfl, hi, rfl, rfl⟩
 · rintro x rest b s' ⟨done, left, rfl, hl, hb, rfl⟩
   cases hl with
   | @cons k b' ks' _ h1 hl' =>
     have hd2 : nestDraws (done ++ [k]) = nestDraws done + (k.length + 1) := by simp [nestDraws]
     refine wpAny_bind (wpAny_pyHash_tuple (s := { s with toks := s.toks + nestDraws done }) ?_ h1 ?_)
     · exact hu
     first
       | exact wpAny_pure ⟨done ++ [k], ks', by simp, hl', by simp [hb], by rw [hd2]; simp [Nat.add_assoc]⟩
       | exact wpAny_bind (wpAny_pure (wpAny_pure ⟨done ++ [k], ks', by simp, hl', by simp [hb], by rw [hd2]; simp [Nat.add_assoc]⟩))
 · rintro b s' ⟨done, left, rfl, hl, hb, rfl⟩
   cases hl
   rw [List.append_nil] at h
   show wpAny _ _ (retInt (Builtin.Tuple.tupleHashOf b.toList)) _ _ _
   rw [hb]
   refine wpAny_ret_mkInt ?_
   show wpAny _ _ (if (decide (-(2 : Int) ^ 63 ≤ Builtin.Tuple.tupleHashOf (done.map (tupleKeyHash knd))) && decide (Builtin.Tuple.tupleHashOf (done.map (tupleKeyHash knd)) < 2 ^ 63)) = true then _ else _) Q E _
   unfold nestHash reduceHash at h
   by_cases hr : (decide (-(2 : Int) ^ 63 ≤ Builtin.Tuple.tupleHashOf (done.map (tupleKeyHash knd))) && decide (Builtin.Tuple.tupleHashOf (done.map (tupleKeyHash knd)) < 2 ^ 63)) = true
   · rw [if_pos hr]
     rw [if_pos hr] at h
     exact wpAny_pure (by simpa [Nat.add_assoc] using h)
   · rw [if_neg hr]
     rw [if_neg hr] at h
     exact wpAny_bind (wpAny_rule (wpAny_pure (by simpa [Nat.add_assoc] using h)))
theorem zeu {x y : List (List K)} {a b : Addr} {P : Fin → Shared → Prop} (hu : A.units < cLine) (hx : IsNestKey knd s.heap x a) (hy : IsNestKey knd s.heap y b) (h : P (.done (.ret (.bool (decide (x = y))))) s) :
   wpAny (model prog w) A (Builtin.«tuple.__eq__» ⟨[.ref a, .ref b], []⟩) P E s := by
 have hTb := hy.typeIs
 obtain ⟨oa, xs, na, hoa, _, hda, hia⟩ := hx
 obtain ⟨ob, ys, nb, hob, _, hdb, hib⟩ := hy
 show wpAny _ _ (isInstance (.ref b) (.type "tuple") >>= _) _ _ s
 refine wpAny_bind (wpAny_isInstance hTb isSubtype_tuple_tuple ?_)
 simp only [Bool.not_true, Bool.false_eq_true, if_false]
 refine wpAny_bind (wpAny_tupleItemsOf hoa hda ?_)
 refine wpAny_bind (wpAny_tupleItemsOf hob hdb ?_)
 refine wpAny_bind ?_
 refine wpAny_forIn_list _
   (fun rest r s' => r.1 = none ∧ s' = s ∧ ∃ x' y' xs' ys', rest = List.zip xs' ys' ∧ NItems knd s.heap x' xs' ∧ NItems knd s.heap y' ys' ∧ decide (x' = y') = decide (x = y) ∧ (xs'.length == ys'.length) = (xs.size == ys.size))
   _ ?_ ?_ _ _ ⟨rfl, rfl, x, y, xs.toList, ys.toList, rfl, hia, hib, rfl, by simp⟩
 · rintro ⟨u, v⟩ rest r s' ⟨hr, rfl, x', y', xs', ys', hz, hx', hy', hdec, hlen⟩
   cases hx' with
   | nil => simp at hz
   | @cons k1 u' x'' xs'' h1 hx'' =>
     cases hy' with
     | nil => simp at hz
     | @cons k2 v' y'' ys'' h2 hy'' =>
       simp only [List.zip_cons_cons, List.cons.injEq, Prod.mk.injEq] at hz
       obtain ⟨⟨rfl, rfl⟩, rfl⟩ := hz
       refine wpAny_bind (wpAny_eqBool_tuple (x := k1) (y := k2) hu h1 h2 ?_)
       by_cases hk : k1 = k2
       · subst hk
         rw [decide_eq_true rfl]
         simp only [Bool.not_true, Bool.false_eq_true, if_false]
         refine wpAny_pure ⟨rfl, rfl, x'', y'', xs'', ys'', rfl, hx'', hy'', ?_, by simpa using hlen⟩
         rw [← hdec]
         by_cases hxy : x'' = y''
         · simp [hxy]
         · simp [hxy]
       · rw [decide_eq_false hk]
         simp only [Bool.not_false, if_true]
         have hf : decide (x = y) = false := by rw [← hdec]; simp [hk]
         rw [hf] at h
         exact wpAny_bind (wpAny_pure (wpAny_pure (wpAny_pure h)))
 · rintro ⟨r1, r2⟩ s' ⟨hr, rfl, x', y', xs', ys', hz, hx', hy', hdec, hlen⟩
   simp only at hr
   subst hr
   refine wpAny_pure ?_
   have hfin : (xs.size == ys.size) = decide (x = y) := by
     rw [← hdec, ← hlen]
     cases hx' with
     | nil =>
       cases hy' with
       | nil => simp
       | cons _ _ => simp
     | cons _ _ =>
       cases hy' with
       | nil => simp
       | cons _ _ => simp at hz
   show P (.done (.ret (.bool (xs.size == ys.size)))) s'
   rw [hfin]; exact h
theorem zbT {x y : List (List K)} {a b : Addr} {Q : Bool → Shared → Prop} (hu : A.units + 2 < cLine) (hx : IsNestKey knd s.heap x a) (hy : IsNestKey knd s.heap y b) (h : Q (decide (x = y)) s) :
   wpAny (model prog w) A (eqBool (.ref a) (.ref b)) Q E s := by
 unfold eqBool
 try with_reducible refine wpAny_holding ?_
 show wpAny _ _ (if (Value.ref a == Value.ref b) = true then _ else _) Q E s
 by_cases hab : (Value.ref a == Value.ref b) = true
 · rw [if_pos hab]
   have e : a = b := by have := eq_of_beq hab; injection this
   subst e
   obtain rfl := hx.inj hy
   exact wpAny_bind (wpAny_rule (wpAny_pure (by simpa using h)))
 · rw [if_neg hab]
   refine wpAny_bind (wpAny_richCompare_same_room (op := .Eq) hx.typeIs hy.typeIs F.slot_tuple_eq
     (wpAny_call_entry F.slot_tuple_eq hx.typeIs F.entry_tuple_eq (zeu ?_ hx hy ⟨_, rfl, (fun e => nomatch e), wpAny_truthy_bool h⟩) (F.args_tuple_eq_2 _ _)) (Nat.lt_of_le_of_lt (Nat.le_add_right _ 2) hu))
   show A.units + 1 < cLine
   omega
theorem zeX (n : Nat) {ks : List K} {a : Addr} {Q : Bool → Shared → Prop} (hk : IsTupleKey knd s.heap ks a) (h : Q true s) : wpAny (model prog w) A (eqIsQuiet (n + 1) (.ref a)) Q E s := by
 have hT := hk.typeIs
 obtain ⟨o, items, m, ho, _, hd, hi⟩ := hk
 unfold eqIsQuiet
 refine wpAny_bind (wpAny_specialOf hT F.slot_tuple_eq.lookup ?_)
 show wpAny _ _ (isInstance (.ref a) (.type "tuple") >>= _) _ _ s
 refine wpAny_bind (wpAny_isInstance hT isSubtype_tuple_tuple ?_)
 simp only [Bool.not_true, Bool.false_eq_true, if_false]
 refine wpAny_bind (wpAny_seqItems ho hd ?_)
 refine wpAny_bind ?_
 show wpAny _ _ (forIn items _ _) _ _ s
 rw [← Array.forIn_toList]
 refine wpAny_forIn_list _ (fun rest r s' => r.1 = none ∧ s' = s ∧ ∀ v ∈ rest, carriedByValue v = true) _ ?_ ?_ _ _ ⟨rfl, rfl, hi.byValue⟩
 · rintro v rest r s' ⟨hr, rfl, hall⟩
   rw [eqIsQuiet_byValue _ (hall v List.mem_cons_self)]
   refine wpAny_bind (wpAny_pure ?_)
   simp only [Bool.not_true, Bool.false_eq_true, if_false]
   exact wpAny_pure ⟨rfl, rfl, fun u hu' => hall u (List.mem_cons_of_mem _ hu')⟩
 · rintro ⟨r1, r2⟩ s' ⟨hr, rfl, _⟩
   simp only at hr
   subst hr
   exact wpAny_pure h
theorem zcB {ks : List (List K)} {a : Addr} {Q : Bool → Shared → Prop} (hk : IsNestKey knd s.heap ks a) (h : Q true s) : wpAny (model prog w) A (eqIsQuiet 8 (.ref a)) Q E s := by
 have hT := hk.typeIs
 obtain ⟨o, items, m, ho, _, hd, hi⟩ := hk
 unfold eqIsQuiet
 refine wpAny_bind (wpAny_specialOf hT F.slot_tuple_eq.lookup ?_)
 show wpAny _ _ (isInstance (.ref a) (.type "tuple") >>= _) _ _ s
 refine wpAny_bind (wpAny_isInstance hT isSubtype_tuple_tuple ?_)
 simp only [Bool.not_true, Bool.false_eq_true, if_false]
 refine wpAny_bind (wpAny_seqItems ho hd ?_)
 refine wpAny_bind ?_
 show wpAny _ _ (forIn items _ _) _ _ s
 rw [← Array.forIn_toList]
 refine wpAny_forIn_list _ (fun rest r s' => r.1 = none ∧ s' = s ∧ ∃ left, NItems knd s.heap left rest) _ ?_ ?_ _ _ ⟨rfl, rfl, ks, hi⟩
 · rintro v rest r s' ⟨hr, rfl, left, hl⟩
   cases hl with
   | cons h1 hl' =>
     refine wpAny_bind (zeX 6 h1 ?_)
     simp only [Bool.not_true, Bool.false_eq_true, if_false]
     exact wpAny_pure ⟨rfl, rfl, _, hl'⟩
 · rintro ⟨r1, r2⟩ s' ⟨hr, rfl, _⟩
   simp only at hr
   subst hr
   exact wpAny_pure h
end
def nestKind {prog : Program} {w : World} {K : Type} [DecidableEq K] (knd : KeyKind prog w K) : HeapKind prog w (List (List K)) where
 is := IsNestKey knd
 hash := nestHash knd
 draws := fun ks => nestDraws ks + 1
 room := fun A => A.units + 2 < cLine
 inj := fun hx hy => hx.inj hy
 keeps := fun x ho hd hs => x.keeps ho hd hs
 pyHash := fun hu hk h => zc6 (Nat.lt_of_le_of_lt (Nat.le_succ _) hu) hk h
 eqBool := fun hu hx hy h => zbT hu hx hy h
 quiet := fun hk h => zcB hk h
end PySem
end
section
set_option autoImplicit false
namespace MX
open PySem PySem.Spec PyProof.Rows L2
abbrev NK := List (List Int)
def hashN (k : NK) : Int := reduceHash (Builtin.Tuple.tupleHashOf (k.map fun ks => reduceHash (Builtin.Tuple.tupleHashOf (ks.map hashInt))))
def entN (x : NK × Addr × Value) : DictEntry := ⟨hashN x.1, .ref x.2.1, x.2.2⟩
def IsDc (h : Heap) (d : Addr) (xs : List (NK × Addr × Value)) : Prop := ∃ o es, h.get? d = some o ∧ o.ExactDict ∧ o.data = .dict es xs.length ∧ es.toList = xs.map entN ∧ (xs.map (·.1)).Nodup
def dctO (a : Addr) (xs : List (NK × Addr × Value)) : HO := .ext fun h => (a == sysModules) = false ∧ xs.length ≤ sizeLine ∧ IsDc h a xs
def NKey (K : PySem.W.Frag) (H : Hp) (k : NK) (b : Addr) : Prop := ∃ bs : List Addr, SqT K H b (bs.map V.ref) ∧ Paired (fun (ks : List Int) (c : Addr) => SqT K H c (ks.map V.int)) k bs
theorem NKey.mono {K : PySem.W.Frag} {H H' : Hp} {k : NK} {b : Addr} (t : ∀ a vs, SqT K H a vs → SqT K H' a vs) (h : NKey K H k b) : NKey K H' k b := by
 obtain ⟨bs, h1, h2⟩ := h
 refine ⟨bs, t _ _ h1, ?_⟩
 clear h1
 induction h2 with
 | nil => exact .nil
 | cons hc _ ih => exact .cons (t _ _ hc) ih
inductive DR (K : PySem.W.Frag) (H : Hp) : List (NK × Int) → List (NK × Addr × Value) → Prop
 | nil : DR K H [] []
 | cons {k : NK} {i : Int} {b : Addr} {t : Tok} {xs : List (NK × Int)} {ys : List (NK × Addr × Value)} : NKey K H k b → DR K H xs ys → DR K H ((k, i) :: xs) ((k, b, .int i t) :: ys)
def getO (xs : List (NK × Int)) (k : NK) : Option Int := (xs.find? fun x => decide (x.1 = k)).map (·.2)
def putN (xs : List (NK × Int)) (k : NK) (i : Int) : List (NK × Int) := if (getO xs k).isSome then xs.map (fun x => if x.1 = k then (x.1, i) else x) else xs ++ [(k, i)]
section
variable {K : PySem.W.Frag} {H H' : Hp} {xs : List (NK × Int)} {ys : List (NK × Addr × Value)}
theorem DR.mono (t : ∀ a vs, SqT K H a vs → SqT K H' a vs) (h : DR K H xs ys) : DR K H' xs ys := by
 induction h with
 | nil => exact .nil
 | cons hc _ ih => exact .cons (hc.mono t) ih
theorem DR.length (h : DR K H xs ys) : xs.length = ys.length := by
 induction h with
 | nil => rfl
 | cons _ _ ih => simp [ih]
theorem DR.keys (h : DR K H xs ys) : ∀ y ∈ ys, NKey K H y.1 y.2.1 := by
 induction h with
 | nil => intro y hy; cases hy
 | cons hc _ ih =>
   intro y hy
   rcases List.mem_cons.mp hy with rfl | hy
   · exact hc
   · exact ih y hy
theorem DR.get (h : DR K H xs ys) : ∀ {i : Nat} {x : NK × Int}, xs[i]? = some x → ∃ b t, ys[i]? = some (x.1, b, .int x.2 t) ∧ NKey K H x.1 b := by
 induction h with
 | nil => intro i x e; simp at e
 | @cons k j b t xs ys hc _ ih =>
   intro i x e
   cases i with
   | zero =>
     simp only [List.getElem?_cons_zero, Option.some.injEq] at e
     subst e
     exact ⟨b, t, rfl, hc⟩
   | succ n => exact ih (by simpa using e)
theorem DR.at (h : DR K H xs ys) (k : NK) : (atKey ys k = none ∧ getO xs k = none) ∨ ∃ b i t, atKey ys k = some (b, .int i t) ∧ getO xs k = some i := by
 induction h with
 | nil => exact .inl ⟨rfl, rfl⟩
 | @cons k' j b t xs ys hc _ ih =>
   by_cases hk : k' = k
   · exact .inr ⟨b, j, t, by simp [atKey, hk], by simp [getO, hk]⟩
   · have e1 : atKey ((k', b, Value.int j t) :: ys) k = atKey ys k := by simp [atKey, hk]
     have e2 : getO ((k', j) :: xs) k = getO xs k := by simp [getO, hk]
     rw [e1, e2]; exact ih
theorem DR.snoc (h : DR K H xs ys) {k : NK} {b : Addr} {i : Int} {t : Tok} (hb : NKey K H k b) : DR K H (xs ++ [(k, i)]) (ys ++ [(k, b, .int i t)]) := by
 induction h with
 | nil => exact .cons hb .nil
 | cons hc _ ih => exact .cons hc ih
theorem DR.over (h : DR K H xs ys) {k : NK} {i : Int} {t : Tok} : DR K H (xs.map (fun x => if x.1 = k then (x.1, i) else x)) (ys.map (putAt k (.int i t))) := by
 induction h with
 | nil => exact .nil
 | @cons k' j b t' xs ys hc _ ih =>
   by_cases hk : k' = k
   · simp only [List.map_cons, putAt, hk, if_true]; exact .cons (hk ▸ hc) ih
   · simp only [List.map_cons, putAt, hk, if_false]; exact .cons hc ih
theorem DR.put (h : DR K H xs ys) {k : NK} {b : Addr} {i : Int} {t : Tok} (hb : NKey K H k b) : DR K H (putN xs k i) (storedH ys k b (.int i t)) := by
 unfold putN storedH
 rcases h.at k with ⟨e1, e2⟩ | ⟨b', j, t', e1, e2⟩
 · rw [e1, e2]; exact h.snoc hb
 · rw [e1, e2]; exact h.over
end
section
variable {X : Cx} {pins : List (Addr × Obj)} {σ : L2.St} {H : Hp} {s : Shared}
theorem zln (I : Inv X pins σ H s) : sysModules < s.heap.objs.size := by
 have h : mainGlobals < s.heap.objs.size := (I.mod.glob.keeps I.bk).lt
 exact Nat.lt_trans (by decide) h
theorem zdt (I : Inv X pins σ H s) {b : Addr} {xs : List V} (h : SqT X.K H b xs) : ∃ o items n, s.heap.get? b = some o ∧ o.cls = .type "tuple" ∧ o.data = .seq items n ∧ Vals xs items.toList := by
 rcases h with h | ⟨o, its, n, h1, h2, h3, _, h5⟩
 · obtain ⟨_, its, r, o, h1, h2, n, h3⟩ := (show ObjOk X.prog X.w H s.heap b (.tup xs) from h.ok I.hok)
   exact ⟨o, its.toArray, n, h1, h2, h3, by simpa using r⟩
 · exact ⟨o, its, n, I.kIn _ _ h1, h2, h3, h5⟩
theorem zda {P : Program} {w : World} : ∀ {ks : List Int} {us : List Value}, Vals (ks.map V.int) us → ItemsAre (intKind P w) ks us
 | [], _, .nil => .nil
 | k :: ks, _, .cons h t => by
   obtain ⟨tk, rfl⟩ := h
   exact .cons (by show Value.isInt k (.int k tk) = true; simp [Value.isInt]) (zda t)
theorem zcR : ∀ {bs : List Addr} {us : List Value}, Vals (bs.map V.ref) us → us = bs.map Value.ref
 | [], _, .nil => rfl
 | b :: bs, _, .cons h t => by
   have e : _ = Value.ref b := h
   rw [List.map_cons, ← zcR t, e]
theorem zef (I : Inv X pins σ H s) {k : NK} {b : Addr} (h : NKey X.K H k b) : (nestKind (intKind X.prog X.w)).is s.heap k b := by
 obtain ⟨bs, h1, h2⟩ := h
 obtain ⟨o, items, n, e1, e2, e3, e4⟩ := zdt I h1
 refine ⟨o, items, n, e1, e2, e3, ?_⟩
 rw [zcR e4]
 clear e4 h1
 induction h2 with
 | nil => exact .nil
 | cons hc _ ih =>
   obtain ⟨o', items', n', f1, f2, f3, f4⟩ := zdt I hc
   exact .cons ⟨o', items', n', f1, f2, f3, zda f4⟩ ih
theorem zca (I : Inv X pins σ H s) {a : Addr} {xs : List (NK × Addr × Value)} (e : H a = some (dctO a xs)) : (a == sysModules) = false ∧ xs.length ≤ sizeLine ∧ IsDc s.heap a xs :=
 (show ObjOk X.prog X.w H s.heap a (dctO a xs) from I.hok a _ e).1
theorem zld (I : Inv X pins σ H s) {a : Addr} {xs : List (NK × Addr × Value)} (e : H a = some (dctO a xs)) (hk : ∀ x ∈ xs, NKey X.K H x.1 x.2.1) : s.heap.DictOfH (nestKind (intKind X.prog X.w)) a xs := by
 obtain ⟨_, _, o, es, h1, h2, h3, h4, h5⟩ := zca I e
 exact ⟨o, es, _, h1, h2, h3, h4, fun x hx => zef I (hk x hx), h5⟩
theorem zgO {P : Program} {w : World} {H : Hp} {h : Heap} {a : Addr} {xs : List (NK × Addr × Value)} (h0 : (a == sysModules) = false) (hl : xs.length ≤ sizeLine) (hd : IsDc h a xs) : ObjOk P w H h a (dctO a xs) :=
 ⟨⟨h0, hl, hd⟩, let ⟨o, _, h1, _⟩ := hd; ⟨o, h1⟩, fun g1 g2 ⟨k0, kl, o', es', k1, k2⟩ kk => ⟨k0, kl, o', es', kk _ k1, k2⟩⟩
theorem zhq {pos : Pos} : PE X (.Dict [] [] pos) (fun _ H Q => ∀ p, H p = none → Q (.ref p) (upd H p (dctO p []))) := fun pins s σ H Q I h =>
 wpAny_Dict_empty ⟨.ref s.heap.objs.size, _, I.laid (a := s.heap.objs.size) (o := dctO s.heap.objs.size []) (t' := s.toks) (fun _ _ q => Heap.get?_push_of_some _ q) (Nat.le_refl _)
   (zgO (beq_eq_false_iff_ne.mpr (Ne.symm (Nat.ne_of_lt (zln I)))) (Nat.zero_le _) ⟨_, _, Heap.get?_push_size _ rfl, ⟨rfl, rfl, rfl⟩, rfl, rfl, List.nodup_nil⟩), rfl, h _ (I.hok.fresh (Nat.le_refl _))⟩
theorem zlf {A : Around} {E : Value → Shared → Prop} {Q : Value → Shared → Prop} {a b : Addr} {k : NK} {xs : List (NK × Addr × Value)} {r : Value} (hu : A.units + 3 < cLine) (I : Inv X pins σ H s) (e : H a = some (dctO a xs)) (hk : ∀ x ∈ xs, NKey X.K H x.1 x.2.1) (hb : NKey X.K H k b)
   (h : ∀ s', Inv X pins σ H s' → Q (((atKey xs k).map (·.2)).getD r) s') : wpAny (model X.prog X.w) A (call (.builtin "dict.get") [.ref a, .ref b, r]) Q E s := by
 have h0 := (zca I e).1
 have dd := zld I e hk
 exact call_meetsIn PySem.F.slot_dict_get dd.typeIs PySem.F.entry_dict_get (PySem.F.args_dict_get_3 _ _ _) (meetsH_dict_get_default (nestKind (intKind X.prog X.w)) a b h0 r) ⟨hu, k, xs, zef I hb, dd, h _ (I.tok _)⟩
end
theorem zhQ {prog : Program} {w : World} {A : Around} {E : Value → Shared → Prop} {s : Shared} {d b : Addr} {xs : List (NK × Addr × Value)} {k : NK} {v : Value} {Q : Unit → Shared → Prop} (hu : (nestKind (intKind prog w)).room A)
   (kb : (nestKind (intKind prog w)).is s.heap k b) (hd : IsDc s.heap d xs) (gk : ∀ x ∈ xs, (nestKind (intKind prog w)).is s.heap x.1 x.2.1) (gz : xs.length < sizeLine)
   (q : ∀ h' t, IsDc h' d (storedH xs k b v) → Heap.SameBut d s.heap h' → Q () { s with heap := h', toks := t }) : wpAny (model prog w) A (dictSet d (.ref b) v) Q E s := by
 obtain ⟨o, es, g1, g2, g3, g4, g5⟩ := hd
 have es' : es.size = xs.length := by rw [← Array.length_toList, g4, List.length_map]
 unfold dictSet
 refine wpAny_holding ?_
 refine wpAny_bind ((nestKind (intKind prog w)).pyHash hu kb ?_)
 unfold dictSetHashed
 refine wpAny_holding ?_
 generalize hs1 : s.toks + (nestKind (intKind prog w)).draws k = t1
 refine wpAny_bind (wpAny_dictFind_heap (knd := nestKind (intKind prog w)) (s := { s with toks := t1 }) hu kb g1 g3 g4 gk g5 (fun no => ?_) (fun j p at' => ?_))
 · have e0 : atKey xs k = none := atKey_none_of_get no
   refine wpAny_bind (wpAny_rule (wpAny_updateDictKeys (hz := by omega) (s := { s with toks := t1 }) g1 g3 (q _ t1 ?_ (Heap.SameBut.update ..))))
   rw [storedH_new e0]
   refine ⟨_, es.push ⟨hashN k, .ref b, v⟩, Heap.get?_update_self _ g1 (Obj.isFreed_of_dict (Obj.data_mapDictKeys g3 _)), g2.mapDictKeys _, ?_, ?_, ?_⟩
   · rw [List.length_append]; exact Obj.data_mapDictKeys g3 _
   · rw [Array.toList_push, g4, List.map_append]; rfl
   · rw [List.map_append, List.nodup_append]
     refine ⟨g5, by simp, fun x hx y hy z => ?_⟩
     have : y = k := by simpa using hy
     exact not_mem_keys_of_get no (this ▸ z ▸ hx)
 · have e1 : atKey xs k = some p := atKey_of_get g5 at'
   refine wpAny_bind (wpAny_rule (wpAny_bind (wpAny_updateDict (s := { s with toks := t1 }) g1 g3 (wpAny_point (q _ t1 ?_ (Heap.SameBut.update ..))))))
   rw [storedH_old e1]
   refine ⟨_, es.modify j fun e => { e with val := v }, Heap.get?_update_self _ g1 (Obj.isFreed_of_dict (Obj.data_mapDict g3 _)), g2.mapDict _, ?_, ?_, ?_⟩
   · rw [List.length_map]; exact Obj.data_mapDict g3 _
   · have m := modify_map_putAt entN (fun e : DictEntry => { e with val := v }) k v (fun _ _ => rfl) g5 at'
     rw [← g4] at m
     obtain ⟨l⟩ := es
     simpa using m
   · rw [keys_map_putAt]; exact g5
section
variable {X : Cx} {pins : List (Addr × Obj)} {σ : L2.St} {H : Hp} {s : Shared}
theorem zle {A : Around} {E : Value → Shared → Prop} {Q : Unit → Shared → Prop} {a b : Addr} {k : NK} {xs : List (NK × Addr × Value)} {r : Value} (hu : A.units + 3 < cLine) (I : Inv X pins σ H s) (e : H a = some (dctO a xs)) (hk : ∀ x ∈ xs, NKey X.K H x.1 x.2.1) (hb : NKey X.K H k b) (hl : xs.length < sizeLine)
   (h : ∀ s', Inv X pins σ (upd H a (dctO a (storedH xs k b r))) s' → Q () s') : wpAny (model X.prog X.w) A (setItem (.ref a) (.ref b) r) Q E s := by
 obtain ⟨h0, hl0, hd⟩ := zca I e
 have tI : s.TypeIs (.ref a) "dict" := let ⟨o, _, g1, g2, _⟩ := hd; ⟨o, g1, g2.1⟩
 have hlen : (storedH xs k b r).length ≤ sizeLine := by
   unfold storedH
   split
   · rw [List.length_map]; exact hl0
   · rw [List.length_append]; exact hl
 unfold setItem
 refine wpAny_holding ?_
 refine wpAny_bind (wpAny_sequenceKey tI (by decide) ?_)
 refine wpAny_bind (wpAny_callSpecial?_slot (name := Str.ofString "__setitem__") tI slot_dict_setitem (wpAny_call_entry slot_dict_setitem tI entry_dict_setitem ?_ (args_dict_setitem _ _ _)))
 refine wpAny_bind (wpAny_notOrdered_dict tI ?_)
 show wpAny _ _ (dictSet a (.ref b) r >>= _) _ _ _
 refine wpAny_bind (zhQ hu (zef I hb) hd (fun x hx => zef I (hk x hx)) hl fun h' t dd hs => wpAny_pure ⟨.none, rfl, wpAny_pure (h _ ?_)⟩)
 have ho : ∃ u, h'.get? a = some u := let ⟨o, _, g1, _⟩ := dd; ⟨o, g1⟩
 exact I.write (x := a) (e := a) (by rw [e]; exact True.intro) (.inl rfl) (fun c q hc z => (hs.2 c hc).trans z) ho (zgO h0 hlen dd)
end
end MX
end
section
set_option autoImplicit false
namespace MX
open PySem PySem.Spec PyProof.Rows L2
section
variable {prog : Program} {w : World} {A : Around} {E : Value → Shared → Prop} {t : Shared}
theorem zhv (d : Addr) (hS : (d == sysModules) = false) : MeetsIn prog w (Builtin.«dict.items» ⟨[.ref d], []⟩) (fun _ R t => t.TypeIs (.ref d) "dict" ∧
   R (.ok (.ret (.ref t.heap.objs.size))) { t with heap := t.heap.push { cls := .type "dict_items", data := .fields #[.ref d] } }) :=
 .of_wp fun B R t ⟨tI, q⟩ => by
   unfold Builtin.«dict.items» Builtin.Dict.noArgs
   refine wpAny_bind (wpAny_bind (wpAny_notOrdered_dict tI ?_))
   show wpAny _ _ (pure d) _ _ t
   refine wpAny_pure ?_
   show wpAny _ _ (Builtin.Dict.showsAll d >>= _) _ _ t
   unfold Builtin.Dict.showsAll
   rw [if_neg (by rw [hS]; exact Bool.false_ne_true)]
   exact wpAny_bind (wpAny_pure (wpAny_bind (wpAny_newObj_type (wpAny_pure ⟨_, rfl, q⟩))))
theorem zhF {v d : Addr} {xs : List (NK × Addr × Value)} {Q : Value → Shared → Prop} (hv : t.heap.IsItemsView v d) (hd : IsDc t.heap d xs)
   (q : Q (.ref t.heap.objs.size) { t with heap := t.heap.push { cls := .type "dict_itemiterator", data := .fields #[.none, .bool false, .ref d, .int 0 0, .int xs.length 0, .int xs.length 0, .none, .none] } }) :
   wpAny (model prog w) A (pyIter (.ref v)) Q E t := by
 obtain ⟨ob, b1, b2, b3⟩ := id hv
 obtain ⟨o, es, g1, g2, g3, g4, g5⟩ := hd
 have sz : es.size = xs.length := by rw [← Array.length_toList, g4, List.length_map]
 have own : Builtin.Dict_items.ownsTuple "dict_itemiterator" = true := by decide
 refine wpAny_pyIter_slot hv.typeIs F.slot_dict_items_iter (wpAny_call_entry F.slot_dict_items_iter hv.typeIs F.entry_dict_items_iter ?_ (F.args_dict_items_iter_1 _))
 unfold Builtin.«dict_items.__iter__»
 refine wpAny_bind (wpAny_pure (wpAny_bind ?_))
 unfold Builtin.Dict_items.dictOf
 refine wpAny_bind (wpAny_field b1 b3 (x := .ref d) rfl (wpAny_pure (wpAny_bind ?_)))
 unfold Builtin.Dict_items.newIterator
 refine wpAny_bind (wpAny_dictEntries g1 g3 (wpAny_bind (wpAny_dictEpoch g1 g3 ?_)))
 simp only [own, if_true]
 refine wpAny_newObj_type (wpAny_pure ⟨_, rfl, "dict_itemiterator", _, ⟨_, Heap.get?_push_size _ rfl, rfl⟩, F.slot_dict_itemiterator_next.lookup, ?_⟩)
   (by simp only [sizeOk, Builtin.Dict_items.ownedTupleFields, List.size_toArray, List.length_append, List.length_cons, List.length_nil, sizeLine_eq] <;> omega)
 simpa [rawInt, sz, Builtin.Dict_items.ownedTupleFields] using q
theorem zi7 {it d b : Addr} {i : Nat} {xs : List (NK × Addr × Value)} {k : NK} {v ok ov : Value} {Q : Option Value → Shared → Prop} (g : IsItemIter t.heap it d i xs.length xs.length ok ov) (hd : IsDc t.heap d xs) (hx : xs[i]? = some (k, b, v))
   (q : ∀ h', IsItemIterOut h' it d (i + 1) xs.length xs.length (.ref b) v t.heap.objs.size → h'.get? t.heap.objs.size = some { cls := .type "tuple", data := .seq #[.ref b, v] } → h'.objs.size = t.heap.objs.size + 1 →
     (∀ c o, c ≠ it → t.heap.get? c = some o → h'.get? c = some o) → Q (some (.ref t.heap.objs.size)) { t with heap := h' }) : wpAny (model prog w) A (pyNext (.ref it)) Q E t := by
 obtain ⟨hp, gg, dr, tk, os⟩ := t
 obtain ⟨o, es, g1, g2, g3, g4, g5⟩ := hd
 have sz : es.size = xs.length := by rw [← Array.length_toList, g4, List.length_map]
 have il : i < xs.length := (List.getElem?_eq_some_iff.mp hx).1
 have il' : i < es.size := by omega
 have ee : es[i] = ⟨hashN k, .ref b, v⟩ := by
   have e : es.toList[i]? = some (entN (k, b, v)) := by rw [g4, List.getElem?_map, hx]; rfl
   rw [Array.getElem?_toList, Array.getElem?_eq_getElem il'] at e
   exact Option.some.inj e
 have own : Builtin.Dict_items.ownsTuple "dict_itemiterator" = true := by decide
 have tI : Shared.TypeIs ⟨hp, gg, dr, tk, os⟩ (.ref it) "dict_itemiterator" := ⟨_, g, rfl⟩
 unfold pyNext
 refine wpAny_bind (wpAny_attempt (wpAny_callSpecial?_slot (name := Str.ofString "__next__") tI F.slot_dict_itemiterator_next
   (wpAny_call_entry F.slot_dict_itemiterator_next tI F.entry_dict_itemiterator_next ?_ (F.args_dict_itemiterator_next_1 _))))
 refine wpAny_bind (wpAny_pure (wpAny_bind (wpAny_bind ?_)))
 first | refine wpAny_bind (wpAny_typeNameOfWhole_itemiter tI (wpAny_pure ?_)) | refine wpAny_bind (wpAny_typeNameOf_itemiter tI (wpAny_pure ?_))
 refine wpAny_bind (wpAny_fieldsOf g rfl ?_)
 simp only [own, if_true]
 show wpAny _ _ (if (Value.ref d == Value.none) = true then _ else _) _ _ ⟨hp, gg, dr, tk, os⟩
 rw [if_neg (show ¬ ((Value.ref d == Value.none) = true) from fun z => nomatch z)]
 refine wpAny_bind (wpAny_pure (wpAny_bind (wpAny_dictEntries g1 g3 ?_)))
 rw [if_neg (by rw [sz]; simp)]
 refine wpAny_bind (wpAny_pure (wpAny_bind (wpAny_dictEpoch g1 g3 ?_)))
 rw [if_neg (by simp)]
 refine wpAny_pure ?_
 simp only [show ¬ ((i : Int) < 0) from by omega, if_false, Int.toNat_natCast, Array.getElem?_eq_getElem il', ee]
 refine wpAny_bind ?_
 first | refine wpAny_bind (wpAny_typeNameOfWhole_itemiter tI (wpAny_pure ?_)) | refine wpAny_bind (wpAny_typeNameOf_itemiter tI (wpAny_pure ?_))
 refine wpAny_bind (wpAny_isOneOf_itemiter tI ?_)
 show wpAny _ _ (setField (.ref it) 3 (rawInt ((i : Int) + 1)) >>= _) _ _ ⟨hp, gg, dr, tk, os⟩
 refine wpAny_bind (wpAny_setField_rec g (by simp) fun k₁ e₁ s₁ => ?_)
 replace s₁ : Heap.SameBut it hp k₁ := s₁
 replace e₁ : IsItemIter k₁ it d (i + 1) xs.length xs.length ok ov := by
   have z : ((i + 1 : Nat) : Int) = (i : Int) + 1 := by omega
   unfold IsItemIter; rw [z]; simpa [rawInt] using e₁
 have tI₁ : Shared.TypeIs ⟨k₁, gg, dr, tk, os⟩ (.ref it) "dict_itemiterator" := ⟨_, e₁, rfl⟩
 refine wpAny_bind (wpAny_holding (wpAny_bind (wpAny_isOneOf_itemiter tI₁ (wpAny_bind (wpAny_isOneOf_itemiter tI₁ ?_)))))
 show wpAny _ _ (Builtin.Dict_items.pairFromOwner (.ref it) 6 (.ref b) v) _ _ ⟨k₁, gg, dr, tk, os⟩
 unfold Builtin.Dict_items.pairFromOwner
 refine wpAny_bind (wpAny_newTuple ?_)
 have e₂ : IsItemIter (k₁.push { cls := .type "tuple", data := .seq #[.ref b, v] }) it d (i + 1) xs.length xs.length ok ov := Heap.get?_push_of_some _ e₁
 have z₁ : k₁.objs.size = hp.objs.size := s₁.1
 have lt : it < hp.objs.size := Heap.lt_size g
 have t₂ : (k₁.push { cls := .type "tuple", data := .seq #[.ref b, v] }).get? hp.objs.size = some { cls := .type "tuple", data := .seq #[.ref b, v] } := by rw [← z₁]; exact Heap.get?_push_size _ rfl
 have z₂ : (k₁.push { cls := .type "tuple", data := .seq #[.ref b, v] }).objs.size = hp.objs.size + 1 := by rw [Heap.size_push, z₁]
 have c₂ : ∀ c u, c ≠ it → hp.get? c = some u → (k₁.push { cls := .type "tuple", data := .seq #[.ref b, v] }).get? c = some u := fun c u hc e => Heap.get?_push_of_some _ (s₁.extBut c u hc e)
 rw [z₁]
 generalize k₁.push { cls := .type "tuple", data := .seq #[.ref b, v] } = k₂ at e₂ t₂ z₂ c₂
 show wpAny _ _ (Builtin.Dict_items.ownedTupleIsFree (.ref it) >>= _) _ _ ⟨k₂, gg, dr, tk, os⟩
 clear e₁ s₁ tI₁ z₁
 refine wpAny_bind ?_
 unfold Builtin.Dict_items.ownedTupleIsFree
 refine wpAny_bind (wpAny_field e₂ rfl (x := .none) rfl (wpAny_pure ?_))
 simp only [if_true]
 refine wpAny_bind (wpAny_field e₂ rfl (x := ok) rfl (wpAny_bind (wpAny_field e₂ rfl (x := ov) rfl ?_)))
 refine wpAny_bind (wpAny_setField_rec e₂ (by simp) fun k₃ e₃ s₃ => ?_)
 replace s₃ : Heap.SameBut it k₂ k₃ := s₃
 replace e₃ : IsItemIter k₃ it d (i + 1) xs.length xs.length (.ref b) ov := e₃
 refine wpAny_bind (wpAny_setField_rec e₃ (by simp) fun k₄ e₄ s₄ => ?_)
 replace s₄ : Heap.SameBut it k₃ k₄ := s₄
 replace e₄ : IsItemIter k₄ it d (i + 1) xs.length xs.length (.ref b) v := e₄
 refine wpAny_bind (wpAny_setField_rec e₄ (by simp) fun k₅ e₅ s₅ => ?_)
 replace s₅ : Heap.SameBut it k₄ k₅ := s₅
 replace e₅ : IsItemIterOut k₅ it d (i + 1) xs.length xs.length (.ref b) v hp.objs.size := e₅
 refine wpAny_bind (wpAny_setField_rec e₅ (by simp) fun k₆ e₆ s₆ => ?_)
 replace s₆ : Heap.SameBut it k₅ k₆ := s₆
 replace e₆ : IsItemIterOut k₆ it d (i + 1) xs.length xs.length (.ref b) v hp.objs.size := e₆
 have up : ∀ c u, c ≠ it → k₂.get? c = some u → k₆.get? c = some u := fun c u hc e => s₆.extBut c u hc (s₅.extBut c u hc (s₄.extBut c u hc (s₃.extBut c u hc e)))
 refine wpAny_bind (wpAny_letGo (wpAny_pure (wpAny_pure ⟨_, rfl, wpAny_pure (q k₆ e₆ (up _ _ (Nat.ne_of_gt lt) t₂) ?_ fun c u hc e => up c u hc (c₂ c u hc e))⟩)))
 show k₆.objs.size = hp.objs.size + 1
 rw [s₆.1, s₅.1, s₄.1, s₃.1, z₂]
theorem zi8 {it d : Addr} {i : Nat} {xs : List (NK × Addr × Value)} {ok ov : Value} {Q : Option Value → Shared → Prop} (hh : A.handled = none) (g : IsItemIter t.heap it d i xs.length xs.length ok ov) (hd : IsDc t.heap d xs) (hx : xs.length ≤ i)
   (q : ∀ h', Heap.ExtBut it t.heap h' → Q none { t with heap := h' }) : wpAny (model prog w) A (pyNext (.ref it)) Q E t := by
 obtain ⟨o, es, g1, g2, g3, g4, g5⟩ := hd
 have sz : es.size = xs.length := by rw [← Array.length_toList, g4, List.length_map]
 have own : Builtin.Dict_items.ownsTuple "dict_itemiterator" = true := by decide
 have tI : t.TypeIs (.ref it) "dict_itemiterator" := ⟨_, g, rfl⟩
 unfold pyNext
 refine wpAny_bind (wpAny_attempt (wpAny_callSpecial?_slot (name := Str.ofString "__next__") tI F.slot_dict_itemiterator_next
   (wpAny_call_entry F.slot_dict_itemiterator_next tI F.entry_dict_itemiterator_next ?_ (F.args_dict_itemiterator_next_1 _))))
 refine wpAny_bind (wpAny_pure (wpAny_bind (wpAny_bind ?_)))
 first | refine wpAny_bind (wpAny_typeNameOfWhole_itemiter tI (wpAny_pure ?_)) | refine wpAny_bind (wpAny_typeNameOf_itemiter tI (wpAny_pure ?_))
 refine wpAny_bind (wpAny_fieldsOf g rfl ?_)
 simp only [own, if_true]
 show wpAny _ _ (if (Value.ref d == Value.none) = true then _ else _) _ _ t
 rw [if_neg (show ¬ ((Value.ref d == Value.none) = true) from fun z => nomatch z)]
 refine wpAny_bind (wpAny_pure (wpAny_bind (wpAny_dictEntries g1 g3 ?_)))
 rw [if_neg (by rw [sz]; simp)]
 refine wpAny_bind (wpAny_pure (wpAny_bind (wpAny_dictEpoch g1 g3 ?_)))
 rw [if_neg (by simp)]
 refine wpAny_pure ?_
 simp only [show ¬ ((i : Int) < 0) from by omega, if_false, Int.toNat_natCast, Array.getElem?_eq_none (show es.size ≤ i by omega)]
 refine wpAny_bind ?_
 first | refine wpAny_bind (wpAny_typeNameOfWhole_itemiter tI (wpAny_pure ?_)) | refine wpAny_bind (wpAny_typeNameOf_itemiter tI (wpAny_pure ?_))
 show wpAny _ _ (setField (.ref it) 2 .none >>= _) _ _ t
 refine wpAny_bind (wpAny_setField g rfl (by simp) ?_)
 show wpAny _ _ (newExc (.type "StopIteration") [] >>= _) _ _ _
 refine wpAny_bind ?_
 simp only [newExc, newTuple]
 refine wpAny_bind (wpAny_newObj_type ?_ (by size_fits))
 refine wpAny_bind (m := firstArgMember _ _) (wpAny_of_eq (a := Value.none) (by first | rfl | (simp only [firstArgMember] <;> rfl)) ?_)
 refine wpAny_newObj_type ?_ (by size_fits)
 simp only [raiseNew]
 refine wpAny_bind (wpAny_handled ?_)
 rw [show A.in1.handled = none from hh]
 refine wpAny_bind (wpAny_pure (wpAny_throw ?_))
 refine wpAny_bind ( wpAny_isInstance (T := "StopIteration") (b := true) ⟨_, Heap.get?_push_size _ rfl, rfl⟩ isSubtype_stop ?_)
 exact wpAny_pure (q _ (((Heap.SameBut.update ..).extBut.push _).push _))
end
section
variable {X : Cx} {pins : List (Addr × Obj)} {σ : L2.St} {H : Hp} {s : Shared}
theorem turnedT {t' : Nat} {h' : Heap} {ch : List Addr} {row : List V} {urow : List Value} (I : Inv X pins σ H s) (k : ∀ b o, b ∉ ch → s.heap.get? b = some o → h'.get? b = some o) (hf : ∀ b ∈ ch, FpOk X pins H b)
   (ht : h'.get? s.heap.objs.size = some { cls := .type "tuple", data := .seq urow.toArray }) (rv : Vals row urow) (hz : row.length ≤ sizeLine) : Inv X pins σ (upd H s.heap.objs.size (.tup row)) { s with heap := h', toks := t' } := by
 have nch : ∀ b u, H b = some u → b ∉ ch := fun b u e hb => by rw [(hf b hb).1] at e; cases e
 have hn : H s.heap.objs.size = none := I.hok.fresh (Nat.le_refl _)
 have old : ∀ b o, s.heap.get? b = some o → b ≠ s.heap.objs.size := fun b o e => Nat.ne_of_lt (Heap.lt_size e)
 refine I.step (g' := s.gens) (d' := s.drawn) (ch := ch) (fun b hb => ⟨(hf b hb).2.2.2.1, (hf b hb).2.1, (hf b hb).2.2.2.2.1, (hf b hb).2.2.2.2.2⟩) (fun b o _ _ hc e _ => k b o hc e) (fun b o _ _ hc e _ => ⟨o.slots, k b o hc e⟩)
   (fun b o _ e n => by rw [zan (old b o e)]; exact n)
   (fun b o hc e => ⟨o, k b o hc e⟩) (fun b xs e => by rw [zan (zam e hn)]; exact e) (fun b o u e => by rw [zan (zam e hn)]; exact e) (fun b ps e => ⟨#[], by rw [zan (zam e hn), e]; simp⟩) (fun m hm => ?_) (fun b u e => ?_) I.bare
 · obtain ⟨o, es, ep, ho, r⟩ := hm
   exact ⟨o, es, ep, k _ o (fun hb => (hf _ hb).2.1 rfl) ho, r⟩
 · by_cases hb : b = s.heap.objs.size
   · subst hb
     rw [zaj] at e; cases e
     exact ⟨hz, urow, rv, ⟨_, ht, rfl, _, rfl⟩⟩
   · rw [zan hb] at e
     refine (I.hok b u e).stay (fun c v hc q => k c v ?_ q) (fun c q => by rw [zan (zam q hn)]; exact q) fun c xs q => by rw [zan (zam q hn)]; exact q
     rcases hc with rfl | hc
     · exact nch _ _ e
     · exact nch _ _ hc
end
def numV : Value → V
 | .int i _ => .int i
 | _ => .non
def rowV (y : NK × Addr × Value) : List V := [.ref y.2.1, numV y.2.2]
def ItN (d : Addr) (n : Nat) : It :=
 ⟨fun i H => ∃ ys y j t, H d = some (dctO d ys) ∧ ys.length = n ∧ ys[i]? = some y ∧ y.2.2 = .int j t,
  fun i H x H' => ∃ p row, x = .ref p ∧ H p = none ∧ H' = upd H p (.tup row) ∧ ∀ ys, H d = some (dctO d ys) → (ys[i]?).map rowV = some row,
  fun i H => ∃ ys, H d = some (dctO d ys) ∧ ys.length = n ∧ n ≤ i⟩
theorem zjv {h : Heap} {d : Addr} {xs ys : List (NK × Addr × Value)} (a : IsDc h d xs) (b : IsDc h d ys) (i : Nat) : (xs[i]?).map rowV = (ys[i]?).map rowV := by
 obtain ⟨o, es, g1, _, g3, g4, _⟩ := a
 obtain ⟨o', es', k1, _, k3, k4, _⟩ := b
 rw [g1] at k1
 cases k1
 rw [g3] at k3
 have ee : es = es' := by injection k3
 subst ee
 rw [g4] at k4
 have e : (xs.map entN)[i]? = (ys.map entN)[i]? := by rw [k4]
 rw [List.getElem?_map, List.getElem?_map] at e
 cases hx : xs[i]? with
 | none =>
   cases hy : ys[i]? with
   | none => rfl
   | some y => rw [hx, hy] at e; cases e
 | some x =>
   cases hy : ys[i]? with
   | none => rw [hx, hy] at e; cases e
   | some y =>
     rw [hx, hy] at e
     have e' : entN x = entN y := Option.some.inj e
     have e1 : Value.ref x.2.1 = Value.ref y.2.1 := congrArg DictEntry.key e'
     have e2 : x.2.2 = y.2.2 := congrArg DictEntry.val e'
     have e3 : x.2.1 = y.2.1 := by injection e1
     simp only [Option.map_some, rowV, e2, e3]
theorem entI : entryFor table "dict_itemiterator.__iter__" = some Builtin.«dict_keyiterator.__iter__» := entryFor_alias (id' := "dict_keyiterator.__iter__") (by kernel_rfl) rfl (by decide +kernel) (by kernel_rfl)
theorem zfv {P : Program} {w : World} {K : PySem.W.Frag} {es : List Expr} {kk : Nat} {tp : Pos} (d it : Addr) (n : Nat) :
   Turn P w K (.Tuple es kk tp) (ItN d n) [it] it (fun i h => ∃ ok ov, IsItemIter h it d i n n ok ov) where
 mem := by simp
 obj := fun i h ⟨ok, ov, st⟩ b hb => by
   have e : b = it := by simpa using hb
   subst e
   exact ⟨_, st, fun v z => by cases z⟩
 keep := fun i h h' ⟨ok, ov, st⟩ k => ⟨ok, ov, k it (by simp) _ st⟩
 item := by
   intro X hP hw hK hc i pins s σ H E I hf st hg
   subst hP hw hK
   obtain ⟨ok, ov, st⟩ := st
   obtain ⟨ys, ⟨k, b, v⟩, j, tj, hd, hn, hx, hv⟩ := hg
   subst hn
   have hv' : v = .int j tj := hv
   subst hv'
   obtain ⟨h0, hl, dd⟩ := zca I hd
   have fi := hf it (by simp)
   refine zi7 st dd hx fun h' a1 a2 a3 a4 => ?_
   refine ⟨_, rfl, wpAny_letOwnedTupleGo_items (s := { s with heap := h' }) a1 fun h'' b1 b2 => ?_⟩
   have hne : s.heap.objs.size ≠ it := Nat.ne_of_gt (Heap.lt_size st)
   have kp : ∀ c o, c ∉ [it] → s.heap.get? c = some o → h''.get? c = some o := fun c o hc e => by
     have c1 : c ≠ it := fun q => hc (by simp [q])
     exact b2.extBut _ _ c1 (a4 c o c1 e)
   have rv : Vals (rowV (k, b, .int j tj)) [.ref b, .int j tj] := .cons rfl (.cons ⟨tj, rfl⟩ .nil)
   have I1 : Inv X pins σ (upd H s.heap.objs.size (.tup (rowV (k, b, .int j tj)))) { s with heap := h'' } := turnedT (t' := s.toks) I kp (fun b hb => hf b hb) (b2.extBut _ _ hne a2) rv (by show 2 ≤ sizeLine; decide)
   refine ⟨.ref s.heap.objs.size, _, I1, rfl, ⟨s.heap.objs.size, _, rfl, I.hok.fresh (Nat.le_refl _), rfl, fun ys' h => ?_⟩, ⟨_, _, b1⟩, fun c hb => ?_⟩
   · have := zjv dd (zca I h).2.2 i
     rw [hx] at this
     exact this.symm
   · have e : c = it := by simpa using hb
     subst e
     rw [zan (Ne.symm hne)]; exact fi.1
 done := by
   intro X hP hw hK hc i pins s σ H E I hf st hg
   subst hP hw hK
   obtain ⟨ok, ov, st⟩ := st
   obtain ⟨ys, hd, hn, hx⟩ := hg
   subst hn
   obtain ⟨f0, f1, f2, f3, f4, f5⟩ := hf it (by simp)
   exact zi8 (I.ok.hd hc) st (zca I hd).2.2 hx fun h' eb => ⟨rfl, I.turned (t' := s.toks) (fun b o hb e => eb b o hb e) f0 f1 f3 f4 f5⟩
 self := fun A i s Q E ⟨ok, ov, st⟩ h => by
   have tI : s.TypeIs (.ref it) "dict_itemiterator" := ⟨_, st, rfl⟩
   refine wpAny_pyIter_slot tI F.slot_dict_itemiterator_iter (wpAny_call_entry F.slot_dict_itemiterator_iter tI entI ?_ (F.args_dict_itemiterator_iter_1 _))
   exact wpAny_pure ⟨_, rfl, "dict_itemiterator", _, tI, F.slot_dict_itemiterator_next.lookup, h⟩
def iItm (to : TE) : TI := fun σ H R => to σ H fun x H1 => ∃ a ys, x = .ref a ∧ H1 a = some (dctO a ys) ∧ R (ItN a ys.length) H1
theorem zgN {X : Cx} {pins : List (Addr × Obj)} {σ : L2.St} {H : Hp} {s : Shared} {a : Addr} {ys : List (NK × Addr × Value)} (I : Inv X pins σ H s) (e : H a = some (dctO a ys)) : s.TypeIs (.ref a) "dict" ∧ ∀ c, Value.ref a = .ref c → ∃ ob, s.heap.get? c = some ob ∧ ob.dict = none := by
 obtain ⟨_, _, o, es, g1, g2, _⟩ := zca I e
 exact ⟨⟨o, g1, g2.1⟩, fun c z => by cases z; exact ⟨o, g1, g2.2.1⟩⟩
theorem zhm {X : Cx} {es : List Expr} {kk : Nat} {tp apos cpos : Pos} {o : Expr} {to : TE} (ho : PE X o to) (hbase : attributeBase o "items" X.env (eval o X.env) = eval o X.env) (hline : (apos.endLine == cpos.line) = true) :
   PI X (.Tuple es kk tp) (.Call (.Attribute o "items" apos) [] [] cpos) (iItm to) := by
 intro pins s σ H R I h
 refine wpAny_Call_method0_late hbase hline (thn (ho pins s σ H _ I h) fun v s1 ⟨x, H1, I1, r1, q1⟩ => ?_)
 obtain ⟨a, ys, rfl, hd, q⟩ := q1
 cases r1
 obtain ⟨d1, d2⟩ := zgN I1 hd
 obtain ⟨h0, hl, dd⟩ := zca I1 hd
 refine ⟨"dict", "dict.items", F.plainAttrs_dict, F.slot_dict_items, F.type_dict_items, d1, d2, Calls.callWith_builtin rfl (PySem.evalArgs_none ?_)⟩
 refine call_meetsIn F.slot_dict_items d1 F.entry_dict_items (F.args_dict_items_1 _) (zhv a h0) ⟨d1, ?_⟩
 have I2 : Inv X pins σ H1 { s1 with heap := s1.heap.push { cls := .type "dict_items", data := .fields #[.ref a] } } := I1.kept (t' := s1.toks) fun b o e => Heap.get?_push_of_some _ e
 refine zhF (xs := ys) ⟨_, Heap.get?_push_size _ rfl, rfl, rfl⟩ (zca I2 hd).2.2 ?_
 refine ⟨_, [_], _, _, H1, rfl, I2.kept (t' := s1.toks) fun b o e => Heap.get?_push_of_some _ e, zfv a _ ys.length, ⟨.none, .none, Heap.get?_push_size _ rfl⟩, fun b hb => ?_, q⟩
 have e := List.mem_singleton.mp hb
 subst e
 exact I2.fpOk (Nat.le_refl _) (I2.hok.fresh (Nat.le_refl _))
theorem zlD {X : Cx} {o e : Expr} {es : List Expr} {to : TE} {t : TA} {name : Str} {apos cpos : Pos} {id : String} {r : V → List V → Hp → VK → Prop} (slot : Slot "dict" name id) (hty : typeOf (.builtin id) = pure (.type "method_descriptor")) (hm : MtR X id r) (ho : PE X o to) (ha : PA X (e :: es) t)
   (hbase : attributeBase o name X.env (eval o X.env) = eval o X.env)
   (hfew : ((backTo cpos (starEach (e :: es) X.env)).all (fun x => !x.1) && (backToKw cpos (keywordEach [] X.env)).all (fun x => x.1.isSome)
     && decide ((e :: es).length + ([] : List Keyword).length + (if ([] : List Keyword).isEmpty then 0 else 1) < 30)) = true)
   (hline : (apos.endLine == cpos.line) = true) (hs : starEach (e :: es) X.env = (false, eval e X.env) :: starEach es X.env) (hplain : (backTo cpos (starEach es X.env)).any (·.1) = false) :
   PE X (.Call (.Attribute o name apos) (e :: es) [] cpos) (fun σ H Q => to σ H fun x H1 => (∃ a ys, x = .ref a ∧ H1 a = some (dctO a ys)) ∧ t σ H1 fun xs H2 => r x xs H2 Q) := by
 intro pins s σ H Q I h
 refine wpAny_Call_method_late hbase hfew hline rfl (thn (ho pins s σ H _ I h) fun v s1 ⟨x, H1, I1, r1, ty, q1⟩ => ?_)
 obtain ⟨a, ys, rfl, hd⟩ := ty
 have rr := r1
 cases r1
 obtain ⟨d1, d2⟩ := zgN I1 hd
 refine ⟨"dict", id, F.plainAttrs_dict, slot, hty, d1, d2, ?_⟩
 have hA := ha cpos pins s1 σ H1 _ I1 q1
 rw [hs] at hA ⊢
 refine Calls.callWith_builtin (by show (false || (backTo cpos (starEach es X.env)).any (·.1)) = false; rw [hplain] <;> rfl) (Calls.evalArgs_plain ?_)
 exact thn hA fun us s2 ⟨vs, H2, I2, r2, q2⟩ => hm pins s2 σ H2 _ vs _ us Q I2 rr r2 q2
def rSetN (K : PySem.W.Frag) : V → V → V → Hp → (Hp → Prop) → Prop := fun o i v H Q => ∃ a b k ys j, o = .ref a ∧ i = .ref b ∧ v = .int j ∧ H a = some (dctO a ys) ∧ (∀ y ∈ ys, NKey K H y.1 y.2.1) ∧ NKey K H k b ∧ ys.length < sizeLine ∧ ∀ t, Q (upd H a (dctO a (storedH ys k b (.int j t))))
theorem zha {X : Cx} (hu : X.A.units + 64 < cLine) : PSet X (rSetN X.K) := by
 intro pins s σ H o i v ov iv u Q I ro ri rv h
 obtain ⟨a, b, k, ys, j, rfl, rfl, rfl, hd, hk, hb, hl, q⟩ := h
 cases ro
 cases ri
 obtain ⟨t, rfl⟩ := rv
 exact zle (by omega) I hd hk hb hl fun s' I' => ⟨_, I', q t⟩
theorem PSet.or {X : Cx} {t t' : TSet} (h : PSet X t) (h' : PSet X t') : PSet X (fun o i v H Q => t o i v H Q ∨ t' o i v H Q) := fun pins s σ H o i v ov iv u Q I ro ri rv q => by
 rcases q with q | q
 · exact h pins s σ H o i v ov iv u Q I ro ri rv q
 · exact h' pins s σ H o i v ov iv u Q I ro ri rv q
def rGetN (K : PySem.W.Frag) : V → List V → Hp → VK → Prop := fun x xs H Q => ∃ a b k ys i j, x = .ref a ∧ xs = [.ref b, .int i] ∧ H a = some (dctO a ys) ∧ (∀ y ∈ ys, NKey K H y.1 y.2.1) ∧ NKey K H k b ∧ ((atKey ys k = none ∧ j = i) ∨ ∃ c t, atKey ys k = some (c, .int j t)) ∧ Q (.int j) H
theorem zkM {X : Cx} (hu : X.A.units + 64 < cLine) : MtR X "dict.get" (rGetN X.K) := by
 intro pins s σ H x xs v us Q I r rs h
 obtain ⟨a, b, k, ys, i, j, rfl, rfl, hd, hk, hb, hj, q⟩ := h
 cases r
 cases rs with
 | cons r1 rs =>
   cases r1
   cases rs with
   | cons r2 rs =>
     cases rs
     obtain ⟨t, rfl⟩ := r2
     refine zlf (by omega) I hd hk hb fun s' I' => ?_
     rcases hj with ⟨e, rfl⟩ | ⟨c, t', e⟩
     · rw [e]; exact ⟨.int j, H, I', ⟨t, rfl⟩, q⟩
     · rw [e]; exact ⟨.int j, H, I', ⟨t', rfl⟩, q⟩
section
variable {prog : Program} {w : World} {A : Around} {E : Value → Shared → Prop}
theorem zh5 {it l : Addr} {us : Array Value} (ne : l ≠ it) : ∀ (n i : Nat) (t : Shared) (Q : List Value → Shared → Prop), t.heap.IsListIter it l i → t.heap.IsList l us → i + n ≤ us.size →
   (∀ h', h'.IsListIter it l (i + n) → Heap.SameBut it t.heap h' → Q ((us.toList.drop i).take n) { t with heap := h' }) → wpAny (model prog w) A (draw (.ref it) n) Q E t
 | 0, i, t, Q, g, _, _, q => by
   show wpAny _ _ (pure []) Q E t
   exact wpAny_pure (by simpa using q t.heap g (Heap.SameBut.refl ..))
 | n + 1, i, t, Q, g, gl, le, q => by
   have lt : i < us.size := by omega
   show wpAny _ _ (pyNext (.ref it) >>= _) Q E t
   refine wpAny_bind (wpAny_pyNext_list_item g gl (x := us[i]) (by simp [lt]) fun k₁ g₁ s₁ => ?_)
   have gl₁ : k₁.IsList l us := let ⟨o, e, r⟩ := gl; ⟨o, s₁.extBut _ _ ne e, r⟩
   refine wpAny_bind (wpAny_holding (zh5 ne n (i + 1) _ _ g₁ gl₁ (by omega) fun k₂ g₂ s₂ => wpAny_pure ?_))
   have e : us.toList.drop i = us[i] :: us.toList.drop (i + 1) := by simp [List.drop_eq_getElem_cons, lt]
   have z := q k₂ (by rw [show i + (n + 1) = i + 1 + n by omega]; exact g₂) (s₁.trans s₂)
   rw [e, List.take_succ_cons] at z
   exact z
theorem zgY {l : Addr} {us : Array Value} {t : Shared} {Q : List Value → Shared → Prop} (hh : A.handled = none) (gl : t.heap.IsList l us)
   (q : ∀ h', Heap.ExtBut t.heap.objs.size t.heap h' → Q us.toList { t with heap := h' }) : wpAny (model prog w) A (unpackItems (.ref l) us.size none) Q E t := by
 have ne : l ≠ t.heap.objs.size := by obtain ⟨o, e, _⟩ := gl; exact Nat.ne_of_lt (Heap.lt_size e)
 have gp : ∀ o, (t.heap.push o).IsList l us := fun o => let ⟨u, e, r⟩ := gl; ⟨u, Heap.get?_push_of_some _ e, r⟩
 unfold unpackItems notIterableAtAll
 refine wpAny_bind (wpAny_bind (wpAny_specialOf gl.typeIs slot_list_iter.lookup (wpAny_pure ?_)))
 simp only [Bool.false_eq_true, if_false]
 refine wpAny_bind (wpAny_holding (wpAny_pyIter_list gl (wpAny_bind (wpAny_holding (zh5 ne us.size 0 _ _ ⟨_, Heap.get?_push_size _ rfl, rfl, rfl⟩ (gp _) (by omega) fun k₁ g₁ s₁ => ?_)))))
 rw [show List.take us.size (List.drop 0 us.toList) = us.toList by rw [List.drop_zero]; exact List.take_of_length_le (by simp), if_neg (by simp)]
 have gl₁ : k₁.IsList l us := let ⟨o, e, r⟩ := gp _; ⟨o, s₁.extBut _ _ ne e, r⟩
 refine wpAny_bind (wpAny_holding (wpAny_pyNext_list_end hh g₁ gl₁ (by simp) fun k₂ e₂ => ?_))
 simp only [Option.isSome_none, Bool.false_eq_true, if_false]
 exact wpAny_pure (q k₂ fun c o hc e => e₂ c o hc (s₁.extBut c o hc (Heap.get?_push_of_some _ e)))
end
def gTupL (K : PySem.W.Frag) (n : Nat) (t : TGs) : TG := fun v σ H Q => ∃ a xs, v = .ref a ∧ SqL K H a xs ∧ xs.length = n ∧ t xs σ H Q
theorem ziI {X : Cx} {pos : Pos} {es : List Expr} {k : Nat} {t : TGs} {n : Nat} (hc : X.calm = true) (h : PGs X es t) (hn : (assignEach es X.env).length = n) (hst : (assignEach es X.env).findIdx? (·.1) = none) : PG X (.Tuple es k pos) (gTupL X.K n t) := by
 intro pins s σ H v u Q I r hw
 obtain ⟨a, xs, rfl, hq, hl, hw⟩ := hw
 cases r
 obtain ⟨its, rv, ht, hz⟩ := I.list hq
 rw [arm_assign_Tuple]
 refine wpAny_bind (wpAny_standAt ?_)
 unfold unpack
 have el : (assignEach es X.env).length = its.toArray.size := by simp [hn, ← hl, rv.length]
 rw [el, hst]
 refine wpAny_bind (wpAny_holding (zgY (I.ok.hd hc) ht.isList fun h' hx => ?_))
 have I1 : Inv X pins σ H { s with heap := h' } := I.kept (t' := s.toks) fun b o e => hx b o (Nat.ne_of_lt (Heap.lt_size e)) e
 exact h pins _ σ H xs _ Q I1 (by simpa using rv) hw
theorem PG.or {X : Cx} {e : Expr} {t t' : TG} (h : PG X e t) (h' : PG X e t') : PG X e (fun v σ H Q => t v σ H Q ∨ t' v σ H Q) := fun pins s σ H v u Q I r q => by
 rcases q with q | q
 · exact h pins s σ H v u Q I r q
 · exact h' pins s σ H v u Q I r q
end MX
end
section
set_option autoImplicit false
namespace MZ
open PySem PySem.Spec PyProof.Rows L2
structure Sub where
 it : Addr
 src : Addr
 tup : Bool
section
variable {prog : Program} {w : World} {A : Around} {E : Value → Shared → Prop} {s : Shared}
end
section
variable {prog : Program} {w : World} {A : Around} {E : Value → Shared → Prop} {s : Shared}
end
end MZ
end
section
set_option autoImplicit false
namespace MZ
open PySem PySem.Spec PyProof.Rows L2
def rowAt {α : Type} : List (List α) → Nat → Option (List α)
 | [], _ => some []
 | xs :: r, i => (xs[i]?).bind fun x => (rowAt r i).map (x :: ·)
section
variable {X : Cx} {pins : List (Addr × Obj)} {σ : L2.St} {H : Hp} {s : Shared}
end
end MZ
end
section
set_option autoImplicit false
namespace MX
open PySem PySem.Spec PyProof.Rows L2
inductive D where
 | non | bl (b : Bool) | int (i : Int) | str (x : Str) | tup (xs : List D) | ref (n : Nat)
 | ty (n : String) | adr (a : Addr)
inductive O where
 | lst (xs : List D)
 | frz (xs : List D)
 | ins (C : Addr) (fs : List (Str × D))
 | dct (xs : List (NK × Int))
abbrev Sg := List (Option D)
abbrev So := List O
mutual
inductive Rep (K : PySem.W.Frag) (H : Hp) (α : List Addr) : D → V → Prop
 | non : Rep K H α .non .non
 | bl (b : Bool) : Rep K H α (.bl b) (.bl b)
 | int (i : Int) : Rep K H α (.int i) (.int i)
 | str (x : Str) : Rep K H α (.str x) (.str x)
 | tup {a : Addr} {ds : List D} {vs : List V} : SqT K H a vs → Reps K H α ds vs → Rep K H α (.tup ds) (.ref a)
 | ref {n : Nat} {a : Addr} : α[n]? = some a → Rep K H α (.ref n) (.ref a)
 | ty (n : String) : Rep K H α (.ty n) (.ty n)
 | adr (a : Addr) : Rep K H α (.adr a) (.ref a)
inductive Reps (K : PySem.W.Frag) (H : Hp) (α : List Addr) : List D → List V → Prop
 | nil : Reps K H α [] []
 | cons {d : D} {v : V} {ds : List D} {vs : List V} : Rep K H α d v → Reps K H α ds vs → Reps K H α (d :: ds) (v :: vs)
end
structure Ext (K : PySem.W.Frag) (H : Hp) (α : List Addr) (H' : Hp) (α' : List Addr) : Prop where
 tups : ∀ a vs, SqT K H a vs → SqT K H' a vs
 pre : ∀ (n : Nat) a, α[n]? = some a → α'[n]? = some a
section
variable {K : PySem.W.Frag} {H H' H'' : Hp} {α α' α'' : List Addr}
theorem Ext.refl : Ext K H α H α := ⟨fun _ _ h => h, fun _ _ h => h⟩
theorem Ext.trans (a : Ext K H α H' α') (b : Ext K H' α' H'' α'') : Ext K H α H'' α'' := ⟨fun c vs h => b.tups c vs (a.tups c vs h), fun n c h => b.pre n c (a.pre n c h)⟩
mutual
theorem Rep.mono (e : Ext K H α H' α') : ∀ {d : D} {v : V}, Rep K H α d v → Rep K H' α' d v
 | _, _, .non => .non
 | _, _, .bl b => .bl b
 | _, _, .int i => .int i
 | _, _, .str x => .str x
 | _, _, .tup h r => .tup (e.tups _ _ h) (Reps.mono e r)
 | _, _, .ref h => .ref (e.pre _ _ h)
 | _, _, .ty n => .ty n
 | _, _, .adr a => .adr a
theorem Reps.mono (e : Ext K H α H' α') : ∀ {ds : List D} {vs : List V}, Reps K H α ds vs → Reps K H' α' ds vs
 | _, _, .nil => .nil
 | _, _, .cons h r => .cons (Rep.mono e h) (Reps.mono e r)
end
theorem Reps.length : ∀ {ds : List D} {vs : List V}, Reps K H α ds vs → ds.length = vs.length
 | _, _, .nil => rfl
 | _, _, .cons _ r => by simp [Reps.length r]
theorem Reps.get : ∀ {ds : List D} {vs : List V} {i : Nat} {d : D}, Reps K H α ds vs → ds[i]? = some d → ∃ v, vs[i]? = some v ∧ Rep K H α d v
 | _, _, _, _, .nil, e => by simp at e
 | _, _, 0, _, .cons h _, e => by simp at e; subst e; exact ⟨_, rfl, h⟩
 | _, _, i + 1, _, .cons _ r, e => by
   obtain ⟨v, h1, h2⟩ := Reps.get (i := i) r (by simpa using e)
   exact ⟨v, by simpa using h1, h2⟩
theorem Reps.append : ∀ {ds es : List D} {vs ws : List V}, Reps K H α ds vs → Reps K H α es ws → Reps K H α (ds ++ es) (vs ++ ws)
 | _, _, _, _, .nil, s => s
 | _, _, _, _, .cons h r, s => .cons h (Reps.append r s)
theorem Reps.take : ∀ {ds : List D} {vs : List V} (n : Nat), Reps K H α ds vs → Reps K H α (ds.take n) (vs.take n)
 | _, _, 0, _ => by simp; exact .nil
 | _, _, _ + 1, .nil => .nil
 | _, _, n + 1, .cons h r => .cons h (Reps.take n r)
theorem Reps.drop : ∀ {ds : List D} {vs : List V} (n : Nat), Reps K H α ds vs → Reps K H α (ds.drop n) (vs.drop n)
 | _, _, 0, r => by simpa using r
 | _, _, _ + 1, .nil => .nil
 | _, _, n + 1, .cons h r => by simpa using Reps.drop n r
theorem Reps.set {d : D} {v : V} (h : Rep K H α d v) : ∀ {ds : List D} {vs : List V} (i : Nat), Reps K H α ds vs → Reps K H α (ds.set i d) (vs.set i v)
 | _, _, _, .nil => .nil
 | _, _, 0, .cons _ r => .cons h r
 | _, _, i + 1, .cons q r => .cons q (Reps.set h i r)
theorem Reps.reverse {ds : List D} {vs : List V} (r : Reps K H α ds vs) : Reps K H α ds.reverse vs.reverse := by
 induction ds generalizing vs with
 | nil => cases r; exact .nil
 | cons d ds ih =>
   cases r with
   | cons h r =>
     rw [List.reverse_cons, List.reverse_cons]
     exact (ih r).append (.cons h .nil)
theorem Same.tups (s : Same H H') : ∀ a vs, SqT K H a vs → SqT K H' a vs := fun a vs h => by
 rcases h with (h | ⟨o, h⟩) | h
 · exact .inl (.inl (s _ _ h))
 · exact .inl (.inr ⟨o, s _ _ h⟩)
 · exact .inr h
theorem Same.ext (s : Same H H') : Ext K H α H' α := ⟨Same.tups s, fun _ _ h => h⟩
theorem zaS {p : Addr} {o : HO} (h : H p = none) : Same H (upd H p o) := fun b u e => by rw [zan (zam e h)]; exact e
def FzL (K : PySem.W.Frag) (H : Hp) (a : Addr) (xs : List V) : Prop :=
 (∃ o, H a = some (.frz o (.lst xs))) ∨
   ∃ (o : Obj) (its : Array Value) (n : Nat), K.lookup a = some o ∧ o.cls = .type "list" ∧ o.dict = none ∧ o.data = .seq its n ∧ its.size ≤ sizeLine ∧ Vals xs its.toList
theorem FzL.sq {a : Addr} {xs : List V} (h : FzL K H a xs) : SqL K H a xs := by
 rcases h with h | h
 · exact .inl (.inr h)
 · exact .inr h
theorem FzL.same {a : Addr} {xs : List V} (s : Same H H') (h : FzL K H a xs) : FzL K H' a xs := by
 rcases h with ⟨o, h⟩ | h
 · exact .inl ⟨o, s _ _ h⟩
 · exact .inr h
def O.own : O → Bool
 | .frz _ => false
 | _ => true
def ObjR (K : PySem.W.Frag) (H : Hp) (α : List Addr) (a : Addr) : O → Prop
 | .lst ds => ∃ vs, H a = some (.lst vs) ∧ Reps K H α ds vs
 | .frz ds => ∃ vs, FzL K H a vs ∧ Reps K H α ds vs
 | .ins C fs => ∃ dx gs, H a = some (.ins C dx gs) ∧ fs.map (·.1) = gs.map (·.1) ∧ Reps K H α (fs.map (·.2)) (gs.map (·.2))
 | .dct xs => ∃ ys, H a = some (dctO a ys) ∧ DR K H xs ys
structure StoreR (K : PySem.W.Frag) (H : Hp) (α : List Addr) (S : So) : Prop where
 len : α.length = S.length
 nd : ∀ (n m : Nat) o o' a, S[n]? = some o → S[m]? = some o' → O.own o = true → O.own o' = true → α[n]? = some a → α[m]? = some a → n = m
 obj : ∀ (n : Nat) o a, S[n]? = some o → α[n]? = some a → ObjR K H α a o
def VarsR (K : PySem.W.Frag) (H : Hp) (α : List Addr) (σd : Sg) (σ : L2.St) : Prop :=
 σd.length = σ.length ∧ ∀ (i : Nat) d, σd[i]? = some (some d) → ∃ v, σ[i]? = some (some v) ∧ Rep K H α d v
theorem VarsR.mono {σd : Sg} {σ : L2.St} (e : Ext K H α H' α') (h : VarsR K H α σd σ) : VarsR K H' α' σd σ :=
 ⟨h.1, fun i d q => let ⟨v, h1, h2⟩ := h.2 i d q; ⟨v, h1, h2.mono e⟩⟩
theorem VarsR.set {σd : Sg} {σ : L2.St} {d : D} {v : V} (h : VarsR K H α σd σ) (r : Rep K H α d v) (i : Nat) : VarsR K H α (σd.set i (some d)) (σ.set i (some v)) := by
 refine ⟨by simpa using h.1, fun j e q => ?_⟩
 by_cases hj : j = i
 · subst hj
   by_cases hlt : j < σd.length
   · rw [List.getElem?_set_self hlt] at q
     cases q
     exact ⟨v, by rw [List.getElem?_set_self (by rw [← h.1]; exact hlt)], r⟩
   · rw [List.getElem?_eq_none (by simpa using hlt)] at q; cases q
 · rw [List.getElem?_set_ne (Ne.symm hj)] at q
   obtain ⟨u, h1, h2⟩ := h.2 j e q
   exact ⟨u, by rw [List.getElem?_set_ne (Ne.symm hj)]; exact h1, h2⟩
theorem ObjR.mono {a : Addr} {o : O} (s : Same H H') (e : Ext K H α H' α') (h : ObjR K H α a o) : ObjR K H' α' a o := by
 cases o with
 | lst ds => obtain ⟨vs, h1, h2⟩ := h; exact ⟨vs, s _ _ h1, h2.mono e⟩
 | frz ds => obtain ⟨vs, h1, h2⟩ := h; exact ⟨vs, FzL.same s h1, h2.mono e⟩
 | ins C fs => obtain ⟨dx, gs, h1, h2, h3⟩ := h; exact ⟨dx, gs, s _ _ h1, h2, h3.mono e⟩
 | dct xs => obtain ⟨ys, h1, h2⟩ := h; exact ⟨ys, s _ _ h1, h2.mono e.tups⟩
theorem StoreR.mono {S : So} (s : Same H H') (h : StoreR K H α S) : StoreR K H' α S :=
 ⟨h.len, h.nd, fun n o a h1 h2 => (h.obj n o a h1 h2).mono s (Same.ext s)⟩
theorem ObjR.some {a : Addr} {o : O} (h : ObjR K H α a o) (w : O.own o = true) : ∃ u, H a = some u := by
 cases o with
 | lst ds => obtain ⟨vs, h1, _⟩ := h; exact ⟨_, h1⟩
 | frz ds => cases w
 | ins C fs => obtain ⟨dx, gs, h1, _⟩ := h; exact ⟨_, h1⟩
 | dct xs => obtain ⟨ys, h1, _⟩ := h; exact ⟨_, h1⟩
theorem getElem?_snoc {α : Type} {l : List α} {x y : α} {n : Nat} (h : (l ++ [x])[n]? = some y) : l[n]? = some y ∨ (n = l.length ∧ y = x) := by
 by_cases hn : n < l.length
 · rw [List.getElem?_append_left hn] at h; exact .inl h
 · rw [List.getElem?_append_right (by omega)] at h
   by_cases h0 : n - l.length = 0
   · rw [h0] at h; simp at h; exact .inr ⟨by omega, h.symm⟩
   · rw [List.getElem?_eq_none (by simp; omega)] at h; cases h
theorem StoreR.snoc {S : So} {p : Addr} {o : O} {u : HO} (h : StoreR K H α S) (hp : H p = none) (ho : ∀ α', Ext K H α (upd H p u) α' → ObjR K (upd H p u) α' p o) :
   StoreR K (upd H p u) (α ++ [p]) (S ++ [o]) ∧ Ext K H α (upd H p u) (α ++ [p]) := by
 have s : Same H (upd H p u) := zaS hp
 have e : Ext K H α (upd H p u) (α ++ [p]) := ⟨Same.tups s, fun n a q => by rw [List.getElem?_append_left (List.getElem?_eq_some_iff.mp q).1]; exact q⟩
 have old : ∀ {n : Nat} {o' : O} {a : Addr}, S[n]? = some o' → (α ++ [p])[n]? = some a → α[n]? = some a := fun {n o' a} h1 h2 => by
   have hn : n < α.length := by rw [h.len]; exact (List.getElem?_eq_some_iff.mp h1).1
   rw [List.getElem?_append_left hn] at h2
   exact h2
 have lastA : (α ++ [p])[S.length]? = some p := by rw [← h.len]; simp
 have apart : ∀ {n : Nat} {o' : O}, S[n]? = some o' → O.own o' = true → ¬ (α ++ [p])[n]? = some p := fun {n o'} h1 w h2 => by
   obtain ⟨u, z⟩ := (h.obj n o' p h1 (old h1 h2)).some w
   rw [hp] at z; cases z
 refine ⟨⟨by simp [h.len], fun n m o1 o2 a h1 h2 w1 w2 a1 a2 => ?_, fun n o' a h1 h2 => ?_⟩, e⟩
 · rcases getElem?_snoc h1 with q1 | ⟨e1, e2⟩ <;> rcases getElem?_snoc h2 with q2 | ⟨e3, e4⟩
   · exact h.nd n m o1 o2 a q1 q2 w1 w2 (old q1 a1) (old q2 a2)
   · rw [e3, lastA] at a2; cases a2
     exact absurd a1 (apart q1 w1)
   · rw [e1, lastA] at a1; cases a1
     exact absurd a2 (apart q2 w2)
   · rw [e1, e3]
 · rcases getElem?_snoc h1 with h1 | ⟨rfl, rfl⟩
   · exact (h.obj n o' a h1 (old h1 h2)).mono s e
   · rw [lastA] at h2; cases h2
     exact ho _ e
theorem StoreR.put {S : So} {n : Nat} {a : Addr} {o₀ o : O} {u₀ u : HO} (h : StoreR K H α S) (hn : S[n]? = some o₀) (w₀ : O.own o₀ = true) (w : O.own o = true) (ha : α[n]? = some a) (hv : H a = some u₀)
   (hu : (∃ vs, u₀ = .lst vs) ∨ ∃ f, u₀ = .ext f)
   (ho : Ext K H α (upd H a u) α → ObjR K (upd H a u) α a o) : StoreR K (upd H a u) α (S.set n o) ∧ Ext K H α (upd H a u) α := by
 have nt : ∀ ws, HO.tup ws ≠ u₀ := fun ws z => by rcases hu with ⟨vs, e⟩ | ⟨f, e⟩ <;> (rw [e] at z; cases z)
 have nf : ∀ ob x, HO.frz ob x ≠ u₀ := fun ob x z => by rcases hu with ⟨vs, e⟩ | ⟨f, e⟩ <;> (rw [e] at z; cases z)
 have e : Ext K H α (upd H a u) α := ⟨fun b ws q => by
   rcases q with (q | ⟨o, q⟩) | q
   · exact .inl (.inl (by rw [zan (zi9 q hv (nt _))]; exact q))
   · exact .inl (.inr ⟨o, by rw [zan (zi9 q hv (nf _ _))]; exact q⟩)
   · exact .inr q, fun _ _ q => q⟩
 have hlt : n < S.length := (List.getElem?_eq_some_iff.mp hn).1
 have at' : ∀ {m : Nat} {o' : O}, (S.set n o)[m]? = some o' → (m = n ∧ o' = o) ∨ (m ≠ n ∧ S[m]? = some o') := fun {m o'} h1 => by
   by_cases hm : m = n
   · subst hm
     rw [List.getElem?_set_self hlt] at h1
     exact .inl ⟨rfl, (Option.some.inj h1).symm⟩
   · rw [List.getElem?_set_ne (Ne.symm hm)] at h1
     exact .inr ⟨hm, h1⟩
 refine ⟨⟨by simpa using h.len, fun m k o1 o2 b h1 h2 w1 w2 b1 b2 => ?_, fun m o' b h1 h2 => ?_⟩, e⟩
 · rcases at' h1 with ⟨e1, e2⟩ | ⟨n1, q1⟩ <;> rcases at' h2 with ⟨e3, e4⟩ | ⟨n2, q2⟩
   · rw [e1, e3]
   · rw [e1] at b1 ⊢
     exact h.nd _ _ o₀ o2 b hn q2 w₀ w2 b1 b2
   · rw [e3] at b2 ⊢
     exact h.nd _ _ o1 o₀ b q1 hn w1 w₀ b1 b2
   · exact h.nd _ _ o1 o2 b q1 q2 w1 w2 b1 b2
 · rcases at' h1 with ⟨rfl, rfl⟩ | ⟨hm, h1⟩
   · rw [ha] at h2; cases h2
     exact ho e
   · have q := h.obj m o' b h1 h2
     have hba : O.own o' = true → b ≠ a := fun w' z => hm (by subst z; exact h.nd m n o' o₀ b h1 hn w' w₀ h2 ha)
     cases o' with
     | lst ds => obtain ⟨ws, q1, q2⟩ := q; exact ⟨ws, by rw [zan (hba rfl)]; exact q1, q2.mono e⟩
     | frz ds =>
       obtain ⟨ws, q1, q2⟩ := q
       refine ⟨ws, ?_, q2.mono e⟩
       rcases q1 with ⟨ob, q1⟩ | q1
       · exact .inl ⟨ob, by rw [zan (zi9 q1 hv (nf _ _))]; exact q1⟩
       · exact .inr q1
     | ins C fs => obtain ⟨dx, gs, q1, q2, q3⟩ := q; exact ⟨dx, gs, by rw [zan (hba rfl)]; exact q1, q2, q3.mono e⟩
     | dct xs => obtain ⟨ys, q1, q2⟩ := q; exact ⟨ys, by rw [zan (hba rfl)]; exact q1, q2.mono e.tups⟩
end
mutual
def D.lo (n : Nat) : D → Bool
 | .tup xs => los n xs
 | .ref m => decide (m < n)
 | _ => true
def los (n : Nat) : List D → Bool
 | [] => true
 | d :: ds => D.lo n d && los n ds
end
def O.lo (n : Nat) : O → Bool
 | .lst xs => los n xs
 | .frz xs => los n xs
 | .ins _ fs => los n (fs.map (·.2))
 | .dct _ => true
section
variable {K : PySem.W.Frag} {H : Hp} {α β : List Addr}
mutual
theorem Rep.lo : ∀ {d : D} {v : V}, Rep K H α d v → D.lo α.length d = true
 | _, _, .non => by simp [D.lo]
 | _, _, .bl _ => by simp [D.lo]
 | _, _, .int _ => by simp [D.lo]
 | _, _, .str _ => by simp [D.lo]
 | _, _, .tup _ r => by rw [D.lo]; exact Reps.lo r
 | _, _, .ref h => by rw [D.lo]; exact decide_eq_true (List.getElem?_eq_some_iff.mp h).1
 | _, _, .ty _ => by simp [D.lo]
 | _, _, .adr _ => by simp [D.lo]
theorem Reps.lo : ∀ {ds : List D} {vs : List V}, Reps K H α ds vs → los α.length ds = true
 | _, _, .nil => by simp [los]
 | _, _, .cons h r => by rw [los, Rep.lo h, Reps.lo r]; rfl
end
mutual
theorem Rep.cut (n : Nat) : ∀ {d : D} {v : V}, Rep K H α d v → D.lo n d = true → Rep K H (α.take n) d v
 | _, _, .non, _ => .non
 | _, _, .bl b, _ => .bl b
 | _, _, .int i, _ => .int i
 | _, _, .str x, _ => .str x
 | _, _, .tup h r, b => .tup h (Reps.cut n r (by rw [D.lo] at b; exact b))
 | _, _, .ref h, b => .ref (by
     rw [D.lo] at b
     rw [List.getElem?_take_of_lt (of_decide_eq_true b)]; exact h)
 | _, _, .ty n, _ => .ty n
 | _, _, .adr a, _ => .adr a
theorem Reps.cut (n : Nat) : ∀ {ds : List D} {vs : List V}, Reps K H α ds vs → los n ds = true → Reps K H (α.take n) ds vs
 | _, _, .nil, _ => .nil
 | _, _, .cons h r, b => by
   rw [los, Bool.and_eq_true] at b
   exact .cons (Rep.cut n h b.1) (Reps.cut n r b.2)
end
theorem ObjR.lo {a : Addr} {o : O} (h : ObjR K H α a o) : O.lo α.length o = true := by
 cases o with
 | lst ds => obtain ⟨_, _, r⟩ := h; exact r.lo
 | frz ds => obtain ⟨_, _, r⟩ := h; exact r.lo
 | ins C fs => obtain ⟨_, _, _, _, r⟩ := h; exact r.lo
 | dct xs => rfl
theorem ObjR.cut {a : Addr} {o : O} (n : Nat) (h : ObjR K H α a o) (b : O.lo n o = true) : ObjR K H (α.take n) a o := by
 cases o with
 | lst ds => obtain ⟨vs, h1, r⟩ := h; exact ⟨vs, h1, r.cut n b⟩
 | frz ds => obtain ⟨vs, h1, r⟩ := h; exact ⟨vs, h1, r.cut n b⟩
 | ins C fs => obtain ⟨dx, gs, h1, h2, r⟩ := h; exact ⟨dx, gs, h1, h2, r.cut n b⟩
 | dct xs => exact h
def WF (S : So) : Prop := ∀ o ∈ S, O.lo S.length o = true
theorem StoreR.wf {S : So} (h : StoreR K H α S) : WF S := fun o ho => by
 obtain ⟨n, hn, e⟩ := List.mem_iff_getElem.mp ho
 have hn' : n < α.length := by rw [h.len]; exact hn
 have := (h.obj n o α[n] (by rw [List.getElem?_eq_some_iff]; exact ⟨hn, e⟩) (by simp)).lo
 rw [h.len] at this
 exact this
theorem StoreR.cut {S : So} (h : StoreR K H α S) (n : Nat) (b : ∀ o ∈ S.take n, O.lo n o = true) : StoreR K H (α.take n) (S.take n) := by
 have lt : ∀ {m : Nat} {o : O}, (S.take n)[m]? = some o → m < n := fun {m o} h1 => by
   have := (List.getElem?_eq_some_iff.mp h1).1
   simp at this; omega
 refine ⟨by simp [h.len], fun m k o1 o2 a h1 h2 w1 w2 a1 a2 => ?_, fun m o a h1 h2 => ?_⟩
 · have l1 := lt h1
   have l2 := lt h2
   rw [List.getElem?_take_of_lt l1] at h1 a1
   rw [List.getElem?_take_of_lt l2] at h2 a2
   exact h.nd m k o1 o2 a h1 h2 w1 w2 a1 a2
 have hm : m < n := by
   have := (List.getElem?_eq_some_iff.mp h1).1
   simp at this; omega
 have b1 := b o (List.mem_of_getElem? h1)
 rw [List.getElem?_take_of_lt hm] at h1 h2
 exact (h.obj m o a h1 h2).cut n b1
end
def intsT : List D → Option (List Int)
 | [] => some []
 | d :: r => match d with
   | .int i => (intsT r).map fun l => i :: l
   | _ => none
def nkRow : D → Option (List Int)
 | .tup ds => intsT ds
 | _ => none
def nkRows : List D → Option NK
 | [] => some []
 | d :: r => (nkRow d).bind fun k => (nkRows r).map fun ks => k :: ks
def nkOf : D → Option NK
 | .tup ds => nkRows ds
 | _ => none
def kD (k : NK) : D := .tup (k.map fun ks => .tup (ks.map .int))
section
variable {K : PySem.W.Frag} {H : Hp} {α : List Addr}
theorem zey : ∀ {ds : List D} {l : List Int} {vs : List V}, intsT ds = some l → Reps K H α ds vs → vs = l.map V.int
 | [], l, vs, h, r => by cases h; cases r; rfl
 | d :: ds, l, _, h, .cons r rr => by
   unfold intsT at h
   split at h
   · simp only [Option.map_eq_some_iff] at h
     obtain ⟨l', e, rfl⟩ := h
     cases r
     rw [zey e rr]; rfl
   · cases h
theorem zd2 : ∀ {ds : List D} {k : NK} {vs : List V}, nkRows ds = some k → Reps K H α ds vs → ∃ bs : List Addr, vs = bs.map V.ref ∧ Paired (fun (ks : List Int) (c : Addr) => SqT K H c (ks.map V.int)) k bs
 | [], k, vs, h, r => by cases h; cases r; exact ⟨[], rfl, .nil⟩
 | d :: ds, k, _, h, .cons r rr => by
   unfold nkRows at h
   simp only [Option.bind_eq_some_iff, Option.map_eq_some_iff] at h
   obtain ⟨l, e1, ks, e2, rfl⟩ := h
   obtain ⟨bs, h1, h2⟩ := zd2 e2 rr
   cases r with
   | tup hq hr =>
     have e3 := zey (show intsT _ = some l from e1) hr
     subst e3
     exact ⟨_ :: bs, by rw [h1]; rfl, .cons hq h2⟩
   | _ => cases e1
theorem zdu {d : D} {k : NK} {v : V} (h : nkOf d = some k) (r : Rep K H α d v) : ∃ b, v = .ref b ∧ NKey K H k b := by
 cases r with
 | tup hq hr =>
   obtain ⟨bs, h1, h2⟩ := zd2 (show nkRows _ = some k from h) hr
   subst h1
   exact ⟨_, rfl, bs, hq, h2⟩
 | _ => cases h
theorem zdG : ∀ l : List Int, Reps K H α (l.map .int) (l.map V.int)
 | [] => .nil
 | i :: l => .cons (.int i) (zdG l)
theorem zht {k : NK} {b : Addr} (h : NKey K H k b) : Rep K H α (kD k) (.ref b) := by
 obtain ⟨bs, h1, h2⟩ := h
 refine .tup h1 ?_
 clear h1
 induction h2 with
 | nil => exact .nil
 | cons hc _ ih => exact .cons (.tup hc (zdG _)) ih
end
end MX
end
section
set_option autoImplicit false
namespace MX
open PySem PySem.Spec PyProof.Rows L2
open Builtin.Int (intBits)
abbrev EF := Sg → So → Option (D × So)
def Kt (K : PySem.W.Frag) (H : Hp) (α : List Addr) (z : D) (S' : So) (Q : VK) : Prop :=
 ∀ w H' α', StoreR K H' α' S' → Ext K H α H' α' → Rep K H' α' z w → Q w H'
def rdE (K : PySem.W.Frag) (f : EF) : TE := fun σ H Q => ∃ σd S α z S', VarsR K H α σd σ ∧ StoreR K H α S ∧ f σd S = some (z, S') ∧ Kt K H α z S' Q
def SE (X : Cx) (e : Expr) (f : EF) : Prop := PE X e (rdE X.K f)
theorem PE.imp {X : Cx} {e : Expr} {t t' : TE} (h : PE X e t) (k : ∀ σ H Q, t' σ H Q → t σ H Q) : PE X e t' := fun pins s σ H Q I q => h pins s σ H Q I (k σ H Q q)
abbrev G2 := D → D → So → Option (D × So)
abbrev GN := List D → So → Option (D × So)
def rdOp (K : PySem.W.Frag) (g : G2) : R2 := fun v u H Q => ∃ S α x y z S', StoreR K H α S ∧ Rep K H α x v ∧ Rep K H α y u ∧ g x y S = some (z, S') ∧ Kt K H α z S' Q
def rdC (K : PySem.W.Frag) (g : GN) : List V → Hp → VK → Prop := fun vs H Q => ∃ S α ds z S', StoreR K H α S ∧ Reps K H α ds vs ∧ g ds S = some (z, S') ∧ Kt K H α z S' Q
theorem Kt.same {K : PySem.W.Frag} {H : Hp} {α : List Addr} {z : D} {S : So} {Q : VK} {w : V} (k : Kt K H α z S Q) (s : StoreR K H α S) (r : Rep K H α z w) : Q w H := k w H α s Ext.refl r
theorem Kt.new {K : PySem.W.Frag} {H H' : Hp} {α : List Addr} {z : D} {S : So} {Q : VK} {w : V} (k : Kt K H α z S Q) (s : StoreR K H α S) (m : Same H H') (r : Rep K H' α z w) : Q w H' := k w H' α (s.mono m) (Same.ext m) r
theorem Kt.trans {K : PySem.W.Frag} {H H1 : Hp} {α α1 : List Addr} {z : D} {S' : So} {Q : VK} (k : Kt K H α z S' Q) (e : Ext K H α H1 α1) : Kt K H1 α1 z S' Q := fun w H' α' s x r => k w H' α' s (e.trans x) r
def mulOk (i j : Int) : Bool := decide (intBits i ≤ 64) || decide (intBits j ≤ 64) || decide (intBits i + intBits j ≤ 134217728)
theorem mulOk.ok {i j : Int} (h : mulOk i j = true) : IntMulOk i j := by
 unfold mulOk at h
 rw [Bool.or_eq_true, Bool.or_eq_true] at h
 rcases h with (h | h) | h
 · exact .of_left (of_decide_eq_true h)
 · exact .of_right (of_decide_eq_true h)
 · exact IntMulOk.of_le (Nat.le_refl _) (Nat.le_refl _) (of_decide_eq_true h)
def divOk (j : Int) : Bool := decide (j ≠ 0) && decide (intBits j ≤ 8000)
theorem divOk.ok {i j : Int} (h : divOk j = true) : j ≠ 0 ∧ Builtin.divisionGoesByPylong i j = false := by
 unfold divOk at h
 rw [Bool.and_eq_true] at h
 have h1 : j ≠ 0 := of_decide_eq_true h.1
 have h2 : intBits j ≤ 8000 := of_decide_eq_true h.2
 refine ⟨h1, PyProof.noPylong_of_log2 ?_⟩
 have hb : (j == 0) = false := by simpa using h1
 unfold Builtin.Int.intBits at h2
 rw [hb] at h2
 simp only [Bool.false_eq_true, if_false] at h2
 omega
section
variable {X : Cx}
theorem zi2 : OpR X (binaryOp .Mult) (rI (fun i j => mulOk i j = true) fun i j => .int (i * j)) := opI fun _ _ _ _ _ _ _ hc q => mul_int q (mulOk.ok hc)
theorem zi4 : OpR X (binaryOp .FloorDiv) (rI (fun _ j => divOk j = true) fun i j => .int (i.fdiv j)) := opI fun _ _ _ _ _ _ _ hc q => floordiv_int (divOk.ok (i := 0) hc).1 q (.inl (divOk.ok hc).2)
end
def gAdd : G2
 | .int i, .int j, S => some (.int (i + j), S)
 | .str a, .str b, S => if a.length + b.length ≤ sizeLine then some (.str (a ++ b), S) else none
 | .tup xs, .tup ys, S => if xs ≠ [] ∧ xs.length + ys.length ≤ sizeLine then some (.tup (xs ++ ys), S) else none
 | .ref n, .ref m, S => match S[n]?, S[m]? with
   | some (.lst xs), some (.lst ys) => if xs.length + ys.length ≤ sizeLine then some (.ref S.length, S ++ [.lst (xs ++ ys)]) else none
   | _, _ => none
 | _, _, _ => none
def gSub : G2
 | .int i, .int j, S => some (.int (i - j), S)
 | _, _, _ => none
def gMul : G2
 | .int i, .int j, S => if mulOk i j = true then some (.int (i * j), S) else none
 | _, _, _ => none
def gDiv : G2
 | .int i, .int j, S => if divOk j = true then some (.int (i.fdiv j), S) else none
 | _, _, _ => none
def gMod : G2
 | .int i, .int j, S => if j ≠ 0 then some (.int (i.fmod j), S) else none
 | _, _, _ => none
def gShl : G2
 | .int i, .int j, S => if 0 ≤ j ∧ j ≤ 1000000 ∧ i.natAbs < 2 ^ 64 then some (.int (i * 2 ^ j.toNat), S) else none
 | _, _, _ => none
def gPow : G2
 | .int i, .int j, S => if 0 ≤ j ∧ j ≤ 1000000 ∧ i.natAbs < 2 ^ 64 then some (.int (i ^ j.toNat), S) else none
 | _, _, _ => none
def gBin : Operator → G2
 | .Add => gAdd
 | .Sub => gSub
 | .Mult => gMul
 | .FloorDiv => gDiv
 | .Mod => gMod
 | .LShift => gShl
 | .Pow => gPow
 | _ => fun _ _ _ => none
section
variable {X : Cx}
theorem zi0 : OpR X (binaryOp .Add) (rdOp X.K gAdd) := by
 intro pins s σ H v u vv uu Q I rv ru h
 obtain ⟨S, α, x, y, z, S', hs, rx, ry, hg, k⟩ := h
 unfold gAdd at hg
 split at hg
 · cases hg; cases rx; cases ry
   exact zkG pins s σ H _ _ _ _ Q I rv ru ⟨_, _, rfl, rfl, k.same hs (.int _)⟩
 · split at hg
   · rename_i hl
     cases hg; cases rx; cases ry
     exact zfE pins s σ H _ _ _ _ Q I rv ru ⟨_, _, rfl, rfl, hl, k.same hs (.str _)⟩
   · cases hg
 · split at hg
   · rename_i hl
     cases hg
     cases rx with
     | tup h1 r1 =>
       cases ry with
       | tup h2 r2 =>
         refine zi5 pins s σ H _ _ _ _ Q I rv ru ⟨_, _, _, _, rfl, rfl, h1, h2, ?_, ?_, ?_, ?_⟩
         · intro e; subst e; cases r1; exact hl.1 rfl
         · rw [← r1.length, ← r2.length]; exact hl.2
         · intro e; subst e; cases r2
           exact k.same hs (.tup h1 (by rw [List.append_nil]; exact r1))
         · intro _ p hp
           exact k.new hs (zaS hp) (.tup (SqT.of zaj) ((r1.append r2).mono (Same.ext (zaS hp))))
   · cases hg
 · split at hg
   · rename_i n m xs ys e1 e2
     split at hg
     · rename_i hl
       cases hg
       cases rx with
       | ref a1 =>
         cases ry with
         | ref a2 =>
           obtain ⟨vs, h1, r1⟩ := hs.obj _ _ _ e1 a1
           obtain ⟨ws, h2, r2⟩ := hs.obj _ _ _ e2 a2
           refine zkF pins s σ H _ _ _ _ Q I rv ru ⟨_, _, _, _, rfl, rfl, h1, h2, by rw [← r1.length, ← r2.length]; exact hl, fun p hp => ?_⟩
           obtain ⟨s', e'⟩ := hs.snoc (p := p) (o := .lst (xs ++ ys)) (u := .lst (vs ++ ws)) hp fun α' e => ⟨_, zaj, (r1.append r2).mono e⟩
           exact k _ _ _ s' e' (.ref (by rw [← hs.len]; simp))
     · cases hg
   · cases hg
 · cases hg
theorem ziP : OpR X (binaryOp .Sub) (rdOp X.K gSub) := by
 intro pins s σ H v u vv uu Q I rv ru h
 obtain ⟨S, α, x, y, z, S', hs, rx, ry, hg, k⟩ := h
 unfold gSub at hg
 split at hg
 · cases hg; cases rx; cases ry
   exact zkB pins s σ H _ _ _ _ Q I rv ru ⟨_, _, rfl, rfl, k.same hs (.int _)⟩
 · cases hg
theorem ziU : OpR X (binaryOp .Mult) (rdOp X.K gMul) := by
 intro pins s σ H v u vv uu Q I rv ru h
 obtain ⟨S, α, x, y, z, S', hs, rx, ry, hg, k⟩ := h
 unfold gMul at hg
 split at hg
 · split at hg
   · rename_i hc
     cases hg; cases rx; cases ry
     exact zi2 pins s σ H _ _ _ _ Q I rv ru ⟨_, _, rfl, rfl, hc, k.same hs (.int _)⟩
   · cases hg
 · cases hg
theorem ziY : OpR X (binaryOp .FloorDiv) (rdOp X.K gDiv) := by
 intro pins s σ H v u vv uu Q I rv ru h
 obtain ⟨S, α, x, y, z, S', hs, rx, ry, hg, k⟩ := h
 unfold gDiv at hg
 split at hg
 · split at hg
   · rename_i hc
     cases hg; cases rx; cases ry
     exact zi4 pins s σ H _ _ _ _ Q I rv ru ⟨_, _, rfl, rfl, hc, k.same hs (.int _)⟩
   · cases hg
 · cases hg
theorem ziV : OpR X (binaryOp .Mod) (rdOp X.K gMod) := by
 intro pins s σ H v u vv uu Q I rv ru h
 obtain ⟨S, α, x, y, z, S', hs, rx, ry, hg, k⟩ := h
 unfold gMod at hg
 split at hg
 · split at hg
   · rename_i hc
     cases hg; cases rx; cases ry
     exact zi3 pins s σ H _ _ _ _ Q I rv ru ⟨_, _, rfl, rfl, hc, k.same hs (.int _)⟩
   · cases hg
 · cases hg
theorem ziQ : OpR X (binaryOp .LShift) (rdOp X.K gShl) := by
 intro pins s σ H v u vv uu Q I rv ru h
 obtain ⟨S, α, x, y, z, S', hs, rx, ry, hg, k⟩ := h
 unfold gShl at hg
 split at hg
 · split at hg
   · rename_i hc
     cases hg; cases rx; cases ry
     exact zkC pins s σ H _ _ _ _ Q I rv ru ⟨_, _, rfl, rfl, hc, k.same hs (.int _)⟩
   · cases hg
 · cases hg
theorem ziR : OpR X (binaryOp .Pow) (rdOp X.K gPow) := by
 intro pins s σ H v u vv uu Q I rv ru h
 obtain ⟨S, α, x, y, z, S', hs, rx, ry, hg, k⟩ := h
 unfold gPow at hg
 split at hg
 · split at hg
   · rename_i hc
     cases hg; cases rx; cases ry
     exact zkD pins s σ H _ _ _ _ Q I rv ru ⟨_, _, rfl, rfl, hc, k.same hs (.int _)⟩
   · cases hg
 · cases hg
theorem ziZ : ∀ op : Operator, OpR X (binaryOp op) (rdOp X.K (gBin op)) := by
 intro op
 cases op
 case Add => exact zi0
 case Sub => exact ziP
 case Mult => exact ziU
 case FloorDiv => exact ziY
 case Mod => exact ziV
 case LShift => exact ziQ
 case Pow => exact ziR
 all_goals
   intro pins s σ H v u vv uu Q I rv ru h
   obtain ⟨S, α, x, y, z, S', hs, rx, ry, hg, k⟩ := h
   exact absurd hg (by simp [gBin])
end
def toPl (f : D → Option PyData) : List D → Option (List PyData)
 | [] => some []
 | d :: ds => (f d).bind fun p => (toPl f ds).map fun ps => p :: ps
def toP (S : So) : Nat → D → Option PyData
 | 0, _ => none
 | _ + 1, .non => some .none
 | _ + 1, .bl b => some (.bool b)
 | _ + 1, .int i => some (.int i)
 | _ + 1, .str x => some (.str x)
 | n + 1, .tup ds => (toPl (toP S n) ds).map .tuple
 | n + 1, .ref m => match S[m]? with
   | some (.lst ds) => (toPl (toP S n) ds).map .list
   | some (.frz ds) => (toPl (toP S n) ds).map .list
   | _ => none
 | _ + 1, _ => none
theorem zdT {X : Cx} {s : Shared} {H : Hp} {α : List Addr} {f : D → Option PyData} (hf : ∀ d v u p, Rep X.K H α d v → RelV v u → f d = some p → ∃ as, Reads s.heap u p as) :
   ∀ ds vs us ps, Reps X.K H α ds vs → Vals vs us → toPl f ds = some ps → ∃ as, ReadsAll s.heap us ps as
 | _, _, _, _, .nil, .nil, e => by simp [toPl] at e; subst e; exact ⟨_, .nil⟩
 | _, _, _, _, .cons r rr, .cons rv rvs, e => by
   simp only [toPl, Option.bind_eq_some_iff, Option.map_eq_some_iff] at e
   obtain ⟨p, e1, ps, e2, rfl⟩ := e
   obtain ⟨as, ra⟩ := hf _ _ _ _ r rv e1
   obtain ⟨bs, rb⟩ := zdT hf _ _ _ _ rr rvs e2
   exact ⟨_, .cons ra rb⟩
theorem zcl {X : Cx} {pins : List (Addr × Obj)} {s : Shared} {σ : L2.St} {H : Hp} {α : List Addr} {S : So} (I : Inv X pins σ H s) (hs : StoreR X.K H α S) : ∀ (n : Nat) d v u p, Rep X.K H α d v → RelV v u → toP S n d = some p → ∃ as, Reads s.heap u p as
 | 0, d, v, u, p, _, _, e => by simp [toP] at e
 | n + 1, d, v, u, p, r, rv, e => by
   have ih := zdT (X := X) (s := s) (zcl I hs n)
   cases r with
   | non => cases rv; simp [toP] at e; subst e; exact ⟨_, .none⟩
   | bl b => cases rv; simp [toP] at e; subst e; exact ⟨_, .bool b⟩
   | int i => obtain ⟨t, rfl⟩ := rv; simp [toP] at e; subst e; exact ⟨_, .int i t⟩
   | str x => obtain ⟨t, rfl⟩ := rv; simp [toP] at e; subst e; exact ⟨_, .str x t⟩
   | tup h r =>
     cases rv
     simp only [toP, Option.map_eq_some_iff] at e
     obtain ⟨ps, e1, rfl⟩ := e
     obtain ⟨its, r', ⟨o, ho, hc, m, hd⟩, _⟩ := I.tuple h
     obtain ⟨as, ra⟩ := ih _ _ _ _ r r' e1
     exact ⟨_, .tuple ho hc hd (by simpa using ra)⟩
   | @ref m a h =>
     cases rv
     simp only [toP] at e
     cases hm : S[m]? with
     | none => rw [hm] at e; simp at e
     | some o =>
       rw [hm] at e
       have hob := hs.obj _ _ _ hm h
       cases o with
       | lst ds =>
         simp only [Option.map_eq_some_iff] at e
         obtain ⟨ps, e1, rfl⟩ := e
         obtain ⟨vs, h1, r⟩ := hob
         obtain ⟨its, r', ⟨o, m, ho, hc, hdd, hd⟩, _⟩ := I.list (SqL.of (K := X.K) h1)
         obtain ⟨as, ra⟩ := ih _ _ _ _ r r' e1
         exact ⟨_, .list ho hc hd (by simpa using ra)⟩
       | frz ds =>
         simp only [Option.map_eq_some_iff] at e
         obtain ⟨ps, e1, rfl⟩ := e
         obtain ⟨vs, h1, r⟩ := hob
         obtain ⟨its, r', ⟨o, m, ho, hc, hdd, hd⟩, _⟩ := I.list h1.sq
         obtain ⟨as, ra⟩ := ih _ _ _ _ r r' e1
         exact ⟨_, .list ho hc hd (by simpa using ra)⟩
       | ins C fs => simp at e
       | dct xs => simp at e
   | ty n => simp [toP] at e
   | adr a => simp [toP] at e
def eqD (S : So) (x y : D) : Option Bool := (toP S 24 x).bind fun p => (toP S 24 y).bind fun q => if SeqAt.shaped p = true ∧ SeqAt.shaped q = true then some (PyData.eqv p q) else none
def isNon : D → Bool
 | .non => true
 | _ => false
def gCmp : CmpOp → G2
 | .Lt, .int i, .int j, S => some (.bl (decide (i < j)), S)
 | .LtE, .int i, .int j, S => some (.bl (decide (i ≤ j)), S)
 | .Gt, .int i, .int j, S => some (.bl (decide (j < i)), S)
 | .GtE, .int i, .int j, S => some (.bl (decide (j ≤ i)), S)
 | .Eq, .int i, .int j, S => some (.bl (decide (i = j)), S)
 | .NotEq, .int i, .int j, S => some (.bl (!decide (i = j)), S)
 | .Eq, x, y, S => (eqD S x y).map fun b => (.bl b, S)
 | .NotEq, x, y, S => (eqD S x y).map fun b => (.bl (!b), S)
 | .Is, x, .non, S => some (.bl (isNon x), S)
 | .IsNot, x, .non, S => some (.bl (!isNon x), S)
 | .Is, .bl a, .bl b, S => some (.bl (a == b), S)
 | .IsNot, .bl a, .bl b, S => some (.bl (!(a == b)), S)
 | _, _, _, _ => none
theorem zf4 {K : PySem.W.Frag} {H : Hp} {α : List Addr} {x : D} {v : V} (r : Rep K H α x v) : decide (v = .non) = isNon x := by
 cases r <;> simp [isNon]
section
variable {X : Cx}
theorem ziW : OpR X (compareOp .Eq) (rI0 fun i j => .bl (decide (i = j))) := opB0 fun _ _ _ _ _ _ _ q => eq_int (by rw [Bool.beq_eq_decide_eq]; exact q)
theorem ziS : OpR X (compareOp .NotEq) (rI0 fun i j => .bl (!decide (i = j))) := opB0 fun _ _ _ _ _ _ _ q => ne_int (by rw [bne, Bool.beq_eq_decide_eq]; exact q)
theorem ziX {pins : List (Addr × Obj)} {s : Shared} {σ : L2.St} {H : Hp} {v u : V} {vv uu : Value} {Q : VK} {S : So} {α : List Addr} {x y : D} {b : Bool} (hu : X.A.units + 64 < cLine) (I : Inv X pins σ H s) (rv : RelV v vv) (ru : RelV u uu)
   (hs : StoreR X.K H α S) (rx : Rep X.K H α x v) (ry : Rep X.K H α y u) (hg : eqD S x y = some b) (k : Q (.bl b) H) : wpAny (model X.prog X.w) X.A (compareOp .Eq vv uu) (EP X pins σ Q) X.xe s := by
 unfold eqD at hg
 simp only [Option.bind_eq_some_iff] at hg
 obtain ⟨p, e1, q, e2, hg⟩ := hg
 split at hg
 · rename_i hc
   obtain ⟨as, ra⟩ := zcl I hs 24 _ _ _ _ rx rv e1
   obtain ⟨bs, rb⟩ := zcl I hs 24 _ _ _ _ ry ru e2
   cases hg
   exact SeqAt.compareEq_shaped ra rb hc.1 hc.2 hu ⟨.bl _, H, I, rfl, k⟩
 · cases hg
theorem ziT {pins : List (Addr × Obj)} {s : Shared} {σ : L2.St} {H : Hp} {v u : V} {vv uu : Value} {Q : VK} {S : So} {α : List Addr} {x y : D} {b : Bool} (hu : X.A.units + 64 < cLine) (I : Inv X pins σ H s) (rv : RelV v vv) (ru : RelV u uu)
   (hs : StoreR X.K H α S) (rx : Rep X.K H α x v) (ry : Rep X.K H α y u) (hg : eqD S x y = some b) (k : Q (.bl (!b)) H) : wpAny (model X.prog X.w) X.A (compareOp .NotEq vv uu) (EP X pins σ Q) X.xe s := by
 unfold eqD at hg
 simp only [Option.bind_eq_some_iff] at hg
 obtain ⟨p, e1, q, e2, hg⟩ := hg
 split at hg
 · rename_i hc
   obtain ⟨as, ra⟩ := zcl I hs 24 _ _ _ _ rx rv e1
   obtain ⟨bs, rb⟩ := zcl I hs 24 _ _ _ _ ry ru e2
   cases hg
   exact SeqAt.compareNe_shaped ra rb hc.1 hc.2 hu ⟨.bl _, H, I, rfl, k⟩
 · cases hg
theorem zga (hu : X.A.units + 64 < cLine) : ∀ op : CmpOp, OpR X (compareOp op) (rdOp X.K (gCmp op)) := by
 intro op pins s σ H v u vv uu Q I rv ru h
 obtain ⟨S, α, x, y, z, S', hs, rx, ry, hg, k⟩ := h
 unfold gCmp at hg
 split at hg
 · cases hg; cases rx; cases ry
   exact zlG pins s σ H _ _ _ _ Q I rv ru ⟨_, _, rfl, rfl, k.same hs (.bl _)⟩
 · cases hg; cases rx; cases ry
   exact zlH pins s σ H _ _ _ _ Q I rv ru ⟨_, _, rfl, rfl, k.same hs (.bl _)⟩
 · cases hg; cases rx; cases ry
   exact zlI pins s σ H _ _ _ _ Q I rv ru ⟨_, _, rfl, rfl, k.same hs (.bl _)⟩
 · cases hg; cases rx; cases ry
   exact zlJ pins s σ H _ _ _ _ Q I rv ru ⟨_, _, rfl, rfl, k.same hs (.bl _)⟩
 · cases hg; cases rx; cases ry
   exact ziW pins s σ H _ _ _ _ Q I rv ru ⟨_, _, rfl, rfl, k.same hs (.bl _)⟩
 · cases hg; cases rx; cases ry
   exact ziS pins s σ H _ _ _ _ Q I rv ru ⟨_, _, rfl, rfl, k.same hs (.bl _)⟩
 · simp only [Option.map_eq_some_iff] at hg
   obtain ⟨b, e, hg⟩ := hg
   cases hg
   exact ziX hu I rv ru hs rx ry e (k.same hs (.bl _))
 · simp only [Option.map_eq_some_iff] at hg
   obtain ⟨b, e, hg⟩ := hg
   cases hg
   exact ziT hu I rv ru hs rx ry e (k.same hs (.bl _))
 · cases hg; cases ry
   exact zkE pins s σ H _ _ _ _ Q I rv ru ⟨rfl, by rw [zf4 rx]; exact k.same hs (.bl _)⟩
 · cases hg; cases ry
   refine zi1 pins s σ H _ _ _ _ Q I rv ru ⟨rfl, ?_⟩
   rw [zf4 rx]
   exact k.same hs (.bl _)
 · cases hg; cases rx; cases ry; cases rv; cases ru
   exact is_bool (zfj I (k.same hs (.bl _)) rfl)
 · cases hg; cases rx; cases ry; cases rv; cases ru
   exact isnot_bool (zfj I (k.same hs (.bl _)) rfl)
 · cases hg
end
def gIx : G2
 | .tup xs, .int i, S => (atI xs i).map fun z => (z, S)
 | .ref n, .int i, S => match S[n]? with
   | some (.lst xs) => (atI xs i).map fun z => (z, S)
   | some (.frz xs) => (atI xs i).map fun z => (z, S)
   | _ => none
 | .str z, .int i, S => if z.length ≤ sizeLine then (atI z.cps.toList i).map fun c => (.str ⟨#[c]⟩, S) else none
 | _, _, _ => none
theorem ze9 {K : PySem.W.Frag} {H : Hp} {α : List Addr} {ds : List D} {vs : List V} {i : Int} {z : D} (r : Reps K H α ds vs) (h : atI ds i = some z) : ∃ w, atI vs i = some w ∧ Rep K H α z w := by
 unfold atI at h ⊢
 rw [← r.length]
 cases e : ixN ds.length i with
 | none => rw [e] at h; simp at h
 | some j =>
   rw [e] at h
   exact r.get h
theorem ixs {X : Cx} : IxR X (rdOp X.K gIx) := by
 intro value slice pins s σ H v u vv uu Q I rv ru h hsub
 obtain ⟨S, α, x, y, z, S', hs, rx, ry, hg, k⟩ := h
 unfold gIx at hg
 split at hg
 · simp only [Option.map_eq_some_iff] at hg
   obtain ⟨b, e, hg⟩ := hg
   cases hg; cases ry
   cases rx with
   | tup h r =>
     obtain ⟨w, e', rw'⟩ := ze9 r e
     exact zkT value slice pins s σ H _ _ _ _ Q I rv ru ⟨_, _, _, _, rfl, rfl, h, e', k.same hs rw'⟩ hsub
 · cases ry
   cases rx with
   | ref h =>
     rename_i n i a
     cases hm : S[n]? with
     | none => rw [hm] at hg; simp at hg
     | some o =>
       rw [hm] at hg
       have hob := hs.obj _ _ _ hm h
       cases o with
       | lst ds =>
         simp only [Option.map_eq_some_iff] at hg
         obtain ⟨b, e, hg⟩ := hg
         cases hg
         obtain ⟨vs, h1, r⟩ := hob
         obtain ⟨w, e', rw'⟩ := ze9 r e
         exact zgq value slice pins s σ H _ _ _ _ Q I rv ru ⟨_, _, _, _, rfl, rfl, SqL.of h1, e', k.same hs rw'⟩ hsub
       | frz ds =>
         simp only [Option.map_eq_some_iff] at hg
         obtain ⟨b, e, hg⟩ := hg
         cases hg
         obtain ⟨vs, h1, r⟩ := hob
         obtain ⟨w, e', rw'⟩ := ze9 r e
         exact zgq value slice pins s σ H _ _ _ _ Q I rv ru ⟨_, _, _, _, rfl, rfl, h1.sq, e', k.same hs rw'⟩ hsub
       | ins C fs => simp at hg
       | dct xs => simp at hg
 · split at hg
   · rename_i hl
     simp only [Option.map_eq_some_iff] at hg
     obtain ⟨b, e, hg⟩ := hg
     cases hg; cases rx; cases ry
     exact zkU value slice pins s σ H _ _ _ _ Q I rv ru ⟨_, _, _, rfl, rfl, hl, e, k.same hs (.str _)⟩ hsub
   · cases hg
 · cases hg
end MX
end
section
set_option autoImplicit false
namespace MX
open PySem PySem.Spec PyProof.Rows L2
theorem zdy (names : List (Str × NameKind)) : ∀ (n : Nat) (acc : List (Str × Addr)), cellsFrom n names acc = cellsFrom n names [] ++ acc := by
 induction names with
 | nil => intro n acc; simp [cellsFrom]
 | cons p r ih =>
   intro n acc
   obtain ⟨x, k⟩ := p
   unfold cellsFrom
   split
   · rw [ih, ih _ [(x, n)], List.append_assoc]; rfl
   · exact ih n acc
theorem zfq {names : List (Str × NameKind)} : ∀ {n : Nat} {x : Str} {c : Addr}, (x, c) ∈ cellsFrom n names [] → n ≤ c ∧ (x, NameKind.cell) ∈ names := by
 induction names with
 | nil => intro n x c h; simp [cellsFrom] at h
 | cons p r ih =>
   intro n x c h
   obtain ⟨y, k⟩ := p
   unfold cellsFrom at h
   split at h
   · rename_i hk
     rw [zdy, List.mem_append] at h
     rcases h with h | h
     · have := ih h
       exact ⟨by omega, List.mem_cons_of_mem _ this.2⟩
     · have e : (x, c) = (y, n) := by simpa using h
       cases e
       have : k = NameKind.cell := by simpa using hk
       subst this
       exact ⟨Nat.le_refl _, List.mem_cons_self⟩
   · have := ih h
     exact ⟨this.1, List.mem_cons_of_mem _ this.2⟩
theorem zaU {α : Type} (x : Str) : ∀ (l r : List (Str × α)), (l ++ r).lookup x = (l.lookup x).or (r.lookup x)
 | [], r => by simp
 | (k, v) :: l, r => by
   rw [List.cons_append, List.lookup_cons, List.lookup_cons]
   cases x == k with
   | true => rfl
   | false => exact zaU x l r
theorem zdO {names : List (Str × NameKind)} {n : Nat} {acc : List (Str × Addr)} {x : Str} {c : Addr} (h : (cellsFrom n names acc).lookup x = some c) :
   ((cellsFrom n names []).lookup x = some c) ∨ ((cellsFrom n names []).lookup x = none ∧ acc.lookup x = some c) := by
 rw [zdy, zaU] at h
 cases e : (cellsFrom n names []).lookup x with
 | some d => rw [e] at h; exact .inl h
 | none => rw [e] at h; exact .inr ⟨rfl, h⟩
theorem zem {env : Env} (f : Str × NameKind → List (Str × Addr) → Sem (ForInStep (List (Str × Addr))))
   (hf : ∀ name kind cs, f (name, kind) cs = if (kind == NameKind.free) = true then (do let a ← cellOf env name; pure (.yield ((name, a) :: cs))) else pure (.yield cs)) :
   ∀ (names : List (Str × NameKind)) (acc : List (Str × Addr)), (∀ y ∈ names, y.2 = .free → ∃ c, env.cells.lookup y.1 = some c) → ∃ cl, forIn names acc f = pure cl ∧
     (∀ x c, cl.lookup x = some c → acc.lookup x = some c ∨ ((x, NameKind.free) ∈ names ∧ env.cells.lookup x = some c)) ∧ ∀ x, ((x, NameKind.free) ∈ names ∨ ∃ c, acc.lookup x = some c) → ∃ c, cl.lookup x = some c
 | [], acc, _ => ⟨acc, by rw [List.forIn_nil], fun x c h => .inl h, fun x h => by
     rcases h with h | h
     · cases h
     · exact h⟩
 | (y, k) :: r, acc, h => by
   by_cases hk : k = NameKind.free
   · subst hk
     obtain ⟨c, hc⟩ := h (y, .free) List.mem_cons_self rfl
     obtain ⟨cl, e, h1, h2⟩ := zem f hf r ((y, c) :: acc) fun z hz => h z (List.mem_cons_of_mem _ hz)
     refine ⟨cl, ?_, fun x d hx => ?_, fun x hx => h2 x ?_⟩
     · rw [List.forIn_cons, hf]
       have e1 : cellOf env y = pure c := by unfold cellOf; rw [hc]
       simp only [beq_self_eq_true, if_true, e1, pure_bind]
       exact e
     · rcases h1 x d hx with q | ⟨q1, q2⟩
       · rw [List.lookup_cons] at q
         cases hb : x == y with
         | true =>
           rw [hb] at q; cases q
           obtain rfl : x = y := by simpa using hb
           exact .inr ⟨List.mem_cons_self, hc⟩
         | false => rw [hb] at q; exact .inl q
       · exact .inr ⟨List.mem_cons_of_mem _ q1, q2⟩
     · rcases hx with hx | ⟨d, hx⟩
       · rcases List.mem_cons.mp hx with q | q
         · cases q
           exact .inr ⟨c, by simp⟩
         · exact .inl q
       · cases hb : x == y with
         | true => exact .inr ⟨c, by rw [List.lookup_cons, hb]⟩
         | false => exact .inr ⟨d, by rw [List.lookup_cons, hb]; exact hx⟩
   · have hb : (k == NameKind.free) = false := by simpa using hk
     obtain ⟨cl, e, h1, h2⟩ := zem f hf r acc fun z hz => h z (List.mem_cons_of_mem _ hz)
     refine ⟨cl, ?_, fun x d hx => ?_, fun x hx => h2 x ?_⟩
     · rw [List.forIn_cons, hf, hb]
       simp only [Bool.false_eq_true, if_false, pure_bind]
       exact e
     · rcases h1 x d hx with q | ⟨q1, q2⟩
       · exact .inl q
       · exact .inr ⟨List.mem_cons_of_mem _ q1, q2⟩
     · rcases hx with hx | hx
       · rcases List.mem_cons.mp hx with q | q
         · cases q; exact absurd rfl hk
         · exact .inl q
       · exact .inr hx
theorem zjz {scope : Scope} {env : Env} (h : ∀ y ∈ scope.names, y.2 = .free → ∃ c, env.cells.lookup y.1 = some c) : ∃ cl, closureFor scope env = pure cl ∧
   (∀ x c, cl.lookup x = some c → (x, NameKind.free) ∈ scope.names ∧ env.cells.lookup x = some c) ∧ ∀ x, (x, NameKind.free) ∈ scope.names → ∃ c, cl.lookup x = some c := by
 obtain ⟨cl, e, h1, h2⟩ := zem (env := env) (fun x cs => if (x.2 == NameKind.free) = true then (do let a ← cellOf env x.1; pure (.yield ((x.1, a) :: cs))) else pure (.yield cs)) (fun _ _ _ => rfl) scope.names [] h
 refine ⟨cl, ?_, fun x c q => ?_, fun x q => h2 x (.inl q)⟩
 · unfold closureFor
   show (forIn scope.names [] _ >>= fun cs => pure cs) = _
   rw [show (forIn scope.names ([] : List (Str × Addr)) _ : Sem (List (Str × Addr))) = _ from e]
   rfl
 · rcases h1 x c q with z | z
   · simp at z
   · exact z
theorem zbF {env : Env} : ∀ {names : List (Str × NameKind)} {x : Str},
   (names.map fun (n, k) => if (k == NameKind.free && env.scope.kind == .function && env.kindOf n == some .cell) then (n, NameKind.cell) else (n, k)).lookup x =
     (names.lookup x).map fun k => if (k == NameKind.free && env.scope.kind == .function && env.kindOf x == some .cell) then NameKind.cell else k
 | [], _ => rfl
 | (n, k) :: r, x => by
   have ih := @zbF env r x
   show List.lookup x ((if (k == NameKind.free && env.scope.kind == .function && env.kindOf n == some .cell) = true then (n, NameKind.cell) else (n, k)) :: _) = _
   cases hx : x == n with
   | true =>
     obtain rfl : x = n := by simpa using hx
     by_cases hc : (k == NameKind.free && env.scope.kind == .function && env.kindOf x == some .cell) = true
     · rw [if_pos hc]; simp only [List.lookup_cons, hx, Option.map_some, if_pos hc]
     · rw [if_neg hc]; simp only [List.lookup_cons, hx, Option.map_some, if_neg hc]
   | false =>
     by_cases hc : (k == NameKind.free && env.scope.kind == .function && env.kindOf n == some .cell) = true
     · rw [if_pos hc]; simp only [List.lookup_cons, hx]; exact ih
     · rw [if_neg hc]; simp only [List.lookup_cons, hx]; exact ih
theorem zfs {M : Model} {A : Around} {E : Value → Shared → Prop} {s : Shared} {scope : Scope} {globals : Addr} {cl : List (Str × Addr)} {qual : Str} {env : Env} {Q : Env → Shared → Prop}
   (h : Q { scope := scope, locals := s.heap.objs.size, globals := globals, cells := cellsFrom (s.heap.objs.size + 1) scope.names cl, qual := qual, func := none, code := env.code, frame := env.frame, builtins := env.builtins }
     { s with heap := pushCells (s.heap.push { cls := .type "dict", data := .dict #[] }) scope.names }) :
   wpAny M A (newFunctionEnv scope globals cl [] qual none .none (some env)) Q E s := by
 simp only [newFunctionEnv, Option.isSome_some, if_true]
 refine wpAny_bind (wpAny_alloc ?_)
 refine wpAny_bind (wpAny_layCells _ (fun name kind cells => by cases hkc : kind == NameKind.cell <;> simp [hkc]) _ _ _ _ ?_)
 rw [show ({ s with heap := s.heap.push { cls := .type "dict", data := .dict #[] } } : Shared).heap.objs.size = s.heap.objs.size + 1 from Heap.size_push ..]
 rw [List.forIn_nil]
 exact wpAny_bind (wpAny_pure (wpAny_pure h))
structure CompOk (X : Cx) (scope : Scope) (N' : List Str) (src : List (Option Nat)) : Prop where
 kind : scope.kind = .function
 uniq : ∀ y ∈ scope.names, scope.names.lookup y.1 = some y.2
 free : ∀ y ∈ scope.names, y.2 = .free → (X.env.kindOf y.1 = some .cell ∨ X.env.kindOf y.1 = some .free)
 len : src.length = N'.length
 src : ∀ (j i : Nat) x, N'[j]? = some x → src[j]? = some (some i) → X.N[i]? = some x ∧ scope.names.lookup x = some .free
def srcV (src : List (Option Nat)) (σ : L2.St) : L2.St := src.map fun o => o.bind fun i => (σ[i]?).join
def compCx (X : Cx) (scope : Scope) (N' : List Str) (cl : List (Str × Addr)) (s₂ : Shared) (H₂ : Hp) (fp : List Addr) : Cx where
 prog := X.prog
 w := X.w
 K := X.K
 mg := X.mg
 base := X.base
 A := X.A
 N := N'
 s₀ := s₂
 H₀ := H₂
 env := { scope := relabel scope X.env, locals := s₂.heap.objs.size + 1, globals := X.env.globals, cells := cellsFrom (s₂.heap.objs.size + 1 + 1) scope.names cl, qual := X.env.qual, func := none, code := X.env.code, frame := X.env.frame, builtins := X.env.builtins }
 outer := X.stack
 stack := X.stack
 ex := fp
 fn := fun x => decide (scope.names.lookup x = some .cell)
 calm := X.calm
 pn := []
 xe := fun _ _ => False
structure IsComp (X : Cx) (scope : Scope) (N' : List Str) (Y : Cx) : Prop where
 prog : Y.prog = X.prog
 w : Y.w = X.w
 K : Y.K = X.K
 mg : Y.mg = X.mg
 base : Y.base = X.base
 A : Y.A = X.A
 N : Y.N = N'
 sc : Y.env.scope = relabel scope X.env
 calm : Y.calm = X.calm
 fn : ∀ x, scope.names.lookup x = some .cell → Y.fn x = true
section
variable {X : Cx} {pins : List (Addr × Obj)} {σ : L2.St} {H : Hp} {s : Shared} {scope : Scope} {N' : List Str} {src : List (Option Nat)} {cl : List (Str × Addr)} {fp : List Addr}
theorem zgv : IsComp X scope N' (compCx X scope N' cl s H fp) := ⟨rfl, rfl, rfl, rfl, rfl, rfl, rfl, rfl, rfl, fun x h => decide_eq_true h⟩
theorem zhG (I : Inv X pins σ H s) (hf : ∀ b ∈ fp, FpOk X pins H b) (hfe : ∀ b ∈ fp, ∃ o, s.heap.get? b = some o) (ok : CompOk X scope N' src)
   (h1 : ∀ x c, cl.lookup x = some c → (x, NameKind.free) ∈ scope.names ∧ X.env.cells.lookup x = some c) (h2 : ∀ x, (x, NameKind.free) ∈ scope.names → ∃ c, cl.lookup x = some c) {l : Obj} :
   Inv (compCx X scope N' cl s H fp) [] (srcV src σ) H { s with heap := pushCells ((s.heap.push l).push { cls := .type "dict", data := .dict #[] }) scope.names } := by
 have hC : ((s.heap.push l).objs.size) = s.heap.objs.size + 1 := Heap.size_push ..
 have keep : ∀ b o, s.heap.get? b = some o → (pushCells ((s.heap.push l).push { cls := .type "dict", data := .dict #[] }) scope.names).get? b = some o := fun b o e =>
   pushCells_keeps _ _ b o (Heap.get?_push_of_some _ (Heap.get?_push_of_some _ e))
 have okc := cellsFrom_ok scope.names ((s.heap.push l).push { cls := .type "dict", data := .dict #[] }) (s.heap.objs.size + 1 + 1) [] ⟨fun _ _ hm => (nomatch hm), List.Pairwise.nil⟩ (by rw [Heap.size_push, hC]; exact Nat.le_refl _)
 rw [Heap.size_push, hC] at okc
 have cells : ∀ x c, (compCx X scope N' cl s H fp).env.cells.lookup x = some c → ((cellsFrom (s.heap.objs.size + 1 + 1) scope.names []).lookup x = some c ∧ s.heap.objs.size + 1 + 1 ≤ c ∧ (x, NameKind.cell) ∈ scope.names) ∨ (X.env.cells.lookup x = some c ∧ (x, NameKind.free) ∈ scope.names) := fun x c e => by
   rcases zdO e with z | ⟨_, z⟩
   · have := zfq (PySem.mem_of_lookup z)
     exact .inl ⟨z, this.1, this.2⟩
   · exact .inr ⟨(h1 x c z).2, (h1 x c z).1⟩
 have oldc : ∀ x c, X.env.cells.lookup x = some c → c < s.heap.objs.size := fun x c e => by
   obtain ⟨v, q⟩ := I.cell x c e
   exact q.lt
 have rel : ∀ x, (compCx X scope N' cl s H fp).env.kindOf x = (scope.names.lookup x).map fun k => if (k == NameKind.free && X.env.scope.kind == .function && X.env.kindOf x == some .cell) then NameKind.cell else k := fun x => zbF
 have fpl : ∀ b ∈ fp, b < s.heap.objs.size := fun b hb => by
   obtain ⟨o, e⟩ := hfe b hb
   exact Heap.lt_size e
 have cap : ∀ x y c, (compCx X scope N' cl s H fp).env.cells.lookup x = some c → (compCx X scope N' cl s H fp).env.cells.lookup y = some c → x = y := fun x y c ex ey => by
   rcases cells x c ex with ⟨z1, l1, m1⟩ | ⟨z1, m1⟩ <;> rcases cells y c ey with ⟨z2, l2, m2⟩ | ⟨z2, m2⟩
   · exact name_of_addr okc.apart (PySem.mem_of_lookup z1) (PySem.mem_of_lookup z2)
   · exact absurd (Nat.lt_of_lt_of_le (oldc y c z2) (Nat.le_trans (Nat.le_add_right _ 2) l1)) (Nat.lt_irrefl _)
   · exact absurd (Nat.lt_of_lt_of_le (oldc x c z1) (Nat.le_trans (Nat.le_add_right _ 2) l2)) (Nat.lt_irrefl _)
   · exact I.ok.inj x y c z1 z2
 have hlast : (pushCells ((s.heap.push l).push { cls := .type "dict", data := .dict #[] }) scope.names).Ns (s.heap.objs.size + 1) (fun _ => none) := by
   have q : ((s.heap.push l).push { cls := .type "dict", data := .dict #[] }).Ns (s.heap.push l).objs.size (fun _ => none) := Heap.Ns.new (s.heap.push l) (.type "dict")
   rw [hC] at q
   exact q.keeps (pushCells_keeps _ _)
 refine ⟨⟨I.ok.mod, ok.kind, I.ok.glob, I.ok.blt, Nat.le_succ _, cap, fun x hx => ?_, fun x c hx e => ?_, I.ok.hd, I.ok.frames, .inl rfl, fun b hb => ?_, I.bs, Nat.le_trans I.ok.bsz I.sz, fun b o e hb => ?_, fun b hb => ?_, I.stack, I.stkFree⟩,
   rfl, I.bare, Un.kept keep, ⟨_, hlast, fun i x v e1 e2 e3 => ?_⟩, fun x c e => ?_, I.hok.fresh (Nat.le_succ _), fun x c e => ?_, fun p hp => absurd (show p ∈ ([] : List (Addr × Obj)) from hp) (by simp), I.hok.kept keep, ?_⟩
 · -- has
   rw [rel] at hx
   have hk : scope.names.lookup x = some .cell ∨ scope.names.lookup x = some .free := by
     cases q : scope.names.lookup x with
     | none => rw [q] at hx; simp at hx
     | some k =>
       rw [q] at hx
       simp only [Option.map_some, Option.some.injEq] at hx
       by_cases hk : k = .free
       · exact .inr (by rw [hk])
       · have hb : (k == NameKind.free) = false := by simpa using hk
         simp only [hb, Bool.false_and, Bool.false_eq_true, if_false] at hx
         rcases hx with hx | hx
         · exact .inl (by rw [hx])
         · exact absurd hx hk
   show ∃ c, (cellsFrom (s.heap.objs.size + 1 + 1) scope.names cl).lookup x = some c
   rw [zdy, zaU]
   rcases hk with hk | hk
   · obtain ⟨c, hc⟩ := Option.isSome_iff_exists.mp (PySem.W.cellsFrom_some scope.names (s.heap.objs.size + 1 + 1) [] (.inl hk))
     exact ⟨c, by rw [hc]; rfl⟩
   · obtain ⟨c, hc⟩ := h2 x (PySem.mem_of_lookup hk)
     cases q : (cellsFrom (s.heap.objs.size + 1 + 1) scope.names []).lookup x with
     | some d => exact ⟨d, rfl⟩
     | none => exact ⟨c, hc⟩
 · -- cab
   have hx' : scope.names.lookup x = some .cell := of_decide_eq_true hx
   rcases cells x c e with ⟨_, l1, _⟩ | ⟨_, m1⟩
   · show s.heap.objs.size ≤ c; omega
   · rw [ok.uniq _ m1] at hx'; cases hx'
 · -- exf
   refine ⟨?_, fun x c e z => ?_⟩
   · exact Nat.ne_of_lt (Nat.lt_succ_of_lt (fpl b hb))
   · subst z
     rcases cells x c e with ⟨_, l1, _⟩ | ⟨z1, _⟩
     · exact absurd (Nat.lt_of_lt_of_le (fpl c hb) (Nat.le_trans (Nat.le_add_right _ 2) l1)) (Nat.lt_irrefl _)
     · exact (hf c hb).2.2.2.2.1 x c z1 rfl
 · -- noex
   obtain ⟨_, _, _, q, _⟩ := hf b hb
   rcases q with q | q
   · exact I.ok.noex b o e q
   · exact absurd (Nat.lt_of_lt_of_le (Nat.lt_of_lt_of_le (Heap.lt_size e) I.ok.bsz) q) (Nat.lt_irrefl _)
 · -- exfs
   intro z
   obtain ⟨_, f1, f2, _⟩ := hf b hb
   exact (List.mem_cons.mp (I.stkSub b z)).elim f1 f2
 · -- loc
   have e1' : N'[i]? = some x := e1
   obtain ⟨j, hj, hv⟩ : ∃ j, src[i]? = some (some j) ∧ σ[j]? = some (some v) := by
     unfold srcV at e2
     rw [List.getElem?_map] at e2
     cases q : src[i]? with
     | none => rw [q] at e2; simp at e2
     | some o =>
       rw [q] at e2
       cases o with
       | none => simp at e2
       | some j =>
         refine ⟨j, rfl, ?_⟩
         simp only [Option.map_some, Option.bind_some, Option.some.injEq] at e2
         cases q2 : σ[j]? with
         | none => rw [q2] at e2; simp at e2
         | some o2 => rw [q2] at e2; simp at e2; rw [e2]
   obtain ⟨hN, hfr⟩ := ok.src i j x e1' hj
   have hm := PySem.mem_of_lookup hfr
   have hk := ok.free _ hm rfl
   obtain ⟨m, hn, hl⟩ := I.loc
   obtain ⟨u, ru, lk⟩ := hl j x v hN hv (by rcases hk with hk | hk; exact .inr (.inl hk); exact .inr (.inr hk))
   refine ⟨u, ru, .inr ⟨?_, ?_⟩⟩
   · rw [rel, hfr]
     simp only [Option.map_some]
     split
     · exact .inl rfl
     · exact .inr rfl
   · rcases lk with ⟨q, _⟩ | ⟨_, c, hc, hcell⟩
     · rcases hk with hk | hk <;> (rw [q] at hk; cases hk)
     · refine ⟨c, ?_, hcell.keeps keep⟩
       show (cellsFrom (s.heap.objs.size + 1 + 1) scope.names cl).lookup x = some c
       rw [zdy, zaU]
       have hnone : (cellsFrom (s.heap.objs.size + 1 + 1) scope.names []).lookup x = none := by
         cases q : (cellsFrom (s.heap.objs.size + 1 + 1) scope.names []).lookup x with
         | none => rfl
         | some d =>
           have := ok.uniq _ (zfq (PySem.mem_of_lookup q)).2
           rw [hfr] at this; cases this
       rw [hnone]
       obtain ⟨c', hc'⟩ := h2 x hm
       have := (h1 x c' hc').2
       rw [hc] at this; cases this
       exact hc'
 · -- cell
   rcases cells x c e with ⟨z1, _, _⟩ | ⟨z1, _⟩
   · exact ⟨none, (okc.empty x c (PySem.mem_of_lookup z1)).1⟩
   · obtain ⟨v, q⟩ := I.cell x c z1
     exact ⟨v, q.keeps keep⟩
 · -- freeC
   rcases cells x c e with ⟨_, l1, _⟩ | ⟨z1, _⟩
   · exact I.hok.fresh (by omega)
   · exact I.freeC x c z1
 · -- len
   show (srcV src σ).length = N'.length
   unfold srcV
   rw [List.length_map]; exact ok.len
end
theorem ze5 {prog : Program} {w : World} {A : Around} {R : Result → Shared → Prop} {s : Shared} {elt target iter : Expr} {ifs : List Expr} {scope : Scope} {pos : Pos} {it acc : Value} {env : Env} (I : Nat → Shared → Prop)
   (turn : ∀ n s, I n s → wpAny (model prog w) A (pyNext it) (fun r s₁ => match r with
     | none => R (.ok .next) s₁
     | some v => wpAny (model prog w) A (letOwnedTupleGo target it v) (fun _ s₀ => wpAny (model prog w) A (assign target env v) (fun _ s₂ =>
         wpAny (model prog w) A (forIn ifs true fun c r => if r = true then do let ok ← isTrue c env (eval c env); pure (ForInStep.yield ok) else pure (ForInStep.yield r)) (fun ok s₃ =>
           if ok = true then wpAny (model prog w) A (eval elt env) (fun x s₄ =>
             wpAny (model prog w) A (call (.builtin "list.append") [acc, x]) (fun _ s₅ => ∃ m, m < n ∧ I m s₅) (fun _ _ => False) s₄) (fun _ _ => False) s₃
           else ∃ m, m < n ∧ I m s₃) (fun _ _ => False) s₂) (fun _ _ => False) s₀) (fun _ _ => False) s₁) (fun _ _ => False) s)
   (n : Nat) (h : I n s) :
   codeAny (model prog w) A (.compLoop (.ListComp elt [⟨target, iter, ifs, 0⟩] scope pos) 0 it acc env) R s := by
 refine codeAny_loop rfl I (fun n s hI => ?_) n h
 show wpAny _ A ((compTurn (.ListComp elt [⟨target, iter, ifs, 0⟩] scope pos) 0 it acc env).onRaise (fun x => do noteFrame x env; theTreesLotGoes x)) _ _ s
 refine wpAny_noted ?_
 rw [compTurn_list]
 refine wpAny_bind (wpAny_standAt (wpAny_bind (wpAny_mono (turn n s hI) (fun r s₁ h₁ => ?_) fun _ _ h' => h'.elim)))
 cases r with
 | none => exact wpAny_pure h₁
 | some v =>
   refine wpAny_bind (wpAny_mono h₁ (fun _ s₀ h₀ => ?_) fun _ _ h' => h'.elim)
   refine wpAny_bind (wpAny_mono h₀ (fun _ s₂ h₂ => wpAny_bind (wpAny_mono h₂ (fun ok s₃ h₃ => ?_) fun _ _ h' => h'.elim)) fun _ _ h' => h'.elim)
   cases ok with
   | false => exact wpAny_pure ⟨rfl, h₃⟩
   | true =>
     exact wpAny_bind (wpAny_bind (wpAny_mono h₃ (fun x s₄ h₄ => wpAny_bind (wpAny_mono h₄ (fun _ s₅ h₅ => wpAny_pure (wpAny_pure ⟨rfl, h₅⟩)) fun _ _ h' => h'.elim)) fun _ _ h' => h'.elim))
def PTs (X : Cx) (ifs : List Expr) (t : TT) : Prop :=
 ∀ (pins : List (Addr × Obj)) (s : Shared) (σ : L2.St) (H : Hp) (Q : Bool → Hp → Prop), Inv X pins σ H s → t σ H Q →
   wpAny (model X.prog X.w) X.A (forIn ifs true fun c r => if r = true then do let ok ← isTrue c X.env (eval c X.env); pure (ForInStep.yield ok) else pure (ForInStep.yield r)) (TP X pins σ Q) X.xe s
theorem zix {X : Cx} : PTs X [] (fun _ H Q => Q true H) := fun _ _ _ H _ I h => wpAny_tests_nil ⟨H, I, h⟩
theorem ziw {X : Cx} {c : Expr} {t : TT} (h : PT X c t) : PTs X [c] t := fun pins s σ H Q I q => wpAny_tests_one (h pins s σ H Q I q)
def LcW (J : It) (g : TG) (tt : TT) (te : TE) (Fin : List V → Hp → Prop) (W : Nat → Nat → List V → L2.St → Hp → Prop) : Prop :=
 ∀ i m ys τ H, W i m ys τ H → (J.stop i H ∧ Fin ys H) ∨ (J.go i H ∧ ys.length < sizeLine ∧ ∀ x H', J.yld i H x H' → g x τ H' fun τ2 H2 => tt τ2 H2 fun b H3 =>
   if b = true then te τ2 H3 fun y H4 => ∃ m', m' < m ∧ W (i + 1) m' (ys ++ [y]) τ2 H4 else ∃ m', m' < m ∧ W (i + 1) m' ys τ2 H3)
theorem HOk.track {P : Program} {w : World} {H : Hp} {h : Heap} {a : Addr} {o : HO} (x : HOk P w H h) (hn : H a = none) (new : ObjOk P w (upd H a o) h a o) : HOk P w (upd H a o) h := fun b u e => by
 by_cases hb : b = a
 · subst hb; rw [zaj] at e; cases e; exact new
 · rw [zan hb] at e
   exact (x b u e).stay (fun c v _ q => q) (fun c q => by rw [zan (zam q hn)]; exact q) fun c xs q => by rw [zan (zam q hn)]; exact q
theorem Un.track {fs ex : List Addr} {H H' : Hp} {h h' : Heap} {a : Addr} {o : HO} (u : Un fs ex H H' h h') (hn : H' a = none) (ha : h.get? a = none) : Un fs ex H (upd H' a o) h h' where
 keep := u.keep
 slot := u.slot
 free := fun b ob q n hx => by
   rw [zan (fun z => by rw [z, ha] at q; cases q)]
   exact u.free b ob q n hx
 there := u.there
 tups := fun b xs q => by rw [zan (zam (u.tups b xs q) hn)]; exact u.tups b xs q
 frzs := fun b ob xs q => by rw [zan (zam (u.frzs b ob xs q) hn)]; exact u.frzs b ob xs q
 tbls := fun b ps q => by
   obtain ⟨m, e⟩ := u.tbls b ps q
   exact ⟨m, by rw [zan (zam e hn)]; exact e⟩
theorem zeJ {X : Cx} {pins : List (Addr × Obj)} {σ : L2.St} {H : Hp} {s : Shared} {scope : Scope} {N' : List Str} {src : List (Option Nat)} {cl : List (Str × Addr)} {fp : List Addr} {elt tg iter : Expr} {ifs : List Expr} {pos : Pos}
   {J : It} {it : Addr} {tn : Nat → Heap → Prop} {g : TG} {tt : TT} {te : TE} {Fin : List V → Hp → Prop} {W : Nat → Nat → List V → L2.St → Hp → Prop} {RR : Value → Addr → Result → Shared → Prop} {E : Value → Shared → Prop}
   (hc : X.calm = true) (ok : CompOk X scope N' src) (I : Inv X pins σ H s) (T : Turn X.prog X.w X.K tg J fp it tn) (st : tn 0 s.heap) (hf : ∀ b ∈ fp, FpOk X pins H b)
   (h1 : ∀ x c, cl.lookup x = some c → (x, NameKind.free) ∈ scope.names ∧ X.env.cells.lookup x = some c) (h2 : ∀ x, (x, NameKind.free) ∈ scope.names → ∃ c, cl.lookup x = some c)
   (hY : ∀ Y, IsComp X scope N' Y → PG Y tg g ∧ PTs Y ifs tt ∧ PE Y elt te)
   (w0 : ∃ m, W 0 m [] (srcV src σ) H) (turn : LcW J g tt te Fin W)
   (hRR : ∀ ys H' s' oC m, H' s.heap.objs.size = none → LCg.NsObj oC m → Inv X (pins ++ [(s.heap.objs.size + 1, oC)]) σ (upd H' s.heap.objs.size (.lst ys)) s' → Fin ys H' → RR (.ref s.heap.objs.size) (s.heap.objs.size + 1) (.ok .next) s') :
   wpAny (model X.prog X.w) X.A (newList []) (fun acc s₃ => wpAny (model X.prog X.w) X.A (newFunctionEnv scope X.env.globals cl [] X.env.qual none .none (some X.env)) (fun cenv s₄ =>
     codeAny (model X.prog X.w) X.A (.compStart (.ListComp elt [⟨tg, iter, ifs, 0⟩] scope pos) 0 (.ref it) acc { cenv with scope := relabel scope X.env }) (RR acc cenv.locals) s₄) E s₃) E s := by
 have hfe : ∀ b ∈ fp, ∃ o, s.heap.get? b = some o := fun b hb => by
   obtain ⟨o, e, _⟩ := T.obj _ _ st b hb
   exact ⟨o, e⟩
 refine wpAny_newObj_type (zfs ?_)
 have hC : (s.heap.push { cls := .type "list", dict := none, data := .seq ([] : List Value).toArray }).objs.size = s.heap.objs.size + 1 := Heap.size_push ..
 dsimp only
 rw [hC]
 have I0 : Inv (compCx X scope N' cl s H fp) [] (srcV src σ) H { s with heap := pushCells ((s.heap.push { cls := .type "list", dict := none, data := .seq ([] : List Value).toArray }).push { cls := .type "dict", data := .dict #[] }) scope.names } :=
   zhG I hf hfe ok h1 h2
 have isY : IsComp X scope N' (compCx X scope N' cl s H fp) := zgv
 obtain ⟨hg, ht, he⟩ := hY _ isY
 generalize hYe : compCx X scope N' cl s H fp = Y at I0 isY hg ht he
 have eP : Y.prog = X.prog := isY.prog
 have ew : Y.w = X.w := isY.w
 have eA : Y.A = X.A := isY.A
 have eK : Y.K = X.K := isY.K
 have ecalm : Y.calm = true := isY.calm.trans hc
 have eenv : Y.env = { scope := relabel scope X.env, locals := s.heap.objs.size + 1, globals := X.env.globals, cells := cellsFrom (s.heap.objs.size + 1 + 1) scope.names cl, qual := X.env.qual, func := none, code := X.env.code, frame := X.env.frame, builtins := X.env.builtins } := by rw [← hYe]; rfl
 have exe : Y.xe = fun _ _ => False := by rw [← hYe]; rfl
 have efs : Y.fs = frs X.stack := by rw [← hYe]; rfl
 have eex : Y.ex = fp := by rw [← hYe]; rfl
 have es0 : Y.s₀ = s := by rw [← hYe]; rfl
 have eH0 : Y.H₀ = H := by rw [← hYe]; rfl
 have epn : Y.pn = [] := by rw [← hYe]; rfl
 have eL : Y.env.locals = s.heap.objs.size + 1 := by rw [eenv]
 rw [← eenv]
 have fpl : ∀ b ∈ fp, b < s.heap.objs.size := fun b hb => by
   obtain ⟨o, e⟩ := hfe b hb
   exact Heap.lt_size e
 have hD : ∀ (τ : L2.St) (H' : Hp) (s' : Shared) (pn : List (Addr × Obj)), Inv Y pn τ H' s' → ∀ x c, Y.env.cells.lookup x = some c → c ≠ s.heap.objs.size := fun τ H' s' pn J' x c e z => by
   have e' := e
   rw [eenv] at e'
   rcases zdO e' with q | ⟨_, q⟩
   · have := (zfq (PySem.mem_of_lookup q)).1
     rw [z] at this
     exact absurd (Nat.lt_of_lt_of_le (Nat.lt_succ_self _) (Nat.le_trans (Nat.le_succ _) this)) (Nat.lt_irrefl _)
   · obtain ⟨v, q'⟩ := I.cell x c (h1 x c q).2
     have := q'.lt
     rw [z] at this
     exact absurd this (Nat.lt_irrefl _)
 have stat : ∀ {H' : Hp} {pn : List (Addr × Obj)}, (∀ b ∈ fp, H' b = none) → (∀ p ∈ pn, p.1 = s.heap.objs.size) → ∀ b ∈ fp, FpOk Y pn H' b := fun {H' pn} hn hp b hb => by
   refine ⟨hn b hb, ?_, ?_, .inl (by rw [eex]; exact hb), fun x c e z => ?_, fun p hm z => ?_⟩
   · rw [eL]; exact Nat.ne_of_lt (Nat.lt_succ_of_lt (fpl b hb))
   · rw [efs]
     intro z
     exact (List.mem_cons.mp (I.stkSub b z)).elim (hf b hb).2.1 (hf b hb).2.2.1
   · subst z
     rw [eenv] at e
     rcases zdO e with q | ⟨_, q⟩
     · have := (zfq (PySem.mem_of_lookup q)).1
       exact absurd (Nat.lt_of_lt_of_le (fpl c hb) (Nat.le_trans (Nat.le_add_right _ 2) this)) (Nat.lt_irrefl _)
     · exact (hf c hb).2.2.2.2.1 x c (h1 x c q).2 rfl
   · rw [epn, List.nil_append] at hm
     have e1 := hp p hm
     rw [e1] at z
     have := fpl b hb
     rw [← z] at this
     exact absurd this (Nat.lt_irrefl _)
 obtain ⟨m0, w0⟩ := w0
 have loop : ∀ s₃ : Shared, s₃ = { s with heap := pushCells ((s.heap.push { cls := .type "list", dict := none, data := .seq ([] : List Value).toArray }).push { cls := .type "dict", data := .dict #[] }) scope.names } →
     codeAny (model X.prog X.w) X.A (.compLoop (.ListComp elt [⟨tg, iter, ifs, 0⟩] scope pos) 0 (.ref it) (.ref s.heap.objs.size) Y.env) (RR (.ref s.heap.objs.size) (s.heap.objs.size + 1)) s₃ := by
   rintro s₃ rfl
   refine ze5 (fun n s' => ∃ i ys τ H' its k, Inv Y [(s.heap.objs.size, { cls := .type "list", data := .seq (List.toArray its) k })] τ H' s' ∧ Vals ys its ∧ ys.length ≤ sizeLine ∧ tn i s'.heap ∧ (∀ b ∈ fp, H' b = none) ∧ W i n ys τ H') ?_ m0 ?_
   · rintro n s3 ⟨i, ys, τ, H3, its, k, I3, rv, hlen, st3, fr3, w3⟩
     have fo3 := stat fr3 (pn := [(s.heap.objs.size, { cls := .type "list", data := .seq (List.toArray its) k })]) (by simp)
     rcases turn i n ys τ H3 w3 with ⟨stop, fin⟩ | ⟨go, hlt, step⟩
     · have q := T.done Y eP ew eK ecalm i _ s3 τ H3 (fun _ _ => False) I3 fo3 st3 stop
       rw [eA] at q
       refine thn q fun r s4 ⟨hr, I4⟩ => ?_
       subst hr
       obtain ⟨oD, nD, _⟩ := I4.pin (s.heap.objs.size, { cls := .type "list", data := .seq (List.toArray its) k }) (by rw [epn]; simp)
       obtain ⟨m, hn, _⟩ := I4.loc
       rw [eL] at hn
       obtain ⟨oC, heC, hoC⟩ := LCg.ns_obj hn
       have un := I4.base
       rw [efs, eex, eH0, es0] at un
       have hfresh : s.heap.get? s.heap.objs.size = none := by
         cases q : s.heap.get? s.heap.objs.size with
         | none => rfl
         | some o => exact absurd (Heap.lt_size q) (Nat.lt_irrefl _)
       have hok := I4.hok
       rw [eP, ew] at hok
       have hCn : H3 (s.heap.objs.size + 1) = none := by have := I4.free; rw [eL] at this; exact this
       have I5 : Inv X pins σ (upd H3 s.heap.objs.size (.lst ys)) s4 := by
         refine I.call' (ch := fp) (by have := I4.os; rw [es0] at this; exact this) (Un.track un nD hfresh) (HOk.track hok nD ⟨hlen, its, k, rv, oD⟩) I4.bare fun b hb => ?_
         exact ⟨(hf b hb).2.2.2.1, (hf b hb).2.1, (hf b hb).2.2.2.2.1, (hf b hb).2.2.2.2.2⟩
       refine hRR ys H3 s4 oC m nD hoC ?_ fin
       refine I5.pins_of fun p hp => ?_
       rcases List.mem_append.mp hp with z | z
       · exact I5.pin p (List.mem_append_right _ z)
       · have e : p = (s.heap.objs.size + 1, oC) := by simpa using z
         subst e
         have fo := I.fpOk (b := s.heap.objs.size + 1) (H' := upd H3 s.heap.objs.size (.lst ys)) (Nat.le_succ _) (by rw [zan (Nat.ne_of_gt (Nat.lt_succ_self _))]; exact hCn)
         obtain ⟨es, ep, hd, _⟩ := hoC
         exact ⟨heC, fo.1, fo.2.1, fo.2.2.1, fun v z => by rw [hd] at z; cases z⟩
     · have q := T.item Y eP ew eK ecalm i _ s3 τ H3 (fun _ _ => False) I3 fo3 st3 go
       rw [eA] at q
       refine thn q fun r s4 ⟨u, hr, h4⟩ => ?_
       subst hr
       refine thn h4 fun _ s5 ⟨x, H5, I5, r5, y5, st5, fr5⟩ => ?_
       have fo5 := stat fr5 (pn := [(s.heap.objs.size, { cls := .type "list", data := .seq (List.toArray its) k })]) (by simp)
       have I5' := I5.pinned fo5 (T.obj _ _ st5)
       have q := hg _ s5 τ H5 x u _ I5' r5 (step x H5 y5)
       rw [eP, ew, eA, exe] at q
       refine thn q fun _ s6 ⟨τ6, H6, I6, q6⟩ => ?_
       have q := ht _ s6 τ6 H6 _ I6 q6
       rw [eP, ew, eA, exe] at q
       refine thn q fun b s7 ⟨H7, I7, q7⟩ => ?_
       have after : ∀ {τ8 : L2.St} {H8 : Hp} {s8 : Shared}, Inv Y ([(s.heap.objs.size, { cls := .type "list", data := .seq (List.toArray its) k })] ++ pinsAt fp s5.heap) τ8 H8 s8 →
           tn (i + 1) s8.heap ∧ (∀ b ∈ fp, H8 b = none) ∧ s8.heap.get? s.heap.objs.size = some { cls := .type "list", data := .seq (List.toArray its) k } ∧ H8 s.heap.objs.size = none := fun {τ8 H8 s8} I8 => by
         have pi : ∀ b ∈ fp, ∀ o, s5.heap.get? b = some o → s8.heap.get? b = some o ∧ H8 b = none := fun b hb o e => by
           have := I8.pin (b, o) (List.mem_append_right _ (List.mem_append_right _ (zc9 hb e)))
           exact ⟨this.1, this.2.1⟩
         have pd := I8.pin (s.heap.objs.size, { cls := .type "list", data := .seq (List.toArray its) k }) (List.mem_append_right _ (List.mem_append_left _ (by simp)))
         refine ⟨T.keep _ _ _ st5 fun b hb o e => (pi b hb o e).1, fun b hb => ?_, pd.1, pd.2.1⟩
         obtain ⟨o, e, d⟩ := T.obj _ _ st5 b hb
         exact (pi b hb o e).2
       cases b with
       | false =>
         rw [if_neg Bool.false_ne_true]
         rw [if_neg Bool.false_ne_true] at q7
         obtain ⟨m', hm, w7⟩ := q7
         obtain ⟨a1, a2, _, _⟩ := after I7
         exact ⟨m', hm, i + 1, ys, τ6, H7, its, k, I7.unpinned, rv, hlen, a1, a2, w7⟩
       | true =>
         rw [if_pos rfl]
         rw [if_pos rfl] at q7
         have q := he _ s7 τ6 H7 _ I7 q7
         rw [eP, ew, eA, exe] at q
         refine thn q fun v s8 ⟨y, H8, I8, r8, m', hm, w8⟩ => ?_
         obtain ⟨a1, a2, aD, nD⟩ := after I8
         refine append_at (hsz := by rw [List.size_toArray, ← rv.length]; exact hlen) aD fun h9 sb9 e9 => ?_
         have hne : s.heap.objs.size ≠ Y.env.locals := by rw [eL]; exact Nat.ne_of_lt (Nat.lt_succ_self _)
         have I8' : Inv Y [] τ6 H8 s8 := I8.pins_of fun p hp => absurd hp (by simp)
         have I9 : Inv Y [] τ6 H8 { s8 with heap := h9 } := I8'.turned (t' := s8.toks) (fun b o hb e => sb9.extBut b o hb e) nD hne (.inr (by rw [es0]; exact Nat.le_refl _)) (fun x c e => hD _ _ _ _ I8 x c e) (by rw [epn]; simp)
         have I10 : Inv Y [(s.heap.objs.size, { cls := .type "list", data := .seq (List.toArray (its ++ [v])) (k + 1) })] τ6 H8 { s8 with heap := h9 } := I9.pins_of fun p hp => by
           have e : p = (s.heap.objs.size, { cls := .type "list", data := .seq (List.toArray (its ++ [v])) (k + 1) }) := by simpa using hp
           subst e
           refine ⟨by rw [← List.push_toArray]; exact e9, nD, hne, ?_, fun v z => by cases z⟩
           rw [efs]
           intro z
           rcases List.mem_cons.mp (I.stkSub _ z) with z | z
           · exact absurd I.lt (by rw [← z]; exact Nat.lt_irrefl _)
           · exact I.nofs (Nat.le_refl _) z
         refine ⟨m', hm, i + 1, ys ++ [y], τ6, H8, its ++ [v], k + 1, I10, rv.append (.cons r8 .nil), by rw [List.length_append]; exact hlt, ?_, a2, w8⟩
         exact T.keep _ _ _ a1 fun b hb o e => sb9.extBut b o (Nat.ne_of_lt (fpl b hb)) e
   · refine ⟨0, [], srcV src σ, H, [], 0, ?_, .nil, Nat.zero_le _, ?_, fun b hb => (hf b hb).1, w0⟩
     · refine I0.pins_of fun p hp => ?_
       have e : p = (s.heap.objs.size, { cls := .type "list", data := .seq (List.toArray []) 0 }) := by simpa using hp
       subst e
       refine ⟨pushCells_keeps _ _ _ _ (Heap.get?_push_of_some _ (Heap.get?_push_size _ rfl)), I.hok.fresh (Nat.le_refl _), by rw [eL]; exact Nat.ne_of_lt (Nat.lt_succ_self _), ?_, fun v z => by cases z⟩
       rw [efs]
       intro z
       rcases List.mem_cons.mp (I.stkSub _ z) with z | z
       · exact absurd I.lt (by rw [← z]; exact Nat.lt_irrefl _)
       · exact I.nofs (Nat.le_refl _) z
     · exact T.keep _ _ _ st fun b hb o e => pushCells_keeps _ _ _ _ (Heap.get?_push_of_some _ (Heap.get?_push_of_some _ e))
 exact codeAny_compStart_list (loop _ rfl) (T.self _ 0 _ _ _ (T.keep _ _ _ st fun b hb o e => pushCells_keeps _ _ _ _ (Heap.get?_push_of_some _ (Heap.get?_push_of_some _ e))) (loop _ rfl))
def tLc (wi : TI) (g : TG) (tt : TT) (te : TE) (src : List (Option Nat)) : TE := fun σ H Q => wi σ H fun J H1 => ∃ W, (∃ m, W 0 m [] (srcV src σ) H1) ∧
 LcW J g tt te (fun ys H' => ∀ p, H' p = none → Q (.ref p) (upd H' p (.lst ys))) W
section
variable {X : Cx} {elt tg iter : Expr} {ifs : List Expr} {scope : Scope} {pos : Pos} {N' : List Str} {src : List (Option Nat)} {wi : TI} {g : TG} {tt : TT} {te : TE}
theorem zgo (ok : CompOk X scope N' src) {pins : List (Addr × Obj)} {σ : L2.St} {H : Hp} {s : Shared} (I : Inv X pins σ H s) : ∃ cl, closureFor scope X.env = pure cl ∧
   (∀ x c, cl.lookup x = some c → (x, NameKind.free) ∈ scope.names ∧ X.env.cells.lookup x = some c) ∧ ∀ x, (x, NameKind.free) ∈ scope.names → ∃ c, cl.lookup x = some c :=
 zjz (scope := scope) (env := X.env) fun y hy e => I.ok.has y.1 (ok.free y hy e)
theorem zlB (hc : X.calm = true) (ok : CompOk X scope N' src) (hi : PI X tg iter wi) (hY : ∀ Y, IsComp X scope N' Y → PG Y tg g ∧ PTs Y ifs tt ∧ PE Y elt te)
   (hs : ∀ x, foldedSetIterable iter X.env x = pure x) : PE X (.ListComp elt [⟨tg, iter, ifs, 0⟩] scope pos) (tLc wi g tt te src) := by
 intro pins s σ H Q I h
 obtain ⟨cl, hclos, h1, h2⟩ := zgo ok I
 rw [eval_ListComp]
 refine wpAny_comprehension_free (use := none) rfl hs hclos ok.kind (fun y hy e => by rw [ok.uniq y hy, e]) ?_
 refine thn (hi pins s σ H _ I h) fun v s1 q1 => thn q1 fun itv s2 q2 => ?_
 obtain ⟨it, fp, tn, J, H2, e, I2, T, st2, f2, W, w0, turn⟩ := q2
 subst e
 refine zeJ (RR := fun acc C => compPost (model X.prog X.w) X.A X.xe none (EP X pins σ Q) acc C) hc ok I2 T st2 f2 h1 h2 hY w0 turn ?_
 intro ys H' s' oC m nD hoC I3 fin
 obtain ⟨heC, nC, neC, nfC, dC⟩ := I3.pin (s2.heap.objs.size + 1, oC) (List.mem_append_right _ (List.mem_append_right _ (by simp)))
 refine ⟨m, hoC.ns heC, fun h'' sb => ⟨.ref s2.heap.objs.size, _, ?_, rfl, fin _ nD⟩⟩
 have I4 : Inv X pins σ (upd H' s2.heap.objs.size (.lst ys)) s' := I3.unpinned
 have fo := I2.fpOk (b := s2.heap.objs.size + 1) (H' := upd H' s2.heap.objs.size (.lst ys)) (Nat.le_succ _) nC
 exact I4.turned (t' := s'.toks) (fun b o hb e => sb.extBut b o hb e) nC fo.2.1 fo.2.2.2.1 fo.2.2.2.2.1 fo.2.2.2.2.2
def tLcS (wi : TI) (g : TG) (tt : TT) (te : TE) (src : List (Option Nat)) (i : Nat) : TS := fun D σ H => wi σ H fun J H1 => ∃ W, (∃ m, W 0 m [] (srcV src σ) H1) ∧
 LcW J g tt te (fun ys H' => ∀ p, H' p = none → D.nx (σ.set i (some (.ref p))) (upd H' p (.lst ys))) W
theorem zhj {y : Str} {py spos : Pos} {i : Nat} (hN : X.N.Nodup) (hyi : X.N[i]? = some y) (hy : X.env.kindOf y = some .local)
   (hsw : swapsWith (.ListComp elt [⟨tg, iter, ifs, 0⟩] scope pos) (some (.Name y py)) spos.line X.env = pure true)
   (hc : X.calm = true) (ok : CompOk X scope N' src) (hi : PI X tg iter wi) (hY : ∀ Y, IsComp X scope N' Y → PG Y tg g ∧ PTs Y ifs tt ∧ PE Y elt te)
   (hs : ∀ x, foldedSetIterable iter X.env x = pure x) : PS X (.Assign [.Name y py] (.ListComp elt [⟨tg, iter, ifs, 0⟩] scope pos) spos) (tLcS wi g tt te src i) := by
 intro pins s σ H D I h
 obtain ⟨cl, hclos, h1, h2⟩ := zgo ok I
 rw [exec_Assign_Name_used _ _ _ _ hsw]
 refine wpAny_bind (wpAny_standAt (wpAny_bind ?_))
 show wpAny _ _ (do let _ ← comprehension (.ListComp elt [⟨tg, iter, ifs, 0⟩] scope pos) scope X.env _ (newList []) false (eval iter X.env) (some (assign (.Name y py) X.env))) _ _ s
 refine wpAny_bind (wpAny_mono (wpAny_comprehension_free (use := some (assign (.Name y py) X.env)) (Q := fun _ s' => SP X pins D .next s') rfl hs hclos ok.kind (fun y hy e => by rw [ok.uniq y hy, e])
   ?_) (fun _ s' hq => wpAny_pure (wpAny_pure hq)) fun _ _ e => e)
 refine thn (hi pins s σ H _ I h) fun v s1 q1 => thn q1 fun itv s2 q2 => ?_
 obtain ⟨it, fp, tn, J, H2, e, I2, T, st2, f2, W, w0, turn⟩ := q2
 subst e
 refine zeJ (RR := fun acc C => compPost (model X.prog X.w) X.A X.xe (some (assign (.Name y py) X.env)) (fun _ s' => SP X pins D .next s') acc C) hc ok I2 T st2 f2 h1 h2 hY w0 turn ?_
 intro ys H' s' oC m nD hoC I3 fin
 show wpAny _ _ (assign (.Name y py) X.env (.ref s2.heap.objs.size)) _ _ s'
 refine wpAny_assign_Name (zcA I3 hN hyi (.inl hy) (v := .ref s2.heap.objs.size) rfl (fun s3 I4 => ?_) (.inr hy))
 obtain ⟨heC, nC, neC, nfC, dC⟩ := I4.pin (s2.heap.objs.size + 1, oC) (List.mem_append_right _ (List.mem_append_right _ (by simp)))
 refine ⟨m, hoC.ns heC, fun h'' sb => ⟨_, _, ?_, fin _ nD⟩⟩
 have I5 : Inv X pins _ (upd H' s2.heap.objs.size (.lst ys)) s3 := I4.unpinned
 have fo := I2.fpOk (b := s2.heap.objs.size + 1) (H' := upd H' s2.heap.objs.size (.lst ys)) (Nat.le_succ _) nC
 exact I5.turned (t' := s3.toks) (fun b o hb e => sb.extBut b o hb e) nC fo.2.1 fo.2.2.2.1 fo.2.2.2.2.1 fo.2.2.2.2.2
end
end MX
end
section
set_option autoImplicit false
namespace MX
open PySem PySem.Spec PyProof.Rows L2
abbrev TF := Sg → So → Option (Bool × So)
abbrev AF := Sg → So → Option (List D × So)
inductive Fl where
 | nx | bk | ct | rt (d : D)
abbrev SF := Sg → So → Option (Fl × Sg × So)
abbrev GF := D → Sg → So → Option (Sg × So)
def Kb (K : PySem.W.Frag) (H : Hp) (α : List Addr) (S' : So) (Q : Hp → Prop) : Prop := ∀ H' α', StoreR K H' α' S' → Ext K H α H' α' → Q H'
def rdT (K : PySem.W.Frag) (f : TF) : TT := fun σ H Q => ∃ σd S α b S', VarsR K H α σd σ ∧ StoreR K H α S ∧ f σd S = some (b, S') ∧ Kb K H α S' (Q b)
def ST (X : Cx) (e : Expr) (f : TF) : Prop := PT X e (rdT X.K f)
def SW (X : Cx) (e : Expr) (f : TF) : Prop := PW X e (rdT X.K f)
def rdA (K : PySem.W.Frag) (f : AF) : TA := fun σ H Q => ∃ σd S α ds S', VarsR K H α σd σ ∧ StoreR K H α S ∧ f σd S = some (ds, S') ∧ ∀ vs H' α', StoreR K H' α' S' → Ext K H α H' α' → Reps K H' α' ds vs → Q vs H'
def SA (X : Cx) (es : List Expr) (f : AF) : Prop := PA X es (rdA X.K f)
def Ks (K : PySem.W.Frag) (H : Hp) (α : List Addr) (fl : Fl) (σd' : Sg) (S' : So) (D : Ends) : Prop :=
 ∀ σ' H' α', VarsR K H' α' σd' σ' → StoreR K H' α' S' → Ext K H α H' α' → match fl with
   | .nx => D.nx σ' H'
   | .bk => D.bk σ' H'
   | .ct => D.ct σ' H'
   | .rt d => ∀ v, Rep K H' α' d v → D.rt v H'
def rdS (K : PySem.W.Frag) (f : SF) : TS := fun D σ H => ∃ σd S α fl σd' S', VarsR K H α σd σ ∧ StoreR K H α S ∧ f σd S = some (fl, σd', S') ∧ Ks K H α fl σd' S' D
def SS (X : Cx) (st : Stmt) (f : SF) : Prop := PS X st (rdS X.K f)
def SSs (X : Cx) (sts : List Stmt) (f : SF) : Prop := PSs X sts (rdS X.K f)
def rdG (K : PySem.W.Frag) (f : GF) : TG := fun v σ H Q => ∃ σd S α d σd' S', VarsR K H α σd σ ∧ StoreR K H α S ∧ Rep K H α d v ∧ f d σd S = some (σd', S') ∧
 ∀ σ' H' α', VarsR K H' α' σd' σ' → StoreR K H' α' S' → Ext K H α H' α' → Q σ' H'
def SG (X : Cx) (tg : Expr) (f : GF) : Prop := PG X tg (rdG X.K f)
theorem PT.imp {X : Cx} {e : Expr} {t t' : TT} (h : PT X e t) (k : ∀ σ H Q, t' σ H Q → t σ H Q) : PT X e t' := fun pins s σ H Q I q => h pins s σ H Q I (k σ H Q q)
theorem PW.imp {X : Cx} {e : Expr} {t t' : TT} (h : PW X e t) (k : ∀ σ H Q, t' σ H Q → t σ H Q) : PW X e t' := fun wh pins s σ H Q I q => h wh pins s σ H Q I (k σ H Q q)
theorem PA.imp {X : Cx} {e : List Expr} {t t' : TA} (h : PA X e t) (k : ∀ σ H Q, t' σ H Q → t σ H Q) : PA X e t' := fun pos pins s σ H Q I q => h pos pins s σ H Q I (k σ H Q q)
theorem PS.imp {X : Cx} {e : Stmt} {t t' : TS} (h : PS X e t) (k : ∀ D σ H, t' D σ H → t D σ H) : PS X e t' := fun pins s σ H D I q => h pins s σ H D I (k D σ H q)
theorem PSs.imp {X : Cx} {e : List Stmt} {t t' : TS} (h : PSs X e t) (k : ∀ D σ H, t' D σ H → t D σ H) : PSs X e t' := fun pins s σ H D I q => h pins s σ H D I (k D σ H q)
theorem PG.imp {X : Cx} {e : Expr} {t t' : TG} (h : PG X e t) (k : ∀ v σ H Q, t' v σ H Q → t v σ H Q) : PG X e t' := fun pins s σ H v u Q I r q => h pins s σ H v u Q I r (k v σ H Q q)
theorem PI.imp {X : Cx} {tg e : Expr} {t t' : TI} (h : PI X tg e t) (k : ∀ σ H Q, t' σ H Q → t σ H Q) : PI X tg e t' := fun pins s σ H Q I q => h pins s σ H Q I (k σ H Q q)
def eVar (i : Nat) : EF := fun σ S => match σ[i]? with
 | some (some d) => some (d, S)
 | _ => none
def eC (d : D) : EF := fun _ S => some (d, S)
def eB (g : G2) (fa fb : EF) : EF := fun σ S => (fa σ S).bind fun r => (fb σ r.2).bind fun q => g r.1 q.1 q.2
def eU (g : D → So → Option (D × So)) (fa : EF) : EF := fun σ S => (fa σ S).bind fun r => g r.1 r.2
def aNil : AF := fun _ S => some ([], S)
def aCons (fa : EF) (fr : AF) : AF := fun σ S => (fa σ S).bind fun r => (fr σ r.2).bind fun q => some (r.1 :: q.1, q.2)
def eN (g : GN) (fa : AF) : EF := fun σ S => (fa σ S).bind fun r => g r.1 r.2
def eIf (t : TF) (fa fb : EF) : EF := fun σ S => (t σ S).bind fun r => if r.1 = true then fa σ r.2 else fb σ r.2
def gTup : GN := fun ds S => if ds.length ≤ sizeLine then some (.tup ds, S) else none
def gLst : GN := fun ds S => if ds.length ≤ sizeLine then some (.ref S.length, S ++ [.lst ds]) else none
section
variable {X : Cx} {a b : Expr} {fa fb : EF} {pos : Pos}
theorem zjZ {i : Nat} {x : Str} (hN : X.N[i]? = some x) (hv : Vis X.env.scope x) (hd : (x == ("__debug__" : Str)) = false) (hcd : (x == ("__classdict__" : Str)) = false) : SE X (.Name x pos) (eVar i) := by
 refine PE.imp (zkq hN hv hd hcd) fun σ H Q h => ?_
 obtain ⟨σd, S, α, z, S', hv, hs, hf, k⟩ := h
 unfold eVar at hf
 split at hf
 · rename_i d e
   cases hf
   obtain ⟨v, h1, h2⟩ := hv.2 i _ e
   exact ⟨v, h1, k.same hs h2⟩
 · cases hf
theorem se_c {e : Expr} {d : D} {v : V} (h : PE X e (tC v)) (r : ∀ H α, Rep X.K H α d v) : SE X e (eC d) := by
 refine PE.imp h fun σ H Q h => ?_
 obtain ⟨σd, S, α, z, S', hv, hs, hf, k⟩ := h
 cases hf
 exact k.same hs (r _ _)
theorem zj8 {i : Int} {j} : SE X (.Constant (.int i) j pos) (eC (.int i)) := se_c zkx fun _ _ => .int i
theorem zlv {i : Bool} {j} : SE X (.Constant (.bool i) j pos) (eC (.bl i)) := se_c zlF fun _ _ => .bl i
theorem zj3 {j} : SE X (.Constant .none j pos) (eC .non) := se_c zkv fun _ _ => .non
theorem zj1 {x : Str} {j} : SE X (.Constant (.str x) j pos) (eC (.str x)) := se_c zks fun _ _ => .str x
theorem rd2 {K : PySem.W.Frag} {g : G2} {σ : L2.St} {H : Hp} {Q : VK} (h : rdE K (eB g fa fb) σ H Q) : rdE K fa σ H fun x H1 => rdE K fb σ H1 fun y H2 => rdOp K g x y H2 Q := by
 obtain ⟨σd, S, α, z, S', hv, hs, hf, k⟩ := h
 unfold eB at hf
 simp only [Option.bind_eq_some_iff] at hf
 obtain ⟨⟨x, S1⟩, e1, ⟨y, S2⟩, e2, e3⟩ := hf
 refine ⟨σd, S, α, x, S1, hv, hs, e1, fun v H1 α1 s1 x1 r1 => ⟨σd, S1, α1, y, S2, hv.mono x1, s1, e2, fun u H2 α2 s2 x2 r2 => ?_⟩⟩
 exact ⟨S2, α2, x, y, z, S', s2, r1.mono x2, r2, e3, k.trans (x1.trans x2)⟩
theorem zlr {op : Operator} (ha : SE X a fa) (hb : SE X b fb) : SE X (.BinOp a op b pos) (eB (gBin op) fa fb) :=
 PE.imp (zlA (ziZ op) ha hb) fun _ _ _ h => rd2 h
theorem zka {op : CmpOp} (hu : X.A.units + 64 < cLine) (h1 : op ≠ .In) (h2 : op ≠ .NotIn) (ha : SE X a fa) (hb : SE X b fb) : SE X (.Compare a [op] [b] pos) (eB (gCmp op) fa fb) :=
 PE.imp (ziK (zga hu op) ha hb (nomark b h1 h2)) fun _ _ _ h => rd2 h
theorem zlt (hp : PlainIx b) (ha : SE X a fa) (hb : SE X b fb) : SE X (.Subscript a b pos) (eB gIx fa fb) :=
 PE.imp (zlC ixs ha hb hp) fun _ _ _ h => rd2 h
def gNeg : D → So → Option (D × So)
 | .int i, S => some (.int (-i), S)
 | _, _ => none
theorem zj4 (ha : SE X a fa) : SE X (.UnaryOp .USub a pos) (eU gNeg fa) := by
 refine PE.imp (zly zjH ha) fun σ H Q h => ?_
 obtain ⟨σd, S, α, z, S', hv, hs, hf, k⟩ := h
 unfold eU at hf
 simp only [Option.bind_eq_some_iff] at hf
 obtain ⟨⟨x, S1⟩, e1, e2⟩ := hf
 refine ⟨σd, S, α, x, S1, hv, hs, e1, fun v H1 α1 s1 x1 r1 => ?_⟩
 cases r1 with
 | int i => cases e2; exact ⟨_, rfl, (k.trans x1).same s1 (.int _)⟩
 | _ => cases e2
theorem zkc : SA X [] aNil := by
 refine PA.imp zkA fun σ H Q h => ?_
 obtain ⟨σd, S, α, ds, S', hv, hs, hf, k⟩ := h
 cases hf
 exact k _ _ _ hs Ext.refl .nil
theorem ziu {e : Expr} {es : List Expr} {fe : EF} {fr : AF} (ha : SE X e fe) (hr : SA X es fr) (hst : starEach (e :: es) X.env = (false, eval e X.env) :: starEach es X.env) : SA X (e :: es) (aCons fe fr) := by
 refine PA.imp (ziN ha hr hst) fun σ H Q h => ?_
 obtain ⟨σd, S, α, ds, S', hv, hs, hf, k⟩ := h
 unfold aCons at hf
 simp only [Option.bind_eq_some_iff] at hf
 obtain ⟨⟨x, S1⟩, e1, ⟨ys, S2⟩, e2, e3⟩ := hf
 cases e3
 exact ⟨σd, S, α, x, S1, hv, hs, e1, fun v H1 α1 s1 x1 r1 => ⟨σd, S1, α1, ys, _, hv.mono x1, s1, e2, fun vs H2 α2 s2 x2 r2 => k _ _ _ s2 (x1.trans x2) (.cons (r1.mono x2) r2)⟩⟩
theorem rdN {K : PySem.W.Frag} {g : GN} {fa : AF} {σ : L2.St} {H : Hp} {Q : VK} (h : rdE K (eN g fa) σ H Q) : rdA K fa σ H fun vs H1 => rdC K g vs H1 Q := by
 obtain ⟨σd, S, α, z, S', hv, hs, hf, k⟩ := h
 unfold eN at hf
 simp only [Option.bind_eq_some_iff] at hf
 obtain ⟨⟨ds, S1⟩, e1, e2⟩ := hf
 exact ⟨σd, S, α, ds, S1, hv, hs, e1, fun vs H1 α1 s1 x1 r1 => ⟨S1, α1, ds, z, S', s1, r1, e2, k.trans x1⟩⟩
theorem zj0 {es : List Expr} {fs : AF} {k0} (h : SA X es fs) : SE X (.Tuple es k0 pos) (eN gTup fs) := by
 refine PE.imp (zkr h) fun σ H Q q => ?_
 obtain ⟨σd, S, α, ds, S1, hv, hs, e1, k⟩ := rdN q
 refine ⟨σd, S, α, ds, S1, hv, hs, e1, fun vs H1 α1 s1 x1 r1 => ?_⟩
 obtain ⟨S2, α2, ds', z, S3, s2, r2, e2, k2⟩ := k vs H1 α1 s1 x1 r1
 unfold gTup at e2
 split at e2
 · rename_i hl
   cases e2
   refine ⟨by rw [← r2.length]; exact hl, fun p hp => ?_⟩
   exact k2.new s2 (zaS hp) (.tup (SqT.of zaj) (r2.mono (Same.ext (zaS hp))))
 · cases e2
theorem zj6 {es : List Expr} {fs : AF} (h : SA X es fs) : SE X (.List es pos) (eN gLst fs) := by
 refine PE.imp (zkw h) fun σ H Q q => ?_
 obtain ⟨σd, S, α, ds, S1, hv, hs, e1, k⟩ := rdN q
 refine ⟨σd, S, α, ds, S1, hv, hs, e1, fun vs H1 α1 s1 x1 r1 => ?_⟩
 obtain ⟨S2, α2, ds', z, S3, s2, r2, e2, k2⟩ := k vs H1 α1 s1 x1 r1
 unfold gLst at e2
 split at e2
 · rename_i hl
   cases e2
   refine ⟨by rw [← r2.length]; exact hl, fun p hp => ?_⟩
   obtain ⟨s', e'⟩ := s2.snoc (p := p) (o := .lst ds') (u := .lst vs) hp fun α' e => ⟨_, zaj, r2.mono e⟩
   exact k2 _ _ _ s' e' (.ref (by rw [← s2.len]; simp))
 · cases e2
def truD : D → So → Option Bool
 | .non, _ => some false
 | .bl b, _ => some b
 | .int i, _ => some (i != 0)
 | .str x, _ => if x.length ≤ sizeLine then some ((x.length : Int) != 0) else none
 | .tup xs, _ => some (!xs.isEmpty)
 | .ref n, S => match S[n]? with
   | some (.lst xs) => some (!xs.isEmpty)
   | some (.frz xs) => some (!xs.isEmpty)
   | _ => none
 | _, _ => none
theorem zcn {K : PySem.W.Frag} {H : Hp} {α : List Addr} {ds : List D} {vs : List V} (r : Reps K H α ds vs) : (!ds.isEmpty) = !vs.isEmpty := by cases r <;> rfl
theorem zh6 {K : PySem.W.Frag} {H : Hp} {α : List Addr} {S : So} {d : D} {v : V} {b : Bool} (hs : StoreR K H α S) (r : Rep K H α d v) (e : truD d S = some b) : TruV K v H b := by
 cases r with
 | non => cases e; exact rfl
 | bl b => cases e; exact rfl
 | int i => cases e; exact rfl
 | str x =>
   have e' : (if x.length ≤ sizeLine then some ((x.length : Int) != 0) else none) = some b := e
   split at e'
   · rename_i hl; cases e'; exact ⟨hl, rfl⟩
   · cases e'
 | tup h r => cases e; exact .inr (.inl ⟨_, h, zcn r⟩)
 | @ref n a h =>
   simp only [truD] at e
   cases hm : S[n]? with
   | none => simp [hm] at e
   | some o =>
     simp only [hm] at e
     have hob := hs.obj _ _ _ hm h
     cases o with
     | lst xs =>
       cases e
       obtain ⟨vs, h1, r⟩ := hob
       exact .inl ⟨_, SqL.of h1, zcn r⟩
     | frz xs =>
       cases e
       obtain ⟨vs, h1, r⟩ := hob
       exact .inl ⟨_, h1.sq, zcn r⟩
     | ins C fs => cases e
     | dct xs => cases e
 | ty n => cases e
 | adr a => cases e
def tVal (fa : EF) : TF := fun σ S => (fa σ S).bind fun r => (truD r.1 r.2).map fun b => (b, r.2)
theorem zjM (ha : SE X a fa) (he : ∀ whole, isTrue a X.env whole = (do let v ← whole; standAt a.pos; holding [v] (truthy v))) : ST X a (tVal fa) := by
 refine PT.imp (zhg ha he) fun σ H Q h => ?_
 obtain ⟨σd, S, α, b, S', hv, hs, hf, k⟩ := h
 unfold tVal at hf
 simp only [Option.bind_eq_some_iff, Option.map_eq_some_iff] at hf
 obtain ⟨⟨x, S1⟩, e1, c, e2, e3⟩ := hf
 cases e3
 exact ⟨σd, S, α, x, S1, hv, hs, e1, fun v H1 α1 s1 x1 r1 => ⟨b, zh6 s1 r1 e2, k _ _ s1 x1⟩⟩
def tBl (fa : EF) : TF := fun σ S => (fa σ S).bind fun r => match r.1 with
 | .bl b => some (b, r.2)
 | _ => none
theorem zjO {op : CmpOp} (hu : X.A.units + 64 < cLine) (h1 : op ≠ .In) (h2 : op ≠ .NotIn) (ha : SE X a fa) (hb : SE X b fb) : ST X (.Compare a [op] [b] pos) (tBl (eB (gCmp op) fa fb)) := by
 refine PT.imp (ziy (zga hu op) ha hb (nomark b h1 h2)) fun σ H Q h => ?_
 obtain ⟨σd, S, α, c, S', hv, hs, hf, k⟩ := h
 unfold tBl at hf
 simp only [Option.bind_eq_some_iff] at hf
 obtain ⟨⟨z, S1⟩, e1, e2⟩ := hf
 cases z with
 | bl c' =>
   cases e2
   exact rd2 ⟨σd, S, α, .bl c, _, hv, hs, e1, fun v H1 α1 s1 x1 r1 => by cases r1; exact ⟨c, rfl, k _ _ s1 x1⟩⟩
 | _ => cases e2
def tNotF (t : TF) : TF := fun σ S => (t σ S).map fun r => (!r.1, r.2)
theorem zjN {t : TF} (ha : ST X a t) : ST X (.UnaryOp .Not a pos) (tNotF t) := by
 refine PT.imp (zkh ha) fun σ H Q h => ?_
 obtain ⟨σd, S, α, c, S', hv, hs, hf, k⟩ := h
 unfold tNotF at hf
 simp only [Option.map_eq_some_iff] at hf
 obtain ⟨⟨b, S1⟩, e1, e2⟩ := hf
 cases e2
 exact ⟨σd, S, α, b, S1, hv, hs, e1, k⟩
def tAndF (t u : TF) : TF := fun σ S => (t σ S).bind fun r => if r.1 = true then u σ r.2 else some (false, r.2)
def tOrF (t u : TF) : TF := fun σ S => (t σ S).bind fun r => if r.1 = true then some (true, r.2) else u σ r.2
theorem zh7 {t : TF} (ha : ST X a t) : SW X (.BoolOp .And [a] pos) t := ziv ha
theorem zjK {t : TF} (ha : ST X a t) : SW X (.BoolOp .Or [a] pos) t := zkf ha
theorem zjL {t u : TF} {rest : List Expr} (ha : ST X a t) (hb : SW X (.BoolOp .And (b :: rest) pos) u) : SW X (.BoolOp .And (a :: b :: rest) pos) (tAndF t u) := by
 refine PW.imp (zkg ha hb) fun σ H Q h => ?_
 obtain ⟨σd, S, α, c, S', hv, hs, hf, k⟩ := h
 unfold tAndF at hf
 simp only [Option.bind_eq_some_iff] at hf
 obtain ⟨⟨b1, S1⟩, e1, e2⟩ := hf
 refine ⟨σd, S, α, b1, S1, hv, hs, e1, fun H1 α1 s1 x1 => ?_⟩
 cases b1 with
 | true =>
   rw [if_pos rfl]; rw [if_pos rfl] at e2
   exact ⟨σd, S1, α1, c, S', hv.mono x1, s1, e2, fun H2 α2 s2 x2 => k _ _ s2 (x1.trans x2)⟩
 | false =>
   rw [if_neg Bool.false_ne_true]; rw [if_neg Bool.false_ne_true] at e2
   cases e2
   exact k _ _ s1 x1
theorem zlo {t u : TF} {rest : List Expr} (ha : ST X a t) (hb : SW X (.BoolOp .Or (b :: rest) pos) u) : SW X (.BoolOp .Or (a :: b :: rest) pos) (tOrF t u) := by
 refine PW.imp (zlw ha hb) fun σ H Q h => ?_
 obtain ⟨σd, S, α, c, S', hv, hs, hf, k⟩ := h
 unfold tOrF at hf
 simp only [Option.bind_eq_some_iff] at hf
 obtain ⟨⟨b1, S1⟩, e1, e2⟩ := hf
 refine ⟨σd, S, α, b1, S1, hv, hs, e1, fun H1 α1 s1 x1 => ?_⟩
 cases b1 with
 | true =>
   rw [if_pos rfl]; rw [if_pos rfl] at e2
   cases e2
   exact k _ _ s1 x1
 | false =>
   rw [if_neg Bool.false_ne_true]; rw [if_neg Bool.false_ne_true] at e2
   exact ⟨σd, S1, α1, c, S', hv.mono x1, s1, e2, fun H2 α2 s2 x2 => k _ _ s2 (x1.trans x2)⟩
theorem zlu {c : Expr} {t : TF} (hc : ST X c t) (ha : SE X a fa) (hb : SE X b fb) : SE X (.IfExp c a b pos) (eIf t fa fb) := by
 refine PE.imp (zhp hc ha hb) fun σ H Q h => ?_
 obtain ⟨σd, S, α, z, S', hv, hs, hf, k⟩ := h
 unfold eIf at hf
 simp only [Option.bind_eq_some_iff] at hf
 obtain ⟨⟨b1, S1⟩, e1, e2⟩ := hf
 refine ⟨σd, S, α, b1, S1, hv, hs, e1, fun H1 α1 s1 x1 => ?_⟩
 cases b1 with
 | true =>
   rw [if_pos rfl]; rw [if_pos rfl] at e2
   exact ⟨σd, S1, α1, z, S', hv.mono x1, s1, e2, k.trans x1⟩
 | false =>
   rw [if_neg Bool.false_ne_true]; rw [if_neg Bool.false_ne_true] at e2
   exact ⟨σd, S1, α1, z, S', hv.mono x1, s1, e2, k.trans x1⟩
def eNot (fa : EF) : EF := fun σ S => (fa σ S).bind fun r => match r.1 with
 | .bl b => some (.bl (!b), r.2)
 | _ => none
theorem zj2 (ha : SE X a fa) : SE X (.UnaryOp .Not a pos) (eNot fa) := by
 refine PE.imp (zku ha) fun σ H Q h => ?_
 obtain ⟨σd, S, α, z, S', hv, hs, hf, k⟩ := h
 unfold eNot at hf
 simp only [Option.bind_eq_some_iff] at hf
 obtain ⟨⟨x, S1⟩, e1, e2⟩ := hf
 refine ⟨σd, S, α, x, S1, hv, hs, e1, fun v H1 α1 s1 x1 r1 => ?_⟩
 cases r1 with
 | bl c => cases e2; exact ⟨c, rfl, (k.trans x1).same s1 (.bl _)⟩
 | _ => cases e2
def eAnd (fa fb : EF) : EF := fun σ S => (fa σ S).bind fun r => match r.1 with
 | .bl true => fb σ r.2
 | .bl false => some (.bl false, r.2)
 | _ => none
def eOr (fa fb : EF) : EF := fun σ S => (fa σ S).bind fun r => match r.1 with
 | .bl true => some (.bl true, r.2)
 | .bl false => fb σ r.2
 | _ => none
theorem zhf {op} (ha : SE X a fa) : SE X (.BoolOp op [a] pos) fa := zkt ha
theorem zkb {rest : List Expr} (ha : SE X a fa) (hb : SE X (.BoolOp .And (b :: rest) pos) fb) : SE X (.BoolOp .And (a :: b :: rest) pos) (eAnd fa fb) := by
 refine PE.imp (zkz ha hb) fun σ H Q h => ?_
 obtain ⟨σd, S, α, z, S', hv, hs, hf, k⟩ := h
 unfold eAnd at hf
 simp only [Option.bind_eq_some_iff] at hf
 obtain ⟨⟨x, S1⟩, e1, e2⟩ := hf
 refine ⟨σd, S, α, x, S1, hv, hs, e1, fun v H1 α1 s1 x1 r1 => ?_⟩
 cases r1 with
 | bl c =>
   refine ⟨c, rfl, ?_⟩
   cases c with
   | true => rw [if_pos rfl]; exact ⟨σd, S1, α1, z, S', hv.mono x1, s1, e2, k.trans x1⟩
   | false => rw [if_neg Bool.false_ne_true]; cases e2; exact (k.trans x1).same s1 (.bl _)
 | _ => cases e2
theorem zlq {rest : List Expr} (ha : SE X a fa) (hb : SE X (.BoolOp .Or (b :: rest) pos) fb) : SE X (.BoolOp .Or (a :: b :: rest) pos) (eOr fa fb) := by
 refine PE.imp (zlz ha hb) fun σ H Q h => ?_
 obtain ⟨σd, S, α, z, S', hv, hs, hf, k⟩ := h
 unfold eOr at hf
 simp only [Option.bind_eq_some_iff] at hf
 obtain ⟨⟨x, S1⟩, e1, e2⟩ := hf
 refine ⟨σd, S, α, x, S1, hv, hs, e1, fun v H1 α1 s1 x1 r1 => ?_⟩
 cases r1 with
 | bl c =>
   refine ⟨c, rfl, ?_⟩
   cases c with
   | false => rw [if_neg Bool.false_ne_true]; exact ⟨σd, S1, α1, z, S', hv.mono x1, s1, e2, k.trans x1⟩
   | true => rw [if_pos rfl]; cases e2; exact (k.trans x1).same s1 (.bl _)
 | _ => cases e2
end
def spOf (K : PySem.W.Frag) (n : Nat) (φ : GN) : Sp := fun vs H Q _ => vs.length = n ∧ rdC K φ vs H Q
def FnRef (X : Cx) (x : Str) (n : Nat) (φ : GN) : Prop := ∃ f fd ps k, X.mg x = some (.ref f) ∧ PySem.W.keepIn X.K (.ref f) = true ∧ Binds X.K fd ps [] ∧
 FnOk X.prog X.w X.K X.mg X.base CX0 k f fd ps (spOf X.K n φ) ∧ Room k X.A
section
variable {X : Cx} {x : Str} {p pos : Pos} {es : List Expr} {fs : AF}
def nArgs (n : Nat) (φ : GN) : GN := fun ds S => if ds.length = n then φ ds S else none
theorem zit {e : Expr} {n : Nat} {φ : GN} (hg : Gl X x) (hF : FnRef X x n φ) (ha : SA X (e :: es) fs) (hdb : (x == ("__debug__" : Str)) = false) (he : starEach (e :: es) X.env = (false, eval e X.env) :: starEach es X.env)
   (hpl : (backTo pos (starEach es X.env)).any (·.1) = false) : SE X (.Call (.Name x p) (e :: es) [] pos) (eN (nArgs n φ) fs) := by
 obtain ⟨f, fd, ps, k, hm, hk, hb, F, hr⟩ := hF
 refine PE.imp (ziL F hr hg hm hk hb .nil pass0 ha hdb he hpl) fun σ H Q h => ?_
 obtain ⟨σd, S, α, ds, S1, hv, hs, e1, k⟩ := rdN h
 refine ⟨σd, S, α, ds, S1, hv, hs, e1, fun vs H1 α1 s1 x1 r1 => ?_⟩
 obtain ⟨S2, α2, ds', z, S3, s2, r2, e2, k2⟩ := k vs H1 α1 s1 x1 r1
 unfold nArgs at e2
 split at e2
 · rename_i hl
   rw [List.append_nil]
   exact ⟨by rw [← r2.length]; exact hl, S2, α2, ds', z, S3, s2, r2, e2, k2⟩
 · cases e2
theorem zhe {e : Expr} {id : String} {g : GN} (hc : CallR X (.builtin id) (rdC X.K g)) (hg : Gl X x) (hm : X.mg x = none) (hv : bootBuiltins x = some (.builtin id)) (ha : SA X (e :: es) fs) (hn : x ≠ "__name__") (hdb : (x == ("__debug__" : Str)) = false)
   (he : starEach (e :: es) X.env = (false, eval e X.env) :: starEach es X.env) (hpl : (backTo pos (starEach es X.env)).any (·.1) = false) : SE X (.Call (.Name x p) (e :: es) [] pos) (eN g fs) :=
 PE.imp (zhr hc hg hm hv ha hn hdb he hpl) fun _ _ _ h => rdN h
theorem zhd {e : Expr} {T : String} {g : GN} (hc : CallR X (.type T) (rdC X.K g)) (hg : Gl X x) (hm : X.mg x = none) (hv : bootBuiltins x = some (.type T)) (ha : SA X (e :: es) fs) (hn : x ≠ "__name__") (hdb : (x == ("__debug__" : Str)) = false)
   (he : starEach (e :: es) X.env = (false, eval e X.env) :: starEach es X.env) (hpl : (backTo pos (starEach es X.env)).any (·.1) = false) : SE X (.Call (.Name x p) (e :: es) [] pos) (eN g fs) :=
 PE.imp (zf9 hc hg hm hv ha hn hdb he hpl) fun _ _ _ h => rdN h
end
def gNm (i : Nat) : GF := fun d σ S => some (σ.set i (some d), S)
abbrev GFs := List D → Sg → So → Option (Sg × So)
def gsNil : GFs := fun ds σ S => match ds with
 | [] => some (σ, S)
 | _ => none
def gsCons (f : GF) (fr : GFs) : GFs := fun ds σ S => match ds with
 | d :: r => (f d σ S).bind fun q => fr r q.1 q.2
 | [] => none
def gTp (n : Nat) (fr : GFs) : GF := fun d σ S => match d with
 | .tup xs => if xs.length = n then fr xs σ S else none
 | .ref m => match S[m]? with
   | some (.lst xs) => if xs.length = n then fr xs σ S else none
   | _ => none
 | _ => none
def rdGs (K : PySem.W.Frag) (f : GFs) : TGs := fun vs σ H Q => ∃ σd S α ds σd' S', VarsR K H α σd σ ∧ StoreR K H α S ∧ Reps K H α ds vs ∧ f ds σd S = some (σd', S') ∧
 ∀ σ' H' α', VarsR K H' α' σd' σ' → StoreR K H' α' S' → Ext K H α H' α' → Q σ' H'
def SGs (X : Cx) (tgs : List Expr) (f : GFs) : Prop := PGs X tgs (rdGs X.K f)
section
variable {X : Cx} {pos : Pos}
theorem zio {i : Nat} {x : Str} (hN : X.N.Nodup) (hi : X.N[i]? = some x) (hx : Loc X.env.scope x) (hf : X.fn x = true ∨ X.env.scope.names.lookup x = some .local) : SG X (.Name x pos) (gNm i) := by
 refine PG.imp (ziJ hN hi hx hf) fun v σ H Q h => ?_
 obtain ⟨σd, S, α, d, σd', S', hv, hs, r, hf, k⟩ := h
 cases hf
 exact k _ _ _ (hv.set r i) hs Ext.refl
theorem zin : SGs X [] gsNil := by
 refine fun pins s σ H vs us Q I r0 h => ziH pins s σ H vs us Q I r0 ?_
 obtain ⟨σd, S, α, ds, σd', S', hv, hs, r, hf, k⟩ := h
 cases r with
 | nil => cases hf; exact ⟨rfl, k _ _ _ hv hs Ext.refl⟩
 | cons _ _ => cases hf
theorem zg8 {e : Expr} {es : List Expr} {f : GF} {fr : GFs} (h1 : SG X e f) (h2 : SGs X es fr) (hs : (assignEach (e :: es) X.env).map (·.2) = assign e X.env :: (assignEach es X.env).map (·.2)) : SGs X (e :: es) (gsCons f fr) := by
 refine fun pins s σ H vs us Q I r0 h => zhn h1 h2 hs pins s σ H vs us Q I r0 ?_
 obtain ⟨σd, S, α, ds, σd', S', hv, hs, r, hf, k⟩ := h
 cases r with
 | nil => cases hf
 | cons r rr =>
   unfold gsCons at hf
   simp only [Option.bind_eq_some_iff] at hf
   obtain ⟨⟨σ1, S1⟩, e1, e2⟩ := hf
   exact ⟨_, _, rfl, σd, S, α, _, σ1, S1, hv, hs, r, e1, fun σ' H' α' v' s' x' => ⟨σ1, S1, α', _, σd', S', v', s', rr.mono x', e2, fun σ2 H2 α2 v2 s2 x2 => k _ _ _ v2 s2 (x'.trans x2)⟩⟩
theorem zjY {es : List Expr} {k0 : Nat} {f : GFs} {n : Nat} (hc : X.calm = true) (h : SGs X es f) (hn : (assignEach es X.env).length = n) (hst : (assignEach es X.env).findIdx? (·.1) = none) : SG X (.Tuple es k0 pos) (gTp n f) := by
 refine PG.imp (PG.or (zko hc h hn hst) (ziI hc h hn hst)) fun v σ H Q h => ?_
 obtain ⟨σd, S, α, d, σd', S', hv, hs, r, hf, k⟩ := h
 unfold gTp at hf
 cases r with
 | tup h r =>
   simp only at hf
   split at hf
   · rename_i hl
     exact .inl ⟨_, _, rfl, h, by rw [← r.length]; exact hl, σd, S, α, _, σd', S', hv, hs, r, hf, k⟩
   · cases hf
 | ref ha =>
   simp only at hf
   split at hf
   · rename_i xs em
     split at hf
     · rename_i hl
       obtain ⟨vs, h1, r⟩ := hs.obj _ _ _ em ha
       exact .inr ⟨_, vs, rfl, SqL.of h1, by rw [← r.length]; exact hl, σd, S, α, xs, σd', S', hv, hs, r, hf, k⟩
     · cases hf
   · cases hf
 | _ => cases hf
end
def sPass : SF := fun σ S => some (.nx, σ, S)
def sSeq (f g : SF) : SF := fun σ S => (f σ S).bind fun r => match r.1 with
 | .nx => g r.2.1 r.2.2
 | fl => some (fl, r.2.1, r.2.2)
def sAsg (fe : EF) (fg : GF) : SF := fun σ S => (fe σ S).bind fun r => (fg r.1 σ r.2).map fun q => (.nx, q.1, q.2)
def sDrop (fe : EF) : SF := fun σ S => (fe σ S).map fun r => (.nx, σ, r.2)
def sRet (fe : EF) : SF := fun σ S => (fe σ S).map fun r => (.rt r.1, σ, r.2)
def sRetN : SF := fun σ S => some (.rt .non, σ, S)
def sBrk : SF := fun σ S => some (.bk, σ, S)
def sCnt : SF := fun σ S => some (.ct, σ, S)
def sIf (t : TF) (f g : SF) : SF := fun σ S => (t σ S).bind fun r => if r.1 = true then f σ r.2 else g σ r.2
section
variable {X : Cx} {st : Stmt} {rest : List Stmt} {f g : SF} {e : Expr} {fe : EF} {pos : Pos}
theorem zjQ : SSs X [] sPass := by
 refine PSs.imp ziz fun D σ H h => ?_
 obtain ⟨σd, S, α, fl, σd', S', hv, hs, hf, k⟩ := h
 cases hf
 exact k _ _ _ hv hs Ext.refl
theorem Ks.trans {K : PySem.W.Frag} {H H1 : Hp} {α α1 : List Addr} {fl : Fl} {σd' : Sg} {S' : So} {D : Ends} (k : Ks K H α fl σd' S' D) (e : Ext K H α H1 α1) : Ks K H1 α1 fl σd' S' D := fun σ' H' α' v s x => k σ' H' α' v s (e.trans x)
theorem zie (h1 : SS X st f) (h2 : SSs X rest g) : SSs X (st :: rest) (sSeq f g) := by
 refine PSs.imp (zhh h1 h2) fun D σ H h => ?_
 obtain ⟨σd, S, α, fl, σd', S', hv, hs, hf, k⟩ := h
 unfold sSeq at hf
 simp only [Option.bind_eq_some_iff] at hf
 obtain ⟨⟨fl1, σ1, S1⟩, e1, e2⟩ := hf
 refine ⟨σd, S, α, fl1, σ1, S1, hv, hs, e1, fun σ' H' α' v' s' x' => ?_⟩
 cases fl1 with
 | nx => exact ⟨σ1, S1, α', fl, σd', S', v', s', e2, k.trans x'⟩
 | bk => cases e2; exact k σ' H' α' v' s' x'
 | ct => cases e2; exact k σ' H' α' v' s' x'
 | rt d => cases e2; exact k σ' H' α' v' s' x'
theorem zib : SS X (.Pass pos) sPass := by
 refine PS.imp ziB fun D σ H h => ?_
 obtain ⟨σd, S, α, fl, σd', S', hv, hs, hf, k⟩ := h
 cases hf
 exact k _ _ _ hv hs Ext.refl
theorem zjS {x j pos'} : SS X (.Expr (.Constant (.str x) j pos) pos') sPass := by
 refine PS.imp zkl fun D σ H h => ?_
 obtain ⟨σd, S, α, fl, σd', S', hv, hs, hf, k⟩ := h
 cases hf
 exact k _ _ _ hv hs Ext.refl
theorem zjU : SS X (.Break pos) sBrk := by
 refine PS.imp zhk fun D σ H h => ?_
 obtain ⟨σd, S, α, fl, σd', S', hv, hs, hf, k⟩ := h
 cases hf
 exact k _ _ _ hv hs Ext.refl
theorem zjT : SS X (.Continue pos) sCnt := by
 refine PS.imp zeY fun D σ H h => ?_
 obtain ⟨σd, S, α, fl, σd', S', hv, hs, hf, k⟩ := h
 cases hf
 exact k _ _ _ hv hs Ext.refl
theorem zid (he : SE X e fe) (hsw : swapsWith e none pos.line X.env = pure false) : SS X (.Expr e pos) (sDrop fe) := by
 refine PS.imp (ziD he hsw) fun D σ H h => ?_
 obtain ⟨σd, S, α, fl, σd', S', hv, hs, hf, k⟩ := h
 unfold sDrop at hf
 simp only [Option.map_eq_some_iff] at hf
 obtain ⟨⟨d, S1⟩, e1, e2⟩ := hf
 cases e2
 exact ⟨σd, S, α, d, S1, hv, hs, e1, fun v H' α' s' x' r' => k _ _ _ (hv.mono x') s' x'⟩
theorem zjP (he : SE X e fe) : SS X (.Return (some e) pos) (sRet fe) := by
 refine PS.imp (zkj he) fun D σ H h => ?_
 obtain ⟨σd, S, α, fl, σd', S', hv, hs, hf, k⟩ := h
 unfold sRet at hf
 simp only [Option.map_eq_some_iff] at hf
 obtain ⟨⟨d, S1⟩, e1, e2⟩ := hf
 cases e2
 exact ⟨σd, S, α, d, S1, hv, hs, e1, fun v H' α' s' x' r' => k _ _ _ (hv.mono x') s' x' v r'⟩
theorem zia : SS X (.Return none pos) sRetN := by
 refine PS.imp ziA fun D σ H h => ?_
 obtain ⟨σd, S, α, fl, σd', S', hv, hs, hf, k⟩ := h
 cases hf
 exact k _ _ _ hv hs Ext.refl _ .non
theorem zdU {tg : Expr} {fg : GF} (he : SE X e fe) (hg : SG X tg fg) (h1 : swapsWithSole [tg] e pos.line X.env = pure false) (h2 : swappedStores [tg] e X.env = pure none)
   (h3 : (assignEach [tg] X.env).map (·.2) = [assign tg X.env]) : SS X (.Assign [tg] e pos) (sAsg fe fg) := by
 refine PS.imp (zkm he hg h1 h2 h3) fun D σ H h => ?_
 obtain ⟨σd, S, α, fl, σd', S', hv, hs, hf, k⟩ := h
 unfold sAsg at hf
 simp only [Option.bind_eq_some_iff, Option.map_eq_some_iff] at hf
 obtain ⟨⟨d, S1⟩, e1, ⟨σ1, S2⟩, e2, e3⟩ := hf
 cases e3
 exact ⟨σd, S, α, d, S1, hv, hs, e1, fun v H' α' s' x' r' => ⟨σd, S1, α', d, _, _, hv.mono x', s', r', e2, fun σ2 H2 α2 v2 s2 x2 => k _ _ _ v2 s2 (x'.trans x2)⟩⟩
theorem zhZ {i : Nat} {x : Str} {pos' : Pos} (hN : X.N.Nodup) (hi : X.N[i]? = some x) (hx : Loc X.env.scope x) (he : SE X e fe) (hsw : swapsWith e (some (.Name x pos')) pos.line X.env = pure false) (hfn : X.fn x = true ∨ X.env.scope.names.lookup x = some .local) :
   SS X (.Assign [.Name x pos'] e pos) (sAsg fe (gNm i)) := by
 refine PS.imp (zki hN hi hx he hsw hfn) fun D σ H h => ?_
 obtain ⟨σd, S, α, fl, σd', S', hv, hs, hf, k⟩ := h
 unfold sAsg at hf
 simp only [Option.bind_eq_some_iff, Option.map_eq_some_iff] at hf
 obtain ⟨⟨d, S1⟩, e1, ⟨σ1, S2⟩, e2, e3⟩ := hf
 cases e3; cases e2
 exact ⟨σd, S, α, d, S1, hv, hs, e1, fun v H' α' s' x' r' => k _ _ _ ((hv.mono x').set r' i) s' x'⟩
theorem zlp {c : Expr} {a b : List Stmt} {t : TF} (hc : ST X c t) (ha : SSs X a f) (hb : SSs X b g) : SS X (.If c a b pos) (sIf t f g) := by
 refine PS.imp (zlx hc ha hb) fun D σ H h => ?_
 obtain ⟨σd, S, α, fl, σd', S', hv, hs, hf, k⟩ := h
 unfold sIf at hf
 simp only [Option.bind_eq_some_iff] at hf
 obtain ⟨⟨b1, S1⟩, e1, e2⟩ := hf
 refine ⟨σd, S, α, b1, S1, hv, hs, e1, fun H1 α1 s1 x1 => ?_⟩
 cases b1 with
 | true =>
   rw [if_pos rfl]; rw [if_pos rfl] at e2
   exact ⟨σd, S1, α1, fl, σd', S', hv.mono x1, s1, e2, k.trans x1⟩
 | false =>
   rw [if_neg Bool.false_ne_true]; rw [if_neg Bool.false_ne_true] at e2
   exact ⟨σd, S1, α1, fl, σd', S', hv.mono x1, s1, e2, k.trans x1⟩
end
def whN (t : TF) (f : SF) : Nat → SF
 | 0 => fun _ _ => none
 | n + 1 => fun σ S => (t σ S).bind fun r => if r.1 = true then (f σ r.2).bind fun q => match q.1 with
     | .nx => whN t f n q.2.1 q.2.2
     | .ct => whN t f n q.2.1 q.2.2
     | .bk => some (.nx, q.2.1, q.2.2)
     | .rt d => some (.rt d, q.2.1, q.2.2)
   else some (.nx, σ, r.2)
open Classical in
def sWh (t : TF) (f : SF) : SF := fun σ S => if h : ∃ n r, whN t f n σ S = some r then some (Classical.choose (Classical.choose_spec h)) else none
theorem zkH {t : TF} {f : SF} {σ : Sg} {S : So} {r : Fl × Sg × So} (h : sWh t f σ S = some r) : ∃ n, whN t f n σ S = some r := by
 unfold sWh at h
 split at h
 · rename_i hx
   cases h
   exact ⟨_, Classical.choose_spec (Classical.choose_spec hx)⟩
 · cases h
section
variable {X : Cx} {pos : Pos}
theorem zgZ {c : Expr} {body : List Stmt} {t : TF} {f : SF} (hp : PassesOwn (model X.prog X.w) X.A X.env X.xe) (hc : ST X c t) (hb : SSs X body f) : SS X (.While c body [] pos) (sWh t f) := by
 refine PS.imp (zhi hp hc hb) fun D σ H h => ?_
 obtain ⟨σd, S, α, fl, σd', S', hv, hs, hf, k⟩ := h
 obtain ⟨n, hn⟩ := zkH hf
 refine ⟨fun m σ1 H1 => ∃ σd1 S1 α1, VarsR X.K H1 α1 σd1 σ1 ∧ StoreR X.K H1 α1 S1 ∧ Ext X.K H α H1 α1 ∧ whN t f m σd1 S1 = some (fl, σd', S'), ⟨n, σd, S, α, hv, hs, Ext.refl, hn⟩, ?_⟩
 rintro m σ1 H1 ⟨σd1, S1, α1, v1, s1, x1, e⟩
 cases m with
 | zero => cases e
 | succ m =>
   unfold whN at e
   simp only [Option.bind_eq_some_iff] at e
   obtain ⟨⟨b, S2⟩, e1, e2⟩ := e
   refine ⟨σd1, S1, α1, b, S2, v1, s1, e1, fun H2 α2 s2 x2 => ?_⟩
   cases b with
   | false =>
     rw [if_neg Bool.false_ne_true]; rw [if_neg Bool.false_ne_true] at e2
     cases e2
     exact k _ _ _ (v1.mono x2) s2 (x1.trans x2)
   | true =>
     rw [if_pos rfl]; rw [if_pos rfl] at e2
     simp only [Option.bind_eq_some_iff] at e2
     obtain ⟨⟨fl3, σd3, S3⟩, e3, e4⟩ := e2
     refine ⟨fun σ4 H4 => ∃ σd4 S4 α4, VarsR X.K H4 α4 σd4 σ4 ∧ StoreR X.K H4 α4 S4 ∧ Ext X.K H α H4 α4 ∧ whN t f m σd4 S4 = some (fl, σd', S'), fun σ4 H4 q => ⟨m, Nat.lt_succ_self _, q⟩, ?_⟩
     refine ⟨σd1, S2, α2, fl3, σd3, S3, v1.mono x2, s2, e3, fun σ4 H4 α4 v4 s4 x4 => ?_⟩
     have xx := (x1.trans x2).trans x4
     cases fl3 with
     | nx => exact ⟨σd3, S3, α4, v4, s4, xx, e4⟩
     | ct => exact ⟨σd3, S3, α4, v4, s4, xx, e4⟩
     | bk => cases e4; exact k _ _ _ v4 s4 xx
     | rt d => cases e4; exact k _ _ _ v4 s4 xx
end
end MX
end
section
set_option autoImplicit false
namespace MX
open PySem PySem.Spec PyProof.Rows L2
inductive ItD where
 | fix (xs : List D) | lst (n : Nat) | zip (ds : List D) | itm (n m : Nat)
def seqD (S : So) : D → Option (List D)
 | .tup xs => some xs
 | .ref n => match S[n]? with
   | some (.lst xs) => some xs
   | some (.frz xs) => some xs
   | _ => none
 | _ => none
def seqsD (S : So) : List D → Option (List (List D))
 | [] => some []
 | d :: r => (seqD S d).bind fun xs => (seqsD S r).map (xs :: ·)
def minLen : List (List D) → Option Nat
 | [] => none
 | [xs] => some xs.length
 | xs :: r => (minLen r).map fun n => min xs.length n
def nxD : ItD → Nat → So → Option (Option D)
 | .fix xs, i, _ => some xs[i]?
 | .lst n, i, S => match S[n]? with
   | some (.lst xs) => some xs[i]?
   | some (.frz xs) => some xs[i]?
   | _ => none
 | .zip ds, i, S => (seqsD S ds).map fun xss => (MZ.rowAt xss i).map D.tup
 | .itm n m, i, S => match S[n]? with
   | some (.dct xs) => if xs.length = m then some ((xs[i]?).map fun x => .tup [kD x.1, .int x.2]) else none
   | _ => none
def cntD : ItD → So → Option Nat
 | .fix xs, _ => some xs.length
 | .lst n, S => match S[n]? with
   | some (.lst xs) => some xs.length
   | some (.frz xs) => some xs.length
   | _ => none
 | .zip ds, S => (seqsD S ds).bind minLen
 | .itm n m, S => match S[n]? with
   | some (.dct xs) => if xs.length = m then some m else none
   | _ => none
abbrev IF := Sg → So → Option (ItD × So)
def ItR (K : PySem.W.Frag) (H₀ : Hp) (α₀ : List Addr) (j : ItD) (J : It) : Prop := ∀ (i : Nat) H α S, Ext K H₀ α₀ H α → StoreR K H α S →
 (nxD j i S = some none → J.stop i H) ∧ ∀ d, nxD j i S = some (some d) → J.go i H ∧ ∀ x H', J.yld i H x H' → Same H H' ∧ Rep K H' α d x
def rdI (K : PySem.W.Frag) (f : IF) : TI := fun σ H R => ∃ σd S α j S', VarsR K H α σd σ ∧ StoreR K H α S ∧ f σd S = some (j, S') ∧ ∀ J H' α', StoreR K H' α' S' → Ext K H α H' α' → ItR K H' α' j J → R J H'
def SI (X : Cx) (tg e : Expr) (f : IF) : Prop := PI X tg e (rdI X.K f)
def iVal (fe : EF) : IF := fun σ S => (fe σ S).bind fun r => match r.1 with
 | .tup xs => some (.fix xs, r.2)
 | .ref n => match r.2[n]? with
   | some (.lst _) => some (.lst n, r.2)
   | some (.frz _) => some (.lst n, r.2)
   | _ => none
 | _ => none
def rangeD (lo : Int) (n : Nat) : List D := (List.range n).map fun k => .int (lo + (k : Nat))
def iRg1 (fa : AF) : IF := fun σ S => (fa σ S).bind fun r => match r.1 with
 | [.int j] => if -(2 ^ 62) ≤ j ∧ j < 2 ^ 62 then some (.fix (rangeD 0 j.toNat), r.2) else none
 | _ => none
def iRg2 (fa : AF) : IF := fun σ S => (fa σ S).bind fun r => match r.1 with
 | [.int i, .int j] => if (-(2 ^ 62) ≤ i ∧ i < 2 ^ 62) ∧ -(2 ^ 62) ≤ j ∧ j < 2 ^ 62 then some (.fix (rangeD i (j - i).toNat), r.2) else none
 | _ => none
section
variable {X : Cx} {tg : Expr}
theorem PI.or {e : Expr} {t t' : TI} (h : PI X tg e t) (h' : PI X tg e t') : PI X tg e (fun σ H R => t σ H R ∨ t' σ H R) := fun pins s σ H R I q => by
 rcases q with q | q
 · exact h pins s σ H R I q
 · exact h' pins s σ H R I q
theorem zje {K : PySem.W.Frag} {H : Hp} {α : List Addr} {a : Addr} {ds : List D} {vs : List V} (h : SqT K H a vs) (r : Reps K H α ds vs) : ItR K H α (.fix ds) (Itt K a) := fun i H1 α1 S1 x1 s1 => by
 have h1 := x1.tups _ _ h
 have r1 := r.mono x1
 refine ⟨fun e => ?_, fun d e => ?_⟩
 · have e' : ds[i]? = none := Option.some.inj e
   exact ⟨vs, h1, by rw [← r.length]; exact List.getElem?_eq_none_iff.mp e'⟩
 · obtain ⟨v, e1, q⟩ := r1.get (Option.some.inj e)
   refine ⟨⟨vs, v, h1, e1⟩, fun x H' y => ?_⟩
   obtain ⟨rfl, y⟩ := y
   have := y vs h1
   rw [e1] at this; cases this
   exact ⟨Same.refl _, q⟩
theorem zgs {K : PySem.W.Frag} {H : Hp} {α : List Addr} {a : Addr} {n : Nat} (h : α[n]? = some a) : ItR K H α (.lst n) (Itl K a) := fun i H1 α1 S1 x1 s1 => by
 have h1 := x1.pre _ _ h
 have core : ∀ ds, (∃ vs, SqL K H1 a vs ∧ Reps K H1 α1 ds vs) → ((some ds[i]? = some (none : Option D)) → (Itl K a).stop i H1) ∧ ∀ d, some ds[i]? = some (some d) → (Itl K a).go i H1 ∧ ∀ x H', (Itl K a).yld i H1 x H' → Same H1 H' ∧ Rep K H' α1 d x := fun ds ⟨vs, q, r⟩ => by
   refine ⟨fun e => ?_, fun d e => ?_⟩
   · have e' : ds[i]? = none := Option.some.inj e
     exact ⟨vs, q, by rw [← r.length]; exact List.getElem?_eq_none_iff.mp e'⟩
   · obtain ⟨v, e1, rv⟩ := r.get (Option.some.inj e)
     refine ⟨⟨vs, v, q, e1⟩, fun x H' y => ?_⟩
     obtain ⟨rfl, y⟩ := y
     have := y vs q
     rw [e1] at this; cases this
     exact ⟨Same.refl _, rv⟩
 unfold nxD
 cases hm : S1[n]? with
 | none => simp only [hm]; exact ⟨fun e => (nomatch e), fun d e => (nomatch e)⟩
 | some o =>
   have hob := s1.obj _ _ _ hm h1
   cases o with
   | lst ds => simp only [hm]; obtain ⟨vs, q, r⟩ := hob; exact core ds ⟨vs, SqL.of q, r⟩
   | frz ds => simp only [hm]; obtain ⟨vs, q, r⟩ := hob; exact core ds ⟨vs, q.sq, r⟩
   | ins C fs => simp only [hm]; exact ⟨fun e => (nomatch e), fun d e => (nomatch e)⟩
   | dct xs => simp only [hm]; exact ⟨fun e => (nomatch e), fun d e => (nomatch e)⟩
theorem zc7 {lo : Int} {n i : Nat} : (rangeD lo n)[i]? = if i < n then some (.int (lo + (i : Nat))) else none := by
 unfold rangeD
 rw [List.getElem?_map]
 by_cases h : i < n
 · rw [if_pos h, List.getElem?_range h]; rfl
 · rw [if_neg h, List.getElem?_eq_none (by simpa using h)]; rfl
theorem zex {K : PySem.W.Frag} {H : Hp} {α : List Addr} {lo : Int} {n : Nat} : ItR K H α (.fix (rangeD lo n)) (Itr lo n) := fun i H1 α1 S1 x1 s1 => by
 simp only [nxD]
 rw [zc7]
 by_cases h : i < n
 · rw [if_pos h]
   refine ⟨fun e => (nomatch e), fun d e => ⟨h, fun x H' y => ?_⟩⟩
   obtain ⟨rfl, rfl⟩ := y
   cases e
   exact ⟨Same.refl _, .int _⟩
 · rw [if_neg h]
   exact ⟨fun _ => Nat.le_of_not_lt h, fun d e => (nomatch e)⟩
theorem zjX {e : Expr} {fe : EF} (he : SE X e fe) : SI X tg e (iVal fe) := by
 refine PI.imp (PI.or (zkn he) (ziG he)) fun σ H R h => ?_
 obtain ⟨σd, S, α, j, S', hv, hs, hf, k⟩ := h
 unfold iVal at hf
 simp only [Option.bind_eq_some_iff] at hf
 obtain ⟨⟨d, S1⟩, e1, e2⟩ := hf
 cases d with
 | tup xs =>
   cases e2
   refine .inl ⟨σd, S, α, .tup xs, _, hv, hs, e1, fun v H1 α1 s1 x1 r1 => ?_⟩
   cases r1 with
   | tup h r => exact ⟨_, rfl, ⟨_, h⟩, k _ _ _ s1 x1 (zje h r)⟩
 | ref n =>
   refine .inr ⟨σd, S, α, .ref n, S1, hv, hs, e1, fun v H1 α1 s1 x1 r1 => ?_⟩
   cases r1 with
   | ref h =>
     refine ⟨_, rfl, ?_⟩
     simp only at e2
     cases hm : S1[n]? with
     | none => simp [hm] at e2
     | some o =>
       have hob := s1.obj _ _ _ hm h
       cases o with
       | lst ds => simp only [hm] at e2; cases e2; obtain ⟨vs, q, r⟩ := hob; exact ⟨⟨vs, SqL.of q⟩, k _ _ _ s1 x1 (zgs h)⟩
       | frz ds => simp only [hm] at e2; cases e2; obtain ⟨vs, q, r⟩ := hob; exact ⟨⟨vs, q.sq⟩, k _ _ _ s1 x1 (zgs h)⟩
       | ins C fs => simp [hm] at e2
       | dct xs => simp [hm] at e2
 | _ => cases e2
theorem zf2 {a : Expr} {fa : AF} {p pos : Pos} (hg : Gl X "range") (hm : X.mg "range" = none) (ha : SA X [a] fa) (hst : starEach [a] X.env = [(false, eval a X.env)]) : SI X tg (.Call (.Name "range" p) [a] [] pos) (iRg1 fa) := by
 refine PI.imp (zf8 hg hm ha hst) fun σ H R h => ?_
 obtain ⟨σd, S, α, j, S', hv, hs, hf, k⟩ := h
 unfold iRg1 at hf
 simp only [Option.bind_eq_some_iff] at hf
 obtain ⟨⟨ds, S1⟩, e1, e2⟩ := hf
 refine ⟨σd, S, α, ds, S1, hv, hs, e1, fun vs H1 α1 s1 x1 r1 => ?_⟩
 split at e2
 · rename_i jj hj
   simp only at hj
   subst hj
   split at e2
   · rename_i hb
     cases e2
     cases r1 with
     | cons r rr => cases r; cases rr; exact ⟨jj, rfl, hb.1, hb.2, k _ _ _ s1 x1 zex⟩
   · cases e2
 · cases e2
theorem zf1 {a b : Expr} {fa : AF} {p pos : Pos} (hg : Gl X "range") (hm : X.mg "range" = none) (ha : SA X [a, b] fa) (hst : starEach [a, b] X.env = [(false, eval a X.env), (false, eval b X.env)]) (hst2 : starEach [b] X.env = [(false, eval b X.env)]) :
   SI X tg (.Call (.Name "range" p) [a, b] [] pos) (iRg2 fa) := by
 refine PI.imp (zf7 hg hm ha hst hst2) fun σ H R h => ?_
 obtain ⟨σd, S, α, j, S', hv, hs, hf, k⟩ := h
 unfold iRg2 at hf
 simp only [Option.bind_eq_some_iff] at hf
 obtain ⟨⟨ds, S1⟩, e1, e2⟩ := hf
 refine ⟨σd, S, α, ds, S1, hv, hs, e1, fun vs H1 α1 s1 x1 r1 => ?_⟩
 split at e2
 · rename_i ii jj hj
   simp only at hj
   subst hj
   split at e2
   · rename_i hb
     cases e2
     cases r1 with
     | cons r rr =>
       cases r
       cases rr with
       | cons r rr => cases r; cases rr; exact ⟨ii, jj, rfl, ⟨hb.1.1, hb.1.2, hb.2.1, hb.2.2⟩, k _ _ _ s1 x1 zex⟩
   · cases e2
 · cases e2
end
def forN (nx : Nat → So → Option (Option D)) (g : GF) (f : SF) : Nat → Nat → SF
 | 0, i => fun σ S => match nx i S with
   | some none => some (.nx, σ, S)
   | _ => none
 | k + 1, i => fun σ S => match nx i S with
   | some (some d) => (g d σ S).bind fun q => (f q.1 q.2).bind fun r => match r.1 with
     | .nx => forN nx g f k (i + 1) r.2.1 r.2.2
     | .ct => forN nx g f k (i + 1) r.2.1 r.2.2
     | .bk => some (.nx, r.2.1, r.2.2)
     | .rt d => some (.rt d, r.2.1, r.2.2)
   | _ => none
def sFor (fi : IF) (g : GF) (f : SF) : SF := fun σ S => (fi σ S).bind fun r => (cntD r.1 r.2).bind fun n => forN (nxD r.1) g f n 0 σ r.2
theorem zjR {X : Cx} {tg iter : Expr} {body : List Stmt} {fi : IF} {g : GF} {f : SF} {pos : Pos} (hp : PassesOwn (model X.prog X.w) X.A X.env X.xe) (hc : X.calm = true) (hi : SI X tg iter fi) (hg : SG X tg g) (hb : SSs X body f)
   (hfs : ∀ x, foldedSetIterable iter X.env x = pure x) : SS X (.For tg iter body [] pos) (sFor fi g f) := by
 refine PS.imp (zkk hp hc hi hg hb hfs) fun D σ H h => ?_
 obtain ⟨σd, S, α, fl, σd', S', hv, hs, hf, k⟩ := h
 unfold sFor at hf
 simp only [Option.bind_eq_some_iff] at hf
 obtain ⟨⟨j, S1⟩, e1, n, e2, e3⟩ := hf
 refine ⟨σd, S, α, j, S1, hv, hs, e1, fun J H1 α1 s1 x1 jr => ?_⟩
 refine ⟨fun i m σ2 H2 => ∃ σd2 S2 α2, VarsR X.K H2 α2 σd2 σ2 ∧ StoreR X.K H2 α2 S2 ∧ Ext X.K H1 α1 H2 α2 ∧ forN (nxD j) g f m i σd2 S2 = some (fl, σd', S'), ⟨n, σd, S1, α1, hv.mono x1, s1, Ext.refl, e3⟩, ?_⟩
 rintro i m σ2 H2 ⟨σd2, S2, α2, v2, s2, x2, e⟩
 obtain ⟨jstop, jgo⟩ := jr i H2 α2 S2 x2 s2
 cases m with
 | zero =>
   unfold forN at e
   split at e
   · rename_i hn
     cases e
     exact .inl ⟨jstop hn, k _ _ _ v2 s2 (x1.trans x2)⟩
   · cases e
 | succ m =>
   unfold forN at e
   split at e
   · rename_i d hn
     obtain ⟨hgo, hy⟩ := jgo d hn
     simp only [Option.bind_eq_some_iff] at e
     obtain ⟨⟨σ3, S3⟩, e4, ⟨fl4, σ4, S4⟩, e5, e6⟩ := e
     refine .inr ⟨hgo, fun σ5 H5 => ∃ σd5 S5 α5, VarsR X.K H5 α5 σd5 σ5 ∧ StoreR X.K H5 α5 S5 ∧ Ext X.K H1 α1 H5 α5 ∧ forN (nxD j) g f m (i + 1) σd5 S5 = some (fl, σd', S'), fun σ5 H5 q => ⟨m, Nat.lt_succ_self _, q⟩, fun x H3 y => ?_⟩
     obtain ⟨sm, rx⟩ := hy x H3 y
     have x3 : Ext X.K H2 α2 H3 α2 := Same.ext sm
     refine ⟨σd2, S2, α2, d, σ3, S3, v2.mono x3, s2.mono sm, rx, e4, fun σ5 H5 α5 v5 s5 x5 => ?_⟩
     refine ⟨σ3, S3, α5, fl4, σ4, S4, v5, s5, e5, fun σ6 H6 α6 v6 s6 x6 => ?_⟩
     have xx := ((x2.trans x3).trans x5).trans x6
     cases fl4 with
     | nx => exact ⟨σ4, S4, α6, v6, s6, xx, e6⟩
     | ct => exact ⟨σ4, S4, α6, v6, s6, xx, e6⟩
     | bk => cases e6; exact k _ _ _ v6 s6 (x1.trans xx)
     | rt d => cases e6; exact k _ _ _ v6 s6 (x1.trans xx)
   · cases e
def srcD (src : List (Option Nat)) (σ : Sg) : Sg := src.map fun o => o.bind fun i => (σ[i]?).join
theorem zg2 {K : PySem.W.Frag} {H : Hp} {α : List Addr} {σd : Sg} {σ : L2.St} {src : List (Option Nat)} (h : VarsR K H α σd σ) : VarsR K H α (srcD src σd) (srcV src σ) := by
 refine ⟨by simp [srcD, srcV], fun i d e => ?_⟩
 unfold srcD at e
 rw [List.getElem?_map] at e
 cases q : src[i]? with
 | none => rw [q] at e; simp at e
 | some o =>
   rw [q] at e
   cases o with
   | none => simp at e
   | some j =>
     simp only [Option.map_some, Option.bind_some, Option.some.injEq] at e
     cases q2 : σd[j]? with
     | none => rw [q2] at e; simp at e
     | some o2 =>
       rw [q2] at e
       simp at e
       subst e
       obtain ⟨v, h1, h2⟩ := h.2 j d q2
       exact ⟨v, by unfold srcV; rw [List.getElem?_map, q]; simp [h1], h2⟩
def tTru : TF := fun _ S => some (true, S)
def lcN (nx : Nat → So → Option (Option D)) (g : GF) (t : TF) (fe : EF) : Nat → Nat → Sg → So → List D → Option (List D × So)
 | 0, i, _, S, acc => match nx i S with
   | some none => some (acc, S)
   | _ => none
 | k + 1, i, τ, S, acc => match nx i S with
   | some (some d) => (g d τ S).bind fun q => (t q.1 q.2).bind fun b => if b.1 = true then (fe q.1 b.2).bind fun r => lcN nx g t fe k (i + 1) q.1 r.2 (acc ++ [r.1]) else lcN nx g t fe k (i + 1) q.1 b.2 acc
   | _ => none
def lcD (fi : IF) (g : GF) (t : TF) (fe : EF) (src : List (Option Nat)) : Sg → So → Option (List D × So) := fun σ S => (fi σ S).bind fun r => (cntD r.1 r.2).bind fun n => if n ≤ sizeLine then lcN (nxD r.1) g t fe n 0 (srcD src σ) r.2 [] else none
def eLc (fi : IF) (g : GF) (t : TF) (fe : EF) (src : List (Option Nat)) : EF := fun σ S => (lcD fi g t fe src σ S).map fun q => (.ref q.2.length, q.2 ++ [.lst q.1])
def STs (X : Cx) (ifs : List Expr) (t : TF) : Prop := PTs X ifs (rdT X.K t)
theorem zh9 {X : Cx} : STs X [] tTru := fun pins s σ H Q I h => zix pins s σ H Q I (by
 obtain ⟨σd, S, α, b, S', hv, hs, hf, k⟩ := h
 cases hf
 exact k _ _ hs Ext.refl)
theorem zh8 {X : Cx} {c : Expr} {t : TF} (h : ST X c t) : STs X [c] t := ziw h
section
variable {X : Cx} {elt tg iter : Expr} {ifs : List Expr} {scope : Scope} {pos : Pos} {N' : List Str} {src : List (Option Nat)} {fi : IF} {g : GF} {t : TF} {fe : EF}
theorem zgn {K : PySem.W.Frag} {σd : Sg} {σ : L2.St} {S S' : So} {H : Hp} {α : List Addr} {ds : List D} {Fin : List V → Hp → Prop} (hv : VarsR K H α σd σ) (hs : StoreR K H α S) (hf : lcD fi g t fe src σd S = some (ds, S'))
   (k : ∀ ys H' α', StoreR K H' α' S' → Ext K H α H' α' → Reps K H' α' ds ys → Fin ys H') :
   rdI K fi σ H fun J H1 => ∃ W, (∃ m, W 0 m [] (srcV src σ) H1) ∧ LcW J (rdG K g) (rdT K t) (rdE K fe) Fin W := by
 unfold lcD at hf
 simp only [Option.bind_eq_some_iff] at hf
 obtain ⟨⟨j, S1⟩, e1, n, e2, e3⟩ := hf
 split at e3
 · rename_i hn
   refine ⟨σd, S, α, j, S1, hv, hs, e1, fun J H1 α1 s1 x1 jr => ?_⟩
   refine ⟨fun i m ys τ H2 => ∃ σd2 S2 α2 acc, VarsR K H2 α2 σd2 τ ∧ StoreR K H2 α2 S2 ∧ Ext K H1 α1 H2 α2 ∧ Reps K H2 α2 acc ys ∧ acc.length + m ≤ sizeLine ∧ lcN (nxD j) g t fe m i σd2 S2 acc = some (ds, S'),
     ⟨n, srcD src σd, S1, α1, [], zg2 (hv.mono x1), s1, Ext.refl, .nil, by simpa using hn, e3⟩, ?_⟩
   rintro i m ys τ H2 ⟨σd2, S2, α2, acc, v2, s2, x2, r2, hl, e⟩
   obtain ⟨jstop, jgo⟩ := jr i H2 α2 S2 x2 s2
   cases m with
   | zero =>
     unfold lcN at e
     split at e
     · rename_i hn
       cases e
       exact .inl ⟨jstop hn, k _ _ _ s2 (x1.trans x2) r2⟩
     · cases e
   | succ m =>
     unfold lcN at e
     split at e
     · rename_i d hn
       obtain ⟨hgo, hy⟩ := jgo d hn
       simp only [Option.bind_eq_some_iff] at e
       obtain ⟨⟨σ3, S3⟩, e4, ⟨b, S4⟩, e5, e6⟩ := e
       refine .inr ⟨hgo, by rw [← r2.length]; omega, fun x H3 y => ?_⟩
       obtain ⟨sm, rx⟩ := hy x H3 y
       have x3 : Ext K H2 α2 H3 α2 := Same.ext sm
       refine ⟨σd2, S2, α2, d, σ3, S3, v2.mono x3, s2.mono sm, rx, e4, fun σ5 H5 α5 v5 s5 x5 => ?_⟩
       refine ⟨σ3, S3, α5, b, S4, v5, s5, e5, fun H6 α6 s6 x6 => ?_⟩
       cases b with
       | false =>
         rw [if_neg Bool.false_ne_true]; rw [if_neg Bool.false_ne_true] at e6
         exact ⟨m, Nat.lt_succ_self _, σ3, S4, α6, acc, v5.mono x6, s6, ((x2.trans x3).trans x5).trans x6, ((r2.mono x3).mono x5).mono x6, by omega, e6⟩
       | true =>
         rw [if_pos rfl]; rw [if_pos rfl] at e6
         simp only [Option.bind_eq_some_iff] at e6
         obtain ⟨⟨z, S7⟩, e7, e8⟩ := e6
         refine ⟨σ3, S4, α6, z, S7, v5.mono x6, s6, e7, fun w H8 α8 s8 x8 r8 => ?_⟩
         exact ⟨m, Nat.lt_succ_self _, σ3, S7, α8, acc ++ [z], (v5.mono x6).mono x8, s8, (((x2.trans x3).trans x5).trans x6).trans x8, ((((r2.mono x3).mono x5).mono x6).mono x8).append (.cons r8 .nil), by simp; omega, e8⟩
     · cases e
 · cases e3
theorem zd5 (hY : ∀ Y, IsComp X scope N' Y → SG Y tg g ∧ STs Y ifs t ∧ SE Y elt fe) : ∀ Y, IsComp X scope N' Y → PG Y tg (rdG X.K g) ∧ PTs Y ifs (rdT X.K t) ∧ PE Y elt (rdE X.K fe) := fun Y hy => by
 obtain ⟨h1, h2, h3⟩ := hY Y hy
 unfold SG at h1
 unfold STs at h2
 unfold SE at h3
 rw [hy.K] at h1 h2 h3
 exact ⟨h1, h2, h3⟩
theorem zj7 (hc : X.calm = true) (ok : CompOk X scope N' src) (hi : SI X tg iter fi) (hY : ∀ Y, IsComp X scope N' Y → SG Y tg g ∧ STs Y ifs t ∧ SE Y elt fe)
   (hfs : ∀ x, foldedSetIterable iter X.env x = pure x) : SE X (.ListComp elt [⟨tg, iter, ifs, 0⟩] scope pos) (eLc fi g t fe src) := by
 refine PE.imp (zlB hc ok hi (zd5 hY) hfs) fun σ H Q h => ?_
 obtain ⟨σd, S, α, z, S', hv, hs, hf, k⟩ := h
 unfold eLc at hf
 simp only [Option.map_eq_some_iff] at hf
 obtain ⟨⟨ds, S1⟩, e1, e2⟩ := hf
 cases e2
 refine zgn hv hs e1 fun ys H' α' s' x' r' p hp => ?_
 obtain ⟨s2, x2⟩ := s'.snoc (p := p) (o := .lst ds) (u := .lst ys) hp fun α'' e => ⟨_, zaj, r'.mono e⟩
 exact k _ _ _ s2 (x'.trans x2) (.ref (by rw [← s'.len]; simp))
theorem zg0 {y : Str} {py spos : Pos} {i : Nat} (hN : X.N.Nodup) (hyi : X.N[i]? = some y) (hy : X.env.kindOf y = some .local)
   (hsw : swapsWith (.ListComp elt [⟨tg, iter, ifs, 0⟩] scope pos) (some (.Name y py)) spos.line X.env = pure true)
   (hc : X.calm = true) (ok : CompOk X scope N' src) (hi : SI X tg iter fi) (hY : ∀ Y, IsComp X scope N' Y → SG Y tg g ∧ STs Y ifs t ∧ SE Y elt fe)
   (hfs : ∀ x, foldedSetIterable iter X.env x = pure x) : SS X (.Assign [.Name y py] (.ListComp elt [⟨tg, iter, ifs, 0⟩] scope pos) spos) (sAsg (eLc fi g t fe src) (gNm i)) := by
 refine PS.imp (zhj hN hyi hy hsw hc ok hi (zd5 hY) hfs) fun D σ H h => ?_
 obtain ⟨σd, S, α, fl, σd', S', hv, hs, hf, k⟩ := h
 unfold sAsg eLc at hf
 simp only [Option.bind_eq_some_iff, Option.map_eq_some_iff] at hf
 obtain ⟨⟨d, S1⟩, ⟨⟨ds, S2⟩, e1, e2⟩, ⟨σ1, S3⟩, e3, e4⟩ := hf
 cases e4; cases e3; cases e2
 refine zgn hv hs e1 fun ys H' α' s' x' r' p hp => ?_
 obtain ⟨s2, x2⟩ := s'.snoc (p := p) (o := .lst ds) (u := .lst ys) hp fun α'' e => ⟨_, zaj, r'.mono e⟩
 exact k _ _ _ (((hv.mono x').mono x2).set (.ref (by rw [← s'.len]; simp)) i) s2 (x'.trans x2)
end
end MX
end
section
set_option autoImplicit false
namespace MX
open PySem PySem.Spec PyProof.Rows L2
def gLen : GN
 | [.tup xs], S => some (.int xs.length, S)
 | [.str z], S => if z.length ≤ sizeLine then some (.int z.length, S) else none
 | [.ref n], S => match S[n]? with
   | some (.lst xs) => some (.int xs.length, S)
   | some (.frz xs) => some (.int xs.length, S)
   | _ => none
 | _, _ => none
def gAbs : GN
 | [.int i], S => some (.int (if i < 0 then -i else i), S)
 | _, _ => none
def intsD : List D → Option (List Int)
 | [] => some []
 | .int i :: r => (intsD r).map (i :: ·)
 | _ :: _ => none
def minI : List Int → Option Int
 | [] => none
 | i :: r => some (r.foldl (fun a b => if b < a then b else a) i)
def maxI : List Int → Option Int
 | [] => none
 | i :: r => some (r.foldl (fun a b => if b > a then b else a) i)
def gMin : GN
 | [.int i, .int j], S => some (.int (if j < i then j else i), S)
 | [.ref n], S => match S[n]? with
   | some (.lst xs) => (intsD xs).bind fun ns => (minI ns).map fun m => (.int m, S)
   | _ => none
 | _, _ => none
def gMax : GN
 | [.int i, .int j], S => some (.int (if j > i then j else i), S)
 | [.ref n], S => match S[n]? with
   | some (.lst xs) => (intsD xs).bind fun ns => (maxI ns).map fun m => (.int m, S)
   | _ => none
 | _, _ => none
def gTuple : GN
 | [.tup xs], S => some (.tup xs, S)
 | [.ref n], S => match S[n]? with
   | some (.lst xs) => some (.tup xs, S)
   | some (.frz xs) => some (.tup xs, S)
   | _ => none
 | _, _ => none
def gList : GN
 | [.tup xs], S => some (.ref S.length, S ++ [.lst xs])
 | [.ref n], S => match S[n]? with
   | some (.lst xs) => some (.ref S.length, S ++ [.lst xs])
   | some (.frz xs) => some (.ref S.length, S ++ [.lst xs])
   | _ => none
 | _, _ => none
theorem zdj : ∀ (r : List Int) (i : Int), r.foldl (fun a b => if b < a then b else a) i ≤ i ∧ (∀ x ∈ r, r.foldl (fun a b => if b < a then b else a) i ≤ x) ∧ (r.foldl (fun a b => if b < a then b else a) i = i ∨ r.foldl (fun a b => if b < a then b else a) i ∈ r)
 | [], i => ⟨Int.le_refl _, fun _ h => (nomatch h), .inl rfl⟩
 | x :: r, i => by
   obtain ⟨h1, h2, h3⟩ := zdj r (if x < i then x else i)
   rw [List.foldl_cons]
   refine ⟨?_, fun y hy => ?_, ?_⟩
   · refine Int.le_trans (by first | exact h1 | (refine Int.le_trans ?_ h1; split <;> omega)) (by first | (split <;> omega) | exact Int.le_refl _)
   · rcases List.mem_cons.mp hy with rfl | hy
     · first
         | exact Int.le_trans h1 (by split <;> omega)
         | exact Int.le_trans (by split <;> omega) h1
     · exact h2 y hy
   · rcases h3 with h3 | h3
     · rw [h3]
       split
       · exact .inr List.mem_cons_self
       · exact .inl rfl
     · exact .inr (List.mem_cons_of_mem _ h3)
theorem zdk : ∀ (r : List Int) (i : Int), i ≤ r.foldl (fun a b => if b > a then b else a) i ∧ (∀ x ∈ r, x ≤ r.foldl (fun a b => if b > a then b else a) i) ∧ (r.foldl (fun a b => if b > a then b else a) i = i ∨ r.foldl (fun a b => if b > a then b else a) i ∈ r)
 | [], i => ⟨Int.le_refl _, fun _ h => (nomatch h), .inl rfl⟩
 | x :: r, i => by
   obtain ⟨h1, h2, h3⟩ := zdk r (if x > i then x else i)
   rw [List.foldl_cons]
   refine ⟨?_, fun y hy => ?_, ?_⟩
   · refine Int.le_trans (by first | exact h1 | (refine Int.le_trans ?_ h1; split <;> omega)) (by first | (split <;> omega) | exact Int.le_refl _)
   · rcases List.mem_cons.mp hy with rfl | hy
     · first
         | exact Int.le_trans h1 (by split <;> omega)
         | exact Int.le_trans (by split <;> omega) h1
     · exact h2 y hy
   · rcases h3 with h3 | h3
     · rw [h3]
       split
       · exact .inr List.mem_cons_self
       · exact .inl rfl
     · exact .inr (List.mem_cons_of_mem _ h3)
theorem zgk {ns : List Int} {m : Int} (h1 : m ∈ ns) (h2 : ∀ a ∈ ns, m ≤ a) : minI ns = some m := by
 cases ns with
 | nil => cases h1
 | cons i r =>
   obtain ⟨a, b, c⟩ := zdj r i
   unfold minI
   have l1 : m ≤ r.foldl (fun a b => if b < a then b else a) i := by
     rcases c with c | c
     · rw [c]; exact h2 i List.mem_cons_self
     · exact h2 _ (List.mem_cons_of_mem _ c)
   have l2 : r.foldl (fun a b => if b < a then b else a) i ≤ m := by
     rcases List.mem_cons.mp h1 with rfl | h1
     · exact a
     · exact b m h1
   exact congrArg some (Int.le_antisymm l2 l1)
theorem zgl {ns : List Int} {m : Int} (h1 : m ∈ ns) (h2 : ∀ a ∈ ns, a ≤ m) : maxI ns = some m := by
 cases ns with
 | nil => cases h1
 | cons i r =>
   obtain ⟨a, b, c⟩ := zdk r i
   unfold maxI
   have l1 : r.foldl (fun a b => if b > a then b else a) i ≤ m := by
     rcases c with c | c
     · rw [c]; exact h2 i List.mem_cons_self
     · exact h2 _ (List.mem_cons_of_mem _ c)
   have l2 : m ≤ r.foldl (fun a b => if b > a then b else a) i := by
     rcases List.mem_cons.mp h1 with rfl | h1
     · exact a
     · exact b m h1
   exact congrArg some (Int.le_antisymm l1 l2)
theorem zbW {K : PySem.W.Frag} {H : Hp} {α : List Addr} : ∀ {ds : List D} {vs : List V} {us : List Value} {ns : List Int}, Reps K H α ds vs → Vals vs us → intsD ds = some ns → IntsAre us ns
 | _, _, _, _, .nil, .nil, e => by cases e; exact .nil
 | _, _, _, _, .cons r rr, .cons rv rvs, e => by
   cases r with
   | int i =>
     simp only [intsD, Option.map_eq_some_iff] at e
     obtain ⟨ms, e1, rfl⟩ := e
     obtain ⟨t, rfl⟩ := rv
     exact .cons _ _ (zbW rr rvs e1)
   | _ => cases e
theorem Reps.inv1 {K : PySem.W.Frag} {H : Hp} {α : List Addr} {d : D} {vs : List V} (r : Reps K H α [d] vs) : ∃ v, vs = [v] ∧ Rep K H α d v := by
 cases r with
 | cons r rr => cases rr; exact ⟨_, rfl, r⟩
theorem Reps.inv2 {K : PySem.W.Frag} {H : Hp} {α : List Addr} {d e : D} {vs : List V} (r : Reps K H α [d, e] vs) : ∃ v u, vs = [v, u] ∧ Rep K H α d v ∧ Rep K H α e u := by
 cases r with
 | cons r rr =>
   obtain ⟨u, rfl, q⟩ := rr.inv1
   exact ⟨_, _, rfl, r, q⟩
theorem zaG {K : PySem.W.Frag} {H : Hp} {α : List Addr} {S : So} {n : Nat} {a : Addr} {xs : List D} (hs : StoreR K H α S) (ha : α[n]? = some a) (h : S[n]? = some (.lst xs) ∨ S[n]? = some (.frz xs)) : ∃ vs, SqL K H a vs ∧ Reps K H α xs vs := by
 rcases h with h | h
 · obtain ⟨vs, q, r⟩ := hs.obj _ _ _ h ha; exact ⟨vs, SqL.of q, r⟩
 · obtain ⟨vs, q, r⟩ := hs.obj _ _ _ h ha; exact ⟨vs, q.sq, r⟩
section
variable {X : Cx}
theorem zlk : CallR X (.builtin "len") (rdC X.K gLen) := by
 intro pins s σ H vs us Q I rv h
 obtain ⟨S, α, ds, z, S', hs, r, hg, k⟩ := h
 unfold gLen at hg
 split at hg
 · cases hg
   obtain ⟨v, rfl, r0⟩ := r.inv1
   cases r0 with
   | tup h r1 => exact zdq pins s σ H _ us Q I rv ⟨_, _, rfl, .inr h, by rw [← r1.length]; exact k.same hs (.int _)⟩
 · split at hg
   · rename_i hl
     cases hg
     obtain ⟨v, rfl, r0⟩ := r.inv1
     cases r0
     exact zeK pins s σ H _ us Q I rv ⟨_, rfl, hl, k.same hs (.int _)⟩
   · cases hg
 · obtain ⟨v, rfl, r0⟩ := r.inv1
   cases r0 with
   | @ref n a ha =>
     have core : ∀ xs, (∃ vs, SqL X.K H a vs ∧ Reps X.K H α xs vs) → some (D.int (xs.length : Int), S) = some (z, S') → wpAny (model X.prog X.w) X.A (call (.builtin "len") us) (EP X pins σ Q) X.xe s := fun xs ⟨vs, q, r⟩ e => by
       cases e
       exact zdq pins s σ H _ us Q I rv ⟨_, _, rfl, .inl q, by rw [← r.length]; exact k.same hs (.int _)⟩
     split at hg
     · rename_i e; exact core _ (zaG hs ha (.inl e)) hg
     · rename_i e; exact core _ (zaG hs ha (.inr e)) hg
     · cases hg
 · cases hg
theorem zli (hc : X.calm = true) : CallR X (.builtin "min") (rdC X.K gMin) := by
 intro pins s σ H vs us Q I rv h
 obtain ⟨S, α, ds, z, S', hs, r, hg, k⟩ := h
 unfold gMin at hg
 split at hg
 · cases hg
   obtain ⟨v, u, rfl, r1, r2⟩ := r.inv2
   cases r1; cases r2
   exact zgS hc pins s σ H _ us Q I rv ⟨_, _, rfl, k.same hs (.int _)⟩
 · obtain ⟨v, rfl, r0⟩ := r.inv1
   cases r0 with
   | @ref n a ha =>
     split at hg
     · rename_i e
       simp only [Option.bind_eq_some_iff, Option.map_eq_some_iff] at hg
       obtain ⟨ns, e1, m, e2, e3⟩ := hg
       cases e3
       obtain ⟨ws, q, r⟩ := zaG hs ha (.inl e)
       obtain ⟨u, rfl, ru⟩ := vals1 rv
       cases ru
       obtain ⟨its, rr, pl, hz⟩ := I.list q
       have hi := zbW r rr e1
       have hne : 0 < ns.length := by
         cases ns with
         | nil => cases e2
         | cons _ _ => simp
       obtain ⟨xs, hxs⟩ := hi.allInts.items
       have hn := hi.numsOf
       have hnn : numsOf (intItems xs).toList = ns := by rw [← hxs]; simpa using hn
       rw [nums_intItems] at hnn
       have hsz : 0 < xs.size := by
         have := congrArg List.length hnn
         simp at this; omega
       have hl' : s.heap.IsList a (intItems xs) := by rw [← hxs]; exact pl.isList
       refine min_intList (I.ok.hd hc) hl' hsz fun v h' tk hv hk => ?_
       obtain ⟨t, rfl⟩ := intItems_at hv
       obtain ⟨h1, h2⟩ := argBest_lt (numAt xs) (xs.size - 1)
       have hm : minI ns = some (numAt xs (argBest (fun i j => decide (numAt xs i < numAt xs j)) (xs.size - 1))) := by
         refine zgk ?_ fun b hb => ?_
         · rw [← hnn, numAt_eq]; exact getD_mem (by rw [List.length_map, Array.length_toList]; omega)
         · rw [← hnn] at hb
           obtain ⟨j, hj, rfl⟩ := mem_getD hb
           rw [List.length_map, Array.length_toList] at hj
           rw [← numAt_eq]; exact h2 j (by omega)
       rw [e2] at hm; cases hm
       exact ⟨.int _, H, I.kept hk, ⟨t, rfl⟩, k.same hs (.int _)⟩
     · cases hg
 · cases hg
theorem zlj (hc : X.calm = true) : CallR X (.builtin "max") (rdC X.K gMax) := by
 intro pins s σ H vs us Q I rv h
 obtain ⟨S, α, ds, z, S', hs, r, hg, k⟩ := h
 unfold gMax at hg
 split at hg
 · cases hg
   obtain ⟨v, u, rfl, r1, r2⟩ := r.inv2
   cases r1; cases r2
   exact zgT hc pins s σ H _ us Q I rv ⟨_, _, rfl, k.same hs (.int _)⟩
 · obtain ⟨v, rfl, r0⟩ := r.inv1
   cases r0 with
   | @ref n a ha =>
     split at hg
     · rename_i e
       simp only [Option.bind_eq_some_iff, Option.map_eq_some_iff] at hg
       obtain ⟨ns, e1, m, e2, e3⟩ := hg
       cases e3
       obtain ⟨ws, q, r⟩ := zaG hs ha (.inl e)
       obtain ⟨u, rfl, ru⟩ := vals1 rv
       cases ru
       obtain ⟨its, rr, pl, hz⟩ := I.list q
       have hi := zbW r rr e1
       have hne : 0 < ns.length := by
         cases ns with
         | nil => cases e2
         | cons _ _ => simp
       obtain ⟨xs, hxs⟩ := hi.allInts.items
       have hn := hi.numsOf
       have hnn : numsOf (intItems xs).toList = ns := by rw [← hxs]; simpa using hn
       rw [nums_intItems] at hnn
       have hsz : 0 < xs.size := by
         have := congrArg List.length hnn
         simp at this; omega
       have hl' : s.heap.IsList a (intItems xs) := by rw [← hxs]; exact pl.isList
       refine max_intList (I.ok.hd hc) hl' hsz fun v h' tk hv hk => ?_
       obtain ⟨t, rfl⟩ := intItems_at hv
       obtain ⟨h1, h2⟩ := argBest_gt (numAt xs) (xs.size - 1)
       have hm : maxI ns = some (numAt xs (argBest (fun i j => decide (numAt xs i > numAt xs j)) (xs.size - 1))) := by
         refine zgl ?_ fun b hb => ?_
         · rw [← hnn, numAt_eq]; exact getD_mem (by rw [List.length_map, Array.length_toList]; omega)
         · rw [← hnn] at hb
           obtain ⟨j, hj, rfl⟩ := mem_getD hb
           rw [List.length_map, Array.length_toList] at hj
           rw [← numAt_eq]; exact h2 j (by omega)
       rw [e2] at hm; cases hm
       exact ⟨.int _, H, I.kept hk, ⟨t, rfl⟩, k.same hs (.int _)⟩
     · cases hg
 · cases hg
theorem zhU : CallR X (.type "tuple") (rdC X.K gTuple) := by
 intro pins s σ H vs us Q I rv h
 obtain ⟨S, α, ds, z, S', hs, r, hg, k⟩ := h
 unfold gTuple at hg
 split at hg
 · cases hg
   obtain ⟨v, rfl, r0⟩ := r.inv1
   cases r0 with
   | tup h r1 => exact zcZ pins s σ H _ us Q I rv ⟨_, _, rfl, .inr ⟨h, k.same hs (.tup h r1)⟩⟩
 · obtain ⟨v, rfl, r0⟩ := r.inv1
   cases r0 with
   | @ref n a ha =>
     have core : ∀ xs, (∃ vs, SqL X.K H a vs ∧ Reps X.K H α xs vs) → some (D.tup xs, S) = some (z, S') → wpAny (model X.prog X.w) X.A (call (.type "tuple") us) (EP X pins σ Q) X.xe s := fun xs ⟨vs, q, r⟩ e => by
       cases e
       exact zcZ pins s σ H _ us Q I rv ⟨_, _, rfl, .inl ⟨q, fun p hp => k.new hs (zaS hp) (.tup (SqT.of zaj) (r.mono (Same.ext (zaS hp))))⟩⟩
     split at hg
     · rename_i e; exact core _ (zaG hs ha (.inl e)) hg
     · rename_i e; exact core _ (zaG hs ha (.inr e)) hg
     · cases hg
 · cases hg
theorem zjB : CallR X (.type "list") (rdC X.K gList) := by
 intro pins s σ H vs us Q I rv h
 obtain ⟨S, α, ds, z, S', hs, r, hg, k⟩ := h
 have fin : ∀ (xs : List D) (vs : List V) (p : Addr), Reps X.K H α xs vs → H p = none → some (D.ref S.length, S ++ [O.lst xs]) = some (z, S') → Q (.ref p) (upd H p (.lst vs)) := fun xs vs p r hp e => by
   cases e
   obtain ⟨s2, x2⟩ := hs.snoc (p := p) (o := .lst xs) (u := .lst vs) hp fun α'' e => ⟨_, zaj, r.mono e⟩
   exact k _ _ _ s2 x2 (.ref (by rw [← hs.len]; simp))
 unfold gList at hg
 split at hg
 · obtain ⟨v, rfl, r0⟩ := r.inv1
   cases r0 with
   | tup h r1 => exact zdp pins s σ H _ us Q I rv ⟨_, _, rfl, .inr h, fun p hp => fin _ _ p r1 hp hg⟩
 · obtain ⟨v, rfl, r0⟩ := r.inv1
   cases r0 with
   | @ref n a ha =>
     have core : ∀ xs, (∃ vs, SqL X.K H a vs ∧ Reps X.K H α xs vs) → some (D.ref S.length, S ++ [O.lst xs]) = some (z, S') → wpAny (model X.prog X.w) X.A (call (.type "list") us) (EP X pins σ Q) X.xe s := fun xs ⟨vs, q, r⟩ e =>
       zdp pins s σ H _ us Q I rv ⟨_, _, rfl, .inl q, fun p hp => fin _ _ p r hp e⟩
     split at hg
     · rename_i e; exact core _ (zaG hs ha (.inl e)) hg
     · rename_i e; exact core _ (zaG hs ha (.inr e)) hg
     · cases hg
 · cases hg
end
def isiT (a b : String) : Option Bool := PySem.W.kitOne (default) (.type a) (.type b)
theorem zgu {K : PySem.W.Frag} {a b : String} : PySem.W.kitOne K (.type a) (.type b) = isiT a b := by
 unfold isiT PySem.W.kitOne PySem.W.kitCls PySem.W.subIn
 rfl
def tyD : D → So → Option String
 | .non, _ => some "NoneType"
 | .bl _, _ => some "bool"
 | .int _, _ => some "int"
 | .str _, _ => some "str"
 | .tup _, _ => some "tuple"
 | .ref n, S => match S[n]? with
   | some (.lst _) => some "list"
   | _ => none
 | _, _ => none
def gIsi : GN
 | [d, .ty T], S => (tyD d S).bind fun t => (isiT t T).map fun b => (.bl b, S)
 | _, _ => none
theorem zjI {K : PySem.W.Frag} {H : Hp} {α : List Addr} {S : So} {d : D} {v : V} {t : String} (hs : StoreR K H α S) (r : Rep K H α d v) (e : tyD d S = some t) : (∃ b vs, v = .ref b ∧ SqT K H b vs ∧ t = "tuple") ∨ TyOf K H v (.type t) := by
 cases r with
 | non => cases e; exact .inr .non
 | bl b => cases e; exact .inr (.bl b)
 | int i => cases e; exact .inr (.int i)
 | str x => cases e; exact .inr (.str x)
 | tup h r => cases e; exact .inl ⟨_, _, rfl, h, rfl⟩
 | @ref n a ha =>
   simp only [tyD] at e
   split at e
   · rename_i q
     cases e
     obtain ⟨vs, h, _⟩ := hs.obj _ _ _ q ha
     exact .inr (.lst h)
   · cases e
 | ty n => cases e
 | adr a => cases e
theorem zll {X : Cx} : CallR X (.builtin "isinstance") (rdC X.K gIsi) := by
 intro pins s σ H vs us Q I rv h
 obtain ⟨S, α, ds, z, S', hs, r, hg, k⟩ := h
 unfold gIsi at hg
 split at hg
 · simp only [Option.bind_eq_some_iff, Option.map_eq_some_iff] at hg
   obtain ⟨t, e1, b, e2, e3⟩ := hg
   cases e3
   obtain ⟨v, u, rfl, r1, r2⟩ := r.inv2
   cases r2 with
   | ty T =>
     obtain ⟨u1, u2, rfl, q1, q2⟩ := vals2 rv
     cases q2
     rcases zjI hs r1 e1 with ⟨a, ws, rfl, h, rfl⟩ | ty
     · cases q1
       obtain ⟨its, _, ⟨o, h1, h2, _⟩, _⟩ := I.tuple h
       exact PySem.W.kia_one PySem.W.kitx_tuple I.kIn ⟨o, h1, h2⟩ (by rw [zgu]; exact e2) (fun z => nomatch z) fun tk => ⟨.bl b, H, I.tok _, rfl, k.same hs (.bl _)⟩
     · exact zgt I q1 ty (by rw [zgu]; exact e2) fun tk => ⟨.bl b, H, I.tok _, rfl, k.same hs (.bl _)⟩
 · cases hg
abbrev PF := Sg → So → Option (Option Int × So)
def pNone : PF := fun _ S => some (none, S)
def pSome (fe : EF) : PF := fun σ S => (fe σ S).bind fun r => match r.1 with
 | .int i => some (some i, r.2)
 | _ => none
def cutD (xs : List D) (lo hi : Option Int) : List D := (xs.drop (HT.sIx xs.length 0 lo)).take (HT.sIx xs.length xs.length hi - HT.sIx xs.length 0 lo)
def gSl : D → Option Int → Option Int → So → Option (D × So)
 | .tup xs, lo, hi, S => if ¬ (HT.sIx xs.length 0 lo = 0 ∧ HT.sIx xs.length xs.length hi = xs.length) then some (.tup (cutD xs lo hi), S) else none
 | .ref n, lo, hi, S => match S[n]? with
   | some (.lst xs) => some (.ref S.length, S ++ [.lst (cutD xs lo hi)])
   | some (.frz xs) => some (.ref S.length, S ++ [.lst (cutD xs lo hi)])
   | _ => none
 | _, _, _, _ => none
def eSl (fe : EF) (fl fh : PF) : EF := fun σ S => (fe σ S).bind fun r => (fl σ r.2).bind fun l => (fh σ l.2).bind fun h => gSl r.1 l.1 h.1 h.2
def rdP (K : PySem.W.Frag) (f : PF) : TO := fun σ H Q => ∃ σd S α p S', VarsR K H α σd σ ∧ StoreR K H α S ∧ f σd S = some (p, S') ∧ ∀ H' α', StoreR K H' α' S' → Ext K H α H' α' → Q p H'
def SPt (X : Cx) (e : Option Expr) (f : PF) : Prop := PO X e (rdP X.K f)
theorem zfo {K : PySem.W.Frag} {H : Hp} {α : List Addr} {ds : List D} {vs : List V} {lo hi : Option Int} (r : Reps K H α ds vs) : Reps K H α (cutD ds lo hi) (cutV vs lo hi) := by
 unfold cutD cutV
 rw [r.length]
 exact (r.drop _).take _
section
variable {X : Cx} {e : Expr} {fe : EF} {lo hi : Option Expr} {fl fh : PF} {pos p2 : Pos}
theorem zih : SPt X none pNone := fun pins s σ H Q I h => ziF pins s σ H Q I (by
 obtain ⟨σd, S, α, p, S', hv, hs, hf, k⟩ := h
 cases hf
 exact k _ _ hs Ext.refl)
theorem zif (he : SE X e fe) : SPt X (some e) (pSome fe) := fun pins s σ H Q I h => ziE he pins s σ H Q I (by
 obtain ⟨σd, S, α, p, S', hv, hs, hf, k⟩ := h
 unfold pSome at hf
 simp only [Option.bind_eq_some_iff] at hf
 obtain ⟨⟨d, S1⟩, e1, e2⟩ := hf
 refine ⟨σd, S, α, d, S1, hv, hs, e1, fun v H1 α1 s1 x1 r1 => ?_⟩
 cases r1 with
 | int i => cases e2; exact ⟨i, rfl, k _ _ s1 x1⟩
 | _ => cases e2)
theorem zhb (he : SE X e fe) (hl : SPt X lo fl) (hh : SPt X hi fh) : SE X (.Subscript e (.Slice lo hi none p2) pos) (eSl fe fl fh) := by
 refine PE.imp (zho (SlR.or zjW zik) he hl hh) fun σ H Q h => ?_
 obtain ⟨σd, S, α, z, S', hv, hs, hf, k⟩ := h
 unfold eSl at hf
 simp only [Option.bind_eq_some_iff] at hf
 obtain ⟨⟨d, S1⟩, e1, ⟨l, S2⟩, e2, ⟨u, S3⟩, e3, e4⟩ := hf
 refine ⟨σd, S, α, d, S1, hv, hs, e1, fun v H1 α1 s1 x1 r1 => ⟨σd, S1, α1, l, S2, hv.mono x1, s1, e2, fun H2 α2 s2 x2 => ⟨σd, S2, α2, u, S3, (hv.mono x1).mono x2, s2, e3, fun H3 α3 s3 x3 => ?_⟩⟩⟩
 have r3 := (r1.mono x2).mono x3
 have k3 := k.trans ((x1.trans x2).trans x3)
 simp only at e4
 cases r3 with
 | tup h r =>
   simp only [gSl] at e4
   split at e4
   · rename_i hc
     cases e4
     refine .inl ⟨_, _, rfl, h, by rw [← r.length]; exact hc, fun p hp => ?_⟩
     exact k3.new s3 (zaS hp) (.tup (SqT.of zaj) ((zfo r).mono (Same.ext (zaS hp))))
   · cases e4
 | @ref n a ha =>
   simp only [gSl] at e4
   have core : ∀ xs, (∃ vs, SqL X.K H3 a vs ∧ Reps X.K H3 α3 xs vs) → some (D.ref S3.length, S3 ++ [O.lst (cutD xs l u)]) = some (z, S') → rSlT X.K (.ref a) l u H3 Q ∨ rSlL X.K (.ref a) l u H3 Q := fun xs ⟨vs, q, r⟩ e => by
     cases e
     refine .inr ⟨_, _, rfl, q, fun p hp => ?_⟩
     obtain ⟨s4, x4⟩ := s3.snoc (p := p) (o := .lst (cutD xs l u)) (u := .lst (cutV vs l u)) hp fun α'' e => ⟨_, zaj, (zfo r).mono e⟩
     exact k3 _ _ _ s4 x4 (.ref (by rw [← s3.len]; simp))
   split at e4
   · rename_i q; exact core _ (zaG s3 ha (.inl q)) e4
   · rename_i q; exact core _ (zaG s3 ha (.inr q)) e4
   · cases e4
 | _ => cases e4
end
abbrev GM := D → List D → So → Option (D × So)
def rdM (K : PySem.W.Frag) (g : GM) : V → List V → Hp → VK → Prop := fun v vs H Q => ∃ S α d ds z S', StoreR K H α S ∧ Rep K H α d v ∧ Reps K H α ds vs ∧ g d ds S = some (z, S') ∧ Kt K H α z S' Q
def gAppend : GM
 | .ref n, [d], S => match S[n]? with
   | some (.lst xs) => if xs.length < sizeLine then some (.non, S.set n (.lst (xs ++ [d]))) else none
   | _ => none
 | _, _, _ => none
theorem zgj {X : Cx} : MtR X "list.append" (rdM X.K gAppend) := by
 intro pins s σ H v vs vv us Q I rv rs h
 obtain ⟨S, α, d, ds, z, S', hs, r, rr, hg, k⟩ := h
 unfold gAppend at hg
 split at hg
 · cases r with
   | ref ha =>
     split at hg
     · rename_i e
       split at hg
       · rename_i hl
         cases hg
         obtain ⟨w, rfl, rw'⟩ := rr.inv1
         obtain ⟨ws, q, r⟩ := hs.obj _ _ _ e ha
         refine zgh pins s σ H _ _ _ us Q I rv rs ⟨_, _, _, rfl, rfl, q, by rw [← r.length]; exact hl, ?_⟩
         obtain ⟨s2, x2⟩ := hs.put (o := .lst (_ ++ [_])) (u := .lst (ws ++ [w])) e rfl rfl ha q (.inl ⟨_, rfl⟩) fun x => ⟨_, zaj, (r.append (.cons rw' .nil)).mono x⟩
         exact k _ _ _ s2 x2 .non
       · cases hg
     · cases hg
 · cases hg
def gInsert : GM
 | .ref n, [.int i, d], S => match S[n]? with
   | some (.lst xs) => if 0 ≤ i ∧ i ≤ xs.length ∧ xs.length < sizeLine then some (.non, S.set n (.lst (xs.take i.toNat ++ d :: xs.drop i.toNat))) else none
   | _ => none
 | _, _, _ => none
theorem zgi {X : Cx} : MtR X "list.insert" (rdM X.K gInsert) := by
 intro pins s σ H v vs vv us Q I rv rs h
 obtain ⟨S, α, d, ds, z, S', hs, r, rr, hg, k⟩ := h
 unfold gInsert at hg
 split at hg
 · rename_i n i d
   cases r with
   | ref ha =>
     split at hg
     · rename_i xs e
       split at hg
       · rename_i hl
         cases hg
         obtain ⟨w, u, rfl, r1, r2⟩ := rr.inv2
         cases r1
         obtain ⟨u1, u2, rfl, q1, q2⟩ := vals2 rs
         obtain ⟨t, rfl⟩ := q1
         cases rv
         obtain ⟨ws, q, r⟩ := hs.obj _ _ _ e ha
         obtain ⟨z, its, m, rr', hlen, he⟩ := I.lstM q
         have hrl := r.length
         have hn := line63
         have hfit : ¬ (!Builtin.List.listFitsIndex i) = true := by
           rw [fitsIndex_both (by omega) (by omega)]
           exact Bool.false_ne_true
         refine call_meets F.slot_list_insert ⟨_, he, rfl⟩ F.entry_list_insert (F.args_list_insert_3 _ _ _) (AutoListH.list_insert_list_int_val_1 _ its.toArray m i t u2 hfit (by rw [List.size_toArray]; omega)) ⟨he, ?_⟩
         refine ⟨.non, _, I.lset (ys := ws.take i.toNat ++ u :: ws.drop i.toNat) (its' := its.take i.toNat ++ u2 :: its.drop i.toNat) q he ?_ ((rr'.take _).append (.cons q2 (rr'.drop _))) ?_, rfl, ?_⟩
         · have hk : (if i < 0 then (i + ((its.toArray.size : Nat) : Int)).toNat else min i.toNat its.toArray.size) = i.toNat := by
             rw [if_neg (by omega), List.size_toArray]
             omega
           show ((its.toArray.extract 0 (if i < 0 then (i + ((its.toArray.size : Nat) : Int)).toNat else min i.toNat its.toArray.size)).push u2 ++ its.toArray.extract (if i < 0 then (i + ((its.toArray.size : Nat) : Int)).toNat else min i.toNat its.toArray.size)) = _
           rw [hk]
           apply Array.toList_inj.mp
           simp
           rw [List.take_of_length_le (by rw [List.length_drop]; exact Nat.le_refl _)]
         · rw [List.length_append, List.length_cons, List.length_take, List.length_drop]; omega
         · obtain ⟨s2, x2⟩ := hs.put (o := .lst (xs.take i.toNat ++ d :: xs.drop i.toNat)) (u := .lst (ws.take i.toNat ++ u :: ws.drop i.toNat)) e rfl rfl ha q (.inl ⟨_, rfl⟩) fun x => ⟨_, zaj, ((r.take _).append (.cons r2 (r.drop _))).mono x⟩
           exact k _ _ _ s2 x2 .non
       · cases hg
     · cases hg
 · cases hg
def eM (g : GM) (fo : EF) (fa : AF) : EF := fun σ S => (fo σ S).bind fun r => match r.1 with
 | .ref n => match r.2[n]? with
   | some (.lst _) => (fa σ r.2).bind fun q => g r.1 q.1 q.2
   | _ => none
 | _ => none
theorem zls {X : Cx} {o e : Expr} {es : List Expr} {fo : EF} {fa : AF} {g : GM} {name : Str} {id : String} {apos cpos : Pos} (slot : Slot "list" name id) (hty : typeOf (.builtin id) = pure (.type "method_descriptor")) (hm : MtR X id (rdM X.K g))
   (ho : SE X o fo) (ha : SA X (e :: es) fa) (hbase : attributeBase o name X.env (eval o X.env) = eval o X.env)
   (hfew : ((backTo cpos (starEach (e :: es) X.env)).all (fun x => !x.1) && (backToKw cpos (keywordEach [] X.env)).all (fun x => x.1.isSome)
     && decide ((e :: es).length + ([] : List Keyword).length + (if ([] : List Keyword).isEmpty then 0 else 1) < 30)) = true)
   (hline : (apos.endLine == cpos.line) = true) (hst : starEach (e :: es) X.env = (false, eval e X.env) :: starEach es X.env) (hplain : (backTo cpos (starEach es X.env)).any (·.1) = false) :
   SE X (.Call (.Attribute o name apos) (e :: es) [] cpos) (eM g fo fa) := by
 refine PE.imp (zlE PySem.F.plainAttrs_list slot hty hm ho ha hbase hfew hline hst hplain) fun σ H Q h => ?_
 obtain ⟨σd, S, α, z, S', hv, hs, hf, k⟩ := h
 unfold eM at hf
 simp only [Option.bind_eq_some_iff] at hf
 obtain ⟨⟨d, S1⟩, e1, e2⟩ := hf
 refine ⟨σd, S, α, d, S1, hv, hs, e1, fun v H1 α1 s1 x1 r1 => ?_⟩
 simp only at e2
 split at e2
 · rename_i n
   split at e2
   · rename_i xs q
     simp only [Option.bind_eq_some_iff] at e2
     obtain ⟨⟨ds, S2⟩, e3, e4⟩ := e2
     cases r1 with
     | ref ha =>
       obtain ⟨ws, hw, _⟩ := s1.obj _ _ _ q ha
       refine ⟨.inl ⟨rfl, _, SqL.of hw⟩, σd, S1, α1, ds, S2, hv.mono x1, s1, e3, fun vs H2 α2 s2 x2 r2 => ?_⟩
       exact ⟨S2, α2, _, ds, z, S', s2, .ref (x2.pre _ _ ha), r2, e4, k.trans (x1.trans x2)⟩
   · cases e2
 · cases e2
end MX
end
section
set_option autoImplicit false
namespace MX
open PySem PySem.Spec PyProof.Rows L2
def boolsD : List D → Option (List Bool)
 | [] => some []
 | .bl b :: r => (boolsD r).map (b :: ·)
 | _ :: _ => none
theorem zd7 {K : PySem.W.Frag} {H : Hp} {α : List Addr} : ∀ {ds : List D} {vs : List V} {us : List Value} {bs : List Bool}, Reps K H α ds vs → Vals vs us → boolsD ds = some bs → LSm.BoolsAre us bs
 | _, _, _, _, .nil, .nil, e => by cases e; exact .nil
 | _, _, _, _, .cons r rr, .cons rv rvs, e => by
   cases r with
   | bl b =>
     simp only [boolsD, Option.map_eq_some_iff] at e
     obtain ⟨ms, e1, rfl⟩ := e
     cases rv
     exact .cons _ (zd7 rr rvs e1)
   | _ => cases e
def gAll : GN
 | [.ref n], S => match S[n]? with
   | some (.lst xs) => (boolsD xs).map fun bs => (.bl (bs.all id), S)
   | _ => none
 | _, _ => none
def gSum : GN
 | [.ref n], S => match S[n]? with
   | some (.lst xs) => (intsD xs).map fun ns => (.int ns.sum, S)
   | _ => none
 | _, _ => none
section
variable {X : Cx}
theorem zfQ {prog : Program} {w : World} {A : Around} {E : Value → Shared → Prop} {s : Shared} {l : Addr} {vs : List Value} {bs : List Bool} {Q : Value → Shared → Prop} (hh : A.handled = none) (hl : s.heap.IsList l vs.toArray) (hb : LSm.BoolsAre vs bs)
   (h : ∀ h' tk, (∀ b x, s.heap.get? b = some x → h'.get? b = some x) → Q (.bool (bs.all id)) { s with heap := h', toks := tk }) : wpAny (model prog w) A (call (.builtin "all") [.ref l]) Q E s := by
 have hlt : l < s.heap.objs.size := by obtain ⟨_, e, _⟩ := hl; exact Heap.lt_size e
 refine call_all_walk (wpAny_pyIter_list hl ?_)
 refine ⟨s.heap.objs.size, [s.heap.objs.size, l], [s.heap.objs.size], vs.toArray.size, _, _, fun i => (bs[i]?).getD true, rfl, Walks.list (A := A.in1) hh _ l (Nat.ne_of_lt hlt) vs.toArray,
   ⟨⟨_, Heap.get?_push_size _ rfl, rfl, rfl⟩, hl.push _⟩, fun i v s' Q' E' hP hQ => ?_, fun h' tk hk => ?_⟩
 · obtain ⟨b, e, rfl⟩ := hb.get i v (by simpa using hP)
   simp only [e, Option.getD_some] at hQ
   exact wpAny_truthy_bool hQ
 · have e : ((List.range vs.toArray.size).all fun i => (bs[i]?).getD true) = bs.all id := by
     rw [List.size_toArray, hb.length]; exact LSm.range_all bs
   rw [e]
   exact h h' tk (LSm.kept_iter hk)
theorem zlm (hc : X.calm = true) : CallR X (.builtin "all") (rdC X.K gAll) := by
 intro pins s σ H vs us Q I rv h
 obtain ⟨S, α, ds, z, S', hs, r, hg, k⟩ := h
 unfold gAll at hg
 split at hg
 · obtain ⟨v, rfl, r0⟩ := r.inv1
   cases r0 with
   | @ref n a ha =>
     split at hg
     · rename_i e
       simp only [Option.map_eq_some_iff] at hg
       obtain ⟨bs, e1, e2⟩ := hg
       cases e2
       obtain ⟨ws, q, r⟩ := zaG hs ha (.inl e)
       obtain ⟨u, rfl, ru⟩ := vals1 rv
       cases ru
       obtain ⟨its, rr, pl, hz⟩ := I.list q
       exact zfQ (I.ok.hd hc) pl.isList (zd7 r rr e1) fun h' tk hk => ⟨.bl _, H, I.kept hk, rfl, k.same hs (.bl _)⟩
     · cases hg
 · cases hg
theorem zlh (hc : X.calm = true) : CallR X (.builtin "sum") (rdC X.K gSum) := by
 intro pins s σ H vs us Q I rv h
 obtain ⟨S, α, ds, z, S', hs, r, hg, k⟩ := h
 unfold gSum at hg
 split at hg
 · obtain ⟨v, rfl, r0⟩ := r.inv1
   cases r0 with
   | @ref n a ha =>
     split at hg
     · rename_i e
       simp only [Option.map_eq_some_iff] at hg
       obtain ⟨ns, e1, e2⟩ := hg
       cases e2
       obtain ⟨ws, q, r⟩ := zaG hs ha (.inl e)
       obtain ⟨u, rfl, ru⟩ := vals1 rv
       cases ru
       obtain ⟨its, rr, pl, hz⟩ := I.list q
       have hi := zbW r rr e1
       obtain ⟨xs, hx⟩ := hi.allInts.items
       have hl' : s.heap.IsList a (intItems xs) := hx ▸ pl.isList
       refine sum_intListG (I.ok.hd hc) hl' fun h' tk t' hk => ?_
       have e1 : ns = xs.toList.map (·.1) := by
         rw [← nums_intItems, ← hx]
         exact (show numsOf its.toArray.toList = ns by simpa using hi.numsOf).symm
       have e2 : preSum (numAt xs) xs.size = ns.sum := by
         rw [preSum_eq, List.take_of_length_le (by simp), e1]
       rw [e2]
       exact ⟨.int _, H, I.kept hk, ⟨_, rfl⟩, k.same hs (.int _)⟩
     · cases hg
 · cases hg
theorem zfI {prog : Program} {w : World} {A : Around} {E : Value → Shared → Prop} {s : Shared} {l : Addr} {xs : Array (Int × Tok)} {Q : Value → Shared → Prop} (hh : A.handled = none) (hl : s.heap.IsTuple l (intItems xs)) (hne : 0 < xs.size)
   (h : ∀ v h' tk, (intItems xs)[argBest (fun i j => decide (numAt xs i < numAt xs j)) (xs.size - 1)]? = some v → (∀ b o, s.heap.get? b = some o → h'.get? b = some o) → Q v { s with heap := h', toks := tk }) :
   wpAny (model prog w) A (call (.builtin "min") [.ref l]) Q E s := by
 have hlt : l < s.heap.objs.size := by obtain ⟨_, e, _⟩ := hl; exact Heap.lt_size e
 refine call_min_walk (wpAny_pyIter_tuple hl ?_)
 refine ⟨_, [s.heap.objs.size, l], [s.heap.objs.size], _, _, _, _, rfl, Walks.tuple (A := A.in1) hh _ l (Nat.ne_of_lt hlt) (intItems xs),
   ⟨⟨_, Heap.get?_push_size _ rfl, rfl, rfl⟩, hl.push _⟩, fun c hc => ?_, by simpa [intItems] using hne, CmpOf.ints_lt (numAt xs) (fun _ _ => intItems_at), fun v h' tk hP hk => ?_⟩
 · show c < (s.heap.push _).objs.size
   rw [Heap.size_push]
   rcases List.mem_cons.mp hc with rfl | hc
   · exact Nat.lt_succ_self _
   · rcases List.mem_cons.mp hc with rfl | hc
     · exact Nat.lt_succ_of_lt hlt
     · cases hc
 · exact h v h' tk (by simpa [intItems] using hP) (LSm.kept_iter hk)
theorem zfJ {prog : Program} {w : World} {A : Around} {E : Value → Shared → Prop} {s : Shared} {l : Addr} {xs : Array (Int × Tok)} {Q : Value → Shared → Prop} (hh : A.handled = none) (hl : s.heap.IsTuple l (intItems xs)) (hne : 0 < xs.size)
   (h : ∀ v h' tk, (intItems xs)[argBest (fun i j => decide (numAt xs i > numAt xs j)) (xs.size - 1)]? = some v → (∀ b o, s.heap.get? b = some o → h'.get? b = some o) → Q v { s with heap := h', toks := tk }) :
   wpAny (model prog w) A (call (.builtin "max") [.ref l]) Q E s := by
 have hlt : l < s.heap.objs.size := by obtain ⟨_, e, _⟩ := hl; exact Heap.lt_size e
 refine call_max_walk (wpAny_pyIter_tuple hl ?_)
 refine ⟨_, [s.heap.objs.size, l], [s.heap.objs.size], _, _, _, _, rfl, Walks.tuple (A := A.in1) hh _ l (Nat.ne_of_lt hlt) (intItems xs),
   ⟨⟨_, Heap.get?_push_size _ rfl, rfl, rfl⟩, hl.push _⟩, fun c hc => ?_, by simpa [intItems] using hne, CmpOf.ints_gt (numAt xs) (fun _ _ => intItems_at), fun v h' tk hP hk => ?_⟩
 · show c < (s.heap.push _).objs.size
   rw [Heap.size_push]
   rcases List.mem_cons.mp hc with rfl | hc
   · exact Nat.lt_succ_self _
   · rcases List.mem_cons.mp hc with rfl | hc
     · exact Nat.lt_succ_of_lt hlt
     · cases hc
 · exact h v h' tk (by simpa [intItems] using hP) (LSm.kept_iter hk)
def gMin' : GN
 | [.tup xs], S => (intsD xs).bind fun ns => (minI ns).map fun m => (.int m, S)
 | ds, S => gMin ds S
def gMax' : GN
 | [.tup xs], S => (intsD xs).bind fun ns => (maxI ns).map fun m => (.int m, S)
 | ds, S => gMax ds S
theorem zjD (hc : X.calm = true) : CallR X (.builtin "min") (rdC X.K gMin') := by
 intro pins s σ H vs us Q I rv h
 obtain ⟨S, α, ds, z, S', hs, r, hg, k⟩ := h
 unfold gMin' at hg
 split at hg
 · obtain ⟨v, rfl, r0⟩ := r.inv1
   cases r0 with
   | @tup a ds vs q r1 =>
     simp only [Option.bind_eq_some_iff, Option.map_eq_some_iff] at hg
     obtain ⟨ns, e1, m, e2, e3⟩ := hg
     cases e3
     obtain ⟨u, rfl, ru⟩ := vals1 rv
     cases ru
     obtain ⟨its, rr, pl, hz⟩ := I.tuple q
     have hi := zbW r1 rr e1
     have hne : 0 < ns.length := by
       cases ns with
       | nil => cases e2
       | cons _ _ => simp
     obtain ⟨xs, hxs⟩ := hi.allInts.items
     have hn := hi.numsOf
     have hnn : numsOf (intItems xs).toList = ns := by rw [← hxs]; simpa using hn
     rw [nums_intItems] at hnn
     have hsz : 0 < xs.size := by
       have := congrArg List.length hnn
       simp at this; omega
     have hl' : s.heap.IsTuple a (intItems xs) := by rw [← hxs]; exact pl
     refine zfI (I.ok.hd hc) hl' hsz fun v h' tk hv hk => ?_
     obtain ⟨t, rfl⟩ := intItems_at hv
     obtain ⟨h1, h2⟩ := argBest_lt (numAt xs) (xs.size - 1)
     have hm : minI ns = some (numAt xs (argBest (fun i j => decide (numAt xs i < numAt xs j)) (xs.size - 1))) := by
       refine zgk ?_ fun b hb => ?_
       · rw [← hnn, numAt_eq]; exact getD_mem (by rw [List.length_map, Array.length_toList]; omega)
       · rw [← hnn] at hb
         obtain ⟨j, hj, rfl⟩ := mem_getD hb
         rw [List.length_map, Array.length_toList] at hj
         rw [← numAt_eq]; exact h2 j (by omega)
     rw [e2] at hm; cases hm
     exact ⟨.int _, H, I.kept hk, ⟨t, rfl⟩, k.same hs (.int _)⟩
 · exact zli hc pins s σ H vs us Q I rv ⟨S, α, _, z, S', hs, r, hg, k⟩
theorem zjE (hc : X.calm = true) : CallR X (.builtin "max") (rdC X.K gMax') := by
 intro pins s σ H vs us Q I rv h
 obtain ⟨S, α, ds, z, S', hs, r, hg, k⟩ := h
 unfold gMax' at hg
 split at hg
 · obtain ⟨v, rfl, r0⟩ := r.inv1
   cases r0 with
   | @tup a ds vs q r1 =>
     simp only [Option.bind_eq_some_iff, Option.map_eq_some_iff] at hg
     obtain ⟨ns, e1, m, e2, e3⟩ := hg
     cases e3
     obtain ⟨u, rfl, ru⟩ := vals1 rv
     cases ru
     obtain ⟨its, rr, pl, hz⟩ := I.tuple q
     have hi := zbW r1 rr e1
     have hne : 0 < ns.length := by
       cases ns with
       | nil => cases e2
       | cons _ _ => simp
     obtain ⟨xs, hxs⟩ := hi.allInts.items
     have hn := hi.numsOf
     have hnn : numsOf (intItems xs).toList = ns := by rw [← hxs]; simpa using hn
     rw [nums_intItems] at hnn
     have hsz : 0 < xs.size := by
       have := congrArg List.length hnn
       simp at this; omega
     have hl' : s.heap.IsTuple a (intItems xs) := by rw [← hxs]; exact pl
     refine zfJ (I.ok.hd hc) hl' hsz fun v h' tk hv hk => ?_
     obtain ⟨t, rfl⟩ := intItems_at hv
     obtain ⟨h1, h2⟩ := argBest_gt (numAt xs) (xs.size - 1)
     have hm : maxI ns = some (numAt xs (argBest (fun i j => decide (numAt xs i > numAt xs j)) (xs.size - 1))) := by
       refine zgl ?_ fun b hb => ?_
       · rw [← hnn, numAt_eq]; exact getD_mem (by rw [List.length_map, Array.length_toList]; omega)
       · rw [← hnn] at hb
         obtain ⟨j, hj, rfl⟩ := mem_getD hb
         rw [List.length_map, Array.length_toList] at hj
         rw [← numAt_eq]; exact h2 j (by omega)
     rw [e2] at hm; cases hm
     exact ⟨.int _, H, I.kept hk, ⟨t, rfl⟩, k.same hs (.int _)⟩
 · exact zlj hc pins s σ H vs us Q I rv ⟨S, α, _, z, S', hs, r, hg, k⟩
end
end MX
end
section
set_option autoImplicit false
namespace MX
open PySem PySem.Spec PyProof.Rows L2
def gSet : D → D → D → So → Option So
 | .ref n, .int i, d, S => match S[n]? with
   | some (.lst xs) => (ixN xs.length i).map fun j => S.set n (.lst (xs.set j d))
   | _ => none
 | .ref n, .tup ks, .int j, S => match S[n]? with
   | some (.dct xs) => if xs.length < sizeLine then (nkRows ks).map fun k => S.set n (.dct (putN xs k j)) else none
   | _ => none
 | _, _, _, _ => none
def gSt (fo fi : EF) : GF := fun d σ S => (fo σ S).bind fun r => (fi σ r.2).bind fun q => (gSet r.1 q.1 d q.2).map fun S' => (σ, S')
theorem zh1 {X : Cx} (hu : X.A.units + 64 < cLine) {o i : Expr} {fo fi : EF} {pos : Pos} (ho : SE X o fo) (hi : SE X i fi)
   (ha : ∀ v, assign (.Subscript o i pos) X.env v = (do
     let ov ← holding [v] (eval o X.env)
     let iv ← holding [v, ov] (eval i X.env)
     standAt pos
     holding [v, ov, iv] (setItem ov iv v)
     release [v, ov, iv] [])) : SG X (.Subscript o i pos) (gSt fo fi) := by
 refine PG.imp (zkp ho hi (PSet.or zg9 (zha hu)) ha) fun v σ H Q h => ?_
 obtain ⟨σd, S, α, d, σd', S', hv, hs, r, hf, k⟩ := h
 unfold gSt at hf
 simp only [Option.bind_eq_some_iff, Option.map_eq_some_iff] at hf
 obtain ⟨⟨x, S1⟩, e1, ⟨y, S2⟩, e2, S3, e3, e4⟩ := hf
 cases e4
 refine ⟨σd, S, α, x, S1, hv, hs, e1, fun ov H1 α1 s1 x1 r1 => ⟨σd, S1, α1, y, S2, hv.mono x1, s1, e2, fun iv H2 α2 s2 x2 r2 => ?_⟩⟩
 have r1' := r1.mono x2
 have rd := (r.mono x1).mono x2
 simp only at e3
 unfold gSet at e3
 split at e3
 · rename_i n j d
   cases r1' with
   | ref ha =>
     cases r2
     split at e3
     · rename_i xs e
       simp only [Option.map_eq_some_iff] at e3
       obtain ⟨jj, e5, rfl⟩ := e3
       obtain ⟨ws, q, rr⟩ := s2.obj _ _ _ e ha
       refine .inl ⟨_, ws, _, jj, rfl, rfl, q, by rw [← rr.length]; exact e5, ?_⟩
       obtain ⟨s3, x3⟩ := s2.put (o := .lst (xs.set jj _)) (u := .lst (ws.set jj v)) e rfl rfl ha q (.inl ⟨_, rfl⟩) fun x => ⟨_, zaj, (Reps.set rd jj rr).mono x⟩
       exact k _ _ _ (((hv.mono x1).mono x2).mono x3) s3 ((x1.trans x2).trans x3)
     · cases e3
 · rename_i n ks j
   cases r1' with
   | ref ha =>
     cases rd
     split at e3
     · rename_i xs e
       split at e3
       · rename_i hlt
         simp only [Option.map_eq_some_iff] at e3
         obtain ⟨kk, e5, rfl⟩ := e3
         obtain ⟨ys, q, rr⟩ := s2.obj _ _ _ e ha
         obtain ⟨b, rfl, hb⟩ := zdu (show nkOf (.tup ks) = some kk from e5) r2
         refine .inr ⟨_, b, kk, ys, j, rfl, rfl, rfl, q, rr.keys, hb, by rw [← rr.length]; exact hlt, fun t => ?_⟩
         obtain ⟨s3, x3⟩ := s2.put (o := .dct (putN xs kk j)) (u := dctO _ (storedH ys kk b (.int j t))) e rfl rfl ha q (.inr ⟨_, rfl⟩) fun x => ⟨_, zaj, (rr.put hb).mono x.tups⟩
         exact k _ _ _ (((hv.mono x1).mono x2).mono x3) s3 ((x1.trans x2).trans x3)
       · cases e3
     · cases e3
 · cases e3
def gExtend : GM
 | .ref n, [.ref m], S => match S[n]?, S[m]? with
   | some (.lst xs), some (.lst ys) => if xs.length + ys.length ≤ sizeLine then some (.non, S.set n (.lst (xs ++ ys))) else none
   | _, _ => none
 | _, _, _ => none
theorem Reps.eraseIdx {K : PySem.W.Frag} {H : Hp} {α : List Addr} : ∀ {ds : List D} {vs : List V} (i : Nat), Reps K H α ds vs → Reps K H α (ds.eraseIdx i) (vs.eraseIdx i)
 | _, _, _, .nil => .nil
 | _, _, 0, .cons _ t => t
 | _, _, i + 1, .cons r t => .cons r (Reps.eraseIdx i t)
theorem Reps.dropLast {K : PySem.W.Frag} {H : Hp} {α : List Addr} {ds : List D} {vs : List V} (r : Reps K H α ds vs) : Reps K H α ds.dropLast vs.dropLast := by
 rw [List.dropLast_eq_take, List.dropLast_eq_take, r.length]
 exact r.take _
def gPop : GM
 | .ref n, [], S => match S[n]? with
   | some (.lst xs) => (xs[xs.length - 1]?).map fun d => (d, S.set n (.lst xs.dropLast))
   | _ => none
 | .ref n, [.int i], S => match S[n]? with
   | some (.lst xs) => if -(2 ^ 63) ≤ i ∧ i < 2 ^ 63 then (seqIndex? i xs.length).bind fun k => (xs[k]?).map fun d => (d, S.set n (.lst (xs.eraseIdx k))) else none
   | _ => none
 | _, _, _ => none
theorem zkN {X : Cx} : MtR X "list.pop" (rdM X.K gPop) := by
 intro pins s σ H v vs vv us Q I rv rs h
 obtain ⟨S, α, d, ds, z, S', hs, r, rr, hg, k⟩ := h
 unfold gPop at hg
 split at hg
 · cases r with
   | ref ha =>
     split at hg
     · rename_i xs e
       simp only [Option.map_eq_some_iff] at hg
       obtain ⟨d, e1, e2⟩ := hg
       cases e2
       cases rr
       obtain ⟨ws, q, r⟩ := hs.obj _ _ _ e ha
       obtain ⟨w, ew, rw'⟩ := r.get e1
       refine zkL pins s σ H _ _ _ us Q I rv rs ⟨_, _, w, rfl, rfl, q, by rw [← r.length]; exact ew, ?_⟩
       obtain ⟨s2, x2⟩ := hs.put (o := .lst xs.dropLast) (u := .lst ws.dropLast) e rfl rfl ha q (.inl ⟨_, rfl⟩) fun x => ⟨_, zaj, r.dropLast.mono x⟩
       exact k _ _ _ s2 x2 (rw'.mono x2)
     · cases hg
 · cases r with
   | ref ha =>
     split at hg
     · rename_i xs e
       split at hg
       · rename_i hb
         simp only [Option.bind_eq_some_iff, Option.map_eq_some_iff] at hg
         obtain ⟨kk, e0, d, e1, e2⟩ := hg
         cases e2
         obtain ⟨w0, rfl, r0⟩ := rr.inv1
         cases r0
         obtain ⟨ws, q, r⟩ := hs.obj _ _ _ e ha
         obtain ⟨w, ew, rw'⟩ := r.get e1
         refine zhu pins s σ H _ _ _ us Q I rv rs ⟨_, _, _, kk, w, rfl, rfl, q, hb.1, hb.2, by rw [← r.length]; exact e0, ew, ?_⟩
         obtain ⟨s2, x2⟩ := hs.put (o := .lst (xs.eraseIdx kk)) (u := .lst (ws.eraseIdx kk)) e rfl rfl ha q (.inl ⟨_, rfl⟩) fun x => ⟨_, zaj, (r.eraseIdx kk).mono x⟩
         exact k _ _ _ s2 x2 (rw'.mono x2)
       · cases hg
     · cases hg
 · cases hg
def gReverse : GM
 | .ref n, [], S => match S[n]? with
   | some (.lst xs) => some (.non, S.set n (.lst xs.reverse))
   | _ => none
 | _, _, _ => none
theorem zfH {X : Cx} : MtR X "list.reverse" (rdM X.K gReverse) := by
 intro pins s σ H v vs vv us Q I rv rs h
 obtain ⟨S, α, d, ds, z, S', hs, r, rr, hg, k⟩ := h
 unfold gReverse at hg
 split at hg
 · cases r with
   | ref ha =>
     split at hg
     · rename_i xs e
       cases hg
       cases rr
       obtain ⟨ws, q, r⟩ := hs.obj _ _ _ e ha
       refine zfG pins s σ H _ _ _ us Q I rv rs ⟨_, _, rfl, rfl, q, ?_⟩
       obtain ⟨s2, x2⟩ := hs.put (o := .lst xs.reverse) (u := .lst ws.reverse) e rfl rfl ha q (.inl ⟨_, rfl⟩) fun x => ⟨_, zaj, r.reverse.mono x⟩
       exact k _ _ _ s2 x2 .non
     · cases hg
 · cases hg
def eM0 (g : GM) (fo : EF) : EF := fun σ S => (fo σ S).bind fun r => match r.1 with
 | .ref n => match r.2[n]? with
   | some (.lst _) => g r.1 [] r.2
   | _ => none
 | _ => none
theorem zj5 {X : Cx} {o : Expr} {fo : EF} {g : GM} {name : Str} {id : String} {apos cpos : Pos} (slot : Slot "list" name id) (hty : typeOf (.builtin id) = pure (.type "method_descriptor")) (hm : MtR X id (rdM X.K g))
   (ho : SE X o fo) (hbase : attributeBase o name X.env (eval o X.env) = eval o X.env) (hline : (apos.endLine == cpos.line) = true) :
   SE X (.Call (.Attribute o name apos) [] [] cpos) (eM0 g fo) := by
 refine PE.imp (zky PySem.F.plainAttrs_list slot hty hm ho hbase hline) fun σ H Q h => ?_
 obtain ⟨σd, S, α, z, S', hv, hs, hf, k⟩ := h
 unfold eM0 at hf
 simp only [Option.bind_eq_some_iff] at hf
 obtain ⟨⟨d, S1⟩, e1, e2⟩ := hf
 refine ⟨σd, S, α, d, S1, hv, hs, e1, fun v H1 α1 s1 x1 r1 => ?_⟩
 simp only at e2
 split at e2
 · rename_i n
   split at e2
   · rename_i xs q
     cases r1 with
     | ref ha =>
       obtain ⟨ws, hw, _⟩ := s1.obj _ _ _ q ha
       exact ⟨.inl ⟨rfl, _, SqL.of hw⟩, S1, α1, _, [], z, S', s1, .ref ha, .nil, e2, k.trans x1⟩
   · cases e2
 · cases e2
end MX
end
section
set_option autoImplicit false
namespace MX
open PySem PySem.Spec PyProof.Rows L2
def eDct : EF := fun _ S => some (.ref S.length, S ++ [.dct []])
theorem zj9 {X : Cx} {pos : Pos} : SE X (.Dict [] [] pos) eDct := by
 refine PE.imp zhq fun σ H Q h => ?_
 obtain ⟨σd, S, α, z, S', hv, hs, hf, k⟩ := h
 cases hf
 intro p hp
 obtain ⟨s', e'⟩ := hs.snoc (p := p) (o := .dct []) (u := dctO p []) hp fun α' e => ⟨[], zaj, .nil⟩
 exact k _ _ _ s' e' (.ref (by rw [← hs.len]; simp))
def gDGet : GM
 | .ref n, [k, .int i], S => match S[n]? with
   | some (.dct xs) => (nkOf k).map fun kk => (.int ((getO xs kk).getD i), S)
   | _ => none
 | _, _, _ => none
theorem zkO {X : Cx} (hu : X.A.units + 64 < cLine) : MtR X "dict.get" (rdM X.K gDGet) := by
 intro pins s σ H x xs v us Q I r rs h
 obtain ⟨S, α, d, ds, z, S', hs, r1, r2, hg, k⟩ := h
 refine zkM hu pins s σ H x xs v us Q I r rs ?_
 unfold gDGet at hg
 split at hg
 · rename_i n kd i
   cases r1 with
   | ref ha =>
     split at hg
     · rename_i xs' e
       simp only [Option.map_eq_some_iff] at hg
       obtain ⟨kk, e1, hg⟩ := hg
       cases hg
       obtain ⟨ys, q, rr⟩ := hs.obj _ _ _ e ha
       cases r2 with
       | cons c1 r3 =>
         obtain ⟨b, rfl, hb⟩ := zdu e1 c1
         cases r3 with
         | cons c2 r4 =>
           cases c2
           cases r4
           refine ⟨_, b, kk, ys, i, _, rfl, rfl, q, rr.keys, hb, ?_, k.same hs (.int _)⟩
           rcases rr.at kk with ⟨a1, a2⟩ | ⟨b', j, t, a1, a2⟩
           · exact .inl ⟨a1, by rw [a2]; rfl⟩
           · exact .inr ⟨b', t, by rw [a1, a2]; rfl⟩
     · cases hg
 · cases hg
def eDM (g : GM) (fo : EF) (fa : AF) : EF := fun σ S => (fo σ S).bind fun r => match r.1 with
 | .ref n => match r.2[n]? with
   | some (.dct _) => (fa σ r.2).bind fun q => g r.1 q.1 q.2
   | _ => none
 | _ => none
theorem zis {X : Cx} (hu : X.A.units + 64 < cLine) {o e : Expr} {es : List Expr} {fo : EF} {fa : AF} {apos cpos : Pos}
   (ho : SE X o fo) (ha : SA X (e :: es) fa) (hbase : attributeBase o "get" X.env (eval o X.env) = eval o X.env)
   (hfew : ((backTo cpos (starEach (e :: es) X.env)).all (fun x => !x.1) && (backToKw cpos (keywordEach [] X.env)).all (fun x => x.1.isSome)
     && decide ((e :: es).length + ([] : List Keyword).length + (if ([] : List Keyword).isEmpty then 0 else 1) < 30)) = true)
   (hline : (apos.endLine == cpos.line) = true) (hst : starEach (e :: es) X.env = (false, eval e X.env) :: starEach es X.env) (hplain : (backTo cpos (starEach es X.env)).any (·.1) = false) :
   SE X (.Call (.Attribute o "get" apos) (e :: es) [] cpos) (eDM gDGet fo fa) := by
 refine PE.imp (zlD PySem.F.slot_dict_get PySem.F.type_dict_get (zkO hu) ho ha hbase hfew hline hst hplain) fun σ H Q h => ?_
 obtain ⟨σd, S, α, z, S', hv, hs, hf, k⟩ := h
 unfold eDM at hf
 simp only [Option.bind_eq_some_iff] at hf
 obtain ⟨⟨d, S1⟩, e1, e2⟩ := hf
 refine ⟨σd, S, α, d, S1, hv, hs, e1, fun v H1 α1 s1 x1 r1 => ?_⟩
 simp only at e2
 split at e2
 · rename_i n
   split at e2
   · rename_i xs q
     simp only [Option.bind_eq_some_iff] at e2
     obtain ⟨⟨ds, S2⟩, e3, e4⟩ := e2
     cases r1 with
     | ref ha =>
       obtain ⟨ys, hw, _⟩ := s1.obj _ _ _ q ha
       refine ⟨⟨_, _, rfl, hw⟩, σd, S1, α1, ds, S2, hv.mono x1, s1, e3, fun vs H2 α2 s2 x2 r2 => ?_⟩
       exact ⟨S2, α2, _, ds, z, S', s2, .ref (x2.pre _ _ ha), r2, e4, k.trans (x1.trans x2)⟩
   · cases e2
 · cases e2
def iItems (fo : EF) : IF := fun σ S => (fo σ S).bind fun r => match r.1 with
 | .ref n => match r.2[n]? with
   | some (.dct xs) => some (.itm n xs.length, r.2)
   | _ => none
 | _ => none
theorem zjf {K : PySem.W.Frag} {H : Hp} {α : List Addr} {a : Addr} {n m : Nat} (h : α[n]? = some a) : ItR K H α (.itm n m) (ItN a m) := fun i H1 α1 S1 x1 s1 => by
 have h1 := x1.pre _ _ h
 unfold nxD
 cases hm : S1[n]? with
 | none => simp only [hm]; exact ⟨fun e => (nomatch e), fun d e => (nomatch e)⟩
 | some o =>
   have hob := s1.obj _ _ _ hm h1
   cases o with
   | dct xs =>
     obtain ⟨ys, q, r⟩ := hob
     simp only [hm]
     by_cases hl : xs.length = m
     · rw [if_pos hl]
       refine ⟨fun e => ?_, fun d e => ?_⟩
       · have e' : xs[i]? = none := by simpa using e
         exact ⟨ys, q, by rw [← r.length, hl], by rw [← hl]; exact List.getElem?_eq_none_iff.mp e'⟩
       · have e' : (xs[i]?).map (fun x => D.tup [kD x.1, .int x.2]) = some d := by simpa using e
         simp only [Option.map_eq_some_iff] at e'
         obtain ⟨x, e2, rfl⟩ := e'
         obtain ⟨b, t, e3, hb⟩ := r.get e2
         refine ⟨⟨ys, _, x.2, t, q, by rw [← r.length, hl], e3, rfl⟩, fun v H' y => ?_⟩
         obtain ⟨p, row, rfl, hp, rfl, hy⟩ := y
         have er := hy ys q
         rw [e3] at er
         have er' : row = [.ref b, .int x.2] := (Option.some.inj er).symm
         subst er'
         have sm := zaS (o := .tup [.ref b, .int x.2]) hp
         exact ⟨sm, .tup (SqT.of zaj) (.cons ((zht hb).mono (Same.ext (α := α1) sm)) (.cons (.int _) .nil))⟩
     · rw [if_neg hl]; exact ⟨fun e => (nomatch e), fun d e => (nomatch e)⟩
   | _ => simp only [hm]; exact ⟨fun e => (nomatch e), fun d e => (nomatch e)⟩
theorem zg7 {X : Cx} {es : List Expr} {kk : Nat} {tp apos cpos : Pos} {o : Expr} {fo : EF} (ho : SE X o fo) (hbase : attributeBase o "items" X.env (eval o X.env) = eval o X.env) (hline : (apos.endLine == cpos.line) = true) :
   SI X (.Tuple es kk tp) (.Call (.Attribute o "items" apos) [] [] cpos) (iItems fo) := by
 refine PI.imp (zhm ho hbase hline) fun σ H R h => ?_
 obtain ⟨σd, S, α, j, S', hv, hs, hf, k⟩ := h
 unfold iItems at hf
 simp only [Option.bind_eq_some_iff] at hf
 obtain ⟨⟨d, S1⟩, e1, e2⟩ := hf
 refine ⟨σd, S, α, d, S1, hv, hs, e1, fun v H1 α1 s1 x1 r1 => ?_⟩
 simp only at e2
 split at e2
 · rename_i n
   split at e2
   · rename_i xs q
     cases e2
     cases r1 with
     | ref ha =>
       obtain ⟨ys, hw, rr⟩ := s1.obj _ _ _ q ha
       exact ⟨_, ys, rfl, hw, k _ _ _ s1 x1 (by rw [← rr.length]; exact zjf ha)⟩
   · cases e2
 · cases e2
def gInt : GN
 | [.bl b], S => some (.int (if b then 1 else 0), S)
 | _, _ => none
theorem zlg {X : Cx} : CallR X (.type "int") (rdC X.K gInt) := by
 intro pins s σ H xs us Q I r h
 obtain ⟨S, α, ds, z, S', hs, r2, hg, k⟩ := h
 refine zgU pins s σ H xs us Q I r ?_
 unfold gInt at hg
 split at hg
 · cases hg
   cases r2 with
   | cons c1 r3 =>
     cases c1
     cases r3
     exact .inr ⟨_, rfl, k.same hs (.int _)⟩
 · cases hg
end MX
end
section
set_option autoImplicit false
namespace MX
open PySem PySem.Spec PyProof.Rows L2
theorem zdv {P : Program} {w : World} {X : Cx} {pins : List (Addr × Obj)} {σ : L2.St} {H : Hp} {s : Shared} (I : Inv X pins σ H s) {k : NK} {b : Addr} (h : NKey X.K H k b) : IsNestKey (intKind P w) s.heap k b := by
 obtain ⟨bs, h1, h2⟩ := h
 obtain ⟨o, items, n, e1, e2, e3, e4⟩ := zdt I h1
 refine ⟨o, items, n, e1, e2, e3, ?_⟩
 rw [zcR e4]
 clear e4 h1
 induction h2 with
 | nil => exact .nil
 | cons hc _ ih =>
   obtain ⟨o', items', n', f1, f2, f3, f4⟩ := zdt I hc
   exact .cons ⟨o', items', n', f1, f2, f3, zda f4⟩ ih
open Classical in
def keyIs (P : Program) (w : World) (h : Heap) (k : NK) : Value → Bool
 | .ref c => decide (IsNestKey (intKind P w) h k c)
 | _ => false
def rCnt (K : PySem.W.Frag) : V → List V → Hp → VK → Prop := fun x xs H Q => ∃ a b k ks bs, x = .ref a ∧ xs = [.ref b] ∧ SqL K H a (bs.map V.ref) ∧ Paired (NKey K H) ks bs ∧ NKey K H k b ∧ Q (.int (ks.count k : Nat)) H
open Classical in
theorem zhw {X : Cx} (hu : X.A.units + 64 < cLine) : MtR X "list.count" (rCnt X.K) := by
 intro pins s σ H x xs v us Q I r rs h
 obtain ⟨a, b, k, ks, bs, rfl, rfl, hq, hp, hb, q⟩ := h
 cases r
 cases rs with
 | cons r1 rs =>
   cases r1
   cases rs
   obtain ⟨its, rv, pl, hz⟩ := I.list hq
   have ei := zcR rv
   subst ei
   obtain ⟨⟨cls, dd, data, sl⟩, n, e, c, hd, hdat⟩ := pl
   simp only at c hd hdat
   subst c hdat
   have key : ∀ {c : Addr} {kc : NK}, NKey X.K H kc c → keyIs X.prog X.w s.heap k (.ref c) = decide (kc = k) := fun {c kc} hc => by
     unfold keyIs
     simp only
     by_cases hk : kc = k
     · rw [decide_eq_true hk]; exact decide_eq_true (hk ▸ zdv I hc)
     · rw [decide_eq_false hk]; exact decide_eq_false fun z => hk ((zdv I hc).inj z)
   have all : ∀ y ∈ (bs.map Value.ref), ∃ c kc, y = .ref c ∧ NKey X.K H kc c := by
     clear hq rv q hz e
     induction hp with
     | nil => intro y hy; cases hy
     | cons hc _ ih =>
       intro y hy
       rcases List.mem_cons.mp hy with rfl | hy
       · exact ⟨_, _, rfl, hc⟩
       · exact ih y hy
   have cnt : (bs.map Value.ref).countP (keyIs X.prog X.w s.heap k) = ks.count k := by
     clear hq rv q hz all e
     induction hp with
     | nil => rfl
     | @cons kc c _ _ hc _ ih =>
       rw [List.map_cons, List.countP_cons, List.count_cons, ih, key hc]
       by_cases hk : kc = k
       · rw [if_pos (decide_eq_true hk), if_pos (by simpa using hk)]
       · rw [if_neg (by simpa using hk), if_neg (by simpa using hk)]
   refine call_meets PySem.F.slot_list_count ⟨_, e, rfl⟩ PySem.F.entry_list_count (PySem.F.args_list_count_2 _ _) (SeqAt.list_countAt a (bs.map Value.ref).toArray n dd sl (.ref b) (keyIs X.prog X.w s.heap k)) ⟨e, fun y hy => ?_, ?_⟩
   · obtain ⟨c, kc, rfl, hc⟩ := all y (by simpa using hy)
     intro prog w E Q' hq'
     rw [key hc] at hq'
     exact zbT (knd := intKind prog w) (by show X.A.units + 1 + 2 < cLine; omega) (zdv I hc) (zdv I hb) hq'
   · have e2 : (bs.map Value.ref).toArray.toList.countP (keyIs X.prog X.w s.heap k) = ks.count k := cnt
     rw [e2]
     exact ⟨.int (ks.count k : Nat), H, I.tok _, ⟨_, rfl⟩, q⟩
def nksOf : List D → Option (List NK)
 | [] => some []
 | d :: r => (nkOf d).bind fun k => (nksOf r).map fun l => k :: l
def gCount : GM
 | .ref n, [k], S => match S[n]? with
   | some (.lst xs) => (nksOf xs).bind fun ks => (nkOf k).map fun kk => (.int (ks.count kk : Nat), S)
   | _ => none
 | _, _, _ => none
theorem zgc {K : PySem.W.Frag} {H : Hp} {α : List Addr} : ∀ {xs : List D} {ks : List NK} {vs : List V}, nksOf xs = some ks → Reps K H α xs vs → ∃ bs, vs = bs.map V.ref ∧ Paired (NKey K H) ks bs
 | [], ks, _, h, .nil => by cases h; exact ⟨[], rfl, .nil⟩
 | d :: r, ks, _, h, .cons rd rr => by
   unfold nksOf at h
   simp only [Option.bind_eq_some_iff, Option.map_eq_some_iff] at h
   obtain ⟨k, e1, l, e2, rfl⟩ := h
   obtain ⟨b, rfl, hb⟩ := zdu e1 rd
   obtain ⟨bs, rfl, hp⟩ := zgc e2 rr
   exact ⟨b :: bs, rfl, .cons hb hp⟩
theorem zhx {X : Cx} (hu : X.A.units + 64 < cLine) : MtR X "list.count" (rdM X.K gCount) := by
 intro pins s σ H v vs vv us Q I rv rs h
 obtain ⟨S, α, d, ds, z, S', hs, r, rr, hg, k⟩ := h
 refine zhw hu pins s σ H v vs vv us Q I rv rs ?_
 unfold gCount at hg
 split at hg
 · cases r with
   | ref ha =>
     split at hg
     · rename_i xs e
       simp only [Option.bind_eq_some_iff, Option.map_eq_some_iff] at hg
       obtain ⟨ks, e1, kk, e2, hg⟩ := hg
       cases hg
       obtain ⟨ws, q, r⟩ := hs.obj _ _ _ e ha
       obtain ⟨bs, rfl, hp⟩ := zgc e1 r
       cases rr with
       | cons c1 r3 =>
         cases r3
         obtain ⟨b, rfl, hb⟩ := zdu e2 c1
         exact ⟨_, b, kk, ks, bs, rfl, rfl, SqL.of q, hp, hb, k.same hs (.int _)⟩
     · cases hg
 · cases hg
end MX
end
section
set_option autoImplicit false
namespace MX
open PySem PySem.Spec PyProof.Rows L2
def starF : Expr → Bool
 | .Starred _ _ => true
 | _ => false
theorem swapped3 {x y z : Str} {px py pz pt pt2 : Pos} {kt k2 : Nat} {a b d : Expr} {env : Env} (hk : env.scope.kind = .function) (hx : env.scope.names.lookup x = some .local) (hy : env.scope.names.lookup y = some .local) (hz : env.scope.names.lookup z = some .local)
   (l1 : py.line = px.line) (l2 : pz.line = px.line) (xy : x ≠ y) (xz : x ≠ z) (yz : y ≠ z) (s1 : starF a = false) (s2 : starF b = false) (s3 : starF d = false) (f : [a, b, d].all (foldedForSure 8) = false) (g : [a, b, d].all (constantsAlone 8) = false) :
   swappedStores [.Tuple [.Name x px, .Name y py, .Name z pz] kt pt] (.Tuple [a, b, d] k2 pt2) env = pure (some [x, y, z]) := by
 have hb : env.blockKind = .function := by unfold Env.blockKind; rw [hk]; rfl
 have kx : env.kindOf x = some .local := hx
 have ky : env.kindOf y = some .local := hy
 have kz : env.kindOf z = some .local := hz
 have hst : ([a, b, d].any fun | .Starred .. => true | _ => false) = false := by
   have e : ∀ e : Expr, starF e = false → (match e with | .Starred .. => true | _ => false) = false := fun e h => by cases e <;> first | rfl | cases h
   simp only [List.any_cons, List.any_nil, e a s1, e b s2, e d s3, Bool.or_false]
 have hln : ∀ e : Pos, (Expr.Name x e).pos = e := fun e => rfl
 have hnm : ([Expr.Name x px, Expr.Name y py, Expr.Name z pz].filterMap fun
     | .Name id pos => if env.kindOf id == some .local && pos.line == px.line then some id else none
     | _ => none) = [x, y, z] := by
   simp only [List.filterMap_cons, List.filterMap_nil, kx, ky, kz, l1, l2, beq_self_eq_true, Bool.and_self, if_true]
 have hed : [x, y, z].eraseDups.length = 3 := by
   have q1 : (y == x) = false := by simpa using Ne.symm xy
   have q2 : (z == x) = false := by simpa using Ne.symm xz
   have q3 : (z == y) = false := by simpa using Ne.symm yz
   simp [List.eraseDups_cons, q1, q2, q3, xy, xz, yz, Ne.symm xy, Ne.symm xz, Ne.symm yz]
 have nn : ∀ l : List Str, l = [x, y, z] → ¬ ((l.length != 0 + 1 + 1 + 1 || l.eraseDups.length != l.length) = true) := fun l e => by
   subst e
   rw [hed]
   exact (by decide : ¬ ((3 != 3 || 3 != 3) = true))
 unfold swappedStores
 simp only [List.length_cons, List.length_nil, hb, List.head?_cons, Option.map_some, Option.getD_some, hln, f, g]
 rw [if_neg (by decide)]
 refine (if_neg (fun h => Bool.noConfusion (hst.symm.trans h))).trans ?_
 refine (if_neg (nn _ hnm)).trans ?_
 rw [if_neg (by decide), if_neg (by decide)]
 exact congrArg (fun l => (pure (some l) : Sem (Option (List Str)))) hnm
theorem zfw {x y z : Str} {px py pz pt pt2 : Pos} {kt k2 : Nat} {vs : List Expr} {env : Env} (h : ¬ (env.scope.names.lookup x = some .local ∧ env.scope.names.lookup y = some .local ∧ env.scope.names.lookup z = some .local)) :
   swappedStores [.Tuple [.Name x px, .Name y py, .Name z pz] kt pt] (.Tuple vs k2 pt2) env = pure none := by
 have hb : ∀ (l : Nat) (w : Str) (p : Pos), (if env.kindOf w == some .local && p.line == l then some w else none) = some w → env.scope.names.lookup w = some .local := fun l w p e => by
   by_cases q : (env.kindOf w == some .local && p.line == l) = true
   · exact eq_of_beq (Bool.and_eq_true_iff.mp q).1
   · rw [if_neg q] at e; cases e
 have hl : ∀ l : Nat, (([Expr.Name x px, Expr.Name y py, Expr.Name z pz].filterMap fun
     | .Name id pos => if env.kindOf id == some .local && pos.line == l then some id else none
     | _ => none).length != 0 + 1 + 1 + 1) = true := fun l => by
   simp only [List.filterMap_cons, List.filterMap_nil]
   by_cases hx : (env.kindOf x == some .local && px.line == l) = true
   · by_cases hy : (env.kindOf y == some .local && py.line == l) = true
     · by_cases hz : (env.kindOf z == some .local && pz.line == l) = true
       · exact absurd ⟨eq_of_beq (Bool.and_eq_true_iff.mp hx).1, eq_of_beq (Bool.and_eq_true_iff.mp hy).1, eq_of_beq (Bool.and_eq_true_iff.mp hz).1⟩ h
       · rw [if_pos hx, if_pos hy, if_neg hz]; rfl
     · by_cases hz : (env.kindOf z == some .local && pz.line == l) = true
       · rw [if_pos hx, if_neg hy, if_pos hz]; rfl
       · rw [if_pos hx, if_neg hy, if_neg hz]; rfl
   · by_cases hy : (env.kindOf y == some .local && py.line == l) = true
     · by_cases hz : (env.kindOf z == some .local && pz.line == l) = true
       · rw [if_neg hx, if_pos hy, if_pos hz]; rfl
       · rw [if_neg hx, if_pos hy, if_neg hz]; rfl
     · by_cases hz : (env.kindOf z == some .local && pz.line == l) = true
       · rw [if_neg hx, if_neg hy, if_pos hz]; rfl
       · rw [if_neg hx, if_neg hy, if_neg hz]; rfl
 unfold swappedStores
 simp only [List.length_cons, List.length_nil, List.head?_cons, Option.map_some, Option.getD_some]
 split
 · rfl
 · split
   · rfl
   · refine (if_pos ?_).trans rfl
     exact Bool.or_eq_true_iff.mpr (.inl (hl _))
def tPar3 (i j k : Nat) (ta : TA) : TS := fun D σ H => ta σ H fun vs H1 => ∃ u v w, vs = [u, v, w] ∧ D.nx (((σ.set i (some u)).set j (some v)).set k (some w)) H1
section
variable {X : Cx} {pos : Pos}
theorem ziC {i j k : Nat} {x y z : Str} {a b d : Expr} {ta : TA} {px py pz pt : Pos} {kt k2 pt2} (hc : X.calm = true) (hN : X.N.Nodup) (hi : X.N[i]? = some x) (hj : X.N[j]? = some y) (hk : X.N[k]? = some z) (hij : i ≠ j) (hik : i ≠ k) (hjk : j ≠ k)
   (hx : X.env.scope.names.lookup x = some .local) (hy : X.env.scope.names.lookup y = some .local) (hz : X.env.scope.names.lookup z = some .local) (ha : PA X [a, b, d] ta)
   (hw : swappedStores [.Tuple [.Name x px, .Name y py, .Name z pz] kt pt] (.Tuple [a, b, d] k2 pt2) X.env = pure (some [x, y, z]))
   (hs : swapsWithSole [.Tuple [.Name x px, .Name y py, .Name z pz] kt pt] (.Tuple [a, b, d] k2 pt2) pos.line X.env = pure false := by rfl) :
   PS X (.Assign [.Tuple [.Name x px, .Name y py, .Name z pz] kt pt] (.Tuple [a, b, d] k2 pt2) pos) (tPar3 i j k ta) := by
 intro pins s σ H D I h
 rw [exec_Assign_arm]
 refine wpAny_bind (wpAny_standAt ?_)
 rw [hs]
 refine wpAny_bind (wpAny_pure ?_)
 rw [if_neg (by decide)]
 refine wpAny_bind (Tuple_ (thn (ha _ pins s σ H _ I h) fun us s1 ⟨vs, H1, I1, r1, q1⟩ => ?_))
 obtain ⟨u, v, w, e1, q1⟩ := q1
 subst e1
 obtain ⟨u1, u2, u3, rfl, ru, rv, rw'⟩ : ∃ u1 u2 u3, us = [u1, u2, u3] ∧ RelV u u1 ∧ RelV v u2 ∧ RelV w u3 := by
   cases r1 with
   | cons p q => cases q with
     | cons p' q' => cases q' with
       | cons p'' q'' =>
         cases q''
         exact ⟨_, _, _, rfl, p, p', p''⟩
 refine wpAny_newObj_type ?_ (by show 3 ≤ sizeLine; decide)
 have I2 : Inv X pins σ H1 { s1 with heap := s1.heap.push { cls := .type "tuple", data := .seq [u1, u2, u3].toArray } } := I1.kept (t' := s1.toks) fun b o e => Heap.get?_push_of_some _ e
 rw [hw]
 refine wpAny_bind (wpAny_pure ?_)
 show wpAny (model X.prog X.w) X.A (do rule "assign.swapped-stores"; let items ← unpackItems (.ref s1.heap.objs.size) 3 none; assignInOrder [fun v => bindName X.env z v, fun v => bindName X.env y v, fun v => bindName X.env x v] items.reverse; pure Flow.next) _ _ _
 refine wpAny_bind (wpAny_rule (wpAny_bind (unpackItems_tuple (items := #[u1, u2, u3]) (I.ok.hd hc) (IsTup.new s1.heap _) fun h' hx' => ?_)))
 have I3 := I2.kept (h' := h') (t' := s1.toks) fun b o e => hx' b o (Nat.ne_of_lt (Heap.lt_size e)) e
 show wpAny _ _ (assignInOrder [fun v => bindName X.env z v, fun v => bindName X.env y v, fun v => bindName X.env x v] [u3, u2, u1] >>= fun _ => pure Flow.next) _ _ _
 refine wpAny_bind (assignInOrder_cons (wpAny_bindName (zcA I3 hN hk (.inl hz) rw' (fun s2 I4 => ?_) (.inr hz))))
 refine assignInOrder_cons (wpAny_bindName (zcA I4 hN hj (.inl hy) rv (fun s3 I5 => ?_) (.inr hy)))
 refine assignInOrder_cons (wpAny_bindName (zcA I5 hN hi (.inl hx) ru (fun s4 I6 => assignInOrder_nil (wpAny_pure ?_)) (.inr hx)))
 have e : ((σ.set k (some w)).set j (some v)).set i (some u) = ((σ.set i (some u)).set j (some v)).set k (some w) := by
   rw [List.set_comm _ _ (Ne.symm hjk), List.set_comm _ _ (Ne.symm hik), List.set_comm _ _ (Ne.symm hij)]
 rw [e] at I6
 exact ⟨_, H1, I6, q1⟩
theorem zic {i j k : Nat} {x y z : Str} {a b d : Expr} {fa : AF} {px py pz pt : Pos} {kt k2 pt2} (hc : X.calm = true) (hN : X.N.Nodup) (hi : X.N[i]? = some x) (hj : X.N[j]? = some y) (hk : X.N[k]? = some z) (hij : i ≠ j) (hik : i ≠ k) (hjk : j ≠ k)
   (hx : X.env.scope.names.lookup x = some .local) (hy : X.env.scope.names.lookup y = some .local) (hz : X.env.scope.names.lookup z = some .local) (ha : SA X [a, b, d] fa)
   (hw : swappedStores [.Tuple [.Name x px, .Name y py, .Name z pz] kt pt] (.Tuple [a, b, d] k2 pt2) X.env = pure (some [x, y, z])) :
   SS X (.Assign [.Tuple [.Name x px, .Name y py, .Name z pz] kt pt] (.Tuple [a, b, d] k2 pt2) pos) (sAsg (eN gTup fa) (gTp 3 (gsCons (gNm i) (gsCons (gNm j) (gsCons (gNm k) gsNil))))) := by
 refine PS.imp (ziC hc hN hi hj hk hij hik hjk hx hy hz ha hw) fun D σ H h => ?_
 obtain ⟨σd, S, α, fl, σd', S', hv, hs, hf, kk⟩ := h
 unfold sAsg eN at hf
 simp only [Option.bind_eq_some_iff, Option.map_eq_some_iff] at hf
 obtain ⟨⟨t, S2⟩, ⟨⟨ds, S1⟩, e1, e2⟩, ⟨σ1, S3⟩, e3, e4⟩ := hf
 cases e4
 unfold gTup at e2
 split at e2
 · cases e2
   simp only [gTp] at e3
   split at e3
   · rename_i hl
     obtain ⟨d1, d2, d3, rfl⟩ : ∃ d1 d2 d3, ds = [d1, d2, d3] := by
       match ds, hl with
       | [d1, d2, d3], _ => exact ⟨d1, d2, d3, rfl⟩
     simp only [gsCons, gsNil, gNm, Option.bind_some, Option.some.injEq, Prod.mk.injEq] at e3
     obtain ⟨rfl, rfl⟩ := e3
     refine ⟨σd, S, α, _, _, hv, hs, e1, fun vs H1 α1 s1 x1 r1 => ?_⟩
     cases r1 with
     | cons p q => cases q with
       | cons p' q' => cases q' with
         | cons p'' q'' =>
           cases q''
           exact ⟨_, _, _, rfl, kk _ _ _ ((((hv.mono x1).set p i).set p' j).set p'' k) s1 x1⟩
   · cases e3
 · cases e2
end
end MX
end
section
set_option autoImplicit false
namespace MX
open PySem PySem.Spec PySem.W PyProof.Rows L2
section
variable {X : Cx} {x : Str} {p pos : Pos} {e : Expr} {es : List Expr} {t : TA}
structure Tups (H H' : Hp) : Prop where
 tups : ∀ b xs, H b = some (.tup xs) → H' b = some (.tup xs)
 tbls : ∀ b ps, H b = some (.tbl ps) → ∃ more, H' b = some (.tbl (ps ++ more))
 frzs : ∀ b o u, H b = some (.frz o u) → H' b = some (.frz o u)
end
end MX
end
section
set_option autoImplicit false
namespace MX
open PySem PySem.Spec PySem.W PyProof.Rows L2
def BM (h : Heap) (mg : Str → Option Value) : Prop := ∃ bm o, mg "__builtins__" = some (.ref bm) ∧ bm ≠ builtinsNs ∧ h.get? bm = some o ∧ o.cls = .type "module" ∧ o.dict = some builtinsNs ∧ o.data = .plain
section
variable {X : Cx} {pins : List (Addr × Obj)} {σ : L2.St} {H : Hp} {s : Shared}
end
section
variable {X : Cx} {pins : List (Addr × Obj)} {σ : L2.St} {H : Hp} {s : Shared} {params : Arguments} {body : Expr} {scope : Scope} {lpos : Pos} {clos : List (Str × Addr)} {c P : Addr} {ps : Array Value} {R : Value → Shared → Prop}
end
end MX
end
section
set_option autoImplicit false
namespace MX
open PySem PySem.Spec PySem.W PyProof.Rows L2
section
variable {K : PySem.W.Frag} {H H' : Hp} {α : List Addr}
end
def CloFn (P : Program) (w : World) (K : PySem.W.Frag) (mg : Str → Option Value) (base : Heap) (k : Nat) (a : Addr) (R : Hp → Prop) (ψ : GN) : Prop :=
 ∃ fd q sp, FnOk P w K mg base CX0 k a fd [q] sp ∧ base.get? a = some { cls := .type "function", data := .func fd } ∧ (∀ (s : Shared) (u : Value), BindsTo s fd ⟨[u], []⟩ [(q, u)]) ∧ ∀ vs H Q, R H → vs.length = 1 → rdC K ψ vs H Q → sp vs H Q E0
def LocFn (X : Cx) (a : Addr) (ψ : GN) : Prop := ∃ R k, CloFn X.prog X.w X.K X.mg X.base k a R ψ ∧ Room k X.A ∧ ∀ H, Tups X.H₀ H → R H
section
variable {X : Cx} {x : Str} {p pos : Pos} {e : Expr} {es : List Expr} {fs : AF}
end
def spH (K : PySem.W.Frag) (R : Hp → Prop) (a : Addr) (ψ : GN) (G : Addr → GN → GN) : Sp := fun vs H Q _ => ∃ v1, vs = [v1, .ref a] ∧ R H ∧ ∃ S α d1 z S', StoreR K H α S ∧ Rep K H α d1 v1 ∧ G a ψ [d1, .adr a] S = some (z, S') ∧ Kt K H α z S' Q
def HofOk (P : Program) (w : World) (K : PySem.W.Frag) (mg : Str → Option Value) (base : Heap) (k : Nat) (f : Addr) (fd : FuncData) (ps : List Str) (G : Addr → GN → GN) : Prop :=
 ∀ (a : Addr) (R : Hp → Prop) (ψ : GN), (∀ H H', Tups H H' → R H → R H') → CloFn P w K mg base k a R ψ → FnOk P w K mg base CX0 (k + 1) f fd ps (spH K R a ψ G)
structure LamAt (X : Cx) (P c : Addr) : Prop where
 fn : ∀ y, X.fn y = true
 tab : ∃ ps, X.H₀ P = some (.tbl ps)
 code : X.env.code = .ref c
 hd : CodeHd X.base c P
 bm : BM X.base X.mg
section
variable {X : Cx} {x : Str} {p pos lpos : Pos} {e : Expr} {fe fb : EF} {params : Arguments} {body : Expr} {scope : Scope} {q : Str} {cap : List Str} {src : List Nat} {G : Addr → GN → GN} {f : Addr} {fd : FuncData} {p1 p2 : Str} {k : Nat} {Pt ct : Addr}
end
end MX
end
section
set_option autoImplicit false
namespace MX
open PySem PySem.Spec PyProof.Rows L2
structure Ctx where
 N : List Str
 names : List (Str × NameKind)
 sts : List Str
 fns : List (Str × Nat × GN)
 blt : List Str
 lf : Option (Str × Addr × GN) := none
 hof : List (Str × Str × (Addr → GN → GN)) := []
def FnAt (P : Program) (w : World) (K : PySem.W.Frag) (mg : Str → Option Value) (base : Heap) (k : Nat) (x : Str) (n : Nat) (φ : GN) : Prop :=
 ∃ f fd ps, mg x = some (.ref f) ∧ PySem.W.keepIn K (.ref f) = true ∧ Binds K fd ps [] ∧ FnOk P w K mg base CX0 k f fd ps (spOf K n φ)
def oneArg (q : Str) (ap : Pos) : Arguments := { posonlyargs := [], args := [{ arg := q, annotation := none, pos := ap }], vararg := none, kwonlyargs := [], kw_defaults := [], kwarg := none, defaults := [] }
def HofRef (c : Ctx) (X : Cx) (x q : Str) (G : Addr → GN → GN) : Prop := ∃ f fd p1 p2 k Pt ct, LamAt X Pt ct ∧ X.mg x = some (.ref f) ∧ PySem.W.keepIn X.K (.ref f) = true ∧ Binds X.K fd [p1, p2] [] ∧ Room (k + 2) X.A ∧
 (∀ (ap : Pos) (body : Expr) (scope : Scope) (pm cdv ctv : Value) (clos : List (Str × Addr)) (qual : Str) (u : Value), bindArgs (PySem.W.kla_fn "<lambda>" qual (oneArg q ap) body scope clos pm cdv ctv) ⟨[u], []⟩ = pure [(q, u)]) ∧
 (∀ base : Heap, Mod X.K X.mg base → (∀ b o, X.base.get? b = some o → base.get? b = some o) → HofOk X.prog X.w X.K X.mg base (k + 1) f fd [p1, p2] G) ∧
 ∀ base : Heap, Mod X.K X.mg base → (∀ b o, X.base.get? b = some o → base.get? b = some o) → ∀ y n ψ, c.fns.lookup y = some (n, ψ) → FnAt X.prog X.w X.K X.mg base k y n ψ
structure CtxOk (c : Ctx) (X : Cx) : Prop where
 N : X.N = c.N
 nd : c.N.Nodup
 names : X.env.scope.names = c.names
 kind : X.env.scope.kind = .function
 st : ∀ x ∈ c.sts, Loc X.env.scope x ∧ (X.fn x = true ∨ X.env.scope.names.lookup x = some .local)
 fns : ∀ x k φ, c.fns.lookup x = some (k, φ) → FnRef X x k φ
 blt : ∀ x ∈ c.blt, X.mg x = none
 calm : X.calm = true
 un : X.A.units + 64 < cLine
 lf : ∀ x a ψ, c.lf = some (x, a, ψ) → LocFn X a ψ
 hof : ∀ x q G, c.hof.lookup x = some (q, G) → HofRef c X x q G
def slotOf : List Str → Str → Option Nat
 | [], _ => none
 | y :: r, x => if y = x then some 0 else (slotOf r x).map (· + 1)
theorem zat : ∀ {N : List Str} {x : Str} {i : Nat}, slotOf N x = some i → N[i]? = some x
 | [], _, _, h => by cases h
 | y :: r, x, i, h => by
   unfold slotOf at h
   split at h
   · rename_i e; cases h; rw [e]; rfl
   · simp only [Option.map_eq_some_iff] at h
     obtain ⟨j, h1, rfl⟩ := h
     simpa using zat h1
def notStar : Expr → Bool
 | .Starred _ _ => false
 | _ => true
theorem zaz {e : Expr} (h : notStar e = true) (es : List Expr) (env : Env) : starEach (e :: es) env = (false, eval e env) :: starEach es env := by
 cases e with
 | Starred _ _ => cases h
 | _ => simp [starEach]
theorem zcQ {es : List Expr} (h : es.all notStar = true) (pos : Pos) (env : Env) : (backTo pos (starEach es env)).any (·.1) = false := by
 induction es with
 | nil => rfl
 | cons e r ih =>
   rw [List.all_cons, Bool.and_eq_true] at h
   rw [zaz h.1]
   show (false || (backTo pos (starEach r env)).any (·.1)) = false
   rw [ih h.2]; rfl
theorem zfb {es : List Expr} (h : es.all notStar = true) (pos : Pos) (env : Env) : (backTo pos (starEach es env)).all (fun x => !x.1) = true := by
 induction es with
 | nil => rfl
 | cons e r ih =>
   rw [List.all_cons, Bool.and_eq_true] at h
   rw [zaz h.1]
   show (!false && (backTo pos (starEach r env)).all (fun x => !x.1)) = true
   rw [ih h.2]; rfl
def plainIx : Expr → Bool
 | .Slice _ _ _ _ => false
 | _ => true
theorem zfC {b : Expr} (h : plainIx b = true) : PlainIx b := by
 intro o i
 cases b with
 | Slice _ _ _ _ => cases h
 | _ => rfl
def plainT : Expr → Bool
 | .Name _ _ => true
 | .Call _ _ _ _ => true
 | .Subscript _ _ _ => true
 | .Constant _ _ _ => true
 | .BinOp _ _ _ _ => true
 | .List _ _ => true
 | .Tuple _ _ _ => true
 | .Attribute _ _ _ => true
 | .ListComp _ _ _ _ => true
 | _ => false
theorem zf6 {a : Expr} (h : plainT a = true) (env : Env) (whole : Sem Value) : isTrue a env whole = (do let v ← whole; standAt a.pos; holding [v] (truthy v)) := by
 cases a with
 | Name _ _ => rfl
 | Call _ _ _ _ => rfl
 | Subscript _ _ _ => rfl
 | Constant _ _ _ => rfl
 | BinOp _ _ _ _ => rfl
 | List _ _ => rfl
 | Tuple _ _ _ => rfl
 | Attribute _ _ _ => rfl
 | ListComp _ _ _ _ => rfl
 | _ => cases h
def notSet : Expr → Bool
 | .Set _ _ _ => false
 | _ => true
theorem zet {e : Expr} (h : notSet e = true) (env : Env) (x : Value) : foldedSetIterable e env x = pure x := by
 cases e with
 | Set _ _ _ => cases h
 | _ => rfl
def notComp : Expr → Bool
 | .ListComp _ _ _ _ => false
 | .SetComp _ _ _ _ => false
 | .DictComp _ _ _ _ _ => false
 | _ => true
theorem zaO {e : Expr} (h : notComp e = true) (t : Option Expr) (l : Nat) (env : Env) : swapsWith e t l env = pure false := by
 cases e with
 | ListComp _ _ _ _ => cases h
 | SetComp _ _ _ _ => cases h
 | DictComp _ _ _ _ _ => cases h
 | _ => rfl
def notTup : Expr → Bool
 | .Tuple _ _ _ => false
 | _ => true
def isTup0 : Expr → Bool
 | .Tuple _ _ _ => true
 | .List _ _ => true
 | _ => false
theorem zc8 {t : Expr} (h : isTup0 t = false) (e : Expr) (env : Env) : swappedStores [t] e env = pure none := by
 cases t with
 | Tuple _ _ _ => cases h
 | List _ _ => cases h
 | _ => rfl
theorem zfF {e : Expr} (h : notTup e = true) (ts : List Expr) (k : Nat) (p : Pos) (env : Env) : swappedStores [.Tuple ts k p] e env = pure none := by
 cases e with
 | Tuple _ _ _ => cases h
 | _ => rfl
def btTy : List (Str × String) := [("int", "int"), ("bool", "bool"), ("str", "str"), ("tuple", "tuple"), ("list", "list")]
theorem zgV {x : Str} {T : String} (h : btTy.lookup x = some T) : bootBuiltins x = some (.type T) := by
 have hm := PySem.mem_of_lookup h
 unfold btTy at hm
 simp only [List.mem_cons, List.mem_nil_iff, or_false, Prod.mk.injEq] at hm
 rcases hm with ⟨rfl, rfl⟩ | ⟨rfl, rfl⟩ | ⟨rfl, rfl⟩ | ⟨rfl, rfl⟩ | ⟨rfl, rfl⟩ <;> decide +kernel
def oddName (x : Str) : Bool := (x == ("__debug__" : Str)) || (x == ("__classdict__" : Str)) || (x == ("__name__" : Str))
theorem odd1 {x : Str} (h : oddName x = false) : (x == ("__debug__" : Str)) = false := by
 unfold oddName at h; rw [Bool.or_eq_false_iff, Bool.or_eq_false_iff] at h; exact h.1.1
theorem odd2 {x : Str} (h : oddName x = false) : (x == ("__classdict__" : Str)) = false := by
 unfold oddName at h; rw [Bool.or_eq_false_iff, Bool.or_eq_false_iff] at h; exact h.1.2
theorem odd3 {x : Str} (h : oddName x = false) : x ≠ ("__name__" : Str) := by
 unfold oddName at h; rw [Bool.or_eq_false_iff] at h
 exact beq_eq_false_iff_ne.mp h.2
def nmE (c : Ctx) (x : Str) : Option EF := if oddName x = true then none else match c.names.lookup x with
 | some .local => (slotOf c.N x).map eVar
 | some .cell => (slotOf c.N x).map eVar
 | some .free => (slotOf c.N x).map eVar
 | some .globalImplicit => if x ∈ c.blt then (btTy.lookup x).map fun T => eC (.ty T) else none
 | _ => none
def constE : Const → Option EF
 | .int i => some (eC (.int i))
 | .bool b => some (eC (.bl b))
 | .none => some (eC .non)
 | .str x => some (eC (.str x))
 | _ => none
section
variable {c : Ctx} {X : Cx}
theorem zfy {x : Str} {f : EF} {pos : Pos} (ok : CtxOk c X) (h : nmE c x = some f) : SE X (.Name x pos) f := by
 unfold nmE at h
 split at h
 · cases h
 · rename_i ho
   have ho' : oddName x = false := by simpa using ho
   have loc : ∀ (v : Vis X.env.scope x), (slotOf c.N x).map eVar = some f → SE X (.Name x pos) f := fun v e => by
     simp only [Option.map_eq_some_iff] at e
     obtain ⟨i, e1, rfl⟩ := e
     exact zjZ (by rw [ok.N]; exact zat e1) v (odd1 ho') (odd2 ho')
   split at h
   · rename_i e; exact loc (.inl (by rw [ok.names]; exact e)) h
   · rename_i e; exact loc (.inr (.inl (by rw [ok.names]; exact e))) h
   · rename_i e; exact loc (.inr (.inr (by rw [ok.names]; exact e))) h
   · rename_i e
     split at h
     · rename_i hb
       simp only [Option.map_eq_some_iff] at h
       obtain ⟨T, e1, rfl⟩ := h
       exact se_c (ziM (show X.env.scope.names.lookup x = _ by rw [ok.names]; exact e) (ok.blt x hb) (zgV e1) (v := .ty T) rfl (odd3 ho') (odd1 ho')) fun _ _ => .ty T
     · cases h
   · cases h
theorem zeT {k : Const} {j : Nat} {f : EF} {pos : Pos} (h : constE k = some f) : SE X (.Constant k j pos) f := by
 cases k with
 | int i => cases h; exact zj8
 | bool b => cases h; exact zlv
 | none => cases h; exact zj3
 | str x => cases h; exact zj1
 | _ => cases h
end
def relN (cn names : List (Str × NameKind)) : List (Str × NameKind) := names.map fun (n, k) => if (k == NameKind.free && true && cn.lookup n == some .cell) then (n, NameKind.cell) else (n, k)
def ownOf (names : List (Str × NameKind)) : List Str := (names.filter fun y => (y.2 == .local || y.2 == .cell) && y.1 != (".0" : Str)).map (·.1)
def freeOf (c : Ctx) (names : List (Str × NameKind)) : List (Str × Nat) := names.filterMap fun y => if y.2 == NameKind.free then (slotOf c.N y.1).map fun i => (y.1, i) else none
def compN (c : Ctx) (names : List (Str × NameKind)) : List Str := ownOf names ++ (freeOf c names).map (·.1)
def compSrc (c : Ctx) (names : List (Str × NameKind)) : List (Option Nat) := (ownOf names).map (fun _ => none) ++ (freeOf c names).map fun p => some p.2
def compC (c : Ctx) (names : List (Str × NameKind)) : Ctx := { N := compN c names, names := relN c.names names, sts := ownOf names, fns := c.fns, blt := c.blt }
def compB (c : Ctx) (scope : Scope) : Bool := decide (scope.kind = .function) && scope.names.all (fun y => decide (scope.names.lookup y.1 = some y.2)) &&
 scope.names.all (fun y => decide (y.2 = .free → (c.names.lookup y.1 = some .cell ∨ c.names.lookup y.1 = some .free))) && decide (compN c scope.names).Nodup
section
variable {c : Ctx} {X : Cx} {scope : Scope}
theorem zhJ {names : List (Str × NameKind)} {p : Str × Nat} (h : p ∈ freeOf c names) : (p.1, NameKind.free) ∈ names ∧ slotOf c.N p.1 = some p.2 := by
 unfold freeOf at h
 obtain ⟨y, hy, e⟩ := List.mem_filterMap.mp h
 split at e
 · rename_i hk
   simp only [Option.map_eq_some_iff] at e
   obtain ⟨i, e1, rfl⟩ := e
   have : y.2 = NameKind.free := by simpa using hk
   refine ⟨?_, e1⟩
   rw [← this]; exact hy
 · cases e
theorem ziO {names : List (Str × NameKind)} {x : Str} (h : x ∈ ownOf names) : (x, NameKind.local) ∈ names ∨ (x, NameKind.cell) ∈ names := by
 unfold ownOf at h
 obtain ⟨y, hy, rfl⟩ := List.mem_map.mp h
 obtain ⟨h1, h2⟩ := List.mem_filter.mp hy
 rw [Bool.and_eq_true, Bool.or_eq_true] at h2
 obtain ⟨y1, y2⟩ := y
 rcases h2.1 with q | q
 · have : y2 = NameKind.local := by simpa using q
   subst this; exact .inl h1
 · have : y2 = NameKind.cell := by simpa using q
   subst this; exact .inr h1
theorem zjw (ok : CtxOk c X) (h : compB c scope = true) : CompOk X scope (compN c scope.names) (compSrc c scope.names) := by
 unfold compB at h
 rw [Bool.and_eq_true, Bool.and_eq_true, Bool.and_eq_true] at h
 obtain ⟨⟨⟨h1, h2⟩, h3⟩, h4⟩ := h
 rw [List.all_eq_true] at h2 h3
 have u : ∀ y ∈ scope.names, scope.names.lookup y.1 = some y.2 := fun y hy => of_decide_eq_true (h2 y hy)
 refine ⟨of_decide_eq_true h1, u, fun y hy e => ?_, by simp [compSrc, compN], fun j i x e1 e2 => ?_⟩
 · have := of_decide_eq_true (h3 y hy) e
   show X.env.scope.names.lookup y.1 = _ ∨ X.env.scope.names.lookup y.1 = _
   rw [ok.names]; exact this
 · unfold compN at e1
   unfold compSrc at e2
   have hj : (ownOf scope.names).length ≤ j := by
     refine Nat.le_of_not_lt fun hlt => ?_
     rw [List.getElem?_append_left (by simpa using hlt), List.getElem?_map] at e2
     cases q : (ownOf scope.names)[j]? with
     | none => rw [q] at e2; cases e2
     | some z => rw [q] at e2; cases e2
   rw [List.getElem?_append_right (by simpa using hj), List.getElem?_map, List.length_map] at e2
   rw [List.getElem?_append_right hj, List.getElem?_map] at e1
   cases q : (freeOf c scope.names)[j - (ownOf scope.names).length]? with
   | none => rw [q] at e2; cases e2
   | some p =>
     rw [q] at e1 e2
     simp only [Option.map_some, Option.some.injEq] at e1 e2
     obtain ⟨m1, m2⟩ := zhJ (List.mem_of_getElem? q)
     subst e1 e2
     exact ⟨by rw [ok.N]; exact zat m2, u _ m1⟩
theorem zhS (ok : CtxOk c X) (h : compB c scope = true) {Y : Cx} (hy : IsComp X scope (compN c scope.names) Y) : CtxOk (compC c scope.names) Y := by
 have h0 := h
 unfold compB at h
 rw [Bool.and_eq_true, Bool.and_eq_true, Bool.and_eq_true] at h
 obtain ⟨⟨⟨h1, h2⟩, h3⟩, h4⟩ := h
 rw [List.all_eq_true] at h2
 have u : ∀ y ∈ scope.names, scope.names.lookup y.1 = some y.2 := fun y hy => of_decide_eq_true (h2 y hy)
 have hn : Y.env.scope.names = relN c.names scope.names := by
   rw [hy.sc]
   show List.map _ scope.names = List.map _ scope.names
   refine List.map_congr_left fun y _ => ?_
   obtain ⟨n, k⟩ := y
   have e1 : (X.env.scope.kind == .function) = true := by rw [ok.kind]; rfl
   have e2 : X.env.kindOf n = c.names.lookup n := by show X.env.scope.names.lookup n = _; rw [ok.names]
   simp only [e1, e2]
 refine ⟨hy.N, of_decide_eq_true h4, hn, by rw [hy.sc]; exact of_decide_eq_true h1, fun x hx => ?_, fun x k φ e => ?_, fun x hx => by rw [hy.mg]; exact ok.blt x hx, hy.calm.trans ok.calm, by rw [hy.A]; exact ok.un, fun _ _ _ h => (nomatch h), fun _ _ _ h => (nomatch h)⟩
 · have lk : ∀ k, k ≠ .free → scope.names.lookup x = some k → Y.env.scope.names.lookup x = some k := fun k hk e => by
     rw [hy.sc]
     show (List.map _ scope.names).lookup x = _
     rw [show (List.map _ scope.names).lookup x = _ from zbF, e]
     have hb : (k == NameKind.free) = false := by simpa using hk
     show some (if (k == NameKind.free && _ && _) = true then NameKind.cell else k) = some k
     rw [hb]
     rfl
   rcases ziO hx with m | m
   · have e := u _ m
     exact ⟨.inl (lk _ (by decide) e), .inr (lk _ (by decide) e)⟩
   · have e := u _ m
     exact ⟨.inr (lk _ (by decide) e), .inl (hy.fn x e)⟩
 · obtain ⟨f, fd, ps, kk, m1, m2, m3, m4, m5⟩ := ok.fns x k φ e
   refine ⟨f, fd, ps, kk, by rw [hy.mg]; exact m1, by rw [hy.K]; exact m2, by rw [hy.K]; exact m3, ?_, by rw [hy.A]; exact m5⟩
   rw [hy.prog, hy.w, hy.K, hy.mg, hy.base]
   exact m4
end
def targ1 (c : Ctx) : Expr → Option GF
 | .Name x _ => if x ∈ c.sts then (slotOf c.N x).map gNm else none
 | _ => none
def targs (c : Ctx) : List Expr → Option GFs
 | [] => some gsNil
 | e :: r => (targ1 c e).bind fun f => (targs c r).map fun fr => gsCons f fr
def targE (c : Ctx) : Expr → Option GF
 | .Name x p => targ1 c (.Name x p)
 | .Tuple es _ _ => (targs c es).map fun fr => gTp es.length fr
 | _ => none
section
variable {c : Ctx} {X : Cx}
theorem zdE (ok : CtxOk c X) {e : Expr} {f : GF} (h : targ1 c e = some f) : SG X e f := by
 cases e with
 | Name x p =>
   simp only [targ1] at h
   split at h
   · rename_i hx
     simp only [Option.map_eq_some_iff] at h
     obtain ⟨i, e1, rfl⟩ := h
     obtain ⟨h1, h2⟩ := ok.st x hx
     exact zio (by rw [ok.N]; exact ok.nd) (by rw [ok.N]; exact zat e1) h1 h2
   · cases h
 | _ => cases h
theorem zdD (ok : CtxOk c X) : ∀ {es : List Expr} {f : GFs}, targs c es = some f → SGs X es f ∧ (assignEach es X.env).length = es.length ∧ (assignEach es X.env).findIdx? (·.1) = none
 | [], f, h => by cases h; exact ⟨zin, rfl, rfl⟩
 | e :: r, f, h => by
   unfold targs at h
   simp only [Option.bind_eq_some_iff, Option.map_eq_some_iff] at h
   obtain ⟨f1, e1, fr, e2, rfl⟩ := h
   obtain ⟨i1, i2, i3⟩ := zdD ok e2
   have ea : assignEach (e :: r) X.env = (false, assign e X.env) :: assignEach r X.env := by
     cases e with
     | Name x p => rfl
     | _ => cases e1
   refine ⟨zg8 (zdE ok e1) i1 (by rw [ea]; rfl), by rw [ea, List.length_cons, List.length_cons, i2], ?_⟩
   rw [ea, List.findIdx?_cons, i3]
   rfl
theorem za7 (ok : CtxOk c X) {e : Expr} {f : GF} (h : targE c e = some f) : SG X e f := by
 cases e with
 | Name x p => exact zdE ok h
 | Tuple es k p =>
   unfold targE at h
   simp only [Option.map_eq_some_iff] at h
   obtain ⟨fr, e1, rfl⟩ := h
   obtain ⟨i1, i2, i3⟩ := zdD ok e1
   exact zjY ok.calm i1 i2 i3
 | _ => cases h
end
def eNever : EF := fun _ _ => none
theorem zhc {X : Cx} {e : Expr} : SE X e eNever := fun _ _ _ _ _ _ h => by
 obtain ⟨_, _, _, _, _, _, _, hf, _⟩ := h
 cases hf
section
variable (rE : Ctx → Expr → Option EF) (rT : Ctx → Expr → Option TF)
def argE (c : Ctx) : List Expr → Option AF
 | [] => some aNil
 | e :: r => if notStar e = true then (rE c e).bind fun f => (argE c r).map fun fr => aCons f fr else none
def boolE (c : Ctx) (op : BoolOp) : List Expr → Option EF
 | [] => none
 | [a] => rE c a
 | a :: b :: r => (rE c a).bind fun f => (boolE c op (b :: r)).map fun g => match op with
   | .And => eAnd f g
   | .Or => eOr f g
def boolT (c : Ctx) (op : BoolOp) : List Expr → Option TF
 | [] => none
 | [a] => rT c a
 | a :: b :: r => (rT c a).bind fun f => (boolT c op (b :: r)).map fun g => match op with
   | .And => tAndF f g
   | .Or => tOrF f g
def partE (c : Ctx) : Option Expr → Option PF
 | none => some pNone
 | some e => (rE c e).map pSome
def bltF : List (Str × String × GN) := [("len", "len", gLen), ("min", "min", gMin'), ("max", "max", gMax'), ("isinstance", "isinstance", gIsi), ("all", "all", gAll), ("sum", "sum", gSum)]
def bltT : List (Str × String × GN) := [("tuple", "tuple", gTuple), ("list", "list", gList), ("int", "int", gInt)]
def callG (c : Ctx) (x : Str) (es : List Expr) : Option EF := if oddName x = true then none else
 if c.names.lookup x = some .globalImplicit ∧ es.all notStar = true ∧ es ≠ [] then
   match c.fns.lookup x with
   | some (k, φ) => (argE rE c es).map fun fa => eN (nArgs k φ) fa
   | none => if x ∈ c.blt then match bltF.lookup x with
     | some (_, g) => (argE rE c es).map fun fa => eN g fa
     | none => match bltT.lookup x with
       | some (_, g) => (argE rE c es).map fun fa => eN g fa
       | none => none
     else some eNever
 else none
def callE (c : Ctx) (x : Str) (es : List Expr) : Option EF := callG rE c x es
def isTup : Expr → Bool
 | .Tuple _ _ _ => true
 | _ => false
def iterB (c : Ctx) (tg : Expr) : Expr → Option IF
 | .Call (.Name x p) es [] pos => if x = "range" ∧ c.names.lookup x = some .globalImplicit ∧ x ∈ c.blt ∧ es.all notStar = true then
     match es with
     | [_] => (argE rE c es).map iRg1
     | [_, _] => (argE rE c es).map iRg2
     | _ => none
   else (rE c (.Call (.Name x p) es [] pos)).map iVal
 | e => (rE c e).map iVal
def isName : Expr → Bool
 | .Name _ _ => true
 | _ => false
def itmA (tg f : Expr) (b : Bool) (pos : Pos) : Option Expr := match f with
 | .Attribute o m apos => if m = "items" ∧ b = true ∧ (apos.endLine == pos.line) = true ∧ isTup tg = true ∧ isName o = true then some o else none
 | _ => none
def itmO (tg e : Expr) : Option Expr := match e with
 | .Call f es ks pos => itmA tg f (es.isEmpty && ks.isEmpty) pos
 | _ => none
def iterE (c : Ctx) (tg e : Expr) : Option IF := match itmO tg e with
 | some o => (rE c o).map iItems
 | none => iterB rE c tg e
def ifsT (c : Ctx) : List Expr → Option TF
 | [] => some tTru
 | [t] => rT c t
 | _ => none
def compE (c : Ctx) (elt : Expr) (g : Comprehension) (scope : Scope) : Option EF :=
 if g.is_async = 0 ∧ compB c scope = true ∧ notSet g.iter = true then
   (iterE rE c g.target g.iter).bind fun fi => (targE (compC c scope.names) g.target).bind fun fg => (ifsT rT (compC c scope.names) g.ifs).bind fun ft => (rE (compC c scope.names) elt).map fun fe => eLc fi fg ft fe (compSrc c scope.names)
 else none
def methF : List (Str × String × GM) := [("append", "list.append", gAppend), ("insert", "list.insert", gInsert), ("pop", "list.pop", gPop), ("reverse", "list.reverse", gReverse), ("count", "list.count", gCount)]
theorem zhy {X : Cx} (hu : X.A.units + 64 < cLine) {m : Str} {p : String × GM} (h : methF.lookup m = some p) : Slot "list" m p.1 ∧ typeOf (.builtin p.1) = pure (.type "method_descriptor") ∧ MtR X p.1 (rdM X.K p.2) := by
 have hm := PySem.mem_of_lookup h
 unfold methF at hm
 simp only [List.mem_cons, List.mem_nil_iff, or_false, Prod.mk.injEq] at hm
 rcases hm with ⟨rfl, rfl⟩ | ⟨rfl, rfl⟩ | ⟨rfl, rfl⟩ | ⟨rfl, rfl⟩ | ⟨rfl, rfl⟩
 · exact ⟨PySem.F.slot_list_append, PySem.F.type_list_append, zgj⟩
 · exact ⟨PySem.F.slot_list_insert, PySem.F.type_list_insert, zgi⟩
 · exact ⟨PySem.F.slot_list_pop, PySem.F.type_list_pop, zkN⟩
 · exact ⟨PySem.F.slot_list_reverse, PySem.F.type_list_reverse, zfH⟩
 · exact ⟨PySem.F.slot_list_count, PySem.F.type_list_count, zhx hu⟩
def dgetE (c : Ctx) (x : Str) (p : Pos) (m : Str) (es : List Expr) : Option EF := if m = "get" then match es with
   | [] => none
   | e :: r => (rE c (.Name x p)).bind fun fo => (argE rE c (e :: r)).map fun fa => eDM gDGet fo fa
 else none
def dctE (ks : List (Option Expr)) (vs : List Expr) : Option EF := if ks.isEmpty = true ∧ vs.isEmpty = true then some eDct else none
def methE (c : Ctx) (o : Expr) (m : Str) (apos : Pos) (es : List Expr) (cpos : Pos) : Option EF :=
 if es.all notStar = true ∧ es.length < 20 ∧ (apos.endLine == cpos.line) = true then
   match o with
   | .Name x p => match methF.lookup m with
     | some (_, g) => match es with
       | [] => (rE c (.Name x p)).map fun fo => eM0 g fo
       | e :: r => (rE c (.Name x p)).bind fun fo => (argE rE c (e :: r)).map fun fa => eM g fo fa
     | none => dgetE rE c x p m es
   | _ => none
 else none
def unE (c : Ctx) (op : UnaryOp) (a : Expr) : Option EF := match op with
 | .USub => (rE c a).map (eU gNeg)
 | .Not => (rE c a).map eNot
 | _ => none
def cmpE (c : Ctx) (a : Expr) (ops : List CmpOp) (bs : List Expr) : Option EF := match ops with
 | [] => none
 | op :: r => match r with
   | _ :: _ => none
   | [] => match bs with
     | [] => none
     | b :: q => match q with
       | _ :: _ => none
       | [] => if op ≠ .In ∧ op ≠ .NotIn then (rE c a).bind fun fa => (rE c b).map fun fb => eB (gCmp op) fa fb else none
def slcE (c : Ctx) (a : Expr) (lo hi st : Option Expr) : Option EF := match st with
 | none => (rE c a).bind fun fa => (partE rE c lo).bind fun fl => (partE rE c hi).map fun fh => eSl fa fl fh
 | some _ => none
def sbxE (c : Ctx) (a b : Expr) : Option EF := match b with
 | .Slice lo hi st _ => slcE rE c a lo hi st
 | _ => none
def subE (c : Ctx) (a b : Expr) : Option EF := if plainIx b = true then (rE c a).bind fun fa => (rE c b).map fun fb => eB gIx fa fb else sbxE rE c a b
def calE (c : Ctx) (f : Expr) (es : List Expr) (ks : List Keyword) (pos : Pos) : Option EF := match ks with
 | [] => match f with
   | .Name x _ => callE rE c x es
   | .Attribute o m apos => methE rE c o m apos es pos
   | _ => none
 | _ :: _ => none
def lcE (c : Ctx) (elt : Expr) (gs : List Comprehension) (scope : Scope) : Option EF := match gs with
 | [] => none
 | g :: r => match r with
   | [] => compE rE rT c elt g scope
   | _ :: _ => none
def stepE (c : Ctx) (e : Expr) : Option EF := match e with
 | .Name x _ => nmE c x
 | .Constant k _ _ => constE k
 | .BinOp a op b _ => (rE c a).bind fun fa => (rE c b).map fun fb => eB (gBin op) fa fb
 | .UnaryOp op a _ => unE rE c op a
 | .BoolOp op es _ => boolE rE c op es
 | .Compare a ops bs _ => cmpE rE c a ops bs
 | .Tuple es _ _ => (argE rE c es).map (eN gTup)
 | .List es _ => (argE rE c es).map (eN gLst)
 | .Subscript a b _ => subE rE c a b
 | .IfExp t a b _ => (rT c t).bind fun ft => (rE c a).bind fun fa => (rE c b).map fun fb => eIf ft fa fb
 | .Call f es ks pos => calE rE c f es ks pos
 | .Dict ks vs _ => dctE ks vs
 | .ListComp elt gs scope _ => lcE rE rT c elt gs scope
 | _ => none
def stepT (c : Ctx) : Expr → Option TF
 | .UnaryOp .Not a _ => (rT c a).map tNotF
 | .BoolOp op es _ => boolT rT c op es
 | .Compare a [op] [b] _ => if op ≠ .In ∧ op ≠ .NotIn then (rE c a).bind fun fa => (rE c b).map fun fb => tBl (eB (gCmp op) fa fb) else none
 | e => if plainT e = true then (rE c e).map tVal else none
end
mutual
def cE : Nat → Ctx → Expr → Option EF
 | 0, _, _ => none
 | n + 1, c, e => stepE (cE n) (cT n) c e
def cT : Nat → Ctx → Expr → Option TF
 | 0, _, _ => none
 | n + 1, c, e => stepT (cE n) (cT n) c e
end
def OkE (rE : Ctx → Expr → Option EF) : Prop := ∀ c X e f, CtxOk c X → rE c e = some f → SE X e f
def OkT (rT : Ctx → Expr → Option TF) : Prop := ∀ c X e f, CtxOk c X → rT c e = some f → ST X e f
section
variable {rE : Ctx → Expr → Option EF} {rT : Ctx → Expr → Option TF} {c : Ctx} {X : Cx}
theorem zas (hE : OkE rE) (ok : CtxOk c X) : ∀ {es : List Expr} {f : AF}, argE rE c es = some f → SA X es f ∧ es.all notStar = true
 | [], f, h => by cases h; exact ⟨zkc, rfl⟩
 | e :: r, f, h => by
   unfold argE at h
   split at h
   · rename_i hn
     simp only [Option.bind_eq_some_iff, Option.map_eq_some_iff] at h
     obtain ⟨f1, e1, fr, e2, rfl⟩ := h
     obtain ⟨i1, i2⟩ := zas hE ok e2
     exact ⟨ziu (hE c X e f1 ok e1) i1 (zaz hn r X.env), by rw [List.all_cons, hn, i2]; rfl⟩
   · cases h
theorem zdY (hE : OkE rE) (ok : CtxOk c X) {op : BoolOp} {pos : Pos} : ∀ {es : List Expr} {f : EF}, boolE rE c op es = some f → SE X (.BoolOp op es pos) f
 | [], f, h => by cases h
 | [a], f, h => zhf (hE c X a f ok h)
 | a :: b :: r, f, h => by
   unfold boolE at h
   simp only [Option.bind_eq_some_iff, Option.map_eq_some_iff] at h
   obtain ⟨f1, e1, fr, e2, rfl⟩ := h
   have i := zdY hE ok (pos := pos) e2
   cases op with
   | And => exact zkb (hE c X a f1 ok e1) i
   | Or => exact zlq (hE c X a f1 ok e1) i
theorem zdF (hT : OkT rT) (ok : CtxOk c X) {op : BoolOp} {pos : Pos} : ∀ {es : List Expr} {f : TF}, boolT rT c op es = some f → SW X (.BoolOp op es pos) f
 | [], f, h => by cases h
 | [a], f, h => by
   cases op with
   | And => exact zh7 (hT c X a f ok h)
   | Or => exact zjK (hT c X a f ok h)
 | a :: b :: r, f, h => by
   unfold boolT at h
   simp only [Option.bind_eq_some_iff, Option.map_eq_some_iff] at h
   obtain ⟨f1, e1, fr, e2, rfl⟩ := h
   have i := zdF hT ok (pos := pos) e2
   cases op with
   | And => exact zjL (hT c X a f1 ok e1) i
   | Or => exact zlo (hT c X a f1 ok e1) i
theorem zdV (hE : OkE rE) (ok : CtxOk c X) {e : Option Expr} {f : PF} (h : partE rE c e = some f) : SPt X e f := by
 cases e with
 | none => cases h; exact zih
 | some e =>
   unfold partE at h
   simp only [Option.map_eq_some_iff] at h
   obtain ⟨f1, e1, rfl⟩ := h
   exact zif (hE c X e f1 ok e1)
theorem zgX {x : Str} {p : String × GN} (h : bltF.lookup x = some p) (hc : X.calm = true) : bootBuiltins x = some (.builtin p.1) ∧ CallR X (.builtin p.1) (rdC X.K p.2) := by
 have hm := PySem.mem_of_lookup h
 unfold bltF at hm
 simp only [List.mem_cons, List.mem_nil_iff, or_false, Prod.mk.injEq] at hm
 rcases hm with ⟨rfl, rfl⟩ | ⟨rfl, rfl⟩ | ⟨rfl, rfl⟩ | ⟨rfl, rfl⟩ | ⟨rfl, rfl⟩ | ⟨rfl, rfl⟩
 · exact ⟨by decide +kernel, zlk⟩
 · exact ⟨by decide +kernel, zjD hc⟩
 · exact ⟨by decide +kernel, zjE hc⟩
 · exact ⟨by decide +kernel, zll⟩
 · exact ⟨by decide +kernel, zlm hc⟩
 · exact ⟨by decide +kernel, zlh hc⟩
theorem zgW {x : Str} {p : String × GN} (h : bltT.lookup x = some p) : bootBuiltins x = some (.type p.1) ∧ CallR X (.type p.1) (rdC X.K p.2) := by
 have hm := PySem.mem_of_lookup h
 unfold bltT at hm
 simp only [List.mem_cons, List.mem_nil_iff, or_false, Prod.mk.injEq] at hm
 rcases hm with ⟨rfl, rfl⟩ | ⟨rfl, rfl⟩ | ⟨rfl, rfl⟩
 · exact ⟨by decide +kernel, zhU⟩
 · exact ⟨by decide +kernel, zjB⟩
 · exact ⟨by decide +kernel, zlg⟩
theorem zeU (hE : OkE rE) (ok : CtxOk c X) {x : Str} {es : List Expr} {f : EF} {p pos : Pos} (h : callG rE c x es = some f) : SE X (.Call (.Name x p) es [] pos) f := by
 unfold callG at h
 split at h
 · cases h
 · rename_i ho
   have ho' : oddName x = false := by simpa using ho
   split at h
   · rename_i hc
     obtain ⟨h1, h2, h3⟩ := hc
     have hg : Gl X x := by show X.env.scope.names.lookup x = _; rw [ok.names]; exact h1
     cases es with
     | nil => exact absurd rfl h3
     | cons e r =>
       rw [List.all_cons, Bool.and_eq_true] at h2
       split at h
       · rename_i k φ e1
         simp only [Option.map_eq_some_iff] at h
         obtain ⟨fa, e2, rfl⟩ := h
         exact zit hg (ok.fns x k φ e1) (zas hE ok e2).1 (odd1 ho') (zaz h2.1 r X.env) (zcQ h2.2 pos X.env)
       · split at h
         · rename_i hb
           split at h
           · rename_i q g e1
             simp only [Option.map_eq_some_iff] at h
             obtain ⟨fa, e2, rfl⟩ := h
             obtain ⟨b1, b2⟩ := zgX e1 ok.calm
             exact zhe b2 hg (ok.blt x hb) b1 (zas hE ok e2).1 (odd3 ho') (odd1 ho') (zaz h2.1 r X.env) (zcQ h2.2 pos X.env)
           · split at h
             · rename_i q g e1
               simp only [Option.map_eq_some_iff] at h
               obtain ⟨fa, e2, rfl⟩ := h
               obtain ⟨b1, b2⟩ := zgW (X := X) e1
               exact zhd b2 hg (ok.blt x hb) b1 (zas hE ok e2).1 (odd3 ho') (odd1 ho') (zaz h2.1 r X.env) (zcQ h2.2 pos X.env)
             · cases h
         · cases h; exact zhc
   · cases h
theorem zfA (hE : OkE rE) (ok : CtxOk c X) {x : Str} {es : List Expr} {f : EF} {p pos : Pos} (h : callE rE c x es = some f) : SE X (.Call (.Name x p) es [] pos) f := zeU hE ok h
theorem zeS (hE : OkE rE) (ok : CtxOk c X) {tg e : Expr} {f : IF} (h : iterB rE c tg e = some f) : SI X tg e f := by
 have dflt : ∀ {e : Expr}, (rE c e).map iVal = some f → SI X tg e f := fun {e} q => by
   simp only [Option.map_eq_some_iff] at q
   obtain ⟨f1, e1, rfl⟩ := q
   exact zjX (hE c X e f1 ok e1)
 unfold iterB at h
 split at h
 · rename_i x p es pos
   split at h
   · rename_i hc
     obtain ⟨rfl, h1, h2, h3⟩ := hc
     have hg : Gl X "range" := by show X.env.scope.names.lookup _ = _; rw [ok.names]; exact h1
     split at h
     · rename_i a
       simp only [Option.map_eq_some_iff] at h
       obtain ⟨fa, e2, rfl⟩ := h
       rw [List.all_cons, Bool.and_eq_true] at h3
       exact zf2 hg (ok.blt _ h2) (zas hE ok e2).1 (by rw [zaz h3.1]; rfl)
     · rename_i a b
       simp only [Option.map_eq_some_iff] at h
       obtain ⟨fa, e2, rfl⟩ := h
       rw [List.all_cons, List.all_cons, Bool.and_eq_true, Bool.and_eq_true] at h3
       exact zf1 hg (ok.blt _ h2) (zas hE ok e2).1 (by rw [zaz h3.1, zaz h3.2.1]; rfl) (by rw [zaz h3.2.1]; rfl)
     · cases h
   · exact dflt h
 · exact dflt h
theorem zdW (hE : OkE rE) (ok : CtxOk c X) {tg e : Expr} {f : IF} (h : iterE rE c tg e = some f) : SI X tg e f := by
 unfold iterE at h
 split at h
 · rename_i o eo
   obtain ⟨fo, e1, rfl⟩ := Option.map_eq_some_iff.mp h
   have so := hE c X o fo ok e1
   unfold itmO at eo
   cases e with
   | Call g es ks pos =>
     simp only at eo
     unfold itmA at eo
     cases g with
     | Attribute o' m apos =>
       simp only at eo
       split at eo
       · rename_i hc
         obtain ⟨rfl, h2, h3, h4, h5⟩ := hc
         cases eo
         rw [Bool.and_eq_true, List.isEmpty_iff, List.isEmpty_iff] at h2
         obtain ⟨rfl, rfl⟩ := h2
         cases tg with
         | Tuple ts kk tp =>
           cases o with
           | Name x p => exact zg7 so rfl h3
           | _ => cases h5
         | _ => cases h4
       · cases eo
     | _ => cases eo
   | _ => cases eo
 · exact zeS hE ok h
theorem zfX (hT : OkT rT) (ok : CtxOk c X) {ifs : List Expr} {f : TF} (h : ifsT rT c ifs = some f) : STs X ifs f := by
 unfold ifsT at h
 split at h
 · cases h; exact zh9
 · exact zh8 (hT c X _ f ok h)
 · cases h
theorem zdX (hE : OkE rE) (hT : OkT rT) (ok : CtxOk c X) {elt : Expr} {g : Comprehension} {scope : Scope} {f : EF} (h : compE rE rT c elt g scope = some f) :
   ∃ fi fg ft fe, f = eLc fi fg ft fe (compSrc c scope.names) ∧ g = ⟨g.target, g.iter, g.ifs, 0⟩ ∧ CompOk X scope (compN c scope.names) (compSrc c scope.names) ∧ SI X g.target g.iter fi ∧
     (∀ Y, IsComp X scope (compN c scope.names) Y → SG Y g.target fg ∧ STs Y g.ifs ft ∧ SE Y elt fe) ∧ ∀ x, foldedSetIterable g.iter X.env x = pure x := by
 unfold compE at h
 split at h
 · rename_i hc
   obtain ⟨h1, h2, h3⟩ := hc
   simp only [Option.bind_eq_some_iff, Option.map_eq_some_iff] at h
   obtain ⟨fi, e1, fg, e2, ft, e3, fe, e4, rfl⟩ := h
   refine ⟨fi, fg, ft, fe, rfl, ?_, zjw ok h2, zdW hE ok e1, fun Y hy => ?_, zet h3 X.env⟩
   · obtain ⟨a, b, d, z⟩ := g
     have : z = 0 := h1
     subst this; rfl
   · have okY := zhS ok h2 hy
     exact ⟨za7 okY e2, zfX hT okY e3, hE _ Y elt fe okY e4⟩
 · cases h
theorem zfz (hE : OkE rE) (ok : CtxOk c X) {o : Expr} {m : Str} {apos cpos : Pos} {es : List Expr} {f : EF} (h : methE rE c o m apos es cpos = some f) : SE X (.Call (.Attribute o m apos) es [] cpos) f := by
 unfold methE at h
 split at h
 · rename_i hc
   obtain ⟨h1, h3, h4⟩ := hc
   split at h
   · rename_i x p
     split at h
     · rename_i q g e1
       obtain ⟨m1, m2, m3⟩ := zhy ok.un e1
       cases es with
       | nil =>
         simp only [Option.map_eq_some_iff] at h
         obtain ⟨fo, e2, rfl⟩ := h
         exact zj5 m1 m2 m3 (hE c X _ fo ok e2) rfl h4
       | cons e r =>
         have h1' := h1
         rw [List.all_cons, Bool.and_eq_true] at h1
         simp only [Option.bind_eq_some_iff, Option.map_eq_some_iff] at h
         obtain ⟨fo, e2, fa, e3, rfl⟩ := h
         have few : ((backTo cpos (starEach (e :: r) X.env)).all (fun x => !x.1) && (backToKw cpos (keywordEach [] X.env)).all (fun x => x.1.isSome)
             && decide ((e :: r).length + ([] : List Keyword).length + (if ([] : List Keyword).isEmpty then 0 else 1) < 30)) = true := by
           rw [zfb h1']
           show (true && true && _) = true
           rw [Bool.and_eq_true]
           exact ⟨rfl, decide_eq_true (by simp at h3 ⊢; omega)⟩
         exact zls m1 m2 m3 (hE c X _ fo ok e2) (zas hE ok e3).1 rfl few h4 (zaz h1.1 r X.env) (zcQ h1.2 cpos X.env)
     · unfold dgetE at h
       split at h
       · rename_i hm
         subst hm
         cases es with
         | nil => cases h
         | cons e r =>
           have h1' := h1
           rw [List.all_cons, Bool.and_eq_true] at h1
           simp only [Option.bind_eq_some_iff, Option.map_eq_some_iff] at h
           obtain ⟨fo, e2, fa, e3, rfl⟩ := h
           have few : ((backTo cpos (starEach (e :: r) X.env)).all (fun x => !x.1) && (backToKw cpos (keywordEach [] X.env)).all (fun x => x.1.isSome)
               && decide ((e :: r).length + ([] : List Keyword).length + (if ([] : List Keyword).isEmpty then 0 else 1) < 30)) = true := by
             rw [zfb h1']
             show (true && true && _) = true
             rw [Bool.and_eq_true]
             exact ⟨rfl, decide_eq_true (by simp at h3 ⊢; omega)⟩
           exact zis ok.un (hE c X _ fo ok e2) (zas hE ok e3).1 rfl few h4 (zaz h1.1 r X.env) (zcQ h1.2 cpos X.env)
       · cases h
   · cases h
 · cases h
theorem zeR (hE : OkE rE) (hT : OkT rT) : OkE (stepE rE rT) := by
 intro c X e f ok h
 cases e with
 | Name x p => exact zfy ok h
 | Constant k a b => exact zeT h
 | BinOp a op b p =>
   obtain ⟨fa, e1, h⟩ := Option.bind_eq_some_iff.mp h
   obtain ⟨fb, e2, rfl⟩ := Option.map_eq_some_iff.mp h
   exact zlr (hE c X _ fa ok e1) (hE c X _ fb ok e2)
 | UnaryOp op a p =>
   cases op with
   | USub =>
     obtain ⟨fa, e1, rfl⟩ := Option.map_eq_some_iff.mp h
     exact zj4 (hE c X _ fa ok e1)
   | Not =>
     obtain ⟨fa, e1, rfl⟩ := Option.map_eq_some_iff.mp h
     exact zj2 (hE c X _ fa ok e1)
   | _ => exact nomatch (show (none : Option EF) = some f from h)
 | BoolOp op es p => exact zdY hE ok h
 | Compare a ops bs p =>
   cases ops with
   | nil => exact nomatch (show (none : Option EF) = some f from h)
   | cons op r =>
     cases r with
     | cons _ _ => exact nomatch (show (none : Option EF) = some f from h)
     | nil =>
       cases bs with
       | nil => exact nomatch (show (none : Option EF) = some f from h)
       | cons b q =>
         cases q with
         | cons _ _ => exact nomatch (show (none : Option EF) = some f from h)
         | nil =>
           change (if op ≠ .In ∧ op ≠ .NotIn then (rE c a).bind fun fa => (rE c b).map fun fb => eB (gCmp op) fa fb else none) = some f at h
           by_cases hc : op ≠ .In ∧ op ≠ .NotIn
           · rw [if_pos hc] at h
             obtain ⟨fa, e1, h⟩ := Option.bind_eq_some_iff.mp h
             obtain ⟨fb, e2, rfl⟩ := Option.map_eq_some_iff.mp h
             exact zka ok.un hc.1 hc.2 (hE c X _ fa ok e1) (hE c X _ fb ok e2)
           · rw [if_neg hc] at h; cases h
 | Tuple es a b =>
   obtain ⟨fa, e1, rfl⟩ := Option.map_eq_some_iff.mp h
   exact zj0 (zas hE ok e1).1
 | List es a =>
   obtain ⟨fa, e1, rfl⟩ := Option.map_eq_some_iff.mp h
   exact zj6 (zas hE ok e1).1
 | Subscript a b p =>
   change (if plainIx b = true then (rE c a).bind fun fa => (rE c b).map fun fb => eB gIx fa fb else sbxE rE c a b) = some f at h
   by_cases hp : plainIx b = true
   · rw [if_pos hp] at h
     obtain ⟨fa, e1, h⟩ := Option.bind_eq_some_iff.mp h
     obtain ⟨fb, e2, rfl⟩ := Option.map_eq_some_iff.mp h
     exact zlt (zfC hp) (hE c X _ fa ok e1) (hE c X _ fb ok e2)
   · rw [if_neg hp] at h
     cases b with
     | Slice lo hi st q =>
       cases st with
       | some _ => exact nomatch (show (none : Option EF) = some f from h)
       | none =>
         obtain ⟨fa, e1, h⟩ := Option.bind_eq_some_iff.mp h
         obtain ⟨fl, e2, h⟩ := Option.bind_eq_some_iff.mp h
         obtain ⟨fh, e3, rfl⟩ := Option.map_eq_some_iff.mp h
         exact zhb (hE c X _ fa ok e1) (zdV hE ok e2) (zdV hE ok e3)
     | _ => exact nomatch (show (none : Option EF) = some f from h)
 | IfExp t a b p =>
   obtain ⟨ft, e0, h⟩ := Option.bind_eq_some_iff.mp h
   obtain ⟨fa, e1, h⟩ := Option.bind_eq_some_iff.mp h
   obtain ⟨fb, e2, rfl⟩ := Option.map_eq_some_iff.mp h
   exact zlu (hT c X _ ft ok e0) (hE c X _ fa ok e1) (hE c X _ fb ok e2)
 | Call g es ks pos =>
   cases ks with
   | cons _ _ => exact nomatch (show (none : Option EF) = some f from h)
   | nil =>
     cases g with
     | Name x p => exact zfA hE ok h
     | Attribute o m p => exact zfz hE ok h
     | _ => exact nomatch (show (none : Option EF) = some f from h)
 | ListComp elt gs scope p =>
   cases gs with
   | nil => exact nomatch (show (none : Option EF) = some f from h)
   | cons g r =>
     cases r with
     | cons _ _ => exact nomatch (show (none : Option EF) = some f from h)
     | nil =>
       obtain ⟨fi, fg, ft, fe, rfl, eg, cok, hi, hY, hfs⟩ := zdX hE hT ok h
       rw [eg]
       exact zj7 ok.calm cok hi hY hfs
 | Dict ks vs p =>
   change (if ks.isEmpty = true ∧ vs.isEmpty = true then some eDct else none) = some f at h
   by_cases hc : ks.isEmpty = true ∧ vs.isEmpty = true
   · rw [if_pos hc] at h
     cases h
     rw [List.isEmpty_iff, List.isEmpty_iff] at hc
     obtain ⟨rfl, rfl⟩ := hc
     exact zj9
   · rw [if_neg hc] at h; cases h
 | _ => exact nomatch (show (none : Option EF) = some f from h)
theorem zeQ (hE : OkE rE) (hT : OkT rT) : OkT (stepT rE rT) := by
 intro c X e f ok h
 unfold stepT at h
 split at h
 · simp only [Option.map_eq_some_iff] at h
   obtain ⟨fa, e1, rfl⟩ := h
   exact zjN (hT c X _ fa ok e1)
 · exact PW.pt (zdF hT ok h)
 · split at h
   · rename_i hc
     simp only [Option.bind_eq_some_iff, Option.map_eq_some_iff] at h
     obtain ⟨fa, e1, fb, e2, rfl⟩ := h
     exact zjO ok.un hc.1 hc.2 (hE c X _ fa ok e1) (hE c X _ fb ok e2)
   · cases h
 · split at h
   · rename_i hp
     simp only [Option.map_eq_some_iff] at h
     obtain ⟨fa, e1, rfl⟩ := h
     exact zjM (hE c X _ fa ok e1) (zf6 hp X.env)
   · cases h
theorem zbs : ∀ n, OkE (cE n) ∧ OkT (cT n)
 | 0 => ⟨fun _ _ _ _ _ h => by simp [cE] at h, fun _ _ _ _ _ h => by simp [cT] at h⟩
 | n + 1 => by
   obtain ⟨h1, h2⟩ := zbs n
   refine ⟨fun c X e f ok h => ?_, fun c X e f ok h => ?_⟩
   · rw [cE] at h; exact zeR h1 h2 c X e f ok h
   · rw [cT] at h; exact zeQ h1 h2 c X e f ok h
end
def sNever : SF := fun _ _ => none
theorem zg1 {X : Cx} {st : Stmt} : SS X st sNever := fun _ _ _ _ _ _ h => by
 obtain ⟨_, _, _, _, _, _, _, _, hf, _⟩ := h
 cases hf
def asgLc (c : Ctx) (x : Str) (e : Expr) : Option SF := match e with
 | .ListComp elt gs scope _ => match gs with
   | [] => none
   | g :: r => match r with
     | _ :: _ => none
     | [] => if x ∈ c.sts then (slotOf c.N x).bind fun i => (compE (cE 60) (cT 60) c elt g scope).map fun f => sAsg f (gNm i) else none
 | _ => none
def asgSt (c : Ctx) (x : Str) (e : Expr) : Option SF := if x ∈ c.sts then (cE 60 c e).bind fun fe => (slotOf c.N x).map fun i => sAsg fe (gNm i) else none
def asgSub (c : Ctx) (o i e : Expr) : Option SF := if plainIx i = true then (cE 60 c e).bind fun fe => (cE 60 c o).bind fun fo => (cE 60 c i).map fun fi => sAsg fe (gSt fo fi) else none
def asgTo (c : Ctx) (tg e : Expr) : Option SF := (cE 60 c e).bind fun fe => (targE c tg).map fun fg => sAsg fe fg
def parOk (c : Ctx) (x y z : Str) (px py pz : Pos) (a b d : Expr) : Bool := decide (c.names.lookup x = some .local ∧ c.names.lookup y = some .local ∧ c.names.lookup z = some .local ∧ py.line = px.line ∧ pz.line = px.line ∧ x ≠ y ∧ x ≠ z ∧ y ≠ z ∧
 starF a = false ∧ starF b = false ∧ starF d = false ∧ [a, b, d].all (foldedForSure 8) = false ∧ [a, b, d].all (constantsAlone 8) = false)
def parNo (c : Ctx) (ts : List Expr) : Bool := match ts with
 | [.Name x _, .Name y _, .Name z _] => decide (¬ (c.names.lookup x = some .local ∧ c.names.lookup y = some .local ∧ c.names.lookup z = some .local))
 | _ => false
theorem zhs {c : Ctx} {X : Cx} (ok : CtxOk c X) {ts vs : List Expr} {k k2 : Nat} {p p2 : Pos} (h : parNo c ts = true) : swappedStores [.Tuple ts k p] (.Tuple vs k2 p2) X.env = pure none := by
 unfold parNo at h
 split at h
 · have := of_decide_eq_true h
   rw [← ok.names] at this
   exact zfw this
 · cases h
def asgPar3 (c : Ctx) (x y z : Str) (px py pz : Pos) (a b d : Expr) : Option SF := if parOk c x y z px py pz a b d = true then (argE (cE 60) c [a, b, d]).bind fun fa => (slotOf c.N x).bind fun i => (slotOf c.N y).bind fun j => (slotOf c.N z).map fun k =>
 sAsg (eN gTup fa) (gTp 3 (gsCons (gNm i) (gsCons (gNm j) (gsCons (gNm k) gsNil)))) else none
def asgPar (c : Ctx) (ts : List Expr) (e : Expr) : Option SF := match e with
 | .Tuple vs _ _ => match ts with
   | [.Name x px, .Name y py, .Name z pz] => match vs with
     | [a, b, d] => asgPar3 c x y z px py pz a b d
     | _ => none
   | _ => none
 | _ => none
def isLc : Expr → Bool
 | .ListComp _ _ _ _ => true
 | _ => false
def asg1 (c : Ctx) (tg e : Expr) : Option SF :=
 if notComp e = true then
   if notTup e = true then match tg with
     | .Subscript o i _ => asgSub c o i e
     | tg => asgTo c tg e
   else match tg with
     | .Name x _ => asgSt c x e
     | .Tuple ts k p => if parNo c ts = true then asgTo c (.Tuple ts k p) e else asgPar c ts e
     | .Subscript o i _ => asgSub c o i e
     | _ => none
 else match tg with
   | .Name x _ => asgLc c x e
   | .Tuple ts k p => if isLc e = true then asgTo c (.Tuple ts k p) e else none
   | _ => none
def isDoc (e : Expr) : Bool := match e with
 | .Constant k _ _ => match k with
   | .str _ => true
   | _ => false
 | _ => false
def expS (c : Ctx) (e : Expr) : Option SF := if isDoc e = true then some sPass else if notComp e = true then (cE 60 c e).map sDrop else none
mutual
def cS : Nat → Ctx → Stmt → Option SF
 | 0, _, _ => none
 | n + 1, c, st => match st with
   | .Pass _ => some sPass
   | .Break _ => some sBrk
   | .Continue _ => some sCnt
   | .Expr e _ => expS c e
   | .Return o _ => match o with
     | none => some sRetN
     | some e => (cE 60 c e).map sRet
   | .Raise _ _ _ => some sNever
   | .Assign tgs e _ => match tgs with
     | [] => none
     | tg :: r => match r with
       | [] => asg1 c tg e
       | _ :: _ => none
   | .If t a b _ => (cT 60 c t).bind fun ft => (cSs n c a).bind fun fa => (cSs n c b).map fun fb => sIf ft fa fb
   | .While t a o _ => match o with
     | [] => (cT 60 c t).bind fun ft => (cSs n c a).map fun fa => sWh ft fa
     | _ :: _ => none
   | .For tg it a o _ => match o with
     | [] => if notSet it = true then (iterE (cE 60) c tg it).bind fun fi => (targE c tg).bind fun fg => (cSs n c a).map fun fa => sFor fi fg fa else none
     | _ :: _ => none
   | _ => none
def cSs : Nat → Ctx → List Stmt → Option SF
 | 0, _, _ => none
 | _ + 1, _, [] => some sPass
 | n + 1, c, st :: r => (cS n c st).bind fun f => (cSs n c r).map fun g => sSeq f g
end
theorem zeV {c : Ctx} {X : Cx} (ok : CtxOk c X) {x : Str} {px spos : Pos} {e : Expr} {f : SF} (h : asgLc c x e = some f) : SS X (.Assign [.Name x px] e spos) f := by
 have hE := (zbs 60).1
 have hT := (zbs 60).2
 cases e with
 | ListComp elt gs scope p => cases gs with
   | nil => exact nomatch (show (none : Option SF) = some f from h)
   | cons g r => cases r with
     | cons _ _ => exact nomatch (show (none : Option SF) = some f from h)
     | nil =>
       change (if x ∈ c.sts then (slotOf c.N x).bind fun i => (compE (cE 60) (cT 60) c elt g scope).map fun f => sAsg f (gNm i) else none) = some f at h
       by_cases hx : x ∈ c.sts
       · rw [if_pos hx] at h
         obtain ⟨i, e0, h⟩ := Option.bind_eq_some_iff.mp h
         obtain ⟨f1, e1, rfl⟩ := Option.map_eq_some_iff.mp h
         obtain ⟨fi, fg, ft, fe, rfl, eg, cok, hi, hY, hfs⟩ := zdX hE hT ok e1
         obtain ⟨s1, s2⟩ := ok.st x hx
         have nd : X.N.Nodup := by rw [ok.N]; exact ok.nd
         have sl : X.N[i]? = some x := by rw [ok.N]; exact zat e0
         rw [eg]
         have key : swapsWith (.ListComp elt [⟨g.target, g.iter, g.ifs, 0⟩] scope p) (some (.Name x px)) spos.line X.env = pure (X.env.blockKind == ScopeKind.function && X.env.kindOf x == some NameKind.local && px.line == p.line && !(scope.names.any fun y => y.1 == x && (y.2 == NameKind.local || y.2 == NameKind.cell))) := rfl
         cases hb : (X.env.blockKind == ScopeKind.function && X.env.kindOf x == some NameKind.local && px.line == p.line && !(scope.names.any fun y => y.1 == x && (y.2 == NameKind.local || y.2 == NameKind.cell))) with
         | true =>
           rw [hb] at key
           rw [Bool.and_eq_true, Bool.and_eq_true, Bool.and_eq_true] at hb
           have hk : X.env.kindOf x = some .local := by simpa using hb.1.1.2
           exact zg0 nd sl hk key ok.calm cok hi hY hfs
         | false =>
           rw [hb] at key
           exact zhZ nd sl s1 (zj7 ok.calm cok hi hY hfs) key s2
       · rw [if_neg hx] at h; cases h
 | _ => exact nomatch (show (none : Option SF) = some f from h)
theorem zeq {c : Ctx} {X : Cx} (ok : CtxOk c X) {ts : List Expr} {k0 : Nat} {p spos : Pos} {e : Expr} {f : SF} (h : asgPar c ts e = some f) : SS X (.Assign [.Tuple ts k0 p] e spos) f := by
 have hE := (zbs 60).1
 unfold asgPar at h
 split at h
 · rename_i vs k1 p1
   split at h
   · rename_i x px y py z pz
     split at h
     · rename_i a b d
       unfold asgPar3 at h
       by_cases hp : parOk c x y z px py pz a b d = true
       · rw [if_pos hp] at h
         unfold parOk at hp
         obtain ⟨q1, q2, q3, q4, q5, q6, q7, q8, q9, q10, q11, q12, q13⟩ := of_decide_eq_true hp
         obtain ⟨fa, e0, h⟩ := Option.bind_eq_some_iff.mp h
         obtain ⟨i, e1, h⟩ := Option.bind_eq_some_iff.mp h
         obtain ⟨j, e2, h⟩ := Option.bind_eq_some_iff.mp h
         obtain ⟨k, e3, rfl⟩ := Option.map_eq_some_iff.mp h
         rw [← ok.names] at q1 q2 q3
         have apart : ∀ {x y : Str} {i j : Nat}, x ≠ y → slotOf c.N x = some i → slotOf c.N y = some j → i ≠ j := fun hn a b q => by
           subst q
           have := (zat a).symm.trans (zat b)
           cases this
           exact hn rfl
         exact zic ok.calm (by rw [ok.N]; exact ok.nd) (by rw [ok.N]; exact zat e1) (by rw [ok.N]; exact zat e2) (by rw [ok.N]; exact zat e3) (apart q6 e1 e2) (apart q7 e1 e3) (apart q8 e2 e3) q1 q2 q3 (zas hE ok e0).1
           (swapped3 ok.kind q1 q2 q3 q4 q5 q6 q7 q8 q9 q10 q11 q12 q13)
       · rw [if_neg hp] at h; cases h
     · cases h
   · cases h
 · cases h
theorem zfB {c : Ctx} {X : Cx} (ok : CtxOk c X) {tg e : Expr} {spos : Pos} {f : SF} (h : asg1 c tg e = some f) : SS X (.Assign [tg] e spos) f := by
 have hE := (zbs 60).1
 unfold asg1 at h
 by_cases hc : notComp e = true
 · rw [if_pos hc] at h
   by_cases ht : notTup e = true
   · rw [if_pos ht] at h
     cases tg with
     | Subscript o i p =>
       change (if plainIx i = true then (cE 60 c e).bind fun fe => (cE 60 c o).bind fun fo => (cE 60 c i).map fun fi => sAsg fe (gSt fo fi) else none) = some f at h
       by_cases hi : plainIx i = true
       · rw [if_pos hi] at h
         obtain ⟨fe, e1, h⟩ := Option.bind_eq_some_iff.mp h
         obtain ⟨fo, e2, h⟩ := Option.bind_eq_some_iff.mp h
         obtain ⟨fi, e3, rfl⟩ := Option.map_eq_some_iff.mp h
         refine zdU (hE c X _ fe ok e1) (zh1 ok.un (hE c X _ fo ok e2) (hE c X _ fi ok e3) fun v => ?_) (by unfold swapsWithSole; exact zaO hc _ _ _) (zc8 rfl _ _) rfl
         cases i with
         | Slice _ _ _ _ => cases hi
         | _ => rfl
       · rw [if_neg hi] at h; cases h
     | Name _ _ =>
       obtain ⟨fe, e1, h⟩ := Option.bind_eq_some_iff.mp h
       obtain ⟨fg, e2, rfl⟩ := Option.map_eq_some_iff.mp h
       exact zdU (hE c X _ fe ok e1) (za7 ok e2) (by unfold swapsWithSole; exact zaO hc _ _ _) (zc8 rfl _ _) rfl
     | Tuple _ _ _ =>
       obtain ⟨fe, e1, h⟩ := Option.bind_eq_some_iff.mp h
       obtain ⟨fg, e2, rfl⟩ := Option.map_eq_some_iff.mp h
       exact zdU (hE c X _ fe ok e1) (za7 ok e2) (by unfold swapsWithSole; exact zaO hc _ _ _) (zfF ht _ _ _ _) rfl
     | _ =>
       obtain ⟨fe, e1, h⟩ := Option.bind_eq_some_iff.mp h
       obtain ⟨fg, e2, h⟩ := Option.map_eq_some_iff.mp h
       cases e2
   · rw [if_neg ht] at h
     cases tg with
     | Name x px =>
       change (if x ∈ c.sts then (cE 60 c e).bind fun fe => (slotOf c.N x).map fun i => sAsg fe (gNm i) else none) = some f at h
       by_cases hx : x ∈ c.sts
       · rw [if_pos hx] at h
         obtain ⟨fe, e1, h⟩ := Option.bind_eq_some_iff.mp h
         obtain ⟨i, e2, rfl⟩ := Option.map_eq_some_iff.mp h
         obtain ⟨s1, s2⟩ := ok.st x hx
         exact zhZ (by rw [ok.N]; exact ok.nd) (by rw [ok.N]; exact zat e2) s1 (hE c X _ fe ok e1) (zaO hc _ _ _) s2
       · rw [if_neg hx] at h; cases h
     | Tuple ts k0 p =>
       change (if parNo c ts = true then asgTo c (.Tuple ts k0 p) e else asgPar c ts e) = some f at h
       by_cases hp : parNo c ts = true
       · rw [if_pos hp] at h
         obtain ⟨fe, e1, h⟩ := Option.bind_eq_some_iff.mp h
         obtain ⟨fg, e2, rfl⟩ := Option.map_eq_some_iff.mp h
         cases e with
         | Tuple vs k2 p2 => exact zdU (hE c X _ fe ok e1) (za7 ok e2) (by unfold swapsWithSole; exact zaO hc _ _ _) (zhs ok hp) rfl
         | _ => exact absurd rfl ht
       · rw [if_neg hp] at h
         exact zeq ok h
     | Subscript o i p =>
       change (if plainIx i = true then (cE 60 c e).bind fun fe => (cE 60 c o).bind fun fo => (cE 60 c i).map fun fi => sAsg fe (gSt fo fi) else none) = some f at h
       by_cases hi : plainIx i = true
       · rw [if_pos hi] at h
         obtain ⟨fe, e1, h⟩ := Option.bind_eq_some_iff.mp h
         obtain ⟨fo, e2, h⟩ := Option.bind_eq_some_iff.mp h
         obtain ⟨fi, e3, rfl⟩ := Option.map_eq_some_iff.mp h
         refine zdU (hE c X _ fe ok e1) (zh1 ok.un (hE c X _ fo ok e2) (hE c X _ fi ok e3) fun v => ?_) (by unfold swapsWithSole; exact zaO hc _ _ _) (zc8 rfl _ _) rfl
         cases i with
         | Slice _ _ _ _ => cases hi
         | _ => rfl
       · rw [if_neg hi] at h; cases h
     | _ => exact nomatch (show (none : Option SF) = some f from h)
 · rw [if_neg hc] at h
   cases tg with
   | Name x px => exact zeV ok h
   | Tuple ts k0 p =>
     change (if isLc e = true then asgTo c (.Tuple ts k0 p) e else none) = some f at h
     by_cases hl : isLc e = true
     · rw [if_pos hl] at h
       obtain ⟨fe, e1, h⟩ := Option.bind_eq_some_iff.mp h
       obtain ⟨fg, e2, rfl⟩ := Option.map_eq_some_iff.mp h
       cases e with
       | ListComp _ _ _ _ => exact zdU (hE c X _ fe ok e1) (za7 ok e2) rfl rfl rfl
       | _ => cases hl
     · rw [if_neg hl] at h; cases h
   | _ => exact nomatch (show (none : Option SF) = some f from h)
theorem zfY {c : Ctx} {X : Cx} (ok : CtxOk c X) {e : Expr} {p : Pos} {f : SF} (h : expS c e = some f) : SS X (.Expr e p) f := by
 have hE := (zbs 60).1
 unfold expS at h
 by_cases hd : isDoc e = true
 · rw [if_pos hd] at h
   cases h
   cases e with
   | Constant k a b => cases k with
     | str _ => exact zjS
     | _ => cases hd
   | _ => cases hd
 · rw [if_neg hd] at h
   by_cases hc : notComp e = true
   · rw [if_pos hc] at h
     obtain ⟨fe, e1, rfl⟩ := Option.map_eq_some_iff.mp h
     exact zid (hE c X _ fe ok e1) (zaO hc _ _ _)
   · rw [if_neg hc] at h; cases h
theorem zec : ∀ n c X, CtxOk c X → PassesOwn (model X.prog X.w) X.A X.env X.xe → (∀ st f, cS n c st = some f → SS X st f) ∧ ∀ sts f, cSs n c sts = some f → SSs X sts f
 | 0, c, X, ok, hp => ⟨fun _ _ h => by simp [cS] at h, fun _ _ h => by simp [cSs] at h⟩
 | n + 1, c, X, ok, hp => by
   obtain ⟨ih1, ih2⟩ := zec n c X ok hp
   have hE := (zbs 60).1
   have hT := (zbs 60).2
   refine ⟨fun st f h => ?_, fun sts f h => ?_⟩
   · unfold cS at h
     cases st with
     | Pass _ => cases h; exact zib
     | Break _ => cases h; exact zjU
     | Continue _ => cases h; exact zjT
     | Expr e p => exact zfY ok h
     | Return o p => cases o with
       | none => cases h; exact zia
       | some e =>
         obtain ⟨fe, e1, rfl⟩ := Option.map_eq_some_iff.mp h
         exact zjP (hE c X _ fe ok e1)
     | Raise _ _ _ => cases h; exact zg1
     | Assign tgs e p => cases tgs with
       | nil => exact nomatch (show (none : Option SF) = some f from h)
       | cons tg r => cases r with
         | nil => exact zfB ok h
         | cons _ _ => exact nomatch (show (none : Option SF) = some f from h)
     | If t a b p =>
       obtain ⟨ft, e0, h⟩ := Option.bind_eq_some_iff.mp h
       obtain ⟨fa, e1, h⟩ := Option.bind_eq_some_iff.mp h
       obtain ⟨fb, e2, rfl⟩ := Option.map_eq_some_iff.mp h
       exact zlp (hT c X _ ft ok e0) (ih2 _ fa e1) (ih2 _ fb e2)
     | While t a o p => cases o with
       | cons _ _ => exact nomatch (show (none : Option SF) = some f from h)
       | nil =>
         obtain ⟨ft, e0, h⟩ := Option.bind_eq_some_iff.mp h
         obtain ⟨fa, e1, rfl⟩ := Option.map_eq_some_iff.mp h
         exact zgZ hp (hT c X _ ft ok e0) (ih2 _ fa e1)
     | For tg it a o p => cases o with
       | cons _ _ => exact nomatch (show (none : Option SF) = some f from h)
       | nil =>
         change (if notSet it = true then (iterE (cE 60) c tg it).bind fun fi => (targE c tg).bind fun fg => (cSs n c a).map fun fa => sFor fi fg fa else none) = some f at h
         by_cases hn : notSet it = true
         · rw [if_pos hn] at h
           obtain ⟨fi, e0, h⟩ := Option.bind_eq_some_iff.mp h
           obtain ⟨fg, e1, h⟩ := Option.bind_eq_some_iff.mp h
           obtain ⟨fa, e2, rfl⟩ := Option.map_eq_some_iff.mp h
           exact zjR hp ok.calm (zdW hE ok e0) (za7 ok e1) (ih2 _ fa e2) (zet hn X.env)
         · rw [if_neg hn] at h; cases h
     | _ => exact nomatch (show (none : Option SF) = some f from h)
   · cases sts with
     | nil => rw [cSs] at h; cases h; exact zjQ
     | cons st r =>
       rw [cSs] at h
       simp only [Option.bind_eq_some_iff, Option.map_eq_some_iff] at h
       obtain ⟨f1, e1, g1, e2, rfl⟩ := h
       exact zie (ih1 _ f1 e1) (ih2 _ g1 e2)
end MX
end
section
set_option autoImplicit false
namespace MX
open PySem PySem.Spec PyProof.Rows L2
theorem FnAt.mono {P : Program} {w : World} {K : PySem.W.Frag} {mg : Str → Option Value} {base : Heap} {j k : Nat} {x : Str} {n : Nat} {φ : GN} (h : FnAt P w K mg base j x n φ) (hjk : j ≤ k) : FnAt P w K mg base k x n φ :=
 let ⟨f, fd, ps, a, b, c, d⟩ := h
 ⟨f, fd, ps, a, b, c, d.mono hjk⟩
def ownN (names : List (Str × NameKind)) : List Str := (names.filter fun y => y.2 == .local || y.2 == .cell).map (·.1)
def mkC (st : Stmt) (fns : List (Str × Nat × GN)) (blt : List Str) : Ctx := { N := ownN (defScope st).names, names := (defScope st).names, sts := ownN (defScope st).names, fns := fns, blt := blt }
def startD (N : List Str) (ds : List D) : Sg := ds.map some ++ List.replicate (N.length - ds.length) none
theorem zep {K : PySem.W.Frag} {H : Hp} {α : List Addr} {N : List Str} {ds : List D} {vs : List V} (r : Reps K H α ds vs) : VarsR K H α (startD N ds) (start N vs) := by
 have hl := r.length
 refine ⟨by simp [startD, L2.start, hl], fun i d e => ?_⟩
 have hi : i < ds.length := by
   unfold startD at e
   by_cases hi : i < ds.length
   · exact hi
   · rw [List.getElem?_append_right (by simpa using hi), List.getElem?_replicate] at e
     split at e <;> cases e
 have ed : ds[i]? = some d := by
   unfold startD at e
   rw [List.getElem?_append_left (by simpa using hi), List.getElem?_map] at e
   cases q : ds[i]? with
   | none => rw [q] at e; cases e
   | some z => rw [q] at e; cases e; rfl
 obtain ⟨v, h1, h2⟩ := r.get ed
 refine ⟨v, ?_, h2⟩
 unfold L2.start
 rw [List.getElem?_append_left (by rw [List.length_map, ← hl]; exact hi), List.getElem?_map, h1]
 rfl
def Ends1 (r : Option (Fl × Sg × So)) (z : D) (S S' : So) : Prop := ∃ fl σ' S'', r = some (fl, σ', S'') ∧ (fl = .rt z ∨ (fl = .nx ∧ z = .non)) ∧ S' = S''.take S'.length ∧ S.length ≤ S'.length ∧ D.lo S'.length z = true ∧ ∀ o ∈ S', O.lo S'.length o = true
theorem zd1 {names : List (Str × NameKind)} (hu : ∀ y ∈ names, names.lookup y.1 = some y.2) {x : Str} (h : x ∈ ownN names) : names.lookup x = some .local ∨ names.lookup x = some .cell := by
 unfold ownN at h
 obtain ⟨y, hy, rfl⟩ := List.mem_map.mp h
 obtain ⟨h1, h2⟩ := List.mem_filter.mp hy
 rw [Bool.or_eq_true] at h2
 have e := hu y h1
 rcases h2 with q | q
 · exact .inl (by rw [e]; congr 1; simpa using q)
 · exact .inr (by rw [e]; congr 1; simpa using q)
section
variable {P : Program} {w : World} {K : PySem.W.Frag} {mg : Str → Option Value} {base : Heap}
theorem zjm {x qual : Str} {st : Stmt} {f : Addr} {fd : FuncData} {ps : List Str} {k m : Nat} {fns : List (Str × Nat × GN)} {blt : List Str} {fb : SF} {φ : GN}
   (F : Fun K x qual st f fd) (S : FnScope (ownN (defScope st).names) ps (defScope st)) (hu : (defScope st).names.all (fun y => decide ((defScope st).names.lookup y.1 = some y.2)) = true)
   (hfns : ∀ y n ψ, fns.lookup y = some (n, ψ) → FnAt P w K mg base k y n ψ) (hblt : ∀ y ∈ blt, mg y = none)
   (hb : cSs m (mkC st fns blt) (defBody st) = some fb)
   (hφ : ∀ ds S₀ z S', WF S₀ → ds.length = ps.length → φ ds S₀ = some (z, S') → Ends1 (fb (startD (ownN (defScope st).names) ds) S₀) z S₀ S') :
   FnOk P w K mg base CX0 (k + 1) f fd ps (spOf K ps.length φ) := by
 refine F.ok S (fun vs H Q E h => h.1) (fun cdv A outer s H vs Q E hr h => ?_)
 obtain ⟨hlen, S₀, α, ds, z, S', hs, r, e, kk⟩ := h
 have ok : CtxOk (mkC st fns blt) (cxOf CX0 P w K mg base (ownN (defScope st).names) qual (defScope st) f cdv A outer s H E).nox := by
   refine ⟨rfl, S.nd, rfl, S.kind, fun y hy => ?_, fun y n ψ q => ?_, hblt, rfl, hr.units, fun _ _ _ h => (nomatch h), fun _ _ _ h => (nomatch h)⟩
   · rw [List.all_eq_true] at hu
     exact ⟨zd1 (fun z hz => of_decide_eq_true (hu z hz)) hy, .inl rfl⟩
   · obtain ⟨f', fd', ps', a, b, c, d⟩ := hfns y n ψ q
     exact ⟨f', fd', ps', k, a, b, c, d, hr⟩
 refine ⟨rdS K fb, (zec m _ _ ok PassesOwn.never).2 _ fb hb, ?_⟩
 obtain ⟨fl, σ', S'', e1, e2, e3, e4, e5, e6⟩ := hφ ds S₀ z S' hs.wf (by rw [r.length]; exact hlen) e
 refine ⟨_, S₀, α, fl, σ', S'', zep r, hs, e1, fun σ2 H2 α2 v2 s2 x2 => ?_⟩
 have s3 : StoreR K H2 (α2.take S'.length) S' := by
   have := s2.cut S'.length (by rw [← e3]; exact e6)
   rw [← e3] at this; exact this
 have x3 : Ext K H α H2 (α2.take S'.length) := ⟨x2.tups, fun n a q => by
   have hn : n < S'.length := by
     have := (List.getElem?_eq_some_iff.mp q).1
     rw [hs.len] at this; omega
   rw [List.getElem?_take_of_lt hn]; exact x2.pre n a q⟩
 rcases e2 with rfl | ⟨rfl, rfl⟩
 · exact fun v rv => kk v H2 _ s3 x3 (rv.cut _ e5)
 · exact kk .non H2 _ s3 x3 .non
theorem zlN {x qual : Str} {st : Stmt} {f : Addr} {fd : FuncData} {ps : List Str} {k m : Nat} {fns : List (Str × Nat × GN)} {blt : List Str} {fb : SF} {φ : GN}
   (F : Fun K x qual st f fd) (hm : mg x = some (.ref f)) (hbd : Binds K fd ps []) (S : FnScope (ownN (defScope st).names) ps (defScope st)) (hu : (defScope st).names.all (fun y => decide ((defScope st).names.lookup y.1 = some y.2)) = true)
   (hfns : ∀ y n ψ, fns.lookup y = some (n, ψ) → FnAt P w K mg base k y n ψ) (hblt : ∀ y ∈ blt, mg y = none)
   (hb : cSs m (mkC st fns blt) (defBody st) = some fb)
   (hφ : ∀ ds S₀ z S', WF S₀ → ds.length = ps.length → φ ds S₀ = some (z, S') → Ends1 (fb (startD (ownN (defScope st).names) ds) S₀) z S₀ S') :
   FnAt P w K mg base (k + 1) x ps.length φ := ⟨f, fd, ps, hm, F.kp, hbd, zjm F S hu hfns hblt hb hφ⟩
end
section
variable {P : Program} {w : World} {K : PySem.W.Frag} {mg : Str → Option Value} {base : Heap}
end
def spLaw (K : PySem.W.Frag) (n : Nat) : Sp := fun vs H Q _ => ∃ (a : Addr) (ns : List Int), vs = [.ref a] ∧ FzL K H a (ns.map V.int) ∧ ns.length ≤ n ∧ ∀ H', Q (.bl true) H'
section
variable {P : Program} {w : World} {K : PySem.W.Frag} {mg : Str → Option Value} {base : Heap}
theorem zhA {x qual : Str} {st : Stmt} {f : Addr} {fd : FuncData} {p : Str} {k m n : Nat} {fns : List (Str × Nat × GN)} {blt : List Str} {fb : SF}
   (F : Fun K x qual st f fd) (S : FnScope (ownN (defScope st).names) [p] (defScope st)) (hu : (defScope st).names.all (fun y => decide ((defScope st).names.lookup y.1 = some y.2)) = true)
   (hfns : ∀ y n ψ, fns.lookup y = some (n, ψ) → FnAt P w K mg base k y n ψ) (hblt : ∀ y ∈ blt, mg y = none)
   (hb : cSs m (mkC st fns blt) (defBody st) = some fb)
   (hφ : ∀ ns : List Int, ns.length ≤ n → ∃ σ' S'', fb (startD (ownN (defScope st).names) [.ref 0]) [.frz (ns.map D.int)] = some (.rt (.bl true), σ', S'')) :
   FnOk P w K mg base CX0 (k + 1) f fd [p] (spLaw K n) := by
 refine F.ok S (fun vs H Q E h => ?_) (fun cdv A outer s H vs Q E hr h => ?_)
 · obtain ⟨a, ns, rfl, _⟩ := h; rfl
 obtain ⟨a, ns, rfl, hz, hl, kk⟩ := h
 have ok : CtxOk (mkC st fns blt) (cxOf CX0 P w K mg base (ownN (defScope st).names) qual (defScope st) f cdv A outer s H E).nox := by
   refine ⟨rfl, S.nd, rfl, S.kind, fun y hy => ?_, fun y n ψ q => ?_, hblt, rfl, hr.units, fun _ _ _ h => (nomatch h), fun _ _ _ h => (nomatch h)⟩
   · rw [List.all_eq_true] at hu
     exact ⟨zd1 (fun z hz => of_decide_eq_true (hu z hz)) hy, .inl rfl⟩
   · obtain ⟨f', fd', ps', a, b, c, d⟩ := hfns y n ψ q
     exact ⟨f', fd', ps', k, a, b, c, d, hr⟩
 refine ⟨rdS K fb, (zec m _ _ ok PassesOwn.never).2 _ fb hb, ?_⟩
 obtain ⟨σ', S'', e⟩ := hφ ns hl
 have hs : StoreR K H [a] [.frz (ns.map D.int)] := by
   refine ⟨rfl, fun i j o o' b h1 h2 w1 w2 _ _ => ?_, fun i o b h1 h2 => ?_⟩
   · cases i with
     | zero => cases h1; cases w1
     | succ i => simp at h1
   · cases i with
     | zero => cases h1; cases h2; exact ⟨_, hz, zdG ns⟩
     | succ i => simp at h1
 refine ⟨_, _, [a], _, σ', S'', zep (K := K) (α := [a]) (.cons (.ref rfl) .nil), hs, e, fun σ2 H2 α2 v2 s2 x2 v rv => ?_⟩
 cases rv
 exact kk H2
end
end MX
end
section
set_option autoImplicit false
namespace MX
open PySem L2
theorem zdw {nx : Nat → So → Option (Option D)} {g : GF} {t : TF} {fe : EF} {S : So} {xs : List D} (T : Sg → Prop) (p : D → Bool) (h : D → D) (hnx : ∀ i : Nat, nx i S = some xs[i]?)
   (hstep : ∀ d ∈ xs, ∀ τ, T τ → ∃ τ', g d τ S = some (τ', S) ∧ T τ' ∧ t τ' S = some (p d, S) ∧ (p d = true → fe τ' S = some (h d, S))) :
   ∀ (n i : Nat) (τ : Sg) (acc : List D), T τ → i + n = xs.length → lcN nx g t fe n i τ S acc = some (acc ++ ((xs.drop i).filter p).map h, S)
 | 0, i, τ, acc, hT, hl => by
   unfold lcN
   rw [hnx, List.getElem?_eq_none (by omega), List.drop_of_length_le (by omega)]
   simp
 | n + 1, i, τ, acc, hT, hl => by
   have hi : i < xs.length := by omega
   unfold lcN
   rw [hnx, List.getElem?_eq_getElem hi, List.drop_eq_getElem_cons hi]
   obtain ⟨τ', h1, h2, h3, h4⟩ := hstep xs[i] (List.getElem_mem hi) τ hT
   simp only [h1, Option.bind_some, h3]
   cases hp : p xs[i] with
   | false =>
     simp only [Bool.false_eq_true, if_false]
     rw [zdw T p h hnx hstep n (i + 1) τ' acc h2 (by omega), List.filter_cons_of_neg (by simp [hp])]
   | true =>
     simp only [if_true, h4 hp, Option.bind_some]
     rw [zdw T p h hnx hstep n (i + 1) τ' _ h2 (by omega), List.filter_cons_of_pos hp]
     simp
theorem zcS {nx : Nat → So → Option (Option D)} {g : GF} {f : SF} {xs : List D} (P : Nat → Sg → So → Prop) (hnx : ∀ (i : Nat) σ S, P i σ S → nx i S = some xs[i]?)
   (hstep : ∀ (i : Nat) d σ S, xs[i]? = some d → P i σ S → ∃ σ1 S1 fl σ2 S2, g d σ S = some (σ1, S1) ∧ f σ1 S1 = some (fl, σ2, S2) ∧ (fl = .nx ∨ fl = .ct) ∧ P (i + 1) σ2 S2) :
   ∀ (n i : Nat) (σ : Sg) (S : So), P i σ S → i + n = xs.length → ∃ σ' S', forN nx g f n i σ S = some (.nx, σ', S') ∧ P xs.length σ' S'
 | 0, i, σ, S, hP, hl => by
   unfold forN
   rw [hnx i σ S hP, List.getElem?_eq_none (by omega)]
   have : i = xs.length := by omega
   subst this
   exact ⟨σ, S, rfl, hP⟩
 | n + 1, i, σ, S, hP, hl => by
   have hi : i < xs.length := by omega
   unfold forN
   rw [hnx i σ S hP, List.getElem?_eq_getElem hi]
   obtain ⟨σ1, S1, fl, σ2, S2, h1, h2, h3, h4⟩ := hstep i xs[i] σ S (List.getElem?_eq_getElem hi) hP
   obtain ⟨σ', S', e1, e2⟩ := zcS P hnx hstep n (i + 1) σ2 S2 h4 (by omega)
   refine ⟨σ', S', ?_, e2⟩
   simp only [h1, Option.bind_some, h2]
   rcases h3 with rfl | rfl <;> exact e1
end MX
end
section
set_option autoImplicit false
namespace MX
open PySem PySem.Spec PyProof.Rows L2
def stD (n : Nat) (ds : List D) : Sg := ds.map some ++ List.replicate (n - ds.length) none
open Classical in
def fnOf (n : Nat) (fb : SF) : GN := fun ds S => match fb (stD n ds) S with
 | some (.rt z, _, S'') => if S''.take S.length = S ∧ D.lo S.length z = true then some (z, S) else if S.length ≤ S''.length ∧ D.lo S''.length z = true ∧ WF S'' then some (z, S'') else none
 | some (.nx, _, S'') => if S''.take S.length = S then some (.non, S) else if S.length ≤ S''.length ∧ WF S'' then some (.non, S'') else none
 | _ => none
theorem zgB {N : List Str} {n : Nat} {fb : SF} (hn : N.length = n) {ds : List D} {S : So} {z : D} {S' : So} (hS : WF S) (h : fnOf n fb ds S = some (z, S')) : Ends1 (fb (startD N ds) S) z S S' := by
 have e0 : startD N ds = stD n ds := by unfold startD stD; rw [hn]
 rw [e0]
 unfold fnOf at h
 split at h
 · rename_i z' σ' S'' e
   split at h
   · rename_i hc
     cases h
     exact ⟨_, _, _, e, .inl rfl, hc.1.symm, Nat.le_refl _, hc.2, hS⟩
   · split at h
     · rename_i hc
       cases h
       exact ⟨_, _, _, e, .inl rfl, by simp, hc.1, hc.2.1, hc.2.2⟩
     · cases h
 · rename_i σ' S'' e
   split at h
   · rename_i hc
     cases h
     exact ⟨_, _, _, e, .inr ⟨rfl, rfl⟩, hc.symm, Nat.le_refl _, by simp [D.lo], hS⟩
   · split at h
     · rename_i hc
       cases h
       exact ⟨_, _, _, e, .inr ⟨rfl, rfl⟩, by simp, hc.1, by simp [D.lo], hc.2⟩
     · cases h
 · cases h
theorem zak {n : Nat} {fb : SF} {ds : List D} {S : So} {z : D} {σ' : Sg} {S' : So} (h : fb (stD n ds) S = some (.rt z, σ', S')) (hS : S'.take S.length = S) (hz : D.lo S.length z = true) : fnOf n fb ds S = some (z, S) := by
 unfold fnOf
 rw [h]
 simp only
 rw [if_pos ⟨hS, hz⟩]
theorem zcG {n : Nat} {fb : SF} {ds : List D} {S : So} {z : D} {σ' : Sg} {S' : So} (h : fb (stD n ds) S = some (.rt z, σ', S')) (hne : ¬ (S'.take S.length = S ∧ D.lo S.length z = true)) (hl : S.length ≤ S'.length) (hz : D.lo S'.length z = true) (hw : WF S') : fnOf n fb ds S = some (z, S') := by
 unfold fnOf
 rw [h]
 simp only
 rw [if_neg hne, if_pos ⟨hl, hz, hw⟩]
def DefK (K : PySem.W.Frag) (x : Str) (st : Stmt) : Prop := ∃ f fd, PySem.W.nsIn K mainGlobals x = some (some (.ref f)) ∧ Fun K x x st f fd
theorem DefK.mk' {K : PySem.W.Frag} {x : Str} {st : Stmt} {f : Addr} {oc : Value} {od an : Option Addr} {osl : Array (Option Value)} {kV doc pm cdv ct : Value} (a : PySem.W.nsIn K mainGlobals x = some (some (.ref f)))
   (l : K.lookup f = some ⟨oc, od, .func (PySem.W.fnOf x x (defArgs st) (defBody st) (defScope st) .none kV doc pm an cdv ct), osl⟩)
   (c : PySem.W.codeIn K cdv x = true) (k : PySem.W.keepIn K (.ref f) = true) : DefK K x st := ⟨f, _, a, zkZ l c k⟩
def FnsOk (P : Program) (w : World) (K : PySem.W.Frag) (mg : Str → Option Value) (base : Heap) (k : Nat) (fns : List (Str × Nat × GN)) : Prop := ∀ y n ψ, fns.lookup y = some (n, ψ) → FnAt P w K mg base k y n ψ
section
variable {P : Program} {w : World} {K : PySem.W.Frag} {mg : Str → Option Value} {base h : Heap}
theorem FnsOk.nil {k : Nat} : FnsOk P w K mg base k [] := fun _ _ _ e => by cases e
theorem FnsOk.snoc {k n : Nat} {x : Str} {φ : GN} {fns : List (Str × Nat × GN)} (hs : FnsOk P w K mg base k fns) (h : FnAt P w K mg base (k + 1) x n φ) : FnsOk P w K mg base (k + 1) ((x, n, φ) :: fns) := fun y m ψ e => by
 rw [List.lookup_cons] at e
 split at e
 · rename_i q
   cases e
   have : y = x := by simpa using q
   subst this
   exact h
 · exact (hs y m ψ e).mono (Nat.le_succ _)
def BindK (x : Str) (st : Stmt) (ps : List Str) : Prop := ∀ (kV doc pm : Value) (an : Option Addr) (cdv ct : Value) (us : List Value), us.length = ps.length → bindArgs (PySem.W.fnOf x x (defArgs st) (defBody st) (defScope st) .none kV doc pm an cdv ct) ⟨us, []⟩ = pure (ps.zip us)
theorem bind1 {x : Str} {st : Stmt} {p0 : Str} (h : ∀ (kV doc pm : Value) (an : Option Addr) (cdv ct : Value) (u0 : Value), bindArgs (PySem.W.fnOf x x (defArgs st) (defBody st) (defScope st) .none kV doc pm an cdv ct) ⟨[u0], []⟩ = pure ([p0].zip [u0])) : BindK x st [p0] := fun kV doc pm an cdv ct us hl => match us, hl with
 | [u0], _ => h kV doc pm an cdv ct u0
theorem bind2 {x : Str} {st : Stmt} {p0 p1 : Str} (h : ∀ (kV doc pm : Value) (an : Option Addr) (cdv ct : Value) (u0 u1 : Value), bindArgs (PySem.W.fnOf x x (defArgs st) (defBody st) (defScope st) .none kV doc pm an cdv ct) ⟨[u0, u1], []⟩ = pure ([p0, p1].zip [u0, u1])) : BindK x st [p0, p1] := fun kV doc pm an cdv ct us hl => match us, hl with
 | [u0, u1], _ => h kV doc pm an cdv ct u0 u1
theorem bind3 {x : Str} {st : Stmt} {p0 p1 p2 : Str} (h : ∀ (kV doc pm : Value) (an : Option Addr) (cdv ct : Value) (u0 u1 u2 : Value), bindArgs (PySem.W.fnOf x x (defArgs st) (defBody st) (defScope st) .none kV doc pm an cdv ct) ⟨[u0, u1, u2], []⟩ = pure ([p0, p1, p2].zip [u0, u1, u2])) : BindK x st [p0, p1, p2] := fun kV doc pm an cdv ct us hl => match us, hl with
 | [u0, u1, u2], _ => h kV doc pm an cdv ct u0 u1 u2
theorem bind4 {x : Str} {st : Stmt} {p0 p1 p2 p3 : Str} (h : ∀ (kV doc pm : Value) (an : Option Addr) (cdv ct : Value) (u0 u1 u2 u3 : Value), bindArgs (PySem.W.fnOf x x (defArgs st) (defBody st) (defScope st) .none kV doc pm an cdv ct) ⟨[u0, u1, u2, u3], []⟩ = pure ([p0, p1, p2, p3].zip [u0, u1, u2, u3])) : BindK x st [p0, p1, p2, p3] := fun kV doc pm an cdv ct us hl => match us, hl with
 | [u0, u1, u2, u3], _ => h kV doc pm an cdv ct u0 u1 u2 u3
theorem zar {x : Str} {st : Stmt} {ps : List Str} {k m n : Nat} {fns : List (Str × Nat × GN)} {blt : List Str} {fb : SF} (hs : FnsOk P w K mg base k fns) (KX : K.In h) (G : h.Ns mainGlobals mg) (hblt : ∀ y ∈ blt, mg y = none)
   (hD : DefK K x st) (hb0 : BindK x st ps) (S : FnScope (ownN (defScope st).names) ps (defScope st)) (hu : (defScope st).names.all (fun y => decide ((defScope st).names.lookup y.1 = some y.2)) = true)
   (hn : (ownN (defScope st).names).length = n) (hb : cSs m (mkC st fns blt) (defBody st) = some fb) : FnsOk P w K mg base (k + 1) ((x, ps.length, fnOf n fb) :: fns) := by
 obtain ⟨f, fd, a, F⟩ := hD
 exact hs.snoc (zlN F (PySem.W.mg_of KX G a) (F.binds hb0) S hu hs hblt hb fun ds S₀ z S' hw _ e => zgB hn hw e)
theorem zhC {x p : Str} {st : Stmt} {k m n : Nat} {fns : List (Str × Nat × GN)} {blt : List Str} {fb : SF} {fa : Addr} (KX : K.In h) (G : h.Ns mainGlobals mg) (hblt : ∀ y ∈ blt, mg y = none) (hfa : mg x = some (.ref fa))
   (hD : DefK K x st) (hb0 : BindK x st [p]) (S : FnScope (ownN (defScope st).names) [p] (defScope st)) (hu : (defScope st).names.all (fun y => decide ((defScope st).names.lookup y.1 = some y.2)) = true)
   (hn : (ownN (defScope st).names).length = n) (hb : cSs m (mkC st fns blt) (defBody st) = some fb) (hs : ∀ base, K.In base → base.Ns mainGlobals mg → FnsOk P w K mg base k fns)
   (hφ : ∀ ns : List Int, ns.length ≤ 63 → ∃ σ' S'', fb (stD n [.ref 0]) [.frz (ns.map D.int)] = some (.rt (.bl true), σ', S'')) :
   ∃ fd : FuncData, (∀ (s : Shared) (v : Value), BindsTo s fd ⟨[v], []⟩ [(p, v)]) ∧ ∀ base : Heap, K.In base → base.Ns mainGlobals mg → FnOk P w K mg base CX0 (k + 1) fa fd [p] (spLaw K 63) := by
 obtain ⟨f, fd, a, F⟩ := hD
 have e := hfa.symm.trans (PySem.W.mg_of KX G a)
 cases e
 refine ⟨fd, fun s v => ?_, fun base kb gb => zhA F S hu (hs base kb gb) hblt hb fun ns hl => ?_⟩
 · obtain ⟨oc, od, kV, doc, pm, an, cdv, ct, osl, rfl, lk, hcd⟩ := F.ex
   exact .of_eq (hb0 kV doc pm an cdv ct [v] rfl)
 · have e0 : startD (ownN (defScope st).names) [D.ref 0] = stD n [D.ref 0] := by unfold startD stD; rw [hn]
   rw [e0]
   exact hφ ns hl
theorem zhV {blt : List Str} (KX : K.In h) (G : h.Ns mainGlobals mg) (hz : ∀ y ∈ blt, PySem.W.nsIn K mainGlobals y = some none) : ∀ y ∈ blt, mg y = none := fun y hy => PySem.W.mg_none_of KX G (hz y hy)
end
end MX
end
section
set_option autoImplicit false
namespace MX
open PySem PySem.Spec PySem.W PyProof.Rows L2
theorem zdJ : ∀ (os : List Obj) (b a : Nat) (o : Obj), (fragFrom os b).lookup a = some o → b ≤ a ∧ os[a - b]? = some o ∧ keepO a o = true
 | [], _, _, _, e => by cases e
 | o' :: r, b, a, o, e => by
   have low : (fragFrom r (Nat.succ b)).lookup a = some o → b ≤ a ∧ (o' :: r)[a - b]? = some o ∧ keepO a o = true := fun e => by
     obtain ⟨h1, h2, h3⟩ := zdJ r (Nat.succ b) a o e
     refine ⟨by omega, ?_, h3⟩
     have : a - b = (a - Nat.succ b) + 1 := by omega
     rw [this, List.getElem?_cons_succ]
     exact h2
   unfold fragFrom at e
   cases q : keepO b o' with
   | false => rw [q] at e; exact low e
   | true =>
     rw [q] at e
     simp only [cond_true, List.lookup_cons] at e
     cases z : a == b with
     | false => rw [z] at e; exact low e
     | true =>
       rw [z] at e
       cases e
       have z' : a = b := by simpa using z
       subst z'
       exact ⟨Nat.le_refl _, by rw [Nat.sub_self]; rfl, q⟩
theorem zgA (h : Heap) : (fragAt h).In h := fun a o e => by
 obtain ⟨_, h2, h3⟩ := zdJ _ _ _ _ e
 rw [Nat.sub_zero, Array.getElem?_toList] at h2
 unfold Heap.get?
 rw [h2]
 obtain ⟨c, d, dt, sl⟩ := o
 cases dt <;> first | rfl | (exact absurd h3 (by intro z; cases z))
theorem zlR (s : Stmt) : dA s = defArgs s := by cases s <;> rfl
theorem zlQ (s : Stmt) : dB s = defBody s := by cases s <;> rfl
theorem zlP (s : Stmt) : dS s = defScope s := by cases s <;> rfl
theorem DefK.of_seen {K : PySem.W.Frag} {x : Str} {st : Stmt} (h : seenDef K x = some (dA st, dB st, dS st, true)) : DefK K x st := by
 rw [zlR, zlQ, zlP] at h
 unfold seenDef at h
 split at h
 · rename_i f a
   split at h
   · rename_i oc od n q ps b sc g kV doc pm an cd ct bn osl l
     simp only [Option.some.injEq, Prod.mk.injEq, Bool.and_eq_true, beq_iff_eq] at h
     obtain ⟨e1, e2, e3, e4, e5, e6, e7, e8, e9⟩ := h
     have e6 := Nat.eq_of_beq_eq_true e6
     have e7 := Nat.eq_of_beq_eq_true e7
     subst e1 e2 e3 e4 e5 e6 e7
     exact DefK.mk' a l e8 e9
   · cases h
 · cases h
def topHook (ds : List (Str × Stmt)) (blt : List Str) : Hook where
 α := List (Option (Arguments × List Stmt × Scope × Bool)) × List (Option (Option Value))
 obs := obsP ds blt
 val := fun _ => valP ds blt
 says := fun _ h => ∃ K : PySem.W.Frag, K.In h ∧ (∀ y ∈ ds, DefK K y.1 y.2) ∧ ∀ y ∈ blt, nsIn K mainGlobals y = some none
 of := fun _ s e => ⟨fragAt s.heap, zgA _, fun y hy => DefK.of_seen (List.map_inj_left.mp (Prod.mk.inj e).1 y hy), List.map_inj_left.mp (Prod.mk.inj e).2⟩
 keeps := fun _ _ _ ⟨K, a, b⟩ k => ⟨K, a.keeps k, b⟩
theorem zfS {l : PySem.W.OpenLaw} {q : Program} {loose : List Str} {XP : (Str → Option Value) → Heap → Prop} {d : DefRec} {x : Str} {k : Nat} {ds : List (Str × Stmt)} {blt : List Str} (hn : l.most = some 63) (hdf : d.params.defaults = []) (hr : Room k callerA)
   (F : ∀ (w : World) (mg : Str → Option Value) (fa : Addr) (h : Heap) (K : PySem.W.Frag), K.In h → h.Ns mainGlobals mg → mg d.name = some (.ref fa) → (∀ y ∈ ds, DefK K y.1 y.2) → (∀ y ∈ blt, nsIn K mainGlobals y = some none) →
     ∃ fd : FuncData, (∀ (s : Shared) (u : Value), BindsTo s fd ⟨[u], []⟩ [(x, u)]) ∧ ∀ base : Heap, K.In base → base.Ns mainGlobals mg → FnOk l.prog w K mg base CX0 k fa fd [x] (spLaw K 63)) :
   PySem.W.WalkO q loose XP (topHook ds blt).says l.row.toRowW d [] (fun f vs => PySem.call f vs) := by
 refine Att.ze8 hn hdf fun w s₀ s₁ mg mb fa o pm cd doc a vs ns G Y ho hd hcd hmg hobj hints hlen hg => ?_
 obtain ⟨K, KX, hD, hB⟩ := Y
 obtain ⟨fd, hb, hF⟩ := F w mg fa _ K KX G.T.g hmg hD hB
 refine zhB KX G.T.g G.T.b G.T.builtins G.T.nolimit hg hobj hints (Nat.le_trans hlen (by decide)) hr hF hb (fun H hO hS => ⟨a, ns, rfl, ?_, hlen, fun _ => rfl⟩) fun H e s' z => z
 rcases hS with (h | ⟨o, h⟩) | h
 · rcases hO a with z | ⟨o, xs, z⟩
   · rw [z] at h; cases h
   · rw [z] at h; cases h
 · exact .inl ⟨o, h⟩
 · exact .inr h
theorem zjh {l : PySem.W.OpenLaw} {q : Program} {d : DefRec} {H : Hook} {N : Nat} (said0 : l.wellSaid = true)
   (left : LeftO l.prog q [] (fun _ => true) H.obs H.val N) (hdef : defOf q l.name = some (d, [])) (hp : l.prog.theDef l.name = some (d.params, d.body, d.scope))
   (hk : kwWritten? d.params.kwonlyargs d.params.kw_defaults = some []) (ok : (chainsOk q && opensWell l.prog && (frees l.row.toRowW && l.row.within.isEmpty)) = true) (hb : l.prog.bare) (hw : l.row.toRowW.promised)
   (call : PySem.W.WalkO q [] (fun _ _ => True) H.says l.row.toRowW d [] fun f vs => PySem.call f vs) : l.Holds := by
 refine holds_law said0 fun said => ?_
 refine holds_open (r := l.row) (Xt := fun _ => true) (XP := fun _ _ => True) left H.of H.keeps ?_ ?_ hdef hp hk ?_ ?_ said ok hb hw call
 · exact fun _ _ => trivial
 · exact fun _ _ _ _ _ => trivial
 · exact fun s _ => recFacts_of (R := []) rfl
 · show (!l.row.writes || true) = true
   exact Bool.or_true _
end MX
end
section
namespace MX.P
open PySem L2 MX
def zch : SF := sSeq (sIf (tBl (eB (gCmp .Eq) (eVar 0) (eN gLst (aNil)))) (sSeq (sRet (eB (gBin .Mult) (eVar 1) (eC (.int 7919)))) (sPass)) (sPass)) (sSeq (sRet (eB (gBin .Add) (eB gIx (eVar 0) (eB (gBin .Mod) (eVar 1) (eN gLen (aCons (eVar 0) (aNil))))) (eB (gBin .Mult) (eB (gBin .FloorDiv) (eVar 1) (eN gLen (aCons (eVar 0) (aNil)))) (eC (.int 104729))))) (sPass))
def zcH : GN := fnOf 2 zch
def zbC : SF := sSeq (sAsg (eB (gBin .Mod) (eB (gBin .Add) (eB (gBin .Mult) (eVar 0) (eC (.int 6364136223846793005))) (eB (gBin .Mult) (eB (gBin .Add) (eVar 1) (eC (.int 1))) (eC (.int 1442695040888963407)))) (eC (.int 340282366920938463463374607431768211507))) (gNm 2)) (sSeq (sRet (eB (gBin .Mod) (eB (gBin .Mult) (eVar 2) (eVar 2)) (eC (.int 340282366920938463463374607431768211297)))) (sPass))
def zcr : GN := fnOf 3 zbC
def zcc : SF := sSeq (sRet (eN gTup (aCons (eB (gBin .Sub) (eB gIx (eVar 1) (eC (.int 0))) (eB gIx (eVar 0) (eC (.int 0)))) (aCons (eB (gBin .Sub) (eB gIx (eVar 1) (eC (.int 1))) (eB gIx (eVar 0) (eC (.int 1)))) (aCons (eB (gBin .Sub) (eB gIx (eVar 1) (eC (.int 2))) (eB gIx (eVar 0) (eC (.int 2)))) (aNil)))))) (sPass)
def zcT : GN := fnOf 2 zcc
def zhW : SF := sSeq (sRet (eB (gBin .Add) (eB (gBin .Add) (eB (gBin .Mult) (eB gIx (eVar 0) (eC (.int 0))) (eB gIx (eVar 1) (eC (.int 0)))) (eB (gBin .Mult) (eB gIx (eVar 0) (eC (.int 1))) (eB gIx (eVar 1) (eC (.int 1))))) (eB (gBin .Mult) (eB gIx (eVar 0) (eC (.int 2))) (eB gIx (eVar 1) (eC (.int 2)))))) (sPass)
def zhK : GN := fnOf 2 zhW
def zen : SF := sSeq (sRet (eN gTup (aCons (eB (gBin .Sub) (eB (gBin .Mult) (eB gIx (eVar 0) (eC (.int 1))) (eB gIx (eVar 1) (eC (.int 2)))) (eB (gBin .Mult) (eB gIx (eVar 0) (eC (.int 2))) (eB gIx (eVar 1) (eC (.int 1))))) (aCons (eB (gBin .Sub) (eB (gBin .Mult) (eB gIx (eVar 0) (eC (.int 2))) (eB gIx (eVar 1) (eC (.int 0)))) (eB (gBin .Mult) (eB gIx (eVar 0) (eC (.int 0))) (eB gIx (eVar 1) (eC (.int 2))))) (aCons (eB (gBin .Sub) (eB (gBin .Mult) (eB gIx (eVar 0) (eC (.int 0))) (eB gIx (eVar 1) (eC (.int 1)))) (eB (gBin .Mult) (eB gIx (eVar 0) (eC (.int 1))) (eB gIx (eVar 1) (eC (.int 0))))) (aNil)))))) (sPass)
def zek : GN := fnOf 2 zen
def zdg : SF := sSeq (sRet (eN gLst (aCons (eN gTup (aCons (eB gIx (eVar 0) (eC (.int 0))) (aCons (eB gIx (eVar 0) (eC (.int 1))) (aNil)))) (aCons (eN gTup (aCons (eB gIx (eVar 0) (eC (.int 1))) (aCons (eB gIx (eVar 0) (eC (.int 2))) (aNil)))) (aCons (eN gTup (aCons (eB gIx (eVar 0) (eC (.int 2))) (aCons (eB gIx (eVar 0) (eC (.int 0))) (aNil)))) (aNil)))))) (sPass)
def zdc : GN := fnOf 1 zdg
def zcv : SF := sSeq (sRet (eAnd (eN gIsi (aCons (eVar 0) (aCons (eC (.ty "int")) (aNil)))) (eNot (eN gIsi (aCons (eVar 0) (aCons (eC (.ty "bool")) (aNil))))))) (sPass)
def zco : GN := fnOf 1 zcv
def zcO : SF := sSeq (sAsg (eB (gBin .Mod) (eB (gBin .Add) (eVar 1) (eC (.int 1))) (eC (.int 3))) (gNm 3)) (sSeq (sAsg (eB (gBin .Mod) (eB (gBin .Add) (eVar 1) (eC (.int 2))) (eC (.int 3))) (gNm 4)) (sSeq (sAsg (eN gLst (aNil)) (gNm 5)) (sSeq (sFor (iVal (eN gLst (aCons (eN gTup (aCons (eC (.int 0)) (aCons (eC (.int 0)) (aNil)))) (aCons (eN gTup (aCons (eC (.int 1)) (aCons (eC (.int 0)) (aNil)))) (aCons (eN gTup (aCons (eC (.int 1)) (aCons (eC (.int 1)) (aNil)))) (aCons (eN gTup (aCons (eC (.int 0)) (aCons (eC (.int 1)) (aNil)))) (aNil))))))) (gTp 2 (gsCons (gNm 6) (gsCons (gNm 7) (gsNil)))) (sSeq (sAsg (eN gLst (aCons (eC (.int 0)) (aCons (eC (.int 0)) (aCons (eC (.int 0)) (aNil))))) (gNm 8)) (sSeq (sAsg (eB gIx (eB gIx (eVar 0) (eVar 2)) (eVar 1)) (gSt (eVar 8) (eVar 1))) (sSeq (sAsg (eB gIx (eB gIx (eVar 0) (eVar 6)) (eVar 3)) (gSt (eVar 8) (eVar 3))) (sSeq (sAsg (eB gIx (eB gIx (eVar 0) (eVar 7)) (eVar 4)) (gSt (eVar 8) (eVar 4))) (sSeq (sDrop (eM gAppend (eVar 5) (aCons (eN gTuple (aCons (eVar 8) (aNil))) (aNil)))) (sPass))))))) (sSeq (sRet (eN gLst (aCons (eN gTup (aCons (eB gIx (eVar 5) (eC (.int 0))) (aCons (eB gIx (eVar 5) (eC (.int 1))) (aCons (eB gIx (eVar 5) (eC (.int 2))) (aNil))))) (aCons (eN gTup (aCons (eB gIx (eVar 5) (eC (.int 0))) (aCons (eB gIx (eVar 5) (eC (.int 2))) (aCons (eB gIx (eVar 5) (eC (.int 3))) (aNil))))) (aNil))))) (sPass)))))
def zaJ : GN := fnOf 9 zcO
def zdh : SF := sSeq (sRet (eN gTuple (aCons (eLc (iRg1 (aCons (eC (.int 3)) (aNil))) (gNm 0) (tTru) (eB (gBin .Sub) (eB gIx (eVar 2) (eVar 0)) (eB gIx (eVar 1) (eVar 0))) [none, some 0, some 1]) (aNil)))) (sPass)
def zbY : GN := fnOf 2 zdh
def zcN : SF := sSeq (sRet (eB (gBin .Sub) (eB (gBin .Mult) (eB gIx (eVar 0) (eVar 2)) (eB gIx (eVar 1) (eVar 3))) (eB (gBin .Mult) (eB gIx (eVar 0) (eVar 3)) (eB gIx (eVar 1) (eVar 2))))) (sPass)
def zaA : GN := fnOf 4 zcN
def zcJ : SF := sSeq (sIf (tBl (eB (gCmp .Lt) (eVar 1) (eC (.int 0)))) (sSeq (sRet (eN gTup (aCons (eB (gBin .Sub) (eC (.int 0)) (eVar 0)) (aCons (eB (gBin .Sub) (eC (.int 0)) (eVar 1)) (aNil))))) (sPass)) (sPass)) (sSeq (sRet (eN gTup (aCons (eVar 0) (aCons (eVar 1) (aNil))))) (sPass))
def ze1 : GN := fnOf 2 zcJ
def zc3 : SF := sAsg (eDct) (gNm 1)
def zbh : SF := sAsg (eB (gBin .Add) (eDM gDGet (eVar 1) (aCons (eVar 3) (aCons (eC (.int 0)) (aNil)))) (eC (.int 1))) (gSt (eVar 1) (eVar 3))
def zaQ : SF := sSeq zbh sPass
def zcj : SF := sFor (iVal (eN (nArgs 1 zdc) (aCons (eVar 2) (aNil)))) (gNm 3) zaQ
def zaX : SF := sSeq zcj sPass
def zc2 : SF := sFor (iVal (eVar 0)) (gNm 2) zaX
def zc1 : SF := sRet (eN gAll (aCons (eLc (iItems (eVar 1)) (gTp 2 (gsCons (gNm 0) (gsCons (gNm 1) (gsNil)))) (tTru) (eB (gCmp .Eq) (eVar 1) (eDM gDGet (eVar 2) (aCons (eN gTup (aCons (eB gIx (eVar 0) (eC (.int 1))) (aCons (eB gIx (eVar 0) (eC (.int 0))) (aNil)))) (aCons (eC (.int 0)) (aNil))))) [none, none, some 1]) (aNil)))
def zcI : SF := sSeq zc3 (sSeq zc2 (sSeq zc1 sPass))
def zaP : GN := fnOf 4 zcI
def zcd : SF := sSeq (sRet (eN (nArgs 2 zhK) (aCons (eB gIx (eVar 0) (eC (.int 0))) (aCons (eN (nArgs 2 zek) (aCons (eB gIx (eVar 0) (eC (.int 1))) (aCons (eB gIx (eVar 0) (eC (.int 2))) (aNil)))) (aNil))))) (sPass)
def za5 : GN := fnOf 1 zcd
def zcK : SF := sSeq (sRet (eN gTup (aCons (eB (gBin .Sub) (eB (gBin .Mod) (eVar 0) (eC (.int 9))) (eC (.int 4))) (aCons (eB (gBin .Sub) (eB (gBin .Mod) (eB (gBin .FloorDiv) (eVar 0) (eC (.int 9))) (eC (.int 9))) (eC (.int 4))) (aCons (eB (gBin .Sub) (eB (gBin .Mod) (eB (gBin .FloorDiv) (eVar 0) (eC (.int 81))) (eC (.int 9))) (eC (.int 4))) (aNil)))))) (sPass)
def zaI : GN := fnOf 1 zcK
def za6 : SF := sSeq (sIf (tBl (eB (gCmp .Eq) (eB (gBin .Mod) (eVar 1) (eC (.int 3))) (eC (.int 0)))) (sSeq (sRet (eVar 0)) (sPass)) (sPass)) (sSeq (sAsg (eB (gBin .Add) (eC (.int 1)) (eB (gBin .Mod) (eVar 1) (eB (gBin .LShift) (eC (.int 1)) (eC (.int 50))))) (gNm 2)) (sSeq (sRet (eN gTup (aCons (eB (gBin .Add) (eB (gBin .Mult) (eB gIx (eVar 0) (eC (.int 0))) (eVar 2)) (eB (gBin .Mod) (eVar 1) (eC (.int 1000003)))) (aCons (eB (gBin .Sub) (eB (gBin .Mult) (eB gIx (eVar 0) (eC (.int 1))) (eVar 2)) (eB (gBin .Mod) (eVar 1) (eC (.int 997)))) (aCons (eB (gBin .Add) (eB (gBin .Mult) (eB gIx (eVar 0) (eC (.int 2))) (eVar 2)) (eC (.int 5))) (aNil)))))) (sPass)))
def zaD : GN := fnOf 3 za6
def zdi : SF := sSeq (sAsg (eC (.int 0)) (gNm 3)) (sSeq (sFor (iRg1 (aCons (eC (.int 3)) (aNil))) (gNm 4) (sSeq (sAsg (eB (gBin .Add) (eVar 3) (eB (gBin .Mult) (eB gIx (eVar 0) (eVar 4)) (eN (nArgs 4 zaA) (aCons (eVar 1) (aCons (eVar 2) (aCons (eB (gBin .Mod) (eB (gBin .Add) (eVar 4) (eC (.int 1))) (eC (.int 3))) (aCons (eB (gBin .Mod) (eB (gBin .Add) (eVar 4) (eC (.int 2))) (eC (.int 3))) (aNil)))))))) (gNm 3)) (sPass))) (sSeq (sRet (eVar 3)) (sPass)))
def zbZ : GN := fnOf 5 zdi
def zcM : SF := sSeq (sRet (eN gLst (aCons (eN (nArgs 1 zaI) (aCons (eVar 0) (aNil))) (aCons (eN (nArgs 1 zaI) (aCons (eB (gBin .FloorDiv) (eVar 0) (eC (.int 729))) (aNil))) (aCons (eN (nArgs 1 zaI) (aCons (eB (gBin .FloorDiv) (eVar 0) (eC (.int 531441))) (aNil))) (aCons (eN (nArgs 1 zaI) (aCons (eB (gBin .FloorDiv) (eVar 0) (eC (.int 387420489))) (aNil))) (aNil))))))) (sPass)
def zb5 : GN := fnOf 1 zcM
def zcx : SF := sSeq (sAsg (eVar 0) (gTp 4 (gsCons (gNm 1) (gsCons (gNm 2) (gsCons (gNm 3) (gsCons (gNm 4) (gsNil))))))) (sSeq (sRet (eN gLst (aCons (eN gTup (aCons (eVar 2) (aCons (eVar 3) (aCons (eVar 4) (aNil))))) (aCons (eN gTup (aCons (eVar 1) (aCons (eVar 4) (aCons (eVar 3) (aNil))))) (aCons (eN gTup (aCons (eVar 1) (aCons (eVar 2) (aCons (eVar 4) (aNil))))) (aCons (eN gTup (aCons (eVar 1) (aCons (eVar 3) (aCons (eVar 2) (aNil))))) (aNil))))))) (sPass))
def zcq : GN := fnOf 5 zcx
def zcu : SF := sSeq (sRet (eN gSum (aCons (eLc (iVal (eVar 0)) (gNm 0) (tTru) (eN (nArgs 1 za5) (aCons (eVar 0) (aNil))) [none]) (aNil)))) (sPass)
def zav : GN := fnOf 1 zcu
def zce : SF := sAsg (eN gLst (aNil)) (gNm 2)
def zbi : SF := sIf (tBl (eB (gCmp .NotEq) (eB (gCmp .Eq) (eB (gBin .Mod) (eVar 3) (eC (.int 2))) (eC (.int 0))) (eVar 1))) (sSeq (sDrop (eM gAppend (eVar 2) (aCons (eN gTup (aCons (eVar 4) (aCons (eVar 6) (aCons (eVar 5) (aNil))))) (aNil)))) (sPass)) (sSeq (sDrop (eM gAppend (eVar 2) (aCons (eN gTup (aCons (eVar 4) (aCons (eVar 5) (aCons (eVar 6) (aNil))))) (aNil)))) (sPass))
def zaR : SF := sSeq zbi sPass
def zck : SF := sFor (iVal (eN (nArgs 3 zaJ) (aCons (eVar 0) (aCons (eB (gBin .FloorDiv) (eVar 3) (eC (.int 2))) (aCons (eB (gBin .Mod) (eVar 3) (eC (.int 2))) (aNil)))))) (gTp 3 (gsCons (gNm 4) (gsCons (gNm 5) (gsCons (gNm 6) (gsNil))))) zaR
def zbR : SF := sSeq zck sPass
def zc5 : SF := sFor (iRg1 (aCons (eC (.int 6)) (aNil))) (gNm 3) zbR
def zc4 : SF := sRet (eVar 2)
def zcL : SF := sSeq zce (sSeq zc5 (sSeq zc4 sPass))
def zb4 : GN := fnOf 7 zcL
def zbr : SF := sAsg (eN gLst (aNil)) (gNm 1)
def zbD : SF := sAsg (eB (gBin .Add) (eVar 1) (eN gLst (aCons (eN gTup (aCons (eVar 2) (aCons (eVar 3) (aNil)))) (aCons (eN gTup (aCons (eVar 3) (aCons (eVar 4) (aNil)))) (aCons (eN gTup (aCons (eVar 4) (aCons (eVar 2) (aNil)))) (aNil)))))) (gNm 1)
def za4 : SF := sSeq zbD sPass
def zcz : SF := sFor (iVal (eVar 0)) (gTp 3 (gsCons (gNm 2) (gsCons (gNm 3) (gsCons (gNm 4) (gsNil))))) za4
def zcy : SF := sRet (eN gAll (aCons (eLc (iVal (eVar 1)) (gNm 0) (tTru) (eB (gCmp .Eq) (eM gCount (eVar 1) (aCons (eVar 0) (aNil))) (eM gCount (eVar 1) (aCons (eN gTup (aCons (eB gIx (eVar 0) (eC (.int 1))) (aCons (eB gIx (eVar 0) (eC (.int 0))) (aNil)))) (aNil)))) [none, some 1]) (aNil)))
def zcg : SF := sSeq zbr (sSeq zcz (sSeq zcy sPass))
def zb7 : GN := fnOf 5 zcg
def zbq : SF := sAsg (eN gList (aCons (eVar 0) (aNil))) (gNm 2)
def zbp : SF := sAsg (eB (gBin .Mod) (eB (gBin .FloorDiv) (eVar 1) (eC (.int 5))) (eN gLen (aCons (eVar 2) (aNil)))) (gNm 3)
def zbo : SF := sAsg (eB gIx (eVar 2) (eVar 3)) (gTp 3 (gsCons (gNm 4) (gsCons (gNm 5) (gsCons (gNm 6) (gsNil)))))
def zbn : SF := sIf (tBl (eB (gCmp .Eq) (eB (gBin .Mod) (eVar 1) (eC (.int 5))) (eC (.int 0)))) (sSeq (sDrop (eM gPop (eVar 2) (aCons (eVar 3) (aNil)))) (sPass)) (sPass)
def zbm : SF := sIf (tBl (eB (gCmp .Eq) (eB (gBin .Mod) (eVar 1) (eC (.int 5))) (eC (.int 1)))) (sSeq (sAsg (eN gTup (aCons (eVar 4) (aCons (eVar 6) (aCons (eVar 5) (aNil))))) (gSt (eVar 2) (eVar 3))) (sPass)) (sPass)
def zbl : SF := sIf (tBl (eB (gCmp .Eq) (eB (gBin .Mod) (eVar 1) (eC (.int 5))) (eC (.int 2)))) (sSeq (sAsg (eN gTup (aCons (eVar 5) (aCons (eVar 6) (aCons (eVar 4) (aNil))))) (gSt (eVar 2) (eVar 3))) (sPass)) (sPass)
def zbk : SF := sIf (tBl (eB (gCmp .Eq) (eB (gBin .Mod) (eVar 1) (eC (.int 5))) (eC (.int 3)))) (sSeq (sDrop (eM gInsert (eVar 2) (aCons (eB (gBin .Mod) (eB (gBin .FloorDiv) (eVar 1) (eC (.int 500))) (eN gLen (aCons (eVar 2) (aNil)))) (aCons (eN gTup (aCons (eVar 4) (aCons (eVar 5) (aCons (eVar 6) (aNil))))) (aNil))))) (sPass)) (sPass)
def zbj : SF := sIf (tBl (eB (gCmp .Eq) (eB (gBin .Mod) (eVar 1) (eC (.int 5))) (eC (.int 4)))) (sSeq (sAsg (eB (gBin .Add) (eVar 2) (eN gLst (aCons (eN gTup (aCons (eVar 4) (aCons (eVar 6) (aCons (eVar 5) (aNil))))) (aCons (eN gTup (aCons (eVar 4) (aCons (eVar 5) (aCons (eVar 6) (aNil))))) (aNil))))) (gNm 2)) (sPass)) (sPass)
def zaL : SF := sDrop (eM0 gReverse (eVar 2))
def zaH : SF := sRet (eVar 2)
def zcf : SF := sSeq zbq (sSeq zbp (sSeq zbo (sSeq zbn (sSeq zbm (sSeq zbl (sSeq zbk (sSeq zbj (sSeq zaL (sSeq zaH sPass)))))))))
def zb6 : GN := fnOf 7 zcf
def zbS : SF := sAsg (eN gLst (aNil)) (gNm 2)
def zb1 : SF := sDrop (eM gAppend (eVar 2) (aCons (eN gTuple (aCons (eLc (iVal (eN gLst (aCons (eVar 3) (aCons (eVar 4) (aCons (eVar 5) (aNil)))))) (gNm 0) (tTru) (eN gTuple (aCons (eLc (iRg1 (aCons (eC (.int 3)) (aNil))) (gNm 0) (tTru) (eB (gBin .Add) (eB gIx (eVar 2) (eVar 0)) (eB gIx (eVar 1) (eVar 0))) [none, some 1, some 0]) (aNil))) [none, some 1]) (aNil))) (aNil)))
def zaK : SF := sSeq zb1 sPass
def zcF : SF := sFor (iVal (eVar 0)) (gTp 3 (gsCons (gNm 3) (gsCons (gNm 4) (gsCons (gNm 5) (gsNil))))) zaK
def zcE : SF := sRet (eVar 2)
def zcw : SF := sSeq zbS (sSeq zcF (sSeq zcE sPass))
def zcp : GN := fnOf 6 zcw
def zbQ : SF := sAsg (eN (nArgs 2 zcH) (aCons (eVar 0) (aCons (eVar 1) (aNil)))) (gNm 2)
def zbP : SF := sAsg (eN (nArgs 2 zcr) (aCons (eVar 2) (aCons (eVar 1) (aNil)))) (gNm 3)
def zbO : SF := sAsg (eLc (iVal (eN (nArgs 1 zb5) (aCons (eVar 3) (aNil)))) (gNm 0) (tTru) (eN (nArgs 2 zaD) (aCons (eVar 0) (aCons (eVar 1) (aNil)))) [none, some 2]) (gNm 4)
def zbN : SF := sAsg (eB gIx (eVar 4) (eC (.int 0))) (gNm 5)
def zbM : SF := sAsg (eN gTup (aCons (eB (gBin .Mod) (eB (gBin .FloorDiv) (eVar 3) (eC (.int 3))) (eC (.int 5))) (aCons (eB (gBin .Mult) (eB (gBin .Mod) (eB (gBin .FloorDiv) (eVar 3) (eC (.int 15))) (eC (.int 4))) (eB (gBin .Add) (eC (.int 1)) (eB (gBin .Mod) (eVar 2) (eC (.int 1000))))) (aCons (eB (gBin .Mod) (eB (gBin .FloorDiv) (eVar 3) (eC (.int 60))) (eC (.int 7))) (aNil))))) (gNm 6)
def zbL : SF := sAsg (eN (nArgs 3 zbZ) (aCons (eN (nArgs 2 zbY) (aCons (eVar 5) (aCons (eB gIx (eVar 4) (eC (.int 1))) (aNil)))) (aCons (eN (nArgs 2 zbY) (aCons (eVar 5) (aCons (eB gIx (eVar 4) (eC (.int 2))) (aNil)))) (aCons (eN (nArgs 2 zbY) (aCons (eVar 5) (aCons (eB gIx (eVar 4) (eC (.int 3))) (aNil)))) (aNil))))) (gNm 7)
def zbK : SF := sAsg (eN (nArgs 1 zcq) (aCons (eVar 4) (aNil))) (gNm 8)
def zbJ : SF := sIf (tBl (eB (gCmp .Eq) (eB (gBin .Mod) (eVar 3) (eC (.int 2))) (eC (.int 0)))) (sSeq (sAsg (eB (gCmp .Eq) (eB (gBin .Mod) (eB (gBin .FloorDiv) (eVar 3) (eC (.int 420))) (eC (.int 2))) (eC (.int 0))) (gNm 9)) (sSeq (sAsg (eB (gBin .Add) (eN (nArgs 2 zb4) (aCons (eN gTup (aCons (eVar 5) (aCons (eN gTuple (aCons (eLc (iRg1 (aCons (eC (.int 3)) (aNil))) (gNm 0) (tTru) (eB (gBin .Add) (eB gIx (eVar 1) (eVar 0)) (eB gIx (eVar 2) (eVar 0))) [none, some 5, some 6]) (aNil))) (aNil)))) (aCons (eVar 9) (aNil)))) (eVar 8)) (gNm 8)) (sSeq (sAsg (eB (gBin .Add) (eVar 7) (eB (gBin .Mult) (eB (gBin .Mult) (eB (gBin .Mult) (eB (gBin .Mult) (eC (.int 6)) (eB gIx (eVar 6) (eC (.int 0)))) (eB gIx (eVar 6) (eC (.int 1)))) (eB gIx (eVar 6) (eC (.int 2)))) (eB (gBin .Sub) (eC (.int 1)) (eB (gBin .Mult) (eC (.int 2)) (eN gInt (aCons (eVar 9) (aNil))))))) (gNm 7)) (sPass)))) (sPass)
def zbI : SF := sAsg (eN gTuple (aCons (eLc (iVal (eN (nArgs 1 zaI) (aCons (eB (gBin .FloorDiv) (eVar 3) (eC (.int 9))) (aNil)))) (gNm 0) (tTru) (eB (gBin .Mult) (eVar 0) (eB (gBin .Add) (eC (.int 1)) (eB (gBin .Mod) (eVar 1) (eB (gBin .LShift) (eC (.int 1)) (eC (.int 60)))))) [none, some 2]) (aNil))) (gNm 10)
def zbg : SF := sAsg (eN gList (aCons (eVar 8) (aNil))) (gNm 11)
def zbf : SF := sIf (tOrF (tBl (eB (gCmp .IsNot) (eN (nArgs 1 zaP) (aCons (eVar 8) (aNil))) (eC (.bl true)))) (tOrF (tBl (eB (gCmp .NotEq) (eN (nArgs 1 zav) (aCons (eVar 8) (aNil))) (eVar 7))) (tNotF (tVal (eN (nArgs 1 zco) (aCons (eN (nArgs 1 zav) (aCons (eVar 8) (aNil))) (aNil))))))) (sSeq (sRet (eC (.bl false))) (sPass)) (sPass)
def zbe : SF := sIf (tOrF (tBl (eB (gCmp .NotEq) (eN (nArgs 1 zav) (aCons (eN (nArgs 2 zcp) (aCons (eVar 8) (aCons (eVar 10) (aNil)))) (aNil))) (eVar 7))) (tBl (eB (gCmp .NotEq) (eVar 8) (eVar 11)))) (sSeq (sRet (eC (.bl false))) (sPass)) (sPass)
def zbd : SF := sAsg (eN (nArgs 2 zb6) (aCons (eVar 8) (aCons (eB (gBin .FloorDiv) (eVar 3) (eC (.int 1000))) (aNil)))) (gNm 12)
def zbc : SF := sAsg (eN (nArgs 1 zaP) (aCons (eVar 12) (aNil))) (gNm 13)
def zbb : SF := sIf (tOrF (tNotF (tVal (eN gIsi (aCons (eVar 13) (aCons (eC (.ty "bool")) (aNil)))))) (tBl (eB (gCmp .NotEq) (eVar 13) (eN (nArgs 1 zb7) (aCons (eVar 12) (aNil)))))) (sSeq (sRet (eC (.bl false))) (sPass)) (sPass)
def zba : SF := sIf (tBl (eB (gCmp .NotEq) (eN (nArgs 1 zav) (aCons (eVar 12) (aNil))) (eN gSum (aCons (eLc (iVal (eVar 12)) (gTp 3 (gsCons (gNm 0) (gsCons (gNm 1) (gsCons (gNm 2) (gsNil))))) (tTru) (eN (nArgs 3 zbZ) (aCons (eVar 0) (aCons (eVar 1) (aCons (eVar 2) (aNil))))) [none, none, none]) (aNil))))) (sSeq (sRet (eC (.bl false))) (sPass)) (sPass)
def za1 : SF := sSeq zbQ (sSeq zbP (sSeq zbO (sSeq zbN (sSeq zbM (sSeq zbL (sSeq zbK (sSeq zbJ (sSeq zbI (sSeq zbg (sSeq zbf (sSeq zbe (sSeq zbd (sSeq zbc (sSeq zbb (sSeq zba sPass)))))))))))))))
def zdR : SF := sFor (iRg1 (aCons (eN gMax' (aCons (eC (.int 1)) (aCons (eN gMin' (aCons (eC (.int 3)) (aCons (eN gLen (aCons (eVar 0) (aNil))) (aNil)))) (aNil)))) (aNil))) (gNm 1) za1
def zdQ : SF := sRet (eAnd (eB (gCmp .Is) (eN (nArgs 1 zaP) (aCons (eN gLst (aNil)) (aNil))) (eC (.bl true))) (eB (gCmp .Eq) (eN (nArgs 1 zav) (aCons (eN gLst (aNil)) (aNil))) (eC (.int 0))))
def zc0 : SF := sSeq zdR (sSeq zdQ sPass)
end MX.P
end
section
set_option autoImplicit false
namespace MX
open PySem L2
theorem zds {p : Prop} {i : Decidable p} (h : p) : @decide p i = true := decide_eq_true h
theorem ze4 {p : Prop} {i : Decidable p} (h : ¬ p) : @decide p i = false := decide_eq_false h
section
variable {σ σ1 : Sg} {S S1 S2 : So} {x y z d : D} {xs ds : List D} {fa fb fe fo : EF} {aa : AF}
theorem zaf {g : G2} {r : Option (D × So)} (h1 : fa σ S = some (x, S1)) (h2 : fb σ S1 = some (y, S2)) (h3 : g x y S2 = r) : eB g fa fb σ S = r := by
 unfold eB; rw [h1]; simp only [Option.bind_some]; rw [h2]; simp only [Option.bind_some]; exact h3
theorem zlO {g : D → So → Option (D × So)} {r : Option (D × So)} (h1 : fa σ S = some (x, S1)) (h3 : g x S1 = r) : eU g fa σ S = r := by
 unfold eU; rw [h1]; simp only [Option.bind_some]; exact h3
theorem zao {g : GN} {r : Option (D × So)} (h1 : aa σ S = some (ds, S1)) (h2 : g ds S1 = r) : eN g aa σ S = r := by
 unfold eN; rw [h1]; simp only [Option.bind_some]; exact h2
theorem zab {fr : AF} (h1 : fa σ S = some (x, S1)) (h2 : fr σ S1 = some (xs, S2)) : aCons fa fr σ S = some (x :: xs, S2) := by
 unfold aCons; rw [h1]; simp only [Option.bind_some]; rw [h2]; rfl
theorem zae : aNil σ S = some ([], S) := rfl
theorem zal : eC d σ S = some (d, S) := rfl
theorem zaa {i : Nat} (h : σ[i]? = some (some d)) : eVar i σ S = some (d, S) := by unfold eVar; rw [h]
theorem zag {n : Nat} {φ : GN} {r : Option (D × So)} (h1 : ds.length = n) (h2 : φ ds S = r) : nArgs n φ ds S = r := by unfold nArgs; rw [if_pos h1]; exact h2
def iteK {α : Type} (b : Bool) (x y : α) : α := if b = true then x else y
theorem zcm {α : Type} {b : Bool} {x y r : α} (h : b = true) (hx : x = r) : iteK b x y = r := by unfold iteK; rw [if_pos h]; exact hx
theorem za8 {α : Type} {b : Bool} {x y r : α} (h : b = false) (hx : y = r) : iteK b x y = r := by unfold iteK; rw [if_neg (by rw [h]; exact Bool.false_ne_true)]; exact hx
theorem zla {t : TF} {b : Bool} {r : Option (D × So)} (h1 : t σ S = some (b, S1)) (h2 : iteK b (fa σ S1) (fb σ S1) = r) : eIf t fa fb σ S = r := by
 unfold eIf; rw [h1]; simp only [Option.bind_some]; exact h2
theorem zjs {b : Bool} (h1 : fa σ S = some (.bl b, S1)) : eNot fa σ S = some (.bl (!b), S1) := by unfold eNot; rw [h1]; rfl
theorem zgH {b : Bool} {r : Option (D × So)} (h1 : fa σ S = some (.bl b, S1)) (h2 : iteK b (fb σ S1) (some (.bl false, S1)) = r) : eAnd fa fb σ S = r := by
 unfold eAnd; rw [h1]; simp only [Option.bind_some]; cases b <;> exact h2
theorem zk8 {b : Bool} {r : Option (D × So)} (h1 : fa σ S = some (.bl b, S1)) (h2 : iteK b (some (.bl true, S1)) (fb σ S1) = r) : eOr fa fb σ S = r := by
 unfold eOr; rw [h1]; simp only [Option.bind_some]; cases b <;> exact h2
theorem zcs {b : Bool} (h1 : fa σ S = some (.bl b, S1)) : tBl fa σ S = some (b, S1) := by unfold tBl; rw [h1]; rfl
theorem ze2 {b : Bool} (h1 : fa σ S = some (x, S1)) (h2 : truD x S1 = some b) : tVal fa σ S = some (b, S1) := by unfold tVal; rw [h1]; simp only [Option.bind_some]; rw [h2]; rfl
theorem ze3 {t : TF} {b : Bool} (h1 : t σ S = some (b, S1)) : tNotF t σ S = some (!b, S1) := by unfold tNotF; rw [h1]; rfl
theorem zjn {t u : TF} {b : Bool} {r : Option (Bool × So)} (h1 : t σ S = some (b, S1)) (h2 : iteK b (u σ S1) (some (false, S1)) = r) : tAndF t u σ S = r := by
 unfold tAndF; rw [h1]; simp only [Option.bind_some]; exact h2
theorem zez {t u : TF} {b : Bool} {r : Option (Bool × So)} (h1 : t σ S = some (b, S1)) (h2 : iteK b (some (true, S1)) (u σ S1) = r) : tOrF t u σ S = r := by
 unfold tOrF; rw [h1]; simp only [Option.bind_some]; exact h2
theorem zaB : tTru σ S = some (true, S) := rfl
abbrev SR := Option (Fl × Sg × So)
def seqK (fl : Fl) (g : SF) (σ : Sg) (S : So) : SR := match fl with
 | .nx => g σ S
 | fl => some (fl, σ, S)
theorem zad {g : SF} {r : SR} (h : g σ S = r) : seqK .nx g σ S = r := h
theorem za2 {g : SF} : seqK (.rt z) g σ S = some (.rt z, σ, S) := rfl
theorem zir {g : SF} : seqK .bk g σ S = some (.bk, σ, S) := rfl
theorem ziq {g : SF} : seqK .ct g σ S = some (.ct, σ, S) := rfl
theorem zac {f g : SF} {fl : Fl} {r : SR} (h1 : f σ S = some (fl, σ1, S1)) (h2 : seqK fl g σ1 S1 = r) : sSeq f g σ S = r := by
 unfold sSeq; rw [h1]; simp only [Option.bind_some]; cases fl <;> exact h2
theorem zai : sPass σ S = some (.nx, σ, S) := rfl
theorem zjo : sCnt σ S = some (.ct, σ, S) := rfl
theorem zjp : sBrk σ S = some (.bk, σ, S) := rfl
theorem zhL : sRetN σ S = some (.rt .non, σ, S) := rfl
theorem za3 (h : fe σ S = some (x, S1)) : sRet fe σ S = some (.rt x, σ, S1) := by unfold sRet; rw [h]; rfl
theorem zbt (h : fe σ S = some (x, S1)) : sDrop fe σ S = some (.nx, σ, S1) := by unfold sDrop; rw [h]; rfl
theorem zah {g : GF} (h1 : fe σ S = some (x, S1)) (h2 : g x σ S1 = some (σ1, S2)) : sAsg fe g σ S = some (.nx, σ1, S2) := by unfold sAsg; rw [h1]; simp only [Option.bind_some]; rw [h2]; rfl
theorem zaM {t : TF} {f g : SF} {b : Bool} {r : SR} (h1 : t σ S = some (b, S1)) (h2 : iteK b (f σ S1) (g σ S1) = r) : sIf t f g σ S = r := by
 unfold sIf; rw [h1]; simp only [Option.bind_some]; exact h2
theorem zeG {i : Nat} (h : σ.set i (some d) = σ1) : gNm i d σ S = some (σ1, S) := by unfold gNm; rw [h]
theorem zk5 {n : Nat} {fr : GFs} {r : Option (Sg × So)} (h1 : ds.length = n) (h2 : fr ds σ S = r) : gTp n fr (.tup ds) σ S = r := by unfold gTp; simp only; rw [if_pos h1]; exact h2
theorem zhO : gsNil [] σ S = some (σ, S) := rfl
theorem zgF {f : GF} {fr : GFs} {r : Option (Sg × So)} (h1 : f d σ S = some (σ1, S1)) (h2 : fr ds σ1 S1 = r) : gsCons f fr (d :: ds) σ S = r := by unfold gsCons; simp only; rw [h1]; exact h2
theorem zdM {fi : EF} (h1 : fo σ S = some (x, S1)) (h2 : fi σ S1 = some (y, S2)) {S3 : So} (h3 : gSet x y d S2 = some S3) : gSt fo fi d σ S = some (σ, S3) := by
 unfold gSt; rw [h1]; simp only [Option.bind_some]; rw [h2]; simp only [Option.bind_some]; rw [h3]; rfl
theorem zgG {n : Nat} {i : Int} {j : Nat} (h1 : S[n]? = some (.lst xs)) (h2 : ixN xs.length i = some j) {S3 : So} (h3 : S.set n (.lst (xs.set j d)) = S3) : gSet (.ref n) (.int i) d S = some S3 := by
 unfold gSet; simp only; rw [h1]; simp only; rw [h2]; simp only [Option.map_some]; rw [h3]
theorem zaE {i j : Int} : gBin .Add (.int i) (.int j) S = some (.int (i + j), S) := rfl
theorem zjt {n m : Nat} {xs ys : List D} (h1 : S[n]? = some (.lst xs)) (h2 : S[m]? = some (.lst ys)) (h : xs.length + ys.length ≤ sizeLine) : gBin .Add (.ref n) (.ref m) S = some (.ref S.length, S ++ [.lst (xs ++ ys)]) := by
 unfold gBin gAdd; simp only; rw [h1, h2]; simp only; rw [if_pos h]
theorem zcU {i j : Int} : gBin .Sub (.int i) (.int j) S = some (.int (i - j), S) := rfl
theorem zaZ {i j : Int} (h : mulOk i j = true) : gBin .Mult (.int i) (.int j) S = some (.int (i * j), S) := by
 unfold gBin gMul; simp only; rw [if_pos h]
theorem zaN {i j : Int} (h : divOk j = true) : gBin .FloorDiv (.int i) (.int j) S = some (.int (i.fdiv j), S) := by
 unfold gBin gDiv; simp only; rw [if_pos h]
theorem zaC {i j : Int} (h : j ≠ 0) : gBin .Mod (.int i) (.int j) S = some (.int (i.fmod j), S) := by
 unfold gBin gMod; simp only; rw [if_pos h]
theorem zeA {i j : Int} : gCmp .Lt (.int i) (.int j) S = some (.bl (decide (i < j)), S) := rfl
theorem zeB {i j : Int} : gCmp .LtE (.int i) (.int j) S = some (.bl (decide (i ≤ j)), S) := rfl
theorem zeE {i j : Int} : gCmp .Gt (.int i) (.int j) S = some (.bl (decide (j < i)), S) := rfl
theorem zeF {i j : Int} : gCmp .GtE (.int i) (.int j) S = some (.bl (decide (j ≤ i)), S) := rfl
theorem zcX {i j : Int} : gCmp .Eq (.int i) (.int j) S = some (.bl (decide (i = j)), S) := rfl
theorem zdL {i j : Int} : gCmp .NotEq (.int i) (.int j) S = some (.bl (!decide (i = j)), S) := rfl
theorem zeD : gCmp .Is x .non S = some (.bl (isNon x), S) := by cases x <;> rfl
theorem zbB : gCmp .IsNot x .non S = some (.bl (!isNon x), S) := by cases x <;> rfl
theorem zdl {i : Int} : gNeg (.int i) S = some (.int (-i), S) := rfl
theorem zap {i : Int} (h : atI xs i = some z) : gIx (.tup xs) (.int i) S = some (z, S) := by unfold gIx; simp only; rw [h]; rfl
theorem zb0 {n : Nat} {i : Int} (h1 : S[n]? = some (.lst xs)) (h : atI xs i = some z) : gIx (.ref n) (.int i) S = some (z, S) := by unfold gIx; simp only; rw [h1]; simp only; rw [h]; rfl
theorem zcW {n : Nat} {i : Int} (h1 : S[n]? = some (.frz xs)) (h : atI xs i = some z) : gIx (.ref n) (.int i) S = some (z, S) := by unfold gIx; simp only; rw [h1]; simp only; rw [h]; rfl
theorem zci (h : ds.length ≤ sizeLine) : gTup ds S = some (.tup ds, S) := by unfold gTup; rw [if_pos h]
theorem zdn (h : ds.length ≤ sizeLine) : gLst ds S = some (.ref S.length, S ++ [.lst ds]) := by unfold gLst; rw [if_pos h]
theorem zct : gLen [.tup xs] S = some (.int xs.length, S) := rfl
theorem zbG {n : Nat} (h1 : S[n]? = some (.lst xs)) : gLen [.ref n] S = some (.int xs.length, S) := by unfold gLen; simp only; rw [h1]
theorem za9 {n : Nat} (h1 : S[n]? = some (.frz xs)) : gLen [.ref n] S = some (.int xs.length, S) := by unfold gLen; simp only; rw [h1]
theorem zau {n : Nat} (h1 : S[n]? = some (.lst xs)) : gTuple [.ref n] S = some (.tup xs, S) := by unfold gTuple; simp only; rw [h1]
theorem zaV {n : Nat} (h1 : S[n]? = some (.lst xs)) : gList [.ref n] S = some (.ref S.length, S ++ [.lst xs]) := by unfold gList; simp only; rw [h1]
theorem zbA : gList [.tup xs] S = some (.ref S.length, S ++ [.lst xs]) := rfl
theorem zb8 {i j : Int} : gMin' [.int i, .int j] S = some (.int (if j < i then j else i), S) := rfl
theorem zb9 {i j : Int} : gMax' [.int i, .int j] S = some (.int (if j > i then j else i), S) := rfl
theorem zbH {n : Nat} {bs : List Bool} (h1 : S[n]? = some (.lst xs)) (h2 : boolsD xs = some bs) : gAll [.ref n] S = some (.bl (bs.all id), S) := by unfold gAll; simp only; rw [h1]; simp only; rw [h2]; rfl
theorem zbw {n : Nat} {ns : List Int} {m : Int} (h1 : S[n]? = some (.lst xs)) (h2 : intsD xs = some ns) (h : minI ns = some m) : gMin' [.ref n] S = some (.int m, S) := by unfold gMin' gMin; simp only; rw [h1]; simp only; rw [h2]; simp only [Option.bind_some]; rw [h]; rfl
theorem zbz {n : Nat} {ns : List Int} {m : Int} (h1 : S[n]? = some (.lst xs)) (h2 : intsD xs = some ns) (h : maxI ns = some m) : gMax' [.ref n] S = some (.int m, S) := by unfold gMax' gMax; simp only; rw [h1]; simp only; rw [h2]; simp only [Option.bind_some]; rw [h]; rfl
theorem zbv {ns : List Int} {m : Int} (h2 : intsD xs = some ns) (h : minI ns = some m) : gMin' [.tup xs] S = some (.int m, S) := by unfold gMin'; simp only; rw [h2]; simp only [Option.bind_some]; rw [h]; rfl
theorem zby {ns : List Int} {m : Int} (h2 : intsD xs = some ns) (h : maxI ns = some m) : gMax' [.tup xs] S = some (.int m, S) := by unfold gMax'; simp only; rw [h2]; simp only [Option.bind_some]; rw [h]; rfl
theorem zbu {i j : Int} : gMin' [.tup [.int i, .int j]] S = some (.int (if j < i then j else i), S) := rfl
theorem zbx {i j : Int} : gMax' [.tup [.int i, .int j]] S = some (.int (if j > i then j else i), S) := rfl
theorem zcY {n : Nat} (h1 : S[n]? = some (.lst xs)) (h : xs.length < sizeLine) {S3 : So} (h3 : S.set n (.lst (xs ++ [d])) = S3) : gAppend (.ref n) [d] S = some (.non, S3) := by
 unfold gAppend; simp only; rw [h1]; simp only; rw [if_pos h, h3]
theorem zeH {g : GM} {n : Nat} {r : Option (D × So)} (h1 : fo σ S = some (.ref n, S1)) (h2 : S1[n]? = some (.lst xs)) (h3 : aa σ S1 = some (ds, S2)) (h4 : g (.ref n) ds S2 = r) : eM g fo aa σ S = r := by
 unfold eM; rw [h1]; simp only [Option.bind_some]; rw [h2]; simp only; rw [h3]; exact h4
theorem zk7 {fl fh : PF} {l h : Option Int} {S3 : So} {r : Option (D × So)} (h1 : fe σ S = some (x, S1)) (h2 : fl σ S1 = some (l, S2)) (h3 : fh σ S2 = some (h, S3)) (h4 : gSl x l h S3 = r) : eSl fe fl fh σ S = r := by
 unfold eSl; rw [h1]; simp only [Option.bind_some]; rw [h2]; simp only [Option.bind_some]; rw [h3]; exact h4
theorem zhN : pNone σ S = some (none, S) := rfl
theorem zhM {i : Int} (h : fe σ S = some (.int i, S1)) : pSome fe σ S = some (some i, S1) := by unfold pSome; rw [h]; rfl
theorem zk0 {l h : Option Int} {ys : List D} (hc : ¬ (HT.sIx xs.length 0 l = 0 ∧ HT.sIx xs.length xs.length h = xs.length)) (e : cutD xs l h = ys) : gSl (.tup xs) l h S = some (.tup ys, S) := by
 unfold gSl; simp only; rw [if_pos hc, e]
theorem zk1 {n : Nat} {l h : Option Int} {ys : List D} (h1 : S[n]? = some (.lst xs)) (e : cutD xs l h = ys) : gSl (.ref n) l h S = some (.ref S.length, S ++ [.lst ys]) := by
 unfold gSl; simp only; rw [h1]; simp only; rw [e]
theorem zfn : cutD (x :: xs) (some 1) none = xs := by
 unfold cutD
 have h1 : HT.sIx (x :: xs).length 0 (some 1) = 1 := by
   unfold HT.sIx
   simp
   try omega
 have h2 : HT.sIx (x :: xs).length (x :: xs).length none = (x :: xs).length := rfl
 rw [h1, h2]
 simp
theorem zfp : cutD (x :: xs) none (some 1) = [x] := by
 unfold cutD
 have h1 : HT.sIx (x :: xs).length (x :: xs).length (some 1) = 1 := by
   unfold HT.sIx
   simp
   try omega
 have h2 : HT.sIx (x :: xs).length 0 none = 0 := rfl
 rw [h1, h2]
 simp
theorem zdd {j : Int} (h1 : aa σ S = some ([.int j], S1)) (hb : -(2 ^ 62) ≤ j ∧ j < 2 ^ 62) : iRg1 aa σ S = some (.fix (rangeD 0 j.toNat), S1) := by
 unfold iRg1; rw [h1]; simp only [Option.bind_some]; rw [if_pos hb]
theorem zfk (h1 : fe σ S = some (.tup xs, S1)) : iVal fe σ S = some (.fix xs, S1) := by unfold iVal; rw [h1]; rfl
theorem zaW {n : Nat} (h1 : fe σ S = some (.ref n, S1)) (h2 : S1[n]? = some (.lst xs)) : iVal fe σ S = some (.lst n, S1) := by unfold iVal; rw [h1]; simp only [Option.bind_some]; rw [h2]
theorem zeC {fi : IF} {g : GF} {t : TF} {src : List (Option Nat)} {j : ItD} {n : Nat} {ys : List D} (h1 : fi σ S = some (j, S1)) (h2 : cntD j S1 = some n) (hn : n ≤ sizeLine) (hτ : srcD src σ = σ1) (h3 : lcN (nxD j) g t fe n 0 σ1 S1 [] = some (ys, S2)) : eLc fi g t fe src σ S = some (.ref S2.length, S2 ++ [.lst ys]) := by
 subst hτ; unfold eLc lcD; rw [h1]; simp only [Option.bind_some]; rw [h2]; simp only [Option.bind_some]; rw [if_pos hn, h3]; rfl
theorem zd4 {nx : Nat → So → Option (Option D)} {g : GF} {t : TF} {i : Nat} {acc : List D} (h : nx i S = some none) : lcN nx g t fe 0 i σ S acc = some (acc, S) := by unfold lcN; rw [h]
theorem za0 {nx : Nat → So → Option (Option D)} {g : GF} {t : TF} {k i : Nat} {acc acc' : List D} {r : Option (List D × So)} {S3 : So} (h : nx i S = some (some d)) (h1 : g d σ S = some (σ1, S1)) (h2 : t σ1 S1 = some (true, S2)) (h3 : fe σ1 S2 = some (x, S3)) (ha : acc ++ [x] = acc')
   (h4 : lcN nx g t fe k (i + 1) σ1 S3 acc' = r) : lcN nx g t fe (k + 1) i σ S acc = r := by
 unfold lcN; rw [h]; simp only; rw [h1]; simp only [Option.bind_some]; rw [h2]; simp only [Option.bind_some, if_true]; rw [h3]; rw [← ha] at h4; exact h4
theorem zcD {fi : IF} {g : GF} {f : SF} {j : ItD} {n : Nat} {r : SR} (h1 : fi σ S = some (j, S1)) (h2 : cntD j S1 = some n) (h3 : forN (nxD j) g f n 0 σ S1 = r) : sFor fi g f σ S = r := by
 unfold sFor; rw [h1]; simp only [Option.bind_some]; rw [h2]; exact h3
theorem zde {nx : Nat → So → Option (Option D)} {g : GF} {f : SF} {i : Nat} (h : nx i S = some none) : forN nx g f 0 i σ S = some (.nx, σ, S) := by unfold forN; rw [h]
def forK (fl : Fl) (nx : Nat → So → Option (Option D)) (g : GF) (f : SF) (k i : Nat) (σ : Sg) (S : So) : SR := match fl with
 | .nx => forN nx g f k i σ S
 | .ct => forN nx g f k i σ S
 | .bk => some (.nx, σ, S)
 | .rt d => some (.rt d, σ, S)
theorem zay {nx : Nat → So → Option (Option D)} {g : GF} {f : SF} {k i : Nat} {fl : Fl} {σ2 : Sg} {r : SR} (h : nx i S = some (some d)) (h1 : g d σ S = some (σ1, S1)) (h2 : f σ1 S1 = some (fl, σ2, S2)) (h3 : forK fl nx g f k (i + 1) σ2 S2 = r) : forN nx g f (k + 1) i σ S = r := by
 unfold forN; rw [h]; simp only; rw [h1]; simp only [Option.bind_some]; rw [h2]; simp only [Option.bind_some]; cases fl <;> exact h3
theorem zax {nx : Nat → So → Option (Option D)} {g : GF} {f : SF} {k i : Nat} {r : SR} (h : forN nx g f k i σ S = r) : forK .nx nx g f k i σ S = r := h
theorem zjk {nx : Nat → So → Option (Option D)} {g : GF} {f : SF} {k i : Nat} {r : SR} (h : forN nx g f k i σ S = r) : forK .ct nx g f k i σ S = r := h
theorem zjj {nx : Nat → So → Option (Option D)} {g : GF} {f : SF} {k i : Nat} : forK (.rt z) nx g f k i σ S = some (.rt z, σ, S) := rfl
theorem zjl {nx : Nat → So → Option (Option D)} {g : GF} {f : SF} {k i : Nat} : forK .bk nx g f k i σ S = some (.nx, σ, S) := rfl
theorem zfh {i : Nat} (h : xs[i]? = some d) : nxD (.fix xs) i S = some (some d) := by show some xs[i]? = _; rw [h]
theorem zaY {n i : Nat} (h1 : S[n]? = some (.lst xs)) (h : xs[i]? = some d) : nxD (.lst n) i S = some (some d) := by unfold nxD; simp only; rw [h1]; simp only; rw [h]
theorem zcC {n i : Nat} {lo : Int} {z : Int} (h : i < n) (hz : lo + (i : Nat) = z) : nxD (.fix (rangeD lo n)) i S = some (some (.int z)) := by
 unfold nxD; simp only; rw [zc7, if_pos h, hz]
theorem zaq {o : O} : (S ++ [o])[S.length]? = some o := by simp
theorem zaF {o p : O} {n : Nat} (h : S[n]? = some o) : (S ++ [p])[n]? = some o := by
 rw [List.getElem?_append_left (List.getElem?_eq_some_iff.mp h).1]; exact h
end
end MX
end
section
set_option autoImplicit false
namespace MX
open PySem L2
def pln : Nat → D → Bool
 | _, .non => true
 | _, .int _ => true
 | _, .str x => PyData.strOk x
 | n + 1, .tup xs => xs.all (pln n)
 | _, _ => false
def pyD : Nat → D → PyData
 | _, .int i => .int i
 | _, .str x => .str x
 | n + 1, .tup xs => .tuple (xs.map (pyD n))
 | _, _ => .none
theorem zd8 {f : D → Option PyData} {g : D → PyData} : ∀ {xs : List D}, (∀ d ∈ xs, f d = some (g d)) → toPl f xs = some (xs.map g)
 | [], _ => rfl
 | d :: r, h => by
   unfold toPl
   rw [h d List.mem_cons_self, zd8 (xs := r) fun e he => h e (List.mem_cons_of_mem _ he)]
   rfl
theorem zdA {S : So} : ∀ {n : Nat} {d : D}, pln n d = true → toP S (n + 1) d = some (pyD n d)
 | n, .non, _ => by simp [toP]; cases n <;> rfl
 | n, .int i, _ => by simp [toP]; cases n <;> rfl
 | n, .str x, _ => by simp [toP]; cases n <;> rfl
 | n + 1, .tup xs, h => by
   unfold pln at h
   rw [List.all_eq_true] at h
   unfold toP
   rw [zd8 fun d hd => zdA (h d hd)]
   rfl
 | 0, .tup xs, h => by simp [pln] at h
 | _, .bl _, h => by simp [pln] at h
 | _, .ref _, h => by simp [pln] at h
 | _, .ty _, h => by simp [pln] at h
 | _, .adr _, h => by simp [pln] at h
theorem zcP {S : So} : ∀ {n m : Nat} {d : D} {p : PyData}, toP S n d = some p → n ≤ m → toP S m d = some p
 | 0, _, _, _, h, _ => by simp [toP] at h
 | n + 1, 0, _, _, _, hm => by omega
 | n + 1, m + 1, d, p, h, hm => by
   have aux : ∀ {xs : List D} {ps : List PyData}, toPl (toP S n) xs = some ps → toPl (toP S m) xs = some ps := fun {xs} => by
     induction xs with
     | nil => intro ps e; exact e
     | cons x r ih =>
       intro ps e
       simp only [toPl, Option.bind_eq_some_iff, Option.map_eq_some_iff] at e ⊢
       obtain ⟨q, e1, qs, e2, e3⟩ := e
       exact ⟨q, zcP e1 (by omega), qs, ih e2, e3⟩
   cases d with
   | tup xs =>
     simp only [toP, Option.map_eq_some_iff] at h ⊢
     obtain ⟨ps, e1, e2⟩ := h
     exact ⟨ps, aux e1, e2⟩
   | ref k =>
     simp only [toP] at h ⊢
     split at h
     · rename_i q
       simp only [Option.map_eq_some_iff] at h ⊢
       obtain ⟨ps, e1, e2⟩ := h
       exact ⟨ps, aux e1, e2⟩
     · rename_i q
       simp only [Option.map_eq_some_iff] at h ⊢
       obtain ⟨ps, e1, e2⟩ := h
       exact ⟨ps, aux e1, e2⟩
     · cases h
   | non => simpa [toP] using h
   | bl b => simpa [toP] using h
   | int i => simpa [toP] using h
   | str x => simpa [toP] using h
   | ty x => simp [toP] at h
   | adr x => simp [toP] at h
theorem canAll {ps : List PyData} (h : ∀ p ∈ ps, PyData.canLay0 p = true) : PyData.canLayAll0 ps = true := by
 induction ps with
 | nil => rfl
 | cons p r ih => unfold PyData.canLayAll0; rw [h p List.mem_cons_self, ih fun q hq => h q (List.mem_cons_of_mem _ hq)]; rfl
theorem depAll {ps : List PyData} {n : Nat} (h : ∀ p ∈ ps, PyData.depth p ≤ n) : PyData.depthAll ps ≤ n := by
 induction ps with
 | nil => exact Nat.zero_le _
 | cons p r ih => unfold PyData.depthAll; exact Nat.max_le.mpr ⟨h p List.mem_cons_self, ih fun q hq => h q (List.mem_cons_of_mem _ hq)⟩
theorem zes : ∀ {n : Nat} {d : D}, pln n d = true → PyData.canLay0 (pyD n d) = true ∧ PyData.depth (pyD n d) ≤ n
 | n, .non, _ => by cases n <;> exact ⟨rfl, Nat.zero_le _⟩
 | n, .int i, _ => by cases n <;> exact ⟨rfl, Nat.zero_le _⟩
 | n, .str x, h => by
   have h' : PyData.strOk x = true := by cases n <;> simpa [pln] using h
   cases n <;> exact ⟨h', Nat.zero_le _⟩
 | n + 1, .tup xs, h => by
   unfold pln at h
   rw [List.all_eq_true] at h
   constructor
   · show PyData.canLayAll0 (xs.map (pyD n)) = true
     refine canAll fun p hp => ?_
     obtain ⟨d, hd, rfl⟩ := List.mem_map.mp hp
     exact (zes (h d hd)).1
   · show PyData.depthAll (xs.map (pyD n)) + 1 ≤ n + 1
     refine Nat.succ_le_succ (depAll fun p hp => ?_)
     obtain ⟨d, hd, rfl⟩ := List.mem_map.mp hp
     exact (zes (h d hd)).2
 | 0, .tup xs, h => by simp [pln] at h
 | _, .bl _, h => by simp [pln] at h
 | _, .ref _, h => by simp [pln] at h
 | _, .ty _, h => by simp [pln] at h
 | _, .adr _, h => by simp [pln] at h
theorem zd0 {n : Nat} {d : D} (h : pln n d = true) (hn : n ≤ 64) : SeqAt.shaped (pyD n d) = true := by
 unfold SeqAt.shaped
 obtain ⟨a, b⟩ := zes h
 rw [a, Bool.true_and]
 exact decide_eq_true (by omega)
theorem zgK {f : D → PyData} {xs : List D} : ∀ {ys : List D}, (∀ x ∈ xs, ∀ y ∈ ys, (PyData.eqv (f x) (f y) = true ↔ x = y)) → (PyData.eqvAll (xs.map f) (ys.map f) = true ↔ xs = ys) := by
 induction xs with
 | nil => intro ys h; cases ys <;> simp [PyData.eqvAll]
 | cons x r ih =>
   intro ys h
   cases ys with
   | nil => simp [PyData.eqvAll]
   | cons y s =>
     simp only [List.map_cons, PyData.eqvAll, Bool.and_eq_true, List.cons.injEq]
     rw [h x List.mem_cons_self y List.mem_cons_self, ih fun a ha b hb => h a (List.mem_cons_of_mem _ ha) b (List.mem_cons_of_mem _ hb)]
theorem zgJ : ∀ {n : Nat} {x y : D}, pln n x = true → pln n y = true → (PyData.eqv (pyD n x) (pyD n y) = true ↔ x = y) := by
 intro n
 induction n with
 | zero =>
   intro x y hx hy
   cases x <;> cases y <;> simp_all [pln, pyD, PyData.eqv]
 | succ n ih =>
   intro x y hx hy
   cases x <;> cases y <;> simp_all [pln, pyD, PyData.eqv]
   exact zgK fun a ha b hb => ih (hx a ha) (hy b hb)
open Classical in
theorem zgL {S : So} {x y : D} (n : Nat) (hx : pln n x = true) (hy : pln n y = true) (hn : n ≤ 23 := by decide) : eqD S x y = some (decide (x = y)) := by
 unfold eqD
 rw [zcP (zdA hx) (by omega), zcP (zdA hy) (by omega)]
 simp only [Option.bind_some]
 rw [if_pos ⟨zd0 hx (by omega), zd0 hy (by omega)⟩]
 congr 1
 rw [Bool.eq_iff_iff, zgJ hx hy, decide_eq_true_eq]
open Classical in
theorem zgM {S : So} {n m : Nat} {xs ys : List D} (k : Nat) (h1 : S[n]? = some (.lst xs) ∨ S[n]? = some (.frz xs)) (h2 : S[m]? = some (.lst ys) ∨ S[m]? = some (.frz ys)) (hx : ∀ x ∈ xs, pln k x = true) (hy : ∀ y ∈ ys, pln k y = true) (hk : k ≤ 20 := by decide) :
   eqD S (.ref n) (.ref m) = some (decide (xs = ys)) := by
 have e1 : toP S (k + 2) (.ref n) = some (.list (xs.map (pyD k))) := by
   unfold toP
   rcases h1 with h1 | h1 <;> (rw [h1]; simp only; rw [zd8 fun d hd => zdA (hx d hd)]; rfl)
 have e2 : toP S (k + 2) (.ref m) = some (.list (ys.map (pyD k))) := by
   unfold toP
   rcases h2 with h2 | h2 <;> (rw [h2]; simp only; rw [zd8 fun d hd => zdA (hy d hd)]; rfl)
 have sh : ∀ zs : List D, (∀ z ∈ zs, pln k z = true) → SeqAt.shaped (.list (zs.map (pyD k))) = true := fun zs hz => by
   unfold SeqAt.shaped
   rw [Bool.and_eq_true]
   constructor
   · show PyData.canLayAll0 _ = true
     refine canAll fun p hp => ?_
     obtain ⟨d, hd, rfl⟩ := List.mem_map.mp hp
     exact (zes (hz d hd)).1
   · refine decide_eq_true ?_
     show PyData.depthAll _ + 1 ≤ 64
     have : PyData.depthAll (zs.map (pyD k)) ≤ k := depAll fun p hp => by
       obtain ⟨d, hd, rfl⟩ := List.mem_map.mp hp
       exact (zes (hz d hd)).2
     omega
 unfold eqD
 rw [zcP e1 (by omega), zcP e2 (by omega)]
 simp only [Option.bind_some]
 rw [if_pos ⟨sh xs hx, sh ys hy⟩]
 congr 1
 rw [Bool.eq_iff_iff, decide_eq_true_eq]
 show PyData.eqvAll _ _ = true ↔ _
 exact zgK fun a ha b hb => zgJ (hx a ha) (hy b hb)
section
variable {S : So} {x y : D}
def nInt : D → D → Bool
 | .int _, .int _ => false
 | _, _ => true
open Classical in
theorem zdo (h : nInt x y = true) (n : Nat) (hx : pln n x = true) (hy : pln n y = true) (hn : n ≤ 23) : gCmp .Eq x y S = some (.bl (decide (x = y)), S) := by
 have e : gCmp .Eq x y S = (eqD S x y).map fun b => (.bl b, S) := by cases x <;> cases y <;> first | rfl | cases h
 rw [e, zgL n hx hy hn]; rfl
open Classical in
theorem zdm (h : nInt x y = true) (n : Nat) (hx : pln n x = true) (hy : pln n y = true) (hn : n ≤ 23) : gCmp .NotEq x y S = some (.bl (!decide (x = y)), S) := by
 have e : gCmp .NotEq x y S = (eqD S x y).map fun b => (.bl (!b), S) := by cases x <;> cases y <;> first | rfl | cases h
 rw [e, zgL n hx hy hn]; rfl
open Classical in
theorem zk6 {n m : Nat} {xs ys : List D} (k : Nat) (h1 : S[n]? = some (.lst xs) ∨ S[n]? = some (.frz xs)) (h2 : S[m]? = some (.lst ys) ∨ S[m]? = some (.frz ys)) (hx : ∀ x ∈ xs, pln k x = true) (hy : ∀ y ∈ ys, pln k y = true) (hk : k ≤ 20) :
   gCmp .Eq (.ref n) (.ref m) S = some (.bl (decide (xs = ys)), S) := by
 show (eqD S (.ref n) (.ref m)).map _ = _
 rw [zgM k h1 h2 hx hy hk]; rfl
open Classical in
theorem zk3 {n m : Nat} {xs ys : List D} (k : Nat) (h1 : S[n]? = some (.lst xs) ∨ S[n]? = some (.frz xs)) (h2 : S[m]? = some (.lst ys) ∨ S[m]? = some (.frz ys)) (hx : ∀ x ∈ xs, pln k x = true) (hy : ∀ y ∈ ys, pln k y = true) (hk : k ≤ 20) :
   gCmp .NotEq (.ref n) (.ref m) S = some (.bl (!decide (xs = ys)), S) := by
 show (eqD S (.ref n) (.ref m)).map _ = _
 rw [zgM k h1 h2 hx hy hk]; rfl
end
end MX
end
section
set_option autoImplicit false
namespace MX
open PySem L2
open Builtin.Int (intBits)
def Bd (k : Nat) (x : Int) : Prop := x.natAbs < 2 ^ k
theorem Bd.le {k l : Nat} {x : Int} (h : Bd k x) (hl : k ≤ l) : Bd l x := Nat.lt_of_lt_of_le h (Nat.pow_le_pow_right (by decide) hl)
theorem Bd.add {k l : Nat} {x y : Int} (h : Bd k x) (g : Bd l y) : Bd (max k l + 1) (x + y) := by
 have h1 := h.le (Nat.le_max_left k l)
 have h2 := g.le (Nat.le_max_right k l)
 unfold Bd at *
 rw [Nat.pow_succ]
 have := Int.natAbs_add_le x y
 omega
theorem Bd.neg {k : Nat} {x : Int} (h : Bd k x) : Bd k (-x) := by unfold Bd at *; rw [Int.natAbs_neg]; exact h
theorem Bd.sub {k l : Nat} {x y : Int} (h : Bd k x) (g : Bd l y) : Bd (max k l + 1) (x - y) := by
 rw [Int.sub_eq_add_neg]; exact h.add g.neg
theorem Bd.mul {k l : Nat} {x y : Int} (h : Bd k x) (g : Bd l y) : Bd (k + l) (x * y) := by
 unfold Bd at *
 rw [Int.natAbs_mul, Nat.pow_add]
 exact Nat.mul_lt_mul'' h g
theorem Bd.lit (x : Int) : Bd (intBits x) x := by
 unfold Bd intBits
 split
 · rename_i h
   have : x = 0 := by simpa using h
   subst this; decide
 · exact Nat.lt_log2_self
theorem Bd.fmod {m x : Int} (h : 0 < m) : Bd (intBits m) (x.fmod m) := by
 have h1 := Int.fmod_nonneg_of_pos x h
 have h2 := Int.fmod_lt_of_pos x h
 have h3 := Bd.lit m
 unfold Bd at *
 omega
theorem zcV {i j : Int} {S : So} (h : 0 ≤ j ∧ j ≤ 1000000 ∧ i.natAbs < 2 ^ 64) : gBin .LShift (.int i) (.int j) S = some (.int (i * 2 ^ j.toNat), S) := by
 unfold gBin gShl; simp only; rw [if_pos h]
theorem Bd.bits {k : Nat} {x : Int} (h : Bd k x) : intBits x ≤ k := by
 unfold Bd at h
 unfold intBits
 split
 · exact Nat.zero_le _
 · rename_i hn
   have hx : x.natAbs ≠ 0 := fun e => hn (by have := Int.natAbs_eq_zero.mp e; subst this; rfl)
   exact (Nat.log2_lt hx).mpr h
theorem zaT {k l : Nat} {x y : Int} (h : Bd k x) (g : Bd l y) (hl : k + l ≤ 134217728) : mulOk x y = true := by
 unfold mulOk
 have h1 := h.bits
 have h2 := g.bits
 rw [Bool.or_eq_true]
 exact .inr (decide_eq_true (by omega))
theorem zgf {x y : Int} (h : intBits y ≤ 64) : mulOk x y = true := by
 unfold mulOk
 rw [Bool.or_eq_true, Bool.or_eq_true]
 exact .inl (.inr (decide_eq_true h))
theorem zgg {x y : Int} (h : intBits x ≤ 64) : mulOk x y = true := by
 unfold mulOk
 rw [Bool.or_eq_true, Bool.or_eq_true]
 exact .inl (.inl (decide_eq_true h))
theorem zhR {k : Nat} {y : Int} (h : Bd k y) (h0 : y ≠ 0) (hl : k ≤ 8000) : divOk y = true := by
 unfold divOk
 have := h.bits
 rw [Bool.and_eq_true]
 exact ⟨decide_eq_true h0, decide_eq_true (by omega)⟩
abbrev P3 (x y z : Int) : D := .tup [.int x, .int y, .int z]
abbrev R2 (x y : Int) : D := .tup [.int x, .int y]
end MX
namespace MX
open PySem L2
theorem D.lo_mono : ∀ {d : D} {n m : Nat}, n ≤ m → D.lo n d = true → D.lo m d = true := by
 have key : ∀ (k : Nat) (d : D) (n m : Nat), sizeOf d ≤ k → n ≤ m → D.lo n d = true → D.lo m d = true := by
   intro k
   induction k with
   | zero => intro d n m hk; cases d <;> simp at hk
   | succ k ih =>
     intro d n m hk hm h
     cases d with
     | tup xs =>
       rw [D.lo] at h ⊢
       have aux : ∀ ys : List D, sizeOf ys ≤ k → los n ys = true → los m ys = true := by
         intro ys
         induction ys with
         | nil => intro _ _; simp [los]
         | cons y r ihr =>
           intro hs hl
           rw [los, Bool.and_eq_true] at hl ⊢
           simp at hs
           exact ⟨ih y n m (by omega) hm hl.1, ihr (by omega) hl.2⟩
       exact aux xs (by simp at hk; omega) h
     | ref j => rw [D.lo] at h ⊢; exact decide_eq_true (Nat.lt_of_lt_of_le (of_decide_eq_true h) hm)
     | _ => simp [D.lo]
 exact fun {d n m} hm h => key (sizeOf d) d n m (Nat.le_refl _) hm h
theorem zbE {n : Nat} : ∀ {xs : List D}, los n xs = true ↔ ∀ x ∈ xs, D.lo n x = true
 | [] => by simp [los]
 | x :: r => by rw [los, Bool.and_eq_true, zbE (xs := r)]; simp
theorem zeg {n m : Nat} {xs : List D} (hm : n ≤ m) (h : los n xs = true) : los m xs = true := zbE.mpr fun x hx => D.lo_mono hm (zbE.mp h x hx)
theorem O.lo_mono {n m : Nat} {o : O} (hm : n ≤ m) (h : O.lo n o = true) : O.lo m o = true := by
 cases o with
 | lst xs => exact zeg hm h
 | frz xs => exact zeg hm h
 | ins C fs => exact zeg hm h
 | dct xs => rfl
theorem WF.snoc {S : So} {o : O} (h : WF S) (ho : O.lo S.length o = true) : WF (S ++ [o]) := fun p hp => by
 rw [List.length_append, List.length_singleton]
 rcases List.mem_append.mp hp with hp | hp
 · exact O.lo_mono (Nat.le_succ _) (h p hp)
 · rw [List.mem_singleton.mp hp]; exact O.lo_mono (Nat.le_succ _) ho
theorem zeZ (n : Nat) (ns : List Int) : O.lo n (.lst (ns.map .int)) = true := zbE.mpr fun x hx => by
 obtain ⟨i, _, rfl⟩ := List.mem_map.mp hx
 simp [D.lo]
def Gr (S S' : So) : Prop := (∃ G, S' = S ++ G) ∧ WF S'
theorem Gr.refl {S : So} (h : WF S) : Gr S S := ⟨⟨[], by simp⟩, h⟩
theorem Gr.trans {S S1 S2 : So} (a : Gr S S1) (b : Gr S1 S2) : Gr S S2 := by
 obtain ⟨⟨G, rfl⟩, _⟩ := a
 obtain ⟨⟨G', rfl⟩, h⟩ := b
 exact ⟨⟨G ++ G', by simp⟩, h⟩
theorem Gr.snoc {S S1 : So} {o : O} (a : Gr S S1) (ho : O.lo S1.length o = true) : Gr S (S1 ++ [o]) := by
 obtain ⟨⟨G, rfl⟩, h⟩ := a
 exact ⟨⟨G ++ [o], by simp⟩, h.snoc ho⟩
theorem Gr.old {S S1 : So} (a : Gr S S1) {n : Nat} {o : O} (h : S[n]? = some o) : S1[n]? = some o := by
 obtain ⟨⟨G, rfl⟩, _⟩ := a
 rw [List.getElem?_append_left (List.getElem?_eq_some_iff.mp h).1]; exact h
theorem Gr.take {S S1 : So} (a : Gr S S1) : S1.take S.length = S := by
 obtain ⟨⟨G, rfl⟩, _⟩ := a
 simp
end MX
namespace MX.P
open PySem L2 MX
abbrev Pt := Int × Int × Int
abbrev pD (p : Pt) : D := P3 p.1 p.2.1 p.2.2
theorem lo_pts (n : Nat) (pts : List Pt) : O.lo n (.lst (pts.map pD)) = true := zbE.mpr fun x hx => by
 obtain ⟨i, _, rfl⟩ := List.mem_map.mp hx
 simp [D.lo, los]
end MX.P
end
open MX
local macro_rules | `(tactic| wtm_at "mx dec") => `(tactic| first | rfl | assumption | exact zds (by first | assumption | rfl | omega) | exact ze4 (by first | assumption | omega) | (simp only [Bool.not_eq_true', Bool.not_eq_false', Bool.not_true, Bool.not_false, decide_eq_true_eq, decide_eq_false_iff_not, isNon]; first | assumption | omega))
local macro_rules | `(tactic| wtm_at "mx so") => `(tactic| first | assumption | exact zaq | (apply zaF; wtm_at "mx so"))
local macro_rules | `(tactic| wtm_at "mx bdr") => `(tactic| first | assumption | ((with_reducible apply Bd.mul); (focus wtm_at "mx bdr"); (focus wtm_at "mx bdr")) | ((with_reducible apply Bd.add); (focus wtm_at "mx bdr"); (focus wtm_at "mx bdr")) | ((with_reducible apply Bd.sub); (focus wtm_at "mx bdr"); (focus wtm_at "mx bdr")) | ((with_reducible apply Bd.neg); wtm_at "mx bdr") | ((with_reducible apply Bd.fmod); decide) | ((with_reducible apply Bd.fmodV); (focus first | assumption | decide); (focus wtm_at "mx bdr")) | ((with_reducible apply Bd.fdiv); (focus wtm_at "mx bdr"); (focus first | decide | assumption | omega)) | exact Bd.lit _)
local macro_rules | `(tactic| wtm_at "mx bd") => `(tactic| (apply Bd.le; (focus wtm_at "mx bdr"); (focus first | decide | (simp only [Nat.reduceAdd, Nat.reduceMax, Nat.max_self]; omega))))
local macro_rules | `(tactic| wtm_at "mx side") => `(tactic| first | assumption | rfl | wtm_at "mx so" | (refine zgf (by decide)) | (refine zgg (by decide)) | (apply zaT; (focus wtm_at "mx bdr"); (focus wtm_at "mx bdr"); (focus first | decide | omega)) | wtm_at "mx bd" | decide | omega)
local macro_rules | `(tactic| wtm_at "mx wf") => `(tactic| first | assumption | ((with_reducible apply WF.snoc); (focus wtm_at "mx wf"); (focus first | exact zeZ _ _ | assumption | rfl)))
local macro_rules | `(tactic| wtm_at "mx op") => `(tactic| first
 | (with_reducible exact zaE) | (with_reducible exact zcU) | (with_reducible exact zeA) | (with_reducible exact zeB) | (with_reducible exact zeE) | (with_reducible exact zeF) | (with_reducible exact zcX) | (with_reducible exact zdL) | (with_reducible exact zeD) | (with_reducible exact zbB) | (with_reducible exact zdl)
 | ((with_reducible apply zaZ); wtm_at "mx side") | ((with_reducible apply zaC); wtm_at "mx side") | ((with_reducible apply zaN); first | decide | wtm_at "mx side") | ((with_reducible apply zcV); decide)
 | ((with_reducible apply zap); first | (with_reducible assumption) | rfl) | ((with_reducible apply zb0); (focus wtm_at "mx so"); (focus first | (with_reducible assumption) | rfl)) | ((with_reducible apply zcW); (focus wtm_at "mx so"); (focus first | (with_reducible assumption) | rfl))
 | (refine zdo ?_ 8 ?_ ?_ ?_ <;> first | decide +kernel | rfl | decide) | (refine zdm ?_ 8 ?_ ?_ ?_ <;> first | decide +kernel | rfl | decide))
local macro_rules | `(tactic| wtm_at "mx fn") => `(tactic| first
 | ((with_reducible apply zci); exact Nat.le_of_ble_eq_true rfl) | ((with_reducible apply zdn); exact Nat.le_of_ble_eq_true rfl) | (with_reducible exact zct) | (with_reducible exact zbu) | (with_reducible exact zbx) | (with_reducible exact zb8) | (with_reducible exact zb9) | (with_reducible exact ev_abs) | (with_reducible exact zbA)
 | ((with_reducible apply zbG); wtm_at "mx so") | ((with_reducible apply za9); wtm_at "mx so") | ((with_reducible apply zau); wtm_at "mx so") | ((with_reducible apply zaV); wtm_at "mx so")
 | ((with_reducible apply zbH); (focus wtm_at "mx so"); (focus rfl)) | ((with_reducible apply zbw); (focus wtm_at "mx so"); (focus rfl); (focus rfl)) | ((with_reducible apply zbz); (focus wtm_at "mx so"); (focus rfl); (focus rfl)) | ((with_reducible apply zbv); (focus rfl); (focus rfl)) | ((with_reducible apply zby); (focus rfl); (focus rfl))
 | ((with_reducible apply zag); (focus rfl); (focus wtm_at "mx call")))
local macro_rules | `(tactic| wtm_at "mx decq") => `(tactic| first | rfl | (with_reducible assumption) | exact zds (by with_reducible assumption) | exact ze4 (by with_reducible assumption) | exact zds rfl)
local macro_rules | `(tactic| wtm_at "mx ite") => `(tactic| first | (apply zcm; (focus wtm_at "mx decq"); wtm_at "mx ev") | (apply za8; (focus wtm_at "mx decq"); wtm_at "mx ev") | (apply zcm; (focus wtm_at "mx dec"); wtm_at "mx ev") | (apply za8; (focus wtm_at "mx dec"); wtm_at "mx ev"))
local macro_rules | `(tactic| wtm_at "mx set") => `(tactic| first | (simp only [List.set_cons_zero, List.set_cons_succ, List.set]; done) | (simp only [List.set_cons_zero, List.set_cons_succ, List.set]; rfl) | rfl)
local macro_rules | `(tactic| wtm_at "mx tg") => `(tactic| first
 | ((with_reducible apply zeG); wtm_at "mx set")
 | ((with_reducible apply zk5); (focus rfl); (focus wtm_at "mx tg"))
 | ((with_reducible apply zgF); (focus wtm_at "mx tg"); (focus wtm_at "mx tg"))
 | (with_reducible exact zhO))
local macro_rules | `(tactic| wtm_at "mx ev") => `(tactic| first
 | (with_reducible exact zal) | ((with_reducible apply zaa); rfl)
 | ((with_reducible apply zaf); (focus wtm_at "mx ev"); (focus wtm_at "mx ev"); (focus wtm_at "mx op"))
 | ((with_reducible apply zao); (focus wtm_at "mx ev"); (focus wtm_at "mx fn"))
 | ((with_reducible apply zab); (focus wtm_at "mx ev"); (focus wtm_at "mx ev")) | (with_reducible exact zae)
 | ((with_reducible apply zac); (focus wtm_at "mx ev"); (focus wtm_at "mx seq"))
 | ((with_reducible apply za3); wtm_at "mx ev") | (with_reducible exact zai) | (with_reducible exact zhL) | (with_reducible exact zjo) | (with_reducible exact zjp)
 | ((with_reducible apply zah); (focus wtm_at "mx ev"); (focus wtm_at "mx tg"))
 | ((with_reducible apply zaM); (focus wtm_at "mx ev"); (focus wtm_at "mx ite"))
 | ((with_reducible apply zbt); wtm_at "mx ev")
 | ((with_reducible apply zcs); wtm_at "mx ev") | ((with_reducible apply ze3); wtm_at "mx ev")
 | ((with_reducible apply zjn); (focus wtm_at "mx ev"); (focus wtm_at "mx ite")) | ((with_reducible apply zez); (focus wtm_at "mx ev"); (focus wtm_at "mx ite"))
 | ((with_reducible apply ze2); (focus wtm_at "mx ev"); (focus rfl))
 | ((with_reducible apply zlO); (focus wtm_at "mx ev"); (focus wtm_at "mx op"))
 | ((with_reducible apply zjs); wtm_at "mx ev")
 | ((with_reducible apply zgH); (focus wtm_at "mx ev"); (focus wtm_at "mx ite")) | ((with_reducible apply zk8); (focus wtm_at "mx ev"); (focus wtm_at "mx ite"))
 | ((with_reducible apply zla); (focus wtm_at "mx ev"); (focus wtm_at "mx ite"))
 | ((with_reducible apply zk7); (focus wtm_at "mx ev"); (focus wtm_at "mx ev"); (focus wtm_at "mx ev"); (focus wtm_at "mx sl")) | (with_reducible exact zhN) | ((with_reducible apply zhM); wtm_at "mx ev")
 | ((with_reducible apply zeC); (focus wtm_at "mx it"); (focus rfl); (focus exact Nat.le_of_ble_eq_true rfl); (focus simp only [srcD, List.map_cons, List.map_nil, Option.bind_some, Option.bind_none, List.getElem?_cons_zero, List.getElem?_cons_succ, Option.join_some]; rfl); (focus wtm_at "mx lc"))
 | ((with_reducible apply zcD); (focus wtm_at "mx it"); (focus rfl); (focus wtm_at "mx for"))
 | (with_reducible exact zaB)
 | exact rfl)
local macro_rules | `(tactic| wtm_at "mx it") => `(tactic| first | ((with_reducible apply zdd); (focus wtm_at "mx ev"); (focus decide)) | ((with_reducible apply zfk); wtm_at "mx ev") | ((with_reducible apply ev_iZip); (focus wtm_at "mx ev"); (focus exact ⟨Nat.le_of_ble_eq_true rfl, Nat.le_of_ble_eq_true rfl⟩); (focus rfl)) | ((with_reducible apply zaW); (focus wtm_at "mx ev"); (focus wtm_at "mx so")))
local macro_rules | `(tactic| wtm_at "mx lc") => `(tactic| first | (apply za0; (focus wtm_at "mx nx"); (focus wtm_at "mx tg"); (focus wtm_at "mx ev"); (focus wtm_at "mx ev"); (focus simp only [List.nil_append, List.cons_append]; rfl); (focus wtm_at "mx lc")) | (apply zd4; rfl))
local macro_rules | `(tactic| wtm_at "mx ge") => `(tactic| first | (simp only [List.getElem?_cons_zero, List.getElem?_cons_succ]; done) | (simp only [List.getElem?_cons_zero, List.getElem?_cons_succ]; rfl) | rfl)
local macro_rules | `(tactic| wtm_at "mx nx") => `(tactic| first | ((with_reducible apply zcC); (focus decide); (focus first | (simp; rfl) | rfl)) | ((with_reducible apply zfh); wtm_at "mx ge") | ((with_reducible apply zaY); (focus wtm_at "mx so"); (focus wtm_at "mx ge")) | rfl)
local macro_rules | `(tactic| wtm_at "mx for") => `(tactic| first | (apply zay; (focus wtm_at "mx nx"); (focus wtm_at "mx tg"); (focus wtm_at "mx ev"); (focus wtm_at "mx fork")) | (apply zde; rfl))
local macro_rules | `(tactic| wtm_at "mx fork") => `(tactic| first | (with_reducible exact zjj) | (with_reducible exact zjl) | ((with_reducible apply zax); wtm_at "mx for") | ((with_reducible apply zjk); wtm_at "mx for"))
local macro_rules | `(tactic| wtm_at "mx sl") => `(tactic| first | ((with_reducible apply zk0); (focus exact of_decide_eq_false rfl); (focus first | exact zfn | exact zfp)) | ((with_reducible apply zk1); (focus wtm_at "mx so"); (focus first | exact zfn | exact zfp | rfl)))
local macro_rules | `(tactic| wtm_at "mx seq") => `(tactic| first | exact za2 | ((with_reducible apply zad); wtm_at "mx ev") | (with_reducible exact zir) | (with_reducible exact ziq))
local macro_rules | `(tactic| wtm_at "mx st") => `(tactic| simp only [stD, List.map_cons, List.map_nil, List.length_cons, List.length_nil, Nat.reduceAdd, Nat.reduceSub, Nat.zero_add, Nat.sub_self, List.replicate, List.cons_append, List.nil_append, List.append_nil])
local macro_rules | `(tactic| wtm_at "mx take") => `(tactic| first | exact List.take_length | simp [List.take_append])
local macro_rules | `(tactic| wtm_at "mx gr") => `(tactic| first | assumption | (apply Gr.refl; wtm_at "mx wf") | ((with_reducible apply Gr.snoc); (focus wtm_at "mx gr"); (focus first | exact zeZ _ _ | exact MX.P.lo_pts _ _ | rfl | assumption)))
section
set_option autoImplicit false
namespace MX.P
open PySem L2 MX
theorem zdS (a b c d e f : Int) (S : So) : zcT [P3 a b c, P3 d e f] S = some (P3 (d - a) (e - b) (f - c), S) := by
 refine zak (σ' := [some (P3 a b c), some (P3 d e f)]) (S' := S) ?_ (by simp) rfl
 show zcc [some (P3 a b c), some (P3 d e f)] S = _
 unfold zcc
 wtm_at "mx ev"
theorem zjV {k l : Nat} {a b c d e f : Int} (ha : Bd k a) (hb : Bd k b) (hc : Bd k c) (hd : Bd l d) (he : Bd l e) (hf : Bd l f) (hk : k + l ≤ 134217728) (S : So) : zhK [P3 a b c, P3 d e f] S = some (.int (a * d + b * e + c * f), S) := by
 refine zak (σ' := [some (P3 a b c), some (P3 d e f)]) (S' := S) ?_ (by simp) rfl
 show zhW [some (P3 a b c), some (P3 d e f)] S = _
 unfold zhW
 wtm_at "mx ev"
theorem zg6 {k l : Nat} {a b c d e f : Int} (ha : Bd k a) (hb : Bd k b) (hc : Bd k c) (hd : Bd l d) (he : Bd l e) (hf : Bd l f) (hk : k + l ≤ 134217728) (S : So) : zek [P3 a b c, P3 d e f] S = some (P3 (b * f - c * e) (c * d - a * f) (a * e - b * d), S) := by
 refine zak (σ' := [some (P3 a b c), some (P3 d e f)]) (S' := S) ?_ (by simp) rfl
 show zen [some (P3 a b c), some (P3 d e f)] S = _
 unfold zen
 wtm_at "mx ev"
def drawnI (c k : Int) : Int := (((c * 6364136223846793005 + (k + 1) * 1442695040888963407).fmod 340282366920938463463374607431768211507) * ((c * 6364136223846793005 + (k + 1) * 1442695040888963407).fmod 340282366920938463463374607431768211507)).fmod 340282366920938463463374607431768211297
theorem sp_drawn (c k : Int) (S : So) : zcr [.int c, .int k] S = some (.int (drawnI c k), S) := by
 refine zak (σ' := [some (.int c), some (.int k), some (.int ((c * 6364136223846793005 + (k + 1) * 1442695040888963407).fmod 340282366920938463463374607431768211507))]) (S' := S) ?_ (by simp) rfl
 show zbC [some (.int c), some (.int k), none] S = _
 unfold zbC
 wtm_at "mx ev"
end MX.P
end
section
set_option autoImplicit false
local macro_rules | `(tactic| wtm_at "mx call") => `(tactic| exact MX.P.sp_drawn _ _ _)
namespace MX.P
open PySem L2 MX
def cellI (ns : List Int) (k : Int) : Int := if ns = [] then k * 7919 else (ns[(k.fmod ns.length).toNat]?.getD 0) + k.fdiv ns.length * 104729
theorem plnInts (k : Nat) (ns : List Int) : ∀ x ∈ ns.map D.int, pln k x = true := fun x hx => by
 obtain ⟨n, _, rfl⟩ := List.mem_map.mp hx
 cases k <;> rfl
theorem zij {ns : List Int} (hn : ns.length ≤ 63) (k : Int) {S : So} (h : S[0]? = some (.frz (ns.map .int))) : zcH [.ref 0, .int k] S = some (.int (cellI ns k), S) := by
 have e1 : tBl (eB (gCmp .Eq) (eVar 0) (eN gLst (aNil))) [some (.ref 0), some (.int k)] S = some (decide (ns.map D.int = []), S ++ [.lst []]) := by
   apply zcs
   apply zaf
   · wtm_at "mx ev"
   · wtm_at "mx ev"
   · rw [zk6 0 (.inr (zaF h)) (.inl zaq) (plnInts 0 ns) (by simp) (by decide)]
 by_cases hz : ns = []
 · apply zak
   · wtm_at "mx st"
     unfold zch
     apply zac
     · apply zaM
       · exact e1
       · apply zcm
         · simp [hz]
         · wtm_at "mx ev"
     · have : cellI ns k = k * 7919 := by unfold cellI; rw [if_pos hz]
       rw [this]
       wtm_at "mx seq"
   · simp
   · rfl
 · have hl : 0 < ns.length := List.length_pos_iff.mpr hz
   have hl' : (0 : Int) < ((ns.map D.int).length : Int) := by simp; omega
   have h1 := Int.fmod_nonneg_of_pos k hl'
   have h2 := Int.fmod_lt_of_pos k hl'
   have hb : Bd 7 ((ns.map D.int).length : Int) := by unfold Bd; simp; omega
   have e2 : atI (ns.map D.int) (k.fmod ((ns.map D.int).length : Int)) = some (.int (ns[(k.fmod ns.length).toNat]?.getD 0)) := by
     unfold atI ixN
     rw [if_pos h1, if_pos h2]
     simp only [List.length_map] at h2 h1 ⊢
     simp only [Option.bind_some, List.getElem?_map]
     have : (k.fmod (ns.length : Int)).toNat < ns.length := by omega
     rw [List.getElem?_eq_getElem this]
     rfl
   apply zak
   · wtm_at "mx st"
     unfold zch
     apply zac
     · apply zaM
       · exact e1
       · apply za8
         · simp [hz]
         · wtm_at "mx ev"
     · apply zad
       apply zac
       · apply za3
         apply zaf
         · apply zaf
           · wtm_at "mx ev"
           · apply zaf
             · wtm_at "mx ev"
             · apply zao
               · wtm_at "mx ev"
               · exact za9 (zaF h)
             · exact zaC (by omega)
           · exact zcW (zaF h) e2
         · apply zaf
           · apply zaf
             · wtm_at "mx ev"
             · apply zao
               · wtm_at "mx ev"
               · exact za9 (zaF h)
             · exact zaN (zhR hb (by omega) (by decide))
           · wtm_at "mx ev"
           · exact zaZ (zgf (by decide))
         · exact zaE
       · have : cellI ns k = (ns[(k.fmod ns.length).toNat]?.getD 0) + k.fdiv ((ns.map D.int).length : Int) * 104729 := by unfold cellI; rw [if_neg hz, List.length_map]
         rw [this]
         exact za2
   · simp
   · rfl
end MX.P
end
section
set_option autoImplicit false
local macro_rules | `(tactic| wtm_at "mx call") => `(tactic| (with_reducible assumption))
namespace MX.P
open PySem L2 MX
abbrev rD (p : Int × Int) : D := R2 p.1 p.2
end MX.P
end
section
set_option autoImplicit false
local macro_rules | `(tactic| wtm_at "mx call") => `(tactic| first | (with_reducible assumption) | ((with_reducible apply MX.P.sp_is_less); (focus with_reducible assumption); (focus with_reducible assumption); (focus with_reducible assumption); (focus with_reducible assumption); (focus omega)))
namespace MX.P
open PySem L2 MX
def BdP (k : Nat) (p : Pt) : Prop := Bd k p.1 ∧ Bd k p.2.1 ∧ Bd k p.2.2
theorem BdP.le {k l : Nat} {p : Pt} (h : BdP k p) (hl : k ≤ l) : BdP l p := ⟨h.1.le hl, h.2.1.le hl, h.2.2.le hl⟩
end MX.P
end
section
set_option autoImplicit false
local macro_rules | `(tactic| wtm_at "mx call") => `(tactic| (with_reducible assumption))
namespace MX.P
open PySem L2 MX
theorem zeW {S : So} {o o' : O} : (S ++ [o]).set S.length o' = S ++ [o'] := by
 rw [List.set_append_right _ _ (Nat.le_refl _)]
 simp
end MX.P
end
section
set_option autoImplicit false
namespace MX.P
open PySem L2 MX
theorem zkV : isiT "tuple" "tuple" = some true := by kernel_rfl
theorem zkW : isiT "int" "int" = some true := by kernel_rfl
theorem zkX : isiT "int" "bool" = some false := by kernel_rfl
theorem ev_isi_tup {xs : List D} {S : So} : gIsi [.tup xs, .ty "tuple"] S = some (.bl true, S) := by
 show ((some "tuple").bind fun t => (isiT t "tuple").map fun b => (D.bl b, S)) = _
 simp only [Option.bind_some, zkV, Option.map_some]
theorem ev_isi_int {i : Int} {S : So} : gIsi [.int i, .ty "int"] S = some (.bl true, S) := by
 show ((some "int").bind fun t => (isiT t "int").map fun b => (D.bl b, S)) = _
 simp only [Option.bind_some, zkW, Option.map_some]
theorem ev_isi_bool {i : Int} {S : So} : gIsi [.int i, .ty "bool"] S = some (.bl false, S) := by
 show ((some "int").bind fun t => (isiT t "bool").map fun b => (D.bl b, S)) = _
 simp only [Option.bind_some, zkX, Option.map_some]
end MX.P
local macro_rules | `(tactic| wtm_at "mx call") => `(tactic| (with_reducible assumption))
local macro_rules | `(tactic| wtm_at "mx fn") => `(tactic| first | (with_reducible exact MX.P.ev_isi_tup) | (with_reducible exact MX.P.ev_isi_int) | (with_reducible exact MX.P.ev_isi_bool))
namespace MX.P
theorem zg3 (i : Int) (S : So) : zco [.int i] S = some (.bl true, S) := by
 apply zak
 · wtm_at "mx st"
   unfold zcv
   wtm_at "mx ev"
 · wtm_at "mx take"
 · rfl
end MX.P
end
section
set_option autoImplicit false
namespace MX.P
open PySem L2 MX
def wb (a b : Pt) : Pt := (b.1 - a.1, b.2.1 - a.2.1, b.2.2 - a.2.2)
def vdot (a b : Pt) : Int := a.1 * b.1 + a.2.1 * b.2.1 + a.2.2 * b.2.2
def vcross (a b : Pt) : Pt := (a.2.1 * b.2.2 - a.2.2 * b.2.1, a.2.2 * b.1 - a.1 * b.2.2, a.1 * b.2.1 - a.2.1 * b.1)
theorem BdP.wb {k l : Nat} {a b : Pt} (ha : BdP k a) (hb : BdP l b) : BdP (max k l + 1) (wb a b) :=
 ⟨(hb.1.sub ha.1).le (by omega), (hb.2.1.sub ha.2.1).le (by omega), (hb.2.2.sub ha.2.2).le (by omega)⟩
theorem BdP.cross {k l : Nat} {a b : Pt} (ha : BdP k a) (hb : BdP l b) : BdP (k + l + 1) (vcross a b) :=
 ⟨((ha.2.1.mul hb.2.2).sub (ha.2.2.mul hb.2.1)).le (by omega), ((ha.2.2.mul hb.1).sub (ha.1.mul hb.2.2)).le (by omega), ((ha.1.mul hb.2.1).sub (ha.2.1.mul hb.1)).le (by omega)⟩
theorem BdP.dot {k l : Nat} {a b : Pt} (ha : BdP k a) (hb : BdP l b) : Bd (k + l + 2) (vdot a b) :=
 (((ha.1.mul hb.1).add (ha.2.1.mul hb.2.1)).add (ha.2.2.mul hb.2.2)).le (by omega)
theorem sp_wb (a b : Pt) (S : So) : zcT [pD a, pD b] S = some (pD (wb a b), S) := zdS _ _ _ _ _ _ _
theorem sp_vdot {k l : Nat} {a b : Pt} (ha : BdP k a) (hb : BdP l b) (h : k + l ≤ 134217728) (S : So) : zhK [pD a, pD b] S = some (.int (vdot a b), S) := zjV ha.1 ha.2.1 ha.2.2 hb.1 hb.2.1 hb.2.2 h S
theorem sp_vcross {k l : Nat} {a b : Pt} (ha : BdP k a) (hb : BdP l b) (h : k + l ≤ 134217728) (S : So) : zek [pD a, pD b] S = some (pD (vcross a b), S) := zg6 ha.1 ha.2.1 ha.2.2 hb.1 hb.2.1 hb.2.2 h S
end MX.P
local macro_rules | `(tactic| wtm_at "mx call") => `(tactic| first | (with_reducible exact MX.P.sp_wb _ _ _) | ((with_reducible apply MX.P.sp_vdot); (focus with_reducible assumption); (focus with_reducible assumption); (focus omega)) | ((with_reducible apply MX.P.sp_vcross); (focus with_reducible assumption); (focus with_reducible assumption); (focus omega)) | (with_reducible assumption))
namespace MX.P
open PySem L2 MX
end MX.P
end
section
set_option autoImplicit false
local macro_rules | `(tactic| wtm_at "mx call") => `(tactic| first | (with_reducible exact MX.P.sp_wb _ _ _) | ((with_reducible apply MX.P.sp_vdot); (focus with_reducible assumption); (focus with_reducible assumption); (focus omega)) | ((with_reducible apply MX.P.sp_vcross); (focus with_reducible assumption); (focus with_reducible assumption); (focus omega)) | (with_reducible assumption))
namespace MX.P
open PySem L2 MX
abbrev eL (a b c : Pt) : O := .lst [.tup [pD a, pD b], .tup [pD b, pD c], .tup [pD c, pD a]]
theorem zcb {n : Nat} {xs : List D} {S : So} (h : S[n]? = some (.lst xs)) : cntD (.lst n) S = some xs.length := by
 show (match S[n]? with | some (.lst xs) => some xs.length | some (.frz xs) => some xs.length | _ => none) = _
 rw [h]
theorem zdH {n i : Nat} {xs : List D} {S : So} (h : S[n]? = some (.lst xs)) (hi : xs[i]? = none) : nxD (.lst n) i S = some none := by unfold nxD; simp only; rw [h]; simp only; rw [hi]
theorem zeP {a b c : Pt} {S : So} (hS : WF S) : zdc [.tup [pD a, pD b, pD c]] S = some (.ref S.length, S ++ [eL a b c]) := by
 apply zcG
 · wtm_at "mx st"
   unfold zdg
   wtm_at "mx ev"
 · intro h; simp [D.lo] at h
 · simp
 · simp [D.lo]
 · exact hS.snoc rfl
end MX.P
end
section
set_option autoImplicit false
namespace MX.P
abbrev Tr := Pt × Pt × Pt
def trs (k : Nat) (lo hi : Pt) (f : Int) : List Tr := match k with
 | 0 => [((f, lo.2.1, lo.2.2), (f, hi.2.1, lo.2.2), (f, hi.2.1, hi.2.2)), ((f, lo.2.1, lo.2.2), (f, hi.2.1, hi.2.2), (f, lo.2.1, hi.2.2))]
 | 1 => [((lo.1, f, lo.2.2), (lo.1, f, hi.2.2), (hi.1, f, hi.2.2)), ((lo.1, f, lo.2.2), (hi.1, f, hi.2.2), (hi.1, f, lo.2.2))]
 | _ => [((lo.1, lo.2.1, f), (hi.1, lo.2.1, f), (hi.1, hi.2.1, f)), ((lo.1, lo.2.1, f), (hi.1, hi.2.1, f), (lo.1, hi.2.1, f))]
end MX.P
end
section
set_option autoImplicit false
namespace MX.P
def timeN (a b : Int) : Int × Int := if b < 0 then (0 - a, 0 - b) else (a, b)
end MX.P
end
section
set_option autoImplicit false
namespace MX.P
def det3 (a b c : Pt) : Int := vdot a (vcross b c)
def vol (p q r s : Pt) : Int := det3 (wb p q) (wb p r) (wb p s)
end MX.P
end
section
set_option autoImplicit false
namespace MX.P
def pK (p : Pt) : List Int := [p.1, p.2.1, p.2.2]
def eK (e : Pt × Pt) : NK := [pK e.1, pK e.2]
theorem zh2 {p q : Pt} (h : pK p = pK q) : p = q := by
 obtain ⟨a, b, c⟩ := p
 obtain ⟨d, e, f⟩ := q
 simp only [pK, List.cons.injEq, and_true] at h
 rw [h.1, h.2.1, h.2.2]
theorem zlb {p q : Pt × Pt} (h : eK p = eK q) : p = q := by
 simp only [eK, List.cons.injEq, and_true] at h
 exact Prod.ext (zh2 h.1) (zh2 h.2)
def swp (e : Pt × Pt) : Pt × Pt := (e.2, e.1)
def bump (xs : List (NK × Int)) (k : NK) : List (NK × Int) := putN xs k ((getO xs k).getD 0 + 1)
def cntN (L : List NK) : List (NK × Int) := L.foldl bump []
theorem zbX (x : NK × Int) (xs : List (NK × Int)) (j : NK) : getO (x :: xs) j = if x.1 = j then some x.2 else getO xs j := by
 unfold getO
 by_cases h : x.1 = j <;> simp [h]
theorem zgy (xs : List (NK × Int)) (x : NK × Int) (j : NK) : getO (xs ++ [x]) j = (getO xs j).or (if x.1 = j then some x.2 else none) := by
 induction xs with
 | nil => rw [List.nil_append, zbX]; rfl
 | cons y r ih =>
   rw [List.cons_append, zbX, zbX, ih]
   by_cases h : y.1 = j
   · rw [if_pos h, if_pos h]; rfl
   · rw [if_neg h, if_neg h]
theorem zgz (xs : List (NK × Int)) (k : NK) (i : Int) (j : NK) : getO (xs.map fun x => if x.1 = k then (x.1, i) else x) j = if j = k then (getO xs j).map (fun _ => i) else getO xs j := by
 induction xs with
 | nil => by_cases h : j = k <;> simp [getO, h]
 | cons y r ih =>
   rw [List.map_cons, zbX, zbX, ih]
   by_cases h : y.1 = k
   · rw [if_pos h]
     by_cases h2 : y.1 = j
     · rw [if_pos h2, if_pos h2, if_pos (h2 ▸ h)]; rfl
     · rw [if_neg h2, if_neg h2]
   · rw [if_neg h]
     by_cases h2 : y.1 = j
     · rw [if_pos h2, if_pos h2, if_neg (fun z => h (h2.trans z))]
     · rw [if_neg h2, if_neg h2]
theorem zhI (xs : List (NK × Int)) (k : NK) (i : Int) (j : NK) : getO (putN xs k i) j = if j = k then some i else getO xs j := by
 unfold putN
 cases hk : getO xs k with
 | none =>
   rw [if_neg (by simp), zgy]
   by_cases h : j = k
   · subst h; rw [hk]; simp
   · rw [if_neg (fun z => h z.symm), if_neg h, Option.or_none]
 | some v =>
   rw [if_pos (by simp), zgz]
   by_cases h : j = k
   · subst h; rw [if_pos rfl, if_pos rfl, hk]; rfl
   · rw [if_neg h, if_neg h]
theorem zhT (L : List NK) : ∀ (xs : List (NK × Int)) (j : NK), (getO (L.foldl bump xs) j).getD 0 = (getO xs j).getD 0 + L.count j := by
 induction L with
 | nil => intro xs j; simp
 | cons k r ih =>
   intro xs j
   rw [List.foldl_cons, ih, bump, zhI, List.count_cons]
   by_cases h : j = k
   · subst h
     rw [if_pos rfl, if_pos (by simp)]
     simp only [Option.getD_some]
     omega
   · rw [if_neg h, if_neg (by simpa using fun z => h z.symm)]
     omega
theorem ze6 (L : List NK) (j : NK) : (getO (cntN L) j).getD 0 = L.count j := by
 unfold cntN
 rw [zhT]
 simp [getO]
theorem zhD {xs : List (NK × Int)} {k : NK} {i : Int} (h : (xs.map (·.1)).Nodup) : ((putN xs k i).map (·.1)).Nodup := by
 unfold putN
 cases hk : getO xs k with
 | none =>
   rw [if_neg (by simp), List.map_append, List.nodup_append]
   refine ⟨h, by simp, fun a ha b hb z => ?_⟩
   have hb' : b = k := by simpa using hb
   subst hb'
   obtain ⟨y, hy, e⟩ := List.mem_map.mp ha
   unfold getO at hk
   simp only [Option.map_eq_none_iff, List.find?_eq_none, decide_eq_true_eq] at hk
   exact hk y hy (e.trans z)
 | some v =>
   rw [if_pos (by simp)]
   have e : (xs.map fun x => if x.1 = k then (x.1, i) else x).map (·.1) = xs.map (·.1) := by
     rw [List.map_map]
     refine List.map_congr_left fun x _ => ?_
     show (if x.1 = k then (x.1, i) else x).1 = x.1
     split <;> rfl
   rw [e]; exact h
theorem zhE (L : List NK) : ∀ {xs : List (NK × Int)}, (xs.map (·.1)).Nodup → ((L.foldl bump xs).map (·.1)).Nodup := by
 induction L with
 | nil => intro xs h; exact h
 | cons k r ih => intro xs h; exact ih (zhD h)
theorem zjb {xs : List (NK × Int)} {k : NK} {i : Int} {x : NK × Int} (h : x ∈ putN xs k i) : x.1 = k ∨ x ∈ xs := by
 unfold putN at h
 split at h
 · obtain ⟨y, hy, rfl⟩ := List.mem_map.mp h
   split
   · rename_i e; exact .inl e
   · exact .inr hy
 · rcases List.mem_append.mp h with h | h
   · exact .inr h
   · exact .inl (by rw [List.mem_singleton.mp h])
theorem zjc (L : List NK) : ∀ {xs : List (NK × Int)} {x : NK × Int}, x ∈ L.foldl bump xs → x.1 ∈ L ∨ x ∈ xs := by
 induction L with
 | nil => intro xs x h; exact .inr h
 | cons k r ih =>
   intro xs x h
   rcases ih (show x ∈ r.foldl bump (bump xs k) from h) with h | h
   · exact .inl (List.mem_cons_of_mem _ h)
   · rcases zjb h with h | h
     · exact .inl (h ▸ List.mem_cons_self)
     · exact .inr h
theorem zkJ {xs : List (NK × Int)} (h : (xs.map (·.1)).Nodup) {x : NK × Int} (hx : x ∈ xs) : getO xs x.1 = some x.2 := by
 induction xs with
 | nil => cases hx
 | cons y r ih =>
   rw [List.map_cons, List.nodup_cons] at h
   rw [zbX]
   rcases List.mem_cons.mp hx with rfl | hx
   · rw [if_pos rfl]
   · have : y.1 ≠ x.1 := fun z => h.1 (z ▸ List.mem_map.mpr ⟨x, hx, rfl⟩)
     rw [if_neg this]; exact ih h.2 hx
theorem ze0 (L : List NK) : ∀ {xs : List (NK × Int)}, (L.foldl bump xs).length ≤ xs.length + L.length := by
 induction L with
 | nil => intro xs; simp
 | cons k r ih =>
   intro xs
   have h1 : (bump xs k).length ≤ xs.length + 1 := by
     unfold bump putN
     split <;> simp
   have := ih (xs := bump xs k)
   rw [List.foldl_cons, List.length_cons]
   omega
theorem zdx (E : List (Pt × Pt)) (e : Pt × Pt) : (E.map eK).count (eK e) = E.count e := by
 induction E with
 | nil => rfl
 | cons x r ih =>
   rw [List.map_cons, List.count_cons, List.count_cons, ih]
   by_cases h : x = e
   · subst h; simp
   · rw [if_neg (by simpa using fun z => h (zlb z)), if_neg (by simpa using h)]
def Closed (E : List (Pt × Pt)) : Prop := ∀ e, E.count e = E.count (swp e)
theorem zeI (E : List (Pt × Pt)) (e : Pt × Pt) : (E.map swp).count e = E.count (swp e) := by
 induction E with
 | nil => rfl
 | cons x r ih =>
   rw [List.map_cons, List.count_cons, List.count_cons, ih]
   by_cases h : x = swp e
   · subst h; simp [swp]
   · rw [if_neg (by simpa using fun z => h (by rw [← z]; rfl)), if_neg (by simpa using h)]
def edE (t : Tr) : List (Pt × Pt) := [(t.1, t.2.1), (t.2.1, t.2.2), (t.2.2, t.1)]
def edL (ts : List Tr) : List (Pt × Pt) := ts.flatMap edE
end MX.P
end
section
set_option autoImplicit false
namespace MX.P
open PySem L2 MX
section
variable {σ σ1 : Sg} {S S1 S2 : So} {fo : EF} {aa : AF}
theorem zgI {n : Nat} {xs ys : List (NK × Int)} {kd : D} {kk : NK} {i : Int} (h1 : fo σ S = some (.ref n, S1)) (h2 : S1[n]? = some (.dct xs)) (h3 : aa σ S1 = some ([kd, .int i], S2)) (h4 : S2[n]? = some (.dct ys)) (h5 : nkOf kd = some kk) : eDM gDGet fo aa σ S = some (.int ((getO ys kk).getD i), S2) := by
 unfold eDM
 rw [h1]; simp only [Option.bind_some]; rw [h2]; simp only; rw [h3]; simp only [Option.bind_some]
 unfold gDGet
 simp only; rw [h4]; simp only; rw [h5]; rfl
theorem zhP {n : Nat} {xs : List (NK × Int)} {ks : List D} {j : Int} {kk : NK} (h1 : S[n]? = some (.dct xs)) (h2 : xs.length < sizeLine) (h3 : nkRows ks = some kk) : gSet (.ref n) (.tup ks) (.int j) S = some (S.set n (.dct (putN xs kk j))) := by
 unfold gSet
 simp only; rw [h1]; simp only; rw [if_pos h2, h3]; rfl
theorem zgE {n : Nat} {xs : List (NK × Int)} (h1 : fo σ S = some (.ref n, S1)) (h2 : S1[n]? = some (.dct xs)) : iItems fo σ S = some (.itm n xs.length, S1) := by
 unfold iItems; rw [h1]; simp only [Option.bind_some]; rw [h2]
theorem zjx {n : Nat} {xs : List (NK × Int)} (h : S[n]? = some (.dct xs)) : cntD (.itm n xs.length) S = some xs.length := by
 unfold cntD; simp only; rw [h]; simp only; rw [if_pos trivial]
theorem zkI {n : Nat} {xs : List (NK × Int)} (h : S[n]? = some (.dct xs)) (i : Nat) : nxD (.itm n xs.length) i S = some (xs.map fun x => D.tup [kD x.1, .int x.2])[i]? := by
 unfold nxD; simp only; rw [h]; simp only; rw [if_pos trivial, List.getElem?_map]
end
theorem _root_.MX.Gr.set {S T : So} (g : Gr S T) {m : Nat} (hm : S.length ≤ m) {o : O} (ho : O.lo T.length o = true) : Gr S (T.set m o) := by
 obtain ⟨⟨G, rfl⟩, h⟩ := g
 refine ⟨⟨G.set (m - S.length) o, by rw [List.set_append_right _ _ hm]⟩, fun p hp => ?_⟩
 rw [List.length_set]
 rcases List.mem_or_eq_of_mem_set hp with hp | rfl
 · exact h p hp
 · exact ho
def eD (e : Pt × Pt) : D := .tup [pD e.1, pD e.2]
theorem zlK (e : Pt × Pt) : nkRows [pD e.1, pD e.2] = some (eK e) := rfl
theorem zlL (e : Pt × Pt) : kD (eK e) = eD e := rfl
def trT (t : Tr) : D := .tup [pD t.1, pD t.2.1, pD t.2.2]
end MX.P
end
section
set_option autoImplicit false
local macro_rules | `(tactic| wtm_at "mx call") => `(tactic| first | (with_reducible assumption))
namespace MX.P
open PySem L2 MX
theorem zb3 : 100000 ≤ sizeLine := by decide
theorem zfm {ts : List Tr} {i : Nat} {t : Tr} (h : ts[i]? = some t) : edL (ts.take (i + 1)) = edL (ts.take i) ++ edE t := by
 obtain ⟨h1, h2⟩ := List.getElem?_eq_some_iff.mp h
 have : ts.take (i + 1) = ts.take i ++ [t] := by rw [← h2]; simp
 rw [this]
 unfold edL
 rw [List.flatMap_append]
 simp
theorem zel (ts : List Tr) : (edL ts).length = 3 * ts.length := by
 induction ts with
 | nil => rfl
 | cons t r ih =>
   have : edL (t :: r) = edE t ++ edL r := rfl
   rw [this, List.length_append, ih, List.length_cons]
   show 3 + _ = _
   omega
theorem zgQ (L M : List NK) : cntN (L ++ M) = M.foldl bump (cntN L) := by unfold cntN; rw [List.foldl_append]
theorem zdf {x0 x1 : Option D} {m : Nat} {e : Pt × Pt} {xs : List (NK × Int)} {T : So} (h : T[m]? = some (.dct xs)) (hl : xs.length < 100000) :
   zaQ [x0, some (.ref m), x1, some (eD e)] T = some (.nx, [x0, some (.ref m), x1, some (eD e)], T.set m (.dct (bump xs (eK e)))) := by
 unfold zaQ zbh
 refine zac (zah (zaf (zgI (kd := eD e) (kk := eK e) (zaa rfl) h (zab (zaa rfl) (zab zal zae)) h rfl) zal zaE) (zdM (zaa rfl) (zaa rfl) (zhP h (Nat.lt_of_lt_of_le hl zb3) (zlK e)))) (zad zai)
theorem zfN {n m : Nat} {x2 : Option D} {t : Tr} {xs : List (NK × Int)} {S T : So} (g : Gr S T) (hm : S.length ≤ m) (h : T[m]? = some (.dct xs)) (hl : xs.length + 3 < 100000) :
   ∃ T', zaX [some (.ref n), some (.ref m), some (trT t), x2] T = some (.nx, [some (.ref n), some (.ref m), some (trT t), some (eD (t.2.2, t.1))], T') ∧ Gr S T' ∧ T'[m]? = some (.dct (((edE t).map eK).foldl bump xs)) := by
 obtain ⟨a, b, c⟩ := t
 have ml : m < T.length := (List.getElem?_eq_some_iff.mp h).1
 have ed := zeP (a := a) (b := b) (c := c) g.2
 have g0 : Gr S (T ++ [eL a b c]) := g.snoc rfl
 have h0 : (T ++ [eL a b c])[m]? = some (.dct xs) := zaF h
 have n0 : (T ++ [eL a b c])[T.length]? = some (eL a b c) := zaq
 have l0 : (T ++ [eL a b c]).length = T.length + 1 := by simp
 generalize T ++ [eL a b c] = T0 at *
 have nx : ∀ (U : So) (o : O), U[T.length]? = some (eL a b c) → (U.set m o)[T.length]? = some (eL a b c) := fun U o q => by rw [List.getElem?_set_ne (Nat.ne_of_lt ml)]; exact q
 have at' : ∀ (U : So) (o : O), U.length = T.length + 1 → (U.set m o)[m]? = some o ∧ (U.set m o).length = T.length + 1 := fun U o q => ⟨List.getElem?_set_self (by omega), by rw [List.length_set]; exact q⟩
 have len : ∀ (ys : List (NK × Int)) (k : NK), (bump ys k).length ≤ ys.length + 1 := fun ys k => by
   have := ze0 [k] (xs := ys)
   simpa using this
 have b1 := zdf (x0 := some (.ref n)) (x1 := some (trT (a, b, c))) (e := (a, b)) h0 (by omega)
 obtain ⟨h1, l1⟩ := at' T0 (.dct (bump xs (eK (a, b)))) l0
 have n1 := nx T0 (.dct (bump xs (eK (a, b)))) n0
 have g1 := g0.set hm (o := .dct (bump xs (eK (a, b)))) rfl
 have k1 := len xs (eK (a, b))
 generalize T0.set m (.dct (bump xs (eK (a, b)))) = T1 at *
 have b2 := zdf (x0 := some (.ref n)) (x1 := some (trT (a, b, c))) (e := (b, c)) h1 (by omega)
 obtain ⟨h2, l2⟩ := at' T1 (.dct (bump (bump xs (eK (a, b))) (eK (b, c)))) l1
 have n2 := nx T1 (.dct (bump (bump xs (eK (a, b))) (eK (b, c)))) n1
 have g2 := g1.set hm (o := .dct (bump (bump xs (eK (a, b))) (eK (b, c)))) rfl
 have k2 := len (bump xs (eK (a, b))) (eK (b, c))
 generalize T1.set m (.dct (bump (bump xs (eK (a, b))) (eK (b, c)))) = T2 at *
 have b3 := zdf (x0 := some (.ref n)) (x1 := some (trT (a, b, c))) (e := (c, a)) h2 (by omega)
 obtain ⟨h3, l3⟩ := at' T2 (.dct (bump (bump (bump xs (eK (a, b))) (eK (b, c))) (eK (c, a)))) l2
 have n3 := nx T2 (.dct (bump (bump (bump xs (eK (a, b))) (eK (b, c))) (eK (c, a)))) n2
 have g3 := g2.set hm (o := .dct (bump (bump (bump xs (eK (a, b))) (eK (b, c))) (eK (c, a)))) rfl
 generalize T2.set m (.dct (bump (bump (bump xs (eK (a, b))) (eK (b, c))) (eK (c, a)))) = T3 at *
 refine ⟨T3, ?_, g3, h3⟩
 unfold zaX zcj
 refine zac (zcD (j := .lst T.length) (n := 3) (S1 := T0) (zaW (zao (zab (zaa rfl) zae) (zag rfl ed)) n0) (zcb n0) ?_) (zad zai)
 exact zay (zaY n0 rfl) rfl b1 (zax (zay (zaY n1 rfl) rfl b2 (zax (zay (zaY n2 rfl) rfl b3 (zax (zde (zdH n3 rfl)))))))
end MX.P
end
section
set_option autoImplicit false
local macro_rules | `(tactic| wtm_at "mx call") => `(tactic| (with_reducible assumption))
namespace MX.P
open PySem L2 MX
theorem zdP {α : Type} (f : α → Bool) : ∀ l : List α, boolsD (l.map fun x => D.bl (f x)) = some (l.map f)
 | [] => rfl
 | x :: r => by
   have e : boolsD (D.bl (f x) :: r.map fun x => D.bl (f x)) = (boolsD (r.map fun x => D.bl (f x))).map fun l => f x :: l := rfl
   show boolsD (D.bl (f x) :: r.map fun x => D.bl (f x)) = _
   rw [e, zdP f r]; rfl
theorem zeh {α : Type} (f : α → Int) : ∀ l : List α, intsD (l.map fun x => D.int (f x)) = some (l.map f)
 | [] => rfl
 | x :: r => by
   have e : intsD (D.int (f x) :: r.map fun x => D.int (f x)) = (intsD (r.map fun x => D.int (f x))).map fun l => f x :: l := rfl
   show intsD (D.int (f x) :: r.map fun x => D.int (f x)) = _
   rw [e, zeh f r]; rfl
end MX.P
end
section
set_option autoImplicit false
local macro_rules | `(tactic| wtm_at "mx call") => `(tactic| first | (with_reducible assumption))
namespace MX.P
open PySem L2 MX
theorem sp_lway (a b : Pt) (S : So) : zbY [pD a, pD b] S = some (pD (wb a b), S) := by
 apply zak
 · wtm_at "mx st"
   unfold zdh
   wtm_at "mx ev"
 · wtm_at "mx take"
 · rfl
theorem sp_time (a b : Int) (S : So) : ze1 [.int a, .int b] S = some (rD (timeN a b), S) := by
 unfold timeN
 by_cases h : b < 0
 · rw [if_pos h]
   apply zak
   · wtm_at "mx st"
     unfold zcJ
     wtm_at "mx ev"
   · wtm_at "mx take"
   · rfl
 · rw [if_neg h]
   apply zak
   · wtm_at "mx st"
     unfold zcJ
     wtm_at "mx ev"
   · wtm_at "mx take"
   · rfl
end MX.P
end
section
set_option autoImplicit false
local macro_rules | `(tactic| wtm_at "mx call") => `(tactic| first | (with_reducible assumption) | (with_reducible exact MX.P.sp_drawn _ _ _) | (with_reducible exact MX.P.sp_lway _ _ _) | (with_reducible exact MX.P.sp_time _ _ _))
namespace MX.P
open PySem L2 MX
theorem zeb {k l : Nat} {gs ss : List D} {i j x y u v : Int} {S : So} (e1 : atI gs i = some (.int x)) (e2 : atI gs j = some (.int y)) (e3 : atI ss i = some (.int u)) (e4 : atI ss j = some (.int v)) (bx : Bd k x) (by' : Bd k y) (bu : Bd l u) (bv : Bd l v) (hk : k + l ≤ 134217000) :
   zaA [.tup gs, .tup ss, .int i, .int j] S = some (.int (x * v - y * u), S) := by
 apply zak
 · wtm_at "mx st"
   unfold zcN
   wtm_at "mx ev"
 · wtm_at "mx take"
 · rfl
section
variable {k n : Nat} {R L g : Pt} {q W x y : Int} {p0 p2 p3 p4 p5 p9 p10 p14 : Option D} {S : So}
end
end MX.P
end
section
set_option autoImplicit false
namespace MX.P
open PySem L2 MX
theorem ev_pow {i j z : Int} {S : So} (h : 0 ≤ j ∧ j ≤ 1000000 ∧ i.natAbs < 2 ^ 64) (e : i ^ j.toNat = z) : gBin .Pow (.int i) (.int j) S = some (.int z, S) := by
 show gPow (.int i) (.int j) S = _
 unfold gPow
 simp only
 rw [if_pos h, e]
theorem ev_int {b : Bool} {S : So} : gInt [.bl b] S = some (.int (if b then 1 else 0), S) := rfl
theorem zjr {n m : Nat} {fr : GFs} {r : Option (Sg × So)} {xs : List D} {σ : Sg} {S : So} (h0 : S[m]? = some (.lst xs)) (h1 : xs.length = n) (h2 : fr xs σ S = r) : gTp n fr (.ref m) σ S = r := by
 unfold gTp; simp only; rw [h0]; simp only; rw [if_pos h1]; exact h2
theorem addLL {fa fb : EF} {σ : Sg} {S S1 S2 : So} {n m : Nat} {xs ys : List D} (h1 : fa σ S = some (.ref n, S1)) (h2 : fb σ S1 = some (.ref m, S2)) (hn : S2[n]? = some (.lst xs)) (hm : S2[m]? = some (.lst ys)) (hl : xs.length + ys.length ≤ 1000) :
   eB (gBin .Add) fa fb σ S = some (.ref S2.length, S2 ++ [.lst (xs ++ ys)]) := zaf h1 h2 (zjt hn hm (Nat.le_trans hl (Nat.le_trans (by decide) zb3)))
end MX.P
local macro_rules | `(tactic| wtm_at "mx op") => `(tactic| first
 | (with_reducible exact zaE) | ((with_reducible apply MX.P.ev_pow); (focus decide); (focus first | (simp only [Int.reduceToNat, Int.reducePow]; rfl) | rfl)) | (with_reducible exact zcU) | (with_reducible exact zeA) | (with_reducible exact zeB) | (with_reducible exact zeE) | (with_reducible exact zeF) | (with_reducible exact zcX) | (with_reducible exact zdL) | (with_reducible exact zeD) | (with_reducible exact zbB) | (with_reducible exact zdl)
 | ((with_reducible apply zaZ); wtm_at "mx side") | ((with_reducible apply zaC); wtm_at "mx side") | ((with_reducible apply zaN); first | decide | wtm_at "mx side") | ((with_reducible apply zcV); decide)
 | ((with_reducible apply zap); first | (with_reducible assumption) | rfl) | ((with_reducible apply zb0); (focus wtm_at "mx so"); (focus first | (with_reducible assumption) | rfl)) | ((with_reducible apply zcW); (focus wtm_at "mx so"); (focus first | (with_reducible assumption) | rfl))
 | (refine zdo ?_ 8 ?_ ?_ ?_ <;> first | decide +kernel | rfl | decide) | (refine zdm ?_ 8 ?_ ?_ ?_ <;> first | decide +kernel | rfl | decide))
local macro_rules | `(tactic| wtm_at "mx fn") => `(tactic| first
 | (with_reducible exact MX.P.ev_int) | ((with_reducible apply zci); exact Nat.le_of_ble_eq_true rfl) | ((with_reducible apply zdn); exact Nat.le_of_ble_eq_true rfl) | (with_reducible exact zct) | (with_reducible exact zbu) | (with_reducible exact zbx) | (with_reducible exact zb8) | (with_reducible exact zb9) | (with_reducible exact ev_abs) | (with_reducible exact zbA)
 | ((with_reducible apply zbG); wtm_at "mx so") | ((with_reducible apply za9); wtm_at "mx so") | ((with_reducible apply zau); wtm_at "mx so") | ((with_reducible apply zaV); wtm_at "mx so")
 | ((with_reducible apply zbH); (focus wtm_at "mx so"); (focus rfl)) | ((with_reducible apply zbw); (focus wtm_at "mx so"); (focus rfl); (focus rfl)) | ((with_reducible apply zbz); (focus wtm_at "mx so"); (focus rfl); (focus rfl)) | ((with_reducible apply zbv); (focus rfl); (focus rfl)) | ((with_reducible apply zby); (focus rfl); (focus rfl))
 | ((with_reducible apply zag); (focus rfl); (focus wtm_at "mx call")))
local macro_rules | `(tactic| wtm_at "mx call") => `(tactic| (with_reducible assumption))
namespace MX.P
open PySem L2 MX
def spotM (m : Int) : Pt := (m.fmod 9 - 4, (m.fdiv 9).fmod 9 - 4, (m.fdiv 81).fmod 9 - 4)
theorem zdB (m : Int) : BdP 5 (spotM m) := by
 have f : ∀ x : Int, Bd 5 (x.fmod 9 - 4) := fun x => by
   have h1 := Int.fmod_nonneg_of_pos x (show (0 : Int) < 9 by decide)
   have h2 := Int.fmod_lt_of_pos x (show (0 : Int) < 9 by decide)
   unfold Bd; omega
 exact ⟨f _, f _, f _⟩
theorem sp_spot (m : Int) (S : So) : zaI [.int m] S = some (pD (spotM m), S) := by
 apply zak
 · wtm_at "mx st"
   unfold zcK
   wtm_at "mx ev"
 · wtm_at "mx take"
 · rfl
theorem zea {p : Pt} (bp : BdP 10 p) (ce : Int) : ∃ q : Pt, BdP 70 q ∧ ∀ S, zaD [pD p, .int ce] S = some (pD q, S) := by
 obtain ⟨x, y, z⟩ := p
 obtain ⟨bx, by', bz⟩ := bp
 simp only at bx by' bz
 by_cases h3 : ce.fmod 3 = 0
 · refine ⟨(x, y, z), ⟨bx.le (by decide), by'.le (by decide), bz.le (by decide)⟩, fun S => ?_⟩
   apply zak
   · wtm_at "mx st"
     unfold za6
     wtm_at "mx ev"
   · wtm_at "mx take"
   · rfl
 · have bs : Bd 53 (1 + ce.fmod (1 * 2 ^ (50 : Int).toNat)) := by
     have h1 := Int.fmod_nonneg_of_pos ce (show (0 : Int) < 1 * 2 ^ (50 : Int).toNat by decide)
     have h2 := Int.fmod_lt_of_pos ce (show (0 : Int) < 1 * 2 ^ (50 : Int).toNat by decide)
     have e : (1 : Int) * 2 ^ (50 : Int).toNat = 1125899906842624 := by decide
     rw [e] at h1 h2
     rw [e]
     unfold Bd; omega
   refine ⟨(x * (1 + ce.fmod (1 * 2 ^ (50 : Int).toNat)) + ce.fmod 1000003, y * (1 + ce.fmod (1 * 2 ^ (50 : Int).toNat)) - ce.fmod 997, z * (1 + ce.fmod (1 * 2 ^ (50 : Int).toNat)) + 5), ⟨?_, ?_, ?_⟩, fun S => ?_⟩
   · exact ((bx.mul bs).add (Bd.fmod (m := 1000003) (by decide))).le (by decide)
   · exact ((by'.mul bs).sub (Bd.fmod (m := 997) (by decide))).le (by decide)
   · exact ((bz.mul bs).add (Bd.lit 5)).le (by decide)
   · have e1 : eB (gBin .Add) (eC (.int 1)) (eB (gBin .Mod) (eVar 1) (eB (gBin .LShift) (eC (.int 1)) (eC (.int 50)))) [some (P3 x y z), some (.int ce), none] S = some (.int (1 + ce.fmod (1 * 2 ^ (50 : Int).toNat)), S) := by
       wtm_at "mx ev"
     generalize 1 + ce.fmod (1 * 2 ^ (50 : Int).toNat) = s at *
     have e2 : eN gTup (aCons (eB (gBin .Add) (eB (gBin .Mult) (eB gIx (eVar 0) (eC (.int 0))) (eVar 2)) (eB (gBin .Mod) (eVar 1) (eC (.int 1000003)))) (aCons (eB (gBin .Sub) (eB (gBin .Mult) (eB gIx (eVar 0) (eC (.int 1))) (eVar 2)) (eB (gBin .Mod) (eVar 1) (eC (.int 997)))) (aCons (eB (gBin .Add) (eB (gBin .Mult) (eB gIx (eVar 0) (eC (.int 2))) (eVar 2)) (eC (.int 5))) (aNil)))) [some (P3 x y z), some (.int ce), some (.int s)] S = some (P3 (x * s + ce.fmod 1000003) (y * s - ce.fmod 997) (z * s + 5), S) := by
       wtm_at "mx ev"
     refine zak (σ' := [some (P3 x y z), some (.int ce), some (.int s)]) (S' := S) ?_ List.take_length rfl
     wtm_at "mx st"
     unfold za6
     have t : tBl (eB (gCmp .Eq) (eB (gBin .Mod) (eVar 1) (eC (.int 3))) (eC (.int 0))) [some (P3 x y z), some (.int ce), none] S = some (decide (ce.fmod 3 = 0), S) := by wtm_at "mx ev"
     rw [ze4 h3] at t
     exact zac (zaM t (za8 rfl zai)) (zad (zac (zah e1 rfl) (zad (zac (za3 e2) za2))))
theorem zh0 {k : Nat} {a b c : Pt} (ha : BdP k a) (hb : BdP k b) (hc : BdP k c) (hk : k ≤ 10000) (S : So) : zbZ [pD a, pD b, pD c] S = some (.int (det3 a b c), S) := by
 obtain ⟨a1, a2, a3⟩ := a
 obtain ⟨b1, b2, b3⟩ := b
 obtain ⟨c1, c2, c3⟩ := c
 obtain ⟨ba1, ba2, ba3⟩ := ha
 obtain ⟨bb1, bb2, bb3⟩ := hb
 obtain ⟨bc1, bc2, bc3⟩ := hc
 simp only at ba1 ba2 ba3 bb1 bb2 bb3 bc1 bc2 bc3
 have f1 : zaA [P3 b1 b2 b3, P3 c1 c2 c3, .int 1, .int 2] S = some (.int (b2 * c3 - b3 * c2), S) := zeb (k := k) (l := k) rfl rfl rfl rfl bb2 bb3 bc2 bc3 (by omega)
 have f2 : zaA [P3 b1 b2 b3, P3 c1 c2 c3, .int 2, .int 0] S = some (.int (b3 * c1 - b1 * c3), S) := zeb (k := k) (l := k) rfl rfl rfl rfl bb3 bb1 bc3 bc1 (by omega)
 have f3 : zaA [P3 b1 b2 b3, P3 c1 c2 c3, .int 0, .int 1] S = some (.int (b1 * c2 - b2 * c1), S) := zeb (k := k) (l := k) rfl rfl rfl rfl bb1 bb2 bc1 bc2 (by omega)
 have e : det3 (a1, a2, a3) (b1, b2, b3) (c1, c2, c3) = 0 + a1 * (b2 * c3 - b3 * c2) + a2 * (b3 * c1 - b1 * c3) + a3 * (b1 * c2 - b2 * c1) := by unfold det3 vdot vcross; simp only; omega
 rw [e]
 have turn : ∀ {x y w : Int} {i j l : Int}, mulOk x y = true → atI [D.int a1, .int a2, .int a3] i = some (.int x) → (i + 1).fmod 3 = j → (i + 2).fmod 3 = l → zaA [P3 b1 b2 b3, P3 c1 c2 c3, .int j, .int l] S = some (.int y, S) → sSeq (sAsg (eB (gBin .Add) (eVar 3) (eB (gBin .Mult) (eB gIx (eVar 0) (eVar 4)) (eN (nArgs 4 zaA) (aCons (eVar 1) (aCons (eVar 2) (aCons (eB (gBin .Mod) (eB (gBin .Add) (eVar 4) (eC (.int 1))) (eC (.int 3))) (aCons (eB (gBin .Mod) (eB (gBin .Add) (eVar 4) (eC (.int 2))) (eC (.int 3))) (aNil)))))))) (gNm 3)) (sPass) [some (P3 a1 a2 a3), some (P3 b1 b2 b3), some (P3 c1 c2 c3), some (.int w), some (.int i)] S = some (.nx, [some (P3 a1 a2 a3), some (P3 b1 b2 b3), some (P3 c1 c2 c3), some (.int (w + x * y)), some (.int i)], S) := fun hm hx hj hl hf => by
   subst hj hl
   exact zac (zah (zaf (zaa rfl) (zaf (zaf (zaa rfl) (zaa rfl) (zap hx)) (zao (zab (zaa rfl) (zab (zaa rfl) (zab (zaf (zaf (zaa rfl) zal zaE) zal (zaC (by decide))) (zab (zaf (zaf (zaa rfl) zal zaE) zal (zaC (by decide))) zae)))) (zag rfl hf)) (zaZ hm)) zaE) rfl) (zad zai)
 have m1 : Bd (2 * k + 2) (b2 * c3 - b3 * c2) := ((bb2.mul bc3).sub (bb3.mul bc2)).le (by omega)
 have m2 : Bd (2 * k + 2) (b3 * c1 - b1 * c3) := ((bb3.mul bc1).sub (bb1.mul bc3)).le (by omega)
 have m3 : Bd (2 * k + 2) (b1 * c2 - b2 * c1) := ((bb1.mul bc2).sub (bb2.mul bc1)).le (by omega)
 have t1 := turn (w := 0) (i := 0) (zaT ba1 m1 (by omega)) rfl rfl rfl f1
 have t2 := turn (w := 0 + a1 * (b2 * c3 - b3 * c2)) (i := 1) (zaT ba2 m2 (by omega)) rfl rfl rfl f2
 have t3 := turn (w := 0 + a1 * (b2 * c3 - b3 * c2) + a2 * (b3 * c1 - b1 * c3)) (i := 2) (zaT ba3 m3 (by omega)) rfl rfl rfl f3
 refine zak (σ' := [some (P3 a1 a2 a3), some (P3 b1 b2 b3), some (P3 c1 c2 c3), some (.int (0 + a1 * (b2 * c3 - b3 * c2) + a2 * (b3 * c1 - b1 * c3) + a3 * (b1 * c2 - b2 * c1))), some (.int 2)]) (S' := S) ?_ List.take_length rfl
 wtm_at "mx st"
 unfold zdi
 refine zac (zah zal rfl) (zad (zac (zcD (zdd (j := 3) (zab zal zae) (by decide)) (n := 3) rfl (zay (zcC (z := 0) (by decide) rfl) rfl t1 (zax (zay (zcC (z := 1) (by decide) rfl) rfl t2 (zax (zay (zcC (z := 2) (by decide) rfl) rfl t3 (zax (zde rfl)))))))) (zad (zac (za3 (zaa rfl)) za2))))
def fcs (a b c e : Pt) : List Tr := [(b, c, e), (a, e, c), (a, b, e), (a, c, b)]
theorem zg5 {a b c e : Pt} {n : Nat} {S : So} (hS : WF S) (hn : S[n]? = some (.lst [pD a, pD b, pD c, pD e])) : zcq [.ref n] S = some (.ref S.length, S ++ [.lst ((fcs a b c e).map trT)]) := by
 refine zcG (S := S) (σ' := [some (.ref n), some (pD a), some (pD b), some (pD c), some (pD e)]) (S' := S ++ [.lst ((fcs a b c e).map trT)]) ?_ (fun z => ?_) (by simp) ?_ (hS.snoc rfl)
 · wtm_at "mx st"
   unfold zcx
   exact zac (zah (zaa rfl) (zjr hn rfl rfl)) (zad (zac (za3 rfl) za2))
 · have := z.2
   simp only [D.lo, decide_eq_true_eq] at this
   omega
 · simp [D.lo]
end MX.P
end
section
set_option autoImplicit false
local macro_rules | `(tactic| wtm_at "mx op") => `(tactic| first
 | (with_reducible exact zaE) | ((with_reducible apply MX.P.ev_pow); (focus decide); (focus first | (simp only [Int.reduceToNat, Int.reducePow]; rfl) | rfl)) | (with_reducible exact zcU) | (with_reducible exact zeA) | (with_reducible exact zeB) | (with_reducible exact zeE) | (with_reducible exact zeF) | (with_reducible exact zcX) | (with_reducible exact zdL) | (with_reducible exact zeD) | (with_reducible exact zbB) | (with_reducible exact zdl)
 | ((with_reducible apply zaZ); wtm_at "mx side") | ((with_reducible apply zaC); wtm_at "mx side") | ((with_reducible apply zaN); first | decide | wtm_at "mx side") | ((with_reducible apply zcV); decide)
 | ((with_reducible apply zap); first | (with_reducible assumption) | rfl) | ((with_reducible apply zb0); (focus wtm_at "mx so"); (focus first | (with_reducible assumption) | rfl)) | ((with_reducible apply zcW); (focus wtm_at "mx so"); (focus first | (with_reducible assumption) | rfl))
 | (refine zdo ?_ 8 ?_ ?_ ?_ <;> first | decide +kernel | rfl | decide) | (refine zdm ?_ 8 ?_ ?_ ?_ <;> first | decide +kernel | rfl | decide))
local macro_rules | `(tactic| wtm_at "mx fn") => `(tactic| first
 | (with_reducible exact MX.P.ev_int) | ((with_reducible apply zci); exact Nat.le_of_ble_eq_true rfl) | ((with_reducible apply zdn); exact Nat.le_of_ble_eq_true rfl) | (with_reducible exact zct) | (with_reducible exact zbu) | (with_reducible exact zbx) | (with_reducible exact zb8) | (with_reducible exact zb9) | (with_reducible exact ev_abs) | (with_reducible exact zbA)
 | ((with_reducible apply zbG); wtm_at "mx so") | ((with_reducible apply za9); wtm_at "mx so") | ((with_reducible apply zau); wtm_at "mx so") | ((with_reducible apply zaV); wtm_at "mx so")
 | ((with_reducible apply zbH); (focus wtm_at "mx so"); (focus rfl)) | ((with_reducible apply zbw); (focus wtm_at "mx so"); (focus rfl); (focus rfl)) | ((with_reducible apply zbz); (focus wtm_at "mx so"); (focus rfl); (focus rfl)) | ((with_reducible apply zbv); (focus rfl); (focus rfl)) | ((with_reducible apply zby); (focus rfl); (focus rfl))
 | ((with_reducible apply zag); (focus rfl); (focus wtm_at "mx call")))
local macro_rules | `(tactic| wtm_at "mx call") => `(tactic| first | (with_reducible assumption) | (with_reducible exact MX.P.sp_drawn _ _ _) | (with_reducible exact MX.P.sp_spot _ _))
namespace MX.P
open PySem L2 MX
theorem zjG {k : Nat} {p q r s : Pt} (hp : BdP k p) (hq : BdP k q) (hr : BdP k r) (hs : BdP k s) : Bd (3 * k + 8) (vol p q r s) := by
 have h1 := (hp.wb hq).le (show max k k + 1 ≤ k + 1 by omega)
 have h2 := (hp.wb hr).le (show max k k + 1 ≤ k + 1 by omega)
 have h3 := (hp.wb hs).le (show max k k + 1 ≤ k + 1 by omega)
 exact (h1.dot (h2.cross h3)).le (by omega)
end MX.P
end
section
set_option autoImplicit false
local macro_rules | `(tactic| wtm_at "mx op") => `(tactic| first
 | (with_reducible exact zaE) | ((with_reducible apply MX.P.ev_pow); (focus decide); (focus first | (simp only [Int.reduceToNat, Int.reducePow]; rfl) | rfl)) | (with_reducible exact zcU) | (with_reducible exact zeA) | (with_reducible exact zeB) | (with_reducible exact zeE) | (with_reducible exact zeF) | (with_reducible exact zcX) | (with_reducible exact zdL) | (with_reducible exact zeD) | (with_reducible exact zbB) | (with_reducible exact zdl)
 | ((with_reducible apply zaZ); wtm_at "mx side") | ((with_reducible apply zaC); wtm_at "mx side") | ((with_reducible apply zaN); first | decide | wtm_at "mx side") | ((with_reducible apply zcV); decide)
 | ((with_reducible apply zap); first | (with_reducible assumption) | rfl) | ((with_reducible apply zb0); (focus wtm_at "mx so"); (focus first | (with_reducible assumption) | rfl)) | ((with_reducible apply zcW); (focus wtm_at "mx so"); (focus first | (with_reducible assumption) | rfl))
 | (refine zdo ?_ 8 ?_ ?_ ?_ <;> first | decide +kernel | rfl | decide) | (refine zdm ?_ 8 ?_ ?_ ?_ <;> first | decide +kernel | rfl | decide))
local macro_rules | `(tactic| wtm_at "mx fn") => `(tactic| first
 | (with_reducible exact MX.P.ev_int) | ((with_reducible apply zci); exact Nat.le_of_ble_eq_true rfl) | ((with_reducible apply zdn); exact Nat.le_of_ble_eq_true rfl) | (with_reducible exact zct) | (with_reducible exact zbu) | (with_reducible exact zbx) | (with_reducible exact zb8) | (with_reducible exact zb9) | (with_reducible exact ev_abs) | (with_reducible exact zbA)
 | ((with_reducible apply zbG); wtm_at "mx so") | ((with_reducible apply za9); wtm_at "mx so") | ((with_reducible apply zau); wtm_at "mx so") | ((with_reducible apply zaV); wtm_at "mx so")
 | ((with_reducible apply zbH); (focus wtm_at "mx so"); (focus rfl)) | ((with_reducible apply zbw); (focus wtm_at "mx so"); (focus rfl); (focus rfl)) | ((with_reducible apply zbz); (focus wtm_at "mx so"); (focus rfl); (focus rfl)) | ((with_reducible apply zbv); (focus rfl); (focus rfl)) | ((with_reducible apply zby); (focus rfl); (focus rfl))
 | ((with_reducible apply zag); (focus rfl); (focus wtm_at "mx call")))
local macro_rules | `(tactic| wtm_at "mx call") => `(tactic| first | (with_reducible assumption) | (with_reducible exact MX.P.sp_drawn _ _ _) | (with_reducible exact MX.P.sp_spot _ _))
namespace MX.P
open PySem L2 MX
theorem zii {d : Int} {S : So} (hS : WF S) : zb5 [.int d] S = some (.ref S.length, S ++ [.lst [pD (spotM d), pD (spotM (d.fdiv 729)), pD (spotM (d.fdiv 531441)), pD (spotM (d.fdiv 387420489))]]) := by
 refine zcG (S := S) (σ' := [some (.int d)]) (S' := S ++ [.lst [pD (spotM d), pD (spotM (d.fdiv 729)), pD (spotM (d.fdiv 531441)), pD (spotM (d.fdiv 387420489))]]) ?_ (fun z => ?_) (by simp) ?_ (hS.snoc rfl)
 · wtm_at "mx st"
   unfold zcM
   wtm_at "mx ev"
 · have := z.2
   simp only [D.lo, decide_eq_true_eq] at this
   omega
 · simp [D.lo]
end MX.P
end
section
set_option autoImplicit false
namespace MX.P
def sw (b : Bool) (t : Tr) : Tr := if b = true then (t.1, t.2.2, t.2.1) else t
def skinL (lo hi : Pt) (ab : Bool) : List Tr := (trs 0 lo hi lo.1).map (sw (true != ab)) ++ (trs 0 lo hi hi.1).map (sw (false != ab)) ++ (trs 1 lo hi lo.2.1).map (sw (true != ab)) ++ (trs 1 lo hi hi.2.1).map (sw (false != ab)) ++ (trs 2 lo hi lo.2.2).map (sw (true != ab)) ++ (trs 2 lo hi hi.2.2).map (sw (false != ab))
def dT (t : Tr) : Int := det3 t.1 t.2.1 t.2.2
def sixV (ts : List Tr) : Int := (ts.map dT).sum
def padd (p f : Pt) : Pt := (p.1 + f.1, p.2.1 + f.2.1, p.2.2 + f.2.2)
def mvT (f : Pt) (t : Tr) : Tr := (padd t.1 f, padd t.2.1 f, padd t.2.2 f)
theorem ze7 (lo hi : Pt) (ab : Bool) : Closed (edL (skinL lo hi ab)) := fun x => by
 rw [← zeI]
 cases ab
 · simp only [skinL, trs, sw, edL, edE, List.flatMap_cons, List.flatMap_nil, List.cons_append, List.nil_append, List.append_nil, List.map_cons, List.map_nil, swp, List.count_cons, List.count_nil, bne_self_eq_false, Bool.false_eq_true, if_false, if_true, show (true != false) = true from rfl]
   omega
 · simp only [skinL, trs, sw, edL, edE, List.flatMap_cons, List.flatMap_nil, List.cons_append, List.nil_append, List.append_nil, List.map_cons, List.map_nil, swp, List.count_cons, List.count_nil, bne_self_eq_false, Bool.false_eq_true, if_false, if_true, show (false != true) = true from rfl]
   omega
theorem zff (lo s : Pt) (ab : Bool) : sixV (skinL lo (padd lo s) ab) = 6 * s.1 * s.2.1 * s.2.2 * (1 - 2 * (if ab = true then 1 else 0)) := by
 obtain ⟨l1, l2, l3⟩ := lo
 obtain ⟨s1, s2, s3⟩ := s
 cases ab
 · simp only [sixV, skinL, trs, sw, dT, padd, det3, vdot, vcross, List.cons_append, List.nil_append, List.append_nil, List.map_cons, List.map_nil, List.sum_cons, List.sum_nil, bne_self_eq_false, Bool.false_eq_true, if_false, if_true, show (true != false) = true from rfl]
   grind
 · simp only [sixV, skinL, trs, sw, dT, padd, det3, vdot, vcross, List.cons_append, List.nil_append, List.append_nil, List.map_cons, List.map_nil, List.sum_cons, List.sum_nil, bne_self_eq_false, Bool.false_eq_true, if_false, if_true, show (false != true) = true from rfl]
   grind
theorem zil (lo hi f : Pt) (ab : Bool) : (skinL lo hi ab).map (mvT f) = skinL (padd lo f) (padd hi f) ab := by
 cases ab <;> rfl
theorem zh3 (a b c e f : Pt) : (fcs a b c e).map (mvT f) = fcs (padd a f) (padd b f) (padd c f) (padd e f) := rfl
theorem zhX (a b c e f : Pt) : vol (padd a f) (padd b f) (padd c f) (padd e f) = vol a b c e := by
 have w : ∀ x y : Pt, wb (padd x f) (padd y f) = wb x y := fun x y => by
   unfold wb padd
   simp only
   refine Prod.ext ?_ (Prod.ext ?_ ?_) <;> simp only <;> omega
 unfold vol
 rw [w, w, w]
theorem zei (a b c e : Pt) : sixV (fcs a b c e) = vol a b c e := by
 simp only [sixV, fcs, dT, vol, det3, vdot, vcross, wb, List.map_cons, List.map_nil, List.sum_cons, List.sum_nil]
 grind
theorem zf0 (x y : List Tr) : sixV (x ++ y) = sixV x + sixV y := by unfold sixV; rw [List.map_append, List.sum_append]
theorem zfO {E F : List (Pt × Pt)} (h : Closed E) (g : Closed F) : Closed (E ++ F) := fun e => by rw [List.count_append, List.count_append, h e, g e]
theorem zju (x y : List Tr) : edL (x ++ y) = edL x ++ edL y := by unfold edL; rw [List.flatMap_append]
theorem zd6 (a b c e : Pt) : Closed (edL (fcs a b c e)) := fun x => by
 rw [← zeI]
 simp only [fcs, edL, edE, List.flatMap_cons, List.flatMap_nil, List.cons_append, List.nil_append, List.append_nil, List.map_cons, List.map_nil, swp, List.count_cons, List.count_nil]
 omega
def closedB (E : List (Pt × Pt)) : Bool := E.all fun e => decide (E.count e = E.count (swp e))
theorem zfP {E : List (Pt × Pt)} (h : Closed E) : closedB E = true := by
 unfold closedB
 rw [List.all_eq_true]
 exact fun e _ => decide_eq_true (h e)
theorem zgP (E : List (Pt × Pt)) : ∀ x ∈ cntN (E.map eK), ∃ e ∈ E, x = (eK e, (E.count e : Int)) := fun x hx => by
 rcases zjc _ hx with hm | hm
 · obtain ⟨e, he, ee⟩ := List.mem_map.mp hm
   have g : getO (cntN (E.map eK)) x.1 = some x.2 := zkJ (zhE (E.map eK) (xs := []) List.nodup_nil) hx
   have g1 := ze6 (E.map eK) x.1
   rw [g, Option.getD_some] at g1
   refine ⟨e, he, Prod.ext ee.symm ?_⟩
   rw [g1, ← ee, zdx]
 · cases hm
theorem zjy {E : List (Pt × Pt)} {e : Pt × Pt} (h : e ∈ E) : (eK e, (E.count e : Int)) ∈ cntN (E.map eK) := by
 have g1 := ze6 (E.map eK) (eK e)
 rw [zdx] at g1
 have pos : 0 < E.count e := List.count_pos_iff.mpr h
 cases hg : getO (cntN (E.map eK)) (eK e) with
 | none => rw [hg] at g1; simp at g1; omega
 | some v =>
   rw [hg, Option.getD_some] at g1
   unfold getO at hg
   simp only [Option.map_eq_some_iff] at hg
   obtain ⟨y, hy, rfl⟩ := hg
   have h1 := List.mem_of_find?_eq_some hy
   have h2 : y.1 = eK e := by simpa using List.find?_some hy
   have : y = (eK e, (E.count e : Int)) := Prod.ext h2 g1
   rw [← this]; exact h1
def entB (xs : List (NK × Int)) (x : NK × Int) : Bool := match x.1 with
 | [a, b] => decide (x.2 = (getO xs [b, a]).getD 0)
 | _ => false
theorem zjF (E : List (Pt × Pt)) : (cntN (E.map eK)).all (entB (cntN (E.map eK))) = closedB E := by
 have key : ∀ e : Pt × Pt, entB (cntN (E.map eK)) (eK e, (E.count e : Int)) = decide (E.count e = E.count (swp e)) := fun e => by
   have g : (getO (cntN (E.map eK)) (eK (swp e))).getD 0 = (E.count (swp e) : Int) := by rw [ze6, zdx]
   show decide ((E.count e : Int) = (getO (cntN (E.map eK)) (eK (swp e))).getD 0) = _
   rw [g]
   by_cases h : E.count e = E.count (swp e)
   · rw [decide_eq_true h, decide_eq_true (by rw [h])]
   · rw [decide_eq_false h, decide_eq_false (by omega)]
 rw [Bool.eq_iff_iff]
 unfold closedB
 rw [List.all_eq_true, List.all_eq_true]
 constructor
 · intro h e he
   rw [← key e]
   exact h _ (zjy he)
 · intro h x hx
   obtain ⟨e, he, rfl⟩ := zgP E x hx
   rw [key e]
   exact h e he
end MX.P
end
section
set_option autoImplicit false
local macro_rules | `(tactic| wtm_at "mx call") => `(tactic| first | (with_reducible assumption))
namespace MX.P
open PySem L2 MX
theorem zdM {fo fi : EF} {d : D} {σ : Sg} {S S1 S2 S3 : So} {n j : Nat} {i : Int} {xs : List D} (h1 : fo σ S = some (.ref n, S1)) (h2 : fi σ S1 = some (.int i, S2)) (h3 : S2[n]? = some (.lst xs)) (h4 : ixN xs.length i = some j) (h5 : S2.set n (.lst (xs.set j d)) = S3) : gSt fo fi d σ S = some (σ, S3) := by
 unfold gSt
 rw [h1]; simp only [Option.bind_some]
 rw [h2]; simp only [Option.bind_some]
 unfold gSet
 simp only
 rw [h3]; simp only
 rw [h4]; simp only [Option.map_some]
 rw [h5]
def zdz : SF := (sSeq (sAsg (eN gLst (aCons (eC (.int 0)) (aCons (eC (.int 0)) (aCons (eC (.int 0)) (aNil))))) (gNm 8)) (sSeq (sAsg (eB gIx (eB gIx (eVar 0) (eVar 2)) (eVar 1)) (gSt (eVar 8) (eVar 1))) (sSeq (sAsg (eB gIx (eB gIx (eVar 0) (eVar 6)) (eVar 3)) (gSt (eVar 8) (eVar 3))) (sSeq (sAsg (eB gIx (eB gIx (eVar 0) (eVar 7)) (eVar 4)) (gSt (eVar 8) (eVar 4))) (sSeq (sDrop (eM gAppend (eVar 5) (aCons (eN gTuple (aCons (eVar 8) (aNil))) (aNil)))) (sPass))))))
theorem zdK {p0 p1 : D} {Fs As Bs xs c : List D} {f a b : D} {k s i j one other : Int} {k' i' j' : Nat} {x8 : Option D} {S G : So}
   (e1 : atI [p0, p1] s = some (.tup Fs)) (e2 : atI Fs k = some f) (e3 : atI [p0, p1] one = some (.tup As)) (e4 : atI As i = some a) (e5 : atI [p0, p1] other = some (.tup Bs)) (e6 : atI Bs j = some b)
   (g1 : ixN 3 k = some k') (g2 : ixN 3 i = some i') (g3 : ixN 3 j = some j') (hc : ((([D.int 0, .int 0, .int 0].set k' f).set i' a).set j' b) = c) (hx : xs.length ≤ 1000) :
   zdz [some (.tup [p0, p1]), some (.int k), some (.int s), some (.int i), some (.int j), some (.ref S.length), some (.int one), some (.int other), x8] (S ++ .lst xs :: G)
     = some (.nx, [some (.tup [p0, p1]), some (.int k), some (.int s), some (.int i), some (.int j), some (.ref S.length), some (.int one), some (.int other), some (.ref (S ++ .lst xs :: G).length)], S ++ .lst (xs ++ [.tup c]) :: (G ++ [.lst c])) := by
 have st : ∀ (ys : List D), (S ++ .lst xs :: G ++ [O.lst ys])[(S ++ .lst xs :: G).length]? = some (.lst ys) := fun ys => zaq
 have sx : ∀ (o : O), (S ++ .lst xs :: G ++ [o])[S.length]? = some (.lst xs) := fun o => by simp
 have sl : ∀ (o : O) (o' : O), (S ++ .lst xs :: G ++ [o]).set S.length o' = S ++ o' :: (G ++ [o]) := fun o o' => by simp
 generalize hT : S ++ .lst xs :: G = T at *
 have l1 : ([D.int 0, .int 0, .int 0]).length = 3 := rfl
 have l2 : (([D.int 0, .int 0, .int 0]).set k' f).length = 3 := by rw [List.length_set]; rfl
 have l3 : ((([D.int 0, .int 0, .int 0]).set k' f).set i' a).length = 3 := by rw [List.length_set, List.length_set]; rfl
 unfold zdz
 refine zac (zah (x := .ref T.length) (S1 := T ++ [.lst [.int 0, .int 0, .int 0]]) ?_ (zeG rfl)) (zad ?_)
 · wtm_at "mx ev"
 refine zac (zah (x := f) (S1 := T ++ [.lst [.int 0, .int 0, .int 0]]) ?_ (zdM (xs := [D.int 0, .int 0, .int 0]) (zaa rfl) (zaa rfl) (st _) g1 zeW)) (zad ?_)
 · exact zaf (zaf (zaa rfl) (zaa rfl) (zap e1)) (zaa rfl) (zap e2)
 refine zac (zah (x := a) ?_ (zdM (xs := ([D.int 0, .int 0, .int 0]).set k' f) (zaa rfl) (zaa rfl) (st _) (by rw [l2]; exact g2) zeW)) (zad ?_)
 · exact zaf (zaf (zaa rfl) (zaa rfl) (zap e3)) (zaa rfl) (zap e4)
 refine zac (zah (x := b) ?_ (zdM (xs := (([D.int 0, .int 0, .int 0]).set k' f).set i' a) (zaa rfl) (zaa rfl) (st _) (by rw [l3]; exact g3) zeW)) (zad ?_)
 · exact zaf (zaf (zaa rfl) (zaa rfl) (zap e5)) (zaa rfl) (zap e6)
 rw [hc]
 refine zac (zbt (zeH (zaa rfl) (sx _) (zab (zao (zab (zaa rfl) zae) (zau (st _))) zae) (zcY (sx _) (by rw [sizeLine_eq]; omega) (sl _ _)))) (zad zai)
abbrev trD (T : Tr) : D := .tup [pD T.1, pD T.2.1, pD T.2.2]
abbrev pairsO : O := .lst [.tup [.int 0, .int 0], .tup [.int 1, .int 0], .tup [.int 1, .int 1], .tup [.int 0, .int 1]]
theorem zej {box : D} {k s i j : Int} {C1 C2 C3 C4 : List D} {S : So} (hS : WF S) (hi : (k + 1).fmod 3 = i) (hj : (k + 2).fmod 3 = j)
   (l1 : los S.length C1 = true) (l2 : los S.length C2 = true) (l3 : los S.length C3 = true) (l4 : los S.length C4 = true)
   (t : ∀ (one other : Int) (c : List D), (one, other, c) ∈ [((0 : Int), (0 : Int), C1), (1, 0, C2), (1, 1, C3), (0, 1, C4)] → ∀ (xs : List D) (G : So) (x8 : Option D), xs.length ≤ 1000 → zdz [some box, some (.int k), some (.int s), some (.int i), some (.int j), some (.ref S.length), some (.int one), some (.int other), x8] (S ++ .lst xs :: G)
     = some (.nx, [some box, some (.int k), some (.int s), some (.int i), some (.int j), some (.ref S.length), some (.int one), some (.int other), some (.ref (S ++ .lst xs :: G).length)], S ++ .lst (xs ++ [.tup c]) :: (G ++ [.lst c]))) :
   ∃ n T, zaJ [box, .int k, .int s] S = some (.ref n, T) ∧ Gr S T ∧ T[n]? = some (.lst [.tup [.tup C1, .tup C2, .tup C3], .tup [.tup C1, .tup C3, .tup C4]]) ∧ S.length ≤ n := by
 have t1 := t 0 0 C1 (by simp) [] [pairsO] none (by decide)
 have t2 := t 1 0 C2 (by simp) [.tup C1] [pairsO, .lst C1] (some (.ref (S ++ .lst [] :: [pairsO]).length)) (by simp)
 have t3 := t 1 1 C3 (by simp) [.tup C1, .tup C2] [pairsO, .lst C1, .lst C2] (some (.ref (S ++ .lst [.tup C1] :: [pairsO, .lst C1]).length)) (by simp)
 have t4 := t 0 1 C4 (by simp) [.tup C1, .tup C2, .tup C3] [pairsO, .lst C1, .lst C2, .lst C3] (some (.ref (S ++ .lst [.tup C1, .tup C2] :: [pairsO, .lst C1, .lst C2]).length)) (by simp)
 have pr : ∀ (o : O) (G : So), (S ++ o :: pairsO :: G)[S.length + 1]? = some pairsO := fun o G => by simp
 have fr : ∀ (o : O) (G : So), (S ++ o :: G)[S.length]? = some o := fun o G => by simp
 have it : iVal (eN gLst (aCons (eN gTup (aCons (eC (.int 0)) (aCons (eC (.int 0)) (aNil)))) (aCons (eN gTup (aCons (eC (.int 1)) (aCons (eC (.int 0)) (aNil)))) (aCons (eN gTup (aCons (eC (.int 1)) (aCons (eC (.int 1)) (aNil)))) (aCons (eN gTup (aCons (eC (.int 0)) (aCons (eC (.int 1)) (aNil)))) (aNil)))))) [some box, some (.int k), some (.int s), some (.int i), some (.int j), some (.ref S.length), none, none, none] (S ++ [.lst []]) = some (.lst (S ++ [O.lst []]).length, S ++ [.lst []] ++ [pairsO]) := by
   refine zaW (xs := [.tup [.int 0, .int 0], .tup [.int 1, .int 0], .tup [.int 1, .int 1], .tup [.int 0, .int 1]]) ?_ zaq
   wtm_at "mx ev"
 have el : (S ++ [O.lst []]).length = S.length + 1 := by simp
 rw [el] at it
 have e0 : S ++ [O.lst []] ++ [pairsO] = S ++ O.lst [] :: [pairsO] := by simp
 rw [e0] at it
 have loop : sFor (iVal (eN gLst (aCons (eN gTup (aCons (eC (.int 0)) (aCons (eC (.int 0)) (aNil)))) (aCons (eN gTup (aCons (eC (.int 1)) (aCons (eC (.int 0)) (aNil)))) (aCons (eN gTup (aCons (eC (.int 1)) (aCons (eC (.int 1)) (aNil)))) (aCons (eN gTup (aCons (eC (.int 0)) (aCons (eC (.int 1)) (aNil)))) (aNil))))))) (gTp 2 (gsCons (gNm 6) (gsCons (gNm 7) (gsNil)))) zdz
     [some box, some (.int k), some (.int s), some (.int i), some (.int j), some (.ref S.length), none, none, none] (S ++ [.lst []])
     = some (.nx, [some box, some (.int k), some (.int s), some (.int i), some (.int j), some (.ref S.length), some (.int 0), some (.int 1), some (.ref (S ++ .lst [.tup C1, .tup C2, .tup C3] :: [pairsO, .lst C1, .lst C2, .lst C3]).length)], S ++ .lst [.tup C1, .tup C2, .tup C3, .tup C4] :: [pairsO, .lst C1, .lst C2, .lst C3, .lst C4]) := by
   refine zcD it (n := 4) (zcb (pr _ _)) ?_
   refine zay (d := .tup [.int 0, .int 0]) (zaY (pr _ _) rfl) rfl t1 (zax ?_)
   refine zay (d := .tup [.int 1, .int 0]) (zaY (pr _ _) rfl) rfl t2 (zax ?_)
   refine zay (d := .tup [.int 1, .int 1]) (zaY (pr _ _) rfl) rfl t3 (zax ?_)
   refine zay (d := .tup [.int 0, .int 1]) (zaY (pr _ _) rfl) rfl t4 (zax ?_)
   exact zde (zdH (pr _ _) rfl)
 have m : ∀ (c : List D), los S.length c = true → ∀ n, S.length ≤ n → O.lo n (.lst c) = true := fun c hc n hn => O.lo_mono hn (show O.lo S.length (.lst c) = true from hc)
 have gr : Gr S ((S ++ .lst [.tup C1, .tup C2, .tup C3, .tup C4] :: [pairsO, .lst C1, .lst C2, .lst C3, .lst C4]) ++ [.lst [.tup [.tup C1, .tup C2, .tup C3], .tup [.tup C1, .tup C3, .tup C4]]]) := by
   have g := (((((((Gr.refl hS).snoc (o := .lst [.tup C1, .tup C2, .tup C3, .tup C4]) (m _ (by simp [los, D.lo, l1, l2, l3, l4]) _ (by simp))).snoc (o := pairsO) rfl).snoc (o := .lst C1) (m _ l1 _ (by simp))).snoc (o := .lst C2) (m _ l2 _ (by simp))).snoc (o := .lst C3) (m _ l3 _ (by simp))).snoc (o := .lst C4) (m _ l4 _ (by simp))).snoc (o := .lst [.tup [.tup C1, .tup C2, .tup C3], .tup [.tup C1, .tup C3, .tup C4]]) (m _ (by simp [los, D.lo, l1, l2, l3, l4]) _ (by simp))
   simpa using g
 refine ⟨(S ++ .lst [.tup C1, .tup C2, .tup C3, .tup C4] :: [pairsO, .lst C1, .lst C2, .lst C3, .lst C4]).length, (S ++ .lst [.tup C1, .tup C2, .tup C3, .tup C4] :: [pairsO, .lst C1, .lst C2, .lst C3, .lst C4]) ++ [.lst [.tup [.tup C1, .tup C2, .tup C3], .tup [.tup C1, .tup C3, .tup C4]]], ?_, ?_, zaq, by simp⟩
 · apply zcG
   · wtm_at "mx st"
     unfold zcO
     refine zac (zah (x := .int i) (S1 := S) ?_ (zeG rfl)) (zad ?_)
     · rw [← hi]; wtm_at "mx ev"
     refine zac (zah (x := .int j) (S1 := S) ?_ (zeG rfl)) (zad ?_)
     · rw [← hj]; wtm_at "mx ev"
     refine zac (zah (x := .ref S.length) (S1 := S ++ [.lst []]) ?_ (zeG rfl)) (zad ?_)
     · wtm_at "mx ev"
     refine zac loop (zad ?_)
     have f4 := fr (.lst [.tup C1, .tup C2, .tup C3, .tup C4]) [pairsO, .lst C1, .lst C2, .lst C3, .lst C4]
     wtm_at "mx ev"
   · intro h
     have := h.2
     simp only [D.lo, decide_eq_true_eq, List.length_append] at this
     omega
   · simp
   · simp [D.lo]
   · exact gr.2
 · exact gr
theorem zfe {lo hi F : Pt} {s : Int} {S : So} (hS : WF S) (hs : atI [pD lo, pD hi] s = some (pD F)) : ∃ n T, zaJ [.tup [pD lo, pD hi], .int 0, .int s] S = some (.ref n, T) ∧ Gr S T ∧ T[n]? = some (.lst ((trs 0 lo hi F.1).map trD)) ∧ S.length ≤ n := by
 refine zej (i := 1) (j := 2) (C1 := [.int F.1, .int lo.2.1, .int lo.2.2]) (C2 := [.int F.1, .int hi.2.1, .int lo.2.2]) (C3 := [.int F.1, .int hi.2.1, .int hi.2.2]) (C4 := [.int F.1, .int lo.2.1, .int hi.2.2]) hS (by decide) (by decide) rfl rfl rfl rfl ?_
 intro one other c hc xs G x8 hx
 simp only [List.mem_cons, List.mem_nil_iff, or_false, Prod.mk.injEq] at hc
 rcases hc with ⟨rfl, rfl, rfl⟩ | ⟨rfl, rfl, rfl⟩ | ⟨rfl, rfl, rfl⟩ | ⟨rfl, rfl, rfl⟩ <;> exact zdK hs rfl rfl rfl rfl rfl rfl rfl rfl rfl hx
theorem zfd {lo hi F : Pt} {s : Int} {S : So} (hS : WF S) (hs : atI [pD lo, pD hi] s = some (pD F)) : ∃ n T, zaJ [.tup [pD lo, pD hi], .int 1, .int s] S = some (.ref n, T) ∧ Gr S T ∧ T[n]? = some (.lst ((trs 1 lo hi F.2.1).map trD)) ∧ S.length ≤ n := by
 refine zej (i := 2) (j := 0) (C1 := [.int lo.1, .int F.2.1, .int lo.2.2]) (C2 := [.int lo.1, .int F.2.1, .int hi.2.2]) (C3 := [.int hi.1, .int F.2.1, .int hi.2.2]) (C4 := [.int hi.1, .int F.2.1, .int lo.2.2]) hS (by decide) (by decide) rfl rfl rfl rfl ?_
 intro one other c hc xs G x8 hx
 simp only [List.mem_cons, List.mem_nil_iff, or_false, Prod.mk.injEq] at hc
 rcases hc with ⟨rfl, rfl, rfl⟩ | ⟨rfl, rfl, rfl⟩ | ⟨rfl, rfl, rfl⟩ | ⟨rfl, rfl, rfl⟩ <;> exact zdK hs rfl rfl rfl rfl rfl rfl rfl rfl rfl hx
theorem zfc {lo hi F : Pt} {s : Int} {S : So} (hS : WF S) (hs : atI [pD lo, pD hi] s = some (pD F)) : ∃ n T, zaJ [.tup [pD lo, pD hi], .int 2, .int s] S = some (.ref n, T) ∧ Gr S T ∧ T[n]? = some (.lst ((trs 2 lo hi F.2.2).map trD)) ∧ S.length ≤ n := by
 refine zej (i := 0) (j := 1) (C1 := [.int lo.1, .int lo.2.1, .int F.2.2]) (C2 := [.int hi.1, .int lo.2.1, .int F.2.2]) (C3 := [.int hi.1, .int hi.2.1, .int F.2.2]) (C4 := [.int lo.1, .int hi.2.1, .int F.2.2]) hS (by decide) (by decide) rfl rfl rfl rfl ?_
 intro one other c hc xs G x8 hx
 simp only [List.mem_cons, List.mem_nil_iff, or_false, Prod.mk.injEq] at hc
 rcases hc with ⟨rfl, rfl, rfl⟩ | ⟨rfl, rfl, rfl⟩ | ⟨rfl, rfl, rfl⟩ | ⟨rfl, rfl, rfl⟩ <;> exact zdK hs rfl rfl rfl rfl rfl rfl rfl rfl rfl hx
end MX.P
end
section
set_option autoImplicit false
local macro_rules | `(tactic| wtm_at "mx op") => `(tactic| first
 | (with_reducible exact zaE) | ((with_reducible apply MX.P.ev_pow); (focus decide); (focus first | (simp only [Int.reduceToNat, Int.reducePow]; rfl) | rfl)) | (with_reducible exact zcU) | (with_reducible exact zeA) | (with_reducible exact zeB) | (with_reducible exact zeE) | (with_reducible exact zeF) | (with_reducible exact zcX) | (with_reducible exact zdL) | (with_reducible exact zeD) | (with_reducible exact zbB) | (with_reducible exact zdl)
 | ((with_reducible apply zaZ); wtm_at "mx side") | ((with_reducible apply zaC); wtm_at "mx side") | ((with_reducible apply zaN); first | decide | wtm_at "mx side") | ((with_reducible apply zcV); decide)
 | ((with_reducible apply zap); first | (with_reducible assumption) | rfl) | ((with_reducible apply zb0); (focus wtm_at "mx so"); (focus first | (with_reducible assumption) | rfl)) | ((with_reducible apply zcW); (focus wtm_at "mx so"); (focus first | (with_reducible assumption) | rfl))
 | (refine zdo ?_ 8 ?_ ?_ ?_ <;> first | decide +kernel | rfl | decide) | (refine zdm ?_ 8 ?_ ?_ ?_ <;> first | decide +kernel | rfl | decide))
local macro_rules | `(tactic| wtm_at "mx fn") => `(tactic| first
 | (with_reducible exact MX.P.ev_int) | ((with_reducible apply zci); exact Nat.le_of_ble_eq_true rfl) | ((with_reducible apply zdn); exact Nat.le_of_ble_eq_true rfl) | (with_reducible exact zct) | (with_reducible exact zbu) | (with_reducible exact zbx) | (with_reducible exact zb8) | (with_reducible exact zb9) | (with_reducible exact ev_abs) | (with_reducible exact zbA)
 | ((with_reducible apply zbG); wtm_at "mx so") | ((with_reducible apply za9); wtm_at "mx so") | ((with_reducible apply zau); wtm_at "mx so") | ((with_reducible apply zaV); wtm_at "mx so")
 | ((with_reducible apply zbH); (focus wtm_at "mx so"); (focus rfl)) | ((with_reducible apply zbw); (focus wtm_at "mx so"); (focus rfl); (focus rfl)) | ((with_reducible apply zbz); (focus wtm_at "mx so"); (focus rfl); (focus rfl)) | ((with_reducible apply zbv); (focus rfl); (focus rfl)) | ((with_reducible apply zby); (focus rfl); (focus rfl))
 | ((with_reducible apply zag); (focus rfl); (focus wtm_at "mx call")))
local macro_rules | `(tactic| wtm_at "mx call") => `(tactic| (with_reducible assumption))
namespace MX.P
open PySem L2 MX
theorem zgp {β : Type} {iv : Nat} {g : GF} {fe : EF} {src : List (Option Nat)} {σ rest : Sg} {r : Nat} {S : So} {l : List β} (enc res : β → D) (en : β → Sg) (T : Sg → Prop) (hr : S[r]? = some (.lst (l.map enc))) (hi : σ[iv]? = some (some (.ref r))) (hT : T (srcD src σ))
   (hg : ∀ b ∈ l, ∀ τ, T τ → g (enc b) τ S = some (en b ++ rest, S) ∧ T (en b ++ rest)) (hf : ∀ b ∈ l, fe (en b ++ rest) S = some (res b, S)) (inj : ∀ b ∈ l, ∀ c ∈ l, enc b = enc c → res b = res c) (hl : l.length ≤ 1000) :
   eLc (iVal (eVar iv)) g tTru fe src σ S = some (.ref S.length, S ++ [.lst (l.map res)]) := by
 have ex : ∀ d : D, ∃ z : D, ∀ b ∈ l, enc b = d → z = res b := fun d => by
   by_cases h : ∃ b, b ∈ l ∧ enc b = d
   · obtain ⟨b, hb, e⟩ := h
     exact ⟨res b, fun c hc e2 => inj b hb c hc (e.trans e2.symm)⟩
   · exact ⟨.non, fun b hb e => absurd ⟨b, hb, e⟩ h⟩
 have hh := fun d => (ex d).choose_spec
 have h := zdw (nx := nxD (.lst r)) (g := g) (t := tTru) (fe := fe) (S := S) (xs := l.map enc) T (fun _ => true) (fun d => (ex d).choose) (fun i => by unfold nxD; simp only [hr])
   (fun d hd τ hτ => by
     obtain ⟨b, hb, rfl⟩ := List.mem_map.mp hd
     obtain ⟨g1, g2⟩ := hg b hb τ hτ
     refine ⟨en b ++ rest, g1, g2, rfl, fun _ => ?_⟩
     rw [hf b hb, hh (enc b) b hb rfl])
   l.length 0 (srcD src σ) [] hT (by simp)
 have e : ([] : List D) ++ (((l.map enc).drop 0).filter fun _ => true).map (fun d => (ex d).choose) = l.map res := by
   rw [List.nil_append, List.drop_zero, List.filter_eq_self.mpr (fun _ _ => rfl), List.map_map]
   exact List.map_congr_left fun b hb => hh (enc b) b hb rfl
 rw [e] at h
 refine zeC (j := .lst r) (n := l.length) (zaW (zaa hi) hr) ?_ (Nat.le_trans hl (Nat.le_trans (by decide) zb3)) rfl h
 have := zcb hr
 rw [List.length_map] at this
 exact this
theorem zb2 {ts : List Tr} {n : Nat} {S : So} (hS : WF S) (hn : S[n]? = some (.lst (ts.map trT))) (hl : ts.length ≤ 1000) : zaP [.ref n] S = some (.bl (closedB (edL ts)), S) := by
 have g0 : Gr S (S ++ [.dct []]) := (Gr.refl hS).snoc rfl
 have d0 : (S ++ [O.dct []])[S.length]? = some (.dct []) := zaq
 have n0 : (S ++ [O.dct []])[n]? = some (.lst (ts.map trT)) := zaF hn
 generalize hS1 : S ++ [O.dct []] = S1 at *
 obtain ⟨σ', T, e1, hP⟩ := zcS (nx := nxD (.lst n)) (g := gNm 2) (f := zaX) (xs := ts.map trT)
   (fun i σ T => (∃ x1 x2, σ = [some (.ref n), some (.ref S.length), x1, x2]) ∧ Gr S T ∧ T[S.length]? = some (.dct (cntN ((edL (ts.take i)).map eK))))
   (fun i σ T ⟨_, g, _⟩ => by unfold nxD; simp only [g.old hn])
   (fun i d σ T hd ⟨⟨x1, x2, hσ⟩, g, h⟩ => by
     subst hσ
     rw [List.getElem?_map] at hd
     obtain ⟨t, ht, rfl⟩ := Option.map_eq_some_iff.mp hd
     have hlen : (cntN ((edL (ts.take i)).map eK)).length + 3 < 100000 := by
       have := ze0 ((edL (ts.take i)).map eK) (xs := [])
       rw [List.length_map, zel, List.length_take] at this
       unfold cntN
       simp only [List.length_nil] at this
       omega
     obtain ⟨T', e, g', h'⟩ := zfN (n := n) (x2 := x2) (t := t) g (Nat.le_refl _) h hlen
     refine ⟨_, T, .nx, _, T', rfl, e, .inl rfl, ⟨_, _, rfl⟩, g', ?_⟩
     rw [h', zfm ht, List.map_append, zgQ])
   (ts.map trT).length 0 [some (.ref n), some (.ref S.length), none, none] S1 ⟨⟨none, none, rfl⟩, g0, d0⟩ (by simp)
 obtain ⟨⟨x1, x2, rfl⟩, g, h⟩ := hP
 rw [List.length_map, List.take_length] at h
 have hx := zgP (edL ts)
 have ha := zjF (edL ts)
 have hlen : (cntN ((edL ts).map eK)).length ≤ 3000 := by
   have := ze0 ((edL ts).map eK) (xs := [])
   rw [List.length_map, zel] at this
   unfold cntN
   simp only [List.length_nil] at this
   omega
 rw [← ha]
 generalize cntN ((edL ts).map eK) = cs at *
 have one : ∀ x ∈ cs, eB (gCmp .Eq) (eVar 1) (eDM gDGet (eVar 2) (aCons (eN gTup (aCons (eB gIx (eVar 0) (eC (.int 1))) (aCons (eB gIx (eVar 0) (eC (.int 0))) (aNil)))) (aCons (eC (.int 0)) (aNil)))) [some (kD x.1), some (.int x.2), some (.ref S.length)] T = some (.bl (entB cs x), T) := fun x hm => by
   obtain ⟨e, _, rfl⟩ := hx x hm
   rw [zlL]
   exact zaf (zaa rfl) (zgI (kd := eD (swp e)) (kk := eK (swp e)) (zaa rfl) h (zab (zao (zab (zaf (zaa rfl) zal (zap rfl)) (zab (zaf (zaa rfl) zal (zap rfl)) zae)) (zci (Nat.le_of_ble_eq_true rfl))) (zab zal zae)) h rfl) zcX
 have lc := zdw (nx := nxD (.itm S.length cs.length)) (g := gTp 2 (gsCons (gNm 0) (gsCons (gNm 1) (gsNil)))) (t := tTru) (fe := eB (gCmp .Eq) (eVar 1) (eDM gDGet (eVar 2) (aCons (eN gTup (aCons (eB gIx (eVar 0) (eC (.int 1))) (aCons (eB gIx (eVar 0) (eC (.int 0))) (aNil)))) (aCons (eC (.int 0)) (aNil)))))
   (S := T) (xs := cs.map fun x => D.tup [kD x.1, .int x.2]) (fun τ => ∃ v u, τ = [v, u, some (.ref S.length)]) (fun _ => true)
   (fun d => match d with
     | .tup [a, b] => ((eB (gCmp .Eq) (eVar 1) (eDM gDGet (eVar 2) (aCons (eN gTup (aCons (eB gIx (eVar 0) (eC (.int 1))) (aCons (eB gIx (eVar 0) (eC (.int 0))) (aNil)))) (aCons (eC (.int 0)) (aNil)))) [some a, some b, some (.ref S.length)] T).map (·.1)).getD .non
     | _ => .non) (zkI h)
   (fun d hd τ hτ => by
     obtain ⟨v, u, rfl⟩ := hτ
     obtain ⟨x, hm, rfl⟩ := List.mem_map.mp hd
     refine ⟨[some (kD x.1), some (.int x.2), some (.ref S.length)], rfl, ⟨_, _, rfl⟩, rfl, fun _ => ?_⟩
     simp only
     rw [one x hm]; rfl)
   (cs.map fun x => D.tup [kD x.1, .int x.2]).length 0 [none, none, some (.ref S.length)] [] ⟨_, _, rfl⟩ (by simp)
 have el : ([] : List D) ++ (((cs.map fun x => D.tup [kD x.1, .int x.2]).drop 0).filter fun _ => true).map (fun d => match d with
     | .tup [a, b] => ((eB (gCmp .Eq) (eVar 1) (eDM gDGet (eVar 2) (aCons (eN gTup (aCons (eB gIx (eVar 0) (eC (.int 1))) (aCons (eB gIx (eVar 0) (eC (.int 0))) (aNil)))) (aCons (eC (.int 0)) (aNil)))) [some a, some b, some (.ref S.length)] T).map (·.1)).getD .non
     | _ => .non) = cs.map fun x => D.bl (entB cs x) := by
   rw [List.nil_append, List.drop_zero, List.filter_eq_self.mpr (fun _ _ => rfl), List.map_map]
   refine List.map_congr_left fun x hm => ?_
   simp only [Function.comp_apply]
   rw [one x hm]; rfl
 rw [el] at lc
 have bs := zdP (entB cs) cs
 have g2 : Gr S (T ++ [.lst (cs.map fun x => D.bl (entB cs x))]) := g.snoc (zbE.mpr fun x hx => by
   obtain ⟨y, _, rfl⟩ := List.mem_map.mp hx
   simp [D.lo])
 refine zak (σ' := [some (.ref n), some (.ref S.length), x1, x2]) (S' := T ++ [.lst (cs.map fun x => D.bl (entB cs x))]) ?_ g2.take rfl
 wtm_at "mx st"
 unfold zcI zc3 zc2 zc1
 refine zac (zah (x := .ref S.length) (S1 := S1) (by rw [← hS1]; rfl) rfl) (zad (zac (zcD (zaW (zaa rfl) n0) (zcb n0) e1) (zad (zac (za3 (zao (zab (zeC (zgE (zaa rfl) h) (zjx h) (Nat.le_trans hlen (Nat.le_trans (by decide) zb3)) rfl (by rw [List.length_map] at lc; exact lc)) zae) ?_)) za2))))
 have q := zbH (zaq (S := T)) bs
 rw [List.all_map] at q
 exact q
theorem zdC {k : Nat} {a b c : Pt} (ha : BdP k a) (hb : BdP k b) (hc : BdP k c) (hk : k ≤ 10000) (S : So) : za5 [.tup [pD a, pD b, pD c]] S = some (.int (det3 a b c), S) := by
 have bc := hb.cross hc
 have h1 := sp_vcross hb hc (by omega) S
 have h2 := sp_vdot ha bc (by omega) S
 unfold det3
 apply zak
 · wtm_at "mx st"
   unfold zcd
   wtm_at "mx ev"
 · wtm_at "mx take"
 · rfl
theorem zfU {s t : Tr} (h : trT s = trT t) : s = t := by
 obtain ⟨⟨a1, a2, a3⟩, ⟨b1, b2, b3⟩, ⟨c1, c2, c3⟩⟩ := s
 obtain ⟨⟨d1, d2, d3⟩, ⟨e1, e2, e3⟩, ⟨f1, f2, f3⟩⟩ := t
 have h' : D.tup [P3 a1 a2 a3, P3 b1 b2 b3, P3 c1 c2 c3] = D.tup [P3 d1 d2 d3, P3 e1 e2 e3, P3 f1 f2 f3] := h
 simp only [P3, D.tup.injEq, List.cons.injEq, D.int.injEq, and_true] at h'
 obtain ⟨⟨rfl, rfl, rfl⟩, ⟨rfl, rfl, rfl⟩, rfl, rfl, rfl⟩ := h'
 rfl
theorem zd9 {k : Nat} {ts : List Tr} {n : Nat} {S : So} (hS : WF S) (hn : S[n]? = some (.lst (ts.map trT))) (hl : ts.length ≤ 1000) (ht : ∀ t ∈ ts, BdP k t.1 ∧ BdP k t.2.1 ∧ BdP k t.2.2) (hk : k ≤ 3000) : zav [.ref n] S = some (.int (sixV ts), S) := by
 have lc := zgp (iv := 0) (src := [none]) (σ := [some (.ref n)]) (g := gNm 0) (rest := []) (fe := eN (nArgs 1 za5) (aCons (eVar 0) (aNil))) trT (fun t => .int (dT t)) (fun t => [some (trT t)]) (fun τ => ∃ v, τ = [v]) hn rfl ⟨_, rfl⟩
   (fun t _ τ ⟨v, e⟩ => by subst e; exact ⟨rfl, _, rfl⟩) (fun t m => zao (zab (zaa rfl) zae) (zag rfl (zdC (ht t m).1 (ht t m).2.1 (ht t m).2.2 (by omega) S))) (fun b _ c _ e => by rw [zfU e]) hl
 refine zak (σ' := [some (.ref n)]) (S' := S ++ [.lst (ts.map fun t => D.int (dT t))]) ?_ (by simp) rfl
 wtm_at "mx st"
 unfold zcu
 refine zac (za3 (zao (zab lc zae) ?_)) za2
 unfold gSum
 simp only [zaq]
 rw [zeh dT]
 rfl
theorem zgd : ∀ E : List (Pt × Pt), nksOf (E.map eD) = some (E.map eK)
 | [] => rfl
 | e :: r => by
   show (nkOf (eD e)).bind (fun k => (nksOf (r.map eD)).map fun l => k :: l) = _
   rw [zgd r]; rfl
theorem zfl {r : Nat} {U : So} {E : List (Pt × Pt)} (h : U[r]? = some (.lst (E.map eD))) (e : Pt × Pt) : gCount (.ref r) [eD e] U = some (.int (E.count e : Nat), U) := by
 unfold gCount
 simp only [h]
 rw [zgd]
 simp only [Option.bind_some]
 have : nkOf (eD e) = some (eK e) := rfl
 rw [this, Option.map_some, zdx]
theorem zlc {s t : Pt × Pt} (h : eD s = eD t) : s = t := by
 obtain ⟨⟨a1, a2, a3⟩, ⟨b1, b2, b3⟩⟩ := s
 obtain ⟨⟨d1, d2, d3⟩, ⟨e1, e2, e3⟩⟩ := t
 have h' : D.tup [P3 a1 a2 a3, P3 b1 b2 b3] = D.tup [P3 d1 d2 d3, P3 e1 e2 e3] := h
 simp only [P3, D.tup.injEq, List.cons.injEq, D.int.injEq, and_true] at h'
 obtain ⟨⟨rfl, rfl, rfl⟩, rfl, rfl, rfl⟩ := h'
 rfl
theorem zfx {ts : List Tr} {n : Nat} {S : So} (hS : WF S) (hn : S[n]? = some (.lst (ts.map trT))) (hl : ts.length ≤ 300) : zb7 [.ref n] S = some (.bl (closedB (edL ts)), S) := by
 have g0 : Gr S (S ++ [.lst []]) := (Gr.refl hS).snoc rfl
 have d0 : (S ++ [O.lst []])[S.length]? = some (.lst []) := zaq
 have n0 : (S ++ [O.lst []])[n]? = some (.lst (ts.map trT)) := zaF hn
 have s1 : zbr [some (.ref n), none, none, none, none] S = some (.nx, [some (.ref n), some (.ref S.length), none, none, none], S ++ [.lst []]) := by
   unfold zbr; rfl
 generalize S ++ [O.lst []] = S1 at *
 obtain ⟨σ', U, e1, hP⟩ := zcS (nx := nxD (.lst n)) (g := gTp 3 (gsCons (gNm 2) (gsCons (gNm 3) (gsCons (gNm 4) (gsNil))))) (f := za4) (xs := ts.map trT)
   (fun i σ U => (∃ r x2 x3 x4, σ = [some (.ref n), some (.ref r), x2, x3, x4] ∧ U[r]? = some (.lst ((edL (ts.take i)).map eD))) ∧ Gr S U)
   (fun i σ U ⟨_, g⟩ => by unfold nxD; simp only [g.old hn])
   (fun i d σ U hd ⟨⟨r, x2, x3, x4, hσ, hr⟩, g⟩ => by
     subst hσ
     rw [List.getElem?_map] at hd
     obtain ⟨t, ht, rfl⟩ := Option.map_eq_some_iff.mp hd
     obtain ⟨a, b, c⟩ := t
     have ga : Gr S (U ++ [.lst ((edE (a, b, c)).map eD)]) := g.snoc rfl
     have ra : (U ++ [O.lst ((edE (a, b, c)).map eD)])[r]? = some (.lst ((edL (ts.take i)).map eD)) := zaF hr
     have na : (U ++ [O.lst ((edE (a, b, c)).map eD)])[U.length]? = some (.lst ((edE (a, b, c)).map eD)) := zaq
     have e2 : eN gLst (aCons (eN gTup (aCons (eVar 2) (aCons (eVar 3) (aNil)))) (aCons (eN gTup (aCons (eVar 3) (aCons (eVar 4) (aNil)))) (aCons (eN gTup (aCons (eVar 4) (aCons (eVar 2) (aNil)))) (aNil)))) [some (.ref n), some (.ref r), some (pD a), some (pD b), some (pD c)] U = some (.ref U.length, U ++ [.lst ((edE (a, b, c)).map eD)]) := rfl
     generalize U ++ [O.lst ((edE (a, b, c)).map eD)] = U1 at *
     have hlen : ((edL (ts.take i)).map eD).length + ((edE (a, b, c)).map eD).length ≤ 1000 := by
       rw [List.length_map, List.length_map, zel, List.length_take]
       show _ + 3 ≤ 1000
       omega
     have ad := addLL (σ := [some (.ref n), some (.ref r), some (pD a), some (pD b), some (pD c)]) (fa := eVar 1) (S1 := U) (zaa rfl) e2 ra na hlen
     have el : (edL (ts.take i)).map eD ++ (edE (a, b, c)).map eD = (edL (ts.take (i + 1))).map eD := by rw [zfm ht, List.map_append]
     rw [el] at ad
     refine ⟨[some (.ref n), some (.ref r), some (pD a), some (pD b), some (pD c)], U, .nx, [some (.ref n), some (.ref U1.length), some (pD a), some (pD b), some (pD c)], U1 ++ [.lst ((edL (ts.take (i + 1))).map eD)], rfl, ?_, .inl rfl, ⟨U1.length, some (pD a), some (pD b), some (pD c), rfl, zaq⟩, ga.snoc ?_⟩
     · unfold za4 zbD
       exact zac (zah ad rfl) (zad zai)
     · refine zbE.mpr fun y hy => ?_
       obtain ⟨e, _, rfl⟩ := List.mem_map.mp hy
       rfl)
   (ts.map trT).length 0 [some (.ref n), some (.ref S.length), none, none, none] S1 ⟨⟨S.length, none, none, none, rfl, d0⟩, g0⟩ (by simp)
 obtain ⟨⟨r, x2, x3, x4, rfl, hr⟩, g⟩ := hP
 rw [List.length_map, List.take_length] at hr
 have hE := zel ts
 unfold closedB
 generalize edL ts = E at *
 have lc := zgp (iv := 1) (src := [none, some 1]) (σ := [some (.ref n), some (.ref r), x2, x3, x4]) (g := gNm 0) (rest := [some (.ref r)]) (fe := eB (gCmp .Eq) (eM gCount (eVar 1) (aCons (eVar 0) (aNil))) (eM gCount (eVar 1) (aCons (eN gTup (aCons (eB gIx (eVar 0) (eC (.int 1))) (aCons (eB gIx (eVar 0) (eC (.int 0))) (aNil)))) (aNil)))) eD (fun e => .bl (decide (E.count e = E.count (swp e)))) (fun e => [some (eD e)]) (fun τ => ∃ v, τ = [v, some (.ref r)]) hr rfl ⟨_, rfl⟩
   (fun e _ τ ⟨v, hv⟩ => by subst hv; exact ⟨rfl, _, rfl⟩)
   (fun e _ => by
     refine zaf (zeH (ds := [eD e]) (S2 := U) (zaa rfl) hr (zab (zaa rfl) zae) (zfl hr e)) (zeH (ds := [eD (swp e)]) (S2 := U) (zaa rfl) hr (zab (zao (zab (zaf (zaa rfl) zal (zap rfl)) (zab (zaf (zaa rfl) zal (zap rfl)) zae)) (zci (Nat.le_of_ble_eq_true rfl))) zae) (zfl hr (swp e))) ?_
     rw [zcX]
     congr 3
     by_cases h : E.count e = E.count (swp e)
     · rw [zds h, zds (by rw [h])]
     · rw [ze4 h, ze4 (by omega)])
   (fun b _ c _ e => by rw [zlc e]) (by omega)
 have bs := zdP (fun e => decide (E.count e = E.count (swp e))) E
 have g2 : Gr S (U ++ [.lst (E.map fun e => D.bl (decide (E.count e = E.count (swp e))))]) := g.snoc (zbE.mpr fun x hx => by
   obtain ⟨y, _, rfl⟩ := List.mem_map.mp hx
   simp [D.lo])
 refine zak (σ' := [some (.ref n), some (.ref r), x2, x3, x4]) (S' := U ++ [.lst (E.map fun e => D.bl (decide (E.count e = E.count (swp e))))]) ?_ g2.take rfl
 wtm_at "mx st"
 unfold zcg zcz zcy
 refine zac s1 (zad (zac (zcD (zaW (zaa rfl) n0) (zcb n0) e1) (zad (zac (za3 (zao (zab lc zae) ?_)) za2))))
 have q := zbH (zaq (S := U)) bs
 rw [List.all_map] at q
 exact q
end MX.P
end
section
set_option autoImplicit false
local macro_rules | `(tactic| wtm_at "mx op") => `(tactic| first
 | (with_reducible exact zaE) | ((with_reducible apply MX.P.ev_pow); (focus decide); (focus first | (simp only [Int.reduceToNat, Int.reducePow]; rfl) | rfl)) | (with_reducible exact zcU) | (with_reducible exact zeA) | (with_reducible exact zeB) | (with_reducible exact zeE) | (with_reducible exact zeF) | (with_reducible exact zcX) | (with_reducible exact zdL) | (with_reducible exact zeD) | (with_reducible exact zbB) | (with_reducible exact zdl)
 | ((with_reducible apply zaZ); wtm_at "mx side") | ((with_reducible apply zaC); wtm_at "mx side") | ((with_reducible apply zaN); first | decide | wtm_at "mx side") | ((with_reducible apply zcV); decide)
 | ((with_reducible apply zap); first | (with_reducible assumption) | rfl) | ((with_reducible apply zb0); (focus wtm_at "mx so"); (focus first | (with_reducible assumption) | rfl)) | ((with_reducible apply zcW); (focus wtm_at "mx so"); (focus first | (with_reducible assumption) | rfl))
 | (refine zdo ?_ 8 ?_ ?_ ?_ <;> first | decide +kernel | rfl | decide) | (refine zdm ?_ 8 ?_ ?_ ?_ <;> first | decide +kernel | rfl | decide))
local macro_rules | `(tactic| wtm_at "mx fn") => `(tactic| first
 | (with_reducible exact MX.P.ev_int) | ((with_reducible apply zci); exact Nat.le_of_ble_eq_true rfl) | ((with_reducible apply zdn); exact Nat.le_of_ble_eq_true rfl) | (with_reducible exact zct) | (with_reducible exact zbu) | (with_reducible exact zbx) | (with_reducible exact zb8) | (with_reducible exact zb9) | (with_reducible exact ev_abs) | (with_reducible exact zbA)
 | ((with_reducible apply zbG); wtm_at "mx so") | ((with_reducible apply za9); wtm_at "mx so") | ((with_reducible apply zau); wtm_at "mx so") | ((with_reducible apply zaV); wtm_at "mx so")
 | ((with_reducible apply zbH); (focus wtm_at "mx so"); (focus rfl)) | ((with_reducible apply zbw); (focus wtm_at "mx so"); (focus rfl); (focus rfl)) | ((with_reducible apply zbz); (focus wtm_at "mx so"); (focus rfl); (focus rfl)) | ((with_reducible apply zbv); (focus rfl); (focus rfl)) | ((with_reducible apply zby); (focus rfl); (focus rfl))
 | ((with_reducible apply zag); (focus rfl); (focus wtm_at "mx call")))
local macro_rules | `(tactic| wtm_at "mx call") => `(tactic| (with_reducible assumption))
namespace MX.P
open PySem L2 MX
theorem zh4 {x y : Bool} {S : So} : gCmp .NotEq (.bl x) (.bl y) S = some (.bl (x != y), S) := by cases x <;> cases y <;> rfl
theorem zbV (j : Nat) (l : List Tr) : O.lo j (.lst (l.map trT)) = true := zbE.mpr fun y hy => by
 obtain ⟨t, _, rfl⟩ := List.mem_map.mp hy
 rfl
theorem zfZ {box : D} {ab : Bool} {m : Nat} {n : Int} {t : Tr} {S V : So} {ms : List Tr} (g : Gr S V) (hm : V[m]? = some (.lst (ms.map trT))) (hS : S.length ≤ m) (hl : ms.length ≤ 500) :
   zaR [some box, some (.bl ab), some (.ref m), some (.int n), some (pD t.1), some (pD t.2.1), some (pD t.2.2)] V = some (.nx, [some box, some (.bl ab), some (.ref m), some (.int n), some (pD t.1), some (pD t.2.1), some (pD t.2.2)], V.set m (.lst ((ms ++ [sw (decide (n.fmod 2 = 0) != ab) t]).map trT))) ∧ Gr S (V.set m (.lst ((ms ++ [sw (decide (n.fmod 2 = 0) != ab) t]).map trT))) ∧ (V.set m (.lst ((ms ++ [sw (decide (n.fmod 2 = 0) != ab) t]).map trT)))[m]? = some (.lst ((ms ++ [sw (decide (n.fmod 2 = 0) != ab) t]).map trT)) := by
 refine ⟨?_, g.set hS (zbV _ _), List.getElem?_set_self (List.getElem?_eq_some_iff.mp hm).1⟩
 have hz : (ms.map trT).length < sizeLine := by rw [List.length_map]; exact Nat.lt_of_le_of_lt hl (Nat.lt_of_lt_of_le (by decide) zb3)
 have t1 : tBl (eB (gCmp .NotEq) (eB (gCmp .Eq) (eB (gBin .Mod) (eVar 3) (eC (.int 2))) (eC (.int 0))) (eVar 1)) [some box, some (.bl ab), some (.ref m), some (.int n), some (pD t.1), some (pD t.2.1), some (pD t.2.2)] V = some (decide (n.fmod 2 = 0) != ab, V) := zcs (zaf (zaf (zaf (zaa rfl) zal (zaC (by decide))) zal zcX) (zaa rfl) zh4)
 unfold zaR zbi
 rw [List.map_append]
 generalize (decide (n.fmod 2 = 0) != ab) = b at *
 cases b with
 | true => exact zac (zaM t1 (zcm rfl (zac (zbt (zeH (ds := [.tup [pD t.1, pD t.2.2, pD t.2.1]]) (S2 := V) (zaa rfl) hm rfl (zcY hm hz rfl))) (zad zai)))) (zad zai)
 | false => exact zac (zaM t1 (za8 rfl (zac (zbt (zeH (ds := [.tup [pD t.1, pD t.2.1, pD t.2.2]]) (S2 := V) (zaa rfl) hm rfl (zcY hm hz rfl))) (zad zai)))) (zad zai)
theorem zbU {box : D} {ab : Bool} {m q : Nat} {n k s : Int} {t1 t2 : Tr} {S U V : So} {ms : List Tr} {x4 x5 x6 : Option D} (hk : n.fdiv 2 = k) (hs : n.fmod 2 = s) (hf : zaJ [box, .int k, .int s] U = some (.ref q, V)) (gv : Gr U V) (g : Gr S U) (hq : V[q]? = some (.lst ([t1, t2].map trT))) (hm : U[m]? = some (.lst (ms.map trT))) (hS : S.length ≤ m) (hmq : m ≠ q) (hl : ms.length ≤ 400) :
   ∃ U' y4 y5 y6, zbR [some box, some (.bl ab), some (.ref m), some (.int n), x4, x5, x6] U = some (.nx, [some box, some (.bl ab), some (.ref m), some (.int n), y4, y5, y6], U') ∧ Gr S U' ∧ U'[m]? = some (.lst ((ms ++ [t1, t2].map (sw (decide (n.fmod 2 = 0) != ab))).map trT)) := by
 obtain ⟨a1, a2, a3⟩ := zfZ (box := box) (ab := ab) (n := n) (t := t1) (g.trans gv) (gv.old hm) hS (by omega)
 have q1 : (V.set m (.lst ((ms ++ [sw (decide (n.fmod 2 = 0) != ab) t1]).map trT)))[q]? = some (.lst ([t1, t2].map trT)) := by rw [List.getElem?_set_ne hmq]; exact hq
 generalize V.set m (.lst ((ms ++ [sw (decide (n.fmod 2 = 0) != ab) t1]).map trT)) = V1 at *
 obtain ⟨b1, b2, b3⟩ := zfZ (box := box) (ab := ab) (n := n) (t := t2) a2 a3 hS (by rw [List.length_append]; show _ + 1 ≤ 500; omega)
 have q2 : (V1.set m (.lst ((ms ++ [sw (decide (n.fmod 2 = 0) != ab) t1] ++ [sw (decide (n.fmod 2 = 0) != ab) t2]).map trT)))[q]? = some (.lst ([t1, t2].map trT)) := by rw [List.getElem?_set_ne hmq]; exact q1
 have el : ms ++ [sw (decide (n.fmod 2 = 0) != ab) t1] ++ [sw (decide (n.fmod 2 = 0) != ab) t2] = ms ++ [t1, t2].map (sw (decide (n.fmod 2 = 0) != ab)) := by simp
 rw [el] at b1 b2 b3 q2
 generalize V1.set m (.lst ((ms ++ [t1, t2].map (sw (decide (n.fmod 2 = 0) != ab))).map trT)) = V2 at *
 refine ⟨V2, some (pD t2.1), some (pD t2.2.1), some (pD t2.2.2), ?_, b2, b3⟩
 unfold zbR zck
 refine zac (zcD (j := .lst q) (n := 2) (S1 := V) (zaW (zao (zab (zaa rfl) (zab (zaf (zaa rfl) zal (zaN (by decide))) (zab (zaf (zaa rfl) zal (zaC (by decide))) zae))) (zag rfl (by rw [hk, hs]; exact hf))) hq) (zcb hq) ?_) (zad zai)
 exact zay (d := trT t1) (zaY hq rfl) rfl a1 (zax (zay (d := trT t2) (zaY q1 rfl) rfl b1 (zax (zde (zdH q2 rfl)))))
theorem zig {lo hi : Pt} {ab : Bool} {S : So} (hS : WF S) : ∃ n T, zb4 [.tup [pD lo, pD hi], .bl ab] S = some (.ref n, T) ∧ Gr S T ∧ T[n]? = some (.lst ((skinL lo hi ab).map trT)) := by
 have g0 : Gr S (S ++ [.lst []]) := (Gr.refl hS).snoc rfl
 have m0 : (S ++ [O.lst []])[S.length]? = some (.lst (([] : List Tr).map trT)) := zaq
 have s1 : zce [some (.tup [pD lo, pD hi]), some (.bl ab), none, none, none, none, none] S = some (.nx, [some (.tup [pD lo, pD hi]), some (.bl ab), some (.ref S.length), none, none, none, none], S ++ [.lst []]) := by
   unfold zce; rfl
 generalize S ++ [O.lst []] = U0 at *
 have lt : ∀ {U : So} {ms : List Tr}, U[S.length]? = some (.lst (ms.map trT)) → S.length < U.length := fun h => (List.getElem?_eq_some_iff.mp h).1
 have sz : ∀ b : Bool, ([] : List Tr) ++ (trs 0 lo hi lo.1).map (sw b) = (trs 0 lo hi lo.1).map (sw b) := fun b => rfl
 obtain ⟨q1, V1, f1, h1, r1, l1⟩ := zfe (lo := lo) (hi := hi) (F := lo) (s := 0) g0.2 rfl
 obtain ⟨U1, a4, a5, a6, e1, g1, m1⟩ := zbU (ab := ab) (n := 0) (x4 := none) (x5 := none) (x6 := none) (by decide) (by decide) f1 h1 g0 r1 m0 (Nat.le_refl _) (by have := lt m0; omega) (by decide)
 obtain ⟨q2, V2, f2, h2, r2, l2⟩ := zfe (lo := lo) (hi := hi) (F := hi) (s := 1) g1.2 rfl
 obtain ⟨U2, b4, b5, b6, e2, g2, m2⟩ := zbU (ab := ab) (n := 1) (x4 := a4) (x5 := a5) (x6 := a6) (by decide) (by decide) f2 h2 g1 r2 m1 (Nat.le_refl _) (by have := lt m1; omega) (by show 2 ≤ 400; decide)
 obtain ⟨q3, V3, f3, h3, r3, l3⟩ := zfd (lo := lo) (hi := hi) (F := lo) (s := 0) g2.2 rfl
 obtain ⟨U3, c4, c5, c6, e3, g3, m3⟩ := zbU (ab := ab) (n := 2) (x4 := b4) (x5 := b5) (x6 := b6) (by decide) (by decide) f3 h3 g2 r3 m2 (Nat.le_refl _) (by have := lt m2; omega) (by show 4 ≤ 400; decide)
 obtain ⟨q4, V4, f4, h4, r4, l4⟩ := zfd (lo := lo) (hi := hi) (F := hi) (s := 1) g3.2 rfl
 obtain ⟨U4, d4, d5, d6, e4, g4, m4⟩ := zbU (ab := ab) (n := 3) (x4 := c4) (x5 := c5) (x6 := c6) (by decide) (by decide) f4 h4 g3 r4 m3 (Nat.le_refl _) (by have := lt m3; omega) (by show 6 ≤ 400; decide)
 obtain ⟨q5, V5, f5, h5, r5, l5⟩ := zfc (lo := lo) (hi := hi) (F := lo) (s := 0) g4.2 rfl
 obtain ⟨U5, i4, i5, i6, e5, g5, m5⟩ := zbU (ab := ab) (n := 4) (x4 := d4) (x5 := d5) (x6 := d6) (by decide) (by decide) f5 h5 g4 r5 m4 (Nat.le_refl _) (by have := lt m4; omega) (by show 8 ≤ 400; decide)
 obtain ⟨q6, V6, f6, h6, r6, l6⟩ := zfc (lo := lo) (hi := hi) (F := hi) (s := 1) g5.2 rfl
 obtain ⟨U6, j4, j5, j6, e6, g6, m6⟩ := zbU (ab := ab) (n := 5) (x4 := i4) (x5 := i5) (x6 := i6) (by decide) (by decide) f6 h6 g5 r6 m5 (Nat.le_refl _) (by have := lt m5; omega) (by show 10 ≤ 400; decide)
 refine ⟨S.length, U6, ?_, g6, m6⟩
 have ln : S.length < U6.length := lt m6
 refine zcG (S := S) (σ' := [some (.tup [pD lo, pD hi]), some (.bl ab), some (.ref S.length), some (.int 5), j4, j5, j6]) (S' := U6) ?_ (fun z => ?_) (by omega) (by simp only [D.lo, decide_eq_true_eq]; exact ln) g6.2
 · wtm_at "mx st"
   unfold zcL zc5 zc4
   refine zac s1 (zad (zac (zcD (zdd (j := 6) (zab zal zae) (by decide)) (n := 6) rfl ?_) (zad (zac (za3 (zaa rfl)) za2))))
   exact zay (zcC (z := 0) (by decide) rfl) rfl e1 (zax (zay (zcC (z := 1) (by decide) rfl) rfl e2 (zax (zay (zcC (z := 2) (by decide) rfl) rfl e3 (zax (zay (zcC (z := 3) (by decide) rfl) rfl e4 (zax (zay (zcC (z := 4) (by decide) rfl) rfl e5 (zax (zay (zcC (z := 5) (by decide) rfl) rfl e6 (zax (zde rfl))))))))))))
 · have := z.2
   simp only [D.lo, decide_eq_true_eq] at this
   omega
theorem zge {p far : Pt} (T : So) : eN gTuple (aCons (eLc (iRg1 (aCons (eC (.int 3)) (aNil))) (gNm 0) (tTru) (eB (gBin .Add) (eB gIx (eVar 2) (eVar 0)) (eB gIx (eVar 1) (eVar 0))) [none, some 1, some 0]) (aNil)) [some (pD p), some (pD far)] T = some (pD (padd p far), T ++ [.lst [.int (p.1 + far.1), .int (p.2.1 + far.2.1), .int (p.2.2 + far.2.2)]]) :=
 zao (zab (zeC (j := .fix (rangeD 0 3)) (n := 3) (S1 := T) (zdd (j := 3) (zab zal zae) (by decide)) rfl (by decide) rfl (za0 (zcC (z := 0) (by decide) rfl) rfl zaB (zaf (zaf (zaa rfl) (zaa rfl) (zap rfl)) (zaf (zaa rfl) (zaa rfl) (zap rfl)) zaE) rfl (za0 (zcC (z := 1) (by decide) rfl) rfl zaB (zaf (zaf (zaa rfl) (zaa rfl) (zap rfl)) (zaf (zaa rfl) (zaa rfl) (zap rfl)) zaE) rfl (za0 (zcC (z := 2) (by decide) rfl) rfl zaB (zaf (zaf (zaa rfl) (zaa rfl) (zap rfl)) (zaf (zaa rfl) (zaa rfl) (zap rfl)) zaE) rfl (zd4 rfl))))) zae) (zau zaq)
theorem zja {n m : Nat} {far : Pt} {t : Tr} {ms : List Tr} {S U : So} (g : Gr S U) (hm : U[m]? = some (.lst (ms.map trT))) (hS : S.length ≤ m) (hl : ms.length ≤ 500) :
   ∃ U', zaK [some (.ref n), some (pD far), some (.ref m), some (pD t.1), some (pD t.2.1), some (pD t.2.2)] U = some (.nx, [some (.ref n), some (pD far), some (.ref m), some (pD t.1), some (pD t.2.1), some (pD t.2.2)], U') ∧ Gr S U' ∧ U'[m]? = some (.lst ((ms ++ [mvT far t]).map trT)) := by
 obtain ⟨a, b, c⟩ := t
 have e0 : iVal (eN gLst (aCons (eVar 3) (aCons (eVar 4) (aCons (eVar 5) (aNil))))) [some (.ref n), some (pD far), some (.ref m), some (pD a), some (pD b), some (pD c)] U = some (.lst U.length, U ++ [.lst [pD a, pD b, pD c]]) := zaW rfl zaq
 have g0 := g.snoc (o := .lst [pD a, pD b, pD c]) rfl
 have n0 : (U ++ [O.lst [pD a, pD b, pD c]])[U.length]? = some (.lst [pD a, pD b, pD c]) := zaq
 have m0 : (U ++ [O.lst [pD a, pD b, pD c]])[m]? = some (.lst (ms.map trT)) := zaF hm
 generalize hu : U.length = l at *
 generalize U ++ [O.lst [pD a, pD b, pD c]] = U0 at *
 have k1 := zge (p := a) (far := far) U0
 have g1 := g0.snoc (o := .lst [.int (a.1 + far.1), .int (a.2.1 + far.2.1), .int (a.2.2 + far.2.2)]) rfl
 have n1 : (U0 ++ [O.lst [.int (a.1 + far.1), .int (a.2.1 + far.2.1), .int (a.2.2 + far.2.2)]])[l]? = some (.lst [pD a, pD b, pD c]) := zaF n0
 have m1 : (U0 ++ [O.lst [.int (a.1 + far.1), .int (a.2.1 + far.2.1), .int (a.2.2 + far.2.2)]])[m]? = some (.lst (ms.map trT)) := zaF m0
 generalize U0 ++ [O.lst [.int (a.1 + far.1), .int (a.2.1 + far.2.1), .int (a.2.2 + far.2.2)]] = U1 at *
 have k2 := zge (p := b) (far := far) U1
 have g2 := g1.snoc (o := .lst [.int (b.1 + far.1), .int (b.2.1 + far.2.1), .int (b.2.2 + far.2.2)]) rfl
 have n2 : (U1 ++ [O.lst [.int (b.1 + far.1), .int (b.2.1 + far.2.1), .int (b.2.2 + far.2.2)]])[l]? = some (.lst [pD a, pD b, pD c]) := zaF n1
 have m2 : (U1 ++ [O.lst [.int (b.1 + far.1), .int (b.2.1 + far.2.1), .int (b.2.2 + far.2.2)]])[m]? = some (.lst (ms.map trT)) := zaF m1
 generalize U1 ++ [O.lst [.int (b.1 + far.1), .int (b.2.1 + far.2.1), .int (b.2.2 + far.2.2)]] = U2 at *
 have k3 := zge (p := c) (far := far) U2
 have g3 := g2.snoc (o := .lst [.int (c.1 + far.1), .int (c.2.1 + far.2.1), .int (c.2.2 + far.2.2)]) rfl
 have n3 : (U2 ++ [O.lst [.int (c.1 + far.1), .int (c.2.1 + far.2.1), .int (c.2.2 + far.2.2)]])[l]? = some (.lst [pD a, pD b, pD c]) := zaF n2
 have m3 : (U2 ++ [O.lst [.int (c.1 + far.1), .int (c.2.1 + far.2.1), .int (c.2.2 + far.2.2)]])[m]? = some (.lst (ms.map trT)) := zaF m2
 generalize U2 ++ [O.lst [.int (c.1 + far.1), .int (c.2.1 + far.2.1), .int (c.2.2 + far.2.2)]] = U3 at *
 have g4 := g3.snoc (o := .lst [pD (padd a far), pD (padd b far), pD (padd c far)]) rfl
 have m4 : (U3 ++ [O.lst [pD (padd a far), pD (padd b far), pD (padd c far)]])[m]? = some (.lst (ms.map trT)) := zaF m3
 have lc : eN gTuple (aCons (eLc (iVal (eN gLst (aCons (eVar 3) (aCons (eVar 4) (aCons (eVar 5) (aNil)))))) (gNm 0) (tTru) (eN gTuple (aCons (eLc (iRg1 (aCons (eC (.int 3)) (aNil))) (gNm 0) (tTru) (eB (gBin .Add) (eB gIx (eVar 2) (eVar 0)) (eB gIx (eVar 1) (eVar 0))) [none, some 1, some 0]) (aNil))) [none, some 1]) (aNil)) [some (.ref n), some (pD far), some (.ref m), some (pD a), some (pD b), some (pD c)] U = some (trT (mvT far (a, b, c)), U3 ++ [.lst [pD (padd a far), pD (padd b far), pD (padd c far)]]) :=
   zao (zab (zeC (j := .lst l) (n := 3) (S1 := U0) e0 (zcb n0) (by decide) rfl (za0 (zaY n0 rfl) rfl zaB k1 rfl (za0 (zaY n1 rfl) rfl zaB k2 rfl (za0 (zaY n2 rfl) rfl zaB k3 rfl (zd4 (zdH n3 rfl)))))) zae) (zau zaq)
 generalize U3 ++ [O.lst [pD (padd a far), pD (padd b far), pD (padd c far)]] = U4 at *
 have hz : (ms.map trT).length < sizeLine := by rw [List.length_map]; exact Nat.lt_of_le_of_lt hl (Nat.lt_of_lt_of_le (by decide) zb3)
 refine ⟨U4.set m (.lst ((ms ++ [mvT far (a, b, c)]).map trT)), ?_, g4.set hS (zbV _ _), List.getElem?_set_self (List.getElem?_eq_some_iff.mp m4).1⟩
 unfold zaK zb1
 rw [List.map_append]
 exact zac (zbt (zeH (ds := [trT (mvT far (a, b, c))]) (S2 := U4) (zaa rfl) hm (zab lc zae) (zcY m4 hz rfl))) (zad zai)
theorem zg4 {ts : List Tr} {far : Pt} {n : Nat} {S : So} (hS : WF S) (hn : S[n]? = some (.lst (ts.map trT))) (hl : ts.length ≤ 300) : ∃ m T, zcp [.ref n, pD far] S = some (.ref m, T) ∧ Gr S T ∧ T[m]? = some (.lst ((ts.map (mvT far)).map trT)) := by
 have g0 : Gr S (S ++ [.lst []]) := (Gr.refl hS).snoc rfl
 have d0 : (S ++ [O.lst []])[S.length]? = some (.lst []) := zaq
 have n0 : (S ++ [O.lst []])[n]? = some (.lst (ts.map trT)) := zaF hn
 have s1 : zbS [some (.ref n), some (pD far), none, none, none, none] S = some (.nx, [some (.ref n), some (pD far), some (.ref S.length), none, none, none], S ++ [.lst []]) := by
   unfold zbS; rfl
 generalize S ++ [O.lst []] = S1 at *
 obtain ⟨σ', U, e1, hP⟩ := zcS (nx := nxD (.lst n)) (g := gTp 3 (gsCons (gNm 3) (gsCons (gNm 4) (gsCons (gNm 5) (gsNil))))) (f := zaK) (xs := ts.map trT)
   (fun i σ U => (∃ x3 x4 x5, σ = [some (.ref n), some (pD far), some (.ref S.length), x3, x4, x5]) ∧ U[S.length]? = some (.lst (((ts.take i).map (mvT far)).map trT)) ∧ Gr S U)
   (fun i σ U ⟨_, _, g⟩ => by unfold nxD; simp only [g.old hn])
   (fun i d σ U hd ⟨⟨x3, x4, x5, hσ⟩, hr, g⟩ => by
     subst hσ
     rw [List.getElem?_map] at hd
     obtain ⟨t, ht, rfl⟩ := Option.map_eq_some_iff.mp hd
     obtain ⟨U', e, g', h'⟩ := zja (n := n) (far := far) (t := t) g hr (Nat.le_refl _) (by rw [List.length_map, List.length_take]; omega)
     refine ⟨[some (.ref n), some (pD far), some (.ref S.length), some (pD t.1), some (pD t.2.1), some (pD t.2.2)], U, .nx, _, U', rfl, e, .inl rfl, ⟨_, _, _, rfl⟩, ?_, g'⟩
     rw [h']
     have : ts.take (i + 1) = ts.take i ++ [t] := by
       obtain ⟨k1, k2⟩ := List.getElem?_eq_some_iff.mp ht
       rw [← k2]; simp
     rw [this]; simp)
   (ts.map trT).length 0 [some (.ref n), some (pD far), some (.ref S.length), none, none, none] S1 ⟨⟨none, none, none, rfl⟩, d0, g0⟩ (by simp)
 obtain ⟨⟨x3, x4, x5, rfl⟩, hr, g⟩ := hP
 rw [List.length_map, List.take_length] at hr
 have ln : S.length < U.length := (List.getElem?_eq_some_iff.mp hr).1
 refine ⟨S.length, U, ?_, g, hr⟩
 refine zcG (S := S) (σ' := [some (.ref n), some (pD far), some (.ref S.length), x3, x4, x5]) (S' := U) ?_ (fun z => ?_) (by omega) (by simp only [D.lo, decide_eq_true_eq]; exact ln) g.2
 · wtm_at "mx st"
   unfold zcw zcF zcE
   exact zac s1 (zad (zac (zcD (zaW (zaa rfl) n0) (zcb n0) e1) (zad (zac (za3 (zaa rfl)) za2))))
 · have := z.2
   simp only [D.lo, decide_eq_true_eq] at this
   omega
end MX.P
end
section
set_option autoImplicit false
local macro_rules | `(tactic| wtm_at "mx op") => `(tactic| first
 | (with_reducible exact zaE) | ((with_reducible apply MX.P.ev_pow); (focus decide); (focus first | (simp only [Int.reduceToNat, Int.reducePow]; rfl) | rfl)) | (with_reducible exact zcU) | (with_reducible exact zeA) | (with_reducible exact zeB) | (with_reducible exact zeE) | (with_reducible exact zeF) | (with_reducible exact zcX) | (with_reducible exact zdL) | (with_reducible exact zeD) | (with_reducible exact zbB) | (with_reducible exact zdl)
 | ((with_reducible apply zaZ); wtm_at "mx side") | ((with_reducible apply zaC); wtm_at "mx side") | ((with_reducible apply zaN); first | decide | wtm_at "mx side") | ((with_reducible apply zcV); decide)
 | ((with_reducible apply zap); first | (with_reducible assumption) | rfl) | ((with_reducible apply zb0); (focus wtm_at "mx so"); (focus first | (with_reducible assumption) | rfl)) | ((with_reducible apply zcW); (focus wtm_at "mx so"); (focus first | (with_reducible assumption) | rfl))
 | (refine zdo ?_ 8 ?_ ?_ ?_ <;> first | decide +kernel | rfl | decide) | (refine zdm ?_ 8 ?_ ?_ ?_ <;> first | decide +kernel | rfl | decide))
local macro_rules | `(tactic| wtm_at "mx fn") => `(tactic| first
 | (with_reducible exact MX.P.ev_int) | ((with_reducible apply zci); exact Nat.le_of_ble_eq_true rfl) | ((with_reducible apply zdn); exact Nat.le_of_ble_eq_true rfl) | (with_reducible exact zct) | (with_reducible exact zbu) | (with_reducible exact zbx) | (with_reducible exact zb8) | (with_reducible exact zb9) | (with_reducible exact ev_abs) | (with_reducible exact zbA)
 | ((with_reducible apply zbG); wtm_at "mx so") | ((with_reducible apply za9); wtm_at "mx so") | ((with_reducible apply zau); wtm_at "mx so") | ((with_reducible apply zaV); wtm_at "mx so")
 | ((with_reducible apply zbH); (focus wtm_at "mx so"); (focus rfl)) | ((with_reducible apply zbw); (focus wtm_at "mx so"); (focus rfl); (focus rfl)) | ((with_reducible apply zbz); (focus wtm_at "mx so"); (focus rfl); (focus rfl)) | ((with_reducible apply zbv); (focus rfl); (focus rfl)) | ((with_reducible apply zby); (focus rfl); (focus rfl))
 | ((with_reducible apply zag); (focus rfl); (focus wtm_at "mx call")))
local macro_rules | `(tactic| wtm_at "mx call") => `(tactic| (with_reducible assumption))
namespace MX.P
open PySem L2 MX
theorem zjq {n : Nat} {xs : List D} {i : Int} {d : D} {S : So} (h1 : S[n]? = some (.lst xs)) (h0 : 0 ≤ i) (h2 : i < xs.length) (hz : xs.length ≤ 1000) (hd : xs[i.toNat]? = some d) : gPop (.ref n) [.int i] S = some (d, S.set n (.lst (xs.eraseIdx i.toNat))) := by
 unfold gPop
 simp only [h1]
 have e : seqIndex? i xs.length = some i.toNat := seqIndex_of h0 h2
 rw [if_pos (by omega), e]
 simp only [Option.bind_some, hd, Option.map_some]
theorem zk4 {n : Nat} {xs : List D} {i : Int} {d : D} {S : So} (h1 : S[n]? = some (.lst xs)) (h0 : 0 ≤ i) (h2 : i ≤ xs.length) (hz : xs.length ≤ 1000) : gInsert (.ref n) [.int i, d] S = some (.non, S.set n (.lst (xs.take i.toNat ++ d :: xs.drop i.toNat))) := by
 unfold gInsert
 simp only [h1]
 rw [if_pos ⟨h0, h2, Nat.lt_of_le_of_lt hz (Nat.lt_of_lt_of_le (by decide) zb3)⟩]
theorem zk2 {n : Nat} {xs : List D} {S : So} (h1 : S[n]? = some (.lst xs)) : gReverse (.ref n) [] S = some (.non, S.set n (.lst xs.reverse)) := by
 unfold gReverse
 simp only [h1]
theorem zk9 {g : GM} {fo : EF} {σ : Sg} {S S1 : So} {n : Nat} {xs : List D} {r : Option (D × So)} (h1 : fo σ S = some (.ref n, S1)) (h2 : S1[n]? = some (.lst xs)) (h3 : g (.ref n) [] S1 = r) : eM0 g fo σ S = r := by
 unfold eM0
 rw [h1]; simp only [Option.bind_some]; rw [h2]; exact h3
def allC (P : Pt → Prop) (ts : List Tr) : Prop := ∀ t ∈ ts, P t.1 ∧ P t.2.1 ∧ P t.2.2
theorem zfW {ts : List Tr} {n : Nat} {more : Int} {S : So} (hS : WF S) (hn : S[n]? = some (.lst (ts.map trT))) (l1 : 1 ≤ ts.length) (l2 : ts.length ≤ 200) :
   ∃ es m T, zb6 [.ref n, .int more] S = some (.ref m, T) ∧ Gr S T ∧ T[m]? = some (.lst (es.map trT)) ∧ es.length ≤ 250 ∧ ∀ P, allC P ts → allC P es := by
 have g1 : Gr S (S ++ [.lst (ts.map trT)]) := (Gr.refl hS).snoc (zbV _ _)
 have m1 : (S ++ [O.lst (ts.map trT)])[S.length]? = some (.lst (ts.map trT)) := zaq
 have s1 : zbq [some (.ref n), some (.int more), none, none, none, none, none] S = some (.nx, [some (.ref n), some (.int more), some (.ref S.length), none, none, none, none], S ++ [.lst (ts.map trT)]) := by
   unfold zbq
   exact zah (zao (zab (zaa rfl) zae) (zaV hn)) rfl
 generalize S ++ [O.lst (ts.map trT)] = S1 at *
 have lp : (0 : Int) < ((ts.map trT).length : Int) := by rw [List.length_map]; omega
 have i0 := Int.fmod_nonneg_of_pos (more.fdiv 5) lp
 have i1 := Int.fmod_lt_of_pos (more.fdiv 5) lp
 have s2 : zbp [some (.ref n), some (.int more), some (.ref S.length), none, none, none, none] S1 = some (.nx, [some (.ref n), some (.int more), some (.ref S.length), some (.int ((more.fdiv 5).fmod ((ts.map trT).length : Int))), none, none, none], S1) := by
   unfold zbp
   exact zah (zaf (zaf (zaa rfl) zal (zaN (by decide))) (zao (zab (zaa rfl) zae) (zbG m1)) (zaC (by omega))) rfl
 generalize (more.fdiv 5).fmod ((ts.map trT).length : Int) = i at *
 have il : i.toNat < ts.length := by rw [List.length_map] at i1; omega
 obtain ⟨t, ht⟩ : ∃ t, ts[i.toNat]? = some t := ⟨_, List.getElem?_eq_getElem il⟩
 have tm : t ∈ ts := List.mem_of_getElem? ht
 have hti : (ts.map trT)[i.toNat]? = some (trT t) := by rw [List.getElem?_map, ht]; rfl
 have hx : ixN (ts.map trT).length i = some i.toNat := by unfold ixN; rw [if_pos i0, if_pos i1]
 have ha : atI (ts.map trT) i = some (trT t) := by unfold atI; rw [hx]; exact hti
 have s3 : zbo [some (.ref n), some (.int more), some (.ref S.length), some (.int i), none, none, none] S1 = some (.nx, [some (.ref n), some (.int more), some (.ref S.length), some (.int i), some (pD t.1), some (pD t.2.1), some (pD t.2.2)], S1) := by
   unfold zbo
   exact zah (zaf (zaa rfl) (zaa rfl) (zb0 m1 ha)) rfl
 have tst : ∀ (c : Int) (r : Nat) (T : So), tBl (eB (gCmp .Eq) (eB (gBin .Mod) (eVar 1) (eC (.int 5))) (eC (.int c))) [some (.ref n), some (.int more), some (.ref r), some (.int i), some (pD t.1), some (pD t.2.1), some (pD t.2.2)] T = some (decide (more.fmod 5 = c), T) := fun c r T => zcs (zaf (zaf (zaa rfl) zal (zaC (by decide))) zal zcX)
 have r0 := Int.fmod_nonneg_of_pos more (show (0 : Int) < 5 by decide)
 have r1 := Int.fmod_lt_of_pos more (show (0 : Int) < 5 by decide)
 generalize more.fmod 5 = w at *
 have skip : ∀ {c : Int} {r : Nat} {T : So} {f : SF}, ¬ w = c → sIf (tBl (eB (gCmp .Eq) (eB (gBin .Mod) (eVar 1) (eC (.int 5))) (eC (.int c)))) f sPass [some (.ref n), some (.int more), some (.ref r), some (.int i), some (pD t.1), some (pD t.2.1), some (pD t.2.2)] T = some (.nx, [some (.ref n), some (.int more), some (.ref r), some (.int i), some (pD t.1), some (pD t.2.1), some (pD t.2.2)], T) := fun {c r T f} h => by
   have t' := tst c r T
   rw [ze4 h] at t'
   exact zaM t' (za8 rfl zai)
 have hz : (ts.map trT).length ≤ 1000 := by rw [List.length_map]; omega
 have ml : S.length < S1.length := (List.getElem?_eq_some_iff.mp m1).1
 have key : ∃ es r T, Gr S T ∧ S.length ≤ r ∧ T[r]? = some (.lst (es.map trT)) ∧ es.length ≤ 250 ∧ (∀ P, allC P ts → allC P es) ∧
     sSeq zbn (sSeq zbm (sSeq zbl (sSeq zbk (sSeq zbj (sSeq zaL (sSeq zaH sPass)))))) [some (.ref n), some (.int more), some (.ref S.length), some (.int i), some (pD t.1), some (pD t.2.1), some (pD t.2.2)] S1
       = sSeq zaL (sSeq zaH sPass) [some (.ref n), some (.int more), some (.ref r), some (.int i), some (pD t.1), some (pD t.2.1), some (pD t.2.2)] T := by
   unfold zbn zbm zbl zbk zbj
   have : w = 0 ∨ w = 1 ∨ w = 2 ∨ w = 3 ∨ w = 4 := by omega
   rcases this with h | h | h | h | h
   · refine ⟨ts.eraseIdx i.toNat, S.length, S1.set S.length (.lst ((ts.eraseIdx i.toNat).map trT)), g1.set (Nat.le_refl _) (zbV _ _), Nat.le_refl _, List.getElem?_set_self ml, ?_, fun P hP x hx => hP x (List.mem_of_mem_eraseIdx hx), ?_⟩
     · have := List.length_eraseIdx_le ts i.toNat; omega
     · have t' := tst 0 S.length S1
       rw [zds h] at t'
       have pp := zjq m1 i0 i1 hz hti
       rw [show (ts.map trT).eraseIdx i.toNat = (ts.eraseIdx i.toNat).map trT by rw [List.eraseIdx_eq_take_drop_succ, List.eraseIdx_eq_take_drop_succ, List.map_append, List.map_take, List.map_drop]] at pp
       exact zac (zaM t' (zcm rfl (zac (zbt (zeH (ds := [.int i]) (S2 := S1) (zaa rfl) m1 (zab (zaa rfl) zae) pp)) (zad zai)))) (zad (zac (skip (by omega)) (zad (zac (skip (by omega)) (zad (zac (skip (by omega)) (zad (zac (skip (by omega)) (zad rfl)))))))))
   · refine ⟨ts.set i.toNat (t.1, t.2.2, t.2.1), S.length, S1.set S.length (.lst ((ts.set i.toNat (t.1, t.2.2, t.2.1)).map trT)), g1.set (Nat.le_refl _) (zbV _ _), Nat.le_refl _, List.getElem?_set_self ml, by rw [List.length_set]; omega, fun P hP x hx => ?_, ?_⟩
     · rcases List.mem_or_eq_of_mem_set hx with hx | rfl
       · exact hP x hx
       · exact ⟨(hP t tm).1, (hP t tm).2.2, (hP t tm).2.1⟩
     · have t' := tst 1 S.length S1
       rw [zds h] at t'
       have ps := zgG (d := trT (t.1, t.2.2, t.2.1)) m1 hx rfl
       rw [← List.map_set] at ps
       exact zac (skip (by omega)) (zad (zac (zaM t' (zcm rfl (zac (zah (x := trT (t.1, t.2.2, t.2.1)) (S1 := S1) rfl (MX.zdM (zaa rfl) (zaa rfl) ps)) (zad zai)))) (zad (zac (skip (by omega)) (zad (zac (skip (by omega)) (zad (zac (skip (by omega)) (zad rfl)))))))))
   · refine ⟨ts.set i.toNat (t.2.1, t.2.2, t.1), S.length, S1.set S.length (.lst ((ts.set i.toNat (t.2.1, t.2.2, t.1)).map trT)), g1.set (Nat.le_refl _) (zbV _ _), Nat.le_refl _, List.getElem?_set_self ml, by rw [List.length_set]; omega, fun P hP x hx => ?_, ?_⟩
     · rcases List.mem_or_eq_of_mem_set hx with hx | rfl
       · exact hP x hx
       · exact ⟨(hP t tm).2.1, (hP t tm).2.2, (hP t tm).1⟩
     · have t' := tst 2 S.length S1
       rw [zds h] at t'
       have ps := zgG (d := trT (t.2.1, t.2.2, t.1)) m1 hx rfl
       rw [← List.map_set] at ps
       exact zac (skip (by omega)) (zad (zac (skip (by omega)) (zad (zac (zaM t' (zcm rfl (zac (zah (x := trT (t.2.1, t.2.2, t.1)) (S1 := S1) rfl (MX.zdM (zaa rfl) (zaa rfl) ps)) (zad zai)))) (zad (zac (skip (by omega)) (zad (zac (skip (by omega)) (zad rfl)))))))))
   · have j0 := Int.fmod_nonneg_of_pos (more.fdiv 500) lp
     have j1 := Int.fmod_lt_of_pos (more.fdiv 500) lp
     have ar : aCons (eB (gBin .Mod) (eB (gBin .FloorDiv) (eVar 1) (eC (.int 500))) (eN gLen (aCons (eVar 2) (aNil)))) (aCons (eN gTup (aCons (eVar 4) (aCons (eVar 5) (aCons (eVar 6) (aNil))))) (aNil)) [some (.ref n), some (.int more), some (.ref S.length), some (.int i), some (pD t.1), some (pD t.2.1), some (pD t.2.2)] S1 = some ([.int ((more.fdiv 500).fmod ((ts.map trT).length : Int)), trT t], S1) := zab (zaf (zaf (zaa rfl) zal (zaN (by decide))) (zao (zab (zaa rfl) zae) (zbG m1)) (zaC (by omega))) (zab rfl zae)
     generalize (more.fdiv 500).fmod ((ts.map trT).length : Int) = j at *
     refine ⟨ts.take j.toNat ++ t :: ts.drop j.toNat, S.length, S1.set S.length (.lst ((ts.take j.toNat ++ t :: ts.drop j.toNat).map trT)), g1.set (Nat.le_refl _) (zbV _ _), Nat.le_refl _, List.getElem?_set_self ml, ?_, fun P hP x hx => ?_, ?_⟩
     · rw [List.length_append, List.length_cons, List.length_take, List.length_drop]; omega
     · rcases List.mem_append.mp hx with hx | hx
       · exact hP x (List.mem_of_mem_take hx)
       · rcases List.mem_cons.mp hx with rfl | hx
         · exact hP x tm
         · exact hP x (List.mem_of_mem_drop hx)
     · have t' := tst 3 S.length S1
       rw [zds h] at t'
       have pi := zk4 (d := trT t) m1 j0 (by omega) hz
       have em : (ts.map trT).take j.toNat ++ trT t :: (ts.map trT).drop j.toNat = (ts.take j.toNat ++ t :: ts.drop j.toNat).map trT := by rw [List.map_append, List.map_cons, List.map_take, List.map_drop]
       rw [em] at pi
       exact zac (skip (by omega)) (zad (zac (skip (by omega)) (zad (zac (skip (by omega)) (zad (zac (zaM t' (zcm rfl (zac (zbt (zeH (zaa rfl) m1 ar pi)) (zad zai)))) (zad (zac (skip (by omega)) (zad rfl)))))))))
   · have e2 : eN gLst (aCons (eN gTup (aCons (eVar 4) (aCons (eVar 6) (aCons (eVar 5) (aNil))))) (aCons (eN gTup (aCons (eVar 4) (aCons (eVar 5) (aCons (eVar 6) (aNil))))) (aNil))) [some (.ref n), some (.int more), some (.ref S.length), some (.int i), some (pD t.1), some (pD t.2.1), some (pD t.2.2)] S1 = some (.ref S1.length, S1 ++ [.lst ([(t.1, t.2.2, t.2.1), t].map trT)]) := rfl
     have ad := addLL (σ := [some (.ref n), some (.int more), some (.ref S.length), some (.int i), some (pD t.1), some (pD t.2.1), some (pD t.2.2)]) (fa := eVar 2) (S1 := S1) (zaa rfl) e2 (zaF m1) zaq (by rw [List.length_map, List.length_map]; show _ + 2 ≤ 1000; omega)
     rw [← List.map_append] at ad
     have g2 : Gr S (S1 ++ [.lst ([(t.1, t.2.2, t.2.1), t].map trT)]) := g1.snoc (zbV _ _)
     generalize S1 ++ [O.lst ([(t.1, t.2.2, t.2.1), t].map trT)] = S2 at *
     have ls : S.length ≤ S2.length := by
       obtain ⟨⟨G, hG⟩, _⟩ := g2
       rw [hG]; simp
     refine ⟨ts ++ [(t.1, t.2.2, t.2.1), t], S2.length, S2 ++ [.lst ((ts ++ [(t.1, t.2.2, t.2.1), t]).map trT)], g2.snoc (zbV _ _), ls, zaq, by rw [List.length_append]; show _ + 2 ≤ 250; omega, fun P hP x hx => ?_, ?_⟩
     · rcases List.mem_append.mp hx with hx | hx
       · exact hP x hx
       · simp only [List.mem_cons, List.mem_nil_iff, or_false] at hx
         rcases hx with rfl | rfl
         · exact ⟨(hP t tm).1, (hP t tm).2.2, (hP t tm).2.1⟩
         · exact hP _ tm
     · have t' := tst 4 S.length S1
       rw [zds h] at t'
       exact zac (skip (by omega)) (zad (zac (skip (by omega)) (zad (zac (skip (by omega)) (zad (zac (skip (by omega)) (zad (zac (zaM t' (zcm rfl (zac (zah ad rfl) (zad zai)))) (zad rfl)))))))))
 obtain ⟨es, r, T, gT, hr, hT, le, hP, ek⟩ := key
 have rl : r < T.length := (List.getElem?_eq_some_iff.mp hT).1
 have gR : Gr S (T.set r (.lst (es.reverse.map trT))) := gT.set hr (zbV _ _)
 have rv := zk2 hT
 rw [← List.map_reverse] at rv
 refine ⟨es.reverse, r, T.set r (.lst (es.reverse.map trT)), ?_, gR, List.getElem?_set_self rl, by rw [List.length_reverse]; exact le, fun P h x hx => hP P h x (List.mem_reverse.mp hx)⟩
 refine zcG (S := S) (σ' := [some (.ref n), some (.int more), some (.ref r), some (.int i), some (pD t.1), some (pD t.2.1), some (pD t.2.2)]) (S' := T.set r (.lst (es.reverse.map trT))) ?_ (fun z => ?_) (by rw [List.length_set]; omega) (by simp only [D.lo, decide_eq_true_eq, List.length_set]; exact rl) gR.2
 · wtm_at "mx st"
   unfold zcf
   refine zac s1 (zad (zac s2 (zad (zac s3 (zad (ek.trans ?_))))))
   unfold zaL zaH
   exact zac (zbt (zk9 (zaa rfl) hT rv)) (zad (zac (za3 (zaa rfl)) za2))
 · have := z.2
   simp only [D.lo, decide_eq_true_eq] at this
   omega
end MX.P
end
section
set_option autoImplicit false
local macro_rules | `(tactic| wtm_at "mx op") => `(tactic| first
 | (with_reducible exact zaE) | ((with_reducible apply MX.P.ev_pow); (focus decide); (focus first | (simp only [Int.reduceToNat, Int.reducePow]; rfl) | rfl)) | (with_reducible exact zcU) | (with_reducible exact zeA) | (with_reducible exact zeB) | (with_reducible exact zeE) | (with_reducible exact zeF) | (with_reducible exact zcX) | (with_reducible exact zdL) | (with_reducible exact zeD) | (with_reducible exact zbB) | (with_reducible exact zdl)
 | ((with_reducible apply zaZ); wtm_at "mx side") | ((with_reducible apply zaC); wtm_at "mx side") | ((with_reducible apply zaN); first | decide | wtm_at "mx side") | ((with_reducible apply zcV); decide)
 | ((with_reducible apply zap); first | (with_reducible assumption) | rfl) | ((with_reducible apply zb0); (focus wtm_at "mx so"); (focus first | (with_reducible assumption) | rfl)) | ((with_reducible apply zcW); (focus wtm_at "mx so"); (focus first | (with_reducible assumption) | rfl))
 | (refine zdo ?_ 8 ?_ ?_ ?_ <;> first | decide +kernel | rfl | decide) | (refine zdm ?_ 8 ?_ ?_ ?_ <;> first | decide +kernel | rfl | decide))
local macro_rules | `(tactic| wtm_at "mx fn") => `(tactic| first
 | (with_reducible exact MX.P.ev_int) | ((with_reducible apply zci); exact Nat.le_of_ble_eq_true rfl) | ((with_reducible apply zdn); exact Nat.le_of_ble_eq_true rfl) | (with_reducible exact zct) | (with_reducible exact zbu) | (with_reducible exact zbx) | (with_reducible exact zb8) | (with_reducible exact zb9) | (with_reducible exact ev_abs) | (with_reducible exact zbA)
 | ((with_reducible apply zbG); wtm_at "mx so") | ((with_reducible apply za9); wtm_at "mx so") | ((with_reducible apply zau); wtm_at "mx so") | ((with_reducible apply zaV); wtm_at "mx so")
 | ((with_reducible apply zbH); (focus wtm_at "mx so"); (focus rfl)) | ((with_reducible apply zbw); (focus wtm_at "mx so"); (focus rfl); (focus rfl)) | ((with_reducible apply zbz); (focus wtm_at "mx so"); (focus rfl); (focus rfl)) | ((with_reducible apply zbv); (focus rfl); (focus rfl)) | ((with_reducible apply zby); (focus rfl); (focus rfl))
 | ((with_reducible apply zag); (focus rfl); (focus wtm_at "mx call")))
local macro_rules | `(tactic| wtm_at "mx call") => `(tactic| first | (with_reducible assumption) | (with_reducible exact MX.P.sp_drawn _ _ _))
namespace MX.K21
open PySem L2 MX MX.P
theorem zkY : isiT "bool" "bool" = some true := by kernel_rfl
theorem zgD {b : Bool} {S : So} : gIsi [.bl b, .ty "bool"] S = some (.bl true, S) := by
 show ((some "bool").bind fun t => (isiT t "bool").map fun b => (D.bl b, S)) = _
 simp only [Option.bind_some, zkY, Option.map_some]
theorem zee {k : Nat} {p f : Pt} (hp : BdP k p) (hf : BdP k f) : BdP (k + 1) (padd p f) := ⟨(hp.1.add hf.1).le (by omega), (hp.2.1.add hf.2.1).le (by omega), (hp.2.2.add hf.2.2).le (by omega)⟩
theorem zgC {P : Pt → Prop} {a b c e : Pt} (ha : P a) (hb : P b) (hc : P c) (he : P e) : allC P (fcs a b c e) := fun t ht => by
 simp only [fcs, List.mem_cons, List.mem_nil_iff, or_false] at ht
 rcases ht with rfl | rfl | rfl | rfl
 · exact ⟨hb, hc, he⟩
 · exact ⟨ha, he, hc⟩
 · exact ⟨ha, hb, he⟩
 · exact ⟨ha, hc, hb⟩
theorem zim {k : Nat} {lo hi : Pt} {ab : Bool} (hl : BdP k lo) (hh : BdP k hi) : allC (BdP k) (skinL lo hi ab) := by
 obtain ⟨l1, l2, l3⟩ := hl
 obtain ⟨h1, h2, h3⟩ := hh
 intro t ht
 simp only [skinL, trs, List.mem_append, List.mem_map, List.mem_cons, List.mem_nil_iff, or_false] at ht
 have sws : ∀ {b : Bool} {u v w : Pt}, BdP k u → BdP k v → BdP k w → BdP k (sw b (u, v, w)).1 ∧ BdP k (sw b (u, v, w)).2.1 ∧ BdP k (sw b (u, v, w)).2.2 := fun {b u v w} x y z => by
   cases b
   · exact ⟨x, y, z⟩
   · exact ⟨x, z, y⟩
 rcases ht with ((((⟨u, hu, rfl⟩ | ⟨u, hu, rfl⟩) | ⟨u, hu, rfl⟩) | ⟨u, hu, rfl⟩) | ⟨u, hu, rfl⟩) | ⟨u, hu, rfl⟩ <;> rcases hu with rfl | rfl <;> exact sws ⟨by assumption, by assumption, by assumption⟩ ⟨by assumption, by assumption, by assumption⟩ ⟨by assumption, by assumption, by assumption⟩
theorem zkK {k : Nat} {f : Pt} {ts : List Tr} (hf : BdP k f) (h : allC (BdP k) ts) : allC (BdP (k + 1)) (ts.map (mvT f)) := fun t ht => by
 obtain ⟨u, hu, rfl⟩ := List.mem_map.mp ht
 obtain ⟨a, b, c⟩ := h u hu
 exact ⟨zee a hf, zee b hf, zee c hf⟩
theorem zjC {ns : List Int} (hns : ns.length ≤ 63) (k : Nat) (js : List (Option D)) (S : So) (hj : js.length = 12) (hw : WF S) (h0 : S[0]? = some (.frz (ns.map .int))) :
   ∃ fl js' S', za1 (some (.ref 0) :: some (.int (k : Nat)) :: js) S = some (fl, some (.ref 0) :: some (.int (k : Nat)) :: js', S') ∧ js'.length = 12 ∧ (fl = .nx ∨ fl = .ct) ∧ Gr S S' := by
 obtain ⟨j2, j3, j4, j5, j6, j7, j8, j9, j10, j11, j12, j13, rfl⟩ : ∃ a b c d e f g h i j k l, js = [a, b, c, d, e, f, g, h, i, j, k, l] := by
   match js, hj with
   | [a, b, c, d, e, f, g, h, i, j, k, l], _ => exact ⟨a, b, c, d, e, f, g, h, i, j, k, l, rfl⟩
 have hc := zij hns (k : Nat) h0
 generalize cellI ns (k : Nat) = ce at hc
 have dr := sp_drawn ce (k : Nat) S
 generalize drawnI ce (k : Nat) = mo at dr
 have s1 : zbQ [some (.ref 0), some (.int (k : Nat)), j2, j3, j4, j5, j6, j7, j8, j9, j10, j11, j12, j13] S = some (.nx, [some (.ref 0), some (.int (k : Nat)), some (.int ce), j3, j4, j5, j6, j7, j8, j9, j10, j11, j12, j13], S) := by
   unfold zbQ
   exact zah (zao (zab (zaa rfl) (zab (zaa rfl) zae)) (zag rfl hc)) rfl
 have s2 : zbP [some (.ref 0), some (.int (k : Nat)), some (.int ce), j3, j4, j5, j6, j7, j8, j9, j10, j11, j12, j13] S = some (.nx, [some (.ref 0), some (.int (k : Nat)), some (.int ce), some (.int mo), j4, j5, j6, j7, j8, j9, j10, j11, j12, j13], S) := by
   unfold zbP
   exact zah (zao (zab (zaa rfl) (zab (zaa rfl) zae)) (zag rfl dr)) rfl
 have f4 := zii (d := mo) hw
 have w5 : ∀ {p : Pt}, BdP 5 p → BdP 10 p := fun h => h.le (by decide)
 obtain ⟨a, ba, fa⟩ := zea (w5 (zdB mo)) ce
 obtain ⟨b, bb, fb⟩ := zea (w5 (zdB (mo.fdiv 729))) ce
 obtain ⟨c, bc, fc⟩ := zea (w5 (zdB (mo.fdiv 531441))) ce
 obtain ⟨e, be, fe⟩ := zea (w5 (zdB (mo.fdiv 387420489))) ce
 generalize spotM mo = p1 at *
 generalize spotM (mo.fdiv 729) = p2 at *
 generalize spotM (mo.fdiv 531441) = p3 at *
 generalize spotM (mo.fdiv 387420489) = p4 at *
 have g1 : Gr S (S ++ [.lst [pD p1, pD p2, pD p3, pD p4]]) := (Gr.refl hw).snoc rfl
 have n1 : (S ++ [O.lst [pD p1, pD p2, pD p3, pD p4]])[S.length]? = some (.lst [pD p1, pD p2, pD p3, pD p4]) := zaq
 generalize S ++ [O.lst [pD p1, pD p2, pD p3, pD p4]] = S1 at *
 have one : ∀ {x y : Pt}, zaD [pD x, .int ce] S1 = some (pD y, S1) → eN (nArgs 2 zaD) (aCons (eVar 0) (aCons (eVar 1) (aNil))) [some (pD x), some (.int ce)] S1 = some (pD y, S1) := fun h => zao (zab (zaa rfl) (zab (zaa rfl) zae)) (zag rfl h)
 have lc1 : eLc (iVal (eN (nArgs 1 zb5) (aCons (eVar 3) (aNil)))) (gNm 0) (tTru) (eN (nArgs 2 zaD) (aCons (eVar 0) (aCons (eVar 1) (aNil)))) [none, some 2] [some (.ref 0), some (.int (k : Nat)), some (.int ce), some (.int mo), j4, j5, j6, j7, j8, j9, j10, j11, j12, j13] S = some (.ref S1.length, S1 ++ [.lst [pD a, pD b, pD c, pD e]]) := by
   refine zeC (j := .lst S.length) (n := 4) (S1 := S1) (zaW (zao (zab (zaa rfl) zae) (zag rfl f4)) n1) (zcb n1) (by decide) rfl ?_
   exact za0 (zaY n1 rfl) rfl zaB (one (fa S1)) rfl (za0 (zaY n1 rfl) rfl zaB (one (fb S1)) rfl (za0 (zaY n1 rfl) rfl zaB (one (fc S1)) rfl (za0 (zaY n1 rfl) rfl zaB (one (fe S1)) rfl (zd4 (zdH n1 rfl)))))
 have g2 : Gr S (S1 ++ [.lst [pD a, pD b, pD c, pD e]]) := g1.snoc rfl
 have n2 : (S1 ++ [O.lst [pD a, pD b, pD c, pD e]])[S1.length]? = some (.lst [pD a, pD b, pD c, pD e]) := zaq
 generalize S1 ++ [O.lst [pD a, pD b, pD c, pD e]] = S2 at *
 have s3 : zbO [some (.ref 0), some (.int (k : Nat)), some (.int ce), some (.int mo), j4, j5, j6, j7, j8, j9, j10, j11, j12, j13] S = some (.nx, [some (.ref 0), some (.int (k : Nat)), some (.int ce), some (.int mo), some (.ref S1.length), j5, j6, j7, j8, j9, j10, j11, j12, j13], S2) := by
   unfold zbO
   exact zah lc1 rfl
 have s4 : zbN [some (.ref 0), some (.int (k : Nat)), some (.int ce), some (.int mo), some (.ref S1.length), j5, j6, j7, j8, j9, j10, j11, j12, j13] S2 = some (.nx, [some (.ref 0), some (.int (k : Nat)), some (.int ce), some (.int mo), some (.ref S1.length), some (pD a), j6, j7, j8, j9, j10, j11, j12, j13], S2) := by
   unfold zbN
   exact zah (zaf (zaa rfl) zal (zb0 n2 rfl)) rfl
 obtain ⟨z1, z2, z3, bz, s5⟩ : ∃ z1 z2 z3 : Int, BdP 70 (z1, z2, z3) ∧ zbM [some (.ref 0), some (.int (k : Nat)), some (.int ce), some (.int mo), some (.ref S1.length), some (pD a), j6, j7, j8, j9, j10, j11, j12, j13] S2 = some (.nx, [some (.ref 0), some (.int (k : Nat)), some (.int ce), some (.int mo), some (.ref S1.length), some (pD a), some (P3 z1 z2 z3), j7, j8, j9, j10, j11, j12, j13], S2) := by
   have q1 : Bd 4 ((mo.fdiv 3).fmod 5) := (Bd.fmod (by decide)).le (by decide)
   have q2 : Bd 4 ((mo.fdiv 15).fmod 4) := (Bd.fmod (by decide)).le (by decide)
   have q3 : Bd 12 (1 + ce.fmod 1000) := ((Bd.lit 1).add (Bd.fmod (m := 1000) (by decide))).le (by decide)
   have q4 : Bd 4 ((mo.fdiv 60).fmod 7) := (Bd.fmod (by decide)).le (by decide)
   refine ⟨(mo.fdiv 3).fmod 5, (mo.fdiv 15).fmod 4 * (1 + ce.fmod 1000), (mo.fdiv 60).fmod 7, ⟨q1.le (by decide), (q2.mul q3).le (by decide), q4.le (by decide)⟩, ?_⟩
   unfold zbM
   exact zah (zao (zab (zaf (zaf (zaa rfl) zal (zaN (by decide))) zal (zaC (by decide))) (zab (zaf (zaf (zaf (zaa rfl) zal (zaN (by decide))) zal (zaC (by decide))) (zaf zal (zaf (zaa rfl) zal (zaC (by decide))) zaE) (zaZ (zaT q2 q3 (by decide)))) (zab (zaf (zaf (zaa rfl) zal (zaN (by decide))) zal (zaC (by decide))) zae))) (zci (Nat.le_of_ble_eq_true rfl))) rfl
 have d6 := zh0 ((ba.wb bb).le (show max 70 70 + 1 ≤ 71 by decide)) ((ba.wb bc).le (show max 70 70 + 1 ≤ 71 by decide)) ((ba.wb be).le (show max 70 70 + 1 ≤ 71 by decide)) (by decide) S2
 have s6 : zbL [some (.ref 0), some (.int (k : Nat)), some (.int ce), some (.int mo), some (.ref S1.length), some (pD a), some (P3 z1 z2 z3), j7, j8, j9, j10, j11, j12, j13] S2 = some (.nx, [some (.ref 0), some (.int (k : Nat)), some (.int ce), some (.int mo), some (.ref S1.length), some (pD a), some (P3 z1 z2 z3), some (.int (vol a b c e)), j8, j9, j10, j11, j12, j13], S2) := by
   unfold zbL
   exact zah (zao (zab (zao (zab (zaa rfl) (zab (zaf (zaa rfl) zal (zb0 n2 rfl)) zae)) (zag rfl (sp_lway a b S2))) (zab (zao (zab (zaa rfl) (zab (zaf (zaa rfl) zal (zb0 n2 rfl)) zae)) (zag rfl (sp_lway a c S2))) (zab (zao (zab (zaa rfl) (zab (zaf (zaa rfl) zal (zb0 n2 rfl)) zae)) (zag rfl (sp_lway a e S2))) zae))) (zag rfl d6)) rfl
 have f7 := zg5 g2.2 n2
 have g3 : Gr S (S2 ++ [.lst ((fcs a b c e).map trT)]) := g2.snoc (zbV _ _)
 have n3 : (S2 ++ [O.lst ((fcs a b c e).map trT)])[S2.length]? = some (.lst ((fcs a b c e).map trT)) := zaq
 generalize S2 ++ [O.lst ((fcs a b c e).map trT)] = S3 at *
 have s7 : zbK [some (.ref 0), some (.int (k : Nat)), some (.int ce), some (.int mo), some (.ref S1.length), some (pD a), some (P3 z1 z2 z3), some (.int (vol a b c e)), j8, j9, j10, j11, j12, j13] S2 = some (.nx, [some (.ref 0), some (.int (k : Nat)), some (.int ce), some (.int mo), some (.ref S1.length), some (pD a), some (P3 z1 z2 z3), some (.int (vol a b c e)), some (.ref S2.length), j9, j10, j11, j12, j13], S3) := by
   unfold zbK
   exact zah (zao (zab (zaa rfl) zae) (zag rfl f7)) rfl
 have w7 : ∀ {p : Pt}, BdP 70 p → BdP 71 p := fun h => h.le (by decide)
 have bz1 := bz.1
 have bz2 := bz.2.1
 have bz3 := bz.2.2
 simp only at bz1 bz2 bz3
 have bv := zjG ba bb bc be
 obtain ⟨ts, r, sp, y9, S4, s8, g4, n4, hcl, hv, hmv, hbd, l1, l2⟩ : ∃ (ts : List Tr) (r : Nat) (sp : Int) (y9 : Option D) (S4 : So), zbJ [some (.ref 0), some (.int (k : Nat)), some (.int ce), some (.int mo), some (.ref S1.length), some (pD a), some (P3 z1 z2 z3), some (.int (vol a b c e)), some (.ref S2.length), j9, j10, j11, j12, j13] S3 = some (.nx, [some (.ref 0), some (.int (k : Nat)), some (.int ce), some (.int mo), some (.ref S1.length), some (pD a), some (P3 z1 z2 z3), some (.int sp), some (.ref r), y9, j10, j11, j12, j13], S4) ∧ Gr S S4 ∧ S4[r]? = some (.lst (ts.map trT)) ∧ Closed (edL ts) ∧ sixV ts = sp ∧ (∀ f, sixV (ts.map (mvT f)) = sp) ∧ allC (BdP 71) ts ∧ 1 ≤ ts.length ∧ ts.length ≤ 16 := by
   have t8 : tBl (eB (gCmp .Eq) (eB (gBin .Mod) (eVar 3) (eC (.int 2))) (eC (.int 0))) [some (.ref 0), some (.int (k : Nat)), some (.int ce), some (.int mo), some (.ref S1.length), some (pD a), some (P3 z1 z2 z3), some (.int (vol a b c e)), some (.ref S2.length), j9, j10, j11, j12, j13] S3 = some (decide (mo.fmod 2 = 0), S3) := zcs (zaf (zaf (zaa rfl) zal (zaC (by decide))) zal zcX)
   unfold zbJ
   by_cases h2 : mo.fmod 2 = 0
   · rw [zds h2] at t8
     have e9 : eB (gCmp .Eq) (eB (gBin .Mod) (eB (gBin .FloorDiv) (eVar 3) (eC (.int 420))) (eC (.int 2))) (eC (.int 0)) [some (.ref 0), some (.int (k : Nat)), some (.int ce), some (.int mo), some (.ref S1.length), some (pD a), some (P3 z1 z2 z3), some (.int (vol a b c e)), some (.ref S2.length), j9, j10, j11, j12, j13] S3 = some (.bl (decide ((mo.fdiv 420).fmod 2 = 0)), S3) := zaf (zaf (zaf (zaa rfl) zal (zaN (by decide))) zal (zaC (by decide))) zal zcX
     generalize decide ((mo.fdiv 420).fmod 2 = 0) = ab at e9
     have G9 : True := trivial
     have tp : eN gTuple (aCons (eLc (iRg1 (aCons (eC (.int 3)) (aNil))) (gNm 0) (tTru) (eB (gBin .Add) (eB gIx (eVar 1) (eVar 0)) (eB gIx (eVar 2) (eVar 0))) [none, some 5, some 6]) (aNil)) [some (.ref 0), some (.int (k : Nat)), some (.int ce), some (.int mo), some (.ref S1.length), some (pD a), some (P3 z1 z2 z3), some (.int (vol a b c e)), some (.ref S2.length), some (.bl ab), j10, j11, j12, j13] S3 = some (pD (padd a (z1, z2, z3)), S3 ++ [.lst [.int (a.1 + z1), .int (a.2.1 + z2), .int (a.2.2 + z3)]]) :=
       zao (zab (zeC (j := .fix (rangeD 0 3)) (n := 3) (S1 := S3) (zdd (j := 3) (zab zal zae) (by decide)) rfl (by decide) rfl (za0 (zcC (z := 0) (by decide) rfl) rfl zaB (zaf (zaf (zaa rfl) (zaa rfl) (zap rfl)) (zaf (zaa rfl) (zaa rfl) (zap rfl)) zaE) rfl (za0 (zcC (z := 1) (by decide) rfl) rfl zaB (zaf (zaf (zaa rfl) (zaa rfl) (zap rfl)) (zaf (zaa rfl) (zaa rfl) (zap rfl)) zaE) rfl (za0 (zcC (z := 2) (by decide) rfl) rfl zaB (zaf (zaf (zaa rfl) (zaa rfl) (zap rfl)) (zaf (zaa rfl) (zaa rfl) (zap rfl)) zaE) rfl (zd4 rfl))))) zae) (zau zaq)
     have gp := g3.snoc (o := .lst [.int (a.1 + z1), .int (a.2.1 + z2), .int (a.2.2 + z3)]) rfl
     have np : (S3 ++ [O.lst [.int (a.1 + z1), .int (a.2.1 + z2), .int (a.2.2 + z3)]])[S2.length]? = some (.lst ((fcs a b c e).map trT)) := zaF n3
     generalize S3 ++ [O.lst [.int (a.1 + z1), .int (a.2.1 + z2), .int (a.2.2 + z3)]] = Sp at *
     obtain ⟨q, Sq, fq, gq, hq⟩ := zig (lo := a) (hi := padd a (z1, z2, z3)) (ab := ab) gp.2
     have ad := addLL (σ := [some (.ref 0), some (.int (k : Nat)), some (.int ce), some (.int mo), some (.ref S1.length), some (pD a), some (P3 z1 z2 z3), some (.int (vol a b c e)), some (.ref S2.length), some (.bl ab), j10, j11, j12, j13]) (fa := eN (nArgs 2 zb4) (aCons (eN gTup (aCons (eVar 5) (aCons (eN gTuple (aCons (eLc (iRg1 (aCons (eC (.int 3)) (aNil))) (gNm 0) (tTru) (eB (gBin .Add) (eB gIx (eVar 1) (eVar 0)) (eB gIx (eVar 2) (eVar 0))) [none, some 5, some 6]) (aNil))) (aNil)))) (aCons (eVar 9) (aNil)))) (fb := eVar 8) (zao (zab (zao (zab (zaa rfl) (zab tp zae)) (zci (Nat.le_of_ble_eq_true rfl))) (zab (zaa rfl) zae)) (zag rfl fq)) (zaa rfl) hq (gq.old np) (by rw [List.length_map, List.length_map]; show 12 + 4 ≤ 1000; decide)
     rw [← List.map_append] at ad
     have gs : Gr S (Sq ++ [.lst ((skinL a (padd a (z1, z2, z3)) ab ++ fcs a b c e).map trT)]) := (gp.trans gq).snoc (zbV _ _)
     have k1 : Bd 8 (6 : Int) := (Bd.lit 6).le (by decide)
     have k2 : Bd 78 (6 * z1) := (k1.mul bz1).le (by decide)
     have k3 : Bd 148 (6 * z1 * z2) := (k2.mul bz2).le (by decide)
     have k4 : Bd 218 (6 * z1 * z2 * z3) := (k3.mul bz3).le (by decide)
     have k5 : Bd 3 (1 - 2 * (if ab = true then 1 else 0) : Int) := by unfold Bd; cases ab <;> decide
     have e7 : ∀ T, eB (gBin .Add) (eVar 7) (eB (gBin .Mult) (eB (gBin .Mult) (eB (gBin .Mult) (eB (gBin .Mult) (eC (.int 6)) (eB gIx (eVar 6) (eC (.int 0)))) (eB gIx (eVar 6) (eC (.int 1)))) (eB gIx (eVar 6) (eC (.int 2)))) (eB (gBin .Sub) (eC (.int 1)) (eB (gBin .Mult) (eC (.int 2)) (eN gInt (aCons (eVar 9) (aNil)))))) [some (.ref 0), some (.int (k : Nat)), some (.int ce), some (.int mo), some (.ref S1.length), some (pD a), some (P3 z1 z2 z3), some (.int (vol a b c e)), some (.ref Sq.length), some (.bl ab), j10, j11, j12, j13] T = some (.int (vol a b c e + 6 * z1 * z2 * z3 * (1 - 2 * (if ab = true then 1 else 0))), T) := fun T =>
       zaf (zaa rfl) (zaf (zaf (zaf (zaf zal (zaf (zaa rfl) zal (zap rfl)) (zaZ (zaT k1 bz1 (by decide)))) (zaf (zaa rfl) zal (zap rfl)) (zaZ (zaT k2 bz2 (by decide)))) (zaf (zaa rfl) zal (zap rfl)) (zaZ (zaT k3 bz3 (by decide)))) (zaf zal (zaf zal (zao (zab (zaa rfl) zae) ev_int) (zaZ (zgg (by decide)))) zcU) (zaZ (zaT k4 k5 (by decide)))) zaE
     refine ⟨skinL a (padd a (z1, z2, z3)) ab ++ fcs a b c e, Sq.length, _, some (.bl ab), Sq ++ [.lst ((skinL a (padd a (z1, z2, z3)) ab ++ fcs a b c e).map trT)], zaM t8 (zcm rfl (zac (zah e9 rfl) (zad (zac (zah ad rfl) (zad (zac (zah (e7 _) rfl) (zad zai))))))), gs, zaq, ?_, ?_, fun f => ?_, ?_, by rw [List.length_append]; show 1 ≤ 12 + 4; decide, by rw [List.length_append]; show 12 + 4 ≤ 16; decide⟩
     · rw [zju]; exact zfO (ze7 _ _ _) (zd6 _ _ _ _)
     · rw [zf0, zff, zei]; exact Int.add_comm _ _
     · rw [List.map_append, zf0, zil, zh3, zei, zhX]
       have e : padd (padd a (z1, z2, z3)) f = padd (padd a f) (z1, z2, z3) := by
         unfold padd; simp only
         refine Prod.ext ?_ (Prod.ext ?_ ?_) <;> simp only <;> omega
       rw [e, zff]; exact Int.add_comm _ _
     · intro t ht
       rcases List.mem_append.mp ht with ht | ht
       · exact zim (w7 ba) (zee ba bz) t ht
       · exact zgC (w7 ba) (w7 bb) (w7 bc) (w7 be) t ht
   · rw [ze4 h2] at t8
     refine ⟨fcs a b c e, S2.length, _, j9, S3, zaM t8 (za8 rfl zai), g3, n3, zd6 _ _ _ _, zei _ _ _ _, fun f => by rw [zh3, zei, zhX], zgC (w7 ba) (w7 bb) (w7 bc) (w7 be), by show 1 ≤ 4; decide, by show 4 ≤ 16; decide⟩
 obtain ⟨far, bf, S5, g5, s9⟩ : ∃ (far : Pt) (_ : BdP 71 far) (S5 : So), Gr S4 S5 ∧ zbI [some (.ref 0), some (.int (k : Nat)), some (.int ce), some (.int mo), some (.ref S1.length), some (pD a), some (P3 z1 z2 z3), some (.int sp), some (.ref r), y9, j10, j11, j12, j13] S4 = some (.nx, [some (.ref 0), some (.int (k : Nat)), some (.int ce), some (.int mo), some (.ref S1.length), some (pD a), some (P3 z1 z2 z3), some (.int sp), some (.ref r), y9, some (pD far), j11, j12, j13], S5) := by
   have sp9 := sp_spot (mo.fdiv 9) S4
   have b9 := zdB (mo.fdiv 9)
   generalize spotM (mo.fdiv 9) = p at *
   obtain ⟨p1, p2, p3⟩ := p
   obtain ⟨c1, c2, c3⟩ := b9
   simp only at c1 c2 c3
   have bs : Bd 63 (1 + ce.fmod (1 * 2 ^ (60 : Int).toNat)) := by
     have h1 := Int.fmod_nonneg_of_pos ce (show (0 : Int) < 1 * 2 ^ (60 : Int).toNat by decide)
     have h2 := Int.fmod_lt_of_pos ce (show (0 : Int) < 1 * 2 ^ (60 : Int).toNat by decide)
     have e : (1 : Int) * 2 ^ (60 : Int).toNat = 1152921504606846976 := by decide
     rw [e] at h1 h2
     rw [e]
     unfold Bd; omega
   have ml : ∀ x : Int, eB (gBin .Add) (eC (.int 1)) (eB (gBin .Mod) (eVar 1) (eB (gBin .LShift) (eC (.int 1)) (eC (.int 60)))) [some (.int x), some (.int ce)] S4 = some (.int (1 + ce.fmod (1 * 2 ^ (60 : Int).toNat)), S4) := fun x => zaf zal (zaf (zaa rfl) (zaf zal zal (zcV (by decide))) (zaC (by decide))) zaE
   generalize 1 + ce.fmod (1 * 2 ^ (60 : Int).toNat) = q at *
   have on : ∀ {x : Int}, Bd 5 x → eB (gBin .Mult) (eVar 0) (eB (gBin .Add) (eC (.int 1)) (eB (gBin .Mod) (eVar 1) (eB (gBin .LShift) (eC (.int 1)) (eC (.int 60))))) [some (.int x), some (.int ce)] S4 = some (.int (x * q), S4) := fun {x} hx => zaf (zaa rfl) (ml x) (zaZ (zaT hx bs (by decide)))
   refine ⟨(p1 * q, p2 * q, p3 * q), ⟨(c1.mul bs).le (by decide), (c2.mul bs).le (by decide), (c3.mul bs).le (by decide)⟩, S4 ++ [.lst [.int (p1 * q), .int (p2 * q), .int (p3 * q)]], (Gr.refl g4.2).snoc rfl, ?_⟩
   unfold zbI
   refine zah (zao (zab (zeC (j := .fix [.int p1, .int p2, .int p3]) (n := 3) (S1 := S4) (zfk (zao (zab (zaf (zaa rfl) zal (zaN (by decide))) zae) (zag rfl sp9))) rfl (by decide) rfl (za0 (zfh rfl) rfl zaB (on c1) rfl (za0 (zfh rfl) rfl zaB (on c2) rfl (za0 (zfh rfl) rfl zaB (on c3) rfl (zd4 rfl))))) zae) (zau zaq)) rfl
 have n5 := g5.old n4
 have g5' := g4.trans g5
 have g6 : Gr S (S5 ++ [.lst (ts.map trT)]) := g5'.snoc (zbV _ _)
 have k6 : (S5 ++ [O.lst (ts.map trT)])[S5.length]? = some (.lst (ts.map trT)) := zaq
 have n6 : (S5 ++ [O.lst (ts.map trT)])[r]? = some (.lst (ts.map trT)) := zaF n5
 have s10 : zbg [some (.ref 0), some (.int (k : Nat)), some (.int ce), some (.int mo), some (.ref S1.length), some (pD a), some (P3 z1 z2 z3), some (.int sp), some (.ref r), y9, some (pD far), j11, j12, j13] S5 = some (.nx, [some (.ref 0), some (.int (k : Nat)), some (.int ce), some (.int mo), some (.ref S1.length), some (pD a), some (P3 z1 z2 z3), some (.int sp), some (.ref r), y9, some (pD far), some (.ref S5.length), j12, j13], S5 ++ [.lst (ts.map trT)]) := by
   unfold zbg
   exact zah (zao (zab (zaa rfl) zae) (zaV n5)) rfl
 generalize hl5 : S5.length = kk at *
 generalize S5 ++ [O.lst (ts.map trT)] = S6 at *
 have hcb := zb2 g6.2 n6 (by omega)
 rw [zfP hcl] at hcb
 have hsv := zd9 g6.2 n6 (by omega) hbd (by decide)
 rw [hv] at hsv
 have wh := zg3 sp S6
 have s11 : zbf [some (.ref 0), some (.int (k : Nat)), some (.int ce), some (.int mo), some (.ref S1.length), some (pD a), some (P3 z1 z2 z3), some (.int sp), some (.ref r), y9, some (pD far), some (.ref kk), j12, j13] S6 = some (.nx, [some (.ref 0), some (.int (k : Nat)), some (.int ce), some (.int mo), some (.ref S1.length), some (pD a), some (P3 z1 z2 z3), some (.int sp), some (.ref r), y9, some (pD far), some (.ref kk), j12, j13], S6) := by
   unfold zbf
   refine zaM (b := false) (S1 := S6) (zez (b := false) (S1 := S6) (zcs (zaf (zao (zab (zaa rfl) zae) (zag rfl hcb)) zal rfl)) (za8 rfl (zez (b := false) (S1 := S6) (zcs (zaf (zao (zab (zaa rfl) zae) (zag rfl hsv)) (zaa rfl) ?_)) (za8 rfl (ze3 (b := true) (ze2 (zao (zab (zao (zab (zaa rfl) zae) (zag rfl hsv)) zae) (zag rfl wh)) rfl)))))) (za8 rfl zai)
   rw [zdL]; simp
 obtain ⟨q, S7, fq, gq, hq⟩ := zg4 (far := far) g6.2 n6 (by omega)
 have hmb := zd9 gq.2 hq (by rw [List.length_map]; omega) (zkK bf hbd) (by decide)
 rw [hmv far] at hmb
 have s12 : zbe [some (.ref 0), some (.int (k : Nat)), some (.int ce), some (.int mo), some (.ref S1.length), some (pD a), some (P3 z1 z2 z3), some (.int sp), some (.ref r), y9, some (pD far), some (.ref kk), j12, j13] S6 = some (.nx, [some (.ref 0), some (.int (k : Nat)), some (.int ce), some (.int mo), some (.ref S1.length), some (pD a), some (P3 z1 z2 z3), some (.int sp), some (.ref r), y9, some (pD far), some (.ref kk), j12, j13], S7) := by
   unfold zbe
   have pl : ∀ x ∈ ts.map trT, pln 8 x = true := fun x hx => by
     obtain ⟨t, _, rfl⟩ := List.mem_map.mp hx
     rfl
   refine zaM (b := false) (S1 := S7) (zez (b := false) (S1 := S7) (zcs (zaf (zao (zab (zao (zab (zaa rfl) (zab (zaa rfl) zae)) (zag rfl fq)) zae) (zag rfl hmb)) (zaa rfl) (by rw [zdL, zds rfl]; rfl))) (za8 rfl (zcs (zaf (zaa rfl) (zaa rfl) ?_)))) (za8 rfl zai)
   rw [zk3 8 (.inl (gq.old n6)) (.inl (gq.old k6)) pl pl (by decide)]
   simp
 have g7 := g6.trans gq
 obtain ⟨es, m, S8, fe', ge, hm, le, hall⟩ := zfW (more := mo.fdiv 1000) g7.2 (gq.old n6) l1 (by omega)
 have heb := hall _ hbd
 have s13 : zbd [some (.ref 0), some (.int (k : Nat)), some (.int ce), some (.int mo), some (.ref S1.length), some (pD a), some (P3 z1 z2 z3), some (.int sp), some (.ref r), y9, some (pD far), some (.ref kk), j12, j13] S7 = some (.nx, [some (.ref 0), some (.int (k : Nat)), some (.int ce), some (.int mo), some (.ref S1.length), some (pD a), some (P3 z1 z2 z3), some (.int sp), some (.ref r), y9, some (pD far), some (.ref kk), some (.ref m), j13], S8) := by
   unfold zbd
   exact zah (zao (zab (zaa rfl) (zab (zaf (zaa rfl) zal (zaN (by decide))) zae)) (zag rfl fe')) rfl
 have g8 := g7.trans ge
 have he1 := zb2 g8.2 hm (by omega)
 have he2 := zfx g8.2 hm (by omega)
 have he3 := zd9 g8.2 hm (by omega) heb (by decide)
 have s14 : zbc [some (.ref 0), some (.int (k : Nat)), some (.int ce), some (.int mo), some (.ref S1.length), some (pD a), some (P3 z1 z2 z3), some (.int sp), some (.ref r), y9, some (pD far), some (.ref kk), some (.ref m), j13] S8 = some (.nx, [some (.ref 0), some (.int (k : Nat)), some (.int ce), some (.int mo), some (.ref S1.length), some (pD a), some (P3 z1 z2 z3), some (.int sp), some (.ref r), y9, some (pD far), some (.ref kk), some (.ref m), some (.bl (closedB (edL es)))], S8) := by
   unfold zbc
   exact zah (zao (zab (zaa rfl) zae) (zag rfl he1)) rfl
 have s15 : zbb [some (.ref 0), some (.int (k : Nat)), some (.int ce), some (.int mo), some (.ref S1.length), some (pD a), some (P3 z1 z2 z3), some (.int sp), some (.ref r), y9, some (pD far), some (.ref kk), some (.ref m), some (.bl (closedB (edL es)))] S8 = some (.nx, [some (.ref 0), some (.int (k : Nat)), some (.int ce), some (.int mo), some (.ref S1.length), some (pD a), some (P3 z1 z2 z3), some (.int sp), some (.ref r), y9, some (pD far), some (.ref kk), some (.ref m), some (.bl (closedB (edL es)))], S8) := by
   unfold zbb
   refine zaM (b := false) (S1 := S8) (zez (b := false) (S1 := S8) (ze3 (b := true) (ze2 (zao (zab (zaa rfl) (zab zal zae)) zgD) rfl)) (za8 rfl (zcs (zaf (zaa rfl) (zao (zab (zaa rfl) zae) (zag rfl he2)) ?_)))) (za8 rfl zai)
   rw [zh4]; simp
 have lc2 := zgp (iv := 12) (src := [none, none, none]) (σ := [some (.ref 0), some (.int (k : Nat)), some (.int ce), some (.int mo), some (.ref S1.length), some (pD a), some (P3 z1 z2 z3), some (.int sp), some (.ref r), y9, some (pD far), some (.ref kk), some (.ref m), some (.bl (closedB (edL es)))]) (g := gTp 3 (gsCons (gNm 0) (gsCons (gNm 1) (gsCons (gNm 2) (gsNil))))) (rest := []) (fe := eN (nArgs 3 zbZ) (aCons (eVar 0) (aCons (eVar 1) (aCons (eVar 2) (aNil))))) trT (fun t => .int (dT t)) (fun t => [some (pD t.1), some (pD t.2.1), some (pD t.2.2)]) (fun τ => ∃ u v w, τ = [u, v, w]) hm rfl ⟨_, _, _, rfl⟩
   (fun t _ τ ⟨u, v, w, e⟩ => by subst e; exact ⟨rfl, _, _, _, rfl⟩) (fun t ht => zao (zab (zaa rfl) (zab (zaa rfl) (zab (zaa rfl) zae))) (zag rfl (zh0 (heb t ht).1 (heb t ht).2.1 (heb t ht).2.2 (by decide) S8))) (fun b _ c _ e => by rw [zfU e]) (by omega)
 have g9 : Gr S (S8 ++ [.lst (es.map fun t => D.int (dT t))]) := g8.snoc (zbE.mpr fun x hx => by
   obtain ⟨t, _, rfl⟩ := List.mem_map.mp hx
   simp [D.lo])
 have sm : gSum [.ref S8.length] (S8 ++ [.lst (es.map fun t => D.int (dT t))]) = some (.int (sixV es), S8 ++ [.lst (es.map fun t => D.int (dT t))]) := by
   unfold gSum
   simp only [zaq]
   rw [zeh dT]
   rfl
 have s16 : zba [some (.ref 0), some (.int (k : Nat)), some (.int ce), some (.int mo), some (.ref S1.length), some (pD a), some (P3 z1 z2 z3), some (.int sp), some (.ref r), y9, some (pD far), some (.ref kk), some (.ref m), some (.bl (closedB (edL es)))] S8 = some (.nx, [some (.ref 0), some (.int (k : Nat)), some (.int ce), some (.int mo), some (.ref S1.length), some (pD a), some (P3 z1 z2 z3), some (.int sp), some (.ref r), y9, some (pD far), some (.ref kk), some (.ref m), some (.bl (closedB (edL es)))], S8 ++ [.lst (es.map fun t => D.int (dT t))]) := by
   unfold zba
   refine zaM (b := false) (S1 := S8 ++ [.lst (es.map fun t => D.int (dT t))]) (zcs (zaf (zao (zab (zaa rfl) zae) (zag rfl he3)) (zao (zab lc2 zae) sm) ?_)) (za8 rfl zai)
   rw [zdL]; simp
 refine ⟨.nx, [some (.int ce), some (.int mo), some (.ref S1.length), some (pD a), some (P3 z1 z2 z3), some (.int sp), some (.ref r), y9, some (pD far), some (.ref kk), some (.ref m), some (.bl (closedB (edL es)))], S8 ++ [.lst (es.map fun t => D.int (dT t))], ?_, rfl, .inl rfl, g9⟩
 unfold za1
 exact zac s1 (zad (zac s2 (zad (zac s3 (zad (zac s4 (zad (zac s5 (zad (zac s6 (zad (zac s7 (zad (zac s8 (zad (zac s9 (zad (zac s10 (zad (zac s11 (zad (zac s12 (zad (zac s13 (zad (zac s14 (zad (zac s15 (zad (zac s16 (zad zai)))))))))))))))))))))))))))))))
theorem zhz : ∀ ns : List Int, ns.length ≤ 63 → ∃ σ' S'', zc0 (stD 14 [.ref 0]) [.frz (ns.map D.int)] = some (.rt (.bl true), σ', S'') := fun ns hns => by
 have h0 : ([O.frz (ns.map D.int)] : So)[0]? = some (.frz (ns.map .int)) := rfl
 have w0 : WF [O.frz (ns.map D.int)] := fun o ho => by
   rw [List.mem_singleton.mp ho]
   exact zeZ _ _
 generalize ([O.frz (ns.map D.int)] : So) = S0 at h0 w0
 generalize hN : (if (if ((ns.map D.int).length : Int) < 3 then ((ns.map D.int).length : Int) else 3) > 1 then (if ((ns.map D.int).length : Int) < 3 then ((ns.map D.int).length : Int) else 3) else 1) = N
 have hN1 : 1 ≤ N ∧ N ≤ 100 := by subst hN; split <;> split <;> omega
 obtain ⟨σ', S', e, ⟨x, js, rfl, hjl, hw', h0'⟩⟩ := zcS (nx := nxD (.fix (rangeD 0 N.toNat))) (g := gNm 1) (f := za1) (xs := rangeD 0 N.toNat)
   (fun i σ S => ∃ x js, σ = some (.ref 0) :: x :: js ∧ js.length = 12 ∧ WF S ∧ S[0]? = some (.frz (ns.map .int)))
   (fun i σ S _ => rfl)
   (fun i d σ S hd ⟨x, js, e1, e2, e3, e4⟩ => by
     subst e1
     rw [zc7] at hd
     split at hd
     · cases hd
       have ez : ((0 : Int) + (i : Nat)) = (i : Nat) := by omega
       rw [ez]
       obtain ⟨fl, js', S', q1, q2, q3, q4⟩ := zjC hns i js S e2 e3 e4
       exact ⟨_, S, fl, _, S', rfl, q1, q3, _, js', rfl, q2, q4.2, q4.old e4⟩
     · cases hd) (rangeD 0 N.toNat).length 0 [some (.ref 0), none, none, none, none, none, none, none, none, none, none, none, none, none] S0 ⟨none, _, rfl, by simp, w0, h0⟩ (by simp)
 have hlen : (rangeD 0 N.toNat).length = N.toNat := by simp [rangeD]
 rw [hlen] at e
 have g1 : Gr S' (S' ++ [.lst []]) := (Gr.refl hw').snoc rfl
 have c1 := zb2 (ts := []) (n := S'.length) g1.2 zaq (by decide)
 have cb : closedB (edL []) = true := rfl
 rw [cb] at c1
 have g2 : Gr (S' ++ [.lst []]) (S' ++ [.lst []] ++ [.lst []]) := (Gr.refl g1.2).snoc rfl
 have c2 := zd9 (k := 1) (ts := []) (n := (S' ++ [O.lst []]).length) g2.2 zaq (by decide) (fun t ht => by cases ht) (by decide)
 refine ⟨some (.ref 0) :: x :: js, S' ++ [.lst []] ++ [.lst []], ?_⟩
 show zc0 [some (.ref 0), none, none, none, none, none, none, none, none, none, none, none, none, none] S0 = _
 unfold zc0 zdR zdQ
 have ar : aCons (eN gMax' (aCons (eC (.int 1)) (aCons (eN gMin' (aCons (eC (.int 3)) (aCons (eN gLen (aCons (eVar 0) (aNil))) (aNil)))) (aNil)))) (aNil) [some (.ref 0), none, none, none, none, none, none, none, none, none, none, none, none, none] S0 = some ([.int N], S0) := by
   rw [← hN]
   exact zab (zao (zab zal (zab (zao (zab zal (zab (zao (zab (zaa rfl) zae) (za9 h0)) zae)) zb8) zae)) zb9) zae
 have z0 : sixV [] = 0 := rfl
 rw [z0] at c2
 have y1 : eN gLst (aNil) (some (.ref 0) :: x :: js) S' = some (.ref S'.length, S' ++ [.lst []]) := rfl
 have y2 : eN gLst (aNil) (some (.ref 0) :: x :: js) (S' ++ [.lst []]) = some (.ref (S' ++ [O.lst []]).length, S' ++ [.lst []] ++ [.lst []]) := rfl
 have a1 : eB (gCmp .Is) (eN (nArgs 1 zaP) (aCons (eN gLst (aNil)) (aNil))) (eC (.bl true)) (some (.ref 0) :: x :: js) S' = some (.bl true, S' ++ [.lst []]) := zaf (zao (zab y1 zae) (zag rfl c1)) zal rfl
 have a2 : eB (gCmp .Eq) (eN (nArgs 1 zav) (aCons (eN gLst (aNil)) (aNil))) (eC (.int 0)) (some (.ref 0) :: x :: js) (S' ++ [.lst []]) = some (.bl true, S' ++ [.lst []] ++ [.lst []]) := zaf (zao (zab y2 zae) (zag rfl c2)) zal rfl
 have lp : sFor (iRg1 (aCons (eN gMax' (aCons (eC (.int 1)) (aCons (eN gMin' (aCons (eC (.int 3)) (aCons (eN gLen (aCons (eVar 0) (aNil))) (aNil)))) (aNil)))) (aNil))) (gNm 1) za1 [some (.ref 0), none, none, none, none, none, none, none, none, none, none, none, none, none] S0 = some (.nx, some (.ref 0) :: x :: js, S') := zcD (zdd ar (by omega)) (by show some (rangeD 0 N.toNat).length = some N.toNat; rw [hlen]) e
 exact zac lp (zad (zac (za3 (zgH a1 (zcm rfl a2))) za2))
end MX.K21
end
section
set_option autoImplicit false
local macro_rules | `(tactic| wtm_at "sc") => `(tactic| exact ⟨rfl, rfl, rfl, by decide +kernel, by kernel_rfl, by decide +kernel, by decide +kernel⟩)
namespace MX.K21
open PySem PySem.Spec PySem.W PyProof.Rows L2 MX MX.P
abbrev F0 : List (Str × Nat × GN) := []
abbrev F1 : List (Str × Nat × GN) := ("dot", 2, zhK) :: F0
abbrev F2 : List (Str × Nat × GN) := ("cross", 2, zek) :: F1
abbrev F3 : List (Str × Nat × GN) := ("edges_of", 1, zdc) :: F2
abbrev F4 : List (Str × Nat × GN) := ("is_closed", 1, zaP) :: F3
abbrev F5 : List (Str × Nat × GN) := ("determinant", 1, za5) :: F4
abbrev F6 : List (Str × Nat × GN) := ("six_volume", 1, zav) :: F5
abbrev F7 : List (Str × Nat × GN) := ("_law_cell", 2, zcH) :: F6
abbrev F8 : List (Str × Nat × GN) := ("_law_drawn", 2, zcr) :: F7
abbrev F9 : List (Str × Nat × GN) := ("_law_whole", 1, zco) :: F8
abbrev F10 : List (Str × Nat × GN) := ("_law_spot", 1, zaI) :: F9
abbrev F11 : List (Str × Nat × GN) := ("_law_put", 2, zaD) :: F10
abbrev F12 : List (Str × Nat × GN) := ("_law_way", 2, zbY) :: F11
abbrev F13 : List (Str × Nat × GN) := ("_law_flat", 4, zaA) :: F12
abbrev F14 : List (Str × Nat × GN) := ("_law_det", 3, zbZ) :: F13
abbrev F15 : List (Str × Nat × GN) := ("_law_face", 3, zaJ) :: F14
abbrev F16 : List (Str × Nat × GN) := ("_law_skin", 2, zb4) :: F15
abbrev F17 : List (Str × Nat × GN) := ("_law_four", 1, zb5) :: F16
abbrev F18 : List (Str × Nat × GN) := ("_law_faces", 1, zcq) :: F17
abbrev F19 : List (Str × Nat × GN) := ("_law_closed", 1, zb7) :: F18
abbrev F20 : List (Str × Nat × GN) := ("_law_edited", 2, zb6) :: F19
abbrev F21 : List (Str × Nat × GN) := ("_law_moved", 2, zcp) :: F20
theorem call : WalkO seen [] (fun _ _ => True) (topHook defs blt).says PySem.Challenge.rw_firsthit_k21_closed_and_volume.row.toRowW lawRec [] fun f vs => PySem.call f vs := by
 refine zfS (k := 22) (x := "_law_script") rfl rfl ⟨rfl, by decide, by decide⟩ ?F
 case F =>
   intro w mg fa h K KX G hmg hD hB
   have H : ∀ i (h : i < defs.length), DefK K (defs[i]).1 (defs[i]).2 := fun i h => hD _ (List.getElem_mem h)
   have hb := zhV KX G hB
   have hs : ∀ base : Heap, FnsOk PG w K mg base 21 F21 := by
     intro base
     have h0 : FnsOk PG w K mg base 0 F0 := FnsOk.nil
     have h1 : FnsOk PG w K mg base 1 F1 := zar (x := "dot") (st := top 1) (ps := ["one", "other"]) (n := 2) (fb := zhW) (m := 40) h0 KX G hb (H 0 (by decide)) (bind2 fun _ _ _ _ _ _ _ _ => rfl) (by wtm_at "sc") (by decide +kernel) (by kernel_rfl) (by kernel_rfl)
     have h2 : FnsOk PG w K mg base 2 F2 := zar (x := "cross") (st := top 2) (ps := ["one", "other"]) (n := 2) (fb := zen) (m := 40) h1 KX G hb (H 1 (by decide)) (bind2 fun _ _ _ _ _ _ _ _ => rfl) (by wtm_at "sc") (by decide +kernel) (by kernel_rfl) (by kernel_rfl)
     have h3 : FnsOk PG w K mg base 3 F3 := zar (x := "edges_of") (st := top 4) (ps := ["triangle"]) (n := 1) (fb := zdg) (m := 40) h2 KX G hb (H 2 (by decide)) (bind1 fun _ _ _ _ _ _ _ => rfl) (by wtm_at "sc") (by decide +kernel) (by kernel_rfl) (by kernel_rfl)
     have h4 : FnsOk PG w K mg base 4 F4 := zar (x := "is_closed") (st := top 6) (ps := ["triangles"]) (n := 4) (fb := zcI) (m := 40) h3 KX G hb (H 3 (by decide)) (bind1 fun _ _ _ _ _ _ _ => rfl) (by wtm_at "sc") (by decide +kernel) (by kernel_rfl) (by kernel_rfl)
     have h5 : FnsOk PG w K mg base 5 F5 := zar (x := "determinant") (st := top 7) (ps := ["rows"]) (n := 1) (fb := zcd) (m := 40) h4 KX G hb (H 4 (by decide)) (bind1 fun _ _ _ _ _ _ _ => rfl) (by wtm_at "sc") (by decide +kernel) (by kernel_rfl) (by kernel_rfl)
     have h6 : FnsOk PG w K mg base 6 F6 := zar (x := "six_volume") (st := top 8) (ps := ["triangles"]) (n := 1) (fb := zcu) (m := 40) h5 KX G hb (H 5 (by decide)) (bind1 fun _ _ _ _ _ _ _ => rfl) (by wtm_at "sc") (by decide +kernel) (by kernel_rfl) (by kernel_rfl)
     have h7 : FnsOk PG w K mg base 7 F7 := zar (x := "_law_cell") (st := top 10) (ps := ["_law_script", "_law_k"]) (n := 2) (fb := zch) (m := 40) h6 KX G hb (H 6 (by decide)) (bind2 fun _ _ _ _ _ _ _ _ => rfl) (by wtm_at "sc") (by decide +kernel) (by kernel_rfl) (by kernel_rfl)
     have h8 : FnsOk PG w K mg base 8 F8 := zar (x := "_law_drawn") (st := top 11) (ps := ["_law_cell_here", "_law_k"]) (n := 3) (fb := zbC) (m := 40) h7 KX G hb (H 7 (by decide)) (bind2 fun _ _ _ _ _ _ _ _ => rfl) (by wtm_at "sc") (by decide +kernel) (by kernel_rfl) (by kernel_rfl)
     have h9 : FnsOk PG w K mg base 9 F9 := zar (x := "_law_whole") (st := top 12) (ps := ["_law_thing"]) (n := 1) (fb := zcv) (m := 40) h8 KX G hb (H 8 (by decide)) (bind1 fun _ _ _ _ _ _ _ => rfl) (by wtm_at "sc") (by decide +kernel) (by kernel_rfl) (by kernel_rfl)
     have h10 : FnsOk PG w K mg base 10 F10 := zar (x := "_law_spot") (st := top 13) (ps := ["_law_more"]) (n := 1) (fb := zcK) (m := 40) h9 KX G hb (H 9 (by decide)) (bind1 fun _ _ _ _ _ _ _ => rfl) (by wtm_at "sc") (by decide +kernel) (by kernel_rfl) (by kernel_rfl)
     have h11 : FnsOk PG w K mg base 11 F11 := zar (x := "_law_put") (st := top 14) (ps := ["_law_point", "_law_cell_here"]) (n := 3) (fb := za6) (m := 40) h10 KX G hb (H 10 (by decide)) (bind2 fun _ _ _ _ _ _ _ _ => rfl) (by wtm_at "sc") (by decide +kernel) (by kernel_rfl) (by kernel_rfl)
     have h12 : FnsOk PG w K mg base 12 F12 := zar (x := "_law_way") (st := top 15) (ps := ["_law_one", "_law_other"]) (n := 2) (fb := zdh) (m := 40) h11 KX G hb (H 11 (by decide)) (bind2 fun _ _ _ _ _ _ _ _ => rfl) (by wtm_at "sc") (by decide +kernel) (by kernel_rfl) (by kernel_rfl)
     have h13 : FnsOk PG w K mg base 13 F13 := zar (x := "_law_flat") (st := top 16) (ps := ["_law_one", "_law_other", "_law_i", "_law_j"]) (n := 4) (fb := zcN) (m := 40) h12 KX G hb (H 12 (by decide)) (bind4 fun _ _ _ _ _ _ _ _ _ _ => rfl) (by wtm_at "sc") (by decide +kernel) (by kernel_rfl) (by kernel_rfl)
     have h14 : FnsOk PG w K mg base 14 F14 := zar (x := "_law_det") (st := top 17) (ps := ["_law_one", "_law_other", "_law_third"]) (n := 5) (fb := zdi) (m := 40) h13 KX G hb (H 13 (by decide)) (bind3 fun _ _ _ _ _ _ _ _ _ => rfl) (by wtm_at "sc") (by decide +kernel) (by kernel_rfl) (by kernel_rfl)
     have h15 : FnsOk PG w K mg base 15 F15 := zar (x := "_law_face") (st := top 18) (ps := ["_law_box", "_law_k", "_law_side"]) (n := 9) (fb := zcO) (m := 40) h14 KX G hb (H 14 (by decide)) (bind3 fun _ _ _ _ _ _ _ _ _ => rfl) (by wtm_at "sc") (by decide +kernel) (by kernel_rfl) (by kernel_rfl)
     have h16 : FnsOk PG w K mg base 16 F16 := zar (x := "_law_skin") (st := top 19) (ps := ["_law_box", "_law_about"]) (n := 7) (fb := zcL) (m := 40) h15 KX G hb (H 15 (by decide)) (bind2 fun _ _ _ _ _ _ _ _ => rfl) (by wtm_at "sc") (by decide +kernel) (by kernel_rfl) (by kernel_rfl)
     have h17 : FnsOk PG w K mg base 17 F17 := zar (x := "_law_four") (st := top 20) (ps := ["_law_more"]) (n := 1) (fb := zcM) (m := 40) h16 KX G hb (H 16 (by decide)) (bind1 fun _ _ _ _ _ _ _ => rfl) (by wtm_at "sc") (by decide +kernel) (by kernel_rfl) (by kernel_rfl)
     have h18 : FnsOk PG w K mg base 18 F18 := zar (x := "_law_faces") (st := top 21) (ps := ["_law_four_here"]) (n := 5) (fb := zcx) (m := 40) h17 KX G hb (H 17 (by decide)) (bind1 fun _ _ _ _ _ _ _ => rfl) (by wtm_at "sc") (by decide +kernel) (by kernel_rfl) (by kernel_rfl)
     have h19 : FnsOk PG w K mg base 19 F19 := zar (x := "_law_closed") (st := top 22) (ps := ["_law_triangles"]) (n := 5) (fb := zcg) (m := 40) h18 KX G hb (H 18 (by decide)) (bind1 fun _ _ _ _ _ _ _ => rfl) (by wtm_at "sc") (by decide +kernel) (by kernel_rfl) (by kernel_rfl)
     have h20 : FnsOk PG w K mg base 20 F20 := zar (x := "_law_edited") (st := top 23) (ps := ["_law_triangles", "_law_more"]) (n := 7) (fb := zcf) (m := 40) h19 KX G hb (H 19 (by decide)) (bind2 fun _ _ _ _ _ _ _ _ => rfl) (by wtm_at "sc") (by decide +kernel) (by kernel_rfl) (by kernel_rfl)
     have h21 : FnsOk PG w K mg base 21 F21 := zar (x := "_law_moved") (st := top 24) (ps := ["_law_triangles", "_law_far"]) (n := 6) (fb := zcw) (m := 40) h20 KX G hb (H 20 (by decide)) (bind2 fun _ _ _ _ _ _ _ _ => rfl) (by wtm_at "sc") (by decide +kernel) (by kernel_rfl) (by kernel_rfl)
     exact h21
   exact zhC (m := 40) (n := 14) (fb := zc0) (fns := F21) KX G hb hmg (H 21 (by decide)) (show BindK "law" (top 25) ["_law_script"] from bind1 fun _ _ _ _ _ _ _ => rfl) (by wtm_at "sc") (by decide +kernel) (by kernel_rfl) (by kernel_rfl) (fun base _ _ => hs base) zhz
end MX.K21
theorem PySem.Challenge.cw_firsthit_k21_closed_and_volume_holds : PySem.Challenge.rw_firsthit_k21_closed_and_volume.Holds := by
 exact MX.zjh (H := MX.topHook MX.K21.defs MX.K21.blt) (q := MX.K21.seen) (d := MX.K21.lawRec) (by kernel_rfl) MX.K21.left (by kernel_rfl) (by kernel_rfl) (by kernel_rfl) (by kernel_rfl) ⟨rfl, rfl, rfl, rfl, rfl, by decide +kernel⟩ (by w_witness2) MX.K21.call
#print axioms PySem.Challenge.cw_firsthit_k21_closed_and_volume_holds
end
